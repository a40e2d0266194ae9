import PyProof.Rows.All
import Wide.All
import OpenK.AllK
import Wide.FinOn
import PyProof.EqAt
import PyProof.EqKinds
import PyProof.TupleCall
import KE.BitLaws
import Open.SpecLaws
import KE.OsHead
import KE.OsGo
import PySem.Challenge.RW_madecoins_s01_answers
section
set_option Elab.async false
set_option linter.all false
set_option maxRecDepth 100000

namespace L2
open PySem PySem.Spec PyProof.Rows


abbrev Key := Sum Int Str
def keyIs : Key → Value → Bool
  | .inl k, v => Value.isInt k v
  | .inr x, v => Value.isStrOf x v
def keyH (w : World) : Key → Int
  | .inl k => hashInt k
  | .inr x => hashStr w x
theorem keyIs_shape : ∀ {k : Key} {v : Value}, keyIs k v = true → (∃ i t, k = Sum.inl i ∧ v = Value.int i t) ∨ (∃ x t, k = Sum.inr x ∧ v = Value.str x t)
  | .inl i, v, h => by
    obtain ⟨t, e⟩ := Value.isInt_shape (k := i) (v := v) h
    exact .inl ⟨i, t, rfl, e⟩
  | .inr x, v, h => by
    obtain ⟨t, e⟩ := Value.isStrOf_shape (x := x) (v := v) h
    exact .inr ⟨x, t, rfl, e⟩
theorem key_ll (a b : Int) : decide ((Sum.inl a : Key) = Sum.inl b) = (a == b) := by
  by_cases e : a = b
  · subst e; simp
  · have h : ¬ (Sum.inl a : Key) = Sum.inl b := fun q => e (Sum.inl.inj q)
    rw [decide_eq_false h]
    exact (beq_eq_false_iff_ne.mpr e).symm
theorem key_rr (a b : Str) : decide ((Sum.inr a : Key) = Sum.inr b) = decide (a = b) := by
  by_cases e : a = b
  · subst e; simp
  · have h : ¬ (Sum.inr a : Key) = Sum.inr b := fun q => e (Sum.inr.inj q)
    rw [decide_eq_false h, decide_eq_false e]
theorem key_lr (a : Int) (b : Str) : decide ((Sum.inl a : Key) = Sum.inr b) = false := decide_eq_false (fun q => nomatch q)
theorem key_rl (a : Str) (b : Int) : decide ((Sum.inr a : Key) = Sum.inl b) = false := decide_eq_false (fun q => nomatch q)

def mixKind (prog : Program) (w : World) : PySem.KeyKind prog w Key where
  is := keyIs
  hash := keyH w
  inj := fun v a b ha hb => by
    rcases keyIs_shape ha with ⟨i, t, rfl, rfl⟩ | ⟨x, t, rfl, rfl⟩
    · rcases keyIs_shape hb with ⟨j, u, rfl, e⟩ | ⟨y, u, rfl, e⟩
      · injection e with e1 _; rw [e1]
      · exact nomatch e
    · rcases keyIs_shape hb with ⟨j, u, rfl, e⟩ | ⟨y, u, rfl, e⟩
      · exact nomatch e
      · injection e with e1 _; rw [e1]
  byValue := fun k v h => by
    rcases keyIs_shape h with ⟨i, t, rfl, rfl⟩ | ⟨x, t, rfl, rfl⟩ <;> rfl
  pyHash := fun hv h => by
    rcases keyIs_shape hv with ⟨i, t, rfl, rfl⟩ | ⟨x, t, rfl, rfl⟩
    · exact wpAny_pyHash_int h
    · exact wpAny_pyHash_str h
  eqBool := fun hu hv h => by
    rcases keyIs_shape hu with ⟨i, t, rfl, rfl⟩ | ⟨x, t, rfl, rfl⟩
    · rcases keyIs_shape hv with ⟨j, u, rfl, rfl⟩ | ⟨y, u, rfl, rfl⟩
      · rw [key_ll] at h; exact wpAny_eqBool_int h
      · rw [key_lr] at h; exact SeqAt.EqAt.int_str i t y u _ _ _ _ h
    · rcases keyIs_shape hv with ⟨j, u, rfl, rfl⟩ | ⟨y, u, rfl, rfl⟩
      · rw [key_rl] at h; exact SeqAt.EqAt.str_int x t j u _ _ _ _ h
      · rw [key_rr] at h; exact wpAny_eqBool_str h
  «strs» := fun k x t v h => by
    rcases keyIs_shape h with ⟨i, u, rfl, e⟩ | ⟨y, u, rfl, e⟩
    · exact nomatch e
    · injection e with e1 _
      subst e1
      cases v <;> rfl

end L2

namespace L2
open PySem PySem.Spec PyProof.Rows


inductive V where
  | non | bl (b : Bool) | int (i : Int) | str (x : Str) | byt (b : Array UInt8) | flt (b : UInt64) | ref (a : Addr) | ty (n : String)
  deriving DecidableEq

def RelV : V → Value → Prop
  | .non, u => u = Value.none
  | .bl b, u => u = Value.bool b
  | .int i, u => ∃ t, u = Value.int i t
  | .str x, u => ∃ t, u = Value.str x t
  | .byt b, u => ∃ t, u = Value.bytes b t
  | .flt b, u => ∃ t, u = Value.float b t
  | .ref a, u => u = Value.ref a
  | .ty n, u => u = Value.type n

abbrev Vals : List V → List Value → Prop := Paired RelV
theorem Vals.length {xs : List V} {us : List Value} (r : Vals xs us) : xs.length = us.length := Paired.length r
theorem Vals.get : ∀ {xs : List V} {us : List Value} {i : Nat} {x : V}, Vals xs us → xs[i]? = some x → ∃ u, us[i]? = some u ∧ RelV x u
  | _, _, _, _, .nil, e => by simp at e
  | _, _, 0, _, .cons r _, e => by simp at e; subst e; exact ⟨_, rfl, r⟩
  | _, _, i + 1, x, .cons _ t, e => by
    obtain ⟨u, h1, h2⟩ := Vals.get (i := i) (x := x) t (by simpa using e)
    exact ⟨u, by simpa using h1, h2⟩
theorem Vals.set {x : V} {u : Value} (r : RelV x u) : ∀ {xs : List V} {us : List Value} (i : Nat), Vals xs us → Vals (xs.set i x) (us.set i u)
  | _, _, _, .nil => .nil
  | _, _, 0, .cons _ t => .cons r t
  | _, _, i + 1, .cons q t => .cons q (Vals.set r i t)
theorem Vals.append : ∀ {xs ys : List V} {us ws : List Value}, Vals xs us → Vals ys ws → Vals (xs ++ ys) (us ++ ws)
  | _, _, _, _, .nil, s => s
  | _, _, _, _, .cons r t, s => .cons r (Vals.append t s)
theorem Vals.take : ∀ {xs : List V} {us : List Value} (n : Nat), Vals xs us → Vals (xs.take n) (us.take n)
  | _, _, 0, _ => .nil
  | _, _, _ + 1, .nil => .nil
  | _, _, n + 1, .cons r t => .cons r (Vals.take n t)
theorem Vals.drop : ∀ {xs : List V} {us : List Value} (n : Nat), Vals xs us → Vals (xs.drop n) (us.drop n)
  | _, _, 0, r => r
  | _, _, _ + 1, .nil => .nil
  | _, _, n + 1, .cons _ t => Vals.drop n t
def RelO : Option V → Option Value → Prop
  | some v, some u => RelV v u
  | none, none => True
  | _, _ => False
def KV {κ : Type} : List (κ × V) → List (κ × Value) → Prop := Paired fun (p : κ × V) (q : κ × Value) => p.1 = q.1 ∧ RelV p.2 q.2


def kV : Key → V
  | .inl i => .int i
  | .inr x => .str x


inductive HO where
  
  | lst (xs : List V)
  
  | tup (xs : List V)
  
  | dK (kvs : List (Key × V)) | dT (kvs : List (List Key × V))
  
  | set (S : Int → Bool) (n : Nat)
  
  | ins (C dx : Addr) (fs : List (Str × V))
  
  | own (x : Addr)
  
  | xd (fs : List (Str × V))
  
  | met (f x : Addr)
  
  | rng (lo hi : Int)
  
  | frz (o : Obj) (u : HO)
  
  | tbl (ps : Array Value)
  
  | ext (φ : Heap → Prop)

abbrev Hp := Addr → Option HO
def upd (H : Hp) (a : Addr) (o : HO) : Hp := fun b => if b = a then some o else H b
theorem upd_same {H : Hp} {a : Addr} {o : HO} : upd H a o a = some o := by unfold upd; rw [if_pos rfl]
theorem upd_ne {H : Hp} {a b : Addr} {o : HO} (h : b ≠ a) : upd H a o b = H b := by unfold upd; rw [if_neg h]
theorem upd_upd {H : Hp} {a : Addr} {o u : HO} : upd (upd H a o) a u = upd H a u := by
  funext b; unfold upd; split <;> rfl

theorem ne_of {H : Hp} {a b : Addr} {o u : HO} (h : H a = some o) (h' : H b = some u) (d : o ≠ u) : a ≠ b := by
  intro e; subst e; rw [h] at h'; exact d (Option.some.inj h')
theorem ne_of_none {H : Hp} {a b : Addr} {o : HO} (h : H a = some o) (h' : H b = none) : a ≠ b := by
  intro e; subst e; rw [h] at h'; cases h'

section
variable (P : Program) (w : World)
def ObjOk (H : Hp) (h : Heap) (a : Addr) : HO → Prop
  | .lst xs => xs.length ≤ sizeLine ∧ ∃ (its : List Value) (n : Nat), Vals xs its ∧ h.get? a = some { cls := .type "list", data := .seq its.toArray n }
  | .tup xs => xs.length ≤ sizeLine ∧ ∃ its : List Value, Vals xs its ∧ IsTup h a its.toArray
  | .dK kvs => kvs.length ≤ sizeLine ∧ (a == sysModules) = false ∧ ∃ vs, KV kvs vs ∧ h.DictOf (mixKind P w) a vs
  | .dT kvs => kvs.length ≤ sizeLine ∧ (a == sysModules) = false ∧ ∃ xs : List (List Key × Addr × Value),
      Paired (fun (p : List Key × V) (q : List Key × Addr × Value) => p.1 = q.1 ∧ H q.2.1 = some (.tup (p.1.map kV)) ∧ RelV p.2 q.2.2) kvs xs ∧
      ∃ o es ep, h.get? a = some o ∧ o.ExactDict ∧ o.data = .dict es ep ∧ es.toList = xs.map (entryOfKey (tupleKind (mixKind P w))) ∧ (xs.map (·.1)).Nodup
  | .set S n => h.SetOf (intKind P w) a S n
  | .ins C dx fs => H dx = some (.own a) ∧ fs.length ≤ 1000 ∧ dx ≠ a ∧ h.get? a = some (PySem.W.instObj C dx) ∧
      ∃ mA, h.Ns1 dx mA ∧ (∀ f, RelO (fs.lookup f) (mA f)) ∧ PySem.Within mA (fs.map (·.1))
  | .own _ => ∃ o, h.get? a = some o
  | .xd fs => ∃ mA, h.Ns1 a mA ∧ ∀ f, RelO (fs.lookup f) (mA f)
  | .rng lo hi => ∃ t u v, h.get? a = some { cls := .type "range", data := .fields #[.int lo t, .int hi u, .int 1 v] }
  | .frz o u => h.get? a = some o ∧ ObjOk H h a u
  | .tbl ps => h.get? a = some { cls := .none, data := .fields ps }
  | .met f x => h.get? a = some (PySem.W.methodObj (.ref f) (.ref x))
  | .ext φ => φ h ∧ (∃ o, h.get? a = some o) ∧ ∀ h1 h2 : Heap, φ h1 → (∀ o, h1.get? a = some o → h2.get? a = some o) → φ h2

def HOk (H : Hp) (h : Heap) : Prop := ∀ a o, H a = some o → ObjOk P w H h a o
end

section
variable {P : Program} {w : World} {H H' : Hp} {h h' : Heap} {a : Addr} {o : HO}
theorem ObjOk.lt (x : ObjOk P w H h a o) : a < h.objs.size := by
  cases o with
  | lst xs => obtain ⟨_, _, _, _, e⟩ := x; exact Heap.lt_size e
  | tup xs => obtain ⟨_, _, _, p⟩ := x; exact p.lt
  | dK kvs => obtain ⟨_, _, _, _, o, _, _, e, _⟩ := x; exact Heap.lt_size e
  | dT kvs => obtain ⟨_, _, _, _, o, _, _, e, _⟩ := x; exact Heap.lt_size e
  | set S n => obtain ⟨o, _, _, _, e, _⟩ := x; exact Heap.lt_size e
  | ins C dx fs => obtain ⟨_, _, _, e, _⟩ := x; exact Heap.lt_size e
  | own y => obtain ⟨_, e⟩ := x; exact Heap.lt_size e
  | xd fs => obtain ⟨_, ⟨_, _, _, e, _⟩, _⟩ := x; exact Heap.lt_size e
  | rng lo hi => obtain ⟨_, _, _, e⟩ := x; exact Heap.lt_size e
  | frz ob u => obtain ⟨e, _⟩ := x; exact Heap.lt_size e
  | tbl ps => exact Heap.lt_size (show h.get? a = some _ from x)
  | met f y => exact Heap.lt_size (show h.get? a = some _ from x)
  | ext φ => obtain ⟨_, ⟨_, e⟩, _⟩ := x; exact Heap.lt_size e
theorem Paired.mapP {α β : Type} {F G : α → β → Prop} : ∀ {l₁ : List α} {l₂ : List β}, Paired F l₁ l₂ → (∀ a b, F a b → G a b) → Paired G l₁ l₂
  | _, _, .nil, _ => .nil
  | _, _, .cons r t, f => .cons (f _ _ r) (Paired.mapP t f)
theorem ObjOk.stay (x : ObjOk P w H h a o) (k : ∀ b u, (b = a ∨ H b = some (.own a)) → h.get? b = some u → h'.get? b = some u)
    (ho : ∀ b, H b = some (.own a) → H' b = some (.own a)) (ht : ∀ b xs, H b = some (.tup xs) → H' b = some (.tup xs)) : ObjOk P w H' h' a o := by
  induction o with
  | lst xs => obtain ⟨z, its, n, r, e⟩ := x; exact ⟨z, its, n, r, k _ _ (.inl rfl) e⟩
  | tup xs => obtain ⟨z, its, r, ob, e, c⟩ := x; exact ⟨z, its, r, ob, k _ _ (.inl rfl) e, c⟩
  | dK kvs => obtain ⟨z, y, vs, r, ob, es, ep, e, c⟩ := x; exact ⟨z, y, vs, r, ob, es, ep, k _ _ (.inl rfl) e, c⟩
  | dT kvs =>
    obtain ⟨z, y, xs, r, ob, es, ep, e, c⟩ := x
    exact ⟨z, y, xs, Paired.mapP r fun p q z => ⟨z.1, ht _ _ z.2.1, z.2.2⟩, ob, es, ep, k _ _ (.inl rfl) e, c⟩
  | set S n => obtain ⟨ob, es, ep, t, e, c⟩ := x; exact ⟨ob, es, ep, t, k _ _ (.inl rfl) e, c⟩
  | ins C dx fs =>
    obtain ⟨d, z, ne, e, mA, ⟨od, es, ep, e2, c⟩, r⟩ := x
    exact ⟨ho _ d, z, ne, k _ _ (.inl rfl) e, mA, ⟨od, es, ep, k _ _ (.inr d) e2, c⟩, r⟩
  | own y => obtain ⟨ob, e⟩ := x; exact ⟨ob, k _ _ (.inl rfl) e⟩
  | xd fs => obtain ⟨mA, ⟨od, es, ep, e, c⟩, r⟩ := x; exact ⟨mA, ⟨od, es, ep, k _ _ (.inl rfl) e, c⟩, r⟩
  | rng lo hi => obtain ⟨t, u, v, e⟩ := x; exact ⟨t, u, v, k _ _ (.inl rfl) e⟩
  | frz ob u ih => obtain ⟨e, q⟩ := x; exact ⟨k _ _ (.inl rfl) e, ih q⟩
  | tbl ps =>
    have e : h.get? a = some { cls := .none, data := .fields ps } := x
    show h'.get? a = some { cls := .none, data := .fields ps }
    exact k a _ (.inl rfl) e
  | met f y =>
    have e : h.get? a = some (PySem.W.methodObj (.ref f) (.ref y)) := x
    show h'.get? a = some (PySem.W.methodObj (.ref f) (.ref y))
    exact k a _ (.inl rfl) e
  | ext φ => obtain ⟨p, ⟨o, e⟩, st⟩ := x; exact ⟨st _ _ p fun o q => k _ _ (.inl rfl) q, ⟨o, k _ _ (.inl rfl) e⟩, st⟩
theorem HOk.lt (x : HOk P w H h) (e : H a = some o) : a < h.objs.size := (x a o e).lt
theorem HOk.fresh (x : HOk P w H h) (e : h.objs.size ≤ a) : H a = none := by
  cases q : H a with
  | none => rfl
  | some u => exact absurd (Nat.lt_of_lt_of_le (x.lt q) e) (Nat.lt_irrefl _)

theorem HOk.kept (x : HOk P w H h) (k : ∀ b u, h.get? b = some u → h'.get? b = some u) : HOk P w H h' := fun a o e =>
  (x a o e).stay (fun b u _ q => k b u q) (fun _ q => q) fun _ _ q => q

theorem HOk.laid (x : HOk P w H h) (k : ∀ b u, h.get? b = some u → h'.get? b = some u) (hp : h.objs.size ≤ a) (new : ObjOk P w (upd H a o) h' a o) : HOk P w (upd H a o) h' := fun b u e => by
  have hn := x.fresh hp
  by_cases hb : b = a
  · subst hb; rw [upd_same] at e; cases e; exact new
  · rw [upd_ne hb] at e
    exact (x b u e).stay (fun c v _ q => k c v q) (fun c q => by rw [upd_ne (ne_of_none q hn)]; exact q) fun c xs q => by rw [upd_ne (ne_of_none q hn)]; exact q
end


def Rd (H : Hp) (a : Addr) (u : HO) : Prop := H a = some u ∨ ∃ o, H a = some (.frz o u)
theorem Rd.ok {P : Program} {w : World} {H : Hp} {h : Heap} {a : Addr} {u : HO} (r : Rd H a u) (x : HOk P w H h) : ObjOk P w H h a u := by
  rcases r with r | ⟨o, r⟩
  · exact x a u r
  · obtain ⟨_, q⟩ := x a _ r
    exact q

def Mut : Option HO → Prop
  | some (.lst _) => True
  | some (.dK _) => True
  | some (.dT _) => True
  | some (.set _ _) => True
  | some (.ins _ _ _) => True
  | some (.ext _) => True
  | _ => False
section
variable {P : Program} {w : World} {H : Hp} {h h' : Heap} {x e : Addr} {o' : HO}

theorem HOk.write (ok : HOk P w H h) (mu : Mut (H x)) (he : e = x ∨ H e = some (.own x)) (k : ∀ b u, b ≠ e → h.get? b = some u → h'.get? b = some u) (heo : ∃ u, h'.get? e = some u)
    (new : ObjOk P w (upd H x o') h' x o') : HOk P w (upd H x o') h' := fun b u q => by
  have nown : ∀ c y, H c = some (.own y) → c ≠ x := fun c y r z => by subst z; rw [r] at mu; exact mu
  have ntup : ∀ c xs, H c = some (.tup xs) → c ≠ x := fun c xs r z => by subst z; rw [r] at mu; exact mu
  by_cases hb : b = x
  · subst hb; rw [upd_same] at q; cases q; exact new
  · rw [upd_ne hb] at q
    by_cases hbe : b = e
    · have q' : H b = some (.own x) := by
        rcases he with z | z
        · exact absurd (hbe.trans z) hb
        · rw [hbe]; exact z
      rw [q] at q'; cases q'
      obtain ⟨v, hv⟩ := heo
      exact ⟨v, by rw [hbe]; exact hv⟩
    · refine (ok b u q).stay (fun c v hc r => k c v ?_ r) (fun c r => by rw [upd_ne (nown c b r)]; exact r) fun c xs r => by rw [upd_ne (ntup c xs r)]; exact r
      rcases hc with rfl | hc
      · exact hbe
      · rintro rfl
        rcases he with z | z
        · exact nown c b hc z
        · rw [hc] at z; cases z; exact hb rfl
end


structure Un (fs ex : List Addr) (H H' : Hp) (h h' : Heap) : Prop where
  keep : ∀ b o, h.get? b = some o → H b = none → b ∉ fs → b ∉ ex → h'.get? b = some o
  slot : ∀ b o, h.get? b = some o → H b = none → b ∈ fs → b ∉ ex → ∃ sl, h'.get? b = some { o with slots := sl }
  free : ∀ b o, h.get? b = some o → H b = none → b ∉ ex → H' b = none
  there : ∀ b o, h.get? b = some o → b ∉ ex → ∃ o', h'.get? b = some o'
  tups : ∀ b xs, H b = some (.tup xs) → H' b = some (.tup xs)
  frzs : ∀ b o u, H b = some (.frz o u) → H' b = some (.frz o u)
  tbls : ∀ b ps, H b = some (.tbl ps) → ∃ more, H' b = some (.tbl (ps ++ more))
section
variable {fs fs' ex ex' : List Addr} {H H1 H2 : Hp} {h h1 h2 h' : Heap} {a x e : Addr} {o : HO}
theorem Un.any (u : Un fs ex H H1 h h1) {b : Addr} {ob : Obj} (q : h.get? b = some ob) (n : H b = none) (hx : b ∉ ex) : ∃ sl, h1.get? b = some { ob with slots := sl } := by
  by_cases hb : b ∈ fs
  · exact u.slot b ob q n hb hx
  · exact ⟨ob.slots, u.keep b ob q n hb hx⟩
theorem Un.kept (k : ∀ b u, h.get? b = some u → h'.get? b = some u) : Un fs ex H H h h' :=
  ⟨fun b ob q _ _ _ => k b ob q, fun b ob q _ _ _ => ⟨ob.slots, k b ob q⟩, fun _ _ _ n _ => n, fun b ob q _ => ⟨ob, k b ob q⟩, fun _ _ q => q, fun _ _ _ q => q, fun _ ps q => ⟨#[], by rw [q]; simp⟩⟩
theorem Un.refl : Un fs ex H H h h := Un.kept fun _ _ q => q
theorem Un.laid (k : ∀ b u, h.get? b = some u → h'.get? b = some u) (hp : h.objs.size ≤ a) (hn : H a = none) : Un fs ex H (upd H a o) h h' where
  keep := fun b u q _ _ _ => k b u q
  slot := fun b u q _ _ _ => ⟨u.slots, k b u q⟩
  free := fun b u q n _ => by rw [upd_ne (Nat.ne_of_lt (Nat.lt_of_lt_of_le (Heap.lt_size q) hp))]; exact n
  there := fun b u q _ => ⟨u, k b u q⟩
  tups := fun b xs q => by rw [upd_ne (ne_of_none q hn)]; exact q
  frzs := fun b u xs q => by rw [upd_ne (ne_of_none q hn)]; exact q
  tbls := fun b ps q => ⟨#[], by rw [upd_ne (ne_of_none q hn), q]; simp⟩
theorem Un.write (mu : Mut (H x)) (he : e = x ∨ H e = some (.own x)) (k : ∀ b u, b ≠ e → h.get? b = some u → h'.get? b = some u) (heo : ∃ u, h'.get? e = some u) : Un fs ex H (upd H x o) h h' := by
  have hx : ∀ b, H b = none → b ≠ x := fun b n z => by subst z; rw [n] at mu; exact mu
  have hb : ∀ b, H b = none → b ≠ e := fun b n z => by
    subst z
    rcases he with r | r
    · exact hx b n r
    · rw [n] at r; cases r
  have hm : ∀ b u, H b = some u → ¬ Mut (some u) → b ≠ x := fun b u q nm z => by subst z; rw [q] at mu; exact nm mu
  refine ⟨fun b u q n _ _ => k b u (hb b n) q, fun b u q n _ _ => ⟨u.slots, k b u (hb b n) q⟩, fun b u q n _ => by rw [upd_ne (hx b n)]; exact n, fun b u q _ => ?_,
    fun b xs q => by rw [upd_ne (hm b _ q fun z => z)]; exact q, fun b u xs q => by rw [upd_ne (hm b _ q fun z => z)]; exact q, fun b ps q => ⟨#[], by rw [upd_ne (hm b _ q fun z => z), q]; simp⟩⟩
  by_cases hbe : b = e
  · subst hbe; exact heo
  · exact ⟨u, k b u hbe q⟩
end


def trk (h : Heap) (H : Hp) : List Addr := (List.range h.objs.size).filter fun a => (H a).isSome
def hidT (h : Heap) (H : Hp) : Heap := PySem.W.hideAll h (trk h H)
theorem hidT_size (h : Heap) (H : Hp) : (hidT h H).objs.size = h.objs.size := PySem.W.hideAll_size _ _
theorem hidT_get {h : Heap} {H : Hp} {b : Addr} {o : Obj} (e : h.get? b = some o) (n : H b = none) : (hidT h H).get? b = some o :=
  PySem.W.hideAll_get _ e fun hm => by
    have q : (H b).isSome = true := (List.mem_filter.mp hm).2
    rw [n] at q; simp at q
theorem of_hidT {h : Heap} {H : Hp} {b : Addr} {o : Obj} (e : (hidT h H).get? b = some o) : h.get? b = some o ∧ H b = none := by
  have e' : h.get? b = some o := PySem.W.of_hideAll (trk h H) e
  refine ⟨e', ?_⟩
  cases q : H b with
  | none => rfl
  | some x =>
    have hm : b ∈ trk h H := List.mem_filter.mpr ⟨List.mem_range.mpr (Heap.lt_size e'), by simp [q]⟩
    have z : (hidT h H).get? b = none := PySem.W.hideAll_none (trk h H) hm
    rw [z] at e; cases e


def allNews (g h : Heap) (L : Addr) : List (Addr × Obj) := (List.range h.objs.size).filterMap fun a => if a = L ∨ (g.get? a).isSome = true then none else (h.get? a).map fun o => (a, o)
def rest (g h : Heap) (L d : Addr) : List (Addr × Obj) := (allNews g h L).filter fun p => decide (p.1 ≠ d)
end L2

namespace L2
open PySem PySem.Spec PyProof.Rows


structure Mod (K : PySem.W.Frag) (mg : Str → Option Value) (base : Heap) : Prop where
  kin : K.In base
  glob : base.Ns mainGlobals mg
  blt : ∃ mb, base.Ns builtinsNs mb ∧ ∀ x : Str, x ≠ "__name__" → mb x = bootBuiltins x
  nolimit : base.NoLimit


structure Cx where
  prog : Program
  w : World
  K : PySem.W.Frag
  mg : Str → Option Value
  base : Heap
  A : Around
  N : List Str
  s_0 : Shared
  H_0 : Hp
  env : Env
  outer : List Env
  stack : List Env
  ex : List Addr
  fn : Str → Bool
  calm : Bool
  pn : List (Addr × Obj)
  xe : Value → Shared → Prop

def frs (l : List Env) : List Addr := l.filterMap (·.frame)
abbrev Cx.fs (X : Cx) : List Addr := frs X.outer

def Vis (sc : Scope) (x : Str) : Prop := sc.names.lookup x = some .local ∨ sc.names.lookup x = some .cell ∨ sc.names.lookup x = some .free
def Loc (sc : Scope) (x : Str) : Prop := sc.names.lookup x = some .local ∨ sc.names.lookup x = some .cell
def Look (env : Env) (h : Heap) (m : Str → Option Value) (x : Str) (u : Value) : Prop :=
  (env.kindOf x = some .local ∧ m x = some u) ∨ ((env.kindOf x = some .cell ∨ env.kindOf x = some .free) ∧ ∃ c, env.cells.lookup x = some c ∧ h.IsCell c (some u))

structure Cx.Ok (X : Cx) : Prop where
  mod : Mod X.K X.mg X.base
  kind : X.env.scope.kind = .function
  glob : X.env.globals = mainGlobals
  blt : X.env.builtins = builtinsNs
  above : X.s_0.heap.objs.size ≤ X.env.locals
  inj : ∀ x y c, X.env.cells.lookup x = some c → X.env.cells.lookup y = some c → x = y
  has : ∀ x, (X.env.kindOf x = some .cell ∨ X.env.kindOf x = some .free) → ∃ c, X.env.cells.lookup x = some c
  cab : ∀ x c, X.fn x = true → X.env.cells.lookup x = some c → X.s_0.heap.objs.size ≤ c
  hd : X.calm = true → X.A.handled = none
  frames : X.A.frames = some X.stack
  stk : X.stack = X.outer ∨ (X.stack = X.env :: X.outer ∧ X.env.frame = some X.env.locals)
  exf : ∀ b ∈ X.ex, b ≠ X.env.locals ∧ ∀ x c, X.env.cells.lookup x = some c → c ≠ b
  bs : ∀ b o, X.base.get? b = some o → X.s_0.heap.get? b = some o ∧ X.H_0 b = none
  bsz : X.base.objs.size ≤ X.s_0.heap.objs.size
  noex : ∀ b o, X.base.get? b = some o → b ∉ X.ex
  exfs : ∀ b ∈ X.ex, b ∉ X.fs
  funs : X.s_0.heap.FunFrames X.base X.outer
  frf : ∀ b ∈ X.fs, X.H_0 b = none

structure Inv (X : Cx) (pins : List (Addr × Obj)) (σ : List (Option V)) (H : Hp) (s : Shared) : Prop where
  ok : X.Ok
  os : s.os = X.s_0.os
  bare : AllBare s.gens
  base : Un X.fs X.ex X.H_0 H X.s_0.heap s.heap
  loc : ∃ m, s.heap.Ns X.env.locals m ∧ ∀ (i : Nat) (x : Str) (v : V), X.N[i]? = some x → σ[i]? = some (some v) → Vis X.env.scope x → ∃ u, RelV v u ∧ Look X.env s.heap m x u
  cell : ∀ x c, X.env.cells.lookup x = some c → ∃ v, s.heap.IsCell c v
  free : H X.env.locals = none
  freeC : ∀ x c, X.env.cells.lookup x = some c → H c = none
  pin : ∀ p ∈ X.pn ++ pins, s.heap.get? p.1 = some p.2 ∧ H p.1 = none ∧ p.1 ≠ X.env.locals ∧ p.1 ∉ X.fs ∧ ∀ v, p.2.data ≠ .cell v
  hok : HOk X.prog X.w H s.heap
  len : σ.length = X.N.length

section
variable {X : Cx} {pins : List (Addr × Obj)} {σ : List (Option V)} {H H' : Hp} {s : Shared} {h' : Heap}

theorem Cx.Ok.nofr (ok : X.Ok) {b : Addr} {o : Obj} (e : X.base.get? b = some o) : b ∉ X.fs := fun hb => by
  have := (ok.funs.mem hb).1
  rw [e] at this; cases this
theorem Inv.bs (I : Inv X pins σ H s) : ∀ b o, X.base.get? b = some o → s.heap.get? b = some o ∧ H b = none := fun b o e =>
  ⟨I.base.keep b o (I.ok.bs b o e).1 (I.ok.bs b o e).2 (I.ok.nofr e) (I.ok.noex b o e), I.base.free b o (I.ok.bs b o e).1 (I.ok.bs b o e).2 (I.ok.noex b o e)⟩
theorem Inv.bk (I : Inv X pins σ H s) : ∀ b o, X.base.get? b = some o → s.heap.get? b = some o := fun b o e => (I.bs b o e).1
theorem Inv.mod (I : Inv X pins σ H s) : Mod X.K X.mg X.base := I.ok.mod
theorem Inv.kIn (I : Inv X pins σ H s) : X.K.In s.heap := I.ok.mod.kin.keeps I.bk
theorem Inv.fr (I : Inv X pins σ H s) : ∃ m, Fr X.base X.env.locals s.heap m :=
  let ⟨m, hn, _⟩ := I.loc
  ⟨m, hn, I.bk, Nat.le_trans I.ok.bsz I.ok.above⟩
theorem Inv.lt (I : Inv X pins σ H s) : X.env.locals < s.heap.objs.size := let ⟨_, hn, _⟩ := I.loc; hn.lt
theorem Inv.sz (I : Inv X pins σ H s) : X.s_0.heap.objs.size ≤ s.heap.objs.size := Nat.le_trans I.ok.above (Nat.le_of_lt I.lt)
theorem Inv.nofs (I : Inv X pins σ H s) {a : Addr} (h : s.heap.objs.size ≤ a) : a ∉ X.fs := fun hb => by
  obtain ⟨_, o, ho, _⟩ := I.ok.funs.mem hb
  exact absurd (Nat.lt_of_lt_of_le (Heap.lt_size ho) (Nat.le_trans I.sz h)) (Nat.lt_irrefl _)
theorem Inv.cne (I : Inv X pins σ H s) : ∀ x c, X.env.cells.lookup x = some c → c ≠ X.env.locals := fun x c e z => by
  obtain ⟨v, o, ho, hd⟩ := I.cell x c e
  obtain ⟨m, ⟨o', es, ep, ho', hd', _⟩, _⟩ := I.loc
  rw [z, ho'] at ho; cases ho; rw [hd'] at hd; cases hd
theorem Inv.funs (I : Inv X pins σ H s) : s.heap.FunFrames X.base X.outer := by
  have all : ∀ (l : List Env), (∀ b ∈ frs l, b ∈ X.fs) → X.s_0.heap.FunFrames X.base l → s.heap.FunFrames X.base l := by
    intro l
    induction l with
    | nil => intro _ _; trivial
    | cons env r ih =>
      intro hs hl
      obtain ⟨hk, ⟨L, o, hf, hn, ho, hd⟩, hr⟩ := hl
      have hL : L ∈ X.fs := hs L (by unfold frs; rw [List.filterMap_cons, hf]; exact List.mem_cons_self)
      obtain ⟨sl, e⟩ := I.base.slot L o ho (I.ok.frf L hL) hL fun z => I.ok.exfs L z hL
      exact ⟨hk, ⟨L, _, hf, hn, e, hd⟩, ih (fun b hb => hs b (by unfold frs; rw [List.filterMap_cons, hf]; exact List.mem_cons_of_mem _ hb)) hr⟩
  exact all X.outer (fun _ hb => hb) I.ok.funs


theorem Inv.stack (I : Inv X pins σ H s) : s.heap.FunFrames X.base X.stack := by
  rcases I.ok.stk with e | ⟨e, hf⟩
  · rw [e]; exact I.funs
  · rw [e]
    obtain ⟨m, hn, _⟩ := I.loc
    refine .cons (by rw [I.ok.kind]; decide) hf hn ?_ I.funs
    exact Heap.get?_none_of_le (Nat.le_trans I.ok.bsz I.ok.above)
theorem Inv.stkSub (I : Inv X pins σ H s) : ∀ b ∈ frs X.stack, b ∈ X.env.locals :: X.fs := fun b hb => by
  rcases I.ok.stk with e | ⟨e, hf⟩
  · rw [e] at hb; exact List.mem_cons_of_mem _ hb
  · rw [e] at hb
    unfold frs at hb
    rw [List.filterMap_cons, hf] at hb
    exact hb
theorem Inv.stkFree (I : Inv X pins σ H s) : ∀ b ∈ frs X.stack, H b = none := fun b hb => by
  rcases List.mem_cons.mp (I.stkSub b hb) with e | hb
  · rw [e]; exact I.free
  · obtain ⟨_, o, ho, _⟩ := I.ok.funs.mem hb
    exact I.base.free b o ho (I.ok.frf b hb) fun z => I.ok.exfs b z hb


theorem Inv.step {g' : Array GenState} {t' : Nat} {d' : Drawn} {ch : List Addr} (I : Inv X pins σ H s)
    (hch : ∀ b ∈ ch, (b ∈ X.ex ∨ X.s_0.heap.objs.size ≤ b) ∧ b ≠ X.env.locals ∧ (∀ x c, X.env.cells.lookup x = some c → c ≠ b) ∧ ∀ p ∈ X.pn ++ pins, p.1 ≠ b)
    (keep : ∀ b o, b ≠ X.env.locals → b ∉ X.fs → b ∉ ch → s.heap.get? b = some o → H b = none → h'.get? b = some o)
    (slot : ∀ b o, b ≠ X.env.locals → b ∈ X.fs → b ∉ ch → s.heap.get? b = some o → H b = none → ∃ sl, h'.get? b = some { o with slots := sl }) (free : ∀ b o, b ∉ ch → s.heap.get? b = some o → H b = none → H' b = none)
    (there : ∀ b o, b ∉ ch → s.heap.get? b = some o → ∃ o', h'.get? b = some o')
    (tups : ∀ b xs, H b = some (.tup xs) → H' b = some (.tup xs)) (frzs : ∀ b o u, H b = some (.frz o u) → H' b = some (.frz o u)) (tbls : ∀ b ps, H b = some (.tbl ps) → ∃ more, H' b = some (.tbl (ps ++ more)))
    (ns : ∀ m, s.heap.Ns X.env.locals m → h'.Ns X.env.locals m) (hok : HOk X.prog X.w H' h') (hg : AllBare g') :
    Inv X pins σ H' { s with heap := h', gens := g', drawn := d', toks := t' } := by
  have neL : ∀ b o, X.s_0.heap.get? b = some o → b ≠ X.env.locals := fun b o e => Nat.ne_of_lt (Nat.lt_of_lt_of_le (Heap.lt_size e) I.ok.above)
  have neC : ∀ b o, X.s_0.heap.get? b = some o → b ∉ X.ex → b ∉ ch := fun b o e hx hb => by
    rcases (hch b hb).1 with z | z
    · exact hx z
    · exact absurd (Nat.lt_of_lt_of_le (Heap.lt_size e) z) (Nat.lt_irrefl _)
  have cellK : ∀ x c, X.env.cells.lookup x = some c → ∀ v, s.heap.IsCell c v → h'.IsCell c v := fun x c e v ⟨o, ho, hd⟩ => by
    have nch : c ∉ ch := fun z => (hch c z).2.2.1 x c e rfl
    by_cases hc : c ∈ X.fs
    · obtain ⟨sl, q⟩ := slot c o (I.cne x c e) hc nch ho (I.freeC x c e)
      exact ⟨_, q, hd⟩
    · exact ⟨o, keep c o (I.cne x c e) hc nch ho (I.freeC x c e), hd⟩
  refine ⟨I.ok, I.os, hg, ⟨fun b o e n hb hx => ?_, fun b o e n hb hx => ?_, fun b o e n hx => ?_, fun b o e hx => ?_, fun b xs e => tups b xs (I.base.tups b xs e), fun b o xs e => frzs b o xs (I.base.frzs b o xs e), fun b ps e => ?_⟩, ?_, fun x c e => ?_, ?_, fun x c e => ?_, fun p hp => ?_, hok, I.len⟩
  · exact keep b o (neL b o e) hb (neC b o e hx) (I.base.keep b o e n hb hx) (I.base.free b o e n hx)
  · obtain ⟨sl, e1⟩ := I.base.slot b o e n hb hx
    obtain ⟨sl', e2⟩ := slot b _ (neL b o e) hb (neC b o e hx) e1 (I.base.free b o e n hx)
    exact ⟨sl', e2⟩
  · obtain ⟨o', e1⟩ := I.base.there b o e hx
    exact free b o' (neC b o e hx) e1 (I.base.free b o e n hx)
  · obtain ⟨o', e1⟩ := I.base.there b o e hx
    exact there b o' (neC b o e hx) e1
  · obtain ⟨m1, e1⟩ := I.base.tbls b ps e
    obtain ⟨m2, e2⟩ := tbls b _ e1
    exact ⟨m1 ++ m2, by rw [e2, Array.append_assoc]⟩
  · obtain ⟨m, hn, hl⟩ := I.loc
    refine ⟨m, ns m hn, fun i x v e1 e2 e3 => ?_⟩
    obtain ⟨u, r, l⟩ := hl i x v e1 e2 e3
    refine ⟨u, r, ?_⟩
    rcases l with l | ⟨k, c, e, z⟩
    · exact .inl l
    · exact .inr ⟨k, c, e, cellK x c e _ z⟩
  · obtain ⟨v, z⟩ := I.cell x c e
    exact ⟨v, cellK x c e v z⟩
  · obtain ⟨m, ⟨o, _, _, ho, _⟩, _⟩ := I.loc
    exact free _ o (fun z => (hch _ z).2.1 rfl) ho I.free
  · obtain ⟨v, o, ho, hd⟩ := I.cell x c e
    exact free c o (fun z => (hch c z).2.2.1 x c e rfl) ho (I.freeC x c e)
  · obtain ⟨e, n, ne, nf, d⟩ := I.pin p hp
    have nch : p.1 ∉ ch := fun z => (hch p.1 z).2.2.2 p hp rfl
    exact ⟨keep p.1 p.2 ne nf nch e n, free p.1 p.2 nch e n, ne, nf, d⟩

theorem Inv.un {t' : Nat} (I : Inv X pins σ H s) (u : Un X.fs [] H H' s.heap h') (hok : HOk X.prog X.w H' h') : Inv X pins σ H' { s with heap := h', toks := t' } := by
  obtain ⟨m, ⟨o, es, ep, ho, r⟩, _⟩ := id I.loc
  obtain ⟨sl, hL⟩ := u.any ho I.free (by simp)
  exact I.step (g' := s.gens) (d' := s.drawn) (ch := []) (fun _ z => nomatch z) (fun b o _ hb _ e n => u.keep b o e n hb (by simp)) (fun b o _ hb _ e n => u.slot b o e n hb (by simp)) (fun b o _ e n => u.free b o e n (by simp)) (fun b o _ e => u.there b o e (by simp)) u.tups u.frzs u.tbls (fun m' hm => by
    obtain ⟨o', es', ep', ho', r'⟩ := hm
    rw [ho] at ho'; cases ho'
    exact ⟨_, es', ep', hL, r'⟩) hok I.bare

theorem Inv.call {g' : Array GenState} {t' : Nat} {d' : Drawn} {ch : List Addr} (I : Inv X pins σ H s) (u : Un (frs X.stack) ch H H' s.heap h') (hok : HOk X.prog X.w H' h') (hg : AllBare g')
    (hch : ∀ b ∈ ch, (b ∈ X.ex ∨ X.s_0.heap.objs.size ≤ b) ∧ b ≠ X.env.locals ∧ (∀ x c, X.env.cells.lookup x = some c → c ≠ b) ∧ ∀ p ∈ X.pn ++ pins, p.1 ≠ b) :
    Inv X pins σ H' { s with heap := h', gens := g', drawn := d', toks := t' } := by
  obtain ⟨m, ⟨o, es, ep, ho, r⟩, _⟩ := id I.loc
  obtain ⟨sl, hL⟩ := u.any ho I.free fun z => (hch _ z).2.1 rfl
  exact I.step (ch := ch) hch (fun b o hL hb hc e n => u.keep b o e n (fun z => (List.mem_cons.mp (I.stkSub b z)).elim hL hb) hc) (fun b o _ _ hc e n => u.any e n hc) (fun b o hc e n => u.free b o e n hc) (fun b o hc e => u.there b o e hc) u.tups u.frzs u.tbls (fun m' hm => by
    obtain ⟨o', es', ep', ho', r'⟩ := hm
    rw [ho] at ho'; cases ho'
    exact ⟨_, es', ep', hL, r'⟩) hok hg

theorem Inv.turned {t' : Nat} {it : Addr} (I : Inv X pins σ H s) (k : ∀ b o, b ≠ it → s.heap.get? b = some o → h'.get? b = some o) (hn : H it = none) (hL : it ≠ X.env.locals)
    (h1 : it ∈ X.ex ∨ X.s_0.heap.objs.size ≤ it) (h2 : ∀ x c, X.env.cells.lookup x = some c → c ≠ it) (h3 : ∀ p ∈ X.pn ++ pins, p.1 ≠ it) : Inv X pins σ H { s with heap := h', toks := t' } := by
  have nit : ∀ b u, H b = some u → b ≠ it := fun b u e z => by rw [z, hn] at e; cases e
  refine I.step (g' := s.gens) (d' := s.drawn) (ch := [it]) (fun b hb => ?_) (fun b o _ _ hc e _ => k b o (fun z => hc (by simp [z])) e) (fun b o _ _ hc e _ => ⟨o.slots, k b o (fun z => hc (by simp [z])) e⟩) (fun _ _ _ _ n => n)
    (fun b o hc e => ⟨o, k b o (fun z => hc (by simp [z])) e⟩) (fun _ _ e => e) (fun _ _ _ e => e) (fun b ps e => ⟨#[], by rw [e]; simp⟩) (fun m hm => ?_) (fun b u e => ?_) I.bare
  · have e : b = it := by simpa using hb
    subst e
    exact ⟨h1, hL, h2, h3⟩
  · obtain ⟨o, es, ep, ho, r⟩ := hm
    exact ⟨o, es, ep, k _ o (Ne.symm hL) ho, r⟩
  · refine (I.hok b u e).stay (fun c v hc q => k c v ?_ q) (fun _ q => q) fun _ _ q => q
    rcases hc with z | z
    · rw [z]; exact nit b u e
    · exact nit c _ z
theorem Inv.tok (I : Inv X pins σ H s) (t : Nat) : Inv X pins σ H { s with toks := t } := I.un (h' := s.heap) (t' := t) Un.refl I.hok

theorem Inv.kept {t' : Nat} (I : Inv X pins σ H s) (k : ∀ b u, s.heap.get? b = some u → h'.get? b = some u) : Inv X pins σ H { s with heap := h', toks := t' } := I.un (Un.kept k) (I.hok.kept k)

theorem Inv.laid {a : Addr} {o : HO} {t' : Nat} (I : Inv X pins σ H s) (k : ∀ b u, s.heap.get? b = some u → h'.get? b = some u) (hp : s.heap.objs.size ≤ a) (new : ObjOk X.prog X.w (upd H a o) h' a o) :
    Inv X pins σ (upd H a o) { s with heap := h', toks := t' } := I.un (Un.laid k hp (I.hok.fresh hp)) (I.hok.laid k hp new)

theorem Inv.write {x e : Addr} {o : HO} {t' : Nat} (I : Inv X pins σ H s) (mu : Mut (H x)) (he : e = x ∨ H e = some (.own x)) (k : ∀ b u, b ≠ e → s.heap.get? b = some u → h'.get? b = some u) (heo : ∃ u, h'.get? e = some u)
    (new : ObjOk X.prog X.w (upd H x o) h' x o) : Inv X pins σ (upd H x o) { s with heap := h', toks := t' } := I.un (Un.write mu he k heo) (I.hok.write mu he k heo new)

theorem Inv.weak {σ' : List (Option V)} (I : Inv X pins σ H s) (hl : σ'.length = σ.length) (w : ∀ (i : Nat) v, σ'[i]? = some (some v) → σ[i]? = some (some v)) : Inv X pins σ' H s :=
  ⟨I.ok, I.os, I.bare, I.base, let ⟨m, hn, hl'⟩ := I.loc; ⟨m, hn, fun i x v e1 e2 e3 => hl' i x v e1 (w i v e2) e3⟩, I.cell, I.free, I.freeC, I.pin, I.hok, hl.trans I.len⟩
theorem Inv.pins_of {pins' : List (Addr × Obj)} (I : Inv X pins σ H s) (h : ∀ p ∈ pins', s.heap.get? p.1 = some p.2 ∧ H p.1 = none ∧ p.1 ≠ X.env.locals ∧ p.1 ∉ X.fs ∧ ∀ v, p.2.data ≠ .cell v) : Inv X pins' σ H s :=
  ⟨I.ok, I.os, I.bare, I.base, I.loc, I.cell, I.free, I.freeC, fun p hp => (List.mem_append.mp hp).elim (fun z => I.pin p (List.mem_append_left _ z)) (h p), I.hok, I.len⟩

theorem nodup_ix {N : List Str} (hN : N.Nodup) {i j : Nat} {x : Str} (a : N[i]? = some x) (b : N[j]? = some x) : i = j := by
  obtain ⟨h1, e1⟩ := List.getElem?_eq_some_iff.mp a
  obtain ⟨h2, e2⟩ := List.getElem?_eq_some_iff.mp b
  exact (List.getElem_inj hN).mp (e1.trans e2.symm)


theorem store_ok2 {M : Model} {A : Around} {E : Value → Shared → Prop} {i : Nat} {x : Str} {v : V} {u : Value} {Q : Unit → Shared → Prop} (I : Inv X pins σ H s) (hN : X.N.Nodup) (hi : X.N[i]? = some x) (hx : Loc X.env.scope x) (r : RelV v u)
    (h : ∀ s', Inv X pins (σ.set i (some v)) H s' → (∃ a, Heap.SameBut a s.heap s'.heap ∧ (a = X.env.locals ∨ X.env.cells.lookup x = some a)) → Q () s') (hf : X.fn x = true ∨ X.env.scope.names.lookup x = some .local := by first | exact .inl rfl | exact .inr rfl | assumption) : wpAny M A (storeName X.env x u) Q E s := by
  obtain ⟨m, hn, hl⟩ := id I.loc
  have hcls : (X.env.scope.kind == .class || (X.env.scope.kind == .module && X.env.locals != X.env.globals)) = false := by rw [I.ok.kind]; rfl
  have hiσ : i < σ.length := by rw [I.len]; exact (List.getElem?_eq_some_iff.mp hi).1
  have cne := I.cne
  have tracked : ∀ {a : Addr} {h' : Heap}, (∃ o, s.heap.get? a = some o ∧ H a = none) → Heap.SameBut a s.heap h' → HOk X.prog X.w H h' := fun {a h'} ha hs b ob e => by
    obtain ⟨_, _, hfree⟩ := ha
    refine (I.hok b ob e).stay (fun c w' hc q => (hs.2 c ?_).trans q) (fun _ q => q) fun _ _ q => q
    rintro rfl
    rcases hc with rfl | hc
    · rw [hfree] at e; cases e
    · rw [hfree] at hc; cases hc
  rcases hx with hk | hk
  · refine wpAny_storeName_local hk hn (fun h' hn' hs => ?_) hcls
    obtain ⟨oL, _, _, hoL, _⟩ := id hn
    refine h _ ⟨I.ok, I.os, I.bare, ⟨fun b o e n hb hx => ?_, fun b o e n hb hx => ?_, I.base.free, fun b o e hx => ?_, I.base.tups, I.base.frzs, I.base.tbls⟩, ⟨_, hn', fun j y v' e1 e2 e3 => ?_⟩, fun y c e => ?_, I.free, I.freeC, fun p hp => ?_, tracked ⟨oL, hoL, I.free⟩ hs, by simpa using I.len⟩ ⟨_, hs, .inl rfl⟩
    · exact (hs.2 b (Nat.ne_of_lt (Nat.lt_of_lt_of_le (Heap.lt_size e) I.ok.above))).trans (I.base.keep b o e n hb hx)
    · obtain ⟨sl, e1⟩ := I.base.slot b o e n hb hx
      exact ⟨sl, (hs.2 b (Nat.ne_of_lt (Nat.lt_of_lt_of_le (Heap.lt_size e) I.ok.above))).trans e1⟩
    · obtain ⟨o', e1⟩ := I.base.there b o e hx
      exact ⟨o', (hs.2 b (Nat.ne_of_lt (Nat.lt_of_lt_of_le (Heap.lt_size e) I.ok.above))).trans e1⟩
    · by_cases hj : j = i
      · subst hj
        rw [hi] at e1; cases e1
        rw [List.getElem?_set_self hiσ] at e2
        cases e2
        exact ⟨u, r, .inl ⟨hk, by simp⟩⟩
      · rw [List.getElem?_set_ne (Ne.symm hj)] at e2
        obtain ⟨u', r', q⟩ := hl j y v' e1 e2 e3
        refine ⟨u', r', ?_⟩
        rcases q with ⟨k, e⟩ | ⟨k, c, e, z⟩
        · refine .inl ⟨k, ?_⟩
          have : y ≠ x := fun e => hj (nodup_ix hN e1 (e ▸ hi))
          simp [this, e]
        · exact .inr ⟨k, c, e, z.sameBut hs (cne y c e)⟩
    · obtain ⟨w', z⟩ := I.cell y c e
      exact ⟨w', z.sameBut hs (cne y c e)⟩
    · obtain ⟨e, n, ne, nf, d⟩ := I.pin p hp
      exact ⟨(hs.2 p.1 ne).trans e, n, ne, nf, d⟩
  · have hfn : X.fn x = true := by
      rcases hf with z | z
      · exact z
      · rw [z] at hk; cases hk
    obtain ⟨c, hc⟩ := I.ok.has x (.inl hk)
    obtain ⟨w', z⟩ := I.cell x c hc
    refine wpAny_storeName_cell I.ok.kind hk hc z (fun h' hc' hs => ?_)
    obtain ⟨oc, hoc, hocd⟩ := id z
    refine h { s with heap := h' } ⟨I.ok, I.os, I.bare, ⟨fun b o e n hb hx => ?_, fun b o e n hb hx => ?_, I.base.free, fun b o e hx => ?_, I.base.tups, I.base.frzs, I.base.tbls⟩, ⟨m, hn.sameBut hs (Ne.symm (cne x c hc)), fun j y v' e1 e2 e3 => ?_⟩, fun y c' e => ?_, I.free, I.freeC, fun p hp => ?_, tracked ⟨oc, hoc, I.freeC x c hc⟩ hs, by simpa using I.len⟩ ⟨c, hs, .inr hc⟩
    · exact (hs.2 b (Nat.ne_of_lt (Nat.lt_of_lt_of_le (Heap.lt_size e) (I.ok.cab x c hfn hc)))).trans (I.base.keep b o e n hb hx)
    · obtain ⟨sl, e1⟩ := I.base.slot b o e n hb hx
      exact ⟨sl, (hs.2 b (Nat.ne_of_lt (Nat.lt_of_lt_of_le (Heap.lt_size e) (I.ok.cab x c hfn hc)))).trans e1⟩
    · obtain ⟨o', e1⟩ := I.base.there b o e hx
      exact ⟨o', (hs.2 b (Nat.ne_of_lt (Nat.lt_of_lt_of_le (Heap.lt_size e) (I.ok.cab x c hfn hc)))).trans e1⟩
    · by_cases hj : j = i
      · subst hj
        rw [hi] at e1; cases e1
        rw [List.getElem?_set_self hiσ] at e2
        cases e2
        exact ⟨u, r, .inr ⟨.inl hk, c, hc, hc'⟩⟩
      · rw [List.getElem?_set_ne (Ne.symm hj)] at e2
        obtain ⟨u', r', q⟩ := hl j y v' e1 e2 e3
        refine ⟨u', r', ?_⟩
        rcases q with q | ⟨k, c', e, z'⟩
        · exact .inl q
        · refine .inr ⟨k, c', e, z'.sameBut hs ?_⟩
          rintro rfl
          exact hj (nodup_ix hN e1 (I.ok.inj _ _ _ e hc ▸ hi))
    · by_cases hcc : c' = c
      · subst hcc; exact ⟨_, hc'⟩
      · obtain ⟨w2, z2⟩ := I.cell y c' e
        exact ⟨w2, z2.sameBut hs hcc⟩
    · obtain ⟨e, n, ne, nf, d⟩ := I.pin p hp
      refine ⟨(hs.2 p.1 ?_).trans e, n, ne, nf, d⟩
      intro q
      rw [q, hoc] at e
      have q' : oc = p.2 := Option.some.inj e
      exact d w' (by rw [← q']; exact hocd)
theorem store_ok {M : Model} {A : Around} {E : Value → Shared → Prop} {i : Nat} {x : Str} {v : V} {u : Value} {Q : Unit → Shared → Prop} (I : Inv X pins σ H s) (hN : X.N.Nodup) (hi : X.N[i]? = some x) (hx : Loc X.env.scope x) (r : RelV v u)
    (h : ∀ s', Inv X pins (σ.set i (some v)) H s' → Q () s') (hf : X.fn x = true ∨ X.env.scope.names.lookup x = some .local := by first | exact .inl rfl | exact .inr rfl | assumption) : wpAny M A (storeName X.env x u) Q E s :=
  store_ok2 I hN hi hx r (fun s' I' _ => h s' I') hf

theorem Inv.call' {s' : Shared} {ch : List Addr} (I : Inv X pins σ H s) (ho : s'.os = s.os) (u : Un (frs X.stack) ch H H' s.heap s'.heap) (hok : HOk X.prog X.w H' s'.heap) (hg : AllBare s'.gens)
    (hch : ∀ b ∈ ch, (b ∈ X.ex ∨ X.s_0.heap.objs.size ≤ b) ∧ b ≠ X.env.locals ∧ (∀ x c, X.env.cells.lookup x = some c → c ≠ b) ∧ ∀ p ∈ X.pn ++ pins, p.1 ≠ b) : Inv X pins σ H' s' := by
  obtain ⟨h', g', d', t', o'⟩ := s'
  have e : o' = s.os := ho
  subst e
  exact I.call (g' := g') (t' := t') (d' := d') u hok hg hch
end



abbrev XK := Value → Option Addr → Hp → Prop
abbrev St := List (Option V)
abbrev VK := V → Hp → Prop

abbrev TE := St → Hp → VK → Prop
abbrev TT := St → Hp → (Bool → Hp → Prop) → Prop
abbrev TA := St → Hp → (List V → Hp → Prop) → Prop

structure Ends where
  nx : St → Hp → Prop
  rt : VK
  bk : St → Hp → Prop := fun _ _ => False
  ct : St → Hp → Prop := fun _ _ => False
abbrev TS := Ends → St → Hp → Prop

def EP (X : Cx) (pins : List (Addr × Obj)) (σ : St) (Q : VK) (u : Value) (s' : Shared) : Prop := ∃ v H', Inv X pins σ H' s' ∧ RelV v u ∧ Q v H'
def TP (X : Cx) (pins : List (Addr × Obj)) (σ : St) (Q : Bool → Hp → Prop) (b : Bool) (s' : Shared) : Prop := ∃ H', Inv X pins σ H' s' ∧ Q b H'
def AP (X : Cx) (pins : List (Addr × Obj)) (σ : St) (Q : List V → Hp → Prop) (us : List Value) (s' : Shared) : Prop := ∃ vs H', Inv X pins σ H' s' ∧ Vals vs us ∧ Q vs H'
def SP (X : Cx) (pins : List (Addr × Obj)) (D : Ends) (f : Flow) (s' : Shared) : Prop :=
  match f with
  | .next => ∃ σ' H', Inv X pins σ' H' s' ∧ D.nx σ' H'
  | .brk => ∃ σ' H', Inv X pins σ' H' s' ∧ D.bk σ' H'
  | .cont => ∃ σ' H', Inv X pins σ' H' s' ∧ D.ct σ' H'
  | .ret u => ∃ v σ' H', Inv X pins σ' H' s' ∧ RelV v u ∧ D.rt v H'

def PE (X : Cx) (e : Expr) (t : TE) : Prop :=
  ∀ (pins : List (Addr × Obj)) (s : Shared) (σ : St) (H : Hp) (Q : VK), Inv X pins σ H s → t σ H Q → wpAny (model X.prog X.w) X.A (eval e X.env) (EP X pins σ Q) X.xe s
def PT (X : Cx) (e : Expr) (t : TT) : Prop :=
  ∀ (pins : List (Addr × Obj)) (s : Shared) (σ : St) (H : Hp) (Q : Bool → Hp → Prop), Inv X pins σ H s → t σ H Q → wpAny (model X.prog X.w) X.A (isTrue e X.env (eval e X.env)) (TP X pins σ Q) X.xe s

def PW (X : Cx) (e : Expr) (t : TT) : Prop :=
  ∀ (whole : Sem Value) (pins : List (Addr × Obj)) (s : Shared) (σ : St) (H : Hp) (Q : Bool → Hp → Prop), Inv X pins σ H s → t σ H Q → wpAny (model X.prog X.w) X.A (isTrue e X.env whole) (TP X pins σ Q) X.xe s
theorem PW.pt {X : Cx} {e : Expr} {t : TT} (h : PW X e t) : PT X e t := h _

def PA (X : Cx) (es : List Expr) (t : TA) : Prop :=
  ∀ (pos : Pos) (pins : List (Addr × Obj)) (s : Shared) (σ : St) (H : Hp) (Q : List V → Hp → Prop), Inv X pins σ H s → t σ H Q → wpAny (model X.prog X.w) X.A (spliced (backTo pos (starEach es X.env))) (AP X pins σ Q) X.xe s
def PS (X : Cx) (st : Stmt) (t : TS) : Prop :=
  ∀ (pins : List (Addr × Obj)) (s : Shared) (σ : St) (H : Hp) (D : Ends), Inv X pins σ H s → t D σ H → wpAny (model X.prog X.w) X.A (exec st X.env) (SP X pins D) X.xe s
def PSs (X : Cx) (st : List Stmt) (t : TS) : Prop :=
  ∀ (pins : List (Addr × Obj)) (s : Shared) (σ : St) (H : Hp) (D : Ends), Inv X pins σ H s → t D σ H → wpAny (model X.prog X.w) X.A (execs st X.env) (SP X pins D) X.xe s

theorem thn {α : Type} {t : Sem α} {Q Q' : α → Shared → Prop} {M : Model} {A : Around} {E : Value → Shared → Prop} {s : Shared} (h : wpAny M A t Q E s) (hQ : ∀ a s, Q a s → Q' a s) : wpAny M A t Q' E s := wpAny_mono h hQ fun _ _ x => x
end L2

namespace L2
open PySem PySem.Spec PyProof.Rows
section
variable {X : Cx}


theorem bin {a b : Expr} {ta tb : TE} (ha : PE X a ta) (hb : PE X b tb) {pins : List (Addr × Obj)} {s : Shared} {σ : St} {H : Hp} {R : V → V → Hp → Prop} (I : Inv X pins σ H s) (h : ta σ H fun x H1 => tb σ H1 fun y H2 => R x y H2)
    {α : Type} {Q : α → Shared → Prop} {f : Value → Value → Sem α}
    (hf : ∀ v u s2 x y H2, Inv X pins σ H2 s2 → RelV x v → RelV y u → R x y H2 → wpAny (model X.prog X.w) X.A (f v u) Q X.xe s2) :
    wpAny (model X.prog X.w) X.A (eval a X.env) (fun v s₁ => wpAny (model X.prog X.w) X.A (eval b X.env) (fun u s₂ => wpAny (model X.prog X.w) X.A (f v u) Q X.xe s₂) X.xe s₁) X.xe s := by
  refine thn (ha pins s σ H _ I h) fun v s1 ⟨x, H1, I1, r1, q1⟩ => ?_
  refine thn (hb pins s1 σ H1 _ I1 q1) fun u s2 ⟨y, H2, I2, r2, q2⟩ => ?_
  exact hf v u s2 x y H2 I2 r1 r2 q2


def tVar (i : Nat) : TE := fun σ H Q => ∃ v, σ[i]? = some (some v) ∧ Q v H
def tC (v : V) : TE := fun _ H Q => Q v H
theorem pe_var {i : Nat} {x : Str} {pos : Pos} (hN : X.N[i]? = some x) (hv : Vis X.env.scope x) (hd : (x == ("__debug__" : Str)) = false := by decide) (hcd : (x == ("__classdict__" : Str)) = false := by decide) : PE X (.Name x pos) (tVar i) := by
  intro pins s σ H Q I h
  obtain ⟨v, e, h⟩ := h
  obtain ⟨m, hn, hl⟩ := I.loc
  obtain ⟨u, r, l⟩ := hl i x v hN e hv
  have fin : EP X pins σ Q u s := ⟨v, H, I, r, h⟩
  rcases l with ⟨hk, hm⟩ | ⟨hk, c, hc, hcell⟩
  · exact wpAny_Name (wpAny_loadName_local I.ok.kind hk hn hm fin) hd
  · rcases hk with hk | hk
    · exact wpAny_Name (wpAny_loadName_cell I.ok.kind hk hc hcell fin) hd
    · exact wpAny_Name (wpAny_loadName_free I.ok.kind hk hc hcell fin hcd) hd
theorem pe_int {i j pos} : PE X (.Constant (.int i) j pos) (tC (.int i)) := fun _ _ _ H _ I h => wpAny_Constant_int ⟨.int i, H, I.tok _, ⟨_, rfl⟩, h⟩
theorem pe_bl {b j pos} : PE X (.Constant (.bool b) j pos) (tC (.bl b)) := fun _ _ _ H _ I h => Constant_bool ⟨.bl b, H, I, rfl, h⟩
theorem pe_non {j pos} : PE X (.Constant .none j pos) (tC .non) := fun _ _ _ H _ I h => Constant_none ⟨.non, H, I, rfl, h⟩
def Gl (X : Cx) (x : Str) : Prop := X.env.kindOf x = some .globalImplicit
theorem ld_glob {E : Value → Shared → Prop} {pins : List (Addr × Obj)} {s : Shared} {σ : St} {H : Hp} {x : Str} {u : Value} {pos : Pos} {Q : Value → Shared → Prop} (I : Inv X pins σ H s) (hg : Gl X x) (hm : X.mg x = some u) (h : Q u s)
    (hd : (x == ("__debug__" : Str)) = false := by decide) : wpAny (model X.prog X.w) X.A (eval (.Name x pos) X.env) Q E s :=
  Calls.Name_function_global I.ok.kind hg (Calls.loadGlobal_global (by rw [I.ok.glob]; exact I.mod.glob.keeps I.bk) hm h) hd
theorem ld_blt {E : Value → Shared → Prop} {pins : List (Addr × Obj)} {s : Shared} {σ : St} {H : Hp} {x : Str} {u : Value} {pos : Pos} {Q : Value → Shared → Prop} (I : Inv X pins σ H s) (hg : Gl X x) (hm : X.mg x = none) (hv : bootBuiltins x = some u) (h : Q u s)
    (hn : x ≠ "__name__" := by decide) (hd : (x == ("__debug__" : Str)) = false := by decide) : wpAny (model X.prog X.w) X.A (eval (.Name x pos) X.env) Q E s := by
  obtain ⟨mb, h1, h2⟩ := I.mod.blt
  exact Calls.Name_function_global I.ok.kind hg (Calls.loadGlobal_builtin (by rw [I.ok.glob]; exact I.mod.glob.keeps I.bk) hm (by rw [I.ok.blt]; exact h1.keeps I.bk) ((h2 x hn).trans hv) h) hd

theorem pe_glob {x : Str} {v : V} {u : Value} {pos : Pos} (hg : Gl X x) (hm : X.mg x = some u) (r : RelV v u) (hd : (x == ("__debug__" : Str)) = false := by decide) : PE X (.Name x pos) (tC v) :=
  fun _ _ _ H _ I h => ld_glob I hg hm ⟨v, H, I, r, h⟩ hd
def t2I (ta tb : TE) (k : Int → Int → Hp → Prop) : St → Hp → Prop := fun σ H => ta σ H fun x H1 => tb σ H1 fun y H2 => ∃ i j, x = .int i ∧ y = .int j ∧ k i j H2
def tAdd (ta tb : TE) : TE := fun σ H Q => t2I ta tb (fun i j H2 => Q (.int (i + j)) H2) σ H
def tSub (ta tb : TE) : TE := fun σ H Q => t2I ta tb (fun i j H2 => Q (.int (i - j)) H2) σ H

def tMul (ta tb : TE) : TE := fun σ H Q => t2I ta tb (fun i j H2 => (-(2 ^ 64) < i ∧ i < 2 ^ 64) ∧ Q (.int (i * j)) H2) σ H
variable {a b : Expr} {ta tb : TE} {pos : Pos}
def PC (X : Cx) (op : CmpOp) (a b : Expr) (t : TE) : Prop :=
  ∀ (pins : List (Addr × Obj)) (s : Shared) (σ : St) (H : Hp) (Q : VK), Inv X pins σ H s → t σ H Q →
    wpAny (model X.prog X.w) X.A (eval a X.env) (fun v s₁ => wpAny (model X.prog X.w) X.A (eval b X.env) (fun u s₂ => wpAny (model X.prog X.w) X.A (compareOp op v u) (EP X pins σ Q) X.xe s₂) X.xe s₁) X.xe s
def tCmp (p : Int → Int → Bool) (ta tb : TE) : TE := fun σ H Q => t2I ta tb (fun i j H2 => Q (.bl (p i j)) H2) σ H
abbrev tLt : TE → TE → TE := tCmp fun i j => decide (i < j)
abbrev tLe : TE → TE → TE := tCmp fun i j => decide (i ≤ j)
abbrev tGt : TE → TE → TE := tCmp fun i j => decide (j < i)
abbrev tGe : TE → TE → TE := tCmp fun i j => decide (j ≤ i)
abbrev tEqI : TE → TE → TE := tCmp fun i j => decide (i = j)
abbrev tNeI : TE → TE → TE := tCmp fun i j => !decide (i = j)

def tIsN (ta : TE) : TE := fun σ H Q => ta σ H fun x H1 => Q (.bl (decide (x = .non))) H1
def tNotN (ta : TE) : TE := fun σ H Q => ta σ H fun x H1 => Q (.bl (!decide (x = .non))) H1
def tB (t : TE) : TT := fun σ H Q => t σ H fun x H1 => ∃ c, x = .bl c ∧ Q c H1
theorem pt_cmp {op : CmpOp} {t : TE} (h : PC X op a b t) (h1 : behindInMarks op b = false := by first | exact nobehind _ (by decide) (by decide) | rfl) : PT X (.Compare a [op] [b] pos) (tB t) := by
  intro pins s σ H Q I hw
  refine wpAny_isTrue_Compare1 (thn (h pins s σ H _ I hw) fun v s1 h1 => thn h1 fun u s2 h2 => thn h2 fun c s3 ⟨x, H1, I1, r1, q1⟩ => ?_) h1
  obtain ⟨d, rfl, q⟩ := q1
  cases r1
  exact wpAny_truthy_bool ⟨H1, I1, q⟩

theorem pt_val {e : Expr} {t : TE} (h : PE X e t) (he : ∀ whole, isTrue e X.env whole = (do let v ← whole; standAt e.pos; holding [v] (truthy v)) := by intro _; rfl) : PT X e (tB t) := by
  intro pins s σ H Q I hw
  refine isTrue_plain (thn (h pins s σ H _ I hw) fun v s1 ⟨x, H1, I1, r1, q1⟩ => ?_) (he _)
  obtain ⟨d, rfl, q⟩ := q1
  cases r1
  exact wpAny_truthy_bool ⟨H1, I1, q⟩


variable {tA tB' : TT} {rest : List Expr}
def tAnd (t u : TT) : TT := fun σ H Q => t σ H fun c H1 => if c = true then u σ H1 Q else Q false H1
def tOr (t u : TT) : TT := fun σ H Q => t σ H fun c H1 => if c = true then Q true H1 else u σ H1 Q
def tNot (t : TT) : TT := fun σ H Q => t σ H fun c H1 => Q (!c) H1
theorem pw_and1 (ha : PT X a tA) : PW X (.BoolOp .And [a] pos) tA := by
  intro wh pins s σ H Q I h
  refine isTrue_and (thn (ha pins s σ H Q I h) fun c s1 e => ?_)
  cases c with
  | true => exact isTrue_and_nil e
  | false => exact e
theorem pw_or1 (ha : PT X a tA) : PW X (.BoolOp .Or [a] pos) tA := by
  intro wh pins s σ H Q I h
  refine isTrue_or (thn (ha pins s σ H Q I h) fun c s1 e => ?_)
  cases c with
  | false => exact isTrue_or_nil e
  | true => exact e
theorem pw_and (ha : PT X a tA) (hb : PW X (.BoolOp .And (b :: rest) pos) tB') : PW X (.BoolOp .And (a :: b :: rest) pos) (tAnd tA tB') := by
  intro wh pins s σ H Q I h
  refine isTrue_and (thn (ha pins s σ H _ I h) fun c s1 ⟨H1, I1, q1⟩ => ?_)
  cases c with
  | true => exact hb wh pins s1 σ H1 Q I1 q1
  | false => exact ⟨H1, I1, q1⟩
theorem pw_or (ha : PT X a tA) (hb : PW X (.BoolOp .Or (b :: rest) pos) tB') : PW X (.BoolOp .Or (a :: b :: rest) pos) (tOr tA tB') := by
  intro wh pins s σ H Q I h
  refine isTrue_or (thn (ha pins s σ H _ I h) fun c s1 ⟨H1, I1, q1⟩ => ?_)
  cases c with
  | true => exact ⟨H1, I1, q1⟩
  | false => exact hb wh pins s1 σ H1 Q I1 q1
theorem pt_not (ha : PT X a tA) : PT X (.UnaryOp .Not a pos) (tNot tA) := by
  intro pins s σ H Q I h
  exact isTrue_not (ha pins s σ H (fun c H1 => Q (!c) H1) I h)

def tAndV (ta tb : TE) : TE := fun σ H Q => ta σ H fun x H1 => ∃ c, x = .bl c ∧ if c = true then tb σ H1 Q else Q (.bl false) H1
def tOrV (ta tb : TE) : TE := fun σ H Q => ta σ H fun x H1 => ∃ c, x = .bl c ∧ if c = true then Q (.bl true) H1 else tb σ H1 Q
def tNotV (ta : TE) : TE := fun σ H Q => ta σ H fun x H1 => ∃ c, x = .bl c ∧ Q (.bl (!c)) H1
theorem pe_one {op} {t : TE} (h : PE X a t) : PE X (.BoolOp op [a] pos) t := fun pins s σ H Q I hw => BoolOp_one (h pins s σ H Q I hw)
theorem pe_and (ha : PE X a ta) (hb : PE X (.BoolOp .And (b :: rest) pos) tb) : PE X (.BoolOp .And (a :: b :: rest) pos) (tAndV ta tb) := by
  intro pins s σ H Q I h
  refine BoolOp_and (thn (ha pins s σ H _ I h) fun v s1 ⟨x, H1, I1, r1, q1⟩ => ?_)
  obtain ⟨c, rfl, q1⟩ := q1
  cases r1
  refine wpAny_truthy_bool ?_
  cases c with
  | true => exact hb pins s1 σ H1 Q I1 q1
  | false => exact ⟨.bl false, H1, I1, rfl, q1⟩
theorem pe_not (ha : PE X a ta) : PE X (.UnaryOp .Not a pos) (tNotV ta) := by
  intro pins s σ H Q I h
  refine UnaryOp_ (thn (ha pins s σ H _ I h) fun v s1 ⟨x, H1, I1, r1, q1⟩ => ?_)
  obtain ⟨c, rfl, q1⟩ := q1
  cases r1
  exact not_of (wpAny_truthy_bool ⟨.bl (!c), H1, I1, rfl, q1⟩)

def tIf (t : TT) (ta tb : TE) : TE := fun σ H Q => t σ H fun c H1 => if c = true then ta σ H1 Q else tb σ H1 Q
theorem pe_ifExp {c : Expr} (hc : PT X c tA) (ha : PE X a ta) (hb : PE X b tb) : PE X (.IfExp c a b pos) (tIf tA ta tb) := by
  intro pins s σ H Q I h
  refine wpAny_IfExp (thn (hc pins s σ H _ I h) fun d s1 ⟨H1, I1, q1⟩ => ?_)
  cases d with
  | true => exact ha pins s1 σ H1 Q I1 q1
  | false => exact hb pins s1 σ H1 Q I1 q1
end
end L2

namespace L2
open PySem PySem.Spec PyProof.Rows


def SqL (K : PySem.W.Frag) (H : Hp) (a : Addr) (xs : List V) : Prop :=
  Rd H a (.lst xs) ∨
    ∃ (o : Obj) (its : Array Value) (n : Nat), K.lookup a = some o ∧ o.cls = .type "list" ∧ o.dict = none ∧ o.data = .seq its n ∧ its.size ≤ sizeLine ∧ Vals xs its.toList
def SqT (K : PySem.W.Frag) (H : Hp) (a : Addr) (xs : List V) : Prop :=
  Rd H a (.tup xs) ∨
    ∃ (o : Obj) (its : Array Value) (n : Nat), K.lookup a = some o ∧ o.cls = .type "tuple" ∧ o.data = .seq its n ∧ its.size ≤ sizeLine ∧ Vals xs its.toList
def absV : Value → Option V
  | .none => some .non
  | .bool b => some (.bl b)
  | .int i _ => some (.int i)
  | .str x _ => some (.str x)
  | .bytes b _ => some (.byt b)
  | .float b _ => some (.flt b)
  | .ref a => some (.ref a)
  | .type n => some (.ty n)
  | _ => none
theorem RelV.abs {x : V} {u : Value} (r : RelV x u) : absV u = some x := by
  cases x with
  | non => cases r; rfl
  | bl _ => cases r; rfl
  | int _ => obtain ⟨t, rfl⟩ := r; rfl
  | str _ => obtain ⟨t, rfl⟩ := r; rfl
  | byt _ => obtain ⟨t, rfl⟩ := r; rfl
  | flt _ => obtain ⟨t, rfl⟩ := r; rfl
  | ref _ => cases r; rfl
  | ty _ => cases r; rfl
theorem RelV.inj {x y : V} {u : Value} (r : RelV x u) (q : RelV y u) : x = y := Option.some.inj (r.abs.symm.trans q.abs)
theorem Vals.inj : ∀ {xs ys : List V} {us : List Value}, Vals xs us → Vals ys us → xs = ys
  | _, _, _, .nil, .nil => rfl
  | _, _, _, .cons r t, .cons r' t' => by rw [r.inj r', Vals.inj t t']
section
variable {X : Cx} {pins : List (Addr × Obj)} {σ : St} {H : Hp} {s : Shared} {a : Addr} {xs ys : List V}
theorem SqL.of {K : PySem.W.Frag} (h : H a = some (.lst xs)) : SqL K H a xs := .inl (.inl h)
theorem SqT.of {K : PySem.W.Frag} (h : H a = some (.tup xs)) : SqT K H a xs := .inl (.inl h)
theorem Inv.list (I : Inv X pins σ H s) (h : SqL X.K H a xs) : ∃ its : List Value, Vals xs its ∧ PlainL s.heap a its.toArray ∧ xs.length ≤ sizeLine := by
  rcases h with h | ⟨o, its, n, hk, hc, hd, hs, hz, r⟩
  · obtain ⟨z, its, n, r, e⟩ := h.ok I.hok
    exact ⟨its, r, ⟨_, n, e, rfl, rfl, rfl⟩, z⟩
  · refine ⟨its.toList, r, ⟨o, n, I.kIn a o hk, hc, hd, by simpa using hs⟩, ?_⟩
    have e := r.length
    simp only [Array.length_toList] at e
    omega
theorem Inv.tuple (I : Inv X pins σ H s) (h : SqT X.K H a xs) : ∃ its : List Value, Vals xs its ∧ IsTup s.heap a its.toArray ∧ xs.length ≤ sizeLine := by
  rcases h with h | ⟨o, its, n, hk, hc, hs, hz, r⟩
  · obtain ⟨z, its, r, p⟩ := h.ok I.hok
    exact ⟨its, r, p, z⟩
  · refine ⟨its.toList, r, ⟨o, I.kIn a o hk, hc, n, by simpa using hs⟩, ?_⟩
    have e := r.length
    simp only [Array.length_toList] at e
    omega
theorem Inv.list_inj (I : Inv X pins σ H s) (h : SqL X.K H a xs) (h' : SqL X.K H a ys) : xs = ys := by
  obtain ⟨its, r, ⟨o, n, e, _, _, d⟩, _⟩ := I.list h
  obtain ⟨its', r', ⟨o', n', e', _, _, d'⟩, _⟩ := I.list h'
  rw [e] at e'; cases e'
  rw [d] at d'
  injection d' with d1 _
  have : its = its' := by simpa using congrArg Array.toList d1
  subst this
  exact r.inj r'
end


abbrev Cx.wish (X : Cx) (E : Value → Shared → Prop) : Cx := { X with xe := E }

abbrev Cx.nox (X : Cx) : Cx := X.wish fun _ _ => False
theorem Cx.Ok.wish {X : Cx} (ok : X.Ok) (E : Value → Shared → Prop) : (X.wish E).Ok :=
  ⟨ok.mod, ok.kind, ok.glob, ok.blt, ok.above, ok.inj, ok.has, ok.cab, ok.hd, ok.frames, ok.stk, ok.exf, ok.bs, ok.bsz, ok.noex, ok.exfs, ok.funs, ok.frf⟩
theorem Cx.Ok.unwish {X : Cx} {E : Value → Shared → Prop} (ok : (X.wish E).Ok) : X.Ok :=
  ⟨ok.mod, ok.kind, ok.glob, ok.blt, ok.above, ok.inj, ok.has, ok.cab, ok.hd, ok.frames, ok.stk, ok.exf, ok.bs, ok.bsz, ok.noex, ok.exfs, ok.funs, ok.frf⟩
section
variable {X : Cx} {pins : List (Addr × Obj)} {σ : St} {H : Hp} {s : Shared} {E : Value → Shared → Prop}
theorem Inv.wish (I : Inv X pins σ H s) (E : Value → Shared → Prop) : Inv (X.wish E) pins σ H s := ⟨I.ok.wish E, I.os, I.bare, I.base, I.loc, I.cell, I.free, I.freeC, I.pin, I.hok, I.len⟩
theorem Inv.unwish (I : Inv (X.wish E) pins σ H s) : Inv X pins σ H s := ⟨I.ok.unwish, I.os, I.bare, I.base, I.loc, I.cell, I.free, I.freeC, I.pin, I.hok, I.len⟩
theorem SP.unwish {D : Ends} {f : Flow} {s' : Shared} (h : SP (X.wish E) pins D f s') : SP X pins D f s' := by
  cases f with
  | next => obtain ⟨σ', H', I, q⟩ := h; exact ⟨σ', H', I.unwish, q⟩
  | brk => obtain ⟨σ', H', I, q⟩ := h; exact ⟨σ', H', I.unwish, q⟩
  | cont => obtain ⟨σ', H', I, q⟩ := h; exact ⟨σ', H', I.unwish, q⟩
  | ret u => obtain ⟨v, σ', H', I, r, q⟩ := h; exact ⟨v, σ', H', I.unwish, r, q⟩
theorem PSs.nox {st : List Stmt} {t : TS} (h : PSs X.nox st t) : PSs X st t := fun pins s σ H D I hw =>
  wpAny_mono (h pins s σ H D (I.wish _) hw) (fun _ _ q => q.unwish) fun _ _ z => False.elim z
end


section
variable {X : Cx} {st : Stmt} {rest : List Stmt} {t u : TS} {e : Expr} {te : TE} {pos : Pos}
def tNext : TS := fun D σ H => D.nx σ H
def tSeq (t u : TS) : TS := fun D σ H => t { D with nx := u D } σ H
theorem pss_nil : PSs X [] tNext := fun _ _ σ H _ I h => wpAny_execs_nil ⟨σ, H, I, h⟩
theorem pss_cons (h1 : PS X st t) (h2 : PSs X rest u) : PSs X (st :: rest) (tSeq t u) := by
  intro pins s σ H D I h
  refine wpAny_execs_cons (thn (h1 pins s σ H { D with nx := u D } I h) fun f s1 q => ?_)
  cases f with
  | next =>
    obtain ⟨σ', H', I', q⟩ := q
    exact h2 pins s1 σ' H' D I' q
  | ret v => exact q
  | brk => exact q
  | cont => exact q
theorem pss_one (h1 : PS X st t) : PSs X [st] t := by
  intro pins s σ H D I h
  refine wpAny_execs_cons (thn (h1 pins s σ H D I h) fun f s1 q => ?_)
  cases f with
  | next => exact wpAny_execs_nil q
  | ret v => exact q
  | brk => exact q
  | cont => exact q
def tBreak : TS := fun D σ H => D.bk σ H
def tCont : TS := fun D σ H => D.ct σ H
theorem Inv.quiet {pins : List (Addr × Obj)} {σ : St} {H : Hp} {s : Shared} (I : Inv X pins σ H s) : interactive X.env = false := by simp [interactive, I.ok.kind]

def tDrop (te : TE) : TS := fun D σ H => te σ H fun _ H1 => D.nx σ H1
theorem ps_expr (he : PE X e te) (hs : swapsWith e none pos.line X.env = pure false := by rfl) : PS X (.Expr e pos) (tDrop te) := by
  intro pins s σ H D I h
  exact wpAny_Expr_any (thn (he pins s σ H _ I h) fun v s1 ⟨x, H1, I1, r1, q1⟩ => ⟨σ, H1, I1, q1⟩) I.quiet hs
def tRet (te : TE) : TS := fun D σ H => te σ H D.rt
theorem ps_ret (he : PE X e te) : PS X (.Return (some e) pos) (tRet te) := by
  intro pins s σ H D I h
  exact wpAny_Return_some (thn (he pins s σ H _ I h) fun v s1 ⟨x, H1, I1, r1, q1⟩ => ⟨x, σ, H1, I1, r1, q1⟩)
def tRetN : TS := fun D _ H => D.rt .non H
def tIfS (c : TT) (t u : TS) : TS := fun D σ H => c σ H fun b H1 => if b = true then t D σ H1 else u D σ H1
theorem ps_if {c : Expr} {a b : List Stmt} {tc : TT} (hc : PT X c tc) (ha : PSs X a t) (hb : PSs X b u) : PS X (.If c a b pos) (tIfS tc t u) := by
  intro pins s σ H D I h
  refine wpAny_If (thn (hc pins s σ H _ I h) fun d s1 ⟨H1, I1, q1⟩ => ?_)
  cases d with
  | true => exact ha pins s1 σ H1 D I1 q1
  | false => exact hb pins s1 σ H1 D I1 q1

def tNever : TS := fun _ _ _ => False
end


abbrev TG := V → St → Hp → (St → Hp → Prop) → Prop
abbrev TGs := List V → St → Hp → (St → Hp → Prop) → Prop
def PG (X : Cx) (target : Expr) (t : TG) : Prop :=
  ∀ (pins : List (Addr × Obj)) (s : Shared) (σ : St) (H : Hp) (v : V) (u : Value) (Q : St → Hp → Prop), Inv X pins σ H s → RelV v u → t v σ H Q →
    wpAny (model X.prog X.w) X.A (assign target X.env u) (fun _ s' => ∃ σ' H', Inv X pins σ' H' s' ∧ Q σ' H') X.xe s

def PGs (X : Cx) (ts : List Expr) (t : TGs) : Prop :=
  ∀ (pins : List (Addr × Obj)) (s : Shared) (σ : St) (H : Hp) (vs : List V) (us : List Value) (Q : St → Hp → Prop), Inv X pins σ H s → Vals vs us → t vs σ H Q →
    wpAny (model X.prog X.w) X.A (assignInOrder ((assignEach ts X.env).map (·.2)) us) (fun _ s' => ∃ σ' H', Inv X pins σ' H' s' ∧ Q σ' H') X.xe s

abbrev TSet := V → V → V → Hp → (Hp → Prop) → Prop
def PSet (X : Cx) (t : TSet) : Prop :=
  ∀ (pins : List (Addr × Obj)) (s : Shared) (σ : St) (H : Hp) (o i v : V) (ov iv u : Value) (Q : Hp → Prop), Inv X pins σ H s → RelV o ov → RelV i iv → RelV v u → t o i v H Q →
    wpAny (model X.prog X.w) X.A (setItem ov iv u) (fun _ s' => ∃ H', Inv X pins σ H' s' ∧ Q H') X.xe s

abbrev TIp := V → V → Hp → VK → Prop
def PIp (X : Cx) (op : Operator) (t : TIp) : Prop :=
  ∀ (pins : List (Addr × Obj)) (s : Shared) (σ : St) (H : Hp) (x y : V) (v u : Value) (Q : VK), Inv X pins σ H s → RelV x v → RelV y u → t x y H Q →
    wpAny (model X.prog X.w) X.A (inplaceOp op v u) (EP X pins σ Q) X.xe s
section
variable {X : Cx} {pos : Pos}
def gName (i : Nat) : TG := fun v σ H Q => Q (σ.set i (some v)) H
theorem pg_name {i : Nat} {x : Str} (hN : X.N.Nodup) (hi : X.N[i]? = some x) (hx : Loc X.env.scope x) (hf : X.fn x = true ∨ X.env.scope.names.lookup x = some .local := by first | exact .inl rfl | exact .inr rfl | assumption) : PG X (.Name x pos) (gName i) := by
  intro pins s σ H v u Q I r h
  exact wpAny_assign_Name (store_ok I hN hi hx r (fun s' I' => ⟨_, H, I', h⟩) hf)
def gNil : TGs := fun vs σ H Q => vs = [] ∧ Q σ H
def gCons (t : TG) (u : TGs) : TGs := fun vs σ H Q => ∃ v r, vs = v :: r ∧ t v σ H fun σ' H' => u r σ' H' Q
def gTup (K : PySem.W.Frag) (n : Nat) (t : TGs) : TG := fun v σ H Q => ∃ a xs, v = .ref a ∧ SqT K H a xs ∧ xs.length = n ∧ t xs σ H Q
def gSub (to ti : TE) (t : TSet) : TG := fun v σ H Q => to σ H fun o H1 => ti σ H1 fun i H2 => t o i v H2 fun H3 => Q σ H3
theorem pg_sub {o i : Expr} {to ti : TE} {t : TSet} (ho : PE X o to) (hi : PE X i ti) (hs : PSet X t)
    (ha : ∀ v, assign (.Subscript o i pos) X.env v = (do
      let ov ← holding [v] (eval o X.env)
      let iv ← holding [v, ov] (eval i X.env)
      standAt pos
      holding [v, ov, iv] (setItem ov iv v)
      release [v, ov, iv] []) := by intro _; rfl) : PG X (.Subscript o i pos) (gSub to ti t) := by
  intro pins s σ H v u Q I r h
  rw [ha]
  refine wpAny_bind (wpAny_holding (thn (ho pins s σ H _ I h) fun ov s1 ⟨x, H1, I1, r1, q1⟩ => ?_))
  refine wpAny_bind (wpAny_holding (thn (hi pins s1 σ H1 _ I1 q1) fun iv s2 ⟨y, H2, I2, r2, q2⟩ => ?_))
  refine wpAny_bind (wpAny_standAt (wpAny_bind (wpAny_holding (thn (hs pins s2 σ H2 x y v ov iv u _ I2 r1 r2 r q2) fun _ s3 ⟨H3, I3, q3⟩ => ?_))))
  exact wpAny_release ⟨σ, H3, I3, q3⟩

def tAsg (te : TE) (g : TG) : TS := fun D σ H => te σ H fun x H1 => g x σ H1 D.nx
theorem ps_asg {tg e : Expr} {te : TE} {g : TG} (he : PE X e te) (hg : PG X tg g) (hs : swapsWithSole [tg] e pos.line X.env = pure false := by rfl) (hw : swappedStores [tg] e X.env = pure none := by rfl)
    (h1 : (assignEach [tg] X.env).map (·.2) = [assign tg X.env] := by rfl) : PS X (.Assign [tg] e pos) (tAsg te g) := by
  intro pins s σ H D I h
  refine wpAny_Assign_stores (thn (he pins s σ H _ I h) fun v s1 ⟨x, H1, I1, r1, q1⟩ => ?_) hs hw
  rw [h1]
  exact thn (hg pins s1 σ H1 x v _ I1 r1 q1) fun _ s2 q => q

theorem ps_set {i : Nat} {x : Str} {e : Expr} {te : TE} {pos' : Pos} (hN : X.N.Nodup) (hi : X.N[i]? = some x) (hx : Loc X.env.scope x) (he : PE X e te) (hs : swapsWith e (some (.Name x pos')) pos.line X.env = pure false := by rfl) (hf : X.fn x = true ∨ X.env.scope.names.lookup x = some .local := by first | exact .inl rfl | exact .inr rfl | assumption) :
    PS X (.Assign [.Name x pos'] e pos) (tAsg te (gName i)) := by
  intro pins s σ H D I h
  refine wpAny_Assign_Name (thn (he pins s σ H _ I h) fun v s1 ⟨y, H1, I1, r1, q1⟩ => ?_) hs
  exact store_ok I1 hN hi hx r1 (fun s2 I2 => ⟨_, H1, I2, q1⟩) hf

def tPar (i j : Nat) (ta : TA) : TS := fun D σ H => ta σ H fun vs H1 => ∃ v w, vs = [v, w] ∧ D.nx ((σ.set i (some v)).set j (some w)) H1
def tAug (i : Nat) (te : TE) (ti : TIp) : TS := fun D σ H => ∃ x, σ[i]? = some (some x) ∧ te σ H fun y H1 => ti x y H1 fun z H2 => D.nx (σ.set i (some z)) H2
def tAugS (to ti te : TE) (tget : V → V → Hp → VK → Prop) (tip : TIp) (tset : TSet) : TS := fun D σ H => to σ H fun o H1 => ti σ H1 fun i H2 => tget o i H2 fun x H3 => te σ H3 fun y H4 => tip x y H4 fun z H5 => tset o i z H5 fun H6 => D.nx σ H6

def PGet (X : Cx) (t : V → V → Hp → VK → Prop) : Prop :=
  ∀ (pins : List (Addr × Obj)) (s : Shared) (σ : St) (H : Hp) (o i : V) (ov iv : Value) (Q : VK), Inv X pins σ H s → RelV o ov → RelV i iv → t o i H Q →
    wpAny (model X.prog X.w) X.A (getItem ov iv) (EP X pins σ Q) X.xe s
def ipI (f : Int → Int → Int) : TIp := fun x y H Q => ∃ i j, x = .int i ∧ y = .int j ∧ Q (.int (f i j)) H
end


section
variable {X : Cx} {pos : Pos}

def tWhile (c : TT) (tb : TS) : TS := fun D σ H => ∃ W : Nat → St → Hp → Prop, (∃ m, W m σ H) ∧ ∀ m σ H, W m σ H →
  c σ H fun b H1 => if b = true then ∃ N : St → Hp → Prop, (∀ σ' H', N σ' H' → ∃ m', m' < m ∧ W m' σ' H') ∧ tb { D with nx := N, ct := N, bk := D.nx } σ H1 else D.nx σ H1
theorem ps_while {c : Expr} {body : List Stmt} {tc : TT} {tb : TS} (hp : PassesOwn (model X.prog X.w) X.A X.env X.xe) (hc : PT X c tc) (hb : PSs X body tb) : PS X (.While c body [] pos) (tWhile tc tb) := by
  intro pins s σ H D I h
  obtain ⟨W, ⟨m0, w0⟩, turn⟩ := h
  refine wpAny_While (codeAny_whileLoop (fun n s' => ∃ σ' H', Inv X pins σ' H' s' ∧ W n σ' H') ?_ m0 ⟨σ, H, I, w0⟩)
  rintro n s1 ⟨σ1, H1, I1, w1⟩
  refine wpAny_passesOwn hp (thn (hc pins s1 σ1 H1 _ I1 (turn n σ1 H1 w1)) fun b s2 ⟨H2, I2, q2⟩ => ?_)
  cases b with
  | true =>
    obtain ⟨N, hN, q2⟩ := q2
    rw [if_pos rfl]
    refine wpAny_passesOwn hp (thn (hb pins s2 σ1 H2 _ I2 q2) fun f s3 q3 => ?_)
    cases f with
    | next =>
      obtain ⟨σ3, H3, I3, n3⟩ := q3
      obtain ⟨m', hm, w3⟩ := hN σ3 H3 n3
      exact ⟨m', hm, σ3, H3, I3, w3⟩
    | cont =>
      obtain ⟨σ3, H3, I3, n3⟩ := q3
      obtain ⟨m', hm, w3⟩ := hN σ3 H3 n3
      exact ⟨m', hm, σ3, H3, I3, w3⟩
    | brk => exact q3
    | ret v => exact q3
  | false =>
    rw [if_neg Bool.false_ne_true]
    exact wpAny_execs_nil ⟨σ1, H2, I2, q2⟩
end



structure It where
  go : Nat → Hp → Prop
  yld : Nat → Hp → V → Hp → Prop
  stop : Nat → Hp → Prop

def FpOk (X : Cx) (pins : List (Addr × Obj)) (H : Hp) (b : Addr) : Prop :=
  H b = none ∧ b ≠ X.env.locals ∧ b ∉ X.fs ∧ (b ∈ X.ex ∨ X.s_0.heap.objs.size ≤ b) ∧ (∀ x c, X.env.cells.lookup x = some c → c ≠ b) ∧ ∀ p ∈ X.pn ++ pins, p.1 ≠ b
theorem Inv.fpOk {X : Cx} {pins : List (Addr × Obj)} {σ : St} {H H' : Hp} {s : Shared} {b : Addr} (I : Inv X pins σ H s) (hb : s.heap.objs.size ≤ b) (hn : H' b = none) : FpOk X pins H' b := by
  refine ⟨hn, Nat.ne_of_gt (Nat.lt_of_lt_of_le I.lt hb), I.nofs hb, .inr (Nat.le_trans I.sz hb), fun x c e z => ?_, fun p hp z => ?_⟩
  · obtain ⟨v, q⟩ := I.cell x c e
    exact absurd (Nat.lt_of_lt_of_le q.lt (by rw [z]; exact hb)) (Nat.lt_irrefl _)
  · exact absurd (Nat.lt_of_lt_of_le (Heap.lt_size (I.pin p hp).1) (by rw [z]; exact hb)) (Nat.lt_irrefl _)
structure Turn (P : Program) (w : World) (K : PySem.W.Frag) (tg : Expr) (J : It) (fp : List Addr) (it : Addr) (tn : Nat → Heap → Prop) : Prop where
  mem : it ∈ fp
  obj : ∀ i h, tn i h → ∀ b ∈ fp, ∃ o, h.get? b = some o ∧ ∀ v, o.data ≠ .cell v
  keep : ∀ i h h', tn i h → (∀ b ∈ fp, ∀ o, h.get? b = some o → h'.get? b = some o) → tn i h'
  item : ∀ (X : Cx), X.prog = P → X.w = w → X.K = K → X.calm = true → ∀ (i : Nat) (pins : List (Addr × Obj)) (s : Shared) (σ : St) (H : Hp) (E : Value → Shared → Prop), Inv X pins σ H s → (∀ b ∈ fp, FpOk X pins H b) → tn i s.heap → J.go i H →
    wpAny (model P w) X.A (pyNext (.ref it)) (fun r s1 => ∃ u, r = some u ∧
      wpAny (model P w) X.A (letOwnedTupleGo tg (.ref it) u) (fun _ s2 => ∃ x H', Inv X pins σ H' s2 ∧ RelV x u ∧ J.yld i H x H' ∧ tn (i + 1) s2.heap ∧ ∀ b ∈ fp, H' b = none) E s1) E s
  done : ∀ (X : Cx), X.prog = P → X.w = w → X.K = K → X.calm = true → ∀ (i : Nat) (pins : List (Addr × Obj)) (s : Shared) (σ : St) (H : Hp) (E : Value → Shared → Prop), Inv X pins σ H s → (∀ b ∈ fp, FpOk X pins H b) → tn i s.heap → J.stop i H →
    wpAny (model P w) X.A (pyNext (.ref it)) (fun r s1 => r = none ∧ Inv X pins σ H s1) E s
  self : ∀ (A : Around) (i : Nat) (s : Shared) (Q : Value → Shared → Prop) (E : Value → Shared → Prop), tn i s.heap → Q (.ref it) s → wpAny (model P w) A (pyIter (.ref it)) Q E s
abbrev TI := St → Hp → (It → Hp → Prop) → Prop

def PIE (X : Cx) (pins : List (Addr × Obj)) (σ : St) (tg : Expr) (R : It → Hp → Prop) (itv : Value) (s2 : Shared) : Prop :=
  ∃ (it : Addr) (fp : List Addr) (tn : Nat → Heap → Prop) (J : It) (H' : Hp), itv = .ref it ∧ Inv X pins σ H' s2 ∧ Turn X.prog X.w X.K tg J fp it tn ∧ tn 0 s2.heap ∧ (∀ b ∈ fp, FpOk X pins H' b) ∧ R J H'
def PI (X : Cx) (tg iter : Expr) (wi : TI) : Prop :=
  ∀ (pins : List (Addr × Obj)) (s : Shared) (σ : St) (H : Hp) (R : It → Hp → Prop), Inv X pins σ H s → wi σ H R →
    wpAny (model X.prog X.w) X.A (eval iter X.env) (fun v s1 => wpAny (model X.prog X.w) X.A (pyIter v) (PIE X pins σ tg R) X.xe s1) X.xe s


theorem go_of {M : Model} {A : Around} {E : Value → Shared → Prop} {s : Shared} {tg : Expr} {it : Addr} {u : Value} {o : Obj} {n : String} {vs : Array Value} {Q : Unit → Shared → Prop} (ho : s.heap.get? it = some o) (hc : o.cls = .type n) (hd : o.data = .fields vs)
    (hn : ["enumerate", "zip", "dict_itemiterator", "dict_reverseitemiterator", "odict_iterator", "itertools.zip_longest", "itertools.pairwise"].contains n = false) (hQ : Q () s) : wpAny M A (letOwnedTupleGo tg (.ref it) u) Q E s := by
  unfold letOwnedTupleGo
  cases tg <;> first
    | exact wpAny_pure hQ
    | (cases u <;> first
        | exact wpAny_pure hQ
        | (refine wpAny_bind (wpAny_load ho ?_)
           rw [hc, hd]
           show wpAny M A (if (["enumerate", "zip", "dict_itemiterator", "dict_reverseitemiterator", "odict_iterator", "itertools.zip_longest", "itertools.pairwise"].contains n && vs[0]? == some (rawInt _)) = true then _ else _) Q E s
           rw [if_neg (by intro h; rw [hn, Bool.false_and] at h; cases h)]
           exact wpAny_pure hQ))


def Itl (K : PySem.W.Frag) (a : Addr) : It :=
  ⟨fun i H => ∃ xs x, SqL K H a xs ∧ xs[i]? = some x, fun i H x H' => H' = H ∧ ∀ xs, SqL K H a xs → xs[i]? = some x, fun i H => ∃ xs, SqL K H a xs ∧ xs.length ≤ i⟩
def Itt (K : PySem.W.Frag) (a : Addr) : It :=
  ⟨fun i H => ∃ xs x, SqT K H a xs ∧ xs[i]? = some x, fun i H x H' => H' = H ∧ ∀ xs, SqT K H a xs → xs[i]? = some x, fun i H => ∃ xs, SqT K H a xs ∧ xs.length ≤ i⟩

def Itr (lo : Int) (n : Nat) : It := ⟨fun i _ => i < n, fun i H x H' => H' = H ∧ x = .int (lo + i), fun i _ => n ≤ i⟩
theorem turn_list {P : Program} {w : World} {K : PySem.W.Frag} {tg : Expr} (a it : Addr) : Turn P w K tg (Itl K a) [it] it (fun i h => h.IsListIter it a i) where
  mem := by simp
  obj := fun i h st b hb => by
    have e : b = it := by simpa using hb
    subst e
    obtain ⟨o, e, c, d⟩ := st
    exact ⟨o, e, fun v z => by rw [d] at z; cases z⟩
  keep := fun i h h' st k => st.at fun o e => k it (by simp) o e
  item := by
    intro X hP hw hK hc i pins s σ H E I hf st hg
    subst hP hw hK
    obtain ⟨xs, x, hq, hx⟩ := hg
    obtain ⟨its, rv, p, hz⟩ := I.list hq
    obtain ⟨u, hu, ru⟩ := rv.get hx
    obtain ⟨f0, f1, f2, f3, f4, f5⟩ := hf it (by simp)
    refine wpAny_pyNext_list_item st p.isList (x := u) (by simpa using hu) fun h' st' sb => ?_
    have I1 : Inv X pins σ H { s with heap := h' } := I.turned (t' := s.toks) (fun b o hb e => (sb.2 b hb).trans e) f0 f1 f3 f4 f5
    obtain ⟨o, e, c, d⟩ := id st'
    exact ⟨u, rfl, go_of (s := { s with heap := h' }) e c d (by decide) ⟨x, H, I1, ru, ⟨rfl, fun ys hy => by rw [I.list_inj hy hq]; exact hx⟩, st', fun b hb => (hf b hb).1⟩⟩
  done := by
    intro X hP hw hK hc i pins s σ H E I hf st hg
    subst hP hw hK
    obtain ⟨xs, hq, hx⟩ := hg
    obtain ⟨its, rv, p, hz⟩ := I.list hq
    obtain ⟨f0, f1, f2, f3, f4, f5⟩ := hf it (by simp)
    have hl := rv.length
    exact wpAny_pyNext_list_end (I.ok.hd hc) st p.isList (by simp; omega) fun h' eb => ⟨rfl, I.turned (t' := s.toks) (fun b o hb e => eb b o hb e) f0 f1 f3 f4 f5⟩
  self := fun _ _ _ _ _ st h => wpAny_pyIter_listiter st h
theorem turn_range {P : Program} {w : World} {K : PySem.W.Frag} {tg : Expr} (it : Addr) (lo : Int) (n : Nat) : Turn P w K tg (Itr lo n) [it] it (fun i h => IsRangeIter h it (lo + (i : Nat) * 1) ((n : Int) - (i : Nat)) 1) where
  mem := by simp
  obj := fun i h st b hb => by
    have e : b = it := by simpa using hb
    subst e
    exact ⟨_, st, fun v z => by
      have z' : Data.fields _ = Data.cell v := z
      cases z'⟩
  keep := fun i h h' st k => k it (by simp) _ st
  item := by
    intro X hP hw hK hc i pins s σ H E I hf st hg
    subst hP hw hK
    obtain ⟨f0, f1, f2, f3, f4, f5⟩ := hf it (by simp)
    have W := Walks.range (prog := X.prog) (w := X.w) (I.ok.hd hc) it lo 1 n
    refine W.item i s _ _ hg st fun v h' tk hv st' kk => ?_
    obtain ⟨t, rfl⟩ := hv
    have I1 : Inv X pins σ H { s with heap := h', toks := tk } := I.turned (fun b o hb e => kk b o (by simpa using hb) e) f0 f1 f3 f4 f5
    refine ⟨_, rfl, go_of (s := { s with heap := h', toks := tk }) (n := "range_iterator") st' rfl rfl (by decide) ⟨.int (lo + i), H, I1, ⟨t, ?_⟩, ⟨rfl, rfl⟩, st', fun b hb => (hf b hb).1⟩⟩
    rw [Int.mul_one]
  done := by
    intro X hP hw hK hc i pins s σ H E I hf st hg
    subst hP hw hK
    obtain ⟨f0, f1, f2, f3, f4, f5⟩ := hf it (by simp)
    exact wpAny_pyNext_range_end (I.ok.hd hc) st (by have : n ≤ i := hg; omega) fun h' eb => ⟨rfl, I.turned (t' := s.toks) (fun b o hb e => eb b o hb e) f0 f1 f3 f4 f5⟩
  self := fun _ _ _ _ _ st h => wpAny_pyIter_rangeiter st h
end L2

namespace L2
open PySem PySem.Spec PyProof.Rows
section
variable {X : Cx} {tg : Expr}
def iList (K : PySem.W.Frag) (tl : TE) : TI := fun σ H R => tl σ H fun x H1 => ∃ a, x = .ref a ∧ (∃ xs, SqL K H1 a xs) ∧ R (Itl K a) H1
def iTup (K : PySem.W.Frag) (tl : TE) : TI := fun σ H R => tl σ H fun x H1 => ∃ a, x = .ref a ∧ (∃ xs, SqT K H1 a xs) ∧ R (Itt K a) H1
theorem pi_list {l : Expr} {tl : TE} (hl : PE X l tl) : PI X tg l (iList X.K tl) := by
  intro pins s σ H R I h
  refine thn (hl pins s σ H _ I h) fun v s1 ⟨x, H1, I1, r1, q1⟩ => ?_
  obtain ⟨a, e, ⟨xs, hq⟩, q⟩ := q1
  subst e
  cases r1
  obtain ⟨its, rv, p, hz⟩ := I1.list hq
  refine wpAny_pyIter_list p.isList ?_
  refine ⟨s1.heap.objs.size, [s1.heap.objs.size], _, _, H1, rfl, I1.kept (t' := s1.toks) fun b o e => Heap.get?_push_of_some _ e, turn_list a _, ⟨_, Heap.get?_push_size _ rfl, rfl, rfl⟩, fun b hb => ?_, q⟩
  have e : b = s1.heap.objs.size := by simpa using hb
  subst e
  exact I1.fpOk (Nat.le_refl _) (I1.hok.fresh (Nat.le_refl _))
theorem range_it {pins : List (Addr × Obj)} {σ : St} {H : Hp} {s : Shared} {R : It → Hp → Prop} {E : Value → Shared → Prop} {lo hi : Int} {t u v : Tok} {tk : Nat} (I : Inv X pins σ H s) (h1 : -(2 ^ 62) ≤ lo) (h2 : lo < 2 ^ 62) (h3 : -(2 ^ 62) ≤ hi) (h4 : hi < 2 ^ 62)
    (q : R (Itr lo (hi - lo).toNat) H) : wpAny (model X.prog X.w) X.A (pyIter (.ref s.heap.objs.size)) (PIE X pins σ tg R) E { s with heap := s.heap.push { cls := .type "range", data := .fields #[.int lo t, .int hi u, .int 1 v] }, toks := tk } := by
  refine wpAny_pyIter_range (IsRange.new ..) (small_one h1 h2 h3 h4) ?_
  have I1 : Inv X pins σ H { s with heap := s.heap.push { cls := .type "range", data := .fields #[.int lo t, .int hi u, .int 1 v] }, toks := tk } := I.kept fun b o e => Heap.get?_push_of_some _ e
  refine ⟨(s.heap.push { cls := .type "range", data := .fields #[.int lo t, .int hi u, .int 1 v] }).objs.size, [(s.heap.push { cls := .type "range", data := .fields #[.int lo t, .int hi u, .int 1 v] }).objs.size], _, _, H, rfl,
    I1.kept (t' := tk) fun b o e => Heap.get?_push_of_some _ e, turn_range _ lo (hi - lo).toNat, ?_, fun b hb => ?_, q⟩
  · have e1 : lo + ((0 : Nat) : Int) * 1 = lo := by simp
    have e2 : (((hi - lo).toNat : Nat) : Int) - ((0 : Nat) : Int) = Builtin.Range.rangeSize lo hi 1 := by rw [rangeSize_one]; split <;> omega
    show IsRangeIter _ _ (lo + ((0 : Nat) : Int) * 1) ((((hi - lo).toNat : Nat) : Int) - ((0 : Nat) : Int)) 1
    rw [e1, e2]
    exact Heap.get?_push_size _ rfl
  · have e : b = (s.heap.push { cls := .type "range", data := .fields #[.int lo t, .int hi u, .int 1 v] }).objs.size := by simpa using hb
    subst e
    exact I1.fpOk (Nat.le_refl _) (I1.hok.fresh (Nat.le_refl _))
def iRng1 (ta : TA) : TI := fun σ H R => ta σ H fun vs H1 => ∃ j : Int, vs = [.int j] ∧ -(2 ^ 62) ≤ j ∧ j < 2 ^ 62 ∧ R (Itr 0 j.toNat) H1
def iRng2 (ta : TA) : TI := fun σ H R => ta σ H fun vs H1 => ∃ i j : Int, vs = [.int i, .int j] ∧ (-(2 ^ 62) ≤ i ∧ i < 2 ^ 62 ∧ -(2 ^ 62) ≤ j ∧ j < 2 ^ 62) ∧ R (Itr i (j - i).toNat) H1
theorem pi_range1 {a : Expr} {ta : TA} {p pos : Pos} (hg : Gl X "range") (hm : X.mg "range" = none) (ha : PA X [a] ta) (hs : starEach [a] X.env = [(false, eval a X.env)] := by rfl) : PI X tg (.Call (.Name "range" p) [a] [] pos) (iRng1 ta) := by
  intro pins s σ H R I h
  refine Call_ (ld_blt I hg hm boot_range (PyProof.Rows.callWith_type1 (thn (ha pos pins s σ H _ I h) fun us s1 ⟨vs, H1, I1, r1, q1⟩ => ?_) hs rfl))
  obtain ⟨j, e, q1, q2, q⟩ := q1
  subst e
  cases r1 with
  | cons r rr =>
    cases rr
    obtain ⟨t, rfl⟩ := r
    exact call_range_1 (range_it I1 (by omega) (by omega) q1 q2 (by simpa using q))
theorem pi_range2 {a b : Expr} {ta : TA} {p pos : Pos} (hg : Gl X "range") (hm : X.mg "range" = none) (ha : PA X [a, b] ta) (hs : starEach [a, b] X.env = [(false, eval a X.env), (false, eval b X.env)] := by rfl) (hs2 : starEach [b] X.env = [(false, eval b X.env)] := by rfl) :
    PI X tg (.Call (.Name "range" p) [a, b] [] pos) (iRng2 ta) := by
  intro pins s σ H R I h
  refine Call_ (ld_blt I hg hm boot_range (PyProof.Rows.callWith_type1 (thn (ha pos pins s σ H _ I h) fun us s1 ⟨vs, H1, I1, r1, q1⟩ => ?_) (by rw [hs, hs2]) (by rw [hs2]; rfl)))
  obtain ⟨i, j, e, ⟨q1, q2, q3, q4⟩, q⟩ := q1
  subst e
  cases r1 with
  | cons r rr =>
    cases rr with
    | cons r' rr =>
      cases rr
      obtain ⟨t, rfl⟩ := r
      obtain ⟨t', rfl⟩ := r'
      exact call_range_2 (range_it I1 q1 q2 q3 q4 q)



def tFor (wi : TI) (g : TG) (tb : TS) : TS := fun D σ H => wi σ H fun J H1 => ∃ W : Nat → Nat → St → Hp → Prop, (∃ m, W 0 m σ H1) ∧ ∀ i m σ H, W i m σ H →
  (J.stop i H ∧ D.nx σ H) ∨ (J.go i H ∧ ∃ N : St → Hp → Prop, (∀ σ' H', N σ' H' → ∃ m', m' < m ∧ W (i + 1) m' σ' H') ∧ ∀ x H', J.yld i H x H' → g x σ H' fun σ2 H2 => tb { D with nx := N, ct := N, bk := D.nx } σ2 H2)

def pinsAt (fp : List Addr) (h : Heap) : List (Addr × Obj) := fp.filterMap fun b => (h.get? b).map fun o => (b, o)
theorem mem_pinsAt {fp : List Addr} {h : Heap} {b : Addr} {o : Obj} (hb : b ∈ fp) (e : h.get? b = some o) : (b, o) ∈ pinsAt fp h := List.mem_filterMap.mpr ⟨b, hb, by rw [e]; rfl⟩
theorem of_pinsAt {fp : List Addr} {h : Heap} {p : Addr × Obj} (hp : p ∈ pinsAt fp h) : p.1 ∈ fp ∧ h.get? p.1 = some p.2 := by
  obtain ⟨b, hb, e⟩ := List.mem_filterMap.mp hp
  cases q : h.get? b with
  | none => rw [q] at e; cases e
  | some o =>
    rw [q] at e
    have e' : (b, o) = p := Option.some.inj e
    subst e'
    exact ⟨hb, q⟩
theorem Inv.pinned {pins : List (Addr × Obj)} {σ : St} {H : Hp} {s : Shared} {fp : List Addr} (I : Inv X pins σ H s) (hf : ∀ b ∈ fp, FpOk X pins H b) (ho : ∀ b ∈ fp, ∃ o, s.heap.get? b = some o ∧ ∀ v, o.data ≠ .cell v) : Inv X (pins ++ pinsAt fp s.heap) σ H s :=
  I.pins_of fun p hp => (List.mem_append.mp hp).elim (fun z => I.pin p (List.mem_append_right _ z)) fun z => by
    obtain ⟨hb, e⟩ := of_pinsAt z
    obtain ⟨f0, f1, f2, _⟩ := hf p.1 hb
    obtain ⟨o, e', d⟩ := ho p.1 hb
    rw [e] at e'; cases e'
    exact ⟨e, f0, f1, f2, d⟩
theorem Inv.unpinned {pins pl : List (Addr × Obj)} {σ : St} {H : Hp} {s : Shared} (I : Inv X (pins ++ pl) σ H s) : Inv X pins σ H s := I.pins_of fun p hp => I.pin p (List.mem_append_right _ (List.mem_append_left _ hp))
theorem ps_for {iter : Expr} {body : List Stmt} {wi : TI} {g : TG} {tb : TS} {pos : Pos} (hp : PassesOwn (model X.prog X.w) X.A X.env X.xe) (hc : X.calm = true) (hi : PI X tg iter wi) (hg : PG X tg g) (hb : PSs X body tb)
    (hs : ∀ x, foldedSetIterable iter X.env x = pure x := by intro _; rfl) : PS X (.For tg iter body [] pos) (tFor wi g tb) := by
  intro pins s σ H D I h
  refine wpAny_For (thn (hi pins s σ H _ I h) fun v s1 h1 => thn h1 fun itv s2 h2 => ?_) hs
  obtain ⟨it, fp, tn, J, H2, e, I2, T, st2, f2, W, ⟨m0, w0⟩, turn⟩ := h2
  subst e
  -- what stays true of the iterator's objects through the loop
  have stat : ∀ {H' : Hp}, (∀ b ∈ fp, H' b = none) → ∀ b ∈ fp, FpOk X pins H' b := fun hn b hb => ⟨hn b hb, (f2 b hb).2⟩
  refine codeAny_forLoop_any (fun n s' => ∃ i σ' H', Inv X pins σ' H' s' ∧ tn i s'.heap ∧ (∀ b ∈ fp, H' b = none) ∧ W i n σ' H') ?_ m0 ⟨0, σ, H2, I2, st2, fun b hb => (f2 b hb).1, w0⟩
  rintro n s3 ⟨i, σ3, H3, I3, st3, fr3, w3⟩
  rcases turn i n σ3 H3 w3 with ⟨stop, qn⟩ | ⟨go, N, hN, step⟩
  · refine wpAny_passesOwn hp (thn (T.done X rfl rfl rfl hc i pins s3 σ3 H3 X.xe I3 (stat fr3) st3 stop) fun r s4 ⟨hr, I4⟩ => ?_)
    subst hr
    exact wpAny_execs_nil ⟨σ3, H3, I4, qn⟩
  · refine wpAny_passesOwn hp (thn (T.item X rfl rfl rfl hc i pins s3 σ3 H3 X.xe I3 (stat fr3) st3 go) fun r s4 ⟨u, hr, h4⟩ => ?_)
    subst hr
    refine wpAny_passesOwn hp (thn h4 fun _ s5 ⟨x, H5, I5, r5, y5, st5, fr5⟩ => ?_)
    have I5' := I5.pinned (stat fr5) (T.obj _ _ st5)
    refine wpAny_passesOwn hp (thn (hg _ s5 σ3 H5 x u _ I5' r5 (step x H5 y5)) fun _ s6 ⟨σ6, H6, I6, q6⟩ => ?_)
    refine wpAny_passesOwn hp (thn (hb _ s6 σ6 H6 _ I6 q6) fun f s7 q7 => ?_)
    have again : ∀ {σ7 : St} {H7 : Hp}, Inv X (pins ++ pinsAt fp s5.heap) σ7 H7 s7 → N σ7 H7 → ∃ m, m < n ∧ ∃ i σ' H', Inv X pins σ' H' s7 ∧ tn i s7.heap ∧ (∀ b ∈ fp, H' b = none) ∧ W i m σ' H' := fun {σ7 H7} I7 n7 => by
      obtain ⟨m', hm, w7⟩ := hN σ7 H7 n7
      refine ⟨m', hm, i + 1, σ7, H7, I7.unpinned, T.keep _ _ _ st5 fun b hb o e => (I7.pin (b, o) (List.mem_append_right _ (List.mem_append_right _ (mem_pinsAt hb e)))).1, fun b hb => ?_, w7⟩
      obtain ⟨o, e, d⟩ := T.obj _ _ st5 b hb
      exact (I7.pin (b, o) (List.mem_append_right _ (List.mem_append_right _ (mem_pinsAt hb e)))).2.1
    cases f with
    | next => obtain ⟨σ7, H7, I7, n7⟩ := q7; exact again I7 n7
    | cont => obtain ⟨σ7, H7, I7, n7⟩ := q7; exact again I7 n7
    | brk => obtain ⟨σ7, H7, I7, q7⟩ := q7; exact ⟨σ7, H7, I7.unpinned, q7⟩
    | ret v => obtain ⟨x7, σ7, H7, I7, r7, q7⟩ := q7; exact ⟨x7, σ7, H7, I7.unpinned, r7, q7⟩
end



theorem for_list {K : PySem.W.Frag} {a : Addr} {xs : List V} {g : TG} {tb : TS} {D : Ends} {σ : St} {H : Hp} (Pv : Nat → St → Hp → Prop) (h0 : Pv 0 σ H) (hl : ∀ i σ H, i ≤ xs.length → Pv i σ H → SqL K H a xs)
    (hs : ∀ i x σ H, xs[i]? = some x → Pv i σ H → g x σ H fun σ2 H2 => tb { D with nx := Pv (i + 1), ct := Pv (i + 1), bk := D.nx } σ2 H2) (hd : ∀ σ H, Pv xs.length σ H → D.nx σ H) :
    ∃ W : Nat → Nat → St → Hp → Prop, (∃ m, W 0 m σ H) ∧ ∀ i m σ H, W i m σ H →
      ((Itl K a).stop i H ∧ D.nx σ H) ∨ ((Itl K a).go i H ∧ ∃ N : St → Hp → Prop, (∀ σ' H', N σ' H' → ∃ m', m' < m ∧ W (i + 1) m' σ' H') ∧ ∀ x H', (Itl K a).yld i H x H' → g x σ H' fun σ2 H2 => tb { D with nx := N, ct := N, bk := D.nx } σ2 H2) := by
  refine ⟨fun i m σ H => m = xs.length - i ∧ i ≤ xs.length ∧ Pv i σ H, ⟨xs.length, by simp, Nat.zero_le _, h0⟩, ?_⟩
  rintro i m σ H ⟨rfl, hi, p⟩
  have q := hl i σ H hi p
  by_cases hlt : i < xs.length
  · refine .inr ⟨⟨xs, xs[i], q, by simp [hlt]⟩, Pv (i + 1), fun σ' H' p' => ⟨xs.length - (i + 1), by omega, rfl, hlt, p'⟩, fun x H' y => ?_⟩
    obtain ⟨e, y⟩ := y
    subst e
    exact hs i x σ _ (y xs q) p
  · have e : i = xs.length := by omega
    subst e
    exact .inl ⟨⟨xs, q, Nat.le_refl _⟩, hd σ H p⟩
theorem for_range {lo : Int} {n : Nat} {g : TG} {tb : TS} {D : Ends} {σ : St} {H : Hp} (Pv : Nat → St → Hp → Prop) (h0 : Pv 0 σ H)
    (hs : ∀ i σ H, i < n → Pv i σ H → g (.int (lo + i)) σ H fun σ2 H2 => tb { D with nx := Pv (i + 1), ct := Pv (i + 1), bk := D.nx } σ2 H2) (hd : ∀ σ H, Pv n σ H → D.nx σ H) :
    ∃ W : Nat → Nat → St → Hp → Prop, (∃ m, W 0 m σ H) ∧ ∀ i m σ H, W i m σ H →
      ((Itr lo n).stop i H ∧ D.nx σ H) ∨ ((Itr lo n).go i H ∧ ∃ N : St → Hp → Prop, (∀ σ' H', N σ' H' → ∃ m', m' < m ∧ W (i + 1) m' σ' H') ∧ ∀ x H', (Itr lo n).yld i H x H' → g x σ H' fun σ2 H2 => tb { D with nx := N, ct := N, bk := D.nx } σ2 H2) := by
  refine ⟨fun i m σ H => m = n - i ∧ i ≤ n ∧ Pv i σ H, ⟨n, by simp, Nat.zero_le _, h0⟩, ?_⟩
  rintro i m σ H ⟨rfl, hi, p⟩
  by_cases hlt : i < n
  · refine .inr ⟨hlt, Pv (i + 1), fun σ' H' p' => ⟨n - (i + 1), by omega, rfl, hlt, p'⟩, fun x H' y => ?_⟩
    obtain ⟨e, y⟩ := y
    subst e y
    exact hs i σ _ hlt p
  · have e : i = n := by omega
    subst e
    exact .inl ⟨Nat.le_refl _, hd σ H p⟩

theorem while_by {c : TT} {tb : TS} {D : Ends} {σ : St} {H : Hp} (Pv : St → Hp → Prop) (μ : St → Hp → Nat) (h0 : Pv σ H)
    (hs : ∀ σ H, Pv σ H → c σ H fun b H1 => if b = true then tb { D with nx := fun σ' H' => Pv σ' H' ∧ μ σ' H' < μ σ H, ct := fun σ' H' => Pv σ' H' ∧ μ σ' H' < μ σ H, bk := D.nx } σ H1 else D.nx σ H1)
    (mono : ∀ σ H Q Q', (∀ b H1, Q b H1 → Q' b H1) → c σ H Q → c σ H Q') : tWhile c tb D σ H := by
  refine ⟨fun m σ H => m = μ σ H ∧ Pv σ H, ⟨_, rfl, h0⟩, ?_⟩
  rintro m σ H ⟨rfl, p⟩
  refine mono σ H _ _ (fun b H1 q => ?_) (hs σ H p)
  cases b with
  | true => exact ⟨_, fun σ' H' ⟨p', l⟩ => ⟨_, l, rfl, p'⟩, q⟩
  | false => exact q
end L2

namespace L2
open PySem PySem.Spec PyProof.Rows

abbrev R2 := V → V → Hp → VK → Prop

def OpR (X : Cx) (f : Value → Value → Sem Value) (r : R2) : Prop :=
  ∀ (pins : List (Addr × Obj)) (s : Shared) (σ : St) (H : Hp) (x y : V) (v u : Value) (Q : VK), Inv X pins σ H s → RelV x v → RelV y u → r x y H Q →
    wpAny (model X.prog X.w) X.A (f v u) (EP X pins σ Q) X.xe s

def UnR (X : Cx) (f : Value → Sem Value) (r : V → Hp → VK → Prop) : Prop :=
  ∀ (pins : List (Addr × Obj)) (s : Shared) (σ : St) (H : Hp) (x : V) (v : Value) (Q : VK), Inv X pins σ H s → RelV x v → r x H Q →
    wpAny (model X.prog X.w) X.A (f v) (EP X pins σ Q) X.xe s

def CallR (X : Cx) (f : Value) (r : List V → Hp → VK → Prop) : Prop :=
  ∀ (pins : List (Addr × Obj)) (s : Shared) (σ : St) (H : Hp) (xs : List V) (us : List Value) (Q : VK), Inv X pins σ H s → Vals xs us → r xs H Q →
    wpAny (model X.prog X.w) X.A (call f us) (EP X pins σ Q) X.xe s

def TruR (X : Cx) (r : V → Hp → (Bool → Hp → Prop) → Prop) : Prop :=
  ∀ (pins : List (Addr × Obj)) (s : Shared) (σ : St) (H : Hp) (x : V) (v : Value) (Q : Bool → Hp → Prop), Inv X pins σ H s → RelV x v → r x H Q →
    wpAny (model X.prog X.w) X.A (truthy v) (TP X pins σ Q) X.xe s

def tOp (r : R2) (ta tb : TE) : TE := fun σ H Q => ta σ H fun x H1 => tb σ H1 fun y H2 => r x y H2 Q
def tUn (r : V → Hp → VK → Prop) (ta : TE) : TE := fun σ H Q => ta σ H fun x H1 => r x H1 Q

def rI (C : Int → Int → Prop) (g : Int → Int → V) : R2 := fun x y H Q => ∃ i j, x = .int i ∧ y = .int j ∧ C i j ∧ Q (g i j) H
def rI0 (g : Int → Int → V) : R2 := fun x y H Q => ∃ i j, x = .int i ∧ y = .int j ∧ Q (g i j) H
def rU (g : Int → V) : V → Hp → VK → Prop := fun x H Q => ∃ i, x = .int i ∧ Q (g i) H

section
variable {X : Cx} {a b c : Expr} {ta tb tc : TE} {pos : Pos}

theorem binT (ha : PE X a ta) (hb : PE X b tb) {pins : List (Addr × Obj)} {s : Shared} {σ : St} {H : Hp} {R : V → V → Hp → Prop} (I : Inv X pins σ H s)
    (h : ta σ H fun x H1 => tb σ H1 fun y H2 => R x y H2) {Q : Value → Shared → Prop} {f : Value → Value → Sem Value}
    (hf : ∀ v u s2 x y H2, Inv X pins σ H2 s2 → RelV x v → RelV y u → R x y H2 → wpAny (model X.prog X.w) X.A (f v u) Q X.xe s2) :
    wpAny (model X.prog X.w) X.A (eval a X.env) (fun v s₁ => wpAny (model X.prog X.w) X.A (eval b X.env) (fun u s₂ => wpAny (model X.prog X.w) X.A (f v u) Q X.xe s₂) X.xe s₁) X.xe s := by
  refine thn (ha pins s σ H _ I h) fun v s1 ⟨x, H1, I1, r1, q1⟩ => ?_
  refine thn (hb pins s1 σ H1 _ I1 q1) fun u s2 ⟨y, H2, I2, r2, q2⟩ => ?_
  exact hf v u s2 x y H2 I2 r1 r2 q2

theorem pe_op {op : Operator} {r : R2} (ho : OpR X (binaryOp op) r) (ha : PE X a ta) (hb : PE X b tb) : PE X (.BinOp a op b pos) (tOp r ta tb) := by
  intro pins s σ H Q I h
  exact wpAny_BinOp (binT ha hb I h fun v u s2 x y H2 I2 rx ry q => ho pins s2 σ H2 x y v u Q I2 rx ry q)
theorem pe_un {op : UnaryOp} {r : V → Hp → VK → Prop} (ho : UnR X (unaryOp op) r) (ha : PE X a ta) : PE X (.UnaryOp op a pos) (tUn r ta) := by
  intro pins s σ H Q I h
  exact UnaryOp_ (thn (ha pins s σ H _ I h) fun v s1 ⟨x, H1, I1, r1, q1⟩ => ho pins s1 σ H1 x v Q I1 r1 q1)

theorem opI {f : Value → Value → Sem Value} {C : Int → Int → Prop} {g : Int → Int → Int}
    (rule : ∀ (i j : Int) (t u : Tok) (s : Shared) (Q : Value → Shared → Prop) (E : Value → Shared → Prop), C i j → Q (.int (g i j) s.toks) { s with toks := s.toks + 1 } → wpAny (model X.prog X.w) X.A (f (.int i t) (.int j u)) Q E s) :
    OpR X f (rI C fun i j => .int (g i j)) := by
  intro pins s σ H x y v u Q I rx ry h
  obtain ⟨i, j, rfl, rfl, hc, q⟩ := h
  obtain ⟨t, rfl⟩ := rx
  obtain ⟨t', rfl⟩ := ry
  exact rule i j t t' s _ _ hc ⟨.int (g i j), H, I.tok _, ⟨_, rfl⟩, q⟩
theorem opI0 {f : Value → Value → Sem Value} {g : Int → Int → Int}
    (rule : ∀ (i j : Int) (t u : Tok) (s : Shared) (Q : Value → Shared → Prop) (E : Value → Shared → Prop), Q (.int (g i j) s.toks) { s with toks := s.toks + 1 } → wpAny (model X.prog X.w) X.A (f (.int i t) (.int j u)) Q E s) :
    OpR X f (rI0 fun i j => .int (g i j)) := by
  intro pins s σ H x y v u Q I rx ry h
  obtain ⟨i, j, rfl, rfl, q⟩ := h
  obtain ⟨t, rfl⟩ := rx
  obtain ⟨t', rfl⟩ := ry
  exact rule i j t t' s _ _ ⟨.int (g i j), H, I.tok _, ⟨_, rfl⟩, q⟩
theorem opB0 {f : Value → Value → Sem Value} {g : Int → Int → Bool}
    (rule : ∀ (i j : Int) (t u : Tok) (s : Shared) (Q : Value → Shared → Prop) (E : Value → Shared → Prop), Q (.bool (g i j)) s → wpAny (model X.prog X.w) X.A (f (.int i t) (.int j u)) Q E s) :
    OpR X f (rI0 fun i j => .bl (g i j)) := by
  intro pins s σ H x y v u Q I rx ry h
  obtain ⟨i, j, rfl, rfl, q⟩ := h
  obtain ⟨t, rfl⟩ := rx
  obtain ⟨t', rfl⟩ := ry
  exact rule i j t t' s _ _ ⟨.bl (g i j), H, I, rfl, q⟩

def CDiv (i j : Int) : Prop := 0 < j ∧ j < 1073741824
def CDivN (i j : Int) : Prop := j ≠ 0 ∧ j.natAbs < 1073741824
def CPow (i j : Int) : Prop := 0 ≤ j ∧ j ≤ 1000000 ∧ i.natAbs < 2 ^ 64
def CMul (i j : Int) : Prop := (-(2 ^ 64) < i ∧ i < 2 ^ 64) ∨ (-(2 ^ 64) < j ∧ j < 2 ^ 64)
theorem CMul.ok {i j : Int} (h : CMul i j) : IntMulOk i j := by
  rcases h with ⟨h1, h2⟩ | ⟨h1, h2⟩
  · exact .of_left (intBits_le_64 h1 h2)
  · exact .of_right (intBits_le_64 h1 h2)
theorem op_add : OpR X (binaryOp .Add) (rI0 fun i j => .int (i + j)) := opI0 fun _ _ _ _ _ _ _ q => add_int q
theorem op_sub : OpR X (binaryOp .Sub) (rI0 fun i j => .int (i - j)) := opI0 fun _ _ _ _ _ _ _ q => sub_int q
theorem op_mul : OpR X (binaryOp .Mult) (rI CMul fun i j => .int (i * j)) := opI fun _ _ _ _ _ _ _ hc q => mul_int q hc.ok

theorem op_fdiv : OpR X (binaryOp .FloorDiv) (rI CDiv fun i j => .int (i / j)) := opI fun i j _ _ _ _ _ hc q => by
  have h1 : (0 : Int) < j := hc.1
  have h2 : j < 1073741824 := hc.2
  exact floordiv_int (by omega) (by rw [Int.fdiv_eq_ediv_of_nonneg i (by omega)]; exact q) (.inl (PyProof.noPylong_small (by omega)))
theorem op_mod : OpR X (binaryOp .Mod) (rI (fun _ j => 0 < j) fun i j => .int (i % j)) := opI fun i j _ _ _ _ _ hc q => by
  have h1 : (0 : Int) < j := hc
  exact mod_int' (by omega) (by rw [Int.fmod_eq_emod_of_nonneg i (by omega)]; exact q)
theorem unI {f : Value → Sem Value} {g : Int → Int}
    (rule : ∀ (i : Int) (t : Tok) (s : Shared) (Q : Value → Shared → Prop) (E : Value → Shared → Prop), Q (.int (g i) s.toks) { s with toks := s.toks + 1 } → wpAny (model X.prog X.w) X.A (f (.int i t)) Q E s) :
    UnR X f (rU fun i => .int (g i)) := by
  intro pins s σ H x v Q I rx h
  obtain ⟨i, rfl, q⟩ := h
  obtain ⟨t, rfl⟩ := rx
  exact rule i t s _ _ ⟨.int (g i), H, I.tok _, ⟨_, rfl⟩, q⟩
theorem un_neg : UnR X (unaryOp .USub) (rU fun i => .int (-i)) := unI fun _ _ _ _ _ q => neg_int q
end



def scal : V → V → Bool
  | .non, .non => true | .non, .int _ => true | .int _, .non => true | .non, .bl _ => true | .bl _, .non => true | .non, .str _ => true | .str _, .non => true
  | .int _, .int _ => true | .bl _, .bl _ => true | .str _, .str _ => true | .byt _, .byt _ => true
  | .int _, .str _ => true | .str _, .int _ => true | .bl _, .str _ => true | .str _, .bl _ => true
  | _, _ => false
def rEq : R2 := fun x y H Q => scal x y = true ∧ Q (.bl (decide (x = y))) H
def rNe : R2 := fun x y H Q => scal x y = true ∧ Q (.bl (!decide (x = y))) H

theorem dec_int {i j : Int} : decide (V.int i = V.int j) = (i == j) := by
  rw [Bool.eq_iff_iff]
  simp
theorem dec_bl {i j : Bool} : decide (V.bl i = V.bl j) = (i == j) := by
  rw [Bool.eq_iff_iff]
  simp
theorem dec_str {i j : Str} : decide (V.str i = V.str j) = (i == j) := by
  rw [Bool.eq_iff_iff]
  simp
theorem dec_byt {i j : Array UInt8} : decide (V.byt i = V.byt j) = (i.toList == j.toList) := by
  rw [Bool.eq_iff_iff]
  cases i
  cases j
  simp

section
variable {X : Cx} {a b c : Expr} {ta tb tc : TE} {pos : Pos}
theorem fin_bl {pins : List (Addr × Obj)} {σ : St} {H : Hp} {s : Shared} {Q : VK} {k k' : Bool} (I : Inv X pins σ H s) (q : Q (.bl k) H) (e : k = k') : EP X pins σ Q (.bool k') s := by
  subst e
  exact ⟨.bl k, H, I, rfl, q⟩
theorem op_eq : OpR X (compareOp .Eq) rEq := by
  intro pins s σ H x y v u Q I rx ry h
  obtain ⟨hs, q⟩ := h
  cases x with
  | non =>
    cases rx
    cases y with
    | non => cases ry; exact PySem.EqNone.eq_none_none (fin_bl I q (by simp))
    | bl j => cases ry; exact PySem.EqNone.eq_none_bool (fin_bl I q (by simp))
    | int j => obtain ⟨t', rfl⟩ := ry; exact PySem.EqNone.eq_none_int (fin_bl I q (by simp))
    | str j => obtain ⟨t', rfl⟩ := ry; exact PySem.EqNone.eq_none_str (fin_bl I q (by simp))
    | _ => exact absurd (show false = true from hs) Bool.false_ne_true
  | bl i =>
    cases rx
    cases y with
    | non => cases ry; exact PySem.EqNone.eq_bool_none (fin_bl I q (by simp))
    | bl j => cases ry; exact eq_bool (fin_bl I q dec_bl)
    | str j => obtain ⟨t', rfl⟩ := ry; exact PySem.EqMixed.eq_bool_str (fin_bl I q (by simp))
    | _ => exact absurd (show false = true from hs) Bool.false_ne_true
  | int i =>
    obtain ⟨t, rfl⟩ := rx
    cases y with
    | non => cases ry; exact PySem.EqNone.eq_int_none (fin_bl I q (by simp))
    | int j => obtain ⟨t', rfl⟩ := ry; exact eq_int (fin_bl I q dec_int)
    | str j => obtain ⟨t', rfl⟩ := ry; exact PySem.EqMixed.eq_int_str (fin_bl I q (by simp))
    | _ => exact absurd (show false = true from hs) Bool.false_ne_true
  | str i =>
    obtain ⟨t, rfl⟩ := rx
    cases y with
    | non => cases ry; exact PySem.EqNone.eq_str_none (fin_bl I q (by simp))
    | bl j => cases ry; exact PySem.EqMixed.eq_str_bool (fin_bl I q (by simp))
    | int j => obtain ⟨t', rfl⟩ := ry; exact PySem.EqMixed.eq_str_int (fin_bl I q (by simp))
    | str j => obtain ⟨t', rfl⟩ := ry; exact eq_str (fin_bl I q dec_str)
    | _ => exact absurd (show false = true from hs) Bool.false_ne_true
  | byt i =>
    obtain ⟨t, rfl⟩ := rx
    cases y with
    | byt j => obtain ⟨t', rfl⟩ := ry; exact PySem.W.eq_bytes (fin_bl I q dec_byt)
    | _ => exact absurd (show false = true from hs) Bool.false_ne_true
  | _ => cases y <;> exact absurd (show false = true from hs) Bool.false_ne_true
theorem op_ne : OpR X (compareOp .NotEq) rNe := by
  intro pins s σ H x y v u Q I rx ry h
  obtain ⟨hs, q⟩ := h
  cases x with
  | non =>
    cases rx
    cases y with
    | non => cases ry; exact PySem.EqNone.ne_none_none (fin_bl I q (by simp))
    | bl j => cases ry; exact PySem.EqNone.ne_none_bool (fin_bl I q (by simp))
    | int j => obtain ⟨t', rfl⟩ := ry; exact PySem.EqNone.ne_none_int (fin_bl I q (by simp))
    | str j => obtain ⟨t', rfl⟩ := ry; exact PySem.EqNone.ne_none_str (fin_bl I q (by simp))
    | _ => exact absurd (show false = true from hs) Bool.false_ne_true
  | bl i =>
    cases rx
    cases y with
    | non => cases ry; exact PySem.EqNone.ne_bool_none (fin_bl I q (by simp))
    | bl j => cases ry; exact ne_bool (fin_bl I q (congrArg not dec_bl))
    | str j => obtain ⟨t', rfl⟩ := ry; exact PySem.EqMixed.ne_bool_str (fin_bl I q (by simp))
    | _ => exact absurd (show false = true from hs) Bool.false_ne_true
  | int i =>
    obtain ⟨t, rfl⟩ := rx
    cases y with
    | non => cases ry; exact PySem.EqNone.ne_int_none (fin_bl I q (by simp))
    | int j => obtain ⟨t', rfl⟩ := ry; exact ne_int (fin_bl I q (congrArg not dec_int))
    | str j => obtain ⟨t', rfl⟩ := ry; exact PySem.EqMixed.ne_int_str (fin_bl I q (by simp))
    | _ => exact absurd (show false = true from hs) Bool.false_ne_true
  | str i =>
    obtain ⟨t, rfl⟩ := rx
    cases y with
    | non => cases ry; exact PySem.EqNone.ne_str_none (fin_bl I q (by simp))
    | bl j => cases ry; exact PySem.EqMixed.ne_str_bool (fin_bl I q (by simp))
    | int j => obtain ⟨t', rfl⟩ := ry; exact PySem.EqMixed.ne_str_int (fin_bl I q (by simp))
    | str j => obtain ⟨t', rfl⟩ := ry; exact ne_str (fin_bl I q (congrArg not dec_str))
    | _ => exact absurd (show false = true from hs) Bool.false_ne_true
  | byt i =>
    obtain ⟨t, rfl⟩ := rx
    cases y with
    | byt j => obtain ⟨t', rfl⟩ := ry; exact PySem.W.ne_bytes (fin_bl I q (congrArg not dec_byt))
    | _ => exact absurd (show false = true from hs) Bool.false_ne_true
  | _ => cases y <;> exact absurd (show false = true from hs) Bool.false_ne_true

theorem op_lt : OpR X (compareOp .Lt) (rI0 fun i j => .bl (decide (i < j))) := opB0 fun _ _ _ _ _ _ _ q => lt_int q
theorem op_le : OpR X (compareOp .LtE) (rI0 fun i j => .bl (decide (i ≤ j))) := opB0 fun _ _ _ _ _ _ _ q => le_int q
theorem op_gt : OpR X (compareOp .Gt) (rI0 fun i j => .bl (decide (j < i))) := opB0 fun _ _ _ _ _ _ _ q => gt_int q
theorem op_ge : OpR X (compareOp .GtE) (rI0 fun i j => .bl (decide (j ≤ i))) := opB0 fun _ _ _ _ _ _ _ q => ge_int q
theorem op_isN : OpR X (compareOp .Is) (fun x y H Q => y = .non ∧ Q (.bl (decide (x = .non))) H) := by
  intro pins s σ H x y v u Q I rx ry h
  obtain ⟨rfl, q⟩ := h
  cases ry
  refine is_none_gen (fin_bl I q ?_)
  cases x <;> first
    | (cases rx; rfl)
    | (obtain ⟨t, rfl⟩ := rx; rfl)
theorem op_notN : OpR X (compareOp .IsNot) (fun x y H Q => y = .non ∧ Q (.bl (!decide (x = .non))) H) := by
  intro pins s σ H x y v u Q I rx ry h
  obtain ⟨rfl, q⟩ := h
  cases ry
  refine isnot_none_gen (fin_bl I q ?_)
  cases x <;> first
    | (cases rx; rfl)
    | (obtain ⟨t, rfl⟩ := rx; rfl)

def isObj : HO → Bool
  | .lst _ => true
  | .ins _ _ _ => true
  | _ => false
theorem nomark (b : Expr) {op : CmpOp} (h : op ≠ .In := by decide) (h2 : op ≠ .NotIn := by decide) : behindInMarks op b = false := by
  have e1 : (op == CmpOp.In) = false := by cases op <;> first | rfl | exact absurd rfl h
  have e2 : (op == CmpOp.NotIn) = false := by cases op <;> first | rfl | exact absurd rfl h2
  cases b <;> simp [behindInMarks, e1, e2]

theorem pe_cmpR {op : CmpOp} {r : R2} (ho : OpR X (compareOp op) r) (ha : PE X a ta) (hb : PE X b tb) (hm : behindInMarks op b = false) : PE X (.Compare a [op] [b] pos) (tOp r ta tb) := by
  intro pins s σ H Q I h
  exact wpAny_Compare1 (binT ha hb I h fun v u s2 x y H2 I2 rx ry q => ho pins s2 σ H2 x y v u Q I2 rx ry q) hm

def tTest (t : TE) : TT := fun σ H Q => t σ H fun x H' => ∃ k, x = .bl k ∧ Q k H'
theorem pt_cmpR {op : CmpOp} {r : R2} (ho : OpR X (compareOp op) r) (ha : PE X a ta) (hb : PE X b tb) (hm : behindInMarks op b = false) : PT X (.Compare a [op] [b] pos) (tTest (tOp r ta tb)) := by
  intro pins s σ H Q I h
  refine wpAny_isTrue_Compare1 (thn (ha pins s σ H _ I h) fun v s1 ⟨x, H1, I1, r1, q1⟩ => thn (hb pins s1 σ H1 _ I1 q1) fun u s2 ⟨y, H2, I2, r2, q2⟩ =>
    thn (ho pins s2 σ H2 x y v u _ I2 r1 r2 q2) fun c s3 ⟨z, H3, I3, r3, k, e, q3⟩ => ?_) hm
  subst e
  cases r3
  exact wpAny_truthy_bool ⟨H3, I3, q3⟩

def tChain (r r' : R2) (ta tb tc : TE) : TE := fun σ H Q => ta σ H fun x H1 => tb σ H1 fun y H2 => r x y H2 fun z H3 => ∃ k, z = .bl k ∧
  (if k = true then tc σ H3 fun w' H4 => r' y w' H4 Q else Q (.bl false) H3)
def TruV (K : PySem.W.Frag) (x : V) (H : Hp) (k : Bool) : Prop :=
  match x with
  | .non => k = false
  | .bl b => k = b
  | .int i => k = (i != 0)
  | .str y => y.length ≤ sizeLine ∧ k = ((y.length : Int) != 0)
  | .byt y => y.size ≤ sizeLine ∧ k = ((y.size : Int) != 0)
  | .ref p => (∃ xs, SqL K H p xs ∧ k = !xs.isEmpty) ∨ (∃ xs, SqT K H p xs ∧ k = !xs.isEmpty) ∨ ∃ kvs, H p = some (.dK kvs) ∧ k = !kvs.isEmpty
  | _ => False
theorem line63 : (sizeLine : Nat) < 2 ^ 63 := by rw [sizeLine_eq]; decide
def PlainIxT (b : Expr) : Prop := ∀ o i, subscripted b false o i = operate [o, i] (getItem o i)

theorem vals1 {x : V} {us : List Value} (r : Vals [x] us) : ∃ u, us = [u] ∧ RelV x u := by
  cases r with
  | cons r1 r2 => cases r2; exact ⟨_, rfl, r1⟩
theorem vals2 {x y : V} {us : List Value} (r : Vals [x, y] us) : ∃ u w', us = [u, w'] ∧ RelV x u ∧ RelV y w' := by
  cases r with
  | cons r1 r2 =>
    cases r2 with
    | cons r3 r4 => cases r4; exact ⟨_, _, rfl, r1, r3⟩
theorem call_max2 (hc : X.calm = true) : CallR X (.builtin "max") (fun xs H Q => ∃ i j, xs = [.int i, .int j] ∧ Q (.int (if j > i then j else i)) H) := by
  intro pins s σ H xs us Q I r h
  obtain ⟨i, j, rfl, q⟩ := h
  obtain ⟨u, w', rfl, ⟨t, rfl⟩, ⟨t', rfl⟩⟩ := vals2 r
  refine max_two_ints (I.ok.hd hc) fun h' tk k => ⟨_, H, I.kept k, ?_, q⟩
  by_cases hj : j > i
  · rw [if_pos hj, if_pos hj]; exact ⟨_, rfl⟩
  · rw [if_neg hj, if_neg hj]; exact ⟨_, rfl⟩
theorem call_min2 (hc : X.calm = true) : CallR X (.builtin "min") (fun xs H Q => ∃ i j, xs = [.int i, .int j] ∧ Q (.int (if j < i then j else i)) H) := by
  intro pins s σ H xs us Q I r h
  obtain ⟨i, j, rfl, q⟩ := h
  obtain ⟨u, w', rfl, ⟨t, rfl⟩, ⟨t', rfl⟩⟩ := vals2 r
  refine min_two_ints (I.ok.hd hc) fun h' tk k => ⟨_, H, I.kept k, ?_, q⟩
  by_cases hj : j < i
  · rw [if_pos hj, if_pos hj]; exact ⟨_, rfl⟩
  · rw [if_neg hj, if_neg hj]; exact ⟨_, rfl⟩
def LenV (K : PySem.W.Frag) (x : V) (H : Hp) (n : Nat) : Prop :=
  match x with
  | .str y => y.length ≤ sizeLine ∧ n = y.length
  | .byt y => y.size ≤ sizeLine ∧ n = y.size
  | .ref p => (∃ xs, SqL K H p xs ∧ n = xs.length) ∨ ∃ xs, SqT K H p xs ∧ n = xs.length
  | _ => False
end
end L2

namespace L2
open PySem PySem.Spec PyProof.Rows


structure ObjM (h : Heap) (x dx C : Addr) (mA : Str → Option Value) : Prop where
  obj : h.get? x = some (PySem.W.instObj C dx)
  ns : h.Ns1 dx mA
  ne : dx ≠ x

theorem lookIn_ns {h : Heap} {dx : Addr} {mA : Str → Option Value} (n : h.Ns1 dx mA) : ∃ od, h.get? dx = some od ∧ ∀ name, PySem.W.lookIn name od = some (mA name) := by
  obtain ⟨o, es, ep, ho, hd, hk, _, hm⟩ := n
  refine ⟨o, ho, fun name => ?_⟩
  have e := hm name
  unfold nsFind findBy at e
  rw [← Array.find?_toList] at e
  unfold PySem.W.lookIn
  rw [hd]
  dsimp only
  split
  · rename_i y q
    rw [q] at e
    exact congrArg some e
  · rename_i q
    rw [q] at e
    have a : es.toList.any (·.refKey) = false := by
      rw [List.any_eq_false]
      intro y hy
      obtain ⟨z, t, hkey⟩ := hk y (Array.mem_toList_iff.mp hy)
      simp [DictEntry.refKey, hkey]
    have a' : ¬ es.toList.any (·.refKey) = true := by rw [a]; exact Bool.false_ne_true
    rw [if_neg a']
    exact congrArg some e

theorem ObjM.look {h : Heap} {x dx C : Addr} {mA : Str → Option Value} (I : ObjM h x dx C mA) : ∃ od, PySem.W.InstAt h x (PySem.W.instObj C dx) C (some od) ∧ ∀ name, PySem.W.lookIn name od = some (mA name) :=
  let ⟨od, ho, hl⟩ := lookIn_ns I.ns
  ⟨od, ⟨I.obj, rfl, rfl, ho⟩, hl⟩

section
variable {prog : Program} {w : World} {A : Around} {E : Value → Shared → Prop} {s : Shared} {K : PySem.W.Frag} {x dx C f : Addr} {mA : Str → Option Value} {name : Str} {v : Value}

theorem get_map {expr : Bool} {Q : Value → Shared → Prop} (X : K.In s.heap) (I : ObjM s.heap x dx C mA) (hg : PySem.W.plainGet K C name = true) (hh : PySem.W.hasDictIn K C = true)
    (ha : PySem.W.findIn K (.ref C) name = some none) (hv : mA name = some v) (hv' : PySem.W.handedIn v = true) (h : Q v { s with toks := s.toks + 1 }) :
    wpAny (model prog w) A (getAttr (.ref x) name expr) Q E s := by
  obtain ⟨od, J, hl⟩ := I.look
  exact PySem.W.get_value X J (PySem.W.plainGet_of hg).1 (PySem.W.findObj_own hh ha rfl (by rw [hl, hv])) hv' h

theorem get_meth {pl : Sem Bool} {Q : Value × List Value → Shared → Prop} (X : K.In s.heap) (I : ObjM s.heap x dx C mA) (hg : PySem.W.plainGet K C name = true)
    (hf : PySem.W.findIn K (.ref C) name = some (some (.ref f))) (ht : PySem.W.isFn K (.ref f) = true) (hv : mA name = none) (h : Q (.ref f, [.ref x]) s) :
    wpAny (model prog w) A (getMethod (.ref x) name pl) Q E s := by
  obtain ⟨od, J, hl⟩ := I.look
  exact PySem.W.method_fn X J (PySem.W.plainGet_of hg).1 (PySem.W.plainGet_of hg).2 hf (beq_iff_eq.mp ht) (by show (PySem.W.lookIn name od).map (·.isSome) = some false; rw [hl, hv]; rfl) h

theorem set_map {ns : List Str} {Q : Unit → Shared → Prop} (X : K.In s.heap) (I : ObjM s.heap x dx C mA)
    (hs : PySem.W.findIn K (.ref C) "__setattr__" = some (some (.builtin "object.__setattr__"))) (hp : PySem.W.plainOver K C = true) (ht : PySem.W.takerIn K C name = some none) (hh : PySem.W.hasDictIn K C = true)
    (hw : PySem.Within mA ns) (hsz : ns.length ≤ sizeLine)
    (h : ∀ h', ObjM h' x dx C (fun y => if y = name then some v else mA y) → Heap.SameBut dx s.heap h' → Q () { s with heap := h', toks := s.toks + 2 }) :
    wpAny (model prog w) A (setAttr (.ref x) name v) Q E s := by
  obtain ⟨od, J, hl⟩ := I.look
  refine PySem.W.set_plain X J hs (PySem.W.osa_open (s := { s with toks := s.toks + 1 }) (r := none) X J hp ht fun b => ?_)
  obtain ⟨cd, hc, hd'⟩ := PySem.W.any_some hh
  have hx : s.heap.get? x = some ⟨.ref C, some dx, .plain, #[]⟩ := I.obj
  refine wpAny_bind (wpAny_pure (wpAny_bind (wpAny_bind (wpAny_loadPart hx (wpAny_bind (PySem.W.Looks.here (s := { s with toks := s.toks + 1 }) (PySem.W.looks_clsIn X hc) ?_))))))
  rw [hd']
  refine wpAny_pure (a := some dx) (wpAny_bind (wpAny_pure (wpAny_bind ?_)))
  refine wpAny_nsSet1 (s := { s with toks := s.toks + 1 }) I.ns fun h' hn2 hs2 => ?_
  obtain ⟨oD, esD, epD, hoD, hdD, hcD⟩ := hn2.count (PySem.Within.cons name v hw)
  refine wpAny_bind (wpAny_lookBehind hoD (by rw [hdD]; exact pastItsLine_dict (Nat.le_trans hcD (by rw [List.length_cons]; omega))) ?_)
  exact wpAny_pure (h _ ⟨(hs2.2 _ (Ne.symm I.ne)).trans I.obj, hn2, I.ne⟩ hs2)


theorem make_map {R : Result → Shared → Prop} {vs : List Value} {kw : List (Str × Value)} (X : K.In s.heap) (hm : PySem.W.makesIn K C = true)
    (hi : PySem.W.findIn K (.ref C) "__init__" = some (some (.ref f))) (hf : PySem.W.typeIn K (.ref f) = some (.type "function"))
    (h : codeAny (model prog w) (A.under (.builtin "type.__call__" ⟨.ref C :: vs, kw⟩)) (.call (.ref f) ⟨.ref (s.heap.objs.size + 1) :: vs, kw⟩) (PySem.W.InitBack (s.heap.objs.size + 1) R)
      { s with heap := (s.heap.push PySem.W.emptyDict).push (PySem.W.instObj C s.heap.objs.size) }) :
    codeAny (model prog w) A (.call (.ref C) ⟨vs, kw⟩) R s := by
  obtain ⟨hh, g, d, t, os⟩ := s
  exact PySem.W.make_core (PySem.W.makes_of X hm) (PySem.W.looks_findIn X hi) (fun self => PySem.W.bind_fn X self hf) (.inl rfl) h

end


def putF (f : Str) (v : V) : List (Str × V) → List (Str × V)
  | [] => [(f, v)]
  | (g, x) :: r => if g = f then (g, v) :: r else (g, x) :: putF f v r
theorem lookup_putF (f g : Str) (v : V) : ∀ fs : List (Str × V), (putF f v fs).lookup g = if g = f then some v else fs.lookup g
  | [] => by
    show List.lookup g [(f, v)] = _
    by_cases h : g = f
    · have hb : (g == f) = true := beq_iff_eq.mpr h
      simp only [List.lookup, hb, if_pos h]
    · have hb : (g == f) = false := beq_eq_false_iff_ne.mpr h
      simp only [List.lookup, hb, if_neg h]
  | (k, x) :: r => by
    have ih := lookup_putF f g v r
    rw [show putF f v ((k, x) :: r) = (if k = f then (k, v) :: r else (k, x) :: putF f v r) from rfl]
    by_cases hk : k = f
    · rw [if_pos hk]
      by_cases h : g = k
      · have hb : (g == k) = true := beq_iff_eq.mpr h
        simp only [List.lookup, hb, if_pos (h.trans hk)]
      · have hb : (g == k) = false := beq_eq_false_iff_ne.mpr h
        simp only [List.lookup, hb, if_neg (fun e : g = f => h (e.trans hk.symm))]
    · rw [if_neg hk]
      by_cases h : g = k
      · have hb : (g == k) = true := beq_iff_eq.mpr h
        simp only [List.lookup, hb, if_neg (fun e : g = f => hk (h.symm.trans e))]
      · have hb : (g == k) = false := beq_eq_false_iff_ne.mpr h
        simp only [List.lookup, hb]
        exact ih
theorem keys_putF (f : Str) (v : V) : ∀ fs : List (Str × V), f ∈ (putF f v fs).map (·.1) ∧ ∀ g, g ∈ fs.map (·.1) → g ∈ (putF f v fs).map (·.1)
  | [] => ⟨by simp [putF], fun g h => by simp at h⟩
  | (k, x) :: r => by
    obtain ⟨i1, i2⟩ := keys_putF f v r
    rw [show putF f v ((k, x) :: r) = (if k = f then (k, v) :: r else (k, x) :: putF f v r) from rfl]
    by_cases hk : k = f
    · rw [if_pos hk]
      subst hk
      exact ⟨by simp, fun g h => by simpa using h⟩
    · rw [if_neg hk]
      refine ⟨?_, fun g h => ?_⟩
      · rw [List.map_cons]
        exact List.mem_cons_of_mem _ i1
      · rw [List.map_cons] at h ⊢
        rcases List.mem_cons.mp h with e | e
        · exact List.mem_cons.mpr (.inl e)
        · exact List.mem_cons_of_mem _ (i2 g e)
theorem length_putF (f : Str) (v : V) : ∀ fs : List (Str × V), (putF f v fs).length ≤ fs.length + 1
  | [] => by simp [putF]
  | (k, x) :: r => by
    have ih := length_putF f v r
    rw [show putF f v ((k, x) :: r) = (if k = f then (k, v) :: r else (k, x) :: putF f v r) from rfl]
    by_cases hk : k = f
    · rw [if_pos hk, List.length_cons, List.length_cons]; omega
    · rw [if_neg hk, List.length_cons, List.length_cons]; omega

theorem RelO.some_of {v : V} {o : Option Value} (r : RelO (some v) o) : ∃ u, o = some u ∧ RelV v u := by
  cases o with
  | none => exact (show False from r).elim
  | some u => exact ⟨u, rfl, r⟩
theorem RelO.none_of {o : Option Value} (r : RelO none o) : o = none := by
  cases o with
  | none => rfl
  | some u => exact (show False from r).elim
theorem handed_of {v : V} {u : Value} (r : RelV v u) : PySem.W.handedIn u = true := by
  cases v with
  | non => cases (show u = Value.none from r); rfl
  | bl b => cases (show u = Value.bool b from r); rfl
  | int i => obtain ⟨t, e⟩ := (show ∃ t, u = Value.int i t from r); cases e; rfl
  | str x => obtain ⟨t, e⟩ := (show ∃ t, u = Value.str x t from r); cases e; rfl
  | byt b => obtain ⟨t, e⟩ := (show ∃ t, u = Value.bytes b t from r); cases e; rfl
  | flt b => obtain ⟨t, e⟩ := (show ∃ t, u = Value.float b t from r); cases e; rfl
  | ref a => cases (show u = Value.ref a from r); rfl
  | ty n => cases (show u = Value.type n from r); rfl

section
variable {P : Program} {w : World} {H H' : Hp} {h h' : Heap} {a C dx : Addr} {fs fs' : List (Str × V)}
theorem ins_get (hok : HOk P w H h) (e : H a = some (.ins C dx fs)) : ∃ mA, ObjM h a dx C mA ∧ (∀ f, RelO (fs.lookup f) (mA f)) ∧ PySem.Within mA (fs.map (·.1)) ∧ fs.length ≤ 1000 ∧ H dx = some (.own a) := by
  obtain ⟨d, z, ne, ob, mA, n, r, q⟩ := (show ObjOk P w H h a (.ins C dx fs) from hok a _ e)
  exact ⟨mA, ⟨ob, n, ne⟩, r, q, z, d⟩
end


structure Cls (K : PySem.W.Frag) (C : Addr) : Prop where
  pg : PySem.W.plainGet K C Str.empty = true
  hd : PySem.W.hasDictIn K C = true
  po : PySem.W.plainOver K C = true
  sa : PySem.W.findIn K (.ref C) "__setattr__" = some (some (.builtin "object.__setattr__"))
theorem Cls.get {K : PySem.W.Frag} {C : Addr} (c : Cls K C) (f : Str) : PySem.W.plainGet K C f = true := c.pg

def NoAttr (K : PySem.W.Frag) (C : Addr) (f : Str) : Prop := PySem.W.findIn K (.ref C) f = some none
theorem NoAttr.taker {K : PySem.W.Frag} {C : Addr} {f : Str} (n : NoAttr K C f) : PySem.W.takerIn K C f = some none := by
  unfold PySem.W.takerIn
  rw [show PySem.W.findIn K (.ref C) f = some none from n]
  rfl

structure Con (K : PySem.W.Frag) (C : Addr) (f : Str) (v : V) (u : Value) : Prop where
  at_ : PySem.W.findIn K (.ref C) f = some (some u)
  rel : RelV v u
  get : PySem.W.specialIn K u "__get__" = some none
  cp : PySem.W.copiedNames.contains f = false

structure Meth (K : PySem.W.Frag) (C : Addr) (m : Str) (f : Addr) : Prop where
  at_ : PySem.W.findIn K (.ref C) m = some (some (.ref f))
  fn : PySem.W.isFn K (.ref f) = true
  kp : PySem.W.keepIn K (.ref f) = true

section
variable {X : Cx} {pins : List (Addr × Obj)} {σ : St} {H : Hp} {s : Shared} {a C dx : Addr} {fs : List (Str × V)} {f : Str} {v : V} {A : Around} {E : Value → Shared → Prop}

theorem getattr_ok {b : Bool} {Q : Value → Shared → Prop} (I : Inv X pins σ H s) (e : H a = some (.ins C dx fs)) (c : Cls X.K C) (n : NoAttr X.K C f) (l : fs.lookup f = some v)
    (h : ∀ u s', Inv X pins σ H s' → RelV v u → Q u s') : wpAny (model X.prog X.w) A (getAttr (.ref a) f b) Q E s := by
  obtain ⟨mA, O, r, _, _, _⟩ := ins_get I.hok e
  obtain ⟨u, hu, ru⟩ := RelO.some_of (v := v) (o := mA f) (by rw [← l]; exact r f)
  exact get_map I.kIn O (c.get f) c.hd n hu (handed_of ru) (h u _ (I.tok _) ru)

theorem getmeth_ok {m : Str} {g : Addr} {pl : Sem Bool} {Q : Value × List Value → Shared → Prop} (I : Inv X pins σ H s) (e : H a = some (.ins C dx fs)) (c : Cls X.K C) (k : Meth X.K C m g) (l : fs.lookup m = none)
    (h : Q (.ref g, [.ref a]) s) : wpAny (model X.prog X.w) A (getMethod (.ref a) m pl) Q E s := by
  obtain ⟨mA, O, r, _, _, _⟩ := ins_get I.hok e
  have hn : mA m = none := RelO.none_of (by rw [← l]; exact r m)
  exact get_meth I.kIn O (c.get m) k.at_ k.fn hn h

theorem setattr_ok {y : V} {u : Value} {Q : Unit → Shared → Prop} (I : Inv X pins σ H s) (e : H a = some (.ins C dx fs)) (c : Cls X.K C) (n : NoAttr X.K C f) (hl : fs.length < 1000) (ry : RelV y u)
    (h : ∀ s', Inv X pins σ (upd H a (.ins C dx (putF f y fs))) s' → Q () s') : wpAny (model X.prog X.w) A (setAttr (.ref a) f u) Q E s := by
  obtain ⟨mA, O, r, wi, _, ho⟩ := ins_get I.hok e
  have hz : (fs.map (·.1)).length ≤ sizeLine := by rw [List.length_map, sizeLine_eq]; omega
  refine set_map I.kIn O c.sa c.po n.taker c.hd wi hz fun h' O' sb => h _ ?_
  have hd : ∃ o, h'.get? dx = some o := let ⟨o, _, _, e', _⟩ := O'.ns; ⟨o, e'⟩
  refine I.write (x := a) (e := dx) (by rw [e]; exact True.intro) (.inr ho) (fun b q hb z => (sb.2 b hb).trans z) hd ?_
  refine ⟨by rw [upd_ne O.ne]; exact ho, ?_, O.ne, O'.obj, _, O'.ns, fun g => ?_, fun g hg => ?_⟩
  · have := length_putF f y fs; omega
  · show RelO ((putF f y fs).lookup g) (if g = f then some u else mA g)
    rw [lookup_putF]
    by_cases q : g = f
    · rw [if_pos q, if_pos q]; exact ry
    · rw [if_neg q, if_neg q]; exact r g
  · by_cases q : g = f
    · rw [q]; exact (keys_putF f y fs).1
    · refine (keys_putF f y fs).2 g (wi g fun z => hg ?_)
      show (if g = f then some u else mA g) = none
      rw [if_neg q]; exact z


theorem Inv.made (I : Inv X pins σ H s) : Inv X pins σ (upd (upd H s.heap.objs.size (.own (s.heap.objs.size + 1))) (s.heap.objs.size + 1) (.ins C s.heap.objs.size []))
    { s with heap := (s.heap.push PySem.W.emptyDict).push (PySem.W.instObj C s.heap.objs.size) } := by
  have e1 : (s.heap.push PySem.W.emptyDict).get? s.heap.objs.size = some PySem.W.emptyDict := Heap.get?_push_size s.heap rfl
  have e2 : ((s.heap.push PySem.W.emptyDict).push (PySem.W.instObj C s.heap.objs.size)).get? (s.heap.objs.size + 1) = some (PySem.W.instObj C s.heap.objs.size) := by
    have := Heap.get?_push_size (s.heap.push PySem.W.emptyDict) (o := PySem.W.instObj C s.heap.objs.size) rfl
    rwa [Heap.size_push] at this
  have e3 : (s.heap.push PySem.W.emptyDict).Ns s.heap.objs.size (fun _ => none) := ⟨PySem.W.emptyDict, #[], _, e1, rfl, (fun e he => absurd he (by simp)), fun _ => rfl⟩
  have I1 := I.laid (a := s.heap.objs.size) (o := .own (s.heap.objs.size + 1)) (h' := s.heap.push PySem.W.emptyDict) (t' := s.toks) (fun b u q => Heap.get?_push_of_some _ q) (Nat.le_refl _) ⟨_, e1⟩
  refine I1.laid (a := s.heap.objs.size + 1) (o := .ins C s.heap.objs.size []) (t' := s.toks) (fun b u q => Heap.get?_push_of_some _ q) (Nat.le_of_eq (Heap.size_push _ _)) ?_
  have ne : s.heap.objs.size ≠ s.heap.objs.size + 1 := Nat.ne_of_lt (Nat.lt_succ_self _)
  refine ⟨by rw [upd_ne ne, upd_same], Nat.zero_le _, ne, e2, fun _ => none, (Heap.Ns1.of_empty e3).at fun o q => Heap.get?_push_of_some _ q, fun _ => True.intro, fun y hy => absurd rfl hy⟩


theorem attr_of {prog : Program} {w : World} {env : Env} {e : Expr} {f : Str} {pos : Pos} {s : Shared} {Q : Value → Shared → Prop} (hb : attributeBase e f env (eval e env) = eval e env)
    (h : wpAny (model prog w) A (eval e env) (fun o s₁ => wpAny (model prog w) A (getAttr o f true) Q E s₁) E s) : wpAny (model prog w) A (eval (.Attribute e f pos) env) Q E s :=
  Attribute_any_ h (by rw [arm_eval_Attribute, hb])
end



def tFld (K : PySem.W.Frag) (ta : TE) (f : Str) : TE := fun σ H Q => ta σ H fun x H1 => ∃ a C dx fs v, x = .ref a ∧ H1 a = some (.ins C dx fs) ∧ Cls K C ∧ NoAttr K C f ∧ fs.lookup f = some v ∧ Q v H1

def tCon (K : PySem.W.Frag) (ta : TE) (f : Str) : TE := fun σ H Q => ta σ H fun x H1 => ∃ a C dx fs v u, x = .ref a ∧ H1 a = some (.ins C dx fs) ∧ Cls K C ∧ Con K C f v u ∧ fs.lookup f = none ∧ Q v H1

def sFld (K : PySem.W.Frag) (ta tv : TE) (f : Str) : TS := fun D σ H => tv σ H fun y H1 => ta σ H1 fun x H2 => ∃ a C dx fs, x = .ref a ∧ H2 a = some (.ins C dx fs) ∧ Cls K C ∧ NoAttr K C f ∧ fs.length < 1000 ∧
  D.nx σ (upd H2 a (.ins C dx (putF f y fs)))

def InOp (X : Cx) (op : Operator) (rd : V → V → Hp → VK → Prop) : Prop :=
  ∀ (pins : List (Addr × Obj)) (s : Shared) (σ : St) (H : Hp) (x y : V) (u v : Value) (Q : VK), Inv X pins σ H s → RelV x u → RelV y v → rd x y H Q → wpAny (model X.prog X.w) X.A (inplaceOp op u v) (EP X pins σ Q) X.xe s

def sFldAug (K : PySem.W.Frag) (ta tv : TE) (rd : V → V → Hp → VK → Prop) (f : Str) : TS := fun D σ H => ta σ H fun x H1 => ∃ a C dx fs v, x = .ref a ∧ H1 a = some (.ins C dx fs) ∧ Cls K C ∧ NoAttr K C f ∧ fs.lookup f = some v ∧
  tv σ H1 fun y H2 => rd v y H2 fun z H3 => ∃ dx' fs', H3 a = some (.ins C dx' fs') ∧ fs'.length < 1000 ∧ D.nx σ (upd H3 a (.ins C dx' (putF f z fs')))

section
variable {X : Cx} {o e value : Expr} {f : Str} {pos pos' tpos : Pos} {ta tv : TE}
theorem pe_fld (he : PE X e ta) (hb : attributeBase e f X.env (eval e X.env) = eval e X.env) : PE X (.Attribute e f pos) (tFld X.K ta f) := by
  intro pins s σ H Q I h
  refine attr_of hb (thn (he pins s σ H _ I h) fun u s1 ⟨x, H1, I1, rx, a, C, dx, fs, v, ex, ea, c, n, l, q⟩ => ?_)
  subst ex
  obtain rfl : u = Value.ref a := rx
  exact getattr_ok I1 ea c n l fun u' s2 I2 ru => ⟨v, H1, I2, ru, q⟩
theorem ps_fld (ha : PE X o ta) (hv : PE X value tv) (hs : swapsWith value (some (.Attribute o f pos')) pos.line X.env = pure false) : PS X (.Assign [.Attribute o f pos'] value pos) (sFld X.K ta tv f) := by
  intro pins s σ H D I h
  refine plainObj_wpAny_Assign_Attribute (thn (hv pins s σ H _ I h) fun u s1 ⟨y, H1, I1, ry, q⟩ => thn (ha pins s1 σ H1 _ I1 q) fun ov s2 ⟨x, H2, I2, rx, a, C, dx, fs, ex, ea, c, n, l, q2⟩ => ?_) hs
  subst ex
  obtain rfl : ov = Value.ref a := rx
  exact setattr_ok I2 ea c n l ry fun s3 I3 => ⟨σ, _, I3, q2⟩
def rAdd : V → V → Hp → VK → Prop := fun x y H Q => ∃ i j, x = .int i ∧ y = .int j ∧ Q (.int (i + j)) H
def rSub : V → V → Hp → VK → Prop := fun x y H Q => ∃ i j, x = .int i ∧ y = .int j ∧ Q (.int (i - j)) H
theorem methcall_of {pl : Sem Bool} {m : Str} {apos : Pos} {args : List Expr} {pins : List (Addr × Obj)} {s : Shared} {σ : St} {H : Hp} {Q : Value → Shared → Prop} {te : TE} (he : PE X e te) (I : Inv X pins σ H s)
    (h : te σ H fun x H1 => ∃ a C dx fs g, x = .ref a ∧ H1 a = some (.ins C dx fs) ∧ Cls X.K C ∧ Meth X.K C m g ∧ fs.lookup m = none ∧
      ∀ s1, Inv X pins σ H1 s1 → wpAny (model X.prog X.w) X.A (callWith pos (.ref g) [.ref a] (backTo pos (starEach args X.env)) (backToKw pos (keywordEach [] X.env))) Q X.xe s1)
    (ht : eval (.Call (.Attribute e m apos) args [] pos) X.env = (do
      let ov ← eval e X.env
      standAt apos.atName
      let (f, first) ← holding [ov] (getMethod ov m pl)
      callWith pos f first (backTo pos (starEach args X.env)) (backToKw pos (keywordEach [] X.env)))) :
    wpAny (model X.prog X.w) X.A (eval (.Call (.Attribute e m apos) args [] pos) X.env) Q X.xe s := by
  refine PySem.W.methodCall_KW (pl := pl) (thn (he pins s σ H _ I h) fun u s1 ⟨x, H1, I1, rx, a, C, dx, fs, g, ex, ea, c, k, l, q⟩ => ?_) ht
  subst ex
  obtain rfl : u = Value.ref a := rx
  exact getmeth_ok I1 ea c k l (q s1 I1)
end


section
variable {X : Cx} {pins : List (Addr × Obj)} {σ : St} {H : Hp} {s : Shared} {A : Around} {E : Value → Shared → Prop} {Q : Value → Shared → Prop} {c : Value} {b : Bool}

inductive TyOf (K : PySem.W.Frag) (H : Hp) : V → Value → Prop where
  | non : TyOf K H .non (.type "NoneType")
  | bl (x : Bool) : TyOf K H (.bl x) (.type "bool")
  | int (i : Int) : TyOf K H (.int i) (.type "int")
  | str (x : Str) : TyOf K H (.str x) (.type "str")
  | flt (x : UInt64) : TyOf K H (.flt x) (.type "float")
  | lst {a : Addr} {xs : List V} (e : H a = some (.lst xs)) : TyOf K H (.ref a) (.type "list")
  | frz {a : Addr} {o : Obj} {xs : List V} (e : H a = some (.frz o (.lst xs))) : TyOf K H (.ref a) (.type "list")
  | tup {a : Addr} {xs : List V} (e : H a = some (.tup xs)) : TyOf K H (.ref a) (.type "tuple")
  | dK {a : Addr} {kvs : List (Key × V)} (e : H a = some (.dK kvs)) : TyOf K H (.ref a) (.type "dict")
  | dT {a : Addr} {kvs : List (List Key × V)} (e : H a = some (.dT kvs)) : TyOf K H (.ref a) (.type "dict")
  | ins {a C dx : Addr} {fs : List (Str × V)} (e : H a = some (.ins C dx fs)) (cl : Cls K C) (ha : PySem.W.findIn K (.ref C) "__class__" = some (some (.builtin "object.__class__")))
      (hn : PySem.W.specialIn K (.builtin "object.__class__") "__get__" = some (some (.builtin "getset_descriptor.__get__"))) (htk : PySem.W.takesIn K (.builtin "object.__class__") = some true)
      (hm : PySem.W.mroIn K C (.type "object") = some true) : TyOf K H (.ref a) (.ref C)

end
end L2

namespace L2
open PySem PySem.Spec PyProof.Rows


structure Room (k : Nat) (A : Around) : Prop where
  hd : A.handled = none
  dp : A.depth + 3 * k + 5 < recursionLimit
  un : A.units + 16 * k + 200 < cLine
theorem Room.mono {j k : Nat} {A : Around} (r : Room k A) (h : j ≤ k) : Room j A := ⟨r.hd, by have := r.dp; omega, by have := r.un; omega⟩
theorem Room.deeper {k : Nat} {A : Around} (r : Room (k + 1) A) (env : Env) : Room k (A.deeper env) :=
  ⟨r.hd, by have := r.dp; show A.depth + 1 + 3 * k + 5 < _; omega, by have := r.un; show A.units + 3 + 16 * k + 200 < _; omega⟩
theorem make_depth {A : Around} {C : Addr} {us : List Value} {kw : List (Str × Value)} : (A.under (.builtin "type.__call__" ⟨.ref C :: us, kw⟩)).depth = A.depth + 1 := by
  first | rfl | simp [Around.under, Code.weight, Code.isCreation, Code.isGuard, Code.isCaller, Code.frames, Code.isFrame, guardIds]
theorem make_units {A : Around} {C : Addr} {us : List Value} {kw : List (Str × Value)} : (A.under (.builtin "type.__call__" ⟨.ref C :: us, kw⟩)).units = A.units + 1 := by
  first | rfl | simp [Around.under, Code.cUnits, Code.frames, Code.isFrame]
theorem Room.make {k : Nat} {A : Around} (r : Room (k + 1) A) (C : Addr) (us : List Value) (kw : List (Str × Value)) : Room k (A.under (.builtin "type.__call__" ⟨.ref C :: us, kw⟩)) :=
  ⟨r.hd, by have := r.dp; rw [make_depth]; omega, by have := r.un; rw [make_units]; omega⟩
theorem Room.depth {k : Nat} {A : Around} (r : Room k A) : A.depth < recursionLimit := by have := r.dp; omega
theorem Room.units {k : Nat} {A : Around} (r : Room k A) : A.units + 64 < cLine := by have := r.un; omega
def tNil : TA := fun _ H Q => Q [] H
def tCons (ta : TE) (tr : TA) : TA := fun σ H Q => ta σ H fun x H1 => tr σ H1 fun xs H2 => Q (x :: xs) H2
section
variable {X : Cx} {e : Expr} {es : List Expr} {te : TE} {t : TA} {pos : Pos}
theorem pa_nil : PA X [] tNil := fun _ _ _ _ H Q I h => Calls.spliced_nil ⟨[], H, I, .nil, h⟩
theorem pa_cons (ha : PE X e te) (hr : PA X es t) (hs : starEach (e :: es) X.env = (false, eval e X.env) :: starEach es X.env := by rfl) : PA X (e :: es) (tCons te t) := by
  intro pos pins s σ H Q I h
  rw [hs]
  show wpAny _ _ (spliced ((false, eval e X.env) :: backTo pos (starEach es X.env))) _ _ s
  refine Calls.spliced_cons (thn (ha pins s σ H _ I h) fun u s1 ⟨x, H1, I1, r1, q1⟩ => ?_)
  exact thn (hr pos pins s1 σ H1 _ I1 q1) fun us s2 ⟨xs, H2, I2, r2, q2⟩ => ⟨x :: xs, H2, I2, .cons r1 r2, q2⟩


def tTup (t : TA) : TE := fun σ H Q => t σ H fun xs H1 => xs.length ≤ sizeLine ∧ ∀ p, H1 p = none → Q (.ref p) (upd H1 p (.tup xs))
def tLst (t : TA) : TE := fun σ H Q => t σ H fun xs H1 => xs.length ≤ sizeLine ∧ ∀ p, H1 p = none → Q (.ref p) (upd H1 p (.lst xs))
theorem pe_tup {x1} (h : PA X es t) : PE X (.Tuple es x1 pos) (tTup t) := by
  intro pins s σ H Q I hq
  refine wpAny_Tuple_spliced (thn (h pos pins s σ H _ I hq) fun us s1 ⟨xs, H1, I1, r, z, q⟩ => ⟨by rw [← r.length]; exact z, ?_⟩)
  have hf : H1 s1.heap.objs.size = none := I1.hok.fresh (Nat.le_refl _)
  refine ⟨.ref s1.heap.objs.size, upd H1 s1.heap.objs.size (.tup xs), I1.laid (t' := s1.toks) (fun b u e => Heap.get?_push_of_some _ e) (Nat.le_refl _) ?_, rfl, q _ hf⟩
  exact ⟨z, us, r, ⟨_, Heap.get?_push_size _ rfl, rfl, _, rfl⟩⟩
theorem pe_lst (h : PA X es t) : PE X (.List es pos) (tLst t) := by
  intro pins s σ H Q I hq
  refine wpAny_List_spliced (thn (h pos pins s σ H _ I hq) fun us s1 ⟨xs, H1, I1, r, z, q⟩ => ⟨by rw [← r.length]; exact z, ?_⟩)
  have hf : H1 s1.heap.objs.size = none := I1.hok.fresh (Nat.le_refl _)
  refine ⟨.ref s1.heap.objs.size, upd H1 s1.heap.objs.size (.lst xs), I1.laid (t' := s1.toks) (fun b u e => Heap.get?_push_of_some _ e) (Nat.le_refl _) ?_, rfl, q _ hf⟩
  exact ⟨z, us, 0, r, Heap.get?_push_size _ rfl⟩
end



abbrev Sp := List V → Hp → VK → XK → Prop

abbrev CXT := List Env → Hp → Shared → XK → Value → Shared → Prop


structure Env0 (P : Program) (w : World) (K : PySem.W.Frag) (mg : Str → Option Value) (base : Heap) (A : Around) (outer : List Env) (s : Shared) (H : Hp) : Prop where
  frames : A.frames = some outer
  mod : Mod K mg base
  bs : ∀ b o, base.get? b = some o → s.heap.get? b = some o ∧ H b = none
  bsz : base.objs.size ≤ s.heap.objs.size
  funs : s.heap.FunFrames base outer
  frf : ∀ b ∈ frs outer, H b = none
  hok : HOk P w H s.heap
  bare : AllBare s.gens

def CE (outer : List Env) (P : Program) (w : World) (H : Hp) (s : Shared) (Q : VK) (u : Value) (s' : Shared) : Prop :=
  ∃ v H', s'.os = s.os ∧ AllBare s'.gens ∧ Un (frs outer) [] H H' s.heap s'.heap ∧ HOk P w H' s'.heap ∧ RelV v u ∧ Q v H'
def CR (CX : CXT) (outer : List Env) (P : Program) (w : World) (H : Hp) (s : Shared) (Q : VK) (E : XK) (r : Result) (s' : Shared) : Prop :=
  match r with
  | .ok (.ret u) => CE outer P w H s Q u s'
  | .ok _ => False
  | .error e => CX outer H s E e s'
structure FnOk (P : Program) (w : World) (K : PySem.W.Frag) (mg : Str → Option Value) (base : Heap) (CX : CXT) (k : Nat) (f : Addr) (fd : FuncData) (ps : List Str) (sp : Sp) : Prop where
  len : ∀ vs H Q E, sp vs H Q E → vs.length = ps.length
  run : ∀ (A : Around) (outer : List Env) (s : Shared) (H : Hp) (args : Args) (us : List Value) (vs : List V) (Q : VK) (E : XK), Room k A → Env0 P w K mg base A outer s H → BindsTo s fd args (ps.zip us) → Vals vs us → sp vs H Q E →
    codeAny (model P w) A (.call (.ref f) args) (CR CX outer P w H s Q E) s
theorem FnOk.mono {P : Program} {w : World} {K : PySem.W.Frag} {mg : Str → Option Value} {base : Heap} {CX : CXT} {j k : Nat} {f : Addr} {fd : FuncData} {ps : List Str} {sp : Sp} (F : FnOk P w K mg base CX j f fd ps sp) (h : j ≤ k) :
    FnOk P w K mg base CX k f fd ps sp := ⟨F.len, fun A outer s H args us vs Q E hr => F.run A outer s H args us vs Q E (hr.mono h)⟩

theorem FnOk.imp {P : Program} {w : World} {K : PySem.W.Frag} {mg : Str → Option Value} {base : Heap} {CX : CXT} {k : Nat} {f : Addr} {fd : FuncData} {ps : List Str} {sp sp' : Sp} (F : FnOk P w K mg base CX k f fd ps sp)
    (h : ∀ vs H Q E, sp' vs H Q E → sp vs H Q E) : FnOk P w K mg base CX k f fd ps sp' :=
  ⟨fun vs H Q E q => F.len vs H Q E (h _ _ _ _ q), fun A outer s H args us vs Q E hr he hb hv hs => F.run A outer s H args us vs Q E hr he hb hv (h _ _ _ _ hs)⟩

theorem Env0.make {P : Program} {w : World} {K : PySem.W.Frag} {mg : Str → Option Value} {base : Heap} {A : Around} {outer : List Env} {s : Shared} {H : Hp} (e : Env0 P w K mg base A outer s H) (C : Addr) (us : List Value) (kw : List (Str × Value)) :
    Env0 P w K mg base (A.under (.builtin "type.__call__" ⟨.ref C :: us, kw⟩)) outer s H := ⟨by first | exact e.frames | (simpa [Around.under, Code.envs, Code.isFrame, pushEnvs] using e.frames), e.mod, e.bs, e.bsz, e.funs, e.frf, e.hok, e.bare⟩
section
variable {X : Cx} {pins : List (Addr × Obj)} {σ : St} {H : Hp} {s s' : Shared}

theorem Inv.env0 (I : Inv X pins σ H s) : Env0 X.prog X.w X.K X.mg X.base X.A X.stack s H :=
  ⟨I.ok.frames, I.ok.mod, I.bs, Nat.le_trans I.ok.bsz I.sz, I.stack, I.stkFree, I.hok, I.bare⟩

theorem Inv.after {Q : VK} {u : Value} (I : Inv X pins σ H s) (h : CE X.stack X.prog X.w H s Q u s') : EP X pins σ Q u s' := by
  obtain ⟨v, H', os, bare, un, hok, r, q⟩ := h
  obtain ⟨hh, g, d, t, os'⟩ := s'
  obtain rfl : os' = s.os := os
  exact ⟨v, H', I.call (h' := hh) (g' := g) (d' := d) (t' := t) (ch := []) un hok bare (fun b z => absurd z (by simp)), r, q⟩
end



def tCall (sp : Sp) (dvs : List V) (E : XK) (t : TA) : TE := fun σ H Q => t σ H fun vs H1 => sp (vs ++ dvs) H1 Q E

def tMeth (C : Addr) (m : Str) (sp : Sp) (dvs : List V) (E : XK) (ta : TE) (t : TA) : TE := fun σ H Q => ta σ H fun x H1 => ∃ a dx fs, x = .ref a ∧ H1 a = some (.ins C dx fs) ∧ fs.lookup m = none ∧
  t σ H1 fun vs H2 => sp (x :: (vs ++ dvs)) H2 Q E

def tMake (C : Addr) (sp : Sp) (dvs : List V) (E : XK) (t : TA) : TE := fun σ H Q => t σ H fun vs H1 => ∀ x dx, H1 x = none → H1 dx = none → dx ≠ x →
  sp (.ref x :: (vs ++ dvs)) (upd (upd H1 dx (.own x)) x (.ins C dx [])) (fun v H2 => v = .non ∧ Q (.ref x) H2) E


def Binds (K : PySem.W.Frag) (fd : FuncData) (ps : List Str) (ds : List Value) : Prop :=
  ∀ (s : Shared) (us : List Value), K.In s.heap → (us ++ ds).length = ps.length → BindsTo s fd ⟨us, []⟩ (ps.zip (us ++ ds))

theorem Binds.all {K : PySem.W.Frag} {fd : FuncData} {ps : List Str} (h : ∀ us : List Value, us.length = ps.length → bindArgs fd ⟨us, []⟩ = pure (ps.zip us)) : Binds K fd ps [] := fun s us _ hl => by
  rw [List.append_nil] at hl ⊢
  exact .of_eq (h us hl)


def Passes (CX : CXT) (X : Cx) (E : XK) : Prop := ∀ (pins : List (Addr × Obj)) (σ : St) (H : Hp) (s : Shared) (e : Value) (s' : Shared), Inv X pins σ H s → CX X.stack H s E e s' → X.xe e s'

section
variable {X : Cx} {CX : CXT} {k : Nat} {f C : Addr} {fd : FuncData} {ps : List Str} {sp : Sp} {dvs : List V} {ds : List Value} {E : XK} {x m : Str} {p pos apos : Pos} {e o : Expr} {es : List Expr} {ta : TE} {t : TA}


theorem run_fn {pins : List (Addr × Obj)} {σ : St} {H : Hp} {s : Shared} {Q : VK} {us : List Value} {vs : List V} (F : FnOk X.prog X.w X.K X.mg X.base CX k f fd ps sp) (hr : Room k X.A) (hb : Binds X.K fd ps ds) (hd : Vals dvs ds) (hx : Passes CX X E)
    (I : Inv X pins σ H s) (r : Vals vs us) (h : sp (vs ++ dvs) H Q E) : wpAny (model X.prog X.w) X.A (call (.ref f) us) (EP X pins σ Q) X.xe s := by
  have r2 : Vals (vs ++ dvs) (us ++ ds) := r.append hd
  have hl : (us ++ ds).length = ps.length := by rw [← r2.length]; exact F.len _ _ _ _ h
  refine wpAny_call (codeAny_mono (F.run X.A X.stack s H ⟨us, []⟩ (us ++ ds) (vs ++ dvs) Q E hr I.env0 (hb s us I.kIn hl) r2 h) fun r s' hq => ?_)
  cases r with
  | error e => exact hx pins σ H s e s' I hq
  | ok fl =>
    cases fl with
    | ret u => exact I.after hq
    | next => exact False.elim hq
    | brk => exact False.elim hq
    | cont => exact False.elim hq

theorem pe_call (F : FnOk X.prog X.w X.K X.mg X.base CX k f fd ps sp) (hr : Room k X.A) (hg : Gl X x) (hm : X.mg x = some (.ref f)) (hk : PySem.W.keepIn X.K (.ref f) = true) (hb : Binds X.K fd ps ds) (hd : Vals dvs ds) (hx : Passes CX X E)
    (ha : PA X (e :: es) t) (hdb : (x == ("__debug__" : Str)) = false := by decide) (he : starEach (e :: es) X.env = (false, eval e X.env) :: starEach es X.env := by rfl) (hpl : (backTo pos (starEach es X.env)).any (·.1) = false := by rfl) :
    PE X (.Call (.Name x p) (e :: es) [] pos) (tCall sp dvs E t) := by
  intro pins s σ H Q I h
  refine wpAny_Call_Name_kw (ld_glob I hg hm ?_ hdb)
  refine PySem.W.callWith_K (h₀ := X.base) I.ok.mod.kin hk (thn (ha pos pins s σ H _ I h) fun us s1 ⟨vs, H1, I1, r, q⟩ => ⟨I1.kIn, ?_⟩) he hpl
  exact run_fn F hr hb hd hx I1 r q
theorem pe_meth {pl : Sem Bool} (he : PE X o ta) (c : Cls X.K C) (hm : Meth X.K C m f) (F : FnOk X.prog X.w X.K X.mg X.base CX k f fd ps sp) (hr : Room k X.A) (hb : Binds X.K fd ps ds) (hd : Vals dvs ds) (hx : Passes CX X E) (ha : PA X (e :: es) t)
    (hst : starEach (e :: es) X.env = (false, eval e X.env) :: starEach es X.env := by rfl) (hpl : (backTo pos (starEach es X.env)).any (·.1) = false := by rfl)
    (ht : eval (.Call (.Attribute o m apos) (e :: es) [] pos) X.env = (do
      let ov ← eval o X.env
      standAt apos.atName
      let (f, first) ← holding [ov] (getMethod ov m pl)
      callWith pos f first (backTo pos (starEach (e :: es) X.env)) (backToKw pos (keywordEach [] X.env))) := by rfl) :
    PE X (.Call (.Attribute o m apos) (e :: es) [] pos) (tMeth C m sp dvs E ta t) := by
  intro pins s σ H Q I h
  refine PySem.W.methodCall_KW (pl := pl) (thn (he pins s σ H _ I h) fun u s1 ⟨x, H1, I1, rx, a, dx, fs, ex, ea, l, q⟩ => ?_) ht
  subst ex
  obtain rfl : u = Value.ref a := rx
  refine getmeth_ok I1 ea c hm l ?_
  refine PySem.W.callWith_K (first := [.ref a]) (h₀ := X.base) I.ok.mod.kin hm.kp (thn (ha pos pins s1 σ H1 _ I1 q) fun us s2 ⟨vs, H2, I2, r, q2⟩ => ⟨I2.kIn, ?_⟩) hst hpl
  exact run_fn (us := .ref a :: us) (vs := .ref a :: vs) F hr hb hd hx I2 (.cons rfl r) q2

theorem pe_meth0 {pl : Sem Bool} (he : PE X o ta) (c : Cls X.K C) (hm : Meth X.K C m f) (F : FnOk X.prog X.w X.K X.mg X.base CX k f fd ps sp) (hr : Room k X.A) (hb : Binds X.K fd ps ds) (hd : Vals dvs ds) (hx : Passes CX X E)
    (ht : eval (.Call (.Attribute o m apos) [] [] pos) X.env = (do
      let ov ← eval o X.env
      standAt apos.atName
      let (f, first) ← holding [ov] (getMethod ov m pl)
      callWith pos f first (backTo pos (starEach [] X.env)) (backToKw pos (keywordEach [] X.env))) := by rfl) :
    PE X (.Call (.Attribute o m apos) [] [] pos) (tMeth C m sp dvs E ta tNil) := by
  intro pins s σ H Q I h
  refine PySem.W.methodCall_KW (pl := pl) (thn (he pins s σ H _ I h) fun u s1 ⟨x, H1, I1, rx, a, dx, fs, ex, ea, l, q⟩ => ?_) ht
  subst ex
  obtain rfl : u = Value.ref a := rx
  refine getmeth_ok I1 ea c hm l ?_
  exact PySem.W.callWith_K0 (first := [.ref a]) I1.kIn hm.kp (run_fn (us := [.ref a]) (vs := [.ref a]) F hr hb hd hx I1 (.cons rfl .nil) q)


structure Mk (K : PySem.W.Frag) (C f : Addr) : Prop where
  makes : PySem.W.makesIn K C = true
  init : PySem.W.findIn K (.ref C) "__init__" = some (some (.ref f))
  fn : PySem.W.isFn K (.ref f) = true
  kp : PySem.W.keepIn K (.ref C) = true

theorem run_make {pins : List (Addr × Obj)} {σ : St} {H : Hp} {s : Shared} {Q : VK} {us : List Value} {vs : List V} (M : Mk X.K C f) (F : FnOk X.prog X.w X.K X.mg X.base CX k f fd ps sp) (hr : Room (k + 1) X.A) (hb : Binds X.K fd ps ds) (hd : Vals dvs ds)
    (hx : Passes CX X E) (I : Inv X pins σ H s) (r : Vals vs us)
    (h : ∀ x dx, H x = none → H dx = none → dx ≠ x → sp (.ref x :: (vs ++ dvs)) (upd (upd H dx (.own x)) x (.ins C dx [])) (fun v H2 => v = .non ∧ Q (.ref x) H2) E) :
    wpAny (model X.prog X.w) X.A (call (.ref C) us) (EP X pins σ Q) X.xe s := by
  have hq := h (s.heap.objs.size + 1) s.heap.objs.size (I.hok.fresh (Nat.le_succ _)) (I.hok.fresh (Nat.le_refl _)) (Nat.ne_of_lt (Nat.lt_succ_self _))
  have I2 := Inv.made (C := C) I
  have r2 : Vals (V.ref (s.heap.objs.size + 1) :: (vs ++ dvs)) (Value.ref (s.heap.objs.size + 1) :: (us ++ ds)) := .cons rfl (r.append hd)
  have hl : (Value.ref (s.heap.objs.size + 1) :: us ++ ds).length = ps.length := by
    have e := r2.length
    rw [F.len _ _ _ _ hq] at e
    exact e.symm
  refine wpAny_call (make_map (f := f) I.kIn M.makes M.init (beq_iff_eq.mp M.fn) (codeAny_mono (F.run _ X.stack _ _ ⟨Value.ref (s.heap.objs.size + 1) :: us, []⟩ (Value.ref (s.heap.objs.size + 1) :: (us ++ ds)) _ _ E (hr.make C us [])
    (I2.env0.make C us []) (hb _ (Value.ref (s.heap.objs.size + 1) :: us) I2.kIn hl) r2 hq) fun r s' hq' => ?_))
  cases r with
  | error e => exact hx pins σ _ _ e s' I2 hq'
  | ok fl =>
    cases fl with
    | ret u =>
      obtain ⟨v, H', I3, rv, ev, q3⟩ := I2.after hq'
      subst ev
      exact ⟨rv, ⟨V.ref (s.heap.objs.size + 1), H', I3, rfl, q3⟩⟩
    | next => exact False.elim hq'
    | brk => exact False.elim hq'
    | cont => exact False.elim hq'
theorem pe_make0 (M : Mk X.K C f) (F : FnOk X.prog X.w X.K X.mg X.base CX k f fd ps sp) (hr : Room (k + 1) X.A) (hg : Gl X x) (hm : X.mg x = some (.ref C)) (hb : Binds X.K fd ps ds) (hd : Vals dvs ds) (hx : Passes CX X E)
    (hdb : (x == ("__debug__" : Str)) = false := by decide) : PE X (.Call (.Name x p) [] [] pos) (tMake C sp dvs E tNil) := by
  intro pins s σ H Q I h
  refine wpAny_Call_Name_kw (ld_glob I hg hm ?_ hdb)
  exact PySem.W.callWith_K0 I.kIn M.kp (run_make (us := []) M F hr hb hd hx I .nil h)
end



def PK (X : Cx) (kws : List Keyword) (t : TA) : Prop :=
  ∀ (pos : Pos) (pins : List (Addr × Obj)) (s : Shared) (σ : St) (H : Hp) (Q : List V → Hp → Prop), Inv X pins σ H s → t σ H Q → wpAny (model X.prog X.w) X.A (evalAll ((backToKw pos (keywordEach kws X.env)).map (·.2))) (AP X pins σ Q) X.xe s
section
variable {X : Cx} {CX : CXT} {k : Nat} {f C : Addr} {fd : FuncData} {ps ks : List Str} {sp : Sp} {E : XK} {x m : Str} {p pos apos kpos : Pos} {e o : Expr} {es : List Expr} {kws : List Keyword} {te ta : TE} {t tk : TA} {nm : Option Str}
structure KBinds (K : PySem.W.Frag) (fd : FuncData) (ps ks : List Str) (g : List Value → List Value → List Value) (gV : List V → List V → List V) : Prop where
  to : ∀ (s : Shared) (us ws : List Value), K.In s.heap → (g us ws).length = ps.length → BindsTo s fd ⟨us, ks.zip ws⟩ (ps.zip (g us ws))
  rel : ∀ {vs : List V} {us : List Value} {zs : List V} {ws : List Value}, Vals vs us → Vals zs ws → Vals (gV vs zs) (g us ws)
def tCallK (sp : Sp) (gV : List V → List V → List V) (E : XK) (t tk : TA) : TE := fun σ H Q => t σ H fun vs H1 => tk σ H1 fun zs H2 => sp (gV vs zs) H2 Q E
variable {g : List Value → List Value → List Value} {gV : List V → List V → List V}
end



structure FnScope (N P : List Str) (sc : Scope) : Prop where
  kind : sc.kind = .function
  co : sc.isCoroutine = false
  gen : sc.isGenerator = false
  nd : N.Nodup
  pre : N.take P.length = P
  par : ∀ x ∈ P, sc.names.lookup x = some .local ∨ sc.names.lookup x = some .cell
  nofree : ∀ y ∈ sc.names, y.2 ≠ .free

theorem bindL_out {kindOf : Str → Option NameKind} {x : Str} : ∀ {binds : List (Str × Value)} {m : Str → Option Value}, (∀ v, (x, v) ∉ binds) → bindL kindOf binds m x = m x
  | [], _, _ => rfl
  | (n, v) :: r, m, h => by
    unfold bindL
    rw [bindL_out fun w hw => h w (List.mem_cons_of_mem _ hw)]
    split
    · have : x ≠ n := by rintro rfl; exact h v List.mem_cons_self
      simp [this]
    · rfl
theorem bindC_out {kindOf : Str → Option NameKind} {x : Str} : ∀ {binds : List (Str × Value)} {m : Str → Option Value}, (∀ v, (x, v) ∉ binds) → bindC kindOf binds m x = m x
  | [], _, _ => rfl
  | (n, v) :: r, m, h => by
    unfold bindC
    rw [bindC_out fun w hw => h w (List.mem_cons_of_mem _ hw)]
    split
    · rfl
    · have : x ≠ n := by rintro rfl; exact h v List.mem_cons_self
      simp [this]
theorem bindL_get {kindOf : Str → Option NameKind} {x : Str} {v : Value} : ∀ {P : List Str} {vs : List Value} {i : Nat} {m : Str → Option Value}, P.Nodup → P[i]? = some x → vs[i]? = some v → kindOf x = some .local →
    bindL kindOf (P.zip vs) m x = some v
  | [], _, _, _, _, h, _, _ => by simp at h
  | _ :: _, [], _, _, _, _, h, _ => by simp at h
  | p :: P, w :: vs, 0, m, nd, h1, h2, hk => by
    simp at h1 h2; subst h1; subst h2
    show bindL kindOf ((p, w) :: P.zip vs) m p = _
    unfold bindL
    rw [bindL_out fun v hv => (List.nodup_cons.mp nd).1 (List.of_mem_zip hv).1, if_pos hk]
    simp
  | p :: P, w :: vs, i + 1, m, nd, h1, h2, hk => by
    show bindL kindOf ((p, w) :: P.zip vs) m x = _
    unfold bindL
    exact bindL_get (i := i) (List.nodup_cons.mp nd).2 (by simpa using h1) (by simpa using h2) hk
theorem bindC_get {kindOf : Str → Option NameKind} {x : Str} {v : Value} : ∀ {P : List Str} {vs : List Value} {i : Nat} {m : Str → Option Value}, P.Nodup → P[i]? = some x → vs[i]? = some v → kindOf x ≠ some .local →
    bindC kindOf (P.zip vs) m x = some v
  | [], _, _, _, _, h, _, _ => by simp at h
  | _ :: _, [], _, _, _, _, h, _ => by simp at h
  | p :: P, w :: vs, 0, m, nd, h1, h2, hk => by
    simp at h1 h2; subst h1; subst h2
    show bindC kindOf ((p, w) :: P.zip vs) m p = _
    unfold bindC
    rw [bindC_out fun v hv => (List.nodup_cons.mp nd).1 (List.of_mem_zip hv).1, if_neg hk]
    simp
  | p :: P, w :: vs, i + 1, m, nd, h1, h2, hk => by
    show bindC kindOf ((p, w) :: P.zip vs) m x = _
    unfold bindC
    exact bindC_get (i := i) (List.nodup_cons.mp nd).2 (by simpa using h1) (by simpa using h2) hk


def start (N : List Str) (vs : List V) : St := vs.map some ++ List.replicate (N.length - vs.length) none


def cxOf (CX : CXT) (P : Program) (w : World) (K : PySem.W.Frag) (mg : Str → Option Value) (base : Heap) (N : List Str) (qual : Str) (scope : Scope) (f : Addr) (cd : Value) (A : Around) (outer : List Env) (s : Shared) (H : Hp) (E : XK) : Cx where
  prog := P
  w := w
  K := K
  mg := mg
  base := base
  A := A.deeper (envOfC qual scope s.heap.objs.size f cd)
  N := N
  s_0 := s
  H_0 := H
  env := envOfC qual scope s.heap.objs.size f cd
  outer := outer
  stack := envOfC qual scope s.heap.objs.size f cd :: outer
  ex := []
  calm := true
  fn := fun _ => true
  pn := []
  xe := fun e s' => wpAny (model P w) (A.deeper (envOfC qual scope s.heap.objs.size f cd)) (leaving (envOfC qual scope s.heap.objs.size f cd) e) (fun _ s'' => CX outer H s E e s'') (fun e' s'' => CX outer H s E e' s'') s'

theorem cell_has {sc : Scope} {n : Nat} {x : Str} (h : sc.names.lookup x = some .cell) : ∃ c, (cellsFrom n sc.names []).lookup x = some c := by
  have q := PySem.W.cellsFrom_some sc.names n [] (.inl h)
  exact Option.isSome_iff_exists.mp q

theorem inv_start {CX : CXT} {P : Program} {w : World} {K : PySem.W.Frag} {mg : Str → Option Value} {base : Heap} {N ps : List Str} {qual : Str} {scope : Scope} {f : Addr} {cd : Value} {A : Around} {outer : List Env} {s s1 : Shared} {H : Hp} {E : XK} {us : List Value} {vs : List V}
    (S : FnScope N ps scope) (hd : A.handled = none) (e0 : Env0 P w K mg base A outer s H) (hl : vs.length = ps.length) (r : Vals vs us)
    (x : InCallC s s.heap.objs.size (bindL (envOfC qual scope s.heap.objs.size f cd).kindOf (ps.zip us) fun _ => none) (cellsFrom (s.heap.objs.size + 1) scope.names []) (bindC (envOfC qual scope s.heap.objs.size f cd).kindOf (ps.zip us) fun _ => none) s1) :
    Inv (cxOf CX P w K mg base N qual scope f cd A outer s H E) [] (start N vs) H s1 := by
  have hpl : ps.length ≤ N.length := by have := congrArg List.length S.pre; rw [List.length_take] at this; omega
  obtain ⟨h1, tk, rfl, hk⟩ := x.done
  have noA : ∀ b : Addr, b ∉ (cxOf CX P w K mg base N qual scope f cd A outer s H E).ex := fun b z => absurd (show b ∈ ([] : List Addr) from z) (by simp)
  refine ⟨⟨e0.mod, S.kind, rfl, rfl, Nat.le_refl _, fun y z c h1 h2 => ?_, fun y hy => ?_, fun y c _ h => ?_, fun _ => hd, Around.frames_deeper e0.frames, .inr ⟨rfl, rfl⟩, fun b z => absurd z (noA b), e0.bs, e0.bsz, fun b _ _ => noA b, fun b z => absurd z (noA b), e0.funs, e0.frf⟩,
    rfl, e0.bare, Un.kept hk, ⟨_, x.toInCall.ns, fun i y v h1 h2 h3 => ?_⟩, fun y c h => ⟨_, x.cell y c h⟩, e0.hok.fresh (Nat.le_refl _), fun y c h => ?_, fun p hp => absurd (show p ∈ ([] : List (Addr × Obj)) from hp) (by simp), e0.hok.kept hk, ?_⟩
  · exact name_of_addr x.apart (PySem.mem_of_lookup h1) (PySem.mem_of_lookup h2)
  · have hy : scope.names.lookup y = some .cell ∨ scope.names.lookup y = some .free := hy
    rcases hy with hy | hy
    · exact cell_has hy
    · exact absurd rfl (S.nofree _ (PySem.mem_of_lookup hy))
  · exact Nat.le_of_lt (x.above y c (PySem.mem_of_lookup h))
  · have hi : i < vs.length := by
      unfold start at h2
      by_cases hi : i < vs.length
      · exact hi
      · rw [List.getElem?_append_right (by simpa using hi)] at h2
        rw [List.getElem?_replicate] at h2
        split at h2 <;> cases h2
    have ha : vs[i]? = some v := by
      unfold start at h2
      rw [List.getElem?_append_left (by simpa using hi), List.getElem?_map] at h2
      cases e : vs[i]? with
      | none => rw [e] at h2; cases h2
      | some a => rw [e] at h2; cases h2; rfl
    obtain ⟨u, hu, rv⟩ := r.get ha
    have hp : ps[i]? = some y := by
      rw [← S.pre, List.getElem?_take_of_lt (by omega)]; exact h1
    have ndP : ps.Nodup := by rw [← S.pre]; exact S.nd.sublist (List.take_sublist _ _)
    refine ⟨u, rv, ?_⟩
    rcases S.par y (List.mem_of_getElem? hp) with k | k
    · exact .inl ⟨k, bindL_get ndP hp hu k⟩
    · obtain ⟨c, e⟩ := cell_has (n := s.heap.objs.size + 1) k
      refine .inr ⟨.inl k, c, e, ?_⟩
      have q := x.cell y c e
      rw [bindC_get ndP hp hu (by show scope.names.lookup y ≠ _; rw [k]; decide)] at q
      exact q
  · exact e0.hok.fresh (Nat.le_of_lt (x.above y c (PySem.mem_of_lookup h)))
  · unfold start
    show _ = N.length
    rw [List.length_append, List.length_map, List.length_replicate]
    omega


theorem fn_of {CX : CXT} {P : Program} {w : World} {K : PySem.W.Frag} {mg : Str → Option Value} {base : Heap} {k : Nat} {f : Addr} {name qual : Str} {params : Arguments} {body : List Stmt} {scope : Scope} {dV kV doc pm cdv ct oc : Value} {an od : Option Addr}
    {osl : Array (Option Value)} {N ps : List Str} {sp : Sp} (lk : K.lookup f = some ⟨oc, od, .func (PySem.W.fnOf name qual params body scope dV kV doc pm an cdv ct), osl⟩) (hcd : PySem.W.codeIn K cdv qual = true) (S : FnScope N ps scope)
    (len : ∀ vs H Q E, sp vs H Q E → vs.length = ps.length)
    (hbody : ∀ (A : Around) (outer : List Env) (s : Shared) (H : Hp) (vs : List V) (Q : VK) (E : XK), Room k (A.deeper (envOfC qual scope s.heap.objs.size f cdv)) → sp vs H Q E →
      ∃ t, PSs (cxOf CX P w K mg base N qual scope f cdv A outer s H E) body t ∧ t { nx := fun _ H' => Q .non H', rt := Q } (start N vs) H) :
    FnOk P w K mg base CX (k + 1) f (PySem.W.fnOf name qual params body scope dV kV doc pm an cdv ct) ps sp := by
  refine ⟨len, fun A outer s H args us vs Q E hr e0 hb r hsp => ?_⟩
  have hl := len _ _ _ _ hsp
  have KX : K.In s.heap := e0.mod.kin.keeps fun b o e => (e0.bs b o e).1
  have lim : s.heap.NoLimit := e0.mod.nolimit.keeps fun b o e => (e0.bs b o e).1
  have hkind : ∀ y ∈ ps.zip us, scope.names.lookup y.1 = some .local ∨ (scope.names.lookup y.1 = some .cell ∧ ((cellsFrom (s.heap.objs.size + 1) scope.names []).lookup y.1).isSome = true) := fun ⟨n, v⟩ hy => by
    rcases S.par n (List.of_mem_zip hy).1 with q | q
    · exact .inl q
    · exact .inr ⟨q, PySem.W.cellsFrom_some _ _ _ (.inl q)⟩
  refine codeAny_call_function hr.depth (KX _ _ lk) rfl S.co S.gen rfl (PySem.W.codeRec_of KX hcd) (hb _ _ _ _ ?_)
  refine wpAny_newFunctionEnv_cells S.kind hkind fun env he s1 x => ?_
  subst he
  refine ⟨lim.keeps x.toInCall.keep, codeAny_func ?_⟩
  obtain ⟨t, ht, hq⟩ := hbody A outer s H vs Q E (hr.deeper _) hsp
  have I : Inv (cxOf CX P w K mg base N qual scope f cdv A outer s H E) [] (start N vs) H s1 := inv_start S hr.hd e0 hl r x
  refine wpAny_mono (ht [] s1 (start N vs) H _ I hq) (fun fl s' hs => ?_) fun e s' hs => hs
  have fin : ∀ {σ' : St} {H' : Hp} {v : V} {u : Value}, Inv (cxOf CX P w K mg base N qual scope f cdv A outer s H E) [] σ' H' s' → RelV v u → Q v H' → CE outer P w H s Q u s' :=
    fun {σ' H' v u} J rv q => ⟨v, H', J.os, J.bare, J.base, J.hok, rv, q⟩
  cases fl with
  | ret u =>
    obtain ⟨v, σ', H', J, rv, q⟩ := hs
    exact fin J rv q
  | next =>
    obtain ⟨σ', H', J, q⟩ := hs
    exact fin (v := V.non) (u := Value.none) J rfl q
  | brk =>
    obtain ⟨_, _, _, q⟩ := hs
    exact False.elim q
  | cont =>
    obtain ⟨_, _, _, q⟩ := hs
    exact False.elim q
end L2

namespace L2
open PySem PySem.Spec PyProof.Rows
section
variable {X : Cx} {x : Str} {p pos : Pos} {e : Expr} {es : List Expr} {t : TA} {id T : String} {r : List V → Hp → VK → Prop}

def tCB (r : List V → Hp → VK → Prop) (t : TA) : TE := fun σ H Q => t σ H fun vs H1 => r vs H1 Q

theorem pe_callB (hc : CallR X (.builtin id) r) (hg : Gl X x) (hm : X.mg x = none) (hv : bootBuiltins x = some (.builtin id)) (ha : PA X (e :: es) t) (hn : x ≠ "__name__" := by decide) (hdb : (x == ("__debug__" : Str)) = false := by decide)
    (he : starEach (e :: es) X.env = (false, eval e X.env) :: starEach es X.env := by rfl) (hpl : (backTo pos (starEach es X.env)).any (·.1) = false := by rfl) : PE X (.Call (.Name x p) (e :: es) [] pos) (tCB r t) := by
  intro pins s σ H Q I h
  refine wpAny_Call_Name_kw (ld_blt I hg hm hv ?_ hn hdb)
  exact PyProof.Rows.callWith_builtin1 (thn (ha pos pins s σ H _ I h) fun us s1 ⟨vs, H1, I1, r1, q1⟩ => hc pins s1 σ H1 vs us Q I1 r1 q1) he hpl

theorem pe_callTy (hc : CallR X (.type T) r) (hg : Gl X x) (hm : X.mg x = none) (hv : bootBuiltins x = some (.type T)) (ha : PA X (e :: es) t) (hn : x ≠ "__name__" := by decide) (hdb : (x == ("__debug__" : Str)) = false := by decide)
    (he : starEach (e :: es) X.env = (false, eval e X.env) :: starEach es X.env := by rfl) (hpl : (backTo pos (starEach es X.env)).any (·.1) = false := by rfl) : PE X (.Call (.Name x p) (e :: es) [] pos) (tCB r t) := by
  intro pins s σ H Q I h
  refine wpAny_Call_Name_kw (ld_blt I hg hm hv ?_ hn hdb)
  exact PyProof.Rows.callWith_type1 (thn (ha pos pins s σ H _ I h) fun us s1 ⟨vs, H1, I1, r1, q1⟩ => hc pins s1 σ H1 vs us Q I1 r1 q1) he hpl

end
end L2

namespace HT
open PySem PyProof.Rows


def lexLt : List Int → List Int → Bool
  | [], [] => false
  | [], _ :: _ => true
  | _ :: _, [] => false
  | x :: xs, y :: ys => if x = y then lexLt xs ys else decide (x < y)
section
open PySem.SeqAt
open PySem.AutoSeq1 (wpAny_loadPart')
open PySem.MeetsSeq PySem.MeetsSeq2 PySem.MeetsSeq3

end

section
variable {prog : Program} {w : World} {A : Around} {E : Value → Shared → Prop} {s : Shared}

def sIx (n d : Nat) : Option Int → Nat
  | none => d
  | some v => if v < 0 then (v + (n : Int)).toNat else min v.toNat n
theorem sIx_none (n d : Nat) : sIx n d none = d := rfl
theorem sIx_nat (n d k : Nat) : sIx n d (some (k : Int)) = min k n := by
  show (if (k : Int) < 0 then ((k : Int) + (n : Int)).toNat else min (k : Int).toNat n) = min k n
  rw [if_neg (by omega), Int.toNat_natCast]
end
end HT

namespace L2
open PySem PySem.Spec PyProof.Rows


abbrev TO := St → Hp → (Option Int → Hp → Prop) → Prop

def PO (X : Cx) (e : Option Expr) (t : TO) : Prop :=
  ∀ (pins : List (Addr × Obj)) (s : Shared) (σ : St) (H : Hp) (Q : Option Int → Hp → Prop), Inv X pins σ H s → t σ H Q →
    wpAny (model X.prog X.w) X.A (evalPart e X.env) (fun u s' => ∃ o H', Inv X pins σ H' s' ∧ IsPart u o ∧ Q o H') X.xe s
def tNoPart : TO := fun _ H Q => Q none H
def tPart (t : TE) : TO := fun σ H Q => t σ H fun x H1 => ∃ i, x = .int i ∧ Q (some i) H1

section
variable {X : Cx} {e : Expr} {te : TE} {lo hi : Option Expr} {tl th : TO} {pos p2 : Pos}

theorem po_none : PO X none tNoPart := by
  intro pins s σ H Q I h
  rw [evalPart_none]
  exact wpAny_pure ⟨none, H, I, .none, h⟩
theorem po_some (h : PE X e te) : PO X (some e) (tPart te) := by
  intro pins s σ H Q I hw
  rw [evalPart_some]
  refine thn (h pins s σ H _ I hw) fun u s1 ⟨x, H1, I1, r1, q1⟩ => ?_
  obtain ⟨i, rfl, q⟩ := q1
  obtain ⟨t, rfl⟩ := r1
  exact ⟨some i, H1, I1, .int i t, q⟩


def SlR (X : Cx) (r : V → Option Int → Option Int → Hp → VK → Prop) : Prop :=
  ∀ (pins : List (Addr × Obj)) (s : Shared) (σ : St) (H : Hp) (x : V) (v vl vu : Value) (lo hi : Option Int) (sl : Addr) (Q : VK), Inv X pins σ H s → RelV x v → s.heap.IsSliceOf sl vl vu .none → IsPart vl lo → IsPart vu hi → r x lo hi H Q →
    ∃ T id, typeLookup (.type T) "__getitem__" = pure (some (.builtin id)) ∧ s.TypeIs v T ∧ wpAny (model X.prog X.w) X.A (getItem v (.ref sl)) (EP X pins σ Q) X.xe s
def tSl (r : V → Option Int → Option Int → Hp → VK → Prop) (te : TE) (tl th : TO) : TE := fun σ H Q => te σ H fun x H1 => tl σ H1 fun l H2 => th σ H2 fun u H3 => r x l u H3 Q

theorem pe_slice {r : V → Option Int → Option Int → Hp → VK → Prop} (hr : SlR X r) (he : PE X e te) (hl : PO X lo tl) (hu : PO X hi th) : PE X (.Subscript e (.Slice lo hi none p2) pos) (tSl r te tl th) := by
  intro pins s σ H Q I h
  refine Subscript_ (thn (he pins s σ H _ I h) fun v s1 ⟨x, H1, I1, r1, q1⟩ => ?_)
  refine wpAny_Slice (thn (hl pins s1 σ H1 _ I1 q1) fun vl s2 ⟨l, H2, I2, pl, q2⟩ => thn (hu pins s2 σ H2 _ I2 q2) fun vu s3 ⟨u, H3, I3, pu, q3⟩ => ?_)
  rw [evalPart_none]
  refine wpAny_pure ?_
  have I4 : Inv X pins σ H3 { s3 with heap := s3.heap.push { cls := .type "slice", data := .fields #[vl, vu, .none] } } := I3.kept (t' := s3.toks) fun b ob q => Heap.get?_push_of_some _ q
  obtain ⟨T, id, hT, ht, hg⟩ := hr pins { s3 with heap := s3.heap.push { cls := .type "slice", data := .fields #[vl, vu, .none] } } σ H3 x v vl vu l u s3.heap.objs.size Q I4 r1 (Heap.IsSliceOf.new ..) pl pu q3
  show wpAny (model X.prog X.w) X.A (subscriptTail e (.Slice lo hi none p2) v (.ref s3.heap.objs.size)) (EP X pins σ Q) X.xe { s3 with heap := s3.heap.push { cls := .type "slice", data := .fields #[vl, vu, .none] } }
  exact tail_any (ops := [.ref s3.heap.objs.size, v]) ht hT hg (by with_unfolding_all rfl)


def cutV (xs : List V) (lo hi : Option Int) : List V := (xs.drop (HT.sIx xs.length 0 lo)).take (HT.sIx xs.length xs.length hi - HT.sIx xs.length 0 lo)
theorem cutV_length (xs : List V) (lo hi : Option Int) : (cutV xs lo hi).length ≤ xs.length := by
  unfold cutV
  rw [List.length_take, List.length_drop]
  omega

def rSlT (K : PySem.W.Frag) : V → Option Int → Option Int → Hp → VK → Prop := fun x lo hi H Q => ∃ a xs, x = .ref a ∧ SqT K H a xs ∧
  ¬ (HT.sIx xs.length 0 lo = 0 ∧ HT.sIx xs.length xs.length hi = xs.length) ∧ ∀ p, H p = none → Q (.ref p) (upd H p (.tup (cutV xs lo hi)))
def rLtT (K : PySem.W.Frag) : R2 := fun x y H Q => ∃ a b ns ms, x = .ref a ∧ y = .ref b ∧ SqT K H a (ns.map V.int) ∧ SqT K H b (ms.map V.int) ∧ Q (.bl (HT.lexLt ns ms)) H
def rCatT (K : PySem.W.Frag) : R2 := fun x y H Q => ∃ a b xs ys, x = .ref a ∧ y = .ref b ∧ SqT K H a xs ∧ SqT K H b ys ∧ xs ≠ [] ∧ xs.length + ys.length ≤ sizeLine ∧
  (ys = [] → Q (.ref a) H) ∧ (ys ≠ [] → ∀ p, H p = none → Q (.ref p) (upd H p (.tup (xs ++ ys))))
end
end L2

namespace L2
open PySem PySem.Spec PyProof.Rows



def ixN (n : Nat) (i : Int) : Option Nat := if 0 ≤ i then (if i < n then some i.toNat else none) else if -(n : Int) ≤ i then some (i + n).toNat else none
def atI {α : Type} (xs : List α) (i : Int) : Option α := (ixN xs.length i).bind fun j => xs[j]?
theorem ixN_seq {n : Nat} {i : Int} {j : Nat} (h : ixN n i = some j) : seqIndex? i n = some j ∧ j < n ∧ -(n : Int) ≤ i ∧ i < n := by
  unfold ixN at h
  by_cases h0 : 0 ≤ i
  · rw [if_pos h0] at h
    by_cases h1 : i < n
    · rw [if_pos h1] at h
      have e : i.toNat = j := Option.some.inj h
      exact ⟨by rw [seqIndex_of h0 h1, e], by omega, by omega, h1⟩
    · rw [if_neg h1] at h; cases h
  · rw [if_neg h0] at h
    by_cases h1 : -(n : Int) ≤ i
    · rw [if_pos h1] at h
      have e : (i + n).toNat = j := Option.some.inj h
      exact ⟨by rw [seqIndex_neg (by omega) h1, e], by omega, h1, by omega⟩
    · rw [if_neg h1] at h; cases h
theorem atI_get {α : Type} {xs : List α} {i : Int} {v : α} (h : atI xs i = some v) : ∃ j, seqIndex? i xs.length = some j ∧ xs[j]? = some v ∧ j < xs.length ∧ -(xs.length : Int) ≤ i ∧ i < xs.length := by
  unfold atI at h
  cases e : ixN xs.length i with
  | none => rw [e] at h; cases h
  | some j =>
    rw [e] at h
    obtain ⟨h1, h2, h3, h4⟩ := ixN_seq e
    exact ⟨j, h1, h, h2, h3, h4⟩
theorem atI_nat {α : Type} {xs : List α} {j : Nat} {v : α} (h : xs[j]? = some v) : atI xs (j : Int) = some v := by
  have hj : j < xs.length := (List.getElem?_eq_some_iff.mp h).1
  have e : ixN xs.length (j : Int) = some j := by
    unfold ixN
    rw [if_pos (by omega), if_pos (by omega)]; simp
  unfold atI; rw [e]; exact h
def PlainIx (b : Expr) : Prop := ∀ o i, subscripted b false o i = operate [o, i] (getItem o i)

def IxR (X : Cx) (r : R2) : Prop :=
  ∀ (value slice : Expr) (pins : List (Addr × Obj)) (s : Shared) (σ : St) (H : Hp) (x y : V) (v u : Value) (Q : VK), Inv X pins σ H s → RelV x v → RelV y u → r x y H Q →
    subscripted slice false v u = operate [v, u] (getItem v u) → wpAny (model X.prog X.w) X.A (subscriptTail value slice v u) (EP X pins σ Q) X.xe s

def MtR (X : Cx) (id : String) (r : V → List V → Hp → VK → Prop) : Prop :=
  ∀ (pins : List (Addr × Obj)) (s : Shared) (σ : St) (H : Hp) (x : V) (xs : List V) (v : Value) (us : List Value) (Q : VK), Inv X pins σ H s → RelV x v → Vals xs us → r x xs H Q →
    wpAny (model X.prog X.w) X.A (call (.builtin id) (v :: us)) (EP X pins σ Q) X.xe s
section
variable {X : Cx} {a b : Expr} {ta tb : TE} {pos : Pos}
theorem pe_ix {r : R2} (hr : IxR X r) (ha : PE X a ta) (hb : PE X b tb) (hs : PlainIx b) : PE X (.Subscript a b pos) (tOp r ta tb) := by
  intro pins s σ H Q I h
  exact Subscript_ (binT ha hb I h fun v u s2 x y H2 I2 rx ry q => hr a b pins s2 σ H2 x y v u Q I2 rx ry q (hs _ _))

def rIxL (K : PySem.W.Frag) : R2 := fun x y H Q => ∃ p xs i v, x = .ref p ∧ y = .int i ∧ SqL K H p xs ∧ atI xs i = some v ∧ Q v H
def rIxT (K : PySem.W.Frag) : R2 := fun x y H Q => ∃ p xs i v, x = .ref p ∧ y = .int i ∧ SqT K H p xs ∧ atI xs i = some v ∧ Q v H
def rIxS : R2 := fun x y H Q => ∃ z i c, x = .str z ∧ y = .int i ∧ z.length ≤ sizeLine ∧ atI z.cps.toList i = some c ∧ Q (.str ⟨#[c]⟩) H
theorem ix_list : IxR X (rIxL X.K) := by
  intro value slice pins s σ H x y v u Q I rx ry h hs
  obtain ⟨p, xs, i, z, rfl, rfl, hq, he, q⟩ := h
  cases rx
  obtain ⟨t, rfl⟩ := ry
  obtain ⟨its, r, pl, hz⟩ := I.list hq
  obtain ⟨j, h1, h2, h3, h4, h5⟩ := atI_get he
  obtain ⟨w, ew, rw'⟩ := r.get h2
  have hl := r.length
  have hn := line63
  have fin : EP X pins σ Q w s := ⟨z, H, I, rw', q⟩
  by_cases h0 : 0 ≤ i
  · have hj : i.toNat = j := by
      rw [seqIndex_of h0 h5] at h1
      exact Option.some.inj h1
    exact item_listR pl.isList h0 (by omega) (by rw [hj]; simpa using ew) fin hs
  · have hj : (i + (its.toArray.size : Int)).toNat = j := by
      rw [seqIndex_neg (by omega) h4] at h1
      rw [List.size_toArray, ← hl]
      exact Option.some.inj h1
    exact subscriptTail_builtinR (x := w) pl.isList.typeIs slot_list_getitem.lookup
      (wpAny_getItem_list_neg (Q := fun r s' => r = w ∧ EP X pins σ Q r s') pl.isList (by omega) (by rw [List.size_toArray] <;> omega) (by omega) (by rw [hj]; simpa using ew) ⟨rfl, fin⟩) hs
theorem ix_tup : IxR X (rIxT X.K) := by
  intro value slice pins s σ H x y v u Q I rx ry h hs
  obtain ⟨p, xs, i, z, rfl, rfl, hq, he, q⟩ := h
  cases rx
  obtain ⟨t, rfl⟩ := ry
  obtain ⟨its, r, pl, hz⟩ := I.tuple hq
  obtain ⟨j, h1, h2, h3, h4, h5⟩ := atI_get he
  obtain ⟨w, ew, rw'⟩ := r.get h2
  have hl := r.length
  have hn := line63
  have fin : EP X pins σ Q w s := ⟨z, H, I, rw', q⟩
  exact subscriptTail_builtinR (x := w) pl.typeIs slot_tuple_getitem.lookup
    (getItem_tuple (j := j) (Q := fun r s' => r = w ∧ EP X pins σ Q r s') pl (by omega) (by omega) (by rw [List.size_toArray, ← hl]; exact h1) (by simpa using ew) ⟨rfl, fin⟩) hs
def rIx (K : PySem.W.Frag) : R2 := fun x y H Q => rIxL K x y H Q ∨ rIxT K x y H Q ∨ rIxS x y H Q
theorem mapSeq_set (its : List Value) (n j : Nat) (u : Value) : Obj.mapSeq (·.setIfInBounds j u) { cls := .type "list", data := .seq its.toArray n } = { cls := .type "list", data := .seq (its.set j u).toArray n } := by
  simp [Obj.mapSeq]
theorem Inv.lst {pins : List (Addr × Obj)} {σ : St} {H : Hp} {s : Shared} {p : Addr} {xs : List V} (I : Inv X pins σ H s) (h : H p = some (.lst xs)) :
    ∃ (its : List Value) (n : Nat), Vals xs its ∧ s.heap.get? p = some { cls := .type "list", data := .seq its.toArray n } ∧ xs.length ≤ sizeLine := by
  obtain ⟨z, its, n, r, e⟩ := I.hok p _ h
  exact ⟨its, n, r, e, z⟩

theorem Inv.lstUpd {pins : List (Addr × Obj)} {σ : St} {H : Hp} {s : Shared} {p : Addr} {xs ys : List V} {its its' : List Value} {n n' : Nat} {f : Obj → Obj} (I : Inv X pins σ H s) (h : H p = some (.lst xs))
    (ho : s.heap.get? p = some { cls := .type "list", data := .seq its.toArray n }) (hf : f { cls := .type "list", data := .seq its.toArray n } = { cls := .type "list", data := .seq its'.toArray n' }) (r : Vals ys its') (hz : ys.length ≤ sizeLine) (t : Nat) :
    Inv X pins σ (upd H p (.lst ys)) { s with heap := s.heap.update p f, toks := t } := by
  have e : (s.heap.update p f).get? p = some { cls := .type "list", data := .seq its'.toArray n' } := by
    rw [Heap.get?_update_self f ho (by rw [hf] <;> rfl), hf]
  refine I.write (x := p) (e := p) (by rw [h]; trivial) (.inl rfl) (fun b u hb q => (Heap.get?_update_other _ _ (Ne.symm hb)).trans q) ⟨_, e⟩ ?_
  exact ⟨hz, its', n', r, e⟩
def rSetL : V → V → V → Hp → (Hp → Prop) → Prop := fun o i v H Q => ∃ p xs k j, o = .ref p ∧ i = .int k ∧ H p = some (.lst xs) ∧ ixN xs.length k = some j ∧ Q (upd H p (.lst (xs.set j v)))
theorem set_list : PSet X rSetL := by
  intro pins s σ H o i v ov iv u Q I ro ri rv h
  obtain ⟨p, xs, k, j, rfl, rfl, hp, hj, q⟩ := h
  cases ro
  obtain ⟨t, rfl⟩ := ri
  obtain ⟨its, n, r, ho, hz⟩ := I.lst hp
  obtain ⟨h1, h2, h3, h4⟩ := ixN_seq hj
  have hl := r.length
  have hn := line63
  have I' : Inv X pins σ (upd H p (.lst (xs.set j v))) { s with heap := s.heap.update p (Obj.mapSeq (·.setIfInBounds j u)) } :=
    I.lstUpd hp ho (mapSeq_set its n j u) (r.set rv j) (by rw [List.length_set]; exact hz) s.toks
  by_cases h0 : 0 ≤ k
  · have hk : k.toNat = j := by
      rw [seqIndex_of h0 h4] at h1
      exact Option.some.inj h1
    exact PySem.W.ki_setAt ho h0 (by omega) (by rw [List.size_toArray, ← hl]; exact h4) (by rw [hk]; exact ⟨_, I', q⟩)
  · have hk : (k + (its.toArray.size : Int)).toNat = j := by
      rw [seqIndex_neg (by omega) h3] at h1
      rw [List.size_toArray, ← hl]
      exact Option.some.inj h1
    exact PySem.W.ki_setBack ho (by omega) (by rw [List.size_toArray, ← hl]; exact h3) (by omega) (by rw [hk]; exact ⟨_, I', q⟩)


theorem slice_bounds (lo hi : Option Int) (n : Nat) : (sliceBounds lo hi none n).1 = ((HT.sIx n 0 lo : Nat) : Int) ∧ (sliceBounds lo hi none n).2.1 = ((HT.sIx n n hi : Nat) : Int) ∧ (sliceBounds lo hi none n).2.2 = 1 := by
  refine ⟨?_, ?_, rfl⟩
  · cases lo with
    | none => simp [sliceBounds, HT.sIx]
    | some i =>
      simp only [sliceBounds, HT.sIx, Option.getD_none, show (1 : Int) > 0 by decide, if_true]
      by_cases h : i < 0
      · simp only [h, if_true] <;> omega
      · simp only [h, if_false] <;> omega
  · cases hi with
    | none => simp [sliceBounds, HT.sIx]
    | some i =>
      simp only [sliceBounds, HT.sIx, Option.getD_none, show (1 : Int) > 0 by decide, if_true]
      by_cases h : i < 0
      · simp only [h, if_true] <;> omega
      · simp only [h, if_false] <;> omega
theorem slicePick_cut (its : List Value) (lo hi : Option Int) : slicePick its.toArray lo hi none = ((its.drop (HT.sIx its.length 0 lo)).take (HT.sIx its.length its.length hi - HT.sIx its.length 0 lo)).toArray := by
  obtain ⟨h1, h2, h3⟩ := slice_bounds lo hi its.toArray.size
  unfold slicePick
  rw [h1, h2, h3]
  simp only [sliceRange_one, pick_run, List.size_toArray] <;> rfl

def rSlL (K : PySem.W.Frag) : V → Option Int → Option Int → Hp → VK → Prop := fun x lo hi H Q => ∃ a xs, x = .ref a ∧ SqL K H a xs ∧ ∀ p, H p = none → Q (.ref p) (upd H p (.lst (cutV xs lo hi)))
theorem sl_list : SlR X (rSlL X.K) := by
  intro pins s σ H x v vl vu lo hi sl Q I rx hs pl pu h
  obtain ⟨a, xs, rfl, hx, q⟩ := h
  cases rx
  obtain ⟨its, r, ht, hz⟩ := I.list hx
  have hlen := r.length
  refine ⟨"list", _, slot_list_getitem.lookup, ht.isList.typeIs, ?_⟩
  refine wpAny_getItem_list_slice ht.isList hs pl pu .none (by simp) ?_ (by rw [List.size_toArray] <;> omega)
  rw [slicePick_cut, ← hlen]
  refine ⟨.ref s.heap.objs.size, _, I.laid (t' := s.toks) (o := .lst (cutV xs lo hi)) (fun b ob q => Heap.get?_push_of_some _ q) (Nat.le_refl _) ?_, rfl, q _ (I.hok.fresh (Nat.le_refl _))⟩
  exact ⟨Nat.le_trans (cutV_length xs lo hi) hz, _, 0, (r.drop (HT.sIx xs.length 0 lo)).take (HT.sIx xs.length xs.length hi - HT.sIx xs.length 0 lo), Heap.get?_push_size _ rfl⟩


def flatV : V → Bool
  | .non => true
  | .bl _ => true
  | .int _ => true
  | .str _ => true
  | _ => false

def eqV : V → V → Bool
  | .non, .non => true
  | .bl a, .bl b => a == b
  | .bl a, .int b => (if a then 1 else 0) == b
  | .int a, .bl b => a == (if b then 1 else 0)
  | .int a, .int b => a == b
  | .str a, .str b => a == b
  | _, _ => false
def eqU (x : V) (u : Value) : Bool := match u with
  | .none => eqV .non x
  | .bool b => eqV (.bl b) x
  | .int i _ => eqV (.int i) x
  | .str z _ => eqV (.str z) x
  | _ => false
def inV (x : V) (xs : List V) : Bool := xs.any fun y => eqV y x

def rIn (K : PySem.W.Frag) (neg : Bool) : R2 := fun x y H Q => ∃ p xs, y = .ref p ∧ (SqL K H p xs ∨ SqT K H p xs) ∧ flatV x = true ∧ xs.all flatV = true ∧ Q (.bl (if neg then !inV x xs else inV x xs)) H
theorem call_len_seq : CallR X (.builtin "len") (fun xs H Q => ∃ p ys, xs = [.ref p] ∧ (SqL X.K H p ys ∨ SqT X.K H p ys) ∧ Q (.int ys.length) H) := by
  intro pins s σ H xs us Q I r h
  obtain ⟨p, ys, rfl, hq, q⟩ := h
  obtain ⟨u, rfl, rx⟩ := vals1 r
  cases rx
  have hn := line63
  rcases hq with hq | hq
  · obtain ⟨its, r', pl, hz⟩ := I.list hq
    have hlen := r'.length
    exact Calls.call_len_list pl.isList (by simp only [List.size_toArray] <;> omega) ⟨.int ys.length, H, I.tok _, ⟨s.toks + 1, by rw [List.size_toArray, hlen]⟩, q⟩
  · obtain ⟨its, r', pl, hz⟩ := I.tuple hq
    have hlen := r'.length
    exact len_tuple pl (by simp only [List.size_toArray] <;> omega) ⟨.int ys.length, H, I.tok _, ⟨s.toks + 1, by rw [List.size_toArray, hlen]⟩, q⟩
theorem call_list_of : CallR X (.type "list") (fun xs H Q => ∃ p ys, xs = [.ref p] ∧ (SqL X.K H p ys ∨ SqT X.K H p ys) ∧ ∀ l, H l = none → Q (.ref l) (upd H l (.lst ys))) := by
  intro pins s σ H xs us Q I r h
  obtain ⟨p, ys, rfl, hq, q⟩ := h
  obtain ⟨u, rfl, rx⟩ := vals1 r
  cases rx
  have fin : ∀ (its : List Value), Vals ys its → ys.length ≤ sizeLine → ∀ (h' : Heap) (c' : Nat), (∀ b o', s.heap.get? b = some o' → h'.get? b = some o') →
      h'.get? s.heap.objs.size = some { cls := .type "list", dict := none, data := .seq its.toArray c', slots := #[] } → EP X pins σ Q (.ref s.heap.objs.size) { s with heap := h' } := fun its r' hz h' c' kp e =>
    ⟨.ref s.heap.objs.size, _, I.laid (t' := s.toks) kp (Nat.le_refl _) (show ObjOk X.prog X.w _ h' _ (.lst ys) from ⟨hz, its, c', r', e⟩), rfl, q _ (I.hok.fresh (Nat.le_refl _))⟩
  rcases hq with hq | hq
  · obtain ⟨its, r', pl, hz⟩ := I.list hq
    have hlen := r'.length
    obtain ⟨o, ho, hc, n, hd⟩ := pl.isList
    exact call_list_seq p (.inl rfl) ho hc hd (fun h' c' kp e => fin its r' hz h' c' kp e) (by simp only [List.size_toArray] <;> omega)
  · obtain ⟨its, r', pl, hz⟩ := I.tuple hq
    have hlen := r'.length
    obtain ⟨o, ho, hc, n, hd⟩ := pl
    exact call_list_seq p (.inr rfl) ho hc hd (fun h' c' kp e => fin its r' hz h' c' kp e) (by simp only [List.size_toArray] <;> omega)
def tyV (K : PySem.W.Frag) (T : String) (x : V) (H : Hp) : Prop := match x with
  | .str _ => T = "str"
  | .int _ => T = "int"
  | .ref p => (T = "list" ∧ ∃ xs, SqL K H p xs) ∨ (T = "tuple" ∧ ∃ o, K.lookup p = some o ∧ o.cls = .type "tuple" ∧ o.dict = none) ∨
      (T = "dict" ∧ ((∃ kvs, H p = some (.dK kvs)) ∨ ∃ kvs, H p = some (.dT kvs))) ∨ (T = "set" ∧ ∃ S n, H p = some (.set S n))
  | _ => False
theorem tyV_is {pins : List (Addr × Obj)} {σ : St} {H : Hp} {s : Shared} {T : String} {x : V} {v : Value} (I : Inv X pins σ H s) (r : RelV x v) (ty : tyV X.K T x H) :
    s.TypeIs v T ∧ ∀ a, v = .ref a → ∃ ob, s.heap.get? a = some ob ∧ ob.dict = none := by
  cases x with
  | str z =>
    obtain ⟨t, rfl⟩ := r
    cases (show T = "str" from ty)
    exact ⟨typeIs_str s z t, fun _ e => nomatch e⟩
  | int i =>
    obtain ⟨t, rfl⟩ := r
    cases (show T = "int" from ty)
    exact ⟨typeIs_int s i t, fun _ e => nomatch e⟩
  | ref p =>
    cases r
    rcases ty with ⟨rfl, xs, hq⟩ | ⟨rfl, o, hk, hc, hd⟩ | ⟨rfl, hk⟩ | ⟨rfl, S, n, hk⟩
    · obtain ⟨its, _, pl, _⟩ := I.list hq
      refine ⟨pl.isList.typeIs, fun a e => ?_⟩
      cases e
      obtain ⟨o, n, e, c, hd, _⟩ := pl
      exact ⟨o, e, hd⟩
    · refine ⟨⟨o, I.kIn p o hk, hc⟩, fun a e => ?_⟩
      cases e
      exact ⟨o, I.kIn _ o hk, hd⟩
    · have z : ∃ o, s.heap.get? p = some o ∧ o.ExactDict := by
        rcases hk with ⟨kvs, hk⟩ | ⟨kvs, hk⟩
        · obtain ⟨_, _, _, _, o, _, _, e, ex, _⟩ := I.hok p _ hk
          exact ⟨o, e, ex⟩
        · obtain ⟨_, _, _, _, o, _, _, e, ex, _⟩ := I.hok p _ hk
          exact ⟨o, e, ex⟩
      obtain ⟨o, e, ex⟩ := z
      refine ⟨⟨o, e, ex.1⟩, fun a e2 => ?_⟩
      cases e2
      exact ⟨o, e, ex.2.1⟩
    · obtain ⟨o, _, _, _, e, ex, _⟩ := I.hok p _ hk
      refine ⟨⟨o, e, ex.1⟩, fun a e2 => ?_⟩
      cases e2
      exact ⟨o, e, ex.2.1⟩
  | _ => exact False.elim ty
def tBM0 (K : PySem.W.Frag) (T : String) (r : V → List V → Hp → VK → Prop) (to : TE) : TE := fun σ H Q => to σ H fun x H1 => tyV K T x H1 ∧ r x [] H1 Q
def tBM (K : PySem.W.Frag) (T : String) (r : V → List V → Hp → VK → Prop) (to : TE) (t : TA) : TE := fun σ H Q => to σ H fun x H1 => tyV K T x H1 ∧ t σ H1 fun xs H2 => r x xs H2 Q
variable {o e : Expr} {es : List Expr} {to : TE} {t : TA} {name : Str} {apos cpos : Pos} {T id : String} {r : V → List V → Hp → VK → Prop}
theorem pe_bm (pa : PlainAttrs T) (slot : Slot T name id) (hty : typeOf (.builtin id) = pure (.type "method_descriptor")) (hm : MtR X id r) (ho : PE X o to) (ha : PA X (e :: es) t)
    (hbase : attributeBase o name X.env (eval o X.env) = eval o X.env := by rfl)
    (hfew : ((backTo cpos (starEach (e :: es) X.env)).all (fun x => !x.1) && (backToKw cpos (keywordEach [] X.env)).all (fun x => x.1.isSome)
      && decide ((e :: es).length + ([] : List Keyword).length + (if ([] : List Keyword).isEmpty then 0 else 1) < 30)) = true := by rfl)
    (hline : (apos.endLine == cpos.line) = true := by rfl) (hs : starEach (e :: es) X.env = (false, eval e X.env) :: starEach es X.env := by rfl) (hplain : (backTo cpos (starEach es X.env)).any (·.1) = false := by rfl) :
    PE X (.Call (.Attribute o name apos) (e :: es) [] cpos) (tBM X.K T r to t) := by
  intro pins s σ H Q I h
  refine wpAny_Call_method_late hbase hfew hline rfl (thn (ho pins s σ H _ I h) fun v s1 ⟨x, H1, I1, r1, ty, q1⟩ => ?_)
  obtain ⟨h1, h2⟩ := tyV_is I1 r1 ty
  refine ⟨T, id, pa, slot, hty, h1, h2, ?_⟩
  have hA := ha cpos pins s1 σ H1 _ I1 q1
  rw [hs] at hA ⊢
  refine Calls.callWith_builtin (by show (false || (backTo cpos (starEach es X.env)).any (·.1)) = false; rw [hplain] <;> rfl) (Calls.evalArgs_plain ?_)
  exact thn hA fun us s2 ⟨vs, H2, I2, r2, q2⟩ => hm pins s2 σ H2 x vs v us Q I2 r1 r2 q2

end
end L2

namespace L2
open PySem PySem.Spec PyProof.Rows

def MtM (X : Cx) (id : String) (r : V → List V → Hp → VK → Prop) : Prop :=
  ∀ (pins : List (Addr × Obj)) (s : Shared) (σ : St) (H : Hp) (x : V) (xs : List V) (v : Value) (us : List Value) (Q : VK), Inv X pins σ H s → RelV x v → Vals xs us → r x xs H Q →
    wpAny (model X.prog X.w) X.A (call (.builtin id) (v :: us)) (EP X pins σ Q) X.xe s


theorem Vals.one : ∀ {x : V} {us : List Value}, Vals [x] us → ∃ u, us = [u] ∧ RelV x u
  | _, _, .cons r .nil => ⟨_, rfl, r⟩
theorem Vals.rep {xs : List V} {us : List Value} (h : Vals xs us) : ∀ k : Nat, Vals (List.replicate k xs).flatten (List.replicate k us).flatten
  | 0 => .nil
  | k + 1 => by
    rw [List.replicate_succ, List.replicate_succ, List.flatten_cons, List.flatten_cons]
    exact Vals.append h (Vals.rep h k)
theorem foldl_rep (its : List Value) : ∀ (k : Nat) (acc : List Value),
    List.foldl (fun x1 x2 => x1 ++ x2) acc.toArray (List.replicate k its.toArray) = (acc ++ (List.replicate k its).flatten).toArray
  | 0, acc => by simp
  | k + 1, acc => by
    have e : acc.toArray ++ its.toArray = (acc ++ its).toArray := by simp
    have e2 : (acc ++ its) ++ (List.replicate k its).flatten = acc ++ (List.replicate (k + 1) its).flatten := by
      rw [List.replicate_succ, List.flatten_cons, List.append_assoc]
    rw [← e2, ← foldl_rep its k (acc ++ its), ← e, List.replicate_succ, List.foldl_cons]

section
variable {X : Cx} {pins : List (Addr × Obj)} {σ : St} {H : Hp} {s : Shared} {l b : Addr} {xs ys zs : List V}


theorem Inv.lset {its its' : List Value} {n : Nat} {f : Array Value → Array Value} {t' : Nat} (I : Inv X pins σ H s) (hH : H l = some (.lst xs))
    (e : s.heap.get? l = some { cls := .type "list", data := .seq its.toArray n }) (hf : f its.toArray = its'.toArray) (hv : Vals ys its') (hz : ys.length ≤ sizeLine) :
    Inv X pins σ (upd H l (.lst ys)) { s with heap := s.heap.update l (Obj.mapSeq f), toks := t' } := by
  have q := PySem.IsL.update e f
  rw [hf] at q
  refine I.write (x := l) (e := l) (by rw [hH]; exact trivial) (.inl rfl) (fun b' u hb hu => (Heap.get?_update_other s.heap (Obj.mapSeq f) (Ne.symm hb)).trans hu) ⟨_, q⟩ ?_
  exact ⟨hz, its', _, hv, q⟩
theorem Inv.lnew {its : List Value} {t' : Nat} (I : Inv X pins σ H s) (hv : Vals ys its) (hz : ys.length ≤ sizeLine) :
    Inv X pins σ (upd H s.heap.objs.size (.lst ys)) { s with heap := s.heap.push { cls := .type "list", data := .seq its.toArray }, toks := t' } :=
  I.laid (fun _ _ q => Heap.get?_push_of_some _ q) (Nat.le_refl _) ⟨hz, its, 0, hv, Heap.get?_push_size _ rfl⟩
theorem Inv.fresh (I : Inv X pins σ H s) : H s.heap.objs.size = none := I.hok.fresh (Nat.le_refl _)
theorem Inv.lstM (I : Inv X pins σ H s) (hH : H l = some (.lst xs)) : xs.length ≤ sizeLine ∧ ∃ (its : List Value) (n : Nat), Vals xs its ∧ xs.length = its.length ∧ s.heap.get? l = some { cls := .type "list", data := .seq its.toArray n } := by
  obtain ⟨z, its, n, r, e⟩ := I.hok l _ hH
  exact ⟨z, its, n, r, r.length, e⟩

theorem notLongL {n : Nat} (h : n ≤ sizeLine) : Builtin.List.listTooLong n = false := by
  unfold Builtin.List.listTooLong
  exact decide_eq_false (by omega)
end

section
variable {X : Cx}


def rAppend : V → List V → Hp → VK → Prop := fun x vs H Q => ∃ l xs y, x = .ref l ∧ vs = [y] ∧ H l = some (.lst xs) ∧ xs.length < sizeLine ∧ Q .non (upd H l (.lst (xs ++ [y])))
theorem mt_append : MtM X "list.append" rAppend := by
  intro pins s σ H x vs v us Q I rx rv h
  obtain ⟨l, xs, y, rfl, rfl, hH, hz, q⟩ := h
  cases rx
  obtain ⟨u, rfl, ru⟩ := rv.one
  obtain ⟨z, its, n, r, hl, e⟩ := I.lstM hH
  refine call_meets F.slot_list_append ⟨_, e, rfl⟩ F.entry_list_append (F.args_list_append_2 _ _) (PySem.list_append l its.toArray n u (by rw [List.size_toArray]; omega)) ⟨e, ?_⟩
  refine ⟨.non, _, I.lset (its' := its ++ [u]) hH e (by simp) (r.append (.cons ru .nil)) ?_, rfl, q⟩
  rw [List.length_append, List.length_singleton]
  omega

def rExtend : V → List V → Hp → VK → Prop := fun x vs H Q => ∃ l b xs zs, x = .ref l ∧ vs = [.ref b] ∧ H l = some (.lst xs) ∧ H b = some (.lst zs) ∧ xs.length + zs.length ≤ sizeLine ∧ Q .non (upd H l (.lst (xs ++ zs)))
theorem mt_extend : MtM X "list.extend" rExtend := by
  intro pins s σ H x vs v us Q I rx rv h
  obtain ⟨l, b, xs, zs, rfl, rfl, hH, hB, hz, q⟩ := h
  cases rx
  obtain ⟨u, rfl, ru⟩ := rv.one
  cases ru
  obtain ⟨z, its, n, r, hl, e⟩ := I.lstM hH
  obtain ⟨z2, its2, n2, r2, hl2, e2⟩ := I.lstM hB
  have hsz : its.toArray.size + its2.toArray.size ≤ sizeLine := by rw [List.size_toArray, List.size_toArray]; omega
  have hlong : ¬ (!its.toArray.isEmpty && Builtin.List.listTooLong (its.toArray.size + its2.toArray.size)) = true := by
    rw [notLongL hsz, Bool.and_false]
    exact Bool.false_ne_true
  refine call_meets F.slot_list_extend ⟨_, e, rfl⟩ F.entry_list_extend (F.args_list_extend_2 _ _)
    (AutoSeq1.list_extend_list_list_0 l its.toArray n b its2.toArray n2 hlong (by rw [List.size_toArray]; omega) (by omega)) ⟨e, e2, ?_⟩
  refine ⟨.non, _, I.lset (its' := its ++ its2) hH e (by simp) (r.append r2) ?_, rfl, q⟩
  rw [List.length_append]
  omega

def rPop : V → List V → Hp → VK → Prop := fun x vs H Q => ∃ l xs y, x = .ref l ∧ vs = [] ∧ H l = some (.lst xs) ∧ xs[xs.length - 1]? = some y ∧ Q y (upd H l (.lst xs.dropLast))
def rPopAt : V → List V → Hp → VK → Prop := fun x vs H Q => ∃ l xs i k y, x = .ref l ∧ vs = [.int i] ∧ H l = some (.lst xs) ∧ -(2 ^ 63) ≤ i ∧ i < 2 ^ 63 ∧ seqIndex? i xs.length = some k ∧ xs[k]? = some y ∧ Q y (upd H l (.lst (xs.eraseIdx k)))
def rReverse : V → List V → Hp → VK → Prop := fun x vs H Q => ∃ l xs, x = .ref l ∧ vs = [] ∧ H l = some (.lst xs) ∧ Q .non (upd H l (.lst xs.reverse))
def rClear : V → List V → Hp → VK → Prop := fun x vs H Q => ∃ l xs, x = .ref l ∧ vs = [] ∧ H l = some (.lst xs) ∧ Q .non (upd H l (.lst []))
def rCat : R2 := fun x y H Q => ∃ l b xs zs, x = .ref l ∧ y = .ref b ∧ H l = some (.lst xs) ∧ H b = some (.lst zs) ∧ xs.length + zs.length ≤ sizeLine ∧ ∀ p, H p = none → Q (.ref p) (upd H p (.lst (xs ++ zs)))
theorem op_cat : OpR X (binaryOp .Add) rCat := by
  intro pins s σ H x y v u Q I rx ry h
  obtain ⟨l, b, xs, zs, rfl, rfl, hH, hB, hz, q⟩ := h
  cases rx
  cases ry
  obtain ⟨z, its, n, r, hl, e⟩ := I.lstM hH
  obtain ⟨z2, its2, n2, r2, hl2, e2⟩ := I.lstM hB
  refine PySem.P.add_list e e2 ?_ (by rw [List.size_toArray, List.size_toArray]; omega)
  have ea : its.toArray ++ its2.toArray = (its ++ its2).toArray := by simp
  rw [ea]
  exact ⟨.ref _, _, I.lnew (t' := s.toks) (r.append r2) (by rw [List.length_append]; omega), rfl, q _ I.fresh⟩

def rRep : R2 := fun x y H Q => ∃ l k xs, x = .ref l ∧ y = .int k ∧ H l = some (.lst xs) ∧ -(2 ^ 63) ≤ k ∧ k < 2 ^ 63 ∧ xs.length * k.toNat ≤ sizeLine ∧
  ∀ p, H p = none → Q (.ref p) (upd H p (.lst (List.replicate k.toNat xs).flatten))
theorem len_rep {α : Type} (xs : List α) (k : Nat) : (List.replicate k xs).flatten.length = k * xs.length := by
  induction k with
  | zero => simp
  | succ k ih => rw [List.replicate_succ, List.flatten_cons, List.length_append, ih, Nat.succ_mul, Nat.add_comm]
theorem op_rep : OpR X (binaryOp .Mult) rRep := by
  intro pins s σ H x y v u Q I rx ry h
  obtain ⟨l, k, xs, rfl, rfl, hH, h1, h2, hz, q⟩ := h
  cases rx
  obtain ⟨t, rfl⟩ := ry
  obtain ⟨z, its, n, r, hl, e⟩ := I.lstM hH
  have hlen : its.toArray.size * k.toNat ≤ sizeLine := by rw [List.size_toArray, ← hl]; exact hz
  have hcap : ¬ its.toArray.size * k.toNat > (2 ^ 63 - 1) / 8 := by
    have : (sizeLine : Nat) ≤ (2 ^ 63 - 1) / 8 := by decide
    omega
  have hfit : ¬ (!Builtin.List.listFitsIndex k) = true := by
    rw [fitsIndex_both h1 h2]
    exact Bool.false_ne_true
  have hlong : ¬ Builtin.List.listTooLong (its.toArray.size * k.toNat) = true := by
    rw [notLongL hlen]
    exact Bool.false_ne_true
  have hnew : List.foldl (fun x1 x2 => x1 ++ x2) #[] (List.replicate (if its.toArray.isEmpty = true then 0 else k.toNat) its.toArray) = (List.replicate k.toNat its).flatten.toArray := by
    have f0 : ∀ m : Nat, List.foldl (fun x1 x2 => x1 ++ x2) #[] (List.replicate m its.toArray) = (List.replicate m its).flatten.toArray := fun m => by
      have := foldl_rep its m []
      rw [List.nil_append] at this
      exact this
    rw [f0]
    cases its with
    | nil => simp
    | cons a r' => rw [if_neg (by simp)]
  refine wpAny_binaryOp_repeat_ref (T := "list") (U := "int") (by decide) ⟨_, e, rfl⟩ (fun s' => typeIs_int s' k t) noFill_list_mul F.fills_int_mul F.slot_int_rmul repeat_list F.slot_int_index.lookup
    (call_meets F.slot_int_rmul (typeIs_int s k t) F.entry_int_rmul (F.args_int_rmul_2 _ _) (int___rmul___int_list k t l its.toArray n)
      ⟨e, rfl, ⟨_, e, rfl⟩, call_meets F.slot_list_mul ⟨_, e, rfl⟩ F.entry_list_mul (F.args_list_mul_2 _ _) (AutoListH.list___mul___list_int_3 l its.toArray n k t hfit hcap hlong) ⟨e, ?_⟩⟩)
  rw [hnew]
  exact ⟨.ref _, _, I.lnew (t' := s.toks) (r.rep k.toNat) (by rw [len_rep, Nat.mul_comm]; exact hz), rfl, q _ I.fresh⟩


end


section
variable {prog : Program} {w : World} {A : Around} {E : Value → Shared → Prop} {s : Shared}
set_option maxRecDepth 100000 in

end

section
variable {X : Cx}

end
end L2

namespace L2
open PySem PySem.Spec PyProof.Rows

theorem Vals.ints : ∀ {ns : List Int} {us : List Value}, Vals (ns.map V.int) us → IntsAre us ns
  | [], us, h => by
    rw [List.map_nil] at h
    cases h
    exact IntsAre.nil
  | n :: ns, us, h => by
    rw [List.map_cons] at h
    cases h with
    | cons r t =>
      obtain ⟨k, rfl⟩ := r
      exact IntsAre.cons n k (Vals.ints t)
theorem Vals.ref1 {a : Addr} {us : List Value} (r : Vals [V.ref a] us) : us = [Value.ref a] := by
  cases r with
  | cons r t =>
    cases t
    cases r
    rfl
section
variable {prog : Program} {w : World} {A : Around} {E : Value → Shared → Prop} {s : Shared} {l : Addr} {its : List Value} {ns : List Int} {Q : Value → Shared → Prop}
theorem sum_raw (hh : A.handled = none) (hl : s.heap.IsList l its.toArray) (hi : IntsAre its ns)
    (h : ∀ h' tk t', (∀ b o, s.heap.get? b = some o → h'.get? b = some o) → Q (.int ns.sum t') { s with heap := h', toks := tk }) : wpAny (model prog w) A (call (.builtin "sum") [.ref l]) Q E s := by
  obtain ⟨xs, e⟩ := hi.allInts.items
  have hn : numsOf (intItems xs).toList = ns := by rw [← e]; exact hi.numsOf
  rw [nums_intItems] at hn
  rw [e] at hl
  refine PySem.sum_intListG hh hl fun h' tk t' hk => ?_
  have := h h' tk t' hk
  rw [preSum_eq, List.take_of_length_le (by simp), hn]; exact this
end


section
variable {X : Cx}

def rSum (K : PySem.W.Frag) : List V → Hp → VK → Prop := fun vs H Q => ∃ (a : Addr) (ns : List Int), vs = [V.ref a] ∧ SqL K H a (ns.map V.int) ∧ Q (.int ns.sum) H

def rMax (K : PySem.W.Frag) : List V → Hp → VK → Prop := fun vs H Q => ∃ (a : Addr) (ns : List Int), vs = [V.ref a] ∧ SqL K H a (ns.map V.int) ∧ 0 < ns.length ∧ ∀ m, m ∈ ns → (∀ y, y ∈ ns → y ≤ m) → Q (.int m) H
def rMin (K : PySem.W.Frag) : List V → Hp → VK → Prop := fun vs H Q => ∃ (a : Addr) (ns : List Int), vs = [V.ref a] ∧ SqL K H a (ns.map V.int) ∧ 0 < ns.length ∧ ∀ m, m ∈ ns → (∀ y, y ∈ ns → m ≤ y) → Q (.int m) H
theorem cr_sum (hc : X.calm = true) : CallR X (.builtin "sum") (rSum X.K) := by
  intro pins s σ H vs us Q I r h
  obtain ⟨a, ns, rfl, hs, q⟩ := h
  obtain ⟨its, rv, hl, _⟩ := I.list hs
  rw [Vals.ref1 r]
  exact sum_raw (I.ok.hd hc) hl.isList rv.ints fun h' tk t' hk => ⟨.int _, H, I.kept hk, ⟨_, rfl⟩, q⟩
def rSorted (K : PySem.W.Frag) : List V → Hp → VK → Prop := fun vs H Q => ∃ (a : Addr) (ns : List Int), vs = [V.ref a] ∧ SqL K H a (ns.map V.int) ∧ ns.length < 64 ∧
  ∀ (ns' : List Int) (p : Addr), ns'.Perm ns → ns'.Pairwise (· ≤ ·) → H p = none → Q (.ref p) (upd H p (.lst (ns'.map V.int)))
def rSortedS (K : PySem.W.Frag) : List V → Hp → VK → Prop := fun vs H Q => ∃ (a : Addr) (xs : List Str), vs = [V.ref a] ∧ SqL K H a (xs.map V.str) ∧ xs.length < 64 ∧
  ∀ (ys : List Str) (p : Addr), ys.Perm xs → sortedS ys = true → H p = none → Q (.ref p) (upd H p (.lst (ys.map V.str)))
def rSort : V → List V → Hp → VK → Prop := fun x xs H Q => ∃ (a : Addr) (ns : List Int), x = V.ref a ∧ xs = [] ∧ H a = some (.lst (ns.map V.int)) ∧ ns.length < 64 ∧
  ∀ ns' : List Int, ns'.Perm ns → ns'.Pairwise (· ≤ ·) → Q .non (upd H a (.lst (ns'.map V.int)))
end


section
variable {X : Cx}
def rIndex (K : PySem.W.Frag) : V → List V → Hp → VK → Prop := fun x xs H Q => ∃ (a : Addr) (ys : List V) (y : V) (j : Nat) (z : V), x = V.ref a ∧ xs = [y] ∧ SqL K H a ys ∧ flatV y = true ∧ ys.all flatV = true ∧ ys[j]? = some z ∧ eqV z y = true ∧
  (∀ (m : Nat) (z' : V), m < j → ys[m]? = some z' → eqV z' y = false) ∧ Q (.int (j : Nat)) H
end


section
variable {X : Cx}
end


section
variable {X : Cx}
def rAny (K : PySem.W.Frag) : List V → Hp → VK → Prop := fun vs H Q => ∃ (a : Addr) (bs : List Bool), vs = [V.ref a] ∧ SqL K H a (bs.map V.bl) ∧ Q (.bl (bs.any id)) H
def rAll (K : PySem.W.Frag) : List V → Hp → VK → Prop := fun vs H Q => ∃ (a : Addr) (bs : List Bool), vs = [V.ref a] ∧ SqL K H a (bs.map V.bl) ∧ Q (.bl (bs.all id)) H
end


mutual
inductive Dp (K : PySem.W.Frag) (H : Hp) : V → PyData → Prop
  | non : Dp K H .non .none
  | bl (b : Bool) : Dp K H (.bl b) (.bool b)
  | int (i : Int) : Dp K H (.int i) (.int i)
  | str (x : Str) : Dp K H (.str x) (.str x)
  | lst {a : Addr} {xs : List V} {ds : List PyData} : SqL K H a xs → DpAll K H xs ds → Dp K H (.ref a) (.list ds)
  | tup {a : Addr} {xs : List V} {ds : List PyData} : SqT K H a xs → DpAll K H xs ds → Dp K H (.ref a) (.tuple ds)
inductive DpAll (K : PySem.W.Frag) (H : Hp) : List V → List PyData → Prop
  | nil : DpAll K H [] []
  | cons {v : V} {vs : List V} {d : PyData} {ds : List PyData} : Dp K H v d → DpAll K H vs ds → DpAll K H (v :: vs) (d :: ds)
end
section
variable {X : Cx} {pins : List (Addr × Obj)} {σ : St} {H : Hp} {s : Shared}
mutual
theorem Dp.reads (I : Inv X pins σ H s) : ∀ (d : PyData) (v : V) (u : Value), Dp X.K H v d → RelV v u → ∃ as, Reads s.heap u d as
  | .none, _, _, h, r => by
    cases h
    cases r
    exact ⟨_, Reads.none⟩
  | .bool b, _, _, h, r => by
    cases h
    cases r
    exact ⟨_, Reads.bool b⟩
  | .int i, _, _, h, r => by
    cases h
    obtain ⟨t, rfl⟩ := r
    exact ⟨_, Reads.int i t⟩
  | .str x, _, _, h, r => by
    cases h
    obtain ⟨t, rfl⟩ := r
    exact ⟨_, Reads.str x t⟩
  | .list ds, _, _, h, r => by
    cases h with
    | lst hs ha =>
      cases r
      obtain ⟨its, rv, ⟨o, n, ho, hc, _, hd⟩, _⟩ := I.list hs
      obtain ⟨as, hr⟩ := Dp.readsAll I ds _ its ha rv
      exact ⟨_, Reads.list ho hc hd hr⟩
  | .tuple ds, _, _, h, r => by
    cases h with
    | tup hs ha =>
      cases r
      obtain ⟨its, rv, ⟨o, ho, hc, n, hd⟩, _⟩ := I.tuple hs
      obtain ⟨as, hr⟩ := Dp.readsAll I ds _ its ha rv
      exact ⟨_, Reads.tuple ho hc hd hr⟩
  | .dict _, _, _, h, _ => by cases h
theorem Dp.readsAll (I : Inv X pins σ H s) : ∀ (ds : List PyData) (vs : List V) (us : List Value), DpAll X.K H vs ds → Vals vs us → ∃ as, ReadsAll s.heap us ds as
  | [], _, _, h, r => by
    cases h
    cases r
    exact ⟨_, ReadsAll.nil⟩
  | d :: ds, _, _, h, r => by
    cases h with
    | cons h1 h2 =>
      cases r with
      | cons r1 r2 =>
        obtain ⟨as, q1⟩ := Dp.reads I d _ _ h1 r1
        obtain ⟨bs, q2⟩ := Dp.readsAll I ds _ _ h2 r2
        exact ⟨_, ReadsAll.cons q1 q2⟩
end
end
section
variable {X : Cx}
def rEqD (K : PySem.W.Frag) : R2 := fun x y H Q => ∃ d e, Dp K H x d ∧ Dp K H y e ∧ SeqAt.shaped d = true ∧ SeqAt.shaped e = true ∧ Q (.bl (PyData.eqv d e)) H
def rNeD (K : PySem.W.Frag) : R2 := fun x y H Q => ∃ d e, Dp K H x d ∧ Dp K H y e ∧ SeqAt.shaped d = true ∧ SeqAt.shaped e = true ∧ Q (.bl (!PyData.eqv d e)) H
theorem op_eqD (hu : X.A.units + 64 < cLine) : OpR X (compareOp .Eq) (rEqD X.K) := by
  intro pins s σ H x y v u Q I rx ry h
  obtain ⟨d, e, hd, he, sd, se, q⟩ := h
  obtain ⟨as, r1⟩ := Dp.reads I d x v hd rx
  obtain ⟨bs, r2⟩ := Dp.reads I e y u he ry
  exact SeqAt.compareEq_shaped r1 r2 sd se hu ⟨.bl _, H, I, rfl, q⟩
end
end L2

namespace L2
open PySem PySem.Spec PyProof.Rows
abbrev CellAt (h : Heap) (c : Addr) (v : Option Value) : Prop := h.IsCell c v
def relS (scope sc : Scope) : Scope :=
  { scope with names := scope.names.map fun (n, k) => if (k == .free && sc.kind == .function && sc.names.lookup n == some .cell) then (n, .cell) else (n, k) }

def cloFrom (cells : List (Str × Addr)) : List (Str × NameKind) → List (Str × Addr) → List (Str × Addr)
  | [], acc => acc
  | (n, k) :: r, acc => if k == .free then cloFrom cells r ((n, (cells.lookup n).getD 0) :: acc) else cloFrom cells r acc

theorem closure_loop (env : Env) (f : Str × NameKind → List (Str × Addr) → Sem (ForInStep (List (Str × Addr))))
    (hf : ∀ n k c, f (n, k) c = if k == .free then (do let a ← cellOf env n; pure (.yield ((n, a) :: c))) else pure (.yield c)) :
    ∀ (names : List (Str × NameKind)) (acc : List (Str × Addr)), (∀ y ∈ names, y.2 = .free → ∃ c, env.cells.lookup y.1 = some c) → forIn names acc f = pure (cloFrom env.cells names acc)
  | [], acc, _ => by rw [List.forIn_nil]; rfl
  | (n, k) :: r, acc, h => by
    rw [List.forIn_cons, hf]
    have ih := fun acc => closure_loop env f hf r acc fun y hy => h y (List.mem_cons_of_mem _ hy)
    unfold cloFrom
    by_cases hk : (k == NameKind.free) = true
    · rw [if_pos hk, if_pos hk]
      obtain ⟨c, hc⟩ := h (n, k) List.mem_cons_self (by simpa using hk)
      have e : cellOf env n = pure c := by unfold cellOf; rw [hc]
      rw [e]
      have e2 : (env.cells.lookup n).getD 0 = c := by rw [hc]; rfl
      rw [e2]
      exact ih _
    · rw [if_neg hk, if_neg hk]
      exact ih _
theorem closure_ok {scope : Scope} {env : Env} (h : ∀ y ∈ scope.names, y.2 = .free → ∃ c, env.cells.lookup y.1 = some c) : closureFor scope env = pure (cloFrom env.cells scope.names []) := by
  simp only [closureFor]
  rw [closure_loop env _ (fun n k c => rfl) scope.names [] h]
  rfl

theorem mem_lookup {α : Type} : ∀ {l : List (Str × α)} {n : Str} {c : α}, (n, c) ∈ l → ∃ c', l.lookup n = some c'
  | (k, v) :: r, n, c, h => by
    rw [List.lookup_cons]
    cases hb : n == k with
    | true => exact ⟨_, rfl⟩
    | false =>
      rcases List.mem_cons.mp h with e | h
      · cases e; simp at hb
      · exact mem_lookup h

theorem cloFrom_mem {cells : List (Str × Addr)} : ∀ {names : List (Str × NameKind)} {acc : List (Str × Addr)} {n : Str} {c : Addr}, (n, c) ∈ cloFrom cells names acc → (n, c) ∈ acc ∨ ((n, .free) ∈ names ∧ c = (cells.lookup n).getD 0)
  | [], _, _, _, h => .inl h
  | (m, k) :: r, acc, n, c, h => by
    unfold cloFrom at h
    split at h
    · rename_i hk
      have hk : k = .free := by simpa using hk
      rcases cloFrom_mem h with h | ⟨h1, h2⟩
      · rcases List.mem_cons.mp h with e | h
        · cases e; exact .inr ⟨hk ▸ List.mem_cons_self, rfl⟩
        · exact .inl h
      · exact .inr ⟨List.mem_cons_of_mem _ h1, h2⟩
    · rcases cloFrom_mem h with h | ⟨h1, h2⟩
      · exact .inl h
      · exact .inr ⟨List.mem_cons_of_mem _ h1, h2⟩
theorem cloFrom_acc {cells : List (Str × Addr)} : ∀ {names : List (Str × NameKind)} {acc : List (Str × Addr)} {p : Str × Addr}, p ∈ acc → p ∈ cloFrom cells names acc
  | [], _, _, h => h
  | (m, k) :: r, acc, p, h => by
    unfold cloFrom
    split
    · exact cloFrom_acc (List.mem_cons_of_mem _ h)
    · exact cloFrom_acc h
theorem cloFrom_has {cells : List (Str × Addr)} : ∀ {names : List (Str × NameKind)} {acc : List (Str × Addr)} {n : Str}, (n, .free) ∈ names → (n, (cells.lookup n).getD 0) ∈ cloFrom cells names acc
  | (m, k) :: r, acc, n, h => by
    unfold cloFrom
    rcases List.mem_cons.mp h with e | h
    · cases e
      exact cloFrom_acc List.mem_cons_self
    · split
      · exact cloFrom_has h
      · exact cloFrom_has h

theorem cells_mem : ∀ {names : List (Str × NameKind)} {h : Heap} {acc : List (Str × Addr)} {x : Str} {c : Addr}, (x, c) ∈ cellsFrom h.objs.size names acc →
    (x, c) ∈ acc ∨ ((x, .cell) ∈ names ∧ h.objs.size ≤ c ∧ CellAt (pushCells h names) c none)
  | [], _, _, _, _, h => .inl h
  | (n, k) :: r, h, acc, x, c, hm => by
    unfold cellsFrom at hm
    unfold pushCells
    split at hm
    · rename_i hk
      rw [if_pos hk]
      have hk : k = .cell := by simpa using hk
      rw [← Heap.size_push h { cls := .type "cell", data := .cell none }] at hm
      rcases cells_mem hm with hm | ⟨h1, h2, h3⟩
      · rcases List.mem_cons.mp hm with e | hm
        · cases e
          exact .inr ⟨hk ▸ List.mem_cons_self, Nat.le_refl _, _, pushCells_keeps r _ _ _ (Heap.get?_push_size _ rfl), rfl⟩
        · exact .inl hm
      · rw [Heap.size_push] at h2
        exact .inr ⟨List.mem_cons_of_mem _ h1, Nat.le_of_succ_le h2, h3⟩
    · rename_i hk
      rw [if_neg hk]
      rcases cells_mem hm with hm | ⟨h1, h2, h3⟩
      · exact .inl hm
      · exact .inr ⟨List.mem_cons_of_mem _ h1, h2, h3⟩
theorem cells_acc : ∀ {names : List (Str × NameKind)} {n : Nat} {acc : List (Str × Addr)} {p : Str × Addr}, p ∈ acc → p ∈ cellsFrom n names acc
  | [], _, _, _, h => h
  | (m, k) :: r, n, acc, p, h => by
    unfold cellsFrom
    split
    · exact cells_acc (List.mem_cons_of_mem _ h)
    · exact cells_acc h
theorem cells_has : ∀ {names : List (Str × NameKind)} {n : Nat} {acc : List (Str × Addr)} {x : Str}, (x, .cell) ∈ names → ∃ c, (x, c) ∈ cellsFrom n names acc
  | (m, k) :: r, n, acc, x, h => by
    unfold cellsFrom
    rcases List.mem_cons.mp h with e | h
    · cases e
      exact ⟨n, cells_acc List.mem_cons_self⟩
    · split
      · exact cells_has h
      · exact cells_has h
theorem cells_inj : ∀ {names : List (Str × NameKind)} {h : Heap} {acc : List (Str × Addr)} {x y : Str} {c : Addr}, (∀ p ∈ acc, p.2 < h.objs.size) → (∀ x y c, (x, c) ∈ acc → (y, c) ∈ acc → x = y) →
    (x, c) ∈ cellsFrom h.objs.size names acc → (y, c) ∈ cellsFrom h.objs.size names acc → x = y
  | [], _, _, _, _, _, _, hi, h1, h2 => hi _ _ _ h1 h2
  | (n, k) :: r, h, acc, x, y, c, hl, hi, h1, h2 => by
    unfold cellsFrom at h1 h2
    split at h1
    · rename_i hk
      rw [if_pos hk] at h2
      rw [← Heap.size_push h { cls := .type "cell", data := .cell none }] at h1 h2
      refine cells_inj (h := h.push _) (fun p hp => ?_) (fun x y c a b => ?_) h1 h2
      · rw [Heap.size_push]
        rcases List.mem_cons.mp hp with rfl | hp
        · exact Nat.lt_succ_self _
        · exact Nat.lt_succ_of_lt (hl p hp)
      · rcases List.mem_cons.mp a with e | a <;> rcases List.mem_cons.mp b with e' | b
        · cases e; cases e'; rfl
        · cases e; exact absurd (hl _ b) (Nat.lt_irrefl _)
        · cases e'; exact absurd (hl _ a) (Nat.lt_irrefl _)
        · exact hi _ _ _ a b
    · rename_i hk
      rw [if_neg hk] at h2
      exact cells_inj hl hi h1 h2

theorem newEnv_comp {M : Model} {A : Around} {E : Value → Shared → Prop} {s : Shared} {scope : Scope} {globals : Addr} {closure : List (Str × Addr)} {qual : Str} {func : Option Addr} {code : Value} {around : Env} {builtins : Addr} {Q : Env → Shared → Prop}
    (h : Q (newEnv scope s.heap.objs.size globals (cellsFrom (s.heap.objs.size + 1) scope.names closure) qual func code (some around) builtins)
      { s with heap := pushCells (s.heap.push { cls := .type "dict", data := .dict #[] }) scope.names }) :
    wpAny M A (newFunctionEnv scope globals closure [] qual func code (some around) builtins) Q E s := by
  simp only [newFunctionEnv, Option.isSome_some, if_true]
  refine wpAny_bind (wpAny_alloc ?_)
  refine wpAny_bind (wpAny_layCells _ (fun n k c => rfl) scope.names closure _ _ ?_)
  rw [show ({ s with heap := s.heap.push { cls := .type "dict", data := .dict #[] } } : Shared).heap.objs.size = s.heap.objs.size + 1 from Heap.size_push ..]
  rw [List.forIn_nil]
  exact wpAny_bind (wpAny_pure (wpAny_pure h))


theorem lookup_relS {sc : Scope} : ∀ {names : List (Str × NameKind)} {x : Str} {k : NameKind},
    (names.map fun (n, k) => if (k == NameKind.free && sc.kind == .function && sc.names.lookup n == some .cell) then (n, NameKind.cell) else (n, k)).lookup x = some k →
    ∃ k', names.lookup x = some k' ∧ (k = k' ∨ (k' = .free ∧ k = .cell))
  | [], _, _, h => by simp at h
  | (n, k₀) :: r, x, k, h => by
    have ih := @lookup_relS sc r x k
    have h' : List.lookup x ((if (k₀ == NameKind.free && sc.kind == .function && sc.names.lookup n == some .cell) = true then (n, NameKind.cell) else (n, k₀)) :: (r.map _)) = some k := h
    cases hx : x == n with
    | true =>
      simp only [List.lookup_cons, hx]
      by_cases hc : (k₀ == NameKind.free && sc.kind == .function && sc.names.lookup n == some .cell) = true
      · rw [if_pos hc] at h'
        simp only [List.lookup_cons, hx] at h'
        cases h'
        simp only [Bool.and_eq_true, beq_iff_eq] at hc
        exact ⟨k₀, rfl, .inr ⟨hc.1.1, rfl⟩⟩
      · rw [if_neg hc] at h'
        simp only [List.lookup_cons, hx] at h'
        cases h'
        exact ⟨_, rfl, .inl rfl⟩
    | false =>
      simp only [List.lookup_cons, hx]
      by_cases hc : (k₀ == NameKind.free && sc.kind == .function && sc.names.lookup n == some .cell) = true
      · rw [if_pos hc] at h'
        simp only [List.lookup_cons, hx] at h'
        exact ih h'
      · rw [if_neg hc] at h'
        simp only [List.lookup_cons, hx] at h'
        exact ih h'
structure BlkOk (N : List Str) (sc scope : Scope) (own : List (Str × Nat)) : Prop where
  kind : scope.kind = .function
  uniq : ∀ y ∈ scope.names, scope.names.lookup y.1 = some y.2
  ix : ∀ p ∈ own, N[p.2]? = some p.1
  free : ∀ y ∈ scope.names, y.2 = .free → sc.names.lookup y.1 = some .cell ∨ sc.names.lookup y.1 = some .free
  own : ∀ y ∈ scope.names, y.2 = .local ∨ y.2 = .cell → y.1 ∈ own.map (·.1) ∨ y.1 ∉ N

def wipe (σ : St) : List Nat → St
  | [] => σ
  | v :: vs => (wipe σ vs).set v none
theorem wipe_length (σ : St) : ∀ vs : List Nat, (wipe σ vs).length = σ.length
  | [] => rfl
  | v :: vs => by unfold wipe; rw [List.length_set, wipe_length σ vs]
theorem wipe_some {σ : St} {i : Nat} {x : V} : ∀ {vs : List Nat}, (wipe σ vs)[i]? = some (some x) → σ[i]? = some (some x) ∧ i ∉ vs
  | [], h => ⟨h, by simp⟩
  | v :: vs, h => by
    unfold wipe at h
    by_cases hi : v = i
    · subst hi
      by_cases hv : v < (wipe σ vs).length
      · rw [List.getElem?_set_self hv] at h; cases h
      · rw [List.getElem?_eq_none (by simpa using hv)] at h; cases h
    · rw [List.getElem?_set_ne hi] at h
      obtain ⟨h1, h2⟩ := wipe_some h
      exact ⟨h1, by simp only [List.mem_cons, not_or]; exact ⟨fun e => hi e.symm, h2⟩⟩


abbrev Cx.blk (X : Cx) (s : Shared) (H : Hp) (scope : Scope) (cenv : Env) (fp : List Addr) : Cx := { X with s_0 := s, H_0 := H, env := cenv, outer := X.stack, ex := fp, fn := fun x => scope.names.lookup x == some .cell, pn := [], xe := fun _ _ => False }
section
variable {X : Cx} {pins : List (Addr × Obj)} {σ : St} {H : Hp} {s : Shared}
theorem block_start {scope : Scope} {own : List (Str × Nat)} {fp : List Addr} (I : Inv X pins σ H s) (ok : BlkOk X.N X.env.scope scope own) (hN : X.N.Nodup) (hfp : ∀ b ∈ fp, FpOk X pins H b ∧ b < s.heap.objs.size) :
    Inv (X.blk s H scope (compEnvC scope (cellsFrom (s.heap.objs.size + 1) scope.names (cloFrom X.env.cells scope.names [])) s.heap.objs.size X.env) fp) [] (wipe σ (own.map (·.2))) H { s with heap := pushCells (s.heap.push { cls := .type "dict", data := .dict #[] }) scope.names } := by
  have hfree : ∀ y ∈ scope.names, y.2 = .free → ∃ c, X.env.cells.lookup y.1 = some c := fun y hy e => by
    rcases ok.free y hy e with k | k
    · exact I.ok.has _ (.inl k)
    · exact I.ok.has _ (.inr k)
  generalize hcenv : compEnvC scope (cellsFrom (s.heap.objs.size + 1) scope.names (cloFrom X.env.cells scope.names [])) s.heap.objs.size X.env = cenv
  have kp : ∀ b o, s.heap.get? b = some o → (pushCells (s.heap.push { cls := .type "dict", data := .dict #[] }) scope.names).get? b = some o := fun b o e => pushCells_keeps _ _ _ _ (Heap.get?_push_of_some _ e)
  have hL : cenv.locals = s.heap.objs.size := by rw [← hcenv]; rfl
  have hcl : cenv.cells = cellsFrom (s.heap.objs.size + 1) scope.names (cloFrom X.env.cells scope.names []) := by rw [← hcenv]; rfl
  have hsc : cenv.scope = relS scope X.env.scope := by rw [← hcenv]; rfl
  rw [← Heap.size_push s.heap { cls := .type "dict", data := .dict #[] }] at hcl
  have cm : ∀ {y c}, (y, c) ∈ cloFrom X.env.cells scope.names [] → X.env.cells.lookup y = some c ∧ c < s.heap.objs.size := fun {y c} hm => by
    rcases cloFrom_mem hm with hm | ⟨h1, rfl⟩
    · cases hm
    · obtain ⟨c, hc⟩ := hfree _ h1 rfl
      rw [hc]
      obtain ⟨w, z⟩ := I.cell _ _ hc
      exact ⟨rfl, z.lt⟩
  have mem : ∀ {y c}, cenv.cells.lookup y = some c → (X.env.cells.lookup y = some c ∧ c < s.heap.objs.size) ∨ (s.heap.objs.size + 1 ≤ c ∧ CellAt (pushCells (s.heap.push { cls := .type "dict", data := .dict #[] }) scope.names) c none) := fun {y c} e => by
    rw [hcl] at e
    rcases cells_mem (PySem.mem_of_lookup e) with hm | ⟨_, h2, h3⟩
    · exact .inl (cm hm)
    · rw [Heap.size_push] at h2; exact .inr ⟨h2, h3⟩
  have look : ∀ {y}, scope.names.lookup y = some .free → ∃ c, cenv.cells.lookup y = some c ∧ X.env.cells.lookup y = some c := fun {y} hl => by
    have hy : (y, NameKind.free) ∈ scope.names := PySem.mem_of_lookup hl
    obtain ⟨c', e'⟩ := mem_lookup (cells_acc (names := scope.names) (n := (s.heap.push { cls := .type "dict", data := .dict #[] }).objs.size) (cloFrom_has (cells := X.env.cells) (acc := []) hy))
    rw [← hcl] at e'
    refine ⟨c', e', ?_⟩
    rw [hcl] at e'
    rcases cells_mem (PySem.mem_of_lookup e') with hm | ⟨h1, _, _⟩
    · exact (cm hm).1
    · have := ok.uniq _ h1
      rw [hl] at this; cases this
  have okB : (X.blk s H scope cenv fp).Ok := by
    refine ⟨I.ok.mod, by show cenv.scope.kind = _; rw [hsc]; exact ok.kind, by show cenv.globals = _; rw [← hcenv]; exact I.ok.glob, by show cenv.builtins = _; rw [← hcenv]; exact I.ok.blt, by show s.heap.objs.size ≤ cenv.locals; rw [hL]; exact Nat.le_refl _,
      fun y z c e1 e2 => ?_, fun y hy => ?_, fun y c z e => ?_, I.ok.hd, I.ok.frames, .inl rfl, fun b hb => ⟨?_, fun y c e z => ?_⟩, I.bs, Nat.le_trans I.ok.bsz I.sz, fun b o e hb => ?_, fun b hb z => ?_, I.stack, I.stkFree⟩
    · have e1 : cenv.cells.lookup y = some c := e1
      have e2 : cenv.cells.lookup z = some c := e2
      rw [hcl] at e1 e2
      refine cells_inj (fun p hp => ?_) (fun y z c a b => I.ok.inj y z c (cm a).1 (cm b).1) (PySem.mem_of_lookup e1) (PySem.mem_of_lookup e2)
      rw [Heap.size_push]
      exact Nat.lt_succ_of_lt (cm (y := p.1) (c := p.2) hp).2
    · show ∃ c, cenv.cells.lookup y = some c
      have key : ∀ k, cenv.kindOf y = some k → (k = .cell ∨ k = .free) → ∃ c, cenv.cells.lookup y = some c := fun k hk hk' => by
        unfold Env.kindOf at hk
        rw [hsc] at hk
        obtain ⟨k', e, r⟩ := lookup_relS hk
        have : k' = .cell ∨ k' = .free := by
          rcases r with rfl | ⟨rfl, _⟩
          · exact hk'
          · exact .inr rfl
        rcases this with rfl | rfl
        · obtain ⟨c, hm⟩ := cells_has (n := (s.heap.push { cls := .type "dict", data := .dict #[] }).objs.size) (acc := cloFrom X.env.cells scope.names []) (PySem.mem_of_lookup e)
          obtain ⟨c', e'⟩ := mem_lookup hm
          exact ⟨c', by rw [hcl]; exact e'⟩
        · obtain ⟨c, h1, _⟩ := look e
          exact ⟨c, h1⟩
      rcases hy with hy | hy
      · exact key _ hy (.inl rfl)
      · exact key _ hy (.inr rfl)
    · have z : (scope.names.lookup y == some NameKind.cell) = true := z
      have z : scope.names.lookup y = some .cell := by simpa using z
      have e : cenv.cells.lookup y = some c := e
      rw [hcl] at e
      rcases cells_mem (PySem.mem_of_lookup e) with hm | ⟨_, h2, _⟩
      · rcases cloFrom_mem hm with hm | ⟨h1, _⟩
        · cases hm
        · have q := ok.uniq _ h1
          rw [z] at q; cases q
      · rw [Heap.size_push] at h2
        exact Nat.le_of_succ_le h2
    · show b ≠ cenv.locals
      rw [hL]; exact Nat.ne_of_lt (hfp b hb).2
    · have e : cenv.cells.lookup y = some c := e
      rcases mem e with ⟨h1, _⟩ | ⟨h1, _⟩
      · exact (hfp b hb).1.2.2.2.2.1 y c h1 z
      · have h2 : s.heap.objs.size + 1 ≤ b := by rw [← z]; exact h1
        exact absurd (Nat.lt_of_lt_of_le (hfp b hb).2 (Nat.le_of_succ_le h2)) (Nat.lt_irrefl _)
    · rcases (hfp b hb).1.2.2.2.1 with z | z
      · exact I.ok.noex b o e z
      · exact absurd (Nat.lt_of_lt_of_le (Heap.lt_size e) (Nat.le_trans I.ok.bsz z)) (Nat.lt_irrefl _)
    · rcases List.mem_cons.mp (I.stkSub b z) with z | z
      · exact (hfp b hb).1.2.1 z
      · exact (hfp b hb).1.2.2.1 z
  refine ⟨okB, rfl, I.bare, Un.kept kp, ⟨fun _ => none, ?_, fun i y av e1 e2 e3 => ?_⟩, fun y c e => ?_, ?_, fun y c e => ?_, fun p hp => ?_, I.hok.kept kp, by rw [wipe_length]; exact I.len⟩
  · show Heap.Ns _ cenv.locals _
    rw [hL]
    exact Heap.Ns.keeps (Heap.Ns.new ..) fun b o e => pushCells_keeps _ _ _ _ e
  · obtain ⟨e2, hne⟩ := wipe_some e2
    have hfr : scope.names.lookup y = some .free ∧ (cenv.kindOf y = some .cell ∨ cenv.kindOf y = some .free) := by
      have key : ∀ k, cenv.scope.names.lookup y = some k → k = .local ∨ k = .cell ∨ k = .free → scope.names.lookup y = some .free ∧ (cenv.kindOf y = some .cell ∨ cenv.kindOf y = some .free) := fun k hk hk' => by
        have hk0 := hk
        rw [hsc] at hk
        obtain ⟨k', e, r⟩ := lookup_relS hk
        have no : ¬ (k' = .local ∨ k' = .cell) := fun hh => by
          rcases ok.own _ (PySem.mem_of_lookup e) hh with e' | e'
          · obtain ⟨p, hp, hpy⟩ := List.mem_map.mp e'
            have e3 := ok.ix p hp
            have : p.1 = y := hpy
            rw [this] at e3
            exact hne (List.mem_map.mpr ⟨p, hp, nodup_ix hN e3 e1⟩)
          · exact e' (List.mem_of_getElem? e1)
        rcases r with rfl | ⟨rfl, rfl⟩
        · rcases hk' with rfl | rfl | rfl
          · exact absurd (.inl rfl) no
          · exact absurd (.inr rfl) no
          · exact ⟨e, .inr hk0⟩
        · exact ⟨e, .inl hk0⟩
      have e3 : Vis cenv.scope y := e3
      rcases e3 with e3 | e3 | e3
      · exact key _ e3 (.inl rfl)
      · exact key _ e3 (.inr (.inl rfl))
      · exact key _ e3 (.inr (.inr rfl))
    obtain ⟨m, hn, hl⟩ := I.loc
    have hvis : Vis X.env.scope y := (ok.free _ (PySem.mem_of_lookup hfr.1) rfl).elim (fun k => .inr (.inl k)) (fun k => .inr (.inr k))
    obtain ⟨w, r, q⟩ := hl i y av e1 e2 hvis
    refine ⟨w, r, .inr ⟨hfr.2, ?_⟩⟩
    obtain ⟨c, h1, h2⟩ := look hfr.1
    rcases q with ⟨k, _⟩ | ⟨_, c', e', z⟩
    · have k : X.env.scope.names.lookup y = some .local := k
      rcases ok.free _ (PySem.mem_of_lookup hfr.1) rfl with k' | k' <;> rw [show X.env.scope.names.lookup y = _ from k'] at k <;> cases k
    · rw [h2] at e'; cases e'
      exact ⟨c, h1, z.keeps kp⟩
  · have e : cenv.cells.lookup y = some c := e
    rcases mem e with ⟨h1, _⟩ | ⟨_, z⟩
    · obtain ⟨w, z⟩ := I.cell y c h1
      exact ⟨w, z.keeps kp⟩
    · exact ⟨_, z⟩
  · show H cenv.locals = none
    rw [hL]; exact I.hok.fresh (Nat.le_refl _)
  · have e : cenv.cells.lookup y = some c := e
    rcases mem e with ⟨h1, _⟩ | ⟨h1, _⟩
    · exact I.freeC y c h1
    · exact I.hok.fresh (Nat.le_of_succ_le h1)
  · exact absurd (show p ∈ ([] : List (Addr × Obj)) ++ [] from hp) (by simp)


theorem app_ok {E : Value → Shared → Prop} {D : Addr} {xs : List V} {y : V} {v : Value} {Q : Value → Shared → Prop} (I : Inv X pins σ H s) (hD : H D = some (.lst xs)) (hz : xs.length < sizeLine) (r : RelV y v)
    (h : ∀ s', Inv X pins σ (upd H D (.lst (xs ++ [y]))) s' → Q .none s') : wpAny (model X.prog X.w) X.A (call (.builtin "list.append") [.ref D, v]) Q E s := by
  obtain ⟨hz', its, n, ri, e⟩ := I.hok D _ hD
  have hl := ri.length
  refine append_at (hsz := by rw [List.size_toArray]; omega) e fun h' sb ho' => ?_
  refine h { s with heap := h' } (I.write (t' := s.toks) (by rw [hD]; trivial) (.inl rfl) (fun b u hb q => (sb.2 b hb).trans q) ⟨_, ho'⟩ ⟨by rw [List.length_append]; exact hz, its ++ [v], n + 1, ri.append (.cons r .nil), ?_⟩)
  rw [ho']
  simp


def PTs (X : Cx) (ifs : List Expr) (t : TT) : Prop :=
  ∀ (pins : List (Addr × Obj)) (s : Shared) (σ : St) (H : Hp) (Q : Bool → Hp → Prop), Inv X pins σ H s → t σ H Q →
    wpAny (model X.prog X.w) X.A (forIn ifs true fun c r => if r = true then do let ok ← isTrue c X.env (eval c X.env); pure (ForInStep.yield ok) else pure (ForInStep.yield r)) (TP X pins σ Q) X.xe s
def tYes : TT := fun _ H Q => Q true H
theorem pts_nil : PTs X [] tYes := fun _ _ _ H _ I h => wpAny_tests_nil ⟨H, I, h⟩
end

theorem thnF {α : Type} {t : Sem α} {Q Q' : α → Shared → Prop} {M : Model} {A : Around} {E : Value → Shared → Prop} {s : Shared} (h : wpAny M A t Q (fun _ _ => False) s) (hQ : ∀ a s, Q a s → Q' a s) : wpAny M A t Q' E s := wpAny_mono h hQ fun _ _ z => False.elim z


theorem compLoop_any {prog : Program} {w : World} {A : Around} {R : Result → Shared → Prop} {s : Shared} {elt target iter : Expr} {ifs : List Expr} {scope : Scope} {pos : Pos} {it acc : Value} {env : Env} (I : Nat → Shared → Prop)
    (turn : ∀ n s, I n s → wpAny (model prog w) A (pyNext it) (fun r s₁ => match r with
      | none => R (.ok .next) s₁
      | some v => wpAny (model prog w) A (letOwnedTupleGo target it v) (fun _ s₁' => wpAny (model prog w) A (assign target env v) (fun _ s₂ =>
          wpAny (model prog w) A (forIn ifs true fun c r => if r = true then do let ok ← isTrue c env (eval c env); pure (ForInStep.yield ok) else pure (ForInStep.yield r)) (fun ok s₃ =>
            if ok = true then wpAny (model prog w) A (eval elt env) (fun x s₄ =>
              wpAny (model prog w) A (call (.builtin "list.append") [acc, x]) (fun _ s₅ => ∃ m, m < n ∧ I m s₅) (notedBy (model prog w) A env fun e s' => R (.error e) s') s₄) (notedBy (model prog w) A env fun e s' => R (.error e) s') s₃
            else ∃ m, m < n ∧ I m s₃) (notedBy (model prog w) A env fun e s' => R (.error e) s') s₂) (notedBy (model prog w) A env fun e s' => R (.error e) s') s₁') (notedBy (model prog w) A env fun e s' => R (.error e) s') s₁) (notedBy (model prog w) A env fun e s' => R (.error e) s') s)
    (n : Nat) (h : I n s) :
    codeAny (model prog w) A (.compLoop (.ListComp elt [⟨target, iter, ifs, 0⟩] scope pos) 0 it acc env) R s := by
  refine codeAny_loop rfl I (fun n s hI => ?_) n h
  show wpAny _ A ((compTurn (.ListComp elt [⟨target, iter, ifs, 0⟩] scope pos) 0 it acc env).onRaise (fun x => do noteFrame x env; theTreesLotGoes x)) _ _ s
  refine wpAny_noted ?_
  rw [compTurn_list]
  refine wpAny_bind (wpAny_standAt (wpAny_bind (wpAny_mono (turn n s hI) (fun r s₁ h₁ => ?_) fun _ _ h' => h')))
  cases r with
  | none => exact wpAny_pure h₁
  | some v =>
    refine wpAny_bind (wpAny_mono h₁ (fun _ s₁' h₁' => ?_) fun _ _ h' => h')
    refine wpAny_bind (wpAny_mono h₁' (fun _ s₂ h₂ => wpAny_bind (wpAny_mono h₂ (fun ok s₃ h₃ => ?_) fun _ _ h' => h')) fun _ _ h' => h')
    cases ok with
    | false => exact wpAny_pure ⟨rfl, h₃⟩
    | true =>
      exact wpAny_bind (wpAny_bind (wpAny_mono h₃ (fun x s₄ h₄ => wpAny_bind (wpAny_mono h₄ (fun _ s₅ h₅ => wpAny_pure (wpAny_pure ⟨rfl, h₅⟩)) fun _ _ h' => h')) fun _ _ h' => h'))

section
variable {X : Cx}

def tLc (wi : TI) (g : TG) (tt : TT) (te : TE) (vs : List Nat) : TE := fun σ H Q => wi σ H fun J H1 => ∀ D, H1 D = none → ∃ W : Nat → Nat → Hp → Prop, (∃ m, W 0 m (upd H1 D (.lst []))) ∧ ∀ i m H, W i m H →
  (J.stop i H ∧ Q (.ref D) H) ∨ (J.go i H ∧ ∃ Nx : Hp → Prop, (∀ H', Nx H' → ∃ m', m' < m ∧ W (i + 1) m' H') ∧ ∀ x H', J.yld i H x H' → g x (wipe σ vs) H' fun σ2 H2 => wipe σ2 vs = wipe σ vs ∧ tt σ2 H2 fun b H3 =>
    if b = true then te σ2 H3 fun y H4 => ∃ acc, H4 D = some (.lst acc) ∧ acc.length < sizeLine ∧ Nx (upd H4 D (.lst (acc ++ [y]))) else Nx H3)
theorem lc_core {pins : List (Addr × Obj)} {s : Shared} {σ : St} {H : Hp} {Q : VK} {elt tg iter : Expr} {ifs : List Expr} {scope : Scope} {own : List (Str × Nat)} {pos pos' : Pos} {wi : TI} {g : TG} {tt : TT} {te : TE} {use : Option (Value → Sem Unit)} {Qf : Value → Shared → Prop}
    (hc : X.calm = true) (hN : X.N.Nodup) (I : Inv X pins σ H s) (hi : PI X tg iter wi) (ok : BlkOk X.N X.env.scope scope own)
    (hg : ∀ (s : Shared) (H : Hp) (C : Addr) (cl : List (Str × Addr)) (fp : List Addr), PG (X.blk s H scope (compEnvC scope cl C X.env) fp) tg g) (ht : ∀ (s : Shared) (H : Hp) (C : Addr) (cl : List (Str × Addr)) (fp : List Addr), PTs (X.blk s H scope (compEnvC scope cl C X.env) fp) ifs tt)
    (he : ∀ (s : Shared) (H : Hp) (C : Addr) (cl : List (Str × Addr)) (fp : List Addr), PE (X.blk s H scope (compEnvC scope cl C X.env) fp) elt te) (hs : ∀ x, foldedSetIterable iter X.env x = pure x)
    (h : tLc wi g tt te (own.map (·.2)) σ H Q)
    (hRR : ∀ D C s' m H', Inv X pins σ H' s' → Q (.ref D) H' → s'.heap.Ns C m → FpOk X pins H' C → compPost (model X.prog X.w) X.A X.xe use Qf (.ref D) C (.ok .next) s') :
    wpAny (model X.prog X.w) X.A (comprehension (.ListComp elt [⟨tg, iter, ifs, 0⟩] scope pos) scope X.env pos' (newList []) false (eval iter X.env) use) Qf X.xe s := by
  have hfree : ∀ y ∈ scope.names, y.2 = .free → ∃ c, X.env.cells.lookup y.1 = some c := fun y hy e => by
    rcases ok.free y hy e with k | k
    · exact I.ok.has _ (.inl k)
    · exact I.ok.has _ (.inr k)
  refine wpAny_comprehension_free (use := use) rfl hs (closure_ok hfree) ok.kind (fun y hy e => by rw [ok.uniq y hy, e])
    (thn (hi pins s σ H _ I h) fun xv s1 hx => thn hx fun itv s2 h2 => ?_)
  obtain ⟨it, fp, tn, J, H2, e, I2, T, st2, f2, q⟩ := h2
  subst e
  refine wpAny_newObj_type (newEnv_comp ?_) (by show 0 ≤ sizeLine; decide)
  generalize hD : s2.heap.objs.size = D
  have hDn : H2 D = none := I2.hok.fresh (Nat.le_of_eq hD)
  obtain ⟨W, ⟨m0, w0⟩, turn⟩ := q D hDn
  -- the new list
  generalize hs3 : ({ s2 with heap := s2.heap.push { cls := .type "list", data := .seq ([] : List Value).toArray } } : Shared) = s3
  have I3 : Inv X pins σ (upd H2 D (.lst [])) s3 := by
    rw [← hs3]
    refine I2.laid (t' := s2.toks) (fun b o e => Heap.get?_push_of_some _ e) (Nat.le_of_eq hD) ⟨Nat.zero_le _, [], 0, .nil, ?_⟩
    rw [← hD]
    exact Heap.get?_push_size _ rfl
  have h3 : s3.heap = s2.heap.push { cls := .type "list", data := .seq ([] : List Value).toArray } := by rw [← hs3]
  have sz : ∀ b ∈ fp, b < s2.heap.objs.size := fun b hb => by
    obtain ⟨o, e, _⟩ := T.obj _ _ st2 b hb
    exact Heap.lt_size e
  have f3 : ∀ b ∈ fp, FpOk X pins (upd H2 D (.lst [])) b ∧ b < s3.heap.objs.size := fun b hb => by
    have hlt := sz b hb
    refine ⟨⟨?_, (f2 b hb).2⟩, by rw [h3, Heap.size_push]; exact Nat.lt_succ_of_lt hlt⟩
    rw [upd_ne (by rw [← hD]; exact Nat.ne_of_lt hlt)]
    exact (f2 b hb).1
  have st3 : tn 0 s3.heap := T.keep _ _ _ st2 fun b _ o e => by rw [h3]; exact Heap.get?_push_of_some _ e
  have I4 := block_start I3 ok hN f3
  have pg := hg s3 (upd H2 D (.lst [])) s3.heap.objs.size (cellsFrom (s3.heap.objs.size + 1) scope.names (cloFrom X.env.cells scope.names [])) fp
  have pt := ht s3 (upd H2 D (.lst [])) s3.heap.objs.size (cellsFrom (s3.heap.objs.size + 1) scope.names (cloFrom X.env.cells scope.names [])) fp
  have pe := he s3 (upd H2 D (.lst [])) s3.heap.objs.size (cellsFrom (s3.heap.objs.size + 1) scope.names (cloFrom X.env.cells scope.names [])) fp
  show codeAny _ _ (.compStart (.ListComp elt [⟨tg, iter, ifs, 0⟩] scope pos) 0 (.ref it) (.ref D) (compEnvC scope (cellsFrom (s3.heap.objs.size + 1) scope.names (cloFrom X.env.cells scope.names [])) s3.heap.objs.size X.env)) (compPost (model X.prog X.w) X.A X.xe use Qf (.ref D) s3.heap.objs.size) { s3 with heap := pushCells (s3.heap.push { cls := .type "dict", data := .dict #[] }) scope.names }
  have nfp : ∀ b ∈ fp, (upd H2 D (.lst [])) b = none := fun b hb => (f3 b hb).1.1
  generalize hce : compEnvC scope (cellsFrom (s3.heap.objs.size + 1) scope.names (cloFrom X.env.cells scope.names [])) s3.heap.objs.size X.env = ce at I4 pg pt pe ⊢
  have cL : ce.locals = s3.heap.objs.size := by subst hce; rfl
  generalize hH3 : upd H2 D (.lst []) = H3 at I3 I4 pg pt pe w0 nfp f3
  generalize hs4 : ({ s3 with heap := pushCells (s3.heap.push { cls := .type "dict", data := .dict #[] }) scope.names } : Shared) = s4 at I4 ⊢
  have st4 : tn 0 s4.heap := T.keep _ _ _ st3 fun b _ o e => by rw [← hs4]; exact pushCells_keeps _ _ _ _ (Heap.get?_push_of_some _ e)
  have stat : ∀ {σ' : St} {H' : Hp} {s' : Shared}, Inv (X.blk s3 H3 scope ce fp) [] σ' H' s' → (∀ b ∈ fp, H' b = none) → ∀ b ∈ fp, FpOk (X.blk s3 H3 scope ce fp) [] H' b := fun {σ' H' s'} I' hn b hb =>
    ⟨hn b hb, (I'.ok.exf b hb).1, I'.ok.exfs b hb, .inl hb, fun x c e => (I'.ok.exf b hb).2 x c e, fun p hp => absurd (show p ∈ ([] : List (Addr × Obj)) ++ [] from hp) (by simp)⟩
  have loop : codeAny (model X.prog X.w) X.A (.compLoop (.ListComp elt [⟨tg, iter, ifs, 0⟩] scope pos) 0 (.ref it) (.ref D) ce) (compPost (model X.prog X.w) X.A X.xe use Qf (.ref D) s3.heap.objs.size) s4 := by
    refine compLoop_any (fun n s' => ∃ i H', Inv (X.blk s3 H3 scope ce fp) [] (wipe σ (own.map (·.2))) H' s' ∧ tn i s'.heap ∧ (∀ b ∈ fp, H' b = none) ∧ W i n H') ?_ m0 ⟨0, H3, I4, st4, nfp, w0⟩
    rintro n s5 ⟨i, H5, I5, st5, n5, w5⟩
    rcases turn i n H5 w5 with ⟨stop, qq⟩ | ⟨go, Nx, hNx, step⟩
    · have td := T.done (X.blk s3 H3 scope ce fp) rfl rfl rfl hc i [] s5 _ H5 (fun _ _ => False) I5 (stat I5 n5) st5 stop
      refine thnF td fun r s6 ⟨hr, I6⟩ => ?_
      subst hr
      -- back in the def's context
      have I7 : Inv X pins σ H5 s6 := I3.call' (ch := fp) I6.os I6.base I6.hok I6.bare fun b hb => ⟨(f3 b hb).1.2.2.2.1, (f3 b hb).1.2.1, (f3 b hb).1.2.2.2.2.1, (f3 b hb).1.2.2.2.2.2⟩
      have nC : H5 s3.heap.objs.size = none := by
        have z : H5 ce.locals = none := I6.free
        rw [cL] at z
        exact z
      obtain ⟨m, hn, _⟩ := I6.loc
      have hn : s6.heap.Ns ce.locals m := hn
      rw [cL] at hn
      exact hRR D s3.heap.objs.size s6 m H5 I7 qq hn (I3.fpOk (Nat.le_refl _) nC)
    · have ti := T.item (X.blk s3 H3 scope ce fp) rfl rfl rfl hc i [] s5 _ H5 (fun _ _ => False) I5 (stat I5 n5) st5 go
      refine thnF ti fun r s6 ⟨u, hr, h6⟩ => ?_
      subst hr
      refine thnF h6 fun _ s7 ⟨x, H7, I7, r7, y7, st7, n7⟩ => ?_
      have I7' := I7.pinned (stat I7 n7) (T.obj _ _ st7)
      refine thnF (pg _ s7 _ H7 x u _ I7' r7 (step x H7 y7)) fun _ s8 ⟨σ8, H8, I8, hw8, q8⟩ => ?_
      refine thnF (pt _ s8 σ8 H8 _ I8 q8) fun b s9 ⟨H9, I9, q9⟩ => ?_
      -- the turn's end
      have fin : ∀ {s' : Shared} {H' : Hp}, Inv (X.blk s3 H3 scope ce fp) ([] ++ pinsAt fp s7.heap) σ8 H' s' → Nx H' → ∃ m, m < n ∧ ∃ i H', Inv (X.blk s3 H3 scope ce fp) [] (wipe σ (own.map (·.2))) H' s' ∧ tn i s'.heap ∧ (∀ b ∈ fp, H' b = none) ∧ W i m H' := fun {s' H'} I' nx => by
        obtain ⟨m', hm, w'⟩ := hNx H' nx
        have pin' : ∀ b ∈ fp, ∀ o, s7.heap.get? b = some o → s'.heap.get? b = some o ∧ H' b = none := fun b hb o e =>
          let z := I'.pin (b, o) (List.mem_append_right _ (List.mem_append_right _ (mem_pinsAt hb e)))
          ⟨z.1, z.2.1⟩
        have hl : (wipe σ (own.map (·.2))).length = σ8.length := by rw [← hw8, wipe_length]
        refine ⟨m', hm, i + 1, H', (I'.unpinned (pins := [])).weak hl (fun j v e => ?_), T.keep _ _ _ st7 fun b hb o e => (pin' b hb o e).1, fun b hb => ?_, w'⟩
        · rw [← hw8] at e
          exact (wipe_some e).1
        · obtain ⟨o, e, _⟩ := T.obj _ _ st7 b hb
          exact (pin' b hb o e).2
      cases b with
      | false =>
        simp only [Bool.false_eq_true, if_false] at q9 ⊢
        exact fin I9 q9
      | true =>
        simp only [if_true] at q9 ⊢
        refine thnF (pe _ s9 σ8 H9 _ I9 q9) fun z s10 ⟨yv, H10, I10, r10, acc, hD10, hz10, nx⟩ => ?_
        exact app_ok (X := X.blk s3 H3 scope ce fp) I10 hD10 hz10 r10 fun s11 I11 => fin I11 nx
  exact codeAny_compStart_list loop (T.self X.A 0 _ _ _ st4 loop)

theorem pe_lc {elt tg iter : Expr} {ifs : List Expr} {scope : Scope} {own : List (Str × Nat)} {pos : Pos} {wi : TI} {g : TG} {tt : TT} {te : TE} (hc : X.calm = true) (hN : X.N.Nodup) (hi : PI X tg iter wi) (ok : BlkOk X.N X.env.scope scope own)
    (hg : ∀ (s : Shared) (H : Hp) (C : Addr) (cl : List (Str × Addr)) (fp : List Addr), PG (X.blk s H scope (compEnvC scope cl C X.env) fp) tg g) (ht : ∀ (s : Shared) (H : Hp) (C : Addr) (cl : List (Str × Addr)) (fp : List Addr), PTs (X.blk s H scope (compEnvC scope cl C X.env) fp) ifs tt)
    (he : ∀ (s : Shared) (H : Hp) (C : Addr) (cl : List (Str × Addr)) (fp : List Addr), PE (X.blk s H scope (compEnvC scope cl C X.env) fp) elt te) (hs : ∀ x, foldedSetIterable iter X.env x = pure x := by intro _; rfl) :
    PE X (.ListComp elt [⟨tg, iter, ifs, 0⟩] scope pos) (tLc wi g tt te (own.map (·.2))) := by
  intro pins s σ H Q I h
  rw [eval_ListComp]
  refine lc_core hc hN I hi ok hg ht he hs h fun D C s' m H' I' q hn f => ⟨m, hn, fun h'' sb => ?_⟩
  obtain ⟨f0, f1, f2, f3, f4, f5⟩ := f
  exact ⟨.ref D, H', I'.turned (t' := s'.toks) (fun b o hb e => (sb.2 b hb).trans e) f0 f1 f3 f4 f5, rfl, q⟩

end



theorem lc_range {lo : Int} {n : Nat} {g : TG} {tt : TT} {te : TE} {vs : List Nat} {σ : St} {H1 : Hp} {D : Addr} {Qd : Hp → Prop} (Pv : Nat → Hp → Prop) (h0 : Pv 0 (upd H1 D (.lst [])))
    (hs : ∀ i H, i < n → Pv i H → g (.int (lo + i)) (wipe σ vs) H fun σ2 H2 => wipe σ2 vs = wipe σ vs ∧ tt σ2 H2 fun b H3 =>
      if b = true then te σ2 H3 fun y H4 => ∃ acc, H4 D = some (.lst acc) ∧ acc.length < sizeLine ∧ Pv (i + 1) (upd H4 D (.lst (acc ++ [y]))) else Pv (i + 1) H3) (hd : ∀ H, Pv n H → Qd H) :
    ∃ W : Nat → Nat → Hp → Prop, (∃ m, W 0 m (upd H1 D (.lst []))) ∧ ∀ i m H, W i m H →
      ((Itr lo n).stop i H ∧ Qd H) ∨ ((Itr lo n).go i H ∧ ∃ Nx : Hp → Prop, (∀ H', Nx H' → ∃ m', m' < m ∧ W (i + 1) m' H') ∧ ∀ x H', (Itr lo n).yld i H x H' → g x (wipe σ vs) H' fun σ2 H2 => wipe σ2 vs = wipe σ vs ∧ tt σ2 H2 fun b H3 =>
        if b = true then te σ2 H3 fun y H4 => ∃ acc, H4 D = some (.lst acc) ∧ acc.length < sizeLine ∧ Nx (upd H4 D (.lst (acc ++ [y]))) else Nx H3) := by
  refine ⟨fun i m H => m = n - i ∧ i ≤ n ∧ Pv i H, ⟨n, by simp, Nat.zero_le _, h0⟩, ?_⟩
  rintro i m H ⟨rfl, hi, p⟩
  by_cases hlt : i < n
  · refine .inr ⟨hlt, Pv (i + 1), fun H' p' => ⟨n - (i + 1), by omega, rfl, hlt, p'⟩, fun x H' y => ?_⟩
    obtain ⟨e, y⟩ := y
    subst e y
    exact hs i _ hlt p
  · have e : i = n := by omega
    subst e
    exact .inl ⟨Nat.le_refl _, hd H p⟩

theorem lc_list {K : PySem.W.Frag} {a : Addr} {xs : List V} {g : TG} {tt : TT} {te : TE} {vs : List Nat} {σ : St} {H1 : Hp} {D : Addr} {Qd : Hp → Prop} (Pv : Nat → Hp → Prop) (h0 : Pv 0 (upd H1 D (.lst []))) (hl : ∀ i H, i ≤ xs.length → Pv i H → SqL K H a xs)
    (hs : ∀ i x H, xs[i]? = some x → Pv i H → g x (wipe σ vs) H fun σ2 H2 => wipe σ2 vs = wipe σ vs ∧ tt σ2 H2 fun b H3 =>
      if b = true then te σ2 H3 fun y H4 => ∃ acc, H4 D = some (.lst acc) ∧ acc.length < sizeLine ∧ Pv (i + 1) (upd H4 D (.lst (acc ++ [y]))) else Pv (i + 1) H3) (hd : ∀ H, Pv xs.length H → Qd H) :
    ∃ W : Nat → Nat → Hp → Prop, (∃ m, W 0 m (upd H1 D (.lst []))) ∧ ∀ i m H, W i m H →
      ((Itl K a).stop i H ∧ Qd H) ∨ ((Itl K a).go i H ∧ ∃ Nx : Hp → Prop, (∀ H', Nx H' → ∃ m', m' < m ∧ W (i + 1) m' H') ∧ ∀ x H', (Itl K a).yld i H x H' → g x (wipe σ vs) H' fun σ2 H2 => wipe σ2 vs = wipe σ vs ∧ tt σ2 H2 fun b H3 =>
        if b = true then te σ2 H3 fun y H4 => ∃ acc, H4 D = some (.lst acc) ∧ acc.length < sizeLine ∧ Nx (upd H4 D (.lst (acc ++ [y]))) else Nx H3) := by
  refine ⟨fun i m H => m = xs.length - i ∧ i ≤ xs.length ∧ Pv i H, ⟨xs.length, by simp, Nat.zero_le _, h0⟩, ?_⟩
  rintro i m H ⟨rfl, hi, p⟩
  have q := hl i H hi p
  by_cases hlt : i < xs.length
  · refine .inr ⟨⟨xs, xs[i], q, by simp [hlt]⟩, Pv (i + 1), fun H' p' => ⟨xs.length - (i + 1), by omega, rfl, hlt, p'⟩, fun x H' y => ?_⟩
    obtain ⟨e, y⟩ := y
    subst e
    exact hs i x _ (y xs q) p
  · have e : i = xs.length := by omega
    subst e
    exact .inl ⟨⟨xs, q, Nat.le_refl _⟩, hd H p⟩

def blkC (N : List Str) (sc scope : Scope) (own : List (Str × Nat)) : Bool :=
  (match scope.kind with | .function => true | _ => false) && (scope.names.all fun y => decide (scope.names.lookup y.1 = some y.2)) && (own.all fun p => decide (N[p.2]? = some p.1)) &&
    (scope.names.all fun y => match y.2 with
      | .free => (match sc.names.lookup y.1 with | some .cell => true | some .free => true | _ => false)
      | .local => decide (y.1 ∈ own.map (·.1)) || decide (y.1 ∉ N)
      | .cell => decide (y.1 ∈ own.map (·.1)) || decide (y.1 ∉ N)
      | _ => true)
theorem blkOk_by {N : List Str} {sc scope : Scope} {own : List (Str × Nat)} (h : blkC N sc scope own = true) : BlkOk N sc scope own := by
  unfold blkC at h
  simp only [Bool.and_eq_true, List.all_eq_true, decide_eq_true_eq] at h
  obtain ⟨⟨⟨h1, h2⟩, h3⟩, h4⟩ := h
  refine ⟨?_, h2, h3, fun y hy e => ?_, fun y hy e => ?_⟩
  · split at h1
    · assumption
    · cases h1
  · have q := h4 y hy
    simp only [e] at q
    split at q <;> first | exact .inl (by assumption) | exact .inr (by assumption) | cases q
  · have q := h4 y hy
    rcases e with e | e <;> (simp only [e, Bool.or_eq_true, decide_eq_true_eq] at q; exact q)
end L2

namespace L2
open PySem PySem.Spec PyProof.Rows

section
variable {prog : Program} {w : World} {A : Around} {R : Result → Shared → Prop} {s : Shared} {elt t0 i0 t1 i1 : Expr} {ifs0 ifs1 : List Expr} {scope : Scope} {pos : Pos} {it acc : Value} {env : Env}

end

section
variable {X : Cx}

def tLc2 (wi : TI) (g : TG) (tt : TT) (wi1 : TI) (g1 : TG) (tt1 : TT) (te : TE) (vs vs1 : List Nat) : TE := fun σ H Q => wi σ H fun J H1 => ∀ D, H1 D = none → ∃ W : Nat → Nat → Hp → Prop, (∃ m, W 0 m (upd H1 D (.lst []))) ∧ ∀ i m H, W i m H →
  (J.stop i H ∧ Q (.ref D) H) ∨ (J.go i H ∧ ∃ Nx : Hp → Prop, (∀ H', Nx H' → ∃ m', m' < m ∧ W (i + 1) m' H') ∧ ∀ x H', J.yld i H x H' → g x (wipe σ vs) H' fun σ2 H2 => wipe σ2 vs = wipe σ vs ∧ tt σ2 H2 fun b H3 =>
    if b = true then wi1 σ2 H3 fun J1 H4 => ∃ W1 : Nat → Nat → Hp → Prop, (∃ m, W1 0 m H4) ∧ ∀ j k H, W1 j k H →
      (J1.stop j H ∧ Nx H) ∨ (J1.go j H ∧ ∃ Nx1 : Hp → Prop, (∀ H', Nx1 H' → ∃ k', k' < k ∧ W1 (j + 1) k' H') ∧ ∀ x H', J1.yld j H x H' → g1 x (wipe σ2 vs1) H' fun σ3 H5 => wipe σ3 vs1 = wipe σ2 vs1 ∧ tt1 σ3 H5 fun b H6 =>
        if b = true then te σ3 H6 fun y H7 => ∃ acc, H7 D = some (.lst acc) ∧ acc.length < sizeLine ∧ Nx1 (upd H7 D (.lst (acc ++ [y]))) else Nx1 H6)
    else Nx H3)
end
end L2

namespace L2
open PySem PySem.Spec PyProof.Rows


section
variable {κ : Type} [DecidableEq κ]
def valV (kvs : List (κ × V)) (k : κ) : Option V := (kvs.find? fun kv => decide (kv.1 = k)).map (·.2)

def putK (kvs : List (κ × V)) (k : κ) (v : V) : List (κ × V) :=
  if (kvs.any fun kv => decide (kv.1 = k)) = true then kvs.map (fun kv => if kv.1 = k then (kv.1, v) else kv) else kvs ++ [(k, v)]
def dropK (kvs : List (κ × V)) (k : κ) : List (κ × V) := kvs.filter fun kv => decide (kv.1 ≠ k)

end



abbrev KT (H : Hp) : List (List Key × V) → List (List Key × Addr × Value) → Prop := Paired fun p q => p.1 = q.1 ∧ H q.2.1 = some (.tup (p.1.map kV)) ∧ RelV p.2 q.2.2
section
variable {P : Program} {w : World} {H : Hp} {h : Heap} {a : Addr}
end


def DGet (H : Hp) (a : Addr) (y : V) (r : Option V) : Prop :=
  (∃ kvs k, Rd H a (.dK kvs) ∧ y = kV k ∧ r = valV kvs k) ∨ ∃ kvs k b, Rd H a (.dT kvs) ∧ y = .ref b ∧ H b = some (.tup (k.map kV)) ∧ r = valV kvs k

def DPut (H : Hp) (a : Addr) (y v : V) (H' : Hp) : Prop :=
  (∃ kvs k, H a = some (.dK kvs) ∧ y = kV k ∧ kvs.length < sizeLine ∧ H' = upd H a (.dK (putK kvs k v))) ∨
  ∃ kvs k b, H a = some (.dT kvs) ∧ y = .ref b ∧ H b = some (.tup (k.map kV)) ∧ kvs.length < sizeLine ∧ H' = upd H a (.dT (putK kvs k v))
section
variable {X : Cx} {pins : List (Addr × Obj)} {σ : St} {H : Hp} {s : Shared} {a : Addr} {y v : V} {u r : Value} {o : Option V} {A : Around} {E : Value → Shared → Prop}

end

section
variable {X : Cx} {pins : List (Addr × Obj)} {σ : St} {H : Hp} {s : Shared} {a : Addr} {kvs : List (Key × V)} {k : Key} {u : Value} {A : Around} {E : Value → Shared → Prop}

end




def NoSl (i : Expr) : Prop := ∀ ov iv, subscripted i false ov iv = operate [ov, iv] (getItem ov iv)
def tDGet (td ty : TE) : TE := fun σ H Q => td σ H fun x H1 => ty σ H1 fun y H2 => ∃ a v, x = .ref a ∧ DGet H2 a y (some v) ∧ Q v H2

def tDIn (ty td : TE) : TE := fun σ H Q => ty σ H fun y H1 => td σ H1 fun x H2 => ∃ a o, x = .ref a ∧ DGet H2 a y o ∧ Q (.bl o.isSome) H2
def tDNotIn (ty td : TE) : TE := fun σ H Q => ty σ H fun y H1 => td σ H1 fun x H2 => ∃ a o, x = .ref a ∧ DGet H2 a y o ∧ Q (.bl (!o.isSome)) H2

def sDPut (td ty tv : TE) : TS := fun D σ H => tv σ H fun v H1 => td σ H1 fun x H2 => ty σ H2 fun y H3 => ∃ a H4, x = .ref a ∧ DPut H3 a y v H4 ∧ D.nx σ H4

def sDAug (td ty tv : TE) (rd : V → V → Hp → VK → Prop) : TS := fun D σ H => td σ H fun x H1 => ty σ H1 fun y H2 => ∃ a v, x = .ref a ∧ DGet H2 a y (some v) ∧
  tv σ H2 fun y2 H3 => rd v y2 H3 fun z H4 => ∃ H5, DPut H4 a y z H5 ∧ D.nx σ H5

def sDDel (td ty : TE) : TS := fun D σ H => td σ H fun x H1 => ty σ H1 fun y H2 => ∃ a kvs k, x = .ref a ∧ H2 a = some (.dK kvs) ∧ y = kV k ∧ (valV kvs k).isSome = true ∧ D.nx σ (upd H2 a (.dK (dropK kvs k)))

section
variable {X : Cx} {o i e value : Expr} {pos pos' tpos : Pos} {td ty tv : TE}
end



def tDNewK : TE := fun _ H Q => ∀ p, H p = none → Q (.ref p) (upd H p (.dK []))
def tDNewT : TE := fun _ H Q => ∀ p, H p = none → Q (.ref p) (upd H p (.dT []))
section
variable {X : Cx} {pos : Pos}
end


def tPairs : List (TE × TE) → St → Hp → (List (V × V) → Hp → Prop) → Prop
  | [], _, H, Q => Q [] H
  | (tk, tv) :: r, σ, H, Q => tk σ H fun x H1 => tv σ H1 fun y H2 => tPairs r σ H2 fun ps H3 => Q ((x, y) :: ps) H3
abbrev VV : List (V × V) → List (Value × Value) → Prop := Paired fun p q => RelV p.1 q.1 ∧ RelV p.2 q.2
def PPs (X : Cx) (pos : Pos) (keys : List (Option Expr)) (values : List Expr) (trs : List (TE × TE)) : Prop :=
  ∀ (pins : List (Addr × Obj)) (s : Shared) (σ : St) (H : Hp) (Q : List (V × V) → Hp → Prop), Inv X pins σ H s → tPairs trs σ H Q →
    wpAny (model X.prog X.w) X.A (evalPairs (pairTrees keys values X.env pos)) (fun vs s' => ∃ ps H', Inv X pins σ H' s' ∧ VV ps vs ∧ Q ps H') X.xe s
def mergeK (kvs more : List (Key × V)) : List (Key × V) := more.foldl (fun acc kv => putK acc kv.1 kv.2) kvs
def tDisp (trs : List (TE × TE)) : TE := fun σ H Q => ∀ p, H p = none → tPairs trs σ (upd H p (.dK [])) fun ps H2 => H2 p = some (.dK []) ∧ ∃ kvs : List (Key × V), ps = kvs.map (fun kv => (kV kv.1, kv.2)) ∧ kvs.length ≤ 15 ∧ Q (.ref p) (upd H2 p (.dK (mergeK [] kvs)))
structure M1 (X : Cx) (o : Expr) (m : Str) (apos : Pos) (e : Expr) (cpos : Pos) : Prop where
  base : attributeBase o m X.env (eval o X.env) = eval o X.env
  few : ((backTo cpos (starEach [e] X.env)).all (fun x => !x.1) && (backToKw cpos (keywordEach [] X.env)).all (fun x => x.1.isSome)
    && decide (([e] : List Expr).length + ([] : List Keyword).length + (if ([] : List Keyword).isEmpty then 0 else 1) < 30)) = true
  line : (apos.endLine == cpos.line) = true
  trees : backTo cpos (starEach [e] X.env) = [(false, eval e X.env)]
structure M2 (X : Cx) (o : Expr) (m : Str) (apos : Pos) (e f : Expr) (cpos : Pos) : Prop where
  base : attributeBase o m X.env (eval o X.env) = eval o X.env
  few : ((backTo cpos (starEach [e, f] X.env)).all (fun x => !x.1) && (backToKw cpos (keywordEach [] X.env)).all (fun x => x.1.isSome)
    && decide (([e, f] : List Expr).length + ([] : List Keyword).length + (if ([] : List Keyword).isEmpty then 0 else 1) < 30)) = true
  line : (apos.endLine == cpos.line) = true
  trees : backTo cpos (starEach [e, f] X.env) = [(false, eval e X.env), (false, eval f X.env)]


def IsD (H : Hp) (a : Addr) : Prop := (∃ kvs, Rd H a (.dK kvs)) ∨ ∃ kvs, Rd H a (.dT kvs)
section
variable {X : Cx} {pins : List (Addr × Obj)} {σ : St} {H : Hp} {s : Shared} {a : Addr} {y d : V} {u r : Value} {o : Option V} {A : Around} {E : Value → Shared → Prop}

end

def tDGet1 (td ty : TE) : TE := fun σ H Q => td σ H fun x H1 => ∃ a, x = .ref a ∧ IsD H1 a ∧ ty σ H1 fun y H2 => ∃ o, DGet H2 a y o ∧ Q (o.getD .non) H2
def tDGet2 (td ty tx : TE) : TE := fun σ H Q => td σ H fun x H1 => ∃ a, x = .ref a ∧ IsD H1 a ∧ ty σ H1 fun y H2 => tx σ H2 fun z H3 => ∃ o, DGet H3 a y o ∧ Q (o.getD z) H3

def tDPop1 (td ty : TE) : TE := fun σ H Q => td σ H fun x H1 => ∃ a, x = .ref a ∧ IsD H1 a ∧ ty σ H1 fun y H2 => ∃ kvs k v, H2 a = some (.dK kvs) ∧ y = kV k ∧ valV kvs k = some v ∧ Q v (upd H2 a (.dK (dropK kvs k)))
def tDPop2 (td ty tx : TE) : TE := fun σ H Q => td σ H fun x H1 => ∃ a, x = .ref a ∧ IsD H1 a ∧ ty σ H1 fun y H2 => tx σ H2 fun z H3 => ∃ kvs k, H3 a = some (.dK kvs) ∧ y = kV k ∧
  (∀ v, valV kvs k = some v → Q v (upd H3 a (.dK (dropK kvs k)))) ∧ (valV kvs k = none → Q z H3)
section
variable {X : Cx} {o e f : Expr} {apos cpos : Pos} {td ty tx : TE}
end


section
variable {X : Cx} {pins : List (Addr × Obj)} {σ : St} {H : Hp} {s : Shared} {a : Addr} {kvs : List (Key × V)} {A : Around} {E : Value → Shared → Prop}
end


section
variable {X : Cx} {pins : List (Addr × Obj)} {σ : St} {H : Hp} {s : Shared} {a : Addr} {y : V} {u : Value} {A : Around} {E : Value → Shared → Prop}

end
end L2

namespace L2
open PySem PySem.Spec PyProof.Rows

section
variable {prog : Program} {w : World} {A : Around} {E : Value → Shared → Prop}

end

section
variable {X : Cx}
end
end L2

namespace L2
open PySem PySem.Spec PyProof.Rows

section
variable {X : Cx} {pins : List (Addr × Obj)} {σ : St} {H : Hp} {s : Shared} {h' : Heap}

end

def tLock (t : TS) : TS := fun D σ H => ∃ d u, H d = some u ∧ Mut (some u) ∧ ∀ od, t ⟨fun σ' H' => H' d = some (.frz od u) ∧ D.nx σ' (upd H' d u), fun v H' => H' d = some (.frz od u) ∧ D.rt v (upd H' d u), fun σ' H' => H' d = some (.frz od u) ∧ D.bk σ' (upd H' d u), fun σ' H' => H' d = some (.frz od u) ∧ D.ct σ' (upd H' d u)⟩ σ (upd H d (.frz od u))
def tLockE (t : TE) : TE := fun σ H Q => ∃ d u, H d = some u ∧ Mut (some u) ∧ ∀ od, t σ (upd H d (.frz od u)) fun v H' => H' d = some (.frz od u) ∧ Q v (upd H' d u)
section
variable {X : Cx}
theorem pi_one {tg : Expr} {pins : List (Addr × Obj)} {σ : St} {H : Hp} {s : Shared} {R : It → Hp → Prop} {J : It} {tn : Nat → Heap → Prop} {tk : Nat} (I : Inv X pins σ H s) (o : Obj)
    (T : Turn X.prog X.w X.K tg J [s.heap.objs.size] s.heap.objs.size tn) (st : tn 0 (s.heap.push o)) (q : R J H) : PIE X pins σ tg R (.ref s.heap.objs.size) { s with heap := s.heap.push o, toks := tk } := by
  refine ⟨s.heap.objs.size, [s.heap.objs.size], tn, J, H, rfl, I.kept fun b ob e => Heap.get?_push_of_some _ e, T, st, fun b hb => ?_, q⟩
  have e : b = s.heap.objs.size := by simpa using hb
  subst e
  exact I.fpOk (Nat.le_refl _) (I.hok.fresh (Nat.le_refl _))
end



def Itc (lo c : Int) (n : Nat) : It := ⟨fun i _ => i < n, fun i H x H' => H' = H ∧ x = .int (lo + (i : Nat) * c), fun i _ => n ≤ i⟩
theorem turn_rangeC {P : Program} {w : World} {K : PySem.W.Frag} {tg : Expr} (it : Addr) (lo c : Int) (n : Nat) : Turn P w K tg (Itc lo c n) [it] it (fun i h => IsRangeIter h it (lo + (i : Nat) * c) ((n : Int) - (i : Nat)) c) where
  mem := by simp
  obj := fun i h st b hb => by
    have e : b = it := by simpa using hb
    subst e
    exact ⟨_, st, fun v z => nomatch z⟩
  keep := fun i h h' st k => k it (by simp) _ st
  item := by
    intro X hP hw hK hc i pins s σ H E I hf st hg
    subst hP hw hK
    obtain ⟨f0, f1, f2, f3, f4, f5⟩ := hf it (by simp)
    have W := Walks.range (prog := X.prog) (w := X.w) (I.ok.hd hc) it lo c n
    refine W.item i s _ _ hg st fun v h' tk hv st' kk => ?_
    obtain ⟨t, rfl⟩ := hv
    have I1 : Inv X pins σ H { s with heap := h', toks := tk } := I.turned (fun b o hb e => kk b o (by simpa using hb) e) f0 f1 f3 f4 f5
    exact ⟨_, rfl, go_of (s := { s with heap := h', toks := tk }) (n := "range_iterator") st' rfl rfl (by decide) ⟨.int (lo + (i : Nat) * c), H, I1, ⟨t, rfl⟩, ⟨rfl, rfl⟩, st', fun b hb => (hf b hb).1⟩⟩
  done := by
    intro X hP hw hK hc i pins s σ H E I hf st hg
    subst hP hw hK
    obtain ⟨f0, f1, f2, f3, f4, f5⟩ := hf it (by simp)
    exact wpAny_pyNext_range_end (I.ok.hd hc) st (by have : n ≤ i := hg; omega) fun h' eb => ⟨rfl, I.turned (t' := s.toks) (fun b o hb e => eb b o hb e) f0 f1 f3 f4 f5⟩
  self := fun A i s Q E st h => wpAny_pyIter_rangeiter st h

def RgC (i j c : Int) (n : Nat) : Prop := c ≠ 0 ∧ c.natAbs < 1073741824 ∧ Builtin.Range.small i j c = true ∧ Builtin.Range.rangeSize i j c = n
def iRng3 (ta : TA) : TI := fun σ H R => ta σ H fun vs H1 => ∃ (i j c : Int) (n : Nat), vs = [.int i, .int j, .int c] ∧ RgC i j c n ∧ R (Itc i c n) H1
section
variable {X : Cx} {tg : Expr}
theorem pi_range3 {a b c : Expr} {ta : TA} {p pos : Pos} (hg : Gl X "range") (hm : X.mg "range" = none) (ha : PA X [a, b, c] ta)
    (hs : starEach [a, b, c] X.env = (false, eval a X.env) :: starEach [b, c] X.env := by rfl) (hpl : (backTo pos (starEach [b, c] X.env)).any (·.1) = false := by rfl) :
    PI X tg (.Call (.Name "range" p) [a, b, c] [] pos) (iRng3 ta) := by
  intro pins s σ H R I h
  refine Call_ (ld_blt I hg hm boot_range (PyProof.Rows.callWith_type1 (thn (ha pos pins s σ H _ I h) fun us s1 ⟨vs, H1, I1, r1, q1⟩ => ?_) hs hpl))
  obtain ⟨i, j, k, n, e, ⟨c0, c1, c2, c3⟩, q⟩ := q1
  subst e
  cases r1 with
  | cons r rr =>
    cases rr with
    | cons r' rr =>
      cases rr with
      | cons r'' rr =>
        cases rr
        obtain ⟨t, rfl⟩ := r
        obtain ⟨t', rfl⟩ := r'
        obtain ⟨t'', rfl⟩ := r''
        refine call_range_3 c0 ?_ (.inl (PyProof.noPylong_small c1))
        refine wpAny_pyIter_range (IsRange.new ..) c2 ?_
        have I2 : Inv X pins σ H1 { s1 with heap := s1.heap.push { cls := .type "range", data := .fields #[.int i t, .int j t', .int k t''] } } := I1.kept (t' := s1.toks) fun b o e => Heap.get?_push_of_some _ e
        refine pi_one (tk := s1.toks) I2 _ (turn_rangeC _ i k n) ?_ q
        have e1 : i + ((0 : Nat) : Int) * k = i := by simp
        have e2 : (n : Int) - ((0 : Nat) : Int) = Builtin.Range.rangeSize i j k := by rw [c3]; simp
        show IsRangeIter _ _ (i + ((0 : Nat) : Int) * k) ((n : Int) - ((0 : Nat) : Int)) k
        rw [e1, e2]
        exact Heap.get?_push_size _ rfl
end

theorem for_rangeC {lo c : Int} {n : Nat} {g : TG} {tb : TS} {D : Ends} {σ : St} {H : Hp} (Pv : Nat → St → Hp → Prop) (h0 : Pv 0 σ H)
    (hs : ∀ i σ H, i < n → Pv i σ H → g (.int (lo + (i : Nat) * c)) σ H fun σ2 H2 => tb { D with nx := Pv (i + 1), ct := Pv (i + 1), bk := D.nx } σ2 H2) (hd : ∀ σ H, Pv n σ H → D.nx σ H) :
    ∃ W : Nat → Nat → St → Hp → Prop, (∃ m, W 0 m σ H) ∧ ∀ i m σ H, W i m σ H →
      ((Itc lo c n).stop i H ∧ D.nx σ H) ∨ ((Itc lo c n).go i H ∧ ∃ N : St → Hp → Prop, (∀ σ' H', N σ' H' → ∃ m', m' < m ∧ W (i + 1) m' σ' H') ∧ ∀ x H', (Itc lo c n).yld i H x H' → g x σ H' fun σ2 H2 => tb { D with nx := N, ct := N, bk := D.nx } σ2 H2) := by
  refine ⟨fun i m σ H => m = n - i ∧ i ≤ n ∧ Pv i σ H, ⟨n, by simp, Nat.zero_le _, h0⟩, ?_⟩
  rintro i m σ H ⟨rfl, hi, p⟩
  by_cases hlt : i < n
  · refine .inr ⟨hlt, Pv (i + 1), fun σ' H' p' => ⟨n - (i + 1), by omega, rfl, hlt, p'⟩, fun x H' y => ?_⟩
    obtain ⟨e, y⟩ := y
    subst e y
    exact hs i σ _ hlt p
  · have e : i = n := by omega
    subst e
    exact .inl ⟨Nat.le_refl _, hd σ H p⟩



def Itv (K : PySem.W.Frag) (a : Addr) (n : Nat) : It :=
  ⟨fun i H => i < n ∧ ∃ (xs : List V) (x : V), SqL K H a xs ∧ xs[n - 1 - i]? = some x, fun i H x H' => H' = H ∧ ∀ xs, SqL K H a xs → xs[n - 1 - i]? = some x, fun i _ => n ≤ i⟩
def iRev (K : PySem.W.Frag) (ta : TA) : TI := fun σ H R => ta σ H fun vs H1 => ∃ (a : Addr) (xs : List V), vs = [.ref a] ∧ SqL K H1 a xs ∧ R (Itv K a xs.length) H1
section
variable {X : Cx} {tg : Expr}
end


def Its (x : Str) : It := ⟨fun i _ => i < x.cps.size, fun i H v H' => H' = H ∧ ∃ c, x.cps[i]? = some c ∧ v = .str ⟨#[c]⟩, fun i _ => x.cps.size ≤ i⟩
def iStr (te : TE) : TI := fun σ H R => te σ H fun v H1 => ∃ x, v = .str x ∧ R (Its x) H1
section
variable {prog : Program} {w : World} {A : Around} {E : Value → Shared → Prop} {s : Shared}
end


section
variable {X : Cx} {pins : List (Addr × Obj)} {σ : St} {H : Hp} {s : Shared} {d : Addr} {o : Obj}
end


def Itk (d : Addr) (o : Obj) (kvs : List (Key × V)) : It :=
  ⟨fun i H => H d = some (.frz o (.dK kvs)) ∧ i < kvs.length, fun i H x H' => H' = H ∧ ∃ k v, kvs[i]? = some (k, v) ∧ x = kV k, fun i H => H d = some (.frz o (.dK kvs)) ∧ kvs.length ≤ i⟩

def Itkt (d : Addr) (o : Obj) (kvs : List (List Key × V)) : It :=
  ⟨fun i H => H d = some (.frz o (.dT kvs)) ∧ i < kvs.length, fun i H x H' => H' = H ∧ ∃ (k : List Key) (v : V) (q : Addr), kvs[i]? = some (k, v) ∧ x = .ref q ∧ H q = some (.tup (k.map kV)), fun i H => H d = some (.frz o (.dT kvs)) ∧ kvs.length ≤ i⟩

def Itd (d : Addr) (o : Obj) (kvs : List (Key × V)) : It :=
  ⟨fun i H => H d = some (.frz o (.dK kvs)) ∧ i < kvs.length, fun i H x H' => H' = H ∧ ∃ k, kvs[i]? = some (k, x), fun i H => H d = some (.frz o (.dK kvs)) ∧ kvs.length ≤ i⟩

def Iti (d : Addr) (o : Obj) (kvs : List (Key × V)) : It :=
  ⟨fun i H => H d = some (.frz o (.dK kvs)) ∧ i < kvs.length, fun i H x H' => ∃ T k v, kvs[i]? = some (k, v) ∧ x = .ref T ∧ H T = none ∧ H' = upd H T (.tup [kV k, v]), fun i H => H d = some (.frz o (.dK kvs)) ∧ kvs.length ≤ i⟩
section
variable {P : Program} {w : World} {K : PySem.W.Frag} {tg : Expr} {d : Addr} {o : Obj} {es : Array DictEntry} {ep : Nat}
end



def iKeys (td : TE) : TI := fun σ H R => td σ H fun x H1 => ∃ d o, x = .ref d ∧ ((∃ kvs, H1 d = some (.frz o (.dK kvs)) ∧ R (Itk d o kvs) H1) ∨ ∃ kvs, H1 d = some (.frz o (.dT kvs)) ∧ R (Itkt d o kvs) H1)
def iVals (td : TE) : TI := fun σ H R => td σ H fun x H1 => ∃ d o kvs, x = .ref d ∧ H1 d = some (.frz o (.dK kvs)) ∧ R (Itd d o kvs) H1
def iItems (td : TE) : TI := fun σ H R => td σ H fun x H1 => ∃ d o kvs, x = .ref d ∧ H1 d = some (.frz o (.dK kvs)) ∧ R (Iti d o kvs) H1
def iKeysM (td : TE) : TI := fun σ H R => td σ H fun x H1 => ∃ d o kvs, x = .ref d ∧ H1 d = some (.frz o (.dK kvs)) ∧ R (Itk d o kvs) H1
section
variable {X : Cx} {tg e : Expr} {td : TE} {apos cpos : Pos}
end



def Ite (K : PySem.W.Frag) (a : Addr) : It :=
  ⟨fun i H => ∃ (xs : List V) (x : V), SqL K H a xs ∧ xs[i]? = some x, fun i H v H' => ∃ T x, v = .ref T ∧ H T = none ∧ H' = upd H T (.tup [.int (i : Nat), x]) ∧ ∀ xs, SqL K H a xs → xs[i]? = some x, fun i H => ∃ xs : List V, SqL K H a xs ∧ xs.length ≤ i⟩
def iEnum (K : PySem.W.Frag) (ta : TA) : TI := fun σ H R => ta σ H fun vs H1 => ∃ a xs, vs = [.ref a] ∧ SqL K H1 a xs ∧ R (Ite K a) H1
def Itz (K : PySem.W.Frag) (a b : Addr) : It :=
  ⟨fun i H => ∃ (xs ys : List V) (x y : V), SqL K H a xs ∧ SqL K H b ys ∧ xs[i]? = some x ∧ ys[i]? = some y,
    fun i H v H' => ∃ T x y, v = .ref T ∧ H T = none ∧ H' = upd H T (.tup [x, y]) ∧ (∀ xs, SqL K H a xs → xs[i]? = some x) ∧ ∀ ys, SqL K H b ys → ys[i]? = some y,
    fun i H => ∃ xs ys : List V, SqL K H a xs ∧ SqL K H b ys ∧ (xs.length ≤ i ∨ ys.length ≤ i)⟩
def iZip (K : PySem.W.Frag) (ta : TA) : TI := fun σ H R => ta σ H fun vs H1 => ∃ a b xs ys, vs = [.ref a, .ref b] ∧ SqL K H1 a xs ∧ SqL K H1 b ys ∧ R (Itz K a b) H1
end L2

section 
namespace Bits
open PySem PyProof.Rows

end Bits
end 

section 
namespace TL
open PySem PySem.Builtin PySem.Builtin.Str PySem.StrLaws

abbrev tl (x : Str) : List Nat := x.cps.toList
def pre (S l : List Nat) : Bool := l.take S.length == S

def spl (S : List Nat) : Nat → List Nat → List Nat → List (List Nat)
  | _, acc, [] => [acc]
  | 0, acc, c :: r => if pre S (c :: r) = true then acc :: spl S (S.length - 1) [] r else spl S 0 (acc ++ [c]) r
  | k + 1, acc, _ :: r => spl S k acc r

def par (S : List Nat) : List Nat → List Nat → Option (List Nat × List Nat)
  | _, [] => none
  | acc, c :: r => if pre S (c :: r) = true then some (acc, (c :: r).drop S.length) else par S (acc ++ [c]) r

def joinL (S : List Nat) : List (List Nat) → List Nat
  | [] => []
  | [p] => p
  | p :: q :: r => p ++ (S ++ joinL S (q :: r))
def numL (n : Nat) : List Nat := (Nat.toDigits 10 n).map Char.toNat
def wstep (st : List (List Nat) × List Nat) (c : Nat) : List (List Nat) × List Nat :=
  if Unicode.isSpace c = true then (if st.2 = [] then st else (st.1 ++ [st.2], [])) else (st.1, st.2 ++ [c])
def wfin (st : List (List Nat) × List Nat) : List (List Nat) := if st.2 = [] then st.1 else st.1 ++ [st.2]
end TL
end 

namespace L2
open PySem PySem.Spec PyProof.Rows

def rNewStrs (ys : List Str) : Hp → VK → Prop := fun H Q => ∀ p, H p = none → Q (.ref p) (upd H p (.lst (ys.map V.str)))

section
variable {X : Cx} {pins : List (Addr × Obj)} {σ : St} {H : Hp} {s : Shared} {Q : VK}
end

section
variable {X : Cx}


end

section
variable {X : Cx} {o e : Expr} {to te : TE}
def tM0 (r : V → List V → Hp → VK → Prop) (to : TE) : TE := fun σ H Q => to σ H fun x H1 => (∃ a, x = .str a) ∧ r x [] H1 Q
def tM1 (r : V → List V → Hp → VK → Prop) (to te : TE) : TE := fun σ H Q => to σ H fun x H1 => (∃ a, x = .str a) ∧ te σ H1 fun y H2 => r x [y] H2 Q
end
end L2

namespace L2
open PySem PySem.Spec PyProof.Rows

section
variable {X : Cx}
end


def clipS (n d : Nat) : Option Int → Int
  | none => (d : Int)
  | some i => max 0 (min (if i < 0 then i + (n : Int) else i) (n : Int))
def cutS (z : Str) (lo hi : Option Int) : Str :=
  ⟨((z.cps.toList.drop (HT.sIx z.length 0 lo)).take (HT.sIx z.length z.length hi - HT.sIx z.length 0 lo)).toArray⟩
def rSlS : V → Option Int → Option Int → Hp → VK → Prop := fun x lo hi H Q => ∃ z, x = .str z ∧ z.length ≤ sizeLine ∧ Q (.str (cutS z lo hi)) H
end L2

namespace Att
open PySem PySem.W PySem.Calls PyProof.Rows


section
variable {prog : Program} {w : World} {A : Around} {E : Value → Shared → Prop} {s : Shared} {K : Frag}


def noObjs (h : Heap) : Heap := { h with objs := #[] }
def ledger (h : Heap) (L d : Addr) : List (Addr × Obj) := (List.range h.objs.size).filterMap fun a => if a = L ∨ a = d then none else (h.get? a).map fun o => (a, o)
end
end Att

namespace L2
open PySem PySem.Spec PyProof.Rows

def Only (H : Hp) : Prop := ∀ b, H b = none ∨ ∃ o xs, H b = some (.frz o (.lst xs))


end L2

namespace L2
open PySem PySem.Spec PyProof.Rows

abbrev KOf {K : PySem.W.Frag} {h : Heap} (_ : K.In h) : PySem.W.Frag := K


end L2




namespace L2
open PySem PySem.Spec PyProof.Rows



def inClass (s : Stmt) (j : Nat) : Stmt := match s with
  | .ClassDef _ _ _ body _ _ _ _ _ _ _ => body.getD j (.Pass ⟨0, 0, 0, 0⟩)
  | _ => .Pass ⟨0, 0, 0, 0⟩
def defArgs (s : Stmt) : Arguments := match s with
  | .FunctionDef _ a _ _ _ _ _ _ _ _ => a
  | _ => { posonlyargs := [], args := [], vararg := none, kwonlyargs := [], kw_defaults := [], kwarg := none, defaults := [] }
def defBody (s : Stmt) : List Stmt := match s with
  | .FunctionDef _ _ b _ _ _ _ _ _ _ => b
  | _ => []
def defScope (s : Stmt) : Scope := match s with
  | .FunctionDef _ _ _ _ _ _ sc _ _ _ => sc
  | _ => { kind := .function, names := [], isGenerator := false, isCoroutine := false }


abbrev CX0 : CXT := fun _ _ _ _ _ _ => False
abbrev E0 : XK := fun _ _ _ => False
theorem pass0 {X : Cx} : Passes CX0 X E0 := fun _ _ _ _ _ _ _ h => h.elim


structure Fun (K : PySem.W.Frag) (x qual : Str) (st : Stmt) (f : Addr) (fd : FuncData) : Prop where
  ex : ∃ (oc : Value) (od : Option Addr) (kV doc pm : Value) (an : Option Addr) (cdv ct : Value) (osl : Array (Option Value)),
    fd = PySem.W.fnOf x qual (defArgs st) (defBody st) (defScope st) .none kV doc pm an cdv ct ∧ K.lookup f = some ⟨oc, od, .func fd, osl⟩ ∧ PySem.W.codeIn K cdv qual = true
  kp : PySem.W.keepIn K (.ref f) = true
section
variable {P : Program} {w : World} {K : PySem.W.Frag} {mg : Str → Option Value} {base : Heap}

theorem Fun.ok {x qual : Str} {st : Stmt} {f : Addr} {fd : FuncData} {N ps : List Str} {k : Nat} {sp : Sp} (F : Fun K x qual st f fd) (S : FnScope N ps (defScope st)) (len : ∀ vs H Q E, sp vs H Q E → vs.length = ps.length)
    (hbody : ∀ (cdv : Value) (A : Around) (outer : List Env) (s : Shared) (H : Hp) (vs : List V) (Q : VK) (E : XK), Room k (A.deeper (envOfC qual (defScope st) s.heap.objs.size f cdv)) → sp vs H Q E →
      ∃ t, PSs (cxOf CX0 P w K mg base N qual (defScope st) f cdv A outer s H E).nox (defBody st) t ∧ t { nx := fun _ H' => Q .non H', rt := Q } (start N vs) H) : FnOk P w K mg base CX0 (k + 1) f fd ps sp := by
  obtain ⟨oc, od, kV, doc, pm, an, cdv, ct, osl, rfl, lk, hcd⟩ := F.ex
  refine fn_of lk hcd S len fun A outer s H vs Q E hr hsp => ?_
  obtain ⟨t, h, q⟩ := hbody cdv A outer s H vs Q E hr hsp
  exact ⟨t, h.nox, q⟩

theorem Fun.binds {x qual : Str} {st : Stmt} {f : Addr} {fd : FuncData} {ps : List Str} (F : Fun K x qual st f fd)
    (h : ∀ (kV doc pm : Value) (an : Option Addr) (cdv ct : Value) (us : List Value), us.length = ps.length → bindArgs (PySem.W.fnOf x qual (defArgs st) (defBody st) (defScope st) .none kV doc pm an cdv ct) ⟨us, []⟩ = pure (ps.zip us)) : Binds K fd ps [] := by
  obtain ⟨oc, od, kV, doc, pm, an, cdv, ct, osl, rfl, lk, hcd⟩ := F.ex
  exact .all (h kV doc pm an cdv ct)
theorem fun_mk {x qual : Str} {st : Stmt} {f : Addr} {oc : Value} {od an : Option Addr} {osl : Array (Option Value)} {kV doc pm cdv ct : Value} (l : K.lookup f = some ⟨oc, od, .func (PySem.W.fnOf x qual (defArgs st) (defBody st) (defScope st) .none kV doc pm an cdv ct), osl⟩)
    (c : PySem.W.codeIn K cdv qual = true) (k : PySem.W.keepIn K (.ref f) = true) : Fun K x qual st f (PySem.W.fnOf x qual (defArgs st) (defBody st) (defScope st) .none kV doc pm an cdv ct) := ⟨⟨oc, od, kV, doc, pm, an, cdv, ct, osl, rfl, l, c⟩, k⟩
end
section
variable {X : Cx}
theorem pv (i : Nat) {x : Str} {pos : Pos} (hN : X.N[i]? = some x := by rfl) (hv : Vis X.env.scope x := by first | exact Or.inl rfl | exact Or.inr (Or.inl rfl) | exact Or.inr (Or.inr rfl)) (hd : (x == ("__debug__" : Str)) = false := by decide)
    (hcd : (x == ("__classdict__" : Str)) = false := by decide) : PE X (.Name x pos) (tVar i) := pe_var hN hv hd hcd

end


theorem iteF {A B : Prop} (h : B) : if false = true then A else B := by
  rw [if_neg Bool.false_ne_true]
  exact h
theorem iteT {A B : Prop} (h : A) : if true = true then A else B := by
  rw [if_pos rfl]
  exact h
theorem ite2 {c A B : Prop} [Decidable c] (h1 : c → A) (h2 : ¬ c → B) : if c then A else B := by
  by_cases h : c
  · rw [if_pos h]
    exact h1 h
  · rw [if_neg h]
    exact h2 h
theorem iteNS {c A B : Prop} [Decidable c] (hc : c) (h : B) : if (!decide c) = true then A else B := by
  rw [decide_eq_true hc]
  exact iteF h



def Same (H H' : Hp) : Prop := ∀ b o, H b = some o → H' b = some o
theorem Same.refl (H : Hp) : Same H H := fun _ _ h => h
theorem Same.trans {H H1 H2 : Hp} (a : Same H H1) (b : Same H1 H2) : Same H H2 := fun c o h => b c o (a c o h)
theorem Same.free {H H' : Hp} (e : Same H H') {l : Addr} (h : H' l = Option.none) : H l = Option.none := by
  cases q : H l with
  | none => rfl
  | some o =>
    rw [e l o q] at h
    cases h
theorem Same.seq {K : PySem.W.Frag} {H H' : Hp} {a : Addr} {xs : List V} (e : Same H H') (h : SqL K H a xs) : SqL K H' a xs := by
  rcases h with (h | ⟨o, h⟩) | h
  · exact .inl (.inl (e _ _ h))
  · exact .inl (.inr ⟨o, e _ _ h⟩)
  · exact .inr h


section
variable {κ : Type} [DecidableEq κ]
end

theorem at_of {xs : List V} {z : Int} {j : Nat} {v : V} (e : z = (j : Int)) (h : xs[j]? = some v) : atI xs z = some v := by
  rw [e]
  exact atI_nat h
theorem Same.made {H H1 : Hp} {x dx C : Addr} (nx : H x = Option.none) (nd : H dx = Option.none) (k : ∀ b o, (upd (upd H dx (.own x)) x (.ins C dx [])) b = some o → b ≠ x → H1 b = some o) : Same H H1 := fun b o e =>
  k b o (by rw [upd_ne (ne_of_none e nx), upd_ne (ne_of_none e nd)]; exact e) (ne_of_none e nx)
end L2


end
section
set_option Elab.async false
set_option linter.all false
set_option maxRecDepth 100000
set_option maxHeartbeats 2000000
namespace L2
open PySem PySem.Spec PyProof.Rows
open PySem.W (WData Codec OpenSpec Well WellAll ReadsW ReadsAllW)
/-! ### an answer as data -/
mutual
/-- x stands for the datum d, lists and tuples all the way -/
inductive Dw (K : PySem.W.Frag) (H : Hp) : V → WData → Prop
  | non : Dw K H .non .none
  | bl (b : Bool) : Dw K H (.bl b) (.bool b)
  | int (i : Int) : Dw K H (.int i) (.int i)
  | str (x : Str) : Dw K H (.str x) (.str x)
  | byt (b : Array UInt8) : Dw K H (.byt b) (.bytes b.toList)
  | lst {a : Addr} {xs : List V} {ds : List WData} : SqL K H a xs → DwAll K H xs ds → Dw K H (.ref a) (.list ds)
  | tup {a : Addr} {xs : List V} {ds : List WData} : SqT K H a xs → DwAll K H xs ds → Dw K H (.ref a) (.tuple ds)
inductive DwAll (K : PySem.W.Frag) (H : Hp) : List V → List WData → Prop
  | nil : DwAll K H [] []
  | cons {v : V} {vs : List V} {d : WData} {ds : List WData} : Dw K H v d → DwAll K H vs ds → DwAll K H (v :: vs) (d :: ds)
end
theorem dw_ints {K : PySem.W.Frag} {H : Hp} : ∀ ns : List Int, DwAll K H (ns.map V.int) (ns.map WData.int)
  | [] => .nil
  | n :: r => .cons (.int n) (dw_ints r)
theorem ints_dw {K : PySem.W.Frag} {H : Hp} : ∀ (ns : List Int) (xs : List V), DwAll K H xs (ns.map WData.int) → xs = ns.map V.int
  | [], xs, h => by
    cases h
    rfl
  | n :: r, xs, h => by
    cases h with
    | cons h1 h2 =>
      cases h1
      rw [ints_dw r _ h2] <;> rfl
section
variable {P : Program} {w : World} {K : PySem.W.Frag} {H : Hp} {h : Heap} {R : PySem.W.WRecords} {cl : Str → Option Addr}
theorem sqL_at {a : Addr} {xs : List V} (hok : HOk P w H h) (KX : K.In h) (q : SqL K H a xs) : ∃ (its : List Value) (o : Obj) (n : Nat), Vals xs its ∧ h.get? a = some o ∧ o.cls = .type "list" ∧ o.data = .seq its.toArray n := by
  rcases q with q | ⟨o, its, n, e, hc, _, hd, _, hv⟩
  · obtain ⟨_, its, n, hv, e⟩ := (show ObjOk P w H h a (.lst xs) from q.ok hok)
    exact ⟨its, _, n, hv, e, rfl, rfl⟩
  · exact ⟨its.toList, o, n, hv, KX _ _ e, hc, by simp [hd]⟩
theorem sqT_at {a : Addr} {xs : List V} (hok : HOk P w H h) (KX : K.In h) (q : SqT K H a xs) : ∃ (its : List Value) (o : Obj) (n : Nat), Vals xs its ∧ h.get? a = some o ∧ o.cls = .type "tuple" ∧ o.data = .seq its.toArray n := by
  rcases q with q | ⟨o, its, n, e, hc, hd, _, hv⟩
  · obtain ⟨_, its, hv, o, e, hc, n, hd⟩ := (show ObjOk P w H h a (.tup xs) from q.ok hok)
    exact ⟨its, o, n, hv, e, hc, hd⟩
  · exact ⟨its.toList, o, n, hv, KX _ _ e, hc, by simp [hd]⟩
mutual
theorem Dw.reads (hok : HOk P w H h) (KX : K.In h) : ∀ (d : WData) (v : V) (u : Value), Dw K H v d → RelV v u → ∃ as, ReadsW R cl h u d as
  | .none, _, _, x, r => by
    cases x
    cases r
    exact ⟨_, ReadsW.none⟩
  | .bool b, _, _, x, r => by
    cases x
    cases r
    exact ⟨_, ReadsW.bool b⟩
  | .int i, _, _, x, r => by
    cases x
    obtain ⟨t, rfl⟩ := r
    exact ⟨_, ReadsW.int i t⟩
  | .str s, _, _, x, r => by
    cases x
    obtain ⟨t, rfl⟩ := r
    exact ⟨_, ReadsW.str s t⟩
  | .bytes b, _, _, x, r => by
    cases x
    obtain ⟨t, rfl⟩ := r
    exact ⟨_, ReadsW.bytes _ t⟩
  | .list ds, _, _, x, r => by
    cases x with
    | lst hs ha =>
      cases r
      obtain ⟨its, o, n, rv, ho, hc, hd⟩ := sqL_at hok KX hs
      obtain ⟨as, hr⟩ := Dw.readsAll hok KX ds _ its ha rv
      exact ⟨_, ReadsW.list ho hc hd hr⟩
  | .tuple ds, _, _, x, r => by
    cases x with
    | tup hs ha =>
      cases r
      obtain ⟨its, o, n, rv, ho, hc, hd⟩ := sqT_at hok KX hs
      obtain ⟨as, hr⟩ := Dw.readsAll hok KX ds _ its ha rv
      exact ⟨_, ReadsW.tuple ho hc hd hr⟩
  | .float _, _, _, x, _ => by cases x
  | .dict _, _, _, x, _ => by cases x
  | .bytearray _, _, _, x, _ => by cases x
  | .set _, _, _, x, _ => by cases x
  | .frozenset _, _, _, x, _ => by cases x
  | .obj _ _, _, _, x, _ => by cases x
theorem Dw.readsAll (hok : HOk P w H h) (KX : K.In h) : ∀ (ds : List WData) (vs : List V) (us : List Value), DwAll K H vs ds → Vals vs us → ∃ as, ReadsAllW R cl h us ds as
  | [], _, _, x, r => by
    cases x
    cases r
    exact ⟨_, ReadsAllW.nil⟩
  | d :: ds, _, _, x, r => by
    cases x with
    | cons h1 h2 =>
      cases r with
      | cons r1 r2 =>
        obtain ⟨as, q1⟩ := Dw.reads hok KX d _ _ h1 r1
        obtain ⟨bs, q2⟩ := Dw.readsAll hok KX ds _ _ h2 r2
        exact ⟨_, ReadsAllW.cons q1 q2⟩
end
end
/-! ### the arguments -/
mutual
/-- data that a codec tells -/
def plW : WData → Bool
  | .none => true
  | .bool _ => true
  | .int _ => true
  | .str _ => true
  | .bytes _ => true
  | .list xs => plWs xs
  | .tuple xs => plWs xs
  | _ => false
def plWs : List WData → Bool
  | [] => true
  | x :: r => plW x && plWs r
end
theorem plWs_map {α : Type} {f : α → WData} (h : ∀ a, plW (f a) = true) : ∀ l : List α, plWs (l.map f) = true
  | [] => rfl
  | x :: r => by
    show (plW (f x) && plWs (r.map f)) = true
    rw [h x, plWs_map h r] <;> rfl
theorem pl_enc : ∀ (c : Codec) (a : c.denote), plW (c.enc a) = true
  | .unit, _ => rfl
  | .bool, _ => rfl
  | .int _ _, _ => rfl
  | .nat _ _, _ => rfl
  | .u8, _ => rfl
  | .bytes _ _, _ => rfl
  | .text _ _ _ _, _ => rfl
  | .list _ _ c, a => plWs_map (fun x => pl_enc c x) a
  | .pair c d, a => by
    show (plW (c.enc a.1) && (plW (d.enc a.2) && true)) = true
    rw [pl_enc c a.1, pl_enc d a.2] <;> rfl
  | .triple c d e, a => by
    show (plW (c.enc a.1) && (plW (d.enc a.2.1) && (plW (e.enc a.2.2) && true))) = true
    rw [pl_enc c a.1, pl_enc d a.2.1, pl_enc e a.2.2] <;> rfl
  | .option c, none => rfl
  | .option c, some x => pl_enc c x
theorem pl_encAll : ∀ (cs : List Codec) (a : Codec.denoteAll cs), plWs (Codec.encAll cs a) = true
  | [], _ => rfl
  | c :: cs, a => by
    show (plW (c.enc a.1) && plWs (Codec.encAll cs a.2)) = true
    rw [pl_enc c a.1, pl_encAll cs a.2] <;> rfl
theorem weight_mem : ∀ {xs : List WData} {d : WData}, d ∈ xs → d.weight ≤ WData.weightAll xs
  | [], d, h => absurd h (by simp)
  | x :: r, d, h => by
    show d.weight ≤ x.weight + 1 + WData.weightAll r
    rcases List.mem_cons.mp h with e | m
    · rw [e]
      omega
    · have z := weight_mem m
      omega
def toV : Value → V
  | .none => .non
  | .bool b => .bl b
  | .int i _ => .int i
  | .str x _ => .str x
  | .bytes b _ => .byt b
  | .ref a => .ref a
  | _ => .non
/-- a value of the arguments, its objects among A -/
def OkU (A : List Addr) : Value → Prop
  | .none => True
  | .bool _ => True
  | .int _ _ => True
  | .str _ _ => True
  | .bytes _ _ => True
  | .ref a => a ∈ A
  | _ => False
theorem OkU.mono {A B : List Addr} (h : ∀ a ∈ A, a ∈ B) : ∀ {u : Value}, OkU A u → OkU B u := fun {u} x => by
  cases u with
  | ref a => exact h a x
  | none => trivial
  | bool b => trivial
  | int i t => trivial
  | str s t => trivial
  | bytes b t => trivial
  | _ => exact False.elim x
theorem relV_toV {A : List Addr} {u : Value} (x : OkU A u) : RelV (toV u) u := by
  cases u with
  | ref a => rfl
  | none => rfl
  | bool b => rfl
  | int i t => exact ⟨t, rfl⟩
  | str s t => exact ⟨t, rfl⟩
  | bytes b t => exact ⟨t, rfl⟩
  | _ => exact False.elim x
theorem vals_toV {A : List Addr} : ∀ {vs : List Value}, (∀ u ∈ vs, OkU A u) → Vals (vs.map toV) vs
  | [], _ => .nil
  | u :: r, h => .cons (relV_toV (h u (List.mem_cons_self ..))) (vals_toV fun x hx => h x (List.mem_cons_of_mem _ hx))
/-- an object of the arguments -/
def ArgOb (h : Heap) (A : List Addr) (a : Addr) : Prop := ∃ vs : List Value, vs.length ≤ sizeLine ∧ (∀ u ∈ vs, OkU A u) ∧
  (h.get? a = some { cls := .type "list", data := .seq vs.toArray } ∨ h.get? a = some { cls := .type "tuple", data := .seq vs.toArray })
theorem ArgOb.mono {h : Heap} {A B : List Addr} {a : Addr} (k : ∀ a ∈ A, a ∈ B) (x : ArgOb h A a) : ArgOb h B a := by
  obtain ⟨vs, h1, h2, h3⟩ := x
  exact ⟨vs, h1, fun u hu => (h2 u hu).mono k, h3⟩
theorem wellAll_len {P : Params} {h : Heap} : ∀ {vs : List Value} {ds : List WData}, WellAll P h vs ds → vs.length = ds.length
  | _, _, .nil => rfl
  | _, _, .cons _ b => by
    show _ + 1 = _ + 1
    rw [wellAll_len b]
theorem well_list {P : Params} {h : Heap} {v : Value} {ds : List WData} (x : Well P h v (.list ds)) : ∃ (a : Addr) (vs : List Value), v = .ref a ∧ h.get? a = some { cls := .type "list", data := .seq vs.toArray } ∧ WellAll P h vs ds := by
  cases x with
  | list ho hall => exact ⟨_, _, rfl, ho, hall⟩
theorem well_tuple {P : Params} {h : Heap} {v : Value} {ds : List WData} (x : Well P h v (.tuple ds)) : ∃ (a : Addr) (vs : List Value), v = .ref a ∧ h.get? a = some { cls := .type "tuple", data := .seq vs.toArray } ∧ WellAll P h vs ds := by
  cases x with
  | tuple ho hall => exact ⟨_, _, rfl, ho, hall⟩
theorem well_cons {P : Params} {h : Heap} {us : List Value} {d : WData} {ds : List WData} (x : WellAll P h us (d :: ds)) : ∃ (v : Value) (vs : List Value), us = v :: vs ∧ Well P h v d ∧ WellAll P h vs ds := by
  cases x with
  | cons a b => exact ⟨_, _, rfl, a, b⟩
theorem line_of {n : Nat} (h : n ≤ 1048576) : n ≤ sizeLine := Nat.le_trans h (by decide)
section
variable {P : Params} {h : Heap}
mutual
theorem area_one : ∀ (d : WData) (v : Value), Well P h v d → plW d = true → d.weight ≤ 1048576 → ∃ A : List Addr, OkU A v ∧ ∀ a ∈ A, ArgOb h A a
  | .none, _, x, _, _ => by
    cases x
    exact ⟨[], trivial, fun a m => absurd m (by simp)⟩
  | .bool b, _, x, _, _ => by
    cases x
    exact ⟨[], trivial, fun a m => absurd m (by simp)⟩
  | .int i, _, x, _, _ => by
    cases x
    exact ⟨[], trivial, fun a m => absurd m (by simp)⟩
  | .str s, _, x, _, _ => by
    cases x
    exact ⟨[], trivial, fun a m => absurd m (by simp)⟩
  | .bytes b, _, x, _, _ => by
    cases x
    exact ⟨[], trivial, fun a m => absurd m (by simp)⟩
  | .list ds, _, x, p, z => by
    obtain ⟨a, vs, rfl, ho, hall⟩ := well_list x
    have z2 : WData.weightAll ds ≤ 1048576 := z
    obtain ⟨A, h1, h2⟩ := area_all ds _ hall p fun d hd => Nat.le_trans (weight_mem hd) z2
    have k : ∀ b ∈ A, b ∈ a :: A := fun b hb => List.mem_cons_of_mem _ hb
    refine ⟨a :: A, List.mem_cons_self .., fun b hb => ?_⟩
    rcases List.mem_cons.mp hb with e | m
    · rw [e]
      exact ⟨vs, line_of (by rw [wellAll_len hall]; exact Nat.le_trans (PySem.W.length_le_weightAllW ds) z2), fun u hu => (h1 u hu).mono k, .inl ho⟩
    · exact (h2 b m).mono k
  | .tuple ds, _, x, p, z => by
    obtain ⟨a, vs, rfl, ho, hall⟩ := well_tuple x
    have z2 : WData.weightAll ds ≤ 1048576 := z
    obtain ⟨A, h1, h2⟩ := area_all ds _ hall p fun d hd => Nat.le_trans (weight_mem hd) z2
    have k : ∀ b ∈ A, b ∈ a :: A := fun b hb => List.mem_cons_of_mem _ hb
    refine ⟨a :: A, List.mem_cons_self .., fun b hb => ?_⟩
    rcases List.mem_cons.mp hb with e | m
    · rw [e]
      exact ⟨vs, line_of (by rw [wellAll_len hall]; exact Nat.le_trans (PySem.W.length_le_weightAllW ds) z2), fun u hu => (h1 u hu).mono k, .inr ho⟩
    · exact (h2 b m).mono k
  | .float _, _, _, p, _ => Bool.noConfusion (show false = true from p)
  | .dict _, _, _, p, _ => Bool.noConfusion (show false = true from p)
  | .bytearray _, _, _, p, _ => Bool.noConfusion (show false = true from p)
  | .set _, _, _, p, _ => Bool.noConfusion (show false = true from p)
  | .frozenset _, _, _, p, _ => Bool.noConfusion (show false = true from p)
  | .obj _ _, _, _, p, _ => Bool.noConfusion (show false = true from p)
theorem area_all : ∀ (ds : List WData) (vs : List Value), WellAll P h vs ds → plWs ds = true → (∀ d ∈ ds, d.weight ≤ 1048576) → ∃ A : List Addr, (∀ u ∈ vs, OkU A u) ∧ ∀ a ∈ A, ArgOb h A a
  | [], _, x, _, _ => by
    cases x
    exact ⟨[], fun u m => absurd m (by simp), fun a m => absurd m (by simp)⟩
  | d :: ds, _, x, p, z => by
    obtain ⟨v, vs, rfl, x1, x2⟩ := well_cons x
    have q : plW d = true ∧ plWs ds = true := Bool.and_eq_true_iff.mp p
    obtain ⟨A, a1, a2⟩ := area_one d v x1 q.1 (z d (List.mem_cons_self ..))
    obtain ⟨B, b1, b2⟩ := area_all ds vs x2 q.2 fun e he => z e (List.mem_cons_of_mem _ he)
    have kA : ∀ b ∈ A, b ∈ A ++ B := fun b hb => List.mem_append.mpr (.inl hb)
    have kB : ∀ b ∈ B, b ∈ A ++ B := fun b hb => List.mem_append.mpr (.inr hb)
    refine ⟨A ++ B, fun u hu => ?_, fun b hb => ?_⟩
    · rcases List.mem_cons.mp hu with e | m
      · rw [e]
        exact a1.mono kA
      · exact (b1 u m).mono kB
    · rcases List.mem_append.mp hb with m | m
      · exact (a2 b m).mono kA
      · exact (b2 b m).mono kB
end
end
/-- what is tracked of an argument's object -/
def hoOf (o : Obj) : Option HO := match o.data with
  | .seq vs _ => if (o.cls == Value.type "list") = true then some (.frz o (.lst (vs.toList.map toV))) else some (.frz o (.tup (vs.toList.map toV)))
  | _ => none
def argH (K : PySem.W.Frag) (h : Heap) (A : List Addr) : Hp := fun b => if b ∈ A then (if (K.lookup b).isNone = true then (h.get? b).bind hoOf else none) else none
/-- nothing is tracked but what is known to the object -/
def OnlyF (H : Hp) : Prop := ∀ b, H b = none ∨ ∃ o u, H b = some (.frz o u)
theorem hoOf_lst (vs : List Value) : hoOf { cls := .type "list", data := .seq vs.toArray } = some (.frz { cls := .type "list", data := .seq vs.toArray } (.lst (vs.map toV))) := by
  show (if (Value.type "list" == Value.type "list") = true then some (HO.frz { cls := .type "list", data := .seq vs.toArray } (.lst (vs.toArray.toList.map toV))) else some (HO.frz { cls := .type "list", data := .seq vs.toArray } (.tup (vs.toArray.toList.map toV)))) = _
  rw [if_pos (beq_self_eq_true _)]
theorem hoOf_tup (vs : List Value) : hoOf { cls := .type "tuple", data := .seq vs.toArray } = some (.frz { cls := .type "tuple", data := .seq vs.toArray } (.tup (vs.map toV))) := by
  show (if (Value.type "tuple" == Value.type "list") = true then some (HO.frz { cls := .type "tuple", data := .seq vs.toArray } (.lst (vs.toArray.toList.map toV))) else some (HO.frz { cls := .type "tuple", data := .seq vs.toArray } (.tup (vs.toArray.toList.map toV)))) = _
  rw [if_neg (by decide)]
section
variable {P : Program} {w : World} {K : PySem.W.Frag} {h : Heap} {A : List Addr}
theorem argH_at {b : Addr} {o : Obj} (hb : b ∈ A) (hk : K.lookup b = none) (e : h.get? b = some o) : argH K h A b = hoOf o := by
  unfold argH
  rw [if_pos hb, hk, if_pos (show (none : Option Obj).isNone = true from rfl), e] <;> rfl
theorem of_argH {b : Addr} {u : HO} (q : argH K h A b = some u) : b ∈ A ∧ K.lookup b = none := by
  unfold argH at q
  by_cases hb : b ∈ A
  · rw [if_pos hb] at q
    cases hk : K.lookup b with
    | none => exact ⟨hb, rfl⟩
    | some o =>
      rw [hk, if_neg (by simp)] at q
      cases q
  · rw [if_neg hb] at q
    cases q
/-- what stands tracked -/
theorem argH_is (ar : ∀ a ∈ A, ArgOb h A a) {b : Addr} {u : HO} (q : argH K h A b = some u) : K.lookup b = none ∧ ∃ vs : List Value, vs.length ≤ sizeLine ∧ (∀ u ∈ vs, OkU A u) ∧
    ((h.get? b = some { cls := .type "list", data := .seq vs.toArray } ∧ u = .frz { cls := .type "list", data := .seq vs.toArray } (.lst (vs.map toV))) ∨
     (h.get? b = some { cls := .type "tuple", data := .seq vs.toArray } ∧ u = .frz { cls := .type "tuple", data := .seq vs.toArray } (.tup (vs.map toV)))) := by
  obtain ⟨hb, hk⟩ := of_argH q
  obtain ⟨vs, h1, h2, h3⟩ := ar b hb
  refine ⟨hk, vs, h1, h2, ?_⟩
  rcases h3 with e | e
  · rw [argH_at hb hk e, hoOf_lst] at q
    exact .inl ⟨e, (Option.some.inj q).symm⟩
  · rw [argH_at hb hk e, hoOf_tup] at q
    exact .inr ⟨e, (Option.some.inj q).symm⟩
theorem argH_only (ar : ∀ a ∈ A, ArgOb h A a) : OnlyF (argH K h A) := fun b => by
  cases q : argH K h A b with
  | none => exact .inl rfl
  | some u =>
    obtain ⟨_, vs, _, _, ⟨_, e⟩ | ⟨_, e⟩⟩ := argH_is ar q
    · exact .inr ⟨_, _, by rw [e]⟩
    · exact .inr ⟨_, _, by rw [e]⟩
theorem argH_ok (ar : ∀ a ∈ A, ArgOb h A a) : HOk P w (argH K h A) h := fun b u q => by
  obtain ⟨_, vs, h1, h2, ⟨e, rfl⟩ | ⟨e, rfl⟩⟩ := argH_is ar q
  · exact ⟨e, by rw [List.length_map]; exact h1, vs, _, vals_toV h2, e⟩
  · exact ⟨e, by rw [List.length_map]; exact h1, vs, vals_toV h2, _, e, rfl, _, rfl⟩
theorem seq_inj {c c' : Value} {vs us : List Value} (e : (some { cls := c, data := .seq vs.toArray } : Option Obj) = some { cls := c', data := .seq us.toArray }) : c = c' ∧ vs = us := by
  have e1 := Option.some.inj e
  have e2 : c = c' := congrArg Obj.cls e1
  have e3 : Data.seq vs.toArray = Data.seq us.toArray := congrArg Obj.data e1
  injection e3 with e4
  refine ⟨e2, ?_⟩
  have e5 := congrArg Array.toList e4
  simpa using e5
/-- a list argument -/
theorem argL (KX : K.In h) (ar : ∀ a ∈ A, ArgOb h A a) {a : Addr} {vs : List Value} (ha : a ∈ A) (e : h.get? a = some { cls := .type "list", data := .seq vs.toArray }) : (∀ u ∈ vs, OkU A u) ∧ SqL K (argH K h A) a (vs.map toV) := by
  obtain ⟨us, h1, h2, h3⟩ := ar a ha
  have hu : us = vs := by
    rcases h3 with q | q
    · rw [e] at q
      exact (seq_inj q).2.symm
    · rw [e] at q
      exact absurd (Value.type.inj (seq_inj q).1) (by decide)
  subst hu
  refine ⟨h2, ?_⟩
  cases hk : K.lookup a with
  | none => exact .inl (.inr ⟨_, by rw [argH_at ha hk e, hoOf_lst]⟩)
  | some o =>
    have e2 := KX a o hk
    rw [e] at e2
    obtain rfl := Option.some.inj e2
    exact .inr ⟨_, us.toArray, _, hk, rfl, rfl, rfl, by rw [List.size_toArray]; exact h1, by simpa using vals_toV h2⟩
theorem argT (KX : K.In h) (ar : ∀ a ∈ A, ArgOb h A a) {a : Addr} {vs : List Value} (ha : a ∈ A) (e : h.get? a = some { cls := .type "tuple", data := .seq vs.toArray }) : (∀ u ∈ vs, OkU A u) ∧ SqT K (argH K h A) a (vs.map toV) := by
  obtain ⟨us, h1, h2, h3⟩ := ar a ha
  have hu : us = vs := by
    rcases h3 with q | q
    · rw [e] at q
      exact absurd (Value.type.inj (seq_inj q).1) (by decide)
    · rw [e] at q
      exact (seq_inj q).2.symm
  subst hu
  refine ⟨h2, ?_⟩
  cases hk : K.lookup a with
  | none => exact .inl (.inr ⟨_, by rw [argH_at ha hk e, hoOf_tup]⟩)
  | some o =>
    have e2 := KX a o hk
    rw [e] at e2
    obtain rfl := Option.some.inj e2
    exact .inr ⟨_, us.toArray, _, hk, rfl, rfl, by rw [List.size_toArray]; exact h1, by simpa using vals_toV h2⟩
mutual
theorem dw_one {Pm : Params} (KX : K.In h) (ar : ∀ a ∈ A, ArgOb h A a) : ∀ (d : WData) (v : Value), Well Pm h v d → plW d = true → OkU A v → Dw K (argH K h A) (toV v) d
  | .none, _, x, _, _ => by
    cases x
    exact .non
  | .bool b, _, x, _, _ => by
    cases x
    exact .bl b
  | .int i, _, x, _, _ => by
    cases x
    exact .int i
  | .str s, _, x, _, _ => by
    cases x
    exact .str s
  | .bytes b, _, x, _, _ => by
    cases x
    have z := Dw.byt (K := K) (H := argH K h A) b.toArray
    exact z
  | .list ds, _, x, p, hu => by
    obtain ⟨a, vs, rfl, ho, hall⟩ := well_list x
    obtain ⟨h2, hs⟩ := argL KX ar hu ho
    exact .lst hs (dw_all KX ar ds _ hall p h2)
  | .tuple ds, _, x, p, hu => by
    obtain ⟨a, vs, rfl, ho, hall⟩ := well_tuple x
    obtain ⟨h2, hs⟩ := argT KX ar hu ho
    exact .tup hs (dw_all KX ar ds _ hall p h2)
  | .float _, _, _, p, _ => Bool.noConfusion (show false = true from p)
  | .dict _, _, _, p, _ => Bool.noConfusion (show false = true from p)
  | .bytearray _, _, _, p, _ => Bool.noConfusion (show false = true from p)
  | .set _, _, _, p, _ => Bool.noConfusion (show false = true from p)
  | .frozenset _, _, _, p, _ => Bool.noConfusion (show false = true from p)
  | .obj _ _, _, _, p, _ => Bool.noConfusion (show false = true from p)
theorem dw_all {Pm : Params} (KX : K.In h) (ar : ∀ a ∈ A, ArgOb h A a) : ∀ (ds : List WData) (vs : List Value), WellAll Pm h vs ds → plWs ds = true → (∀ u ∈ vs, OkU A u) → DwAll K (argH K h A) (vs.map toV) ds
  | [], _, x, _, _ => by
    cases x
    exact .nil
  | d :: ds, _, x, p, hu => by
    obtain ⟨v, vs, rfl, x1, x2⟩ := well_cons x
    have q : plW d = true ∧ plWs ds = true := Bool.and_eq_true_iff.mp p
    exact .cons (dw_one KX ar d v x1 q.1 (hu _ (List.mem_cons_self ..))) (dw_all KX ar ds vs x2 q.2 fun u m => hu u (List.mem_cons_of_mem _ m))
end
end
/-! ### the call -/
theorem spec_call {P : Program} {w : World} {K : PySem.W.Frag} {mg mb : Str → Option Value} {CX : CXT} {k : Nat} {fa : Addr} {fd : FuncData} {ps : List Str} {sp : Sp} {s₁ : Shared} {vals : List Value} {ds : List WData} {R : PySem.W.WRecords} {cl : Str → Option Addr} {d0 : WData}
    (KX : K.In s₁.heap) (hns : s₁.heap.Ns mainGlobals mg) (hb : s₁.heap.Ns builtinsNs mb) (hbb : ∀ x : Str, x ≠ "__name__" → mb x = bootBuiltins x) (hlim : s₁.heap.NoLimit) (hg : s₁.gens = #[])
    (hwl : WellAll w.params s₁.heap vals ds) (hpl : plWs ds = true) (hwt : ∀ d ∈ ds, d.weight ≤ 1048576) (hr : Room k callerA)
    (F : ∀ base : Heap, K.In base → base.Ns mainGlobals mg → FnOk P w K mg base CX k fa fd ps sp) (hbind : ∀ (s : Shared) (us : List Value), us.length = ps.length → BindsTo s fd ⟨us, []⟩ (ps.zip us)) (hlen : ds.length = ps.length)
    (hsp : ∀ (H : Hp) (xs : List V), OnlyF H → DwAll K H xs ds → sp xs H (fun v H' => Dw K H' v d0) fun _ _ _ => False)
    (hCX : ∀ H e s', CX [] H s₁ (fun _ _ _ => False) e s' → False) :
    codeAny (model P w) callerA (.call (.ref fa) ⟨vals, []⟩) (fun r s' => ∃ u as, r = .ok (.ret u) ∧ ReadsW R cl s'.heap u d0 as ∧ OldK s₁.heap s'.heap ∧ s'.os = s₁.os ∧ AllBare s'.gens) s₁ := by
  obtain ⟨A, ho, ar⟩ := area_all ds vals hwl hpl hwt
  have hO : OnlyF (argH K s₁.heap A) := argH_only ar
  have hok : HOk P w (argH K s₁.heap A) s₁.heap := argH_ok ar
  have hS := dw_all KX ar ds vals hwl hpl ho
  have hV := vals_toV ho
  have hK : ∀ b u, argH K s₁.heap A b = some u → K.lookup b = none := fun b u q => (argH_is ar q).1
  have noA : ∀ {b : Addr} {o : Obj} {es : Array DictEntry} {ep : Nat}, s₁.heap.get? b = some o → o.data = .dict es ep → argH K s₁.heap A b = none := fun {b o es ep} e d => by
    cases q : argH K s₁.heap A b with
    | none => rfl
    | some u =>
      obtain ⟨_, vs, _, _, ⟨e2, _⟩ | ⟨e2, _⟩⟩ := argH_is ar q
      · rw [e2] at e
        cases e
        have d' : Data.seq vs.toArray _ = Data.dict es ep := d
        cases d'
      · rw [e2] at e
        cases e
        have d' : Data.seq vs.toArray _ = Data.dict es ep := d
        cases d'
  generalize argH K s₁.heap A = H at hO hok hS hK noA
  have base_of : ∀ {b : Addr} {o : Obj}, s₁.heap.get? b = some o → H b = none → (hidT s₁.heap H).get? b = some o := fun e n => hidT_get e n
  have nsK : ∀ {b : Addr} {m : Str → Option Value}, s₁.heap.Ns b m → (hidT s₁.heap H).Ns b m := fun {b m} ⟨o, es, ep, e, d, r⟩ => ⟨o, es, ep, base_of e (noA e d), d, r⟩
  have nK : ∀ b o, K.lookup b = some o → H b = none := fun b o e => by
    cases q : H b with
    | none => rfl
    | some u =>
      rw [hK b u q] at e
      cases e
  have hKb : K.In (hidT s₁.heap H) := fun b o e => base_of (KX b o e) (nK b o e)
  have hM : Mod K mg (hidT s₁.heap H) := ⟨hKb, nsK hns, ⟨mb, nsK hb, hbb⟩, let ⟨mc, h1, h2⟩ := hlim; ⟨mc, nsK h1, h2⟩⟩
  have e0 : Env0 P w K mg (hidT s₁.heap H) callerA [] s₁ H := ⟨rfl, hM, fun b o e => of_hidT e, Nat.le_of_eq (hidT_size _ _), trivial, fun b hb => absurd (show b ∈ ([] : List Addr) from hb) (by simp), hok, .of_eq hg⟩
  have hl : vals.length = ps.length := by rw [wellAll_len hwl]; exact hlen
  refine codeAny_mono ((F _ hKb (nsK hns)).run callerA [] s₁ H ⟨vals, []⟩ vals (vals.map toV) _ _ hr e0 (hbind s₁ vals hl) hV (hsp H _ hO hS)) fun r s' x => ?_
  cases r with
  | error e => exact (hCX H e s' x).elim
  | ok fl =>
    cases fl with
    | next => exact False.elim x
    | brk => exact False.elim x
    | cont => exact False.elim x
    | ret u =>
      obtain ⟨v, H', os, bare, un, hok', r', q⟩ := x
      have kept : ∀ b o, s₁.heap.get? b = some o → s'.heap.get? b = some o := fun b o e => by
        cases q2 : H b with
        | none => exact un.keep b o e q2 (by intro z; exact absurd (show b ∈ ([] : List Addr) from z) (by simp)) (by simp)
        | some u2 =>
          rcases hO b with z | ⟨ob, u3, z⟩
          · rw [q2] at z
            cases z
          · have z2 := un.frzs b ob _ z
            obtain ⟨e1, _⟩ := hok b _ z
            obtain ⟨e2, _⟩ := hok' b _ z2
            rw [e] at e1
            cases e1
            exact e2
      have KX' : K.In s'.heap := fun b o e => kept b o (KX b o e)
      obtain ⟨as, hrd⟩ := Dw.reads (R := R) (cl := cl) hok' KX' d0 v u q r'
      exact ⟨u, as, rfl, hrd, OldK.of_keep kept, os, bare⟩
/-! ### the row -/
theorem layable_weight {ds : List WData} (h : WData.layableAll ds = true) : ∀ d ∈ ds, d.weight ≤ 1048576 := fun d hd =>
  (PySem.W.layableW_iff.mp (List.all_eq_true.mp h d hd)).2.2
theorem encAll_len : ∀ (cs : List Codec) (a : Codec.denoteAll cs), (Codec.encAll cs a).length = cs.length
  | [], _ => rfl
  | c :: cs, a => by
    show (Codec.encAll cs a.2).length + 1 = cs.length + 1
    rw [encAll_len cs a.2]
/-- the goal that k_headS leaves (case hc), from the promise of the row's def: whatever the arguments that the codecs let and the row asks for, the def gives what stands for enc (f ..) -/
theorem walk_spec {r : OpenSpec} {k : Nat} {q : Program} {loose : List Str} {XP : (Str → Option Value) → Heap → Prop} {YP : World → Heap → Prop} {d : DefRec} {K : Params → PySem.W.Frag} {CX : World → CXT} {ps : List Str} {sp : World → Sp}
    (hwell : r.wellSaid = true) (hdf : d.params.defaults = []) (hlen : r.args.length = ps.length) (hr : Room k callerA)
    (hY : ∀ (w : World) (h : Heap), YP w h → (K w.params).In h)
    (F : ∀ (w : World) (mg : Str → Option Value) (fa : Addr) (h : Heap), YP w h → (K w.params).In h → h.Ns mainGlobals mg → mg d.name = some (.ref fa) →
      ∃ fd : FuncData, (∀ (s : Shared) (us : List Value), us.length = ps.length → BindsTo s fd ⟨us, []⟩ (ps.zip us)) ∧
        ∀ base : Heap, (K w.params).In base → base.Ns mainGlobals mg → FnOk r.prog w (K w.params) mg base (CX w) k fa fd ps (sp w))
    (hsp : ∀ (w : World) (H : Hp) (xs : List V) (a : Codec.denoteAll r.args), OnlyF H → Codec.withinAll r.args a = true → Codec.app r.args r.asked a = true → DwAll (K w.params) H xs (Codec.encAll r.args a) →
      sp w xs H (fun v H' => Dw (K w.params) H' v (r.ret.enc (Codec.app r.args r.f a))) fun _ _ _ => False)
    (hCX : ∀ (w : World) (H : Hp) (s : Shared) (e : Value) (s' : Shared), CX w [] H s (fun _ _ _ => False) e s' → False) :
    PySem.W.WalkOS q loose XP YP r d [] (fun f vs => PySem.call f vs) := by
  intro w s_0 s₁ mg mb G Y fa o pm cd doc dV kV ho hd hcd hD hmg hg args vals as hpre hlay hrd hwl hlo
  obtain ⟨a, e1, e2⟩ := PySem.W.os_pre_some hpre
  obtain ⟨e3, hwi⟩ := Codec.encAll_of_decAll r.args args a e1
  subst e3
  have KX := hY w _ Y
  obtain ⟨fd, hb, hF⟩ := F w mg fa _ Y KX G.T.g hmg
  refine PySem.W.enter_call (codeAny_mono (spec_call (R := []) (cl := classAt s_0.heap) (d0 := r.ret.enc (Codec.app r.args r.f a)) KX G.T.g G.T.b G.T.builtins G.T.nolimit hg hwl (pl_encAll _ _) (layable_weight hlay) hr hF hb (by rw [encAll_len]; exact hlen)
    (fun H xs hO hS => hsp w H xs a hO hwi e2 hS) fun H e s' => hCX w H s₁ e s') fun r' s' hq => ?_)
  obtain ⟨u, as', rfl, h1, h2, h3, h4⟩ := hq
  exact ⟨.inl ⟨u, _, as', rfl, fun _ => rfl, h1, (OpenSpec.post_iff hwell hwi _ _).mpr rfl, fun z => Bool.noConfusion (show false = true from z)⟩, h2, h3, h4⟩
/-- the same where the promise hangs on the written part alone -/
theorem walk_specK {r : OpenSpec} {k : Nat} {q : Program} {loose : List Str} {XP : (Str → Option Value) → Heap → Prop} {YP : World → Heap → Prop} {d : DefRec} {K : Params → PySem.W.Frag} {CX : CXT} {ps : List Str} {sp : PySem.W.Frag → Sp}
    (hwell : r.wellSaid = true) (hdf : d.params.defaults = []) (hlen : r.args.length = ps.length) (hr : Room k callerA)
    (hY : ∀ (w : World) (h : Heap), YP w h → (K w.params).In h)
    (F : ∀ (w : World) (mg : Str → Option Value) (fa : Addr) (h : Heap), YP w h → (K w.params).In h → h.Ns mainGlobals mg → mg d.name = some (.ref fa) →
      ∃ fd : FuncData, (∀ (s : Shared) (us : List Value), us.length = ps.length → BindsTo s fd ⟨us, []⟩ (ps.zip us)) ∧
        ∀ base : Heap, (K w.params).In base → base.Ns mainGlobals mg → FnOk r.prog w (K w.params) mg base CX k fa fd ps (sp (K w.params)))
    (hsp : ∀ (K : PySem.W.Frag) (H : Hp) (xs : List V) (a : Codec.denoteAll r.args), OnlyF H → Codec.withinAll r.args a = true → Codec.app r.args r.asked a = true → DwAll K H xs (Codec.encAll r.args a) →
      sp K xs H (fun v H' => Dw K H' v (r.ret.enc (Codec.app r.args r.f a))) fun _ _ _ => False)
    (hCX : ∀ (H : Hp) (s : Shared) (e : Value) (s' : Shared), CX [] H s (fun _ _ _ => False) e s' → False) :
    PySem.W.WalkOS q loose XP YP r d [] (fun f vs => PySem.call f vs) :=
  walk_spec (K := K) (CX := fun _ => CX) (sp := fun w => sp (K w.params)) hwell hdf hlen hr hY F (fun w H xs a h1 h2 h3 h4 => hsp (K w.params) H xs a h1 h2 h3 h4) fun _ H s e s' => hCX H s e s'
end L2
end

section
/-! Coins as rows: the mathematics that the specification's own functions need. Nothing of the program. -/
namespace Mc
open Kv394 (choose tosses ok)

/-! ### lists by place -/
abbrev co (l : List Nat) (j : Nat) : Nat := l.getD j 0
theorem getD_out {α : Type} {l : List α} {j : Nat} {d : α} (h : l.length ≤ j) : l.getD j d = d := by
  rw [List.getD_eq_getElem?_getD, List.getElem?_eq_none h]; rfl
theorem getD_in {α : Type} {l : List α} {j : Nat} {d x : α} (h : l[j]? = some x) : l.getD j d = x := by
  rw [List.getD_eq_getElem?_getD, h]; rfl
theorem get?_of {α : Type} {l : List α} {j : Nat} (d : α) (h : j < l.length) : l[j]? = some (l.getD j d) := by
  rw [List.getD_eq_getElem?_getD, List.getElem?_eq_getElem h]; rfl
theorem ext_getD {α : Type} (d : α) {l m : List α} (hl : l.length = m.length) (h : ∀ j, j < l.length → l.getD j d = m.getD j d) : l = m := by
  apply List.ext_getElem? 
  intro j
  by_cases hj : j < l.length
  · rw [get?_of d hj, get?_of d (hl ▸ hj), h j hj]
  · rw [List.getElem?_eq_none (by omega), List.getElem?_eq_none (by omega)]
theorem getD_map_range {α : Type} (f : Nat → α) (d : α) {n j : Nat} (h : j < n) : ((List.range n).map f).getD j d = f j := by
  rw [List.getD_eq_getElem?_getD, List.getElem?_map, List.getElem?_range h]; rfl
theorem getD_map_range_out {α : Type} (f : Nat → α) (d : α) {n j : Nat} (h : n ≤ j) : ((List.range n).map f).getD j d = d :=
  getD_out (by simpa using h)

/-! ### sums -/
def sm (n : Nat) (f : Nat → Nat) : Nat := match n with
  | 0 => 0
  | n + 1 => sm n f + f n
theorem sum_range (f : Nat → Nat) : ∀ n, ((List.range n).map f).sum = sm n f
  | 0 => rfl
  | n + 1 => by rw [List.range_succ, List.map_append, List.sum_append, sum_range f n]; simp [sm]
theorem sm_congr {f g : Nat → Nat} : ∀ {n}, (∀ i, i < n → f i = g i) → sm n f = sm n g
  | 0, _ => rfl
  | n + 1, h => by
    show sm n f + f n = sm n g + g n
    rw [sm_congr (fun i hi => h i (by omega)), h n (by omega)]
theorem sm_head (f : Nat → Nat) : ∀ n, sm (n + 1) f = f 0 + sm n (fun i => f (i + 1))
  | 0 => by simp [sm]
  | n + 1 => by
    show sm (n + 1) f + f (n + 1) = f 0 + (sm n (fun i => f (i + 1)) + f (n + 1))
    rw [sm_head f n]; omega
theorem sm_add (f g : Nat → Nat) : ∀ n, sm n (fun i => f i + g i) = sm n f + sm n g
  | 0 => rfl
  | n + 1 => by
    show sm n (fun i => f i + g i) + (f n + g n) = (sm n f + f n) + (sm n g + g n)
    rw [sm_add f g n]; omega
theorem sm_le {f g : Nat → Nat} : ∀ {n}, (∀ i, i < n → f i ≤ g i) → sm n f ≤ sm n g
  | 0, _ => Nat.le_refl _
  | n + 1, h => Nat.add_le_add (sm_le (fun i hi => h i (by omega))) (h n (by omega))
theorem sm_zero {f : Nat → Nat} : ∀ {n}, (∀ i, i < n → f i = 0) → sm n f = 0
  | 0, _ => rfl
  | n + 1, h => by
    show sm n f + f n = 0
    rw [sm_zero (fun i hi => h i (by omega)), h n (by omega)]
theorem sm_mul (a : Nat) (f : Nat → Nat) : ∀ n, sm n (fun i => a * f i) = a * sm n f
  | 0 => rfl
  | n + 1 => by
    show sm n (fun i => a * f i) + a * f n = a * (sm n f + f n)
    rw [sm_mul a f n, Nat.mul_add]

/-! ### the product of two rows, as functions -/
abbrev Fu := Nat → Nat
def cv (f g : Fu) : Fu
  | 0 => f 0 * g 0
  | n + 1 => f 0 * g (n + 1) + cv (fun i => f (i + 1)) g n
theorem cv_congr : ∀ {n : Nat} {f f' g g' : Fu}, (∀ i, i ≤ n → f i = f' i) → (∀ i, i ≤ n → g i = g' i) → cv f g n = cv f' g' n
  | 0, f, f', g, g', hf, hg => by
    show f 0 * g 0 = f' 0 * g' 0
    rw [hf 0 (by omega), hg 0 (by omega)]
  | n + 1, f, f', g, g', hf, hg => by
    show f 0 * g (n + 1) + cv (fun i => f (i + 1)) g n = f' 0 * g' (n + 1) + cv (fun i => f' (i + 1)) g' n
    rw [hf 0 (by omega), hg (n + 1) (by omega), cv_congr (n := n) (f := fun i => f (i + 1)) (f' := fun i => f' (i + 1)) (g := g) (g' := g') (fun i hi => hf (i + 1) (by omega)) (fun i hi => hg i (by omega))]
theorem cv_add_l : ∀ (n : Nat) (f f' g : Fu), cv (fun i => f i + f' i) g n = cv f g n + cv f' g n
  | 0, f, f', g => Nat.add_mul _ _ _
  | n + 1, f, f', g => by
    show (f 0 + f' 0) * g (n + 1) + cv (fun i => f (i + 1) + f' (i + 1)) g n = (f 0 * g (n + 1) + cv (fun i => f (i + 1)) g n) + (f' 0 * g (n + 1) + cv (fun i => f' (i + 1)) g n)
    rw [cv_add_l n (fun i => f (i + 1)) (fun i => f' (i + 1)) g, Nat.add_mul]; omega
theorem cv_smul_l (a : Nat) : ∀ (n : Nat) (f g : Fu), cv (fun i => a * f i) g n = a * cv f g n
  | 0, f, g => Nat.mul_assoc _ _ _
  | n + 1, f, g => by
    show a * f 0 * g (n + 1) + cv (fun i => a * f (i + 1)) g n = a * (f 0 * g (n + 1) + cv (fun i => f (i + 1)) g n)
    rw [cv_smul_l a n (fun i => f (i + 1)) g, Nat.mul_add, Nat.mul_assoc]
theorem cv_last : ∀ (n : Nat) (f g : Fu), cv f g (n + 1) = cv f (fun i => g (i + 1)) n + f (n + 1) * g 0
  | 0, f, g => rfl
  | n + 1, f, g => by
    show f 0 * g (n + 1 + 1) + cv (fun i => f (i + 1)) g (n + 1) = (f 0 * g (n + 1 + 1) + cv (fun i => f (i + 1)) (fun i => g (i + 1)) n) + f (n + 1 + 1) * g 0
    rw [cv_last n (fun i => f (i + 1)) g]
    exact (Nat.add_assoc _ _ _).symm
theorem cv_comm : ∀ (n : Nat) (f g : Fu), cv f g n = cv g f n
  | 0, f, g => Nat.mul_comm _ _
  | n + 1, f, g => by
    rw [cv_last n g f]
    show f 0 * g (n + 1) + cv (fun i => f (i + 1)) g n = cv g (fun i => f (i + 1)) n + g (n + 1) * f 0
    rw [cv_comm n (fun i => f (i + 1)) g, Nat.mul_comm (f 0)]; omega
theorem cv_add_r (n : Nat) (f g g' : Fu) : cv f (fun i => g i + g' i) n = cv f g n + cv f g' n := by
  rw [cv_comm, cv_add_l, cv_comm n g, cv_comm n g']
theorem cv_smul_r (a n : Nat) (f g : Fu) : cv f (fun i => a * g i) n = a * cv f g n := by
  rw [cv_comm, cv_smul_l, cv_comm]
/-- a row moved by one place -/
theorem cv_assoc : ∀ (n : Nat) (f g h : Fu), cv (cv f g) h n = cv f (cv g h) n
  | 0, f, g, h => Nat.mul_assoc _ _ _
  | n + 1, f, g, h => by
    show cv f g 0 * h (n + 1) + cv (fun i => cv f g (i + 1)) h n = f 0 * cv g h (n + 1) + cv (fun i => f (i + 1)) (cv g h) n
    have e : (fun i => cv f g (i + 1)) = fun i => f 0 * g (i + 1) + cv (fun i => f (i + 1)) g i := rfl
    rw [e, cv_add_l n (fun i => f 0 * g (i + 1)) (cv (fun i => f (i + 1)) g) h, cv_smul_l (f 0) n (fun i => g (i + 1)) h, cv_assoc n (fun i => f (i + 1)) g h]
    show f 0 * g 0 * h (n + 1) + (f 0 * cv (fun i => g (i + 1)) h n + cv (fun i => f (i + 1)) (cv g h) n) = f 0 * (g 0 * h (n + 1) + cv (fun i => g (i + 1)) h n) + cv (fun i => f (i + 1)) (cv g h) n
    rw [Nat.mul_add, Nat.mul_assoc]; omega
theorem cv_zero_l : ∀ (n : Nat) (f g : Fu), (∀ i, i ≤ n → f i = 0) → cv f g n = 0
  | 0, f, g, h => by show f 0 * g 0 = 0; rw [h 0 (by omega), Nat.zero_mul]
  | n + 1, f, g, h => by
    show f 0 * g (n + 1) + cv (fun i => f (i + 1)) g n = 0
    rw [h 0 (by omega), Nat.zero_mul, cv_zero_l n _ g (fun i hi => h (i + 1) (by omega))]
theorem cv_out : ∀ (j m n : Nat) (f g : Fu), (∀ i, m ≤ i → f i = 0) → (∀ i, n ≤ i → g i = 0) → m + n ≤ j + 1 → cv f g j = 0
  | j, 0, n, f, g, hf, _, _ => cv_zero_l j f g (fun i _ => hf i (by omega))
  | 0, m + 1, n, f, g, hf, hg, h => by
    show f 0 * g 0 = 0
    rw [hg 0 (by omega), Nat.mul_zero]
  | j + 1, m + 1, n, f, g, hf, hg, h => by
    show f 0 * g (j + 1) + cv (fun i => f (i + 1)) g j = 0
    rw [hg (j + 1) (by omega), Nat.mul_zero, cv_out j m n _ g (fun i hi => hf (i + 1) (by omega)) hg (by omega)]
theorem cv_le : ∀ {n : Nat} {f f' g g' : Fu}, (∀ i, i ≤ n → f i ≤ f' i) → (∀ i, i ≤ n → g i ≤ g' i) → cv f g n ≤ cv f' g' n
  | 0, f, f', g, g', hf, hg => Nat.mul_le_mul (hf 0 (by omega)) (hg 0 (by omega))
  | n + 1, f, f', g, g', hf, hg =>
    Nat.add_le_add (Nat.mul_le_mul (hf 0 (by omega)) (hg (n + 1) (by omega))) (cv_le (n := n) (fun i hi => hf (i + 1) (by omega)) (fun i hi => hg i (by omega)))
theorem cv_sm_r (n : Nat) (f : Fu) (a : Nat → Nat) (p : Nat → Fu) : ∀ k, cv f (fun i => sm k fun h => a h * p h i) n = sm k fun h => a h * cv f (p h) n
  | 0 => by
    rw [cv_comm]; exact cv_zero_l n _ f (fun _ _ => rfl)
  | k + 1 => by
    show cv f (fun i => (sm k fun h => a h * p h i) + a k * p k i) n = (sm k fun h => a h * cv f (p h) n) + a k * cv f (p k) n
    rw [cv_add_r n f (fun i => sm k fun h => a h * p h i) (fun i => a k * p k i), cv_sm_r n f a p k, cv_smul_r]

/-! ### choose -/
theorem choose_zero (n : Nat) : choose n 0 = 1 := by cases n <;> rfl
theorem choose_out : ∀ (n k : Nat), n < k → choose n k = 0
  | 0, k + 1, _ => rfl
  | n + 1, k + 1, h => by
    show choose n k + choose n (k + 1) = 0
    rw [choose_out n k (by omega), choose_out n (k + 1) (by omega)]
theorem choose_self : ∀ n, choose n n = 1
  | 0 => rfl
  | n + 1 => by
    show choose n n + choose n (n + 1) = 1
    rw [choose_self n, choose_out n (n + 1) (by omega)]
/-- one way more to choose: (t + 1) * choose n (t + 1) = (n - t) * choose n t -/
theorem choose_step : ∀ (n t : Nat), ((t : Int) + 1) * (choose n (t + 1) : Int) = ((n : Int) - t) * (choose n t : Int)
  | 0, 0 => by decide
  | 0, t + 1 => by
    rw [choose_out 0 (t + 1 + 1) (by omega), choose_out 0 (t + 1) (by omega)]; simp
  | n + 1, 0 => by
    have ih := choose_step n 0
    have e : choose (n + 1) 1 = choose n 0 + choose n 1 := rfl
    rw [choose_zero] at ih ⊢
    rw [e, choose_zero]
    have e0 : choose n (0 + 1) = choose n 1 := rfl
    rw [e0] at ih
    push_cast at ih ⊢
    omega
  | n + 1, t + 1 => by
    have a := choose_step n t
    have b := choose_step n (t + 1)
    have e1 : choose (n + 1) (t + 1 + 1) = choose n (t + 1) + choose n (t + 1 + 1) := rfl
    have e2 : choose (n + 1) (t + 1) = choose n t + choose n (t + 1) := rfl
    rw [e1, e2]
    push_cast at a b ⊢
    generalize (choose n t : Int) = x at *
    generalize (choose n (t + 1) : Int) = y at *
    generalize (choose n (t + 1 + 1) : Int) = z at *
    generalize (n : Int) = N at *
    generalize (t : Int) = T at *
    have c1 : (T + 1 + 1) * (y + z) = (T + 1) * y + y + (T + 1 + 1) * z := by rw [Int.mul_add, Int.add_mul (T + 1) 1 y, Int.one_mul]
    have c2 : (N + 1 - (T + 1)) * (x + y) = (N - T) * x + (N - (T + 1)) * y + y := by
      have e : N + 1 - (T + 1) = N - T := by omega
      have e' : N - T = (N - (T + 1)) + 1 := by omega
      rw [e, Int.mul_add]
      have e'' : (N - T) * y = (N - (T + 1)) * y + y := by
        rw [e', Int.add_mul, Int.one_mul]
      rw [e'']; omega
    rw [c1, c2, a, b]; omega
theorem pascal (n j : Nat) : cv (choose 1) (choose n) j = choose (n + 1) j := by
  cases j with
  | zero => show choose 1 0 * choose n 0 = _; rw [choose_zero, choose_zero, choose_zero]
  | succ j =>
    show choose 1 0 * choose n (j + 1) + cv (fun i => choose 1 (i + 1)) (choose n) j = choose n j + choose n (j + 1)
    have e : cv (fun i => choose 1 (i + 1)) (choose n) j = choose n j := by
      cases j with
      | zero => show choose 1 1 * choose n 0 = _; rw [choose_self, Nat.one_mul]
      | succ j =>
        show choose 1 1 * choose n (j + 1) + cv (fun i => choose 1 (i + 1 + 1)) (choose n) j = _
        rw [cv_zero_l j _ _ (fun i _ => choose_out 1 (i + 2) (by omega)), choose_self, Nat.one_mul, Nat.add_zero]
    rw [e, choose_zero, Nat.one_mul]; omega
theorem cv_one : ∀ (n : Nat) (g : Fu), cv (choose 0) g n = g n
  | 0, g => by show choose 0 0 * g 0 = _; rw [choose_zero, Nat.one_mul]
  | n + 1, g => by
    show choose 0 0 * g (n + 1) + cv (fun i => choose 0 (i + 1)) g n = _
    rw [choose_zero, Nat.one_mul, cv_zero_l n (fun i => choose 0 (i + 1)) g (fun i _ => choose_out 0 (i + 1) (by omega)), Nat.add_zero]
theorem vander : ∀ (m n j : Nat), cv (choose m) (choose n) j = choose (m + n) j
  | 0, n, j => by rw [cv_one, Nat.zero_add]
  | m + 1, n, j => by
    rw [cv_congr (f' := cv (choose 1) (choose m)) (fun i _ => (pascal m i).symm) (fun _ _ => rfl), cv_assoc, cv_congr (f' := choose 1) (g' := choose (m + n)) (fun _ _ => rfl) (fun i _ => vander m n i), pascal]
    congr 1; omega
theorem choose_le_pow : ∀ (n k : Nat), choose n k ≤ 2 ^ n
  | n, 0 => by rw [choose_zero]; exact Nat.pos_of_ne_zero (by simp)
  | 0, k + 1 => by show 0 ≤ _; omega
  | n + 1, k + 1 => by
    show choose n k + choose n (k + 1) ≤ 2 ^ (n + 1)
    have a := choose_le_pow n k
    have b := choose_le_pow n (k + 1)
    rw [Nat.pow_succ]; omega
theorem choose_le {n k : Nat} (h : n ≤ 10) : choose n k ≤ 1024 :=
  Nat.le_trans (choose_le_pow n k) (by have := Nat.pow_le_pow_right (n := 2) (by decide) h; simpa using this)
end Mc

end
section
set_option linter.all false
/-! What is made of coins is a coin: lengths, entries by place, bounds. -/
namespace Mc
open Kv394 (choose tosses ok)

/-! ### zipIdx -/
theorem all_zipIdx {α : Type} {l : List α} {p : α → Nat → Bool} : (l.zipIdx.all fun q => p q.1 q.2) = true ↔ ∀ (j : Nat) (x : α), l[j]? = some x → p x j = true := by
  rw [List.all_eq_true]
  constructor
  · intro h j x hx
    exact h (x, j) (by rw [List.mk_mem_zipIdx_iff_getElem?]; exact hx)
  · rintro h ⟨x, j⟩ hm
    exact h j x (by rw [List.mk_mem_zipIdx_iff_getElem?] at hm; exact hm)
theorem map_zipIdx {α β : Type} (f : α → Nat → β) (d : α) (l : List α) : (l.zipIdx.map fun q => f q.1 q.2) = (List.range l.length).map fun j => f (l.getD j d) j := by
  apply List.ext_getElem?
  intro j
  rw [List.getElem?_map, List.getElem?_map, List.getElem?_zipIdx]
  by_cases h : j < l.length
  · rw [get?_of d h, List.getElem?_range h]; simp
  · rw [List.getElem?_eq_none (by omega), List.getElem?_eq_none (by simpa using h)]; rfl

/-! ### a coin -/
structure Ok (c : List Nat) : Prop where
  pos : 1 ≤ c.length
  most : c.length ≤ 11
  le : ∀ j, co c j ≤ choose (tosses c) j
theorem ok_iff (c : List Nat) : ok c = true ↔ Ok c := by
  unfold ok
  rw [Bool.and_eq_true, Bool.and_eq_true, decide_eq_true_iff, decide_eq_true_iff, all_zipIdx (p := fun x j => decide (x ≤ choose (tosses c) j))]
  constructor
  · rintro ⟨⟨a, b⟩, h⟩
    refine ⟨a, b, fun j => ?_⟩
    by_cases hj : j < c.length
    · exact of_decide_eq_true (h j _ (get?_of 0 hj))
    · rw [co, getD_out (by omega)]; exact Nat.zero_le _
  · rintro ⟨a, b, h⟩
    refine ⟨⟨a, b⟩, fun j x hx => decide_eq_true ?_⟩
    have := h j
    rwa [co, getD_in hx] at this
theorem Ok.small {c : List Nat} (h : Ok c) (j : Nat) : co c j ≤ 1024 :=
  Nat.le_trans (h.le j) (choose_le (by have := h.most; unfold tosses; omega))
theorem len_tosses {c : List Nat} (h : 1 ≤ c.length) : c.length = tosses c + 1 := by unfold tosses; omega

/-! ### more -/
theorem more_len (c : List Nat) : (Kv394.more c).length = c.length + 1 := by simp [Kv394.more]
theorem more_tosses {c : List Nat} (h : 1 ≤ c.length) : tosses (Kv394.more c) = tosses c + 1 := by unfold tosses; rw [more_len]; omega
theorem more_co (c : List Nat) (j : Nat) : co (Kv394.more c) j = co c j + if j = 0 then 0 else co c (j - 1) := by
  by_cases h : j < c.length + 1
  · exact getD_map_range _ 0 h
  · have e : co (Kv394.more c) j = 0 := getD_out (by rw [more_len]; omega)
    rw [e, co, getD_out (by omega), co, getD_out (by omega)]; split <;> rfl
theorem Ok.more {c : List Nat} (h : Ok c) (hk : tosses c < 10) : Ok (Kv394.more c) := by
  refine ⟨by rw [more_len]; omega, by rw [more_len, len_tosses h.pos]; omega, fun j => ?_⟩
  rw [more_co, more_tosses h.pos]
  cases j with
  | zero =>
    have := h.le 0
    rw [choose_zero] at this ⊢
    simp only [if_true]; omega
  | succ j =>
    rw [if_neg (by omega)]
    show co c (j + 1) + co c j ≤ choose (tosses c) j + choose (tosses c) (j + 1)
    have a := h.le (j + 1)
    have b := h.le j
    omega
theorem mores_spec : ∀ (n : Nat) {c : List Nat}, Ok c → tosses c + n ≤ 10 → Ok (Kv394.mores n c) ∧ tosses (Kv394.mores n c) = tosses c + n
  | 0, c, h, _ => ⟨h, rfl⟩
  | n + 1, c, h, hk => by
    have a := mores_spec n (h.more (by omega)) (by rw [more_tosses h.pos]; omega)
    refine ⟨a.1, ?_⟩
    show tosses (Kv394.mores n (Kv394.more c)) = _
    rw [a.2, more_tosses h.pos]; omega
theorem Ok.level {c : List Nat} {n : Nat} (h : Ok c) (hn : n ≤ 10) (hc : tosses c ≤ n) : Ok (Kv394.level n c) ∧ tosses (Kv394.level n c) = n := by
  have a := mores_spec (n - tosses c) h (by omega)
  refine ⟨a.1, ?_⟩
  show tosses (Kv394.mores (n - tosses c) c) = n
  rw [a.2]; omega

/-! ### not -/
theorem not_eq (c : List Nat) : Kv394.not_ c = (List.range c.length).map fun j => choose (tosses c) j - co c j := map_zipIdx (fun x j => choose (tosses c) j - x) 0 c
theorem not_len (c : List Nat) : (Kv394.not_ c).length = c.length := by rw [not_eq]; simp
theorem not_tosses (c : List Nat) : tosses (Kv394.not_ c) = tosses c := by unfold tosses; rw [not_len]
theorem not_co {c : List Nat} (h : 1 ≤ c.length) (j : Nat) : co (Kv394.not_ c) j = choose (tosses c) j - co c j := by
  rw [not_eq]
  by_cases hj : j < c.length
  · exact getD_map_range _ 0 hj
  · rw [co, getD_map_range_out _ 0 (by omega), choose_out _ _ (by unfold tosses; omega)]; omega
theorem Ok.not {c : List Nat} (h : Ok c) : Ok (Kv394.not_ c) := by
  refine ⟨by rw [not_len]; exact h.pos, by rw [not_len]; exact h.most, fun j => ?_⟩
  rw [not_co h.pos, not_tosses]; omega
theorem not_sum {c : List Nat} (h : Ok c) (j : Nat) : co c j + co (Kv394.not_ c) j = choose (tosses c) j := by
  rw [not_co h.pos]; have := h.le j; omega

/-! ### mul -/
theorem mul_len (c d : List Nat) : (Kv394.mul c d).length = c.length + d.length - 1 := by simp [Kv394.mul]
theorem mul_tosses {c d : List Nat} (hc : 1 ≤ c.length) (hd : 1 ≤ d.length) : tosses (Kv394.mul c d) = tosses c + tosses d := by unfold tosses; rw [mul_len]; omega
theorem mul_row : ∀ (c : List Nat) (d : Fu) (j : Nat), sm c.length (fun i => if i ≤ j then co c i * d (j - i) else 0) = cv (co c) d j
  | [], d, j => by
    rw [cv_zero_l j (co []) d (fun i _ => rfl)]; rfl
  | a :: c, d, j => by
    rw [List.length_cons, sm_head]
    have e0 : (if 0 ≤ j then co (a :: c) 0 * d (j - 0) else 0) = a * d j := by rw [if_pos (by omega)]; rfl
    cases j with
    | zero =>
      rw [e0, sm_zero (fun i _ => if_neg (by omega))]; rfl
    | succ j =>
      rw [e0]
      show _ = a * d (j + 1) + cv (co c) d j
      rw [← mul_row c d j]
      congr 1
      apply sm_congr
      intro i _
      by_cases hi : i ≤ j
      · rw [if_pos (by omega), if_pos hi]
        show co c i * d (j + 1 - (i + 1)) = _
        congr 2; omega
      · rw [if_neg (by omega), if_neg hi]
theorem mul_co {c d : List Nat} (hc : 1 ≤ c.length) (hd : 1 ≤ d.length) (j : Nat) : co (Kv394.mul c d) j = cv (co c) (co d) j := by
  by_cases h : j < c.length + d.length - 1
  · have e : co (Kv394.mul c d) j = _ := getD_map_range (fun j => ((List.range c.length).map fun i => if i ≤ j then c.getD i 0 * d.getD (j - i) 0 else 0).sum) 0 h
    rw [e, sum_range, ← mul_row c (co d) j]
  · have e : co (Kv394.mul c d) j = 0 := getD_out (by rw [mul_len]; omega)
    rw [e, cv_out j c.length d.length _ _ (fun i hi => getD_out hi) (fun i hi => getD_out hi) (by omega)]
/-- rows of which the one is bounded: the product is, whatever the number of tosses -/
structure Bd (c : List Nat) (k : Nat) : Prop where
  len : c.length = k + 1
  le : ∀ j, co c j ≤ choose k j
theorem Ok.bd {c : List Nat} (h : Ok c) : Bd c (tosses c) := ⟨len_tosses h.pos, h.le⟩
theorem Bd.tosses {c : List Nat} {k : Nat} (h : Bd c k) : Kv394.tosses c = k := by unfold Kv394.tosses; rw [h.len]; omega
theorem Bd.ok {c : List Nat} {k : Nat} (h : Bd c k) (hk : k ≤ 10) : Ok c := ⟨by rw [h.len]; omega, by rw [h.len]; omega, fun j => by rw [h.tosses]; exact h.le j⟩
theorem Bd.not {c : List Nat} {k : Nat} (h : Bd c k) : Bd (Kv394.not_ c) k := by
  refine ⟨by rw [not_len]; exact h.len, fun j => ?_⟩
  rw [not_co (by rw [h.len]; omega), h.tosses]; omega
theorem Bd.mul {c d : List Nat} {m n : Nat} (hc : Bd c m) (hd : Bd d n) : Bd (Kv394.mul c d) (m + n) := by
  refine ⟨by rw [mul_len, hc.len, hd.len]; omega, fun j => ?_⟩
  rw [mul_co (by rw [hc.len]; omega) (by rw [hd.len]; omega), ← vander m n j]
  exact cv_le (fun i _ => hc.le i) (fun i _ => hd.le i)
theorem Ok.mul {c d : List Nat} (hc : Ok c) (hd : Ok d) (h : tosses c + tosses d ≤ 10) : Ok (Kv394.mul c d) := (hc.bd.mul hd.bd).ok h
theorem Ok.or {c d : List Nat} (hc : Ok c) (hd : Ok d) (h : tosses c + tosses d ≤ 10) : Ok (Kv394.or_ c d) :=
  (Ok.mul hc.not hd.not (by rw [not_tosses, not_tosses]; exact h)).not

/-! ### add, if -/
theorem add_len (c d : List Nat) : (Kv394.add c d).length = min c.length d.length := by simp [Kv394.add]
theorem add_co {c d : List Nat} (h : c.length = d.length) (j : Nat) : co (Kv394.add c d) j = co c j + co d j := by
  by_cases hj : j < c.length
  · have e : (Kv394.add c d)[j]? = some (co c j + co d j) := by
      unfold Kv394.add
      rw [List.getElem?_map, show (c.zip d)[j]? = some (co c j, co d j) from List.getElem?_zip_eq_some.mpr ⟨get?_of 0 hj, get?_of 0 (h ▸ hj)⟩]; rfl
    exact getD_in e
  · rw [co, getD_out (by rw [add_len]; omega), co, getD_out (by omega), co, getD_out (by omega)]
theorem Ok.if_ {c d e : List Nat} (hc : Ok c) (hd : Ok d) (he : Ok e) (h : tosses c + max (tosses d) (tosses e) ≤ 10) : Ok (Kv394.if_ c d e) := by
  have a := hd.level (n := max (tosses d) (tosses e)) (by omega) (by omega)
  have b := he.level (n := max (tosses d) (tosses e)) (by omega) (by omega)
  have p := a.1.bd
  have q := b.1.bd
  rw [a.2] at p
  rw [b.2] at q
  have A := hc.bd.mul p
  have B := hc.bd.not.mul q
  refine Bd.ok (k := tosses c + max (tosses d) (tosses e)) ⟨?_, fun j => ?_⟩ h
  · show (Kv394.add _ _).length = _
    rw [add_len, A.len, B.len]; omega
  · show co (Kv394.add _ _) j ≤ _
    rw [add_co (by rw [A.len, B.len]), mul_co hc.pos (by rw [p.len]; omega), mul_co (by rw [not_len]; exact hc.pos) (by rw [q.len]; omega), ← vander]
    refine Nat.le_trans (Nat.add_le_add (cv_le (f' := co c) (fun _ _ => Nat.le_refl _) (fun i _ => p.le i)) (cv_le (f' := co (Kv394.not_ c)) (fun _ _ => Nat.le_refl _) (fun i _ => q.le i))) ?_
    rw [← cv_add_l]
    exact cv_le (fun i _ => Nat.le_of_eq (not_sum hc i)) (fun _ _ => Nat.le_refl _)

/-! ### pow, of -/
theorem Bd.one : Bd [1] 0 := ⟨rfl, fun j => by
  cases j with
  | zero => decide
  | succ j => exact Nat.zero_le _⟩
theorem Bd.pow {d : List Nat} {m : Nat} (h : Bd d m) : ∀ n, Bd (Kv394.pow d n) (m * n)
  | 0 => Bd.one
  | n + 1 => by
    have := h.mul (h.pow n)
    rw [show m * (n + 1) = m + m * n by rw [Nat.mul_succ]; omega]
    exact this
theorem pow_co {d : List Nat} {m : Nat} (h : Bd d m) (n j : Nat) : co (Kv394.pow d (n + 1)) j = cv (co d) (co (Kv394.pow d n)) j :=
  mul_co (by rw [h.len]; omega) (by rw [(h.pow n).len]; omega) j
/-- so many yes, so many no, of one coin -/
def yn (d : List Nat) (h t : Nat) : Fu := cv (co (Kv394.pow d h)) (co (Kv394.pow (Kv394.not_ d) t))
theorem yn_yes {d : List Nat} {m : Nat} (hd : Bd d m) (h t j : Nat) : cv (co d) (yn d h t) j = yn d (h + 1) t j := by
  unfold yn
  rw [← cv_assoc]
  exact cv_congr (fun i _ => (pow_co hd h i).symm) (fun _ _ => rfl)
theorem yn_no {d : List Nat} {m : Nat} (hd : Bd d m) (h t j : Nat) : cv (co (Kv394.not_ d)) (yn d h t) j = yn d h (t + 1) j := by
  unfold yn
  rw [← cv_assoc, cv_congr (f' := cv (co (Kv394.pow d h)) (co (Kv394.not_ d))) (fun i _ => cv_comm i _ _) (fun _ _ => rfl), cv_assoc]
  exact cv_congr (fun _ _ => rfl) (fun i _ => (pow_co hd.not t i).symm)
/-- the binomial theorem: tossed by a coin, all ways together are all there are -/
theorem all_ways {d : List Nat} {m : Nat} (hd : Bd d m) : ∀ (k j : Nat), sm (k + 1) (fun h => choose k h * yn d h (k - h) j) = choose (k * m) j
  | 0, j => by
    show 0 + choose 0 0 * yn d 0 0 j = choose (0 * m) j
    rw [Nat.zero_mul, choose_zero, Nat.one_mul, Nat.zero_add]
    show cv (co [1]) (co [1]) j = choose 0 j
    have e : ∀ i, co [1] i = choose 0 i := fun i => by
      cases i with
      | zero => rfl
      | succ i => rfl
    rw [cv_congr (fun i _ => e i) (fun i _ => e i), cv_one]
  | k + 1, j => by
    have ih := all_ways hd k
    have R : choose ((k + 1) * m) j = cv (fun i => co d i + co (Kv394.not_ d) i) (fun i => sm (k + 1) (fun h => choose k h * yn d h (k - h) i)) j := by
      rw [cv_congr (f' := choose m) (g' := choose (k * m)) (fun i _ => ?_) (fun i _ => ih i), vander]
      · congr 1; rw [Nat.succ_mul]; omega
      · rw [not_co (by rw [hd.len]; omega), hd.tosses]; have := hd.le i; omega
    rw [R, cv_add_l, cv_sm_r, cv_sm_r]
    have A : sm (k + 1) (fun h => choose k h * cv (co d) (yn d h (k - h)) j) = sm (k + 1) (fun h => choose k h * yn d (h + 1) (k - h) j) := sm_congr fun h _ => by rw [yn_yes hd]
    have B : sm (k + 1) (fun h => choose k h * cv (co (Kv394.not_ d)) (yn d h (k - h)) j) = sm (k + 1) (fun h => choose k h * yn d h (k + 1 - h) j) := sm_congr fun h hh => by
      rw [yn_no hd, show k - h + 1 = k + 1 - h by omega]
    rw [A, B, sm_head]
    have C : sm (k + 1) (fun i => choose (k + 1) (i + 1) * yn d (i + 1) (k + 1 - (i + 1)) j) = sm (k + 1) (fun h => choose k h * yn d (h + 1) (k - h) j) + sm (k + 1) (fun h => choose k (h + 1) * yn d (h + 1) (k + 1 - (h + 1)) j) := by
      rw [← sm_add]
      apply sm_congr
      intro i _
      show (choose k i + choose k (i + 1)) * _ = _
      rw [Nat.add_mul, show k + 1 - (i + 1) = k - i by omega]
    have D : sm (k + 1) (fun h => choose k h * yn d h (k + 1 - h) j) = choose k 0 * yn d 0 (k + 1 - 0) j + sm (k + 1) (fun h => choose k (h + 1) * yn d (h + 1) (k + 1 - (h + 1)) j) := by
      have e := sm_head (fun h => choose k h * yn d h (k + 1 - h) j) (k + 1)
      have z : choose k (k + 1) = 0 := choose_out _ _ (by omega)
      have l : sm (k + 1 + 1) (fun h => choose k h * yn d h (k + 1 - h) j) = sm (k + 1) (fun h => choose k h * yn d h (k + 1 - h) j) := by
        show sm (k + 1) _ + choose k (k + 1) * _ = _
        rw [z, Nat.zero_mul, Nat.add_zero]
      rw [← l, e]
    rw [C, D, choose_zero, choose_zero]; omega
/-! ### turns of a loop by their number -/
def itn {α : Type} (f : Nat → α → α) : Nat → α → α
  | 0, a => a
  | n + 1, a => f n (itn f n a)
theorem itn_congr {α : Type} {f g : Nat → α → α} {a : α} : ∀ {n : Nat}, (∀ i, i < n → f i (itn g i a) = g i (itn g i a)) → itn f n a = itn g n a
  | 0, _ => rfl
  | n + 1, h => by
    show f n (itn f n a) = g n (itn g n a)
    rw [itn_congr (n := n) (fun i hi => h i (by omega)), h n (by omega)]
theorem foldl_zipIdx {α β : Type} (d : α) (g : β → α → Nat → β) : ∀ (n : Nat) (l : List α) (a : β), n ≤ l.length → (l.take n).zipIdx.foldl (fun s q => g s q.1 q.2) a = itn (fun h s => g s (l.getD h d) h) n a
  | 0, l, a, _ => rfl
  | n + 1, l, a, h => by
    rw [List.take_succ, get?_of d (by omega), List.zipIdx_append, List.foldl_append, foldl_zipIdx d g n l a (by omega)]
    simp only [Option.toList, List.length_take]
    rw [show min n l.length = n by omega]
    simp [itn]
theorem of_itn (c d : List Nat) : Kv394.of_ c d = itn (fun h s => Kv394.add s ((Kv394.mul (Kv394.pow d h) (Kv394.pow (Kv394.not_ d) (tosses c - h))).map fun x => co c h * x)) c.length (List.replicate (tosses c * tosses d + 1) 0) := by
  have e := foldl_zipIdx 0 (fun s (x : Nat) h => Kv394.add s ((Kv394.mul (Kv394.pow d h) (Kv394.pow (Kv394.not_ d) (tosses c - h))).map fun y => x * y)) c.length c (List.replicate (tosses c * tosses d + 1) 0) (Nat.le_refl _)
  rw [List.take_length] at e
  exact e
theorem co_map_mul (a : Nat) (l : List Nat) (j : Nat) : co (l.map fun x => a * x) j = a * co l j := by
  unfold co
  rw [List.getD_eq_getElem?_getD, List.getD_eq_getElem?_getD, List.getElem?_map]
  cases l[j]? <;> simp
theorem co_replicate (n j : Nat) : co (List.replicate n 0) j = 0 := by
  by_cases h : j < n
  · exact getD_in (by rw [List.getElem?_replicate]; simp [h])
  · exact getD_out (by simpa using h)
/-- the rows of of_, turn by turn -/
theorem of_turn {c d : List Nat} (hc : Ok c) (hd : Ok d) : ∀ n, n ≤ c.length →
    (itn (fun h s => Kv394.add s ((Kv394.mul (Kv394.pow d h) (Kv394.pow (Kv394.not_ d) (tosses c - h))).map fun x => co c h * x)) n (List.replicate (tosses c * tosses d + 1) 0)).length = tosses c * tosses d + 1 ∧
    ∀ j, co (itn (fun h s => Kv394.add s ((Kv394.mul (Kv394.pow d h) (Kv394.pow (Kv394.not_ d) (tosses c - h))).map fun x => co c h * x)) n (List.replicate (tosses c * tosses d + 1) 0)) j = sm n fun h => co c h * yn d h (tosses c - h) j
  | 0, _ => ⟨by simp [itn], fun j => co_replicate _ _⟩
  | n + 1, hn => by
    have ih := of_turn hc hd n (by omega)
    have b1 := hd.bd.pow n
    have b2 := hd.bd.not.pow (tosses c - n)
    have L : ((Kv394.mul (Kv394.pow d n) (Kv394.pow (Kv394.not_ d) (tosses c - n))).map fun x => co c n * x).length = tosses c * tosses d + 1 := by
      rw [List.length_map, (b1.mul b2).len, ← Nat.mul_add, show n + (tosses c - n) = tosses c by have := len_tosses hc.pos; omega, Nat.mul_comm]
    refine ⟨?_, fun j => ?_⟩
    · show (Kv394.add _ _).length = _
      rw [add_len, ih.1, L]; omega
    · show co (Kv394.add _ _) j = sm n (fun h => co c h * yn d h (tosses c - h) j) + co c n * yn d n (tosses c - n) j
      rw [add_co (by rw [ih.1, L]), ih.2, co_map_mul, mul_co (by rw [b1.len]; omega) (by rw [b2.len]; omega)]; rfl
theorem of_bd {c d : List Nat} (hc : Ok c) (hd : Ok d) : Bd (Kv394.of_ c d) (tosses c * tosses d) := by
  have t := of_turn hc hd c.length (Nat.le_refl _)
  rw [← of_itn] at t
  refine ⟨t.1, fun j => ?_⟩
  rw [t.2, ← all_ways hd.bd (tosses c) j, len_tosses hc.pos]
  exact sm_le fun h _ => Nat.mul_le_mul_right _ (hc.le h)
theorem Ok.of_ {c d : List Nat} (hc : Ok c) (hd : Ok d) (h : tosses c * tosses d ≤ 10) : Ok (Kv394.of_ c d) := (of_bd hc hd).ok h

/-! ### less, least, coinOf -/
theorem Ok.less {c d : List Nat} (h : Kv394.less c = some d) : Ok d := by
  unfold Kv394.less at h
  split at h
  · split at h
    · rename_i x l _ hk
      cases h
      exact (ok_iff _).mp hk
    · cases h
  · cases h
theorem Ok.least : ∀ (n : Nat) {c : List Nat}, Ok c → Ok (Kv394.least n c)
  | 0, c, h => h
  | n + 1, c, h => by
    unfold Kv394.least
    split
    · exact h
    · rename_i d e
      exact Ok.least n (Ok.less e)
theorem rowOf_len (k : Nat) (p : List Int) : (Kv394.rowOf k p).length = k + 1 := by simp [Kv394.rowOf]
theorem Ok.coinOf {p : List Int} {c : List Nat} (h : Kv394.coinOf p = some c) : Ok c := by
  unfold Kv394.coinOf at h
  split at h
  · cases h
  · rename_i k e
    cases h
    have m := List.mem_of_find?_eq_some e
    have f := List.find?_some e
    rw [Bool.and_eq_true] at f
    have hk : k < 11 := List.mem_range.mp m
    have g := f.2
    unfold Kv394.fits at g
    rw [all_zipIdx (p := fun (x : Int) j => decide (0 ≤ x) && decide (x ≤ ((choose k j : Nat) : Int)))] at g
    refine Bd.ok (k := k) ⟨by rw [List.length_map, rowOf_len], fun j => ?_⟩ (by omega)
    by_cases hj : j < (Kv394.rowOf k p).length
    · have q := g j _ (get?_of 0 hj)
      rw [Bool.and_eq_true, decide_eq_true_iff, decide_eq_true_iff] at q
      have e1 : co ((Kv394.rowOf k p).map Int.toNat) j = ((Kv394.rowOf k p).getD j 0).toNat := getD_in (by rw [List.getElem?_map, get?_of 0 hj]; rfl)
      rw [e1]; omega
    · rw [co, getD_out (by rw [List.length_map]; omega)]; exact Nat.zero_le _
end Mc

end
section
set_option linter.all false
/-! The machine's states: every coin is one, at most eight, at most ten changes. -/
namespace Mc
open Kv394 (choose tosses ok)
structure GoodCoins (l : List (List Nat)) : Prop where
  few : l.length ≤ 8
  all : ∀ c, c ∈ l → Ok c
structure GoodAbs (a : Kv394.Abs) : Prop where
  coins : GoodCoins a.coins
  few : a.past.length ≤ 10
  past : ∀ l, l ∈ a.past → GoodCoins l
theorem GoodCoins.nil : GoodCoins [] := ⟨by decide, fun c h => nomatch h⟩
theorem GoodAbs.nil : GoodAbs ⟨[], []⟩ := ⟨.nil, by decide, fun l h => nomatch h⟩
theorem GoodAbs.changed {a : Kv394.Abs} (g : GoodAbs a) {l : List (List Nat)} (h : GoodCoins l) : GoodAbs ⟨l, (a.coins :: a.past).take 10⟩ := by
  refine ⟨h, by rw [List.length_take]; omega, fun m hm => ?_⟩
  rcases List.mem_cons.mp (List.mem_of_mem_take hm) with e | e
  · rw [e]; exact g.coins
  · exact g.past m e
theorem GoodAbs.add {a : Kv394.Abs} (g : GoodAbs a) {c : List Nat} (h : Ok c) : GoodAbs (a.add c).1 := by
  unfold Kv394.Abs.add
  split
  · exact g
  · rename_i hl
    refine g.changed ⟨by rw [List.length_append]; simp; omega, fun d hd => ?_⟩
    rcases List.mem_append.mp hd with e | e
    · exact g.coins.all d e
    · rw [List.mem_singleton.mp e]; exact h
theorem GoodAbs.coin {a : Kv394.Abs} (g : GoodAbs a) {i : Nat} (h : ¬ a.no i = true) : Ok (a.coin i) := by
  unfold Kv394.Abs.no at h
  rw [decide_eq_true_iff] at h
  exact g.coins.all _ (List.mem_of_getElem? (get?_of [] (by omega)))
end Mc

end
section
set_option linter.all false
/-! What each loop of the program reckons, place by place, against the specification's functions. -/
namespace Mc
open Kv394 (choose tosses ok)
/-- a coin's row as the program's whole numbers -/
def iN (c : List Nat) : List Int := c.map Int.ofNat
theorem iN_len (c : List Nat) : (iN c).length = c.length := by simp [iN]
theorem iN_getD (c : List Nat) (j : Nat) : (iN c).getD j 0 = (co c j : Int) := by
  unfold iN co
  rw [List.getD_eq_getElem?_getD, List.getD_eq_getElem?_getD, List.getElem?_map]
  cases c[j]? <;> rfl
theorem iN_get {c : List Nat} {j : Nat} (h : j < c.length) : (iN c)[j]? = some (co c j : Int) := by
  rw [get?_of 0 (by rw [iN_len]; exact h), iN_getD]
theorem iN_nats {l : List Int} (h : ∀ x ∈ l, 0 ≤ x) : iN (l.map Int.toNat) = l := by
  induction l with
  | nil => rfl
  | cons x l ih =>
    show Int.ofNat x.toNat :: iN (l.map Int.toNat) = _
    rw [ih (fun y hy => h y (List.mem_cons_of_mem _ hy))]
    have := h x (List.mem_cons_self ..)
    congr 1
    exact Int.toNat_of_nonneg this
theorem iN_inj {c d : List Nat} (h : iN c = iN d) : c = d := by
  have : (iN c).map Int.toNat = (iN d).map Int.toNat := by rw [h]
  unfold iN at this
  rw [List.map_map, List.map_map] at this
  have e : (Int.toNat ∘ Int.ofNat) = id := by funext x; rfl
  rwa [e, List.map_id, List.map_id] at this
theorem take_more {α : Type} {l : List α} {i : Nat} {x : α} (h : l[i]? = some x) : l.take (i + 1) = l.take i ++ [x] := by
  rw [List.take_succ, h]; rfl
/-! ### fits, is_coin -/
theorem fits_iff {k : Nat} {l : List Int} : Kv394.fits k l = true ↔ ∀ j, j < l.length → 0 ≤ l.getD j 0 ∧ l.getD j 0 ≤ (choose k j : Int) := by
  unfold Kv394.fits
  rw [all_zipIdx (p := fun (x : Int) j => decide (0 ≤ x) && decide (x ≤ ((choose k j : Nat) : Int)))]
  constructor
  · intro h j hj
    have := h j _ (get?_of 0 hj)
    rwa [Bool.and_eq_true, decide_eq_true_iff, decide_eq_true_iff] at this
  · intro h j x hx
    have hj : j < l.length := (List.getElem?_eq_some_iff.mp hx).1
    have := h j hj
    rw [getD_in hx] at this
    rw [Bool.and_eq_true, decide_eq_true_iff, decide_eq_true_iff]; exact this
theorem fits_not {k : Nat} {l : List Int} {j : Nat} (hj : j < l.length) (h : ¬ (0 ≤ l.getD j 0 ∧ l.getD j 0 ≤ (choose k j : Int))) : Kv394.fits k l = false := by
  cases e : Kv394.fits k l with
  | false => rfl
  | true => exact absurd (fits_iff.mp e j hj) h
theorem fits_coin {c : List Nat} (h : Ok c) : Kv394.fits (tosses c) (iN c) = true := fits_iff.mpr fun j _ => by
  rw [iN_getD]; have := h.le j; omega
theorem ok_fits {l : List Int} (h : ∀ x ∈ l, 0 ≤ x) : ok (l.map Int.toNat) = (decide (0 ≤ (l.length : Int) - 1) && (decide ((l.length : Int) - 1 ≤ 10) && Kv394.fits (l.length - 1) l)) := by
  rw [Bool.eq_iff_iff, ok_iff, Bool.and_eq_true, Bool.and_eq_true, decide_eq_true_iff, decide_eq_true_iff, fits_iff]
  have e := iN_nats h
  have hl : (l.map Int.toNat).length = l.length := by simp
  have ht : tosses (l.map Int.toNat) = l.length - 1 := by unfold tosses; rw [hl]
  have g : ∀ j, l.getD j 0 = (co (l.map Int.toNat) j : Int) := fun j => by rw [← iN_getD, e]
  constructor
  · rintro ⟨a, b, q⟩
    refine ⟨by omega, by omega, fun j _ => ?_⟩
    have := q j
    rw [ht] at this
    rw [g]; omega
  · rintro ⟨a, b, q⟩
    refine ⟨by omega, by omega, fun j => ?_⟩
    rw [ht]
    by_cases hj : j < l.length
    · have := q j hj
      rw [g] at this; omega
    · rw [co, getD_out (by omega)]; exact Nat.zero_le _
/-! ### more -/
theorem more_first {c : List Nat} (h : 1 ≤ c.length) : (iN (Kv394.more c)).take 1 = [(co c 0 : Int)] := by
  rw [take_more (i := 0) (x := (co c 0 : Int))]
  · rfl
  · rw [iN_get (by rw [more_len]; omega), more_co]; simp
theorem more_mid {c : List Nat} {i : Nat} (h : 1 + i < c.length) : (iN (Kv394.more c)).take (i + 1 + 1) = (iN (Kv394.more c)).take (i + 1) ++ [(co c (1 + i) : Int) + (co c i : Int)] := by
  apply take_more
  rw [iN_get (by rw [more_len]; omega), more_co, if_neg (by omega), show i + 1 - 1 = i by omega, show 1 + i = i + 1 by omega]
  simp
theorem more_end {c : List Nat} (h : 1 ≤ c.length) : (iN (Kv394.more c)).take c.length ++ [(co c (c.length - 1) : Int)] = iN (Kv394.more c) := by
  rw [← take_more (i := c.length), List.take_of_length_le (by rw [iN_len, more_len]; omega)]
  rw [iN_get (by rw [more_len]; omega), more_co, if_neg (by omega), co, getD_out (Nat.le_refl _)]
  simp
/-! ### not -/
theorem not_turn {c : List Nat} (h : Ok c) {i : Nat} (hi : i < c.length) : (iN (Kv394.not_ c)).take (i + 1) = (iN (Kv394.not_ c)).take i ++ [(choose (tosses c) i : Int) - (co c i : Int)] := by
  apply take_more
  rw [iN_get (by rw [not_len]; exact hi), not_co h.pos]
  have := h.le i
  congr 1; omega
/-! ### add -/
theorem add_turn {c d : List Nat} (h : c.length = d.length) {i : Nat} (hi : i < c.length) : (iN (Kv394.add c d)).take (i + 1) = (iN (Kv394.add c d)).take i ++ [(co c i : Int) + (co d i : Int)] := by
  apply take_more
  rw [iN_get (by rw [add_len]; omega), add_co h]; simp
/-! ### less -/
/-- what the last but one toss must say, by turns -/
def alt (c : List Nat) : Nat → Int
  | 0 => (co c 0 : Int)
  | j + 1 => (co c (j + 1) : Int) - alt c j
/-- the number ahead of turn i -/
def bef (c : List Nat) : Nat → Int
  | 0 => 0
  | j + 1 => alt c j
theorem alt_bef (c : List Nat) : ∀ i, alt c i = (co c i : Int) - bef c i
  | 0 => by show (co c 0 : Int) = (co c 0 : Int) - 0; omega
  | i + 1 => rfl
def alts (c : List Nat) (n : Nat) : List Int := (List.range n).map (alt c)
theorem alts_len (c : List Nat) (n : Nat) : (alts c n).length = n := by simp [alts]
theorem alts_succ (c : List Nat) (n : Nat) : alts c (n + 1) = alts c n ++ [alt c n] := by
  unfold alts; rw [List.range_succ, List.map_append]; rfl
theorem alts_getD (c : List Nat) {n j : Nat} (h : j < n) : (alts c n).getD j 0 = alt c j := getD_map_range _ 0 h
/-- lessRow from the r-th place, if what went before is alright -/
theorem lessRow_some {c : List Nat} {k : Nat} (hl : c.length = k + 1) (hp : ∀ j, j < k → 0 ≤ alt c j) (he : bef c k = (co c k : Int)) : ∀ (n i : Nat), i + n = k → Kv394.lessRow (c.drop i) (bef c i).toNat = some (((alts c k).drop i).map Int.toNat)
  | 0, i, e => by
    have ei : i = k := by omega
    subst ei
    have d : c.drop i = [co c i] := by
      rw [List.drop_eq_getElem_cons (by omega), List.drop_of_length_le (by omega)]
      congr 1
      exact (getD_in (List.getElem?_eq_getElem (by omega))).symm
    rw [d, List.drop_of_length_le (by rw [alts_len]; omega)]
    show (if co c i = (bef c i).toNat then some [] else none) = some []
    rw [if_pos (by rw [he]; rfl)]
  | n + 1, i, e => by
    have hi : i < k := by omega
    have d : c.drop i = co c i :: c.drop (i + 1) := by
      rw [List.drop_eq_getElem_cons (by omega)]
      congr 1
      exact (getD_in (List.getElem?_eq_getElem (by omega))).symm
    have d2 : ∃ y l, c.drop (i + 1) = y :: l := ⟨_, _, List.drop_eq_getElem_cons (by omega)⟩
    obtain ⟨y, l, d2⟩ := d2
    have b0 : 0 ≤ bef c i := by
      cases i with
      | zero => exact Int.le_refl 0
      | succ i => exact hp i (by omega)
    have a0 := hp i hi
    rw [alt_bef] at a0
    have ih := lessRow_some hl hp he n (i + 1) (by omega)
    have eb : (bef c (i + 1)).toNat = co c i - (bef c i).toNat := by
      show (alt c i).toNat = _
      rw [alt_bef]; omega
    rw [eb, d2] at ih
    rw [d, d2]
    show (if co c i < (bef c i).toNat then none else match Kv394.lessRow (y :: l) (co c i - (bef c i).toNat) with
      | none => none
      | some m => some ((co c i - (bef c i).toNat) :: m)) = _
    rw [if_neg (by omega), ih]
    have da : (alts c k).drop i = alt c i :: (alts c k).drop (i + 1) := by
      rw [List.drop_eq_getElem_cons (by rw [alts_len]; omega)]
      congr 1
      rw [← alts_getD c hi]
      exact (getD_in (List.getElem?_eq_getElem (by rw [alts_len]; omega))).symm
    rw [da]
    show some ((co c i - (bef c i).toNat) :: _) = some ((alt c i).toNat :: _)
    rw [← eb]; rfl
theorem lessRow_inv {c : List Nat} {k : Nat} (hl : c.length = k + 1) : ∀ (n i : Nat) (m : List Nat), i + n = k → 0 ≤ bef c i → Kv394.lessRow (c.drop i) (bef c i).toNat = some m → (∀ j, i ≤ j → j < k → 0 ≤ alt c j) ∧ bef c k = (co c k : Int)
  | 0, i, m, e, b0, h => by
    have ei : i = k := by omega
    subst ei
    have d : c.drop i = [co c i] := by
      rw [List.drop_eq_getElem_cons (by omega), List.drop_of_length_le (by omega)]
      congr 1
      exact (getD_in (List.getElem?_eq_getElem (by omega))).symm
    rw [d] at h
    have h' : (if co c i = (bef c i).toNat then some [] else none) = some m := h
    by_cases q : co c i = (bef c i).toNat
    · exact ⟨fun j h1 h2 => absurd h2 (by omega), by omega⟩
    · rw [if_neg q] at h'; cases h'
  | n + 1, i, m, e, b0, h => by
    have hi : i < k := by omega
    have d : c.drop i = co c i :: c.drop (i + 1) := by
      rw [List.drop_eq_getElem_cons (by omega)]
      congr 1
      exact (getD_in (List.getElem?_eq_getElem (by omega))).symm
    have d2 : ∃ y l, c.drop (i + 1) = y :: l := ⟨_, _, List.drop_eq_getElem_cons (by omega)⟩
    obtain ⟨y, l, d2⟩ := d2
    rw [d, d2] at h
    have h' : (if co c i < (bef c i).toNat then none else match Kv394.lessRow (y :: l) (co c i - (bef c i).toNat) with
      | none => none
      | some m => some ((co c i - (bef c i).toNat) :: m)) = some m := h
    by_cases q : co c i < (bef c i).toNat
    · rw [if_pos q] at h'; cases h'
    · rw [if_neg q] at h'
      have a0 : 0 ≤ alt c i := by rw [alt_bef]; omega
      have eb : (bef c (i + 1)).toNat = co c i - (bef c i).toNat := by
        show (alt c i).toNat = _
        rw [alt_bef]; omega
      cases g : Kv394.lessRow (y :: l) (co c i - (bef c i).toNat) with
      | none => rw [g] at h'; cases h'
      | some m' =>
        rw [← eb, ← d2] at g
        have ih := lessRow_inv hl n (i + 1) m' (by omega) a0 g
        refine ⟨fun j h1 h2 => ?_, ih.2⟩
        by_cases e2 : j = i
        · subst e2; exact a0
        · exact ih.1 j (by omega) h2
/-- less, as the program finds it -/
theorem less_eq {c : List Nat} (h : 1 ≤ c.length) (hm : c.length ≤ 11) : Kv394.less c = if tosses c = 0 then none else if bef c (tosses c) = (co c (tosses c) : Int) ∧ Kv394.fits (tosses c - 1) (alts c (tosses c)) = true then some ((alts c (tosses c)).map Int.toNat) else none := by
  have hl : c.length = tosses c + 1 := len_tosses h
  unfold Kv394.less
  generalize hk : tosses c = k at hl ⊢
  have z0 : (bef c 0).toNat = 0 := rfl
  by_cases k0 : k = 0
  · subst k0
    rw [if_pos rfl]
    match c, hl with
    | [x], _ =>
      by_cases e : x = 0
      · subst e; rfl
      · have g : Kv394.lessRow [x] 0 = none := if_neg e
        rw [g]
  · rw [if_neg k0]
    by_cases q : bef c k = (co c k : Int) ∧ Kv394.fits (k - 1) (alts c k) = true
    · rw [if_pos q]
      have f := fits_iff.mp q.2
      have hp : ∀ j, j < k → 0 ≤ alt c j := fun j hj => by
        have := (f j (by rw [alts_len]; exact hj)).1
        rwa [alts_getD c hj] at this
      have s := lessRow_some hl hp q.1 k 0 (by omega)
      rw [List.drop_zero, List.drop_zero, z0] at s
      rw [s]
      have L : ((alts c k).map Int.toNat).length = k := by rw [List.length_map, alts_len]
      obtain ⟨x, l, e⟩ : ∃ x l, (alts c k).map Int.toNat = x :: l := by
        cases e : (alts c k).map Int.toNat with
        | nil => rw [e] at L; simp at L; omega
        | cons x l => exact ⟨x, l, rfl⟩
      have o : ok ((alts c k).map Int.toNat) = true := by
        rw [ok_fits (fun x hx => ?_)]
        · rw [alts_len, Bool.and_eq_true, Bool.and_eq_true, decide_eq_true_iff, decide_eq_true_iff]
          exact ⟨by omega, by omega, q.2⟩
        · obtain ⟨j, hj, rfl⟩ := List.mem_map.mp hx
          exact hp j (List.mem_range.mp hj)
      rw [e] at o ⊢
      show (if ok (x :: l) = true then some (x :: l) else none) = _
      rw [if_pos o]
    · rw [if_neg q]
      cases g : Kv394.lessRow c 0 with
      | none => rfl
      | some m =>
        have g' : Kv394.lessRow (c.drop 0) (bef c 0).toNat = some m := by rw [List.drop_zero, z0]; exact g
        have i := lessRow_inv hl k 0 m (by omega) (Int.le_refl 0) g'
        have s := lessRow_some hl (fun j hj => i.1 j (by omega) hj) i.2 k 0 (by omega)
        rw [List.drop_zero, List.drop_zero, z0, g] at s
        have em := Option.some.inj s
        match m, em with
        | [], _ => rfl
        | x :: l, em =>
          show (if ok (x :: l) = true then some (x :: l) else none) = none
          rw [if_neg]
          intro o
          rw [em, ok_fits (fun x hx => ?_)] at o
          · rw [alts_len, Bool.and_eq_true, Bool.and_eq_true] at o
            exact q ⟨i.2, o.2.2⟩
          · obtain ⟨j, hj, rfl⟩ := List.mem_map.mp hx
            exact i.1 j (by omega) (List.mem_range.mp hj)
end Mc

end
section
set_option linter.all false
/-! and, or, if, of, by_heads, the coin of a polynomial: as the program's loops reckon them. -/
namespace Mc
open Kv394 (choose tosses ok)
/-! ### both -/
def bothF (c d : List Nat) (i j t : Nat) : Nat := sm i (fun k => if k ≤ t then co c k * co d (t - k) else 0) + if i ≤ t ∧ t < i + j then co c i * co d (t - i) else 0
def bothT (c d : List Nat) (i j : Nat) : List Int := (List.range (c.length + d.length - 1)).map fun t => (bothF c d i j t : Int)
theorem bothT_len (c d : List Nat) (i j : Nat) : (bothT c d i j).length = c.length + d.length - 1 := by simp [bothT]
theorem bothT_getD (c d : List Nat) (i j : Nat) {t : Nat} (h : t < c.length + d.length - 1) : (bothT c d i j).getD t 0 = (bothF c d i j t : Int) := getD_map_range _ 0 h
theorem bothT_start (c d : List Nat) : bothT c d 0 0 = List.replicate (c.length + d.length - 1) 0 := by
  apply ext_getD 0 (by rw [bothT_len, List.length_replicate])
  intro t ht
  rw [bothT_len] at ht
  rw [bothT_getD c d 0 0 ht, getD_in (x := (0 : Int)) (by rw [List.getElem?_replicate, if_pos ht])]
  unfold bothF
  rw [if_neg (by omega)]; rfl
theorem set_getD {l : List Int} {k : Nat} {v : Int} (hk : k < l.length) (t : Nat) : (l.set k v).getD t 0 = if t = k then v else l.getD t 0 := by
  rw [List.getD_eq_getElem?_getD, List.getD_eq_getElem?_getD, List.getElem?_set]
  by_cases e : k = t
  · subst e; rw [if_pos rfl, if_pos hk, if_pos rfl]; rfl
  · rw [if_neg e, if_neg (fun z => e z.symm)]
theorem bothT_turn {c d : List Nat} {i j : Nat} (hi : i < c.length) (hj : j < d.length) : (bothT c d i j).set (i + j) ((bothT c d i j).getD (i + j) 0 + (co c i : Int) * (co d j : Int)) = bothT c d i (j + 1) := by
  apply ext_getD 0 (by rw [List.length_set, bothT_len, bothT_len])
  intro t ht
  rw [List.length_set, bothT_len] at ht
  have hij : i + j < c.length + d.length - 1 := by omega
  rw [set_getD (by rw [bothT_len]; exact hij), bothT_getD c d i (j + 1) ht, bothT_getD c d i j hij, bothT_getD c d i j ht]
  unfold bothF
  by_cases e : t = i + j
  · subst e
    rw [if_pos rfl, if_neg (by omega), if_pos (by omega), show i + j - i = j by omega]
    push_cast; omega
  · rw [if_neg e]
    by_cases q : i ≤ t ∧ t < i + j
    · rw [if_pos q, if_pos (by omega)]
    · rw [if_neg q, if_neg (by omega)]
theorem bothT_next {c d : List Nat} {i : Nat} : bothT c d i d.length = bothT c d (i + 1) 0 := by
  apply ext_getD 0 (by rw [bothT_len, bothT_len])
  intro t ht
  rw [bothT_len] at ht
  rw [bothT_getD _ _ _ _ ht, bothT_getD _ _ _ _ ht]
  unfold bothF
  rw [if_neg (show ¬ (i + 1 ≤ t ∧ t < i + 1 + 0) by omega)]
  show ((_ + _ : Nat) : Int) = ((sm i _ + (if i ≤ t then co c i * co d (t - i) else 0) + 0 : Nat) : Int)
  rw [Nat.add_zero]
  congr 2
  by_cases q : i ≤ t
  · rw [if_pos q]
    by_cases q2 : t < i + d.length
    · rw [if_pos ⟨q, q2⟩]
    · rw [if_neg (by omega), co, co, getD_out (l := d) (by omega), Nat.mul_zero]
  · rw [if_neg q, if_neg (by omega)]
theorem bothT_end (c d : List Nat) : bothT c d c.length 0 = iN (Kv394.mul c d) := by
  unfold bothT iN Kv394.mul
  rw [List.map_map]
  apply List.map_congr_left
  intro t _
  show ((bothF c d c.length 0 t : Nat) : Int) = Int.ofNat ((List.range c.length).map fun i => if i ≤ t then c.getD i 0 * d.getD (t - i) 0 else 0).sum
  rw [sum_range]
  unfold bothF
  rw [if_neg (by omega)]; rfl
theorem mul_comm_ {c d : List Nat} (hc : 1 ≤ c.length) (hd : 1 ≤ d.length) : Kv394.mul c d = Kv394.mul d c := by
  apply ext_getD 0 (by rw [mul_len, mul_len]; omega)
  intro j _
  show co _ j = co _ j
  rw [mul_co hc hd, mul_co hd hc, cv_comm]
theorem pow_turn {d : List Nat} {m : Nat} (h : Bd d m) (n : Nat) : Kv394.mul (Kv394.pow d n) d = Kv394.pow d (n + 1) :=
  mul_comm_ (by rw [(h.pow n).len]; omega) (by rw [h.len]; omega)
/-! ### of -/
def ofT (c d : List Nat) (n : Nat) : List Nat := itn (fun h s => Kv394.add s ((Kv394.mul (Kv394.pow d h) (Kv394.pow (Kv394.not_ d) (tosses c - h))).map fun x => co c h * x)) n (List.replicate (tosses c * tosses d + 1) 0)
theorem ofT_succ (c d : List Nat) (n : Nat) : ofT c d (n + 1) = Kv394.add (ofT c d n) ((Kv394.mul (Kv394.pow d n) (Kv394.pow (Kv394.not_ d) (tosses c - n))).map fun x => co c n * x) := rfl
theorem ofT_end (c d : List Nat) : ofT c d c.length = Kv394.of_ c d := (of_itn c d).symm
theorem ofT_len {c d : List Nat} (hc : Ok c) (hd : Ok d) {n : Nat} (h : n ≤ c.length) : (ofT c d n).length = tosses c * tosses d + 1 := (of_turn hc hd n h).1
theorem ofT_one_len {c d : List Nat} (hc : Ok c) (hd : Ok d) {n : Nat} (h : n < c.length) : (Kv394.mul (Kv394.pow d n) (Kv394.pow (Kv394.not_ d) (tosses c - n))).length = tosses c * tosses d + 1 := by
  rw [((hd.bd.pow n).mul (hd.bd.not.pow (tosses c - n))).len, ← Nat.mul_add, show n + (tosses c - n) = tosses c by have := len_tosses hc.pos; omega, Nat.mul_comm]
/-! ### polynomials -/
def smI (n : Nat) (f : Nat → Int) : Int := match n with
  | 0 => 0
  | n + 1 => smI n f + f n
theorem sumI_range (f : Nat → Int) : ∀ n, ((List.range n).map f).sum = smI n f
  | 0 => rfl
  | n + 1 => by rw [List.range_succ, List.map_append, List.sum_append, sumI_range f n]; simp [smI]
theorem smI_congr {f g : Nat → Int} : ∀ {n}, (∀ i, i < n → f i = g i) → smI n f = smI n g
  | 0, _ => rfl
  | n + 1, h => by
    show smI n f + f n = smI n g + g n
    rw [smI_congr (fun i hi => h i (by omega)), h n (by omega)]
theorem smI_tail {f : Nat → Int} {m : Nat} : ∀ {n}, (∀ i, m ≤ i → i < m + n → f i = 0) → smI (m + n) f = smI m f
  | 0, _ => rfl
  | n + 1, h => by
    show smI (m + n) f + f (m + n) = smI m f
    rw [smI_tail (fun i h1 h2 => h i h1 (by omega)), h (m + n) (by omega) (by omega)]; omega
def bhT (p : List Int) (k h n : Nat) : Int := smI n fun i => p.getD i 0 * (choose (k - i) (h - i) : Int)
theorem rowOf_get (p : List Int) {k h : Nat} (hh : h ≤ k) : (Kv394.rowOf k p)[h]? = some (bhT p k h (min p.length (h + 1))) := by
  rw [get?_of 0 (by rw [rowOf_len]; omega)]
  congr 1
  have e : (Kv394.rowOf k p).getD h 0 = (p.zipIdx.map fun q => if q.2 ≤ h then q.1 * ((choose (k - q.2) (h - q.2) : Nat) : Int) else 0).sum := by
    unfold Kv394.rowOf
    rw [getD_map_range _ 0 (show h < k + 1 by omega)]
  rw [e, map_zipIdx (fun (x : Int) i => if i ≤ h then x * ((choose (k - i) (h - i) : Nat) : Int) else 0) 0 p, sumI_range]
  have s : p.length = min p.length (h + 1) + (p.length - min p.length (h + 1)) := by omega
  conv => lhs; rw [s]
  rw [smI_tail (fun i h1 h2 => if_neg (by omega))]
  exact smI_congr fun i hi => if_pos (by omega)
theorem rowOf_turn (p : List Int) {k h : Nat} (hh : h ≤ k) : (Kv394.rowOf k p).take (h + 1) = (Kv394.rowOf k p).take h ++ [bhT p k h (min p.length (h + 1))] := take_more (rowOf_get p hh)
theorem coinOf_some {p : List Int} {k : Nat} (hk : k ≤ 10) (hp : p.length ≤ k + 1) (hf : Kv394.fits k (Kv394.rowOf k p) = true) (hn : ∀ j, p.length ≤ j + 1 → j < k → Kv394.fits j (Kv394.rowOf j p) = false) :
    Kv394.coinOf p = some ((Kv394.rowOf k p).map Int.toNat) := by
  unfold Kv394.coinOf
  have e : ((List.range 11).find? fun k => decide (p.length ≤ k + 1) && Kv394.fits k (Kv394.rowOf k p)) = some k := by
    rw [List.find?_range_eq_some]
    refine ⟨by rw [hf, decide_eq_true hp]; rfl, List.mem_range.mpr (by omega), fun j hj => ?_⟩
    by_cases q : p.length ≤ j + 1
    · rw [hn j q hj]; simp
    · rw [decide_eq_false q]; simp
  rw [e]
theorem coinOf_none {p : List Int} (hn : ∀ j, p.length ≤ j + 1 → j < 11 → Kv394.fits j (Kv394.rowOf j p) = false) : Kv394.coinOf p = none := by
  unfold Kv394.coinOf
  have e : ((List.range 11).find? fun k => decide (p.length ≤ k + 1) && Kv394.fits k (Kv394.rowOf k p)) = none := by
    rw [List.find?_range_eq_none]
    intro j hj
    by_cases q : p.length ≤ j + 1
    · rw [hn j q hj]; simp
    · rw [decide_eq_false q]; simp
  rw [e]
theorem rowOf_fits_iN {p : List Int} {k : Nat} (h : Kv394.fits k (Kv394.rowOf k p) = true) : iN ((Kv394.rowOf k p).map Int.toNat) = Kv394.rowOf k p := iN_nats fun x hx => by
  obtain ⟨j, hj, e⟩ := List.getElem_of_mem hx
  have := (fits_iff.mp h j hj).1
  rwa [getD_in (List.getElem?_eq_getElem hj), e] at this
theorem okPoly_iff {l : List Int} : Kv394.okPoly l = true ↔ (1 ≤ l.length ∧ l.length ≤ 7) ∧ ∀ x ∈ l, -1000 ≤ x ∧ x ≤ 1000 := by
  unfold Kv394.okPoly
  rw [Bool.and_eq_true, Bool.and_eq_true, decide_eq_true_iff, decide_eq_true_iff, List.all_eq_true]
  constructor
  · rintro ⟨a, b⟩
    refine ⟨a, fun x hx => ?_⟩
    have := b x hx
    rwa [Bool.and_eq_true, decide_eq_true_iff, decide_eq_true_iff] at this
  · rintro ⟨a, b⟩
    refine ⟨a, fun x hx => ?_⟩
    rw [Bool.and_eq_true, decide_eq_true_iff, decide_eq_true_iff]; exact b x hx
end Mc

end
section
set_option linter.all false
/-! Every call leaves a good state. -/
namespace Mc
open Kv394 (choose tosses ok)
theorem bnot {b : Bool} (h : ¬ b = false) : b = true := by cases b <;> simp_all
theorem GoodAbs.does {a : Kv394.Abs} (g : GoodAbs a) (c : Kv394.Call) : GoodAbs (a.does c).1 := by
  cases c with
  | begin_ => exact GoodAbs.nil
  | coin l =>
    show GoodAbs (if ok l = false then (a, Kv394.say (-22)) else a.add l).1
    by_cases h : ok l = false
    · rw [if_pos h]; exact g
    · rw [if_neg h]; exact g.add ((ok_iff l).mp (bnot h))
  | poly l =>
    show GoodAbs (if Kv394.okPoly l = false then (a, Kv394.say (-22)) else match Kv394.coinOf l with
      | none => (a, Kv394.say (-33))
      | some c => a.add c).1
    by_cases h : Kv394.okPoly l = false
    · rw [if_pos h]; exact g
    · rw [if_neg h]
      cases e : Kv394.coinOf l with
      | none => exact g
      | some c => exact g.add (Ok.coinOf e)
  | drop i =>
    show GoodAbs (if a.no i = true then (a, Kv394.say (-2)) else (⟨a.coins.eraseIdx i, (a.coins :: a.past).take 10⟩, Kv394.num (a.coins.length - 1))).1
    by_cases h : a.no i = true
    · rw [if_pos h]; exact g
    · rw [if_neg h]
      refine g.changed ⟨?_, fun c hc => g.coins.all c (List.mem_of_mem_eraseIdx hc)⟩
      have := g.coins.few
      rw [List.length_eraseIdx]
      split <;> omega
  | more i =>
    show GoodAbs (if a.no i = true then (a, Kv394.say (-2)) else if 10 ≤ tosses (a.coin i) then (a, Kv394.say (-75)) else a.add (Kv394.more (a.coin i))).1
    by_cases h : a.no i = true
    · rw [if_pos h]; exact g
    · rw [if_neg h]
      by_cases h2 : 10 ≤ tosses (a.coin i)
      · rw [if_pos h2]; exact g
      · rw [if_neg h2]; exact g.add ((g.coin h).more (by omega))
  | less i =>
    show GoodAbs (if a.no i = true then (a, Kv394.say (-2)) else match Kv394.less (a.coin i) with
      | none => (a, Kv394.say (-33))
      | some c => a.add c).1
    by_cases h : a.no i = true
    · rw [if_pos h]; exact g
    · rw [if_neg h]
      cases e : Kv394.less (a.coin i) with
      | none => exact g
      | some c => exact g.add (Ok.less e)
  | not_ i =>
    show GoodAbs (if a.no i = true then (a, Kv394.say (-2)) else a.add (Kv394.not_ (a.coin i))).1
    by_cases h : a.no i = true
    · rw [if_pos h]; exact g
    · rw [if_neg h]; exact g.add (g.coin h).not
  | and_ i j =>
    show GoodAbs (if a.no i = true ∨ a.no j = true then (a, Kv394.say (-2)) else if 10 < tosses (a.coin i) + tosses (a.coin j) then (a, Kv394.say (-75)) else a.add (Kv394.and_ (a.coin i) (a.coin j))).1
    by_cases h : a.no i = true ∨ a.no j = true
    · rw [if_pos h]; exact g
    · rw [if_neg h]
      by_cases h2 : 10 < tosses (a.coin i) + tosses (a.coin j)
      · rw [if_pos h2]; exact g
      · rw [if_neg h2]; exact g.add (Ok.mul (g.coin fun z => h (.inl z)) (g.coin fun z => h (.inr z)) (by omega))
  | or_ i j =>
    show GoodAbs (if a.no i = true ∨ a.no j = true then (a, Kv394.say (-2)) else if 10 < tosses (a.coin i) + tosses (a.coin j) then (a, Kv394.say (-75)) else a.add (Kv394.or_ (a.coin i) (a.coin j))).1
    by_cases h : a.no i = true ∨ a.no j = true
    · rw [if_pos h]; exact g
    · rw [if_neg h]
      by_cases h2 : 10 < tosses (a.coin i) + tosses (a.coin j)
      · rw [if_pos h2]; exact g
      · rw [if_neg h2]; exact g.add (Ok.or (g.coin fun z => h (.inl z)) (g.coin fun z => h (.inr z)) (by omega))
  | if_ i j k =>
    show GoodAbs (if a.no i = true ∨ a.no j = true ∨ a.no k = true then (a, Kv394.say (-2)) else if 10 < tosses (a.coin i) + max (tosses (a.coin j)) (tosses (a.coin k)) then (a, Kv394.say (-75)) else a.add (Kv394.if_ (a.coin i) (a.coin j) (a.coin k))).1
    by_cases h : a.no i = true ∨ a.no j = true ∨ a.no k = true
    · rw [if_pos h]; exact g
    · rw [if_neg h]
      by_cases h2 : 10 < tosses (a.coin i) + max (tosses (a.coin j)) (tosses (a.coin k))
      · rw [if_pos h2]; exact g
      · rw [if_neg h2]; exact g.add (Ok.if_ (g.coin fun z => h (.inl z)) (g.coin fun z => h (.inr (.inl z))) (g.coin fun z => h (.inr (.inr z))) (by omega))
  | of_ i j =>
    show GoodAbs (if a.no i = true ∨ a.no j = true then (a, Kv394.say (-2)) else if 10 < tosses (a.coin i) * tosses (a.coin j) then (a, Kv394.say (-75)) else a.add (Kv394.of_ (a.coin i) (a.coin j))).1
    by_cases h : a.no i = true ∨ a.no j = true
    · rw [if_pos h]; exact g
    · rw [if_neg h]
      by_cases h2 : 10 < tosses (a.coin i) * tosses (a.coin j)
      · rw [if_pos h2]; exact g
      · rw [if_neg h2]; exact g.add (Ok.of_ (g.coin fun z => h (.inl z)) (g.coin fun z => h (.inr z)) (by omega))
  | row i => show GoodAbs (ite _ _ _ : Kv394.Abs × Kv394.Ans).1; split <;> exact g
  | coefs i => show GoodAbs (ite _ _ _ : Kv394.Abs × Kv394.Ans).1; split <;> exact g
  | chance i x y =>
    show GoodAbs (ite _ _ (ite _ _ _) : Kv394.Abs × Kv394.Ans).1
    split
    · exact g
    · split <;> exact g
  | same i j => show GoodAbs (ite _ _ _ : Kv394.Abs × Kv394.Ans).1; split <;> exact g
  | least i => show GoodAbs (ite _ _ _ : Kv394.Abs × Kv394.Ans).1; split <;> exact g
  | says i l =>
    show GoodAbs (ite _ _ (ite _ _ _) : Kv394.Abs × Kv394.Ans).1
    split
    · exact g
    · split <;> exact g
  | can l =>
    show GoodAbs (if Kv394.okPoly l = false then (a, Kv394.say (-22)) else match Kv394.coinOf l with
      | none => (a, Kv394.say (-33))
      | some c => (a, Kv394.num (tosses c))).1
    split
    · exact g
    · cases Kv394.coinOf l <;> exact g
  | never x y l => show GoodAbs (ite _ _ _ : Kv394.Abs × Kv394.Ans).1; split <;> exact g
  | fair l =>
    show GoodAbs (if (l.any fun x => decide (1 < x)) = true then (a, Kv394.say (-22)) else match Kv394.fair 0 l with
      | none => (a, Kv394.say (-33))
      | some q => (a, ⟨(q.1 : Nat), [(q.2 : Nat)]⟩)).1
    split
    · exact g
    · cases Kv394.fair 0 l <;> exact g
  | back =>
    show GoodAbs (match a.past with
      | [] => (a, Kv394.say (-6))
      | w :: l => (⟨w, l⟩, Kv394.num l.length)).1
    cases e : a.past with
    | nil => exact g
    | cons w l =>
      refine ⟨g.past w (by rw [e]; exact List.mem_cons_self ..), ?_, fun m hm => g.past m (by rw [e]; exact List.mem_cons_of_mem _ hm)⟩
      have := g.few
      rw [e] at this
      show l.length ≤ 10
      simp at this
      omega
  | state => exact g
end Mc

end
section
set_option linter.all false
/-! Calls as one list of whole numbers: how the specification reads them, call by call. -/
namespace Mc
/-- of each call: how many coins it tells, how many other numbers, how many rows -/
def tab : List (Nat × Nat × Nat) := [(0, 0, 0), (0, 0, 1), (0, 0, 1), (1, 0, 0), (1, 0, 0), (1, 0, 0), (1, 0, 0), (2, 0, 0), (2, 0, 0), (3, 0, 0), (2, 0, 0), (1, 0, 0), (1, 0, 0), (1, 2, 0), (2, 0, 0), (1, 0, 0), (1, 0, 1), (0, 0, 1), (0, 2, 1), (0, 0, 1), (0, 0, 0), (0, 0, 0)]
def tabC (p : Nat) : Nat := (tab.getD p (0, 0, 0)).1
def tabN (p : Nat) : Nat := (tab.getD p (0, 0, 0)).2.1
def tabR (p : Nat) : Nat := (tab.getD p (0, 0, 0)).2.2
theorem tab_len : tab.length = 22 := rfl
theorem tabR_01 (p : Nat) : tabR p = 0 ∨ tabR p = 1 := by
  by_cases h : p < 22
  · have : ∀ q, q < 22 → tabR q = 0 ∨ tabR q = 1 := by decide
    exact this p h
  · left
    unfold tabR
    rw [getD_out (by rw [tab_len]; omega)]
theorem shape_nat : ∀ q : Nat, q < 22 → PyKv394.shape (q : Int) = some (tabC q + tabN q, tabR q) := by decide
theorem shape_some {p : Int} {n k : Nat} (h : PyKv394.shape p = some (n, k)) : ∃ q : Nat, p = (q : Int) ∧ q < 22 := by
  by_cases z : 0 ≤ p ∧ p < 22
  · exact ⟨p.toNat, by omega, by omega⟩
  · exfalso
    unfold PyKv394.shape at h
    repeat (rw [if_neg (by omega)] at h)
    cases h
def callN (p : Nat) (nums row : List Int) : Kv394.Call := match p with
  | 0 => .begin_
  | 1 => .coin (row.map Int.toNat)
  | 2 => .poly row
  | 3 => .drop (nums.getD 0 0).toNat
  | 4 => .more (nums.getD 0 0).toNat
  | 5 => .less (nums.getD 0 0).toNat
  | 6 => .not_ (nums.getD 0 0).toNat
  | 7 => .and_ (nums.getD 0 0).toNat (nums.getD 1 0).toNat
  | 8 => .or_ (nums.getD 0 0).toNat (nums.getD 1 0).toNat
  | 9 => .if_ (nums.getD 0 0).toNat (nums.getD 1 0).toNat (nums.getD 2 0).toNat
  | 10 => .of_ (nums.getD 0 0).toNat (nums.getD 1 0).toNat
  | 11 => .row (nums.getD 0 0).toNat
  | 12 => .coefs (nums.getD 0 0).toNat
  | 13 => .chance (nums.getD 0 0).toNat (nums.getD 1 0).toNat (nums.getD 2 0).toNat
  | 14 => .same (nums.getD 0 0).toNat (nums.getD 1 0).toNat
  | 15 => .least (nums.getD 0 0).toNat
  | 16 => .says (nums.getD 0 0).toNat (row.map Int.toNat)
  | 17 => .can row
  | 18 => .never (nums.getD 0 0).toNat (nums.getD 1 0).toNat row
  | 19 => .fair (row.map Int.toNat)
  | 20 => .back
  | _ => .state
/-- a call's numbers and rows as the specification has them -/
def raw (p : Nat) (nums row : List Int) : List (List Int) := ((p : Int) :: nums) :: if tabR p = 1 then [row] else []
theorem callOf_raw (nums row : List Int) : ∀ p, p < 22 → Kv394Neutral.callOf (raw p nums row) = some (callN p nums row)
  | 0, _ => rfl
  | 1, _ => rfl
  | 2, _ => rfl
  | 3, _ => rfl
  | 4, _ => rfl
  | 5, _ => rfl
  | 6, _ => rfl
  | 7, _ => rfl
  | 8, _ => rfl
  | 9, _ => rfl
  | 10, _ => rfl
  | 11, _ => rfl
  | 12, _ => rfl
  | 13, _ => rfl
  | 14, _ => rfl
  | 15, _ => rfl
  | 16, _ => rfl
  | 17, _ => rfl
  | 18, _ => rfl
  | 19, _ => rfl
  | 20, _ => rfl
  | 21, _ => rfl
  | p + 22, h => absurd h (by omega)
theorem whole_id (c : List (List Int)) : PyKv394.whole c = c := by
  unfold PyKv394.whole
  split <;> rfl
/-- a call stands at a place of the list -/
structure CallIs (l : List Int) (i p : Nat) (nums row : List Int) (nx : Nat) : Prop where
  at_ : l[i]? = some (p : Int)
  lt : p < 22
  nm : nums = (l.drop (i + 1)).take (tabC p + tabN p)
  nl : nums.length = tabC p + tabN p
  in_ : i + 1 + (tabC p + tabN p) ≤ l.length
  row0 : tabR p = 0 → row = [] ∧ nx = i + 1 + (tabC p + tabN p)
  row1 : tabR p = 1 → ∃ m : Nat, l[i + 1 + (tabC p + tabN p)]? = some (m : Int) ∧ row = (l.drop (i + 1 + (tabC p + tabN p) + 1)).take m ∧ row.length = m ∧ i + 1 + (tabC p + tabN p) + 1 + m ≤ l.length ∧ nx = i + 1 + (tabC p + tabN p) + 1 + m
theorem CallIs.next {l : List Int} {i p : Nat} {nums row : List Int} {nx : Nat} (c : CallIs l i p nums row nx) : i < nx ∧ nx ≤ l.length := by
  have h := c.in_
  rcases tabR_01 p with z | z
  · have := (c.row0 z).2
    omega
  · obtain ⟨m, _, _, _, h1, h2⟩ := c.row1 z
    omega
theorem call_is {l : List Int} {i : Nat} {c : List (List Int)} {t : List Int} (hi : i < l.length) (h : PyFlat.call PyKv394.shape (l.drop i) = some (c, t)) : ∃ p nums row nx, CallIs l i p nums row nx ∧ c = raw p nums row ∧ t = l.drop nx := by
  have d : l.drop i = l[i] :: l.drop (i + 1) := List.drop_eq_getElem_cons hi
  rw [d] at h
  unfold PyFlat.call at h
  dsimp only at h
  split at h
  · cases h
  · rename_i n k hs
    obtain ⟨p, ep, hp⟩ := shape_some hs
    have hs' := hs
    rw [ep, shape_nat p hp] at hs'
    have e1 : n = tabC p + tabN p := (congrArg Prod.fst (Option.some.inj hs')).symm
    have e2 : k = tabR p := (congrArg Prod.snd (Option.some.inj hs')).symm
    subst e1 e2
    split at h
    · cases h
    · rename_i hn
      rw [List.length_drop] at hn
      have hat : l[i]? = some (p : Int) := by rw [List.getElem?_eq_getElem hi, ep]
      have nl : ((l.drop (i + 1)).take (tabC p + tabN p)).length = tabC p + tabN p := by rw [List.length_take, List.length_drop]; omega
      rcases tabR_01 p with z | z
      · rw [z] at h
        have h' : some ((l[i] :: (l.drop (i + 1)).take (tabC p + tabN p)) :: [], (l.drop (i + 1)).drop (tabC p + tabN p)) = some (c, t) := h
        have h2 := Option.some.inj h'
        refine ⟨p, _, [], i + 1 + (tabC p + tabN p), ⟨hat, hp, rfl, nl, by omega, fun _ => ⟨rfl, rfl⟩, fun q => absurd q (by omega)⟩, ?_, ?_⟩
        · rw [← (Prod.mk.inj h2).1]
          unfold raw
          rw [if_neg (by omega), ep]
        · rw [← (Prod.mk.inj h2).2, List.drop_drop]
      · rw [z] at h
        unfold PyFlat.rows at h
        rw [List.drop_drop] at h
        cases er : PyFlat.row (l.drop (i + 1 + (tabC p + tabN p))) with
        | none =>
          rw [er] at h
          cases h
        | some x =>
          obtain ⟨x, s⟩ := x
          rw [er] at h
          have h' : some ((l[i] :: (l.drop (i + 1)).take (tabC p + tabN p)) :: [x], s) = some (c, t) := h
          have h2 := Option.some.inj h'
          have hlt : i + 1 + (tabC p + tabN p) < l.length := by
            by_cases q : i + 1 + (tabC p + tabN p) < l.length
            · exact q
            · rw [List.drop_of_length_le (by omega)] at er
              cases er
          rw [List.drop_eq_getElem_cons hlt] at er
          have er' : (if 0 ≤ l[i + 1 + (tabC p + tabN p)] ∧ (l[i + 1 + (tabC p + tabN p)]).toNat ≤ (l.drop (i + 1 + (tabC p + tabN p) + 1)).length then some ((l.drop (i + 1 + (tabC p + tabN p) + 1)).take (l[i + 1 + (tabC p + tabN p)]).toNat, (l.drop (i + 1 + (tabC p + tabN p) + 1)).drop (l[i + 1 + (tabC p + tabN p)]).toNat) else none) = some (x, s) := er
          clear er
          by_cases q : 0 ≤ l[i + 1 + (tabC p + tabN p)] ∧ (l[i + 1 + (tabC p + tabN p)]).toNat ≤ (l.drop (i + 1 + (tabC p + tabN p) + 1)).length
          · have er := er'
            rw [if_pos q] at er
            have er2 := Option.some.inj er
            have ex := (Prod.mk.inj er2).1
            have es := (Prod.mk.inj er2).2
            rw [List.length_drop] at q
            refine ⟨p, _, x, i + 1 + (tabC p + tabN p) + 1 + (l[i + 1 + (tabC p + tabN p)]).toNat, ⟨hat, hp, rfl, nl, by omega, fun q2 => absurd q2 (by omega), fun _ => ⟨(l[i + 1 + (tabC p + tabN p)]).toNat, ?_, ex.symm, ?_, by omega, rfl⟩⟩, ?_, ?_⟩
            · rw [List.getElem?_eq_getElem hlt]
              congr 1
              omega
            · rw [← ex, List.length_take, List.length_drop]
              omega
            · rw [← (Prod.mk.inj h2).1]
              unfold raw
              rw [if_pos z, ep]
            · rw [← (Prod.mk.inj h2).2, ← es, List.drop_drop]
          · rw [if_neg q] at er'
            cases er'
/-- what is asked of one call -/
structure AskedN (p : Nat) (nums row : List Int) : Prop where
  nums : ∀ x ∈ nums, 0 ≤ x ∧ x ≤ 4294967295
  len : row.length ≤ 1000
  pos : p = 1 ∨ p = 16 ∨ p = 19 → ∀ x ∈ row, 0 ≤ x ∧ x ≤ 65535
theorem each_of {x : Int} : ∀ {b : List (Int × Int)} {xs : List Int}, (∀ q ∈ b, q = (0, 4294967295)) → xs.length ≤ b.length → PyInside.each b xs = true → x ∈ xs → 0 ≤ x ∧ x ≤ 4294967295
  | _, [], _, _, _, hx => nomatch hx
  | [], y :: ys, _, hl, _, _ => absurd hl (by simp)
  | (lo, hi) :: b, y :: ys, hb, hl, h, hx => by
    have e := hb _ (List.mem_cons_self ..)
    cases e
    have h' : (PyInside.within 0 4294967295 y && PyInside.each b ys) = true := h
    rw [Bool.and_eq_true] at h'
    rcases List.mem_cons.mp hx with q | q
    · subst q
      have w := h'.1
      unfold PyInside.within at w
      rw [Bool.and_eq_true, decide_eq_true_iff, decide_eq_true_iff] at w
      exact w
    · exact each_of (fun q hq => hb q (List.mem_cons_of_mem _ hq)) (by simpa using hl) h'.2 q
theorem bound_nums : ∀ p : Nat, p < 22 → (PyKv394.bound (p : Int)).1 = List.replicate (tabC p + tabN p) (0, 4294967295) := by decide
theorem bound_rows : ∀ p : Nat, p < 22 → (PyKv394.bound (p : Int)).2 = if tabR p = 1 then [if p = 1 ∨ p = 16 then (0, 65535, 0, 40) else if p = 19 then (0, 65535, 0, 1000) else (-32768, 32767, 0, 40)] else [] := by decide
theorem asked_of {p : Nat} {nums row : List Int} (hp : p < 22) (hl : nums.length = tabC p + tabN p) (hr : tabR p = 0 → row = []) (h : PyInside.call PyKv394.bound (raw p nums row) = true) : AskedN p nums row := by
  unfold raw PyInside.call at h
  dsimp only at h
  rw [Bool.and_eq_true, bound_nums p hp, bound_rows p hp] at h
  refine ⟨fun x hx => each_of (fun q hq => List.eq_of_mem_replicate hq) (by rw [List.length_replicate]; omega) h.1 hx, ?_, ?_⟩
  · rcases tabR_01 p with z | z
    · rw [hr z]; exact Nat.zero_le _
    · rw [if_pos z, if_pos z] at h
      have h2 := h.2
      split at h2
      · have h3 : ((decide (0 ≤ row.length) && decide (row.length ≤ 40) && row.all (PyInside.within 0 65535)) && true) = true := h2
        simp only [Bool.and_eq_true, decide_eq_true_iff] at h3
        omega
      · split at h2
        · have h3 : ((decide (0 ≤ row.length) && decide (row.length ≤ 1000) && row.all (PyInside.within 0 65535)) && true) = true := h2
          simp only [Bool.and_eq_true, decide_eq_true_iff] at h3
          omega
        · have h3 : ((decide (0 ≤ row.length) && decide (row.length ≤ 40) && row.all (PyInside.within (-32768) 32767)) && true) = true := h2
          simp only [Bool.and_eq_true, decide_eq_true_iff] at h3
          omega
  · intro hq x hx
    have z : tabR p = 1 := by rcases hq with e | e | e <;> subst e <;> rfl
    rw [if_pos z, if_pos z] at h
    have h2 := h.2
    have key : ∀ {a b : Nat}, PyInside.lists [(0, 65535, a, b)] [row] = true → 0 ≤ x ∧ x ≤ 65535 := fun {a b} h3 => by
      have h4 : ((decide (a ≤ row.length) && decide (row.length ≤ b) && row.all (PyInside.within 0 65535)) && true) = true := h3
      simp only [Bool.and_eq_true, List.all_eq_true] at h4
      have w := h4.1.2 x hx
      unfold PyInside.within at w
      rw [Bool.and_eq_true, decide_eq_true_iff, decide_eq_true_iff] at w
      exact w
    split at h2
    · exact key h2
    · split at h2
      · exact key h2
      · exfalso
        omega
/-! ### the states -/
def GoodS : Kv394.State → Prop
  | none => True
  | some a => GoodAbs a
theorem step_raw {p : Nat} (hp : p < 22) (s : Kv394.State) (nums row : List Int) : Kv394Neutral.step s (raw p nums row) = ((Kv394.act s (callN p nums row)).1, Kv394Neutral.row (Kv394.act s (callN p nums row)).2) := by
  unfold Kv394Neutral.step
  rw [callOf_raw nums row p hp]
end Mc

end
section
set_option linter.all false
/-! The mathematics of the looks: chance, coefs, least, rank, fair, never. -/
namespace Mc
open Kv394 (choose tosses ok)
theorem sm_cast (f : Nat → Nat) : ∀ n, (sm n f : Int) = smI n fun i => (f i : Int)
  | 0 => rfl
  | n + 1 => by
    show ((sm n f + f n : Nat) : Int) = smI n (fun i => (f i : Int)) + (f n : Int)
    rw [Int.natCast_add, sm_cast f n]
/-- each number, times x to its place, times y to how far the last place is -/
def wT (ns : List Int) (x y n : Nat) : Int := smI n fun i => ns.getD i 0 * ((x ^ i : Nat) : Int) * ((y ^ (ns.length - 1 - i) : Nat) : Int)
theorem wT_succ (ns : List Int) (x y n : Nat) : wT ns x y (n + 1) = wT ns x y n + ns.getD n 0 * ((x ^ n : Nat) : Int) * ((y ^ (ns.length - 1 - n) : Nat) : Int) := rfl
theorem wT_chance (c : List Nat) (a b : Nat) : wT (iN c) a (b - a) (iN c).length = (Kv394.chance c a b : Int) := by
  unfold Kv394.chance
  rw [map_zipIdx (fun x j => x * a ^ j * (b - a) ^ (tosses c - j)) 0 c, sum_range, sm_cast]
  unfold wT
  rw [iN_len]
  refine smI_congr fun i hi => ?_
  rw [iN_getD, Int.natCast_mul, Int.natCast_mul]
  rfl
theorem wT_value (p : List Int) (a b : Nat) : wT p a b p.length = Kv394.value p a b := by
  unfold Kv394.value
  rw [map_zipIdx (fun (x : Int) j => x * ((a ^ j * b ^ (p.length - 1 - j) : Nat) : Int)) 0 p, sumI_range]
  unfold wT
  refine smI_congr fun i hi => ?_
  rw [Int.natCast_mul, Int.mul_assoc]
/-! ### coefs -/
def cfT (c : List Nat) (i n : Nat) : Int := smI n fun j => (co c j : Int) * (if (i - j) % 2 = 1 then -(choose (tosses c - j) (i - j) : Int) else (choose (tosses c - j) (i - j) : Int))
theorem coefs_len (c : List Nat) : (Kv394.coefs c).length = c.length := by simp [Kv394.coefs]
theorem coefs_get (c : List Nat) {i : Nat} (h : i < c.length) : (Kv394.coefs c)[i]? = some (cfT c i (i + 1)) := by
  unfold Kv394.coefs
  rw [List.getElem?_map, List.getElem?_range h]
  refine congrArg some ?_
  refine (sumI_range _ _).trans (smI_congr fun j hj => ?_)
  rw [Int.natCast_mul]
  by_cases z : (i - j) % 2 = 0
  · rw [if_pos z, if_neg (by omega), Int.one_mul]
  · rw [if_neg z, if_pos (by omega), Int.mul_neg, Int.neg_mul, Int.one_mul]
theorem coefs_turn (c : List Nat) {i : Nat} (h : i < c.length) : (Kv394.coefs c).take (i + 1) = (Kv394.coefs c).take i ++ [cfT c i (i + 1)] := take_more (coefs_get c h)
/-! ### least -/
theorem less_tosses {c d : List Nat} (h : 1 ≤ c.length) (hm : c.length ≤ 11) (e : Kv394.less c = some d) : tosses c = tosses d + 1 := by
  rw [less_eq h hm] at e
  by_cases z : tosses c = 0
  · rw [if_pos z] at e; cases e
  · rw [if_neg z] at e
    by_cases q : bef c (tosses c) = (co c (tosses c) : Int) ∧ Kv394.fits (tosses c - 1) (alts c (tosses c)) = true
    · rw [if_pos q] at e
      have e2 := Option.some.inj e
      rw [← e2]
      show tosses c = ((alts c (tosses c)).map Int.toNat).length - 1 + 1
      rw [List.length_map, alts_len]
      omega
    · rw [if_neg q] at e; cases e
theorem least_none {c : List Nat} (e : Kv394.less c = none) : ∀ n, Kv394.least n c = c
  | 0 => rfl
  | n + 1 => by
    unfold Kv394.least
    rw [e]
theorem least_some {c d : List Nat} (e : Kv394.less c = some d) (n : Nat) : Kv394.least (n + 1) c = Kv394.least n d := by
  conv => lhs; unfold Kv394.least
  rw [e]
/-! ### rank -/
def isT (l : List Nat) : Prop := ∀ x ∈ l, x ≤ 1
theorem rank_one (l : List Nat) : Kv394.rank (1 :: l) = Kv394.rank l := by
  conv => lhs; unfold Kv394.rank
  rw [if_pos rfl]
theorem rank_zero {l : List Nat} : Kv394.rank (0 :: l) = (if 0 < l.sum then choose l.length (l.sum - 1) else 0) + Kv394.rank l := by
  conv => lhs; unfold Kv394.rank
  rw [if_neg (by decide)]
  cases e : l.sum with
  | zero =>
    show choose l.length (l.length + 1) + _ = _
    rw [choose_out _ _ (Nat.lt_succ_self _), if_neg (by decide)]
  | succ s =>
    show choose l.length s + _ = _
    rw [if_pos (by omega)]
    rfl
theorem sum_le_len : ∀ {l : List Nat}, isT l → l.sum ≤ l.length
  | [], _ => Nat.le_refl _
  | x :: l, h => by
    have h1 := h x (List.mem_cons_self ..)
    have h2 := sum_le_len (l := l) fun y hy => h y (List.mem_cons_of_mem _ hy)
    rw [List.sum_cons, List.length_cons]
    omega
theorem sum_toNat : ∀ {l : List Int}, (∀ x ∈ l, 0 ≤ x) → l.sum = ((l.map Int.toNat).sum : Nat)
  | [], _ => rfl
  | x :: l, h => by
    have h1 := h x (List.mem_cons_self ..)
    have h2 := sum_toNat (l := l) fun y hy => h y (List.mem_cons_of_mem _ hy)
    rw [List.sum_cons, List.map_cons, List.sum_cons, h2, Int.natCast_add, Int.toNat_of_nonneg h1]
/-! ### fair -/
theorem fair_short {l : List Nat} (k : Nat) (h : l.length < 2) : Kv394.fair k l = none := by
  match l, h with
  | [], _ => rfl
  | [x], _ => rfl
  | x :: y :: l, h => exact absurd h (by simp)
theorem fair_turn {l : List Nat} {k j : Nat} (h : j + 1 < l.length) : Kv394.fair k (l.drop j) = if co l j = co l (j + 1) then Kv394.fair (k + 2) (l.drop (j + 2)) else some (co l j, k + 2) := by
  have d1 : l.drop j = l[j] :: l.drop (j + 1) := List.drop_eq_getElem_cons (by omega)
  have d2 : l.drop (j + 1) = l[j + 1] :: l.drop (j + 2) := List.drop_eq_getElem_cons h
  have e1 : co l j = l[j] := getD_in (List.getElem?_eq_getElem (by omega))
  have e2 : co l (j + 1) = l[j + 1] := getD_in (List.getElem?_eq_getElem h)
  rw [d1, d2, e1, e2]
  rfl
/-! ### always, never -/
theorem any_zero : ∀ {l : List Int}, (l.any fun x => x != 0) = !decide (l = List.replicate l.length 0)
  | [] => rfl
  | x :: l => by
    have ih := any_zero (l := l)
    rw [List.any_cons, ih, List.length_cons, List.replicate_succ]
    by_cases hx : x = 0
    · subst hx
      by_cases hl : l = List.replicate l.length 0
      · rw [decide_eq_true hl, decide_eq_true (by rw [← hl])]
        rfl
      · rw [decide_eq_false hl, decide_eq_false (fun z => hl (List.cons.inj z).2)]
        rfl
    · rw [decide_eq_false (p := x :: l = _) (fun z => hx (List.cons.inj z).1)]
      have e : (x != 0) = true := bne_iff_ne.mpr hx
      rw [e]
      rfl
theorem never_zero {p : List Int} (h : 1 ≤ p.length) : (p.any fun x => x != 0) = !decide (p = 0 :: List.replicate (p.length - 1) 0) := by
  rw [any_zero]
  have e : List.replicate p.length (0 : Int) = 0 :: List.replicate (p.length - 1) 0 := by
    rw [← List.replicate_succ]
    congr 1
    omega
  rw [← e]
theorem never_one {p : List Int} (h : 1 ≤ p.length) : (p.headD 0 != 1 || (p.drop 1).any fun x => x != 0) = !decide (p = 1 :: List.replicate (p.length - 1) 0) := by
  cases p with
  | nil => exact absurd h (by decide)
  | cons x l =>
    show (x != 1 || l.any fun x => x != 0) = !decide (x :: l = 1 :: List.replicate l.length 0)
    rw [any_zero]
    by_cases hx : x = 1
    · subst hx
      by_cases hl : l = List.replicate l.length 0
      · rw [decide_eq_true hl, decide_eq_true (by rw [← hl])]
        rfl
      · rw [decide_eq_false hl, decide_eq_false (fun z => hl (List.cons.inj z).2)]
        rfl
    · rw [decide_eq_false (p := x :: l = _) (fun z => hx (List.cons.inj z).1)]
      have e : (x != 1) = true := bne_iff_ne.mpr hx
      rw [e]
      rfl
theorem never_eq {p : List Int} {a b : Nat} (h : 1 ≤ p.length) (hb : 2 ≤ b) : Kv394.never p a b =
    if Kv394.value p a b < 0 ∨ ((b ^ (p.length - 1) : Nat) : Int) < Kv394.value p a b then true
    else if Kv394.value p a b = 0 then !decide (p = 0 :: List.replicate (p.length - 1) 0)
    else if Kv394.value p a b = ((b ^ (p.length - 1) : Nat) : Int) then !decide (p = 1 :: List.replicate (p.length - 1) 0) else false := by
  have hpos : 0 < b ^ (p.length - 1) := Nat.pow_pos (by omega)
  unfold Kv394.never
  dsimp only
  rw [never_zero h, never_one h]
  generalize Kv394.value p a b = v at *
  generalize b ^ (p.length - 1) = t at *
  by_cases c1 : v < 0 ∨ (t : Int) < v
  · rw [if_pos c1]
    rcases c1 with z | z
    · rw [decide_eq_true z]; simp
    · rw [decide_eq_true z]; simp
  · rw [if_neg c1, decide_eq_false (fun z => c1 (.inl z)), decide_eq_false (fun z => c1 (.inr z))]
    by_cases c2 : v = 0
    · rw [if_pos c2]
      have e1 : (v == 0) = true := beq_iff_eq.mpr c2
      have e2 : (v == (t : Int)) = false := beq_eq_false_iff_ne.mpr (by omega)
      rw [e1, e2]
      simp
    · rw [if_neg c2]
      have e1 : (v == 0) = false := beq_eq_false_iff_ne.mpr c2
      rw [e1]
      by_cases c3 : v = (t : Int)
      · rw [if_pos c3]
        have e2 : (v == (t : Int)) = true := beq_iff_eq.mpr c3
        rw [e2]
        simp
      · rw [if_neg c3]
        have e2 : (v == (t : Int)) = false := beq_eq_false_iff_ne.mpr c3
        rw [e2]
        simp
theorem any_gt {l : List Nat} : (l.any fun x => decide (1 < x)) = false ↔ isT l := by
  rw [List.any_eq_false]
  constructor
  · intro h x hx
    have := h x hx
    rw [decide_eq_true_iff] at this
    omega
  · intro h x hx
    rw [decide_eq_true_iff]
    have := h x hx
    omega
end Mc

end
section
set_option Elab.async false
set_option linter.all false
set_option maxRecDepth 100000
set_option maxHeartbeats 4000000
/-! Short words of mine over the layer: a def that keeps a promise, by its name; a method; a def out of a table; a new list. -/
namespace Mc
open PySem PySem.Spec PyProof.Rows L2
/-- a def of the module that keeps the promise sp, k calls deep -/
def Cal (P : Program) (w : World) (K : PySem.W.Frag) (mg : Str → Option Value) (base : Heap) (x : Str) (ps : List Str) (k : Nat) (sp : Sp) : Prop :=
  ∃ f fd, FnOk P w K mg base CX0 k f fd ps sp ∧ mg x = some (.ref f) ∧ PySem.W.keepIn K (.ref f) = true ∧ Binds K fd ps []
/-- a def as the top has written it -/
def DefAt (K : PySem.W.Frag) (mg : Str → Option Value) (x : Str) (st : Stmt) (ps : List Str) : Prop :=
  ∃ f fd, Fun K x x st f fd ∧ Binds K fd ps [] ∧ mg x = some (.ref f)
def tCal (sp : Sp) (t : TA) : TE := fun σ H Q => t σ H fun vs H1 => sp vs H1 Q E0
section
variable {P : Program} {w : World} {K : PySem.W.Frag} {mg : Str → Option Value} {base : Heap}
theorem DefAt.cal {x : Str} {st : Stmt} {N ps : List Str} {k : Nat} {sp : Sp} (D : DefAt K mg x st ps) (S : FnScope N ps (defScope st)) (len : ∀ vs H Q E, sp vs H Q E → vs.length = ps.length)
    (hbody : ∀ (f : Addr) (cdv : Value) (A : Around) (outer : List Env) (s : Shared) (H : Hp) (vs : List V) (Q : VK) (E : XK), Room k (A.deeper (envOfC x (defScope st) s.heap.objs.size f cdv)) → sp vs H Q E →
      ∃ t, PSs (cxOf CX0 P w K mg base N x (defScope st) f cdv A outer s H E).nox (defBody st) t ∧ t { nx := fun _ H' => Q .non H', rt := Q } (start N vs) H) : Cal P w K mg base x ps (k + 1) sp := by
  obtain ⟨f, fd, F, b, g⟩ := D
  exact ⟨f, fd, F.ok S len (hbody f), g, F.kp, b⟩
theorem Cal.mono {x : Str} {ps : List Str} {j k : Nat} {sp : Sp} (C : Cal P w K mg base x ps j sp) (h : j ≤ k) : Cal P w K mg base x ps k sp := by
  obtain ⟨f, fd, F, g, kp, b⟩ := C
  exact ⟨f, fd, F.mono h, g, kp, b⟩
end
section
variable {X : Cx} {k : Nat} {ps : List Str} {sp : Sp} {x : Str} {p pos : Pos} {e : Expr} {es : List Expr} {t : TA}
theorem pe_callC (C : Cal X.prog X.w X.K X.mg X.base x ps k sp) (hr : Room k X.A) (hg : Gl X x) (ha : PA X (e :: es) t) (hdb : (x == ("__debug__" : Str)) = false := by decide)
    (he : starEach (e :: es) X.env = (false, eval e X.env) :: starEach es X.env := by rfl) (hpl : (backTo pos (starEach es X.env)).any (·.1) = false := by rfl) : PE X (.Call (.Name x p) (e :: es) [] pos) (tCal sp t) := by
  obtain ⟨f, fd, F, hm, kp, b⟩ := C
  intro pins s σ H Q I h
  have h' : tCall sp [] E0 t σ H Q := by
    unfold tCall
    have e : (fun vs H1 => sp (vs ++ []) H1 Q E0) = fun vs H1 => sp vs H1 Q E0 := by
      funext vs H1
      rw [List.append_nil]
    rw [e]
    exact h
  exact pe_call F hr hg hm kp b .nil pass0 ha hdb he hpl pins s σ H Q I h'
/-- a def that a table holds -/
def tCalE (X : Cx) (k : Nat) (tf : TE) (t : TA) : TE := fun σ H Q => tf σ H fun v H1 => ∃ f fd ps sp, v = .ref f ∧ FnOk X.prog X.w X.K X.mg X.base CX0 k f fd ps sp ∧ PySem.W.keepIn X.K (.ref f) = true ∧ Binds X.K fd ps [] ∧ t σ H1 fun vs H2 => sp vs H2 Q E0
theorem pe_callE {fe : Expr} {tf : TE} (hf : PE X fe tf) (hr : Room k X.A) (ha : PA X (e :: es) t)
    (hev : eval (.Call fe (e :: es) [] pos) X.env = (do callWith pos (← eval fe X.env) [] (backTo pos (starEach (e :: es) X.env)) (backToKw pos (keywordEach [] X.env))) := by rfl)
    (he : starEach (e :: es) X.env = (false, eval e X.env) :: starEach es X.env := by rfl) (hpl : (backTo pos (starEach es X.env)).any (·.1) = false := by rfl) : PE X (.Call fe (e :: es) [] pos) (tCalE X k tf t) := by
  intro pins s σ H Q I h
  rw [hev]
  refine wpAny_bind (thn (hf pins s σ H _ I h) fun u s1 ⟨v, H1, I1, rv, f, fd, ps, sp, ev, F, kp, b, q⟩ => ?_)
  subst ev
  obtain rfl : u = Value.ref f := rv
  refine PySem.W.callWith_K (h₀ := X.base) I.ok.mod.kin kp (thn (ha pos pins s1 σ H1 _ I1 q) fun us s2 ⟨vs, H2, I2, r, q2⟩ => ⟨I2.kIn, ?_⟩) he hpl
  exact run_fn F hr b .nil pass0 I2 r (by rw [List.append_nil]; exact q2)
end
/-- a whole number of the module's top -/
def GI (mg : Str → Option Value) (x : Str) (i : Int) : Prop := ∃ t, mg x = some (.int i t)
theorem pe_gi {X : Cx} {x : Str} {i : Int} {pos : Pos} (g : GI X.mg x i) (hg : Gl X x) (hd : (x == ("__debug__" : Str)) = false := by decide) : PE X (.Name x pos) (tC (.int i)) := by
  obtain ⟨t, e⟩ := g
  exact pe_glob (v := .int i) hg e ⟨t, rfl⟩ hd
/-! ### methods -/
def MethAt (K : PySem.W.Frag) (C : Addr) (m qual : Str) (st : Stmt) (ps : List Str) : Prop :=
  ∃ f fd, Fun K m qual st f fd ∧ Binds K fd ps [] ∧ Meth K C m f
def MCal (P : Program) (w : World) (K : PySem.W.Frag) (mg : Str → Option Value) (base : Heap) (C : Addr) (m : Str) (ps : List Str) (k : Nat) (sp : Sp) : Prop :=
  ∃ f fd, FnOk P w K mg base CX0 k f fd ps sp ∧ Meth K C m f ∧ Binds K fd ps []
def tMethC (C : Addr) (m : Str) (sp : Sp) (ta : TE) (t : TA) : TE := fun σ H Q => ta σ H fun x H1 => ∃ a dx fs, x = .ref a ∧ H1 a = some (.ins C dx fs) ∧ fs.lookup m = none ∧ t σ H1 fun vs H2 => sp (x :: vs) H2 Q E0
section
variable {P : Program} {w : World} {K : PySem.W.Frag} {mg : Str → Option Value} {base : Heap}
theorem MethAt.cal {C : Addr} {m qual : Str} {st : Stmt} {N ps : List Str} {k : Nat} {sp : Sp} (D : MethAt K C m qual st ps) (S : FnScope N ps (defScope st)) (len : ∀ vs H Q E, sp vs H Q E → vs.length = ps.length)
    (hbody : ∀ (f : Addr) (cdv : Value) (A : Around) (outer : List Env) (s : Shared) (H : Hp) (vs : List V) (Q : VK) (E : XK), Room k (A.deeper (envOfC qual (defScope st) s.heap.objs.size f cdv)) → sp vs H Q E →
      ∃ t, PSs (cxOf CX0 P w K mg base N qual (defScope st) f cdv A outer s H E).nox (defBody st) t ∧ t { nx := fun _ H' => Q .non H', rt := Q } (start N vs) H) : MCal P w K mg base C m ps (k + 1) sp := by
  obtain ⟨f, fd, F, b, g⟩ := D
  exact ⟨f, fd, F.ok S len (hbody f), g, b⟩
end
section
variable {X : Cx} {k : Nat} {C : Addr} {ps : List Str} {sp : Sp} {m : Str} {pos apos : Pos} {o e : Expr} {es : List Expr} {ta : TE} {t : TA}
theorem pe_methC {pl : Sem Bool} (he : PE X o ta) (c : Cls X.K C) (M : MCal X.prog X.w X.K X.mg X.base C m ps k sp) (hr : Room k X.A) (ha : PA X (e :: es) t)
    (hst : starEach (e :: es) X.env = (false, eval e X.env) :: starEach es X.env := by rfl) (hpl : (backTo pos (starEach es X.env)).any (·.1) = false := by rfl)
    (ht : eval (.Call (.Attribute o m apos) (e :: es) [] pos) X.env = (do
      let ov ← eval o X.env
      standAt apos.atName
      let (f, first) ← holding [ov] (getMethod ov m pl)
      callWith pos f first (backTo pos (starEach (e :: es) X.env)) (backToKw pos (keywordEach [] X.env))) := by rfl) :
    PE X (.Call (.Attribute o m apos) (e :: es) [] pos) (tMethC C m sp ta t) := by
  obtain ⟨f, fd, F, hm, b⟩ := M
  intro pins s σ H Q I h
  have h' : tMeth C m sp [] E0 ta t σ H Q := by
    unfold tMeth
    have e : ∀ x, (fun vs H2 => sp (x :: (vs ++ [])) H2 Q E0) = fun vs H2 => sp (x :: vs) H2 Q E0 := fun x => by
      funext vs H2
      rw [List.append_nil]
    simp only [List.append_nil]
    exact h
  exact pe_meth he c hm F hr b .nil pass0 ha hst hpl ht pins s σ H Q I h'
theorem pe_methC0 {pl : Sem Bool} (he : PE X o ta) (c : Cls X.K C) (M : MCal X.prog X.w X.K X.mg X.base C m ps k sp) (hr : Room k X.A)
    (ht : eval (.Call (.Attribute o m apos) [] [] pos) X.env = (do
      let ov ← eval o X.env
      standAt apos.atName
      let (f, first) ← holding [ov] (getMethod ov m pl)
      callWith pos f first (backTo pos (starEach [] X.env)) (backToKw pos (keywordEach [] X.env))) := by rfl) :
    PE X (.Call (.Attribute o m apos) [] [] pos) (tMethC C m sp ta tNil) := by
  obtain ⟨f, fd, F, hm, b⟩ := M
  intro pins s σ H Q I h
  exact pe_meth0 he c hm F hr b .nil pass0 ht pins s σ H Q I h
end
/-! ### lists of whole numbers -/
abbrev LI (K : PySem.W.Frag) (H : Hp) (a : Addr) (ns : List Int) : Prop := SqL K H a (ns.map V.int)
/-- a new list of whole numbers is handed back, and nothing else is changed -/
def NewL (H : Hp) (ns : List Int) (Q : VK) : Prop := ∀ (H' : Hp) (p : Addr), Same H H' → H p = none → H' p = some (.lst (ns.map V.int)) → Q (.ref p) H'
theorem at_int {ns : List Int} {z : Int} {j : Nat} (e : z = (j : Int)) (h : j < ns.length) : atI (ns.map V.int) z = some (.int (ns.getD j 0)) :=
  at_of e (by rw [List.getElem?_map, get?_of 0 h]; rfl)
theorem at_iN {c : List Nat} {z : Int} {j : Nat} (e : z = (j : Int)) (h : j < c.length) : atI ((iN c).map V.int) z = some (.int (co c j)) := by
  rw [at_int e (by rw [iN_len]; exact h), iN_getD]
theorem Same.upd_new {H H' : Hp} {p : Addr} {o : HO} (s : Same H H') (h : H' p = none) : Same H (upd H' p o) := fun b u e => by
  rw [upd_ne (ne_of_none (s b u e) h)]; exact s b u e
theorem Same.upd_own {H H' : Hp} {p : Addr} {o : HO} (s : Same H H') (h : H p = none) : Same H (upd H' p o) := fun b u e => by
  rw [upd_ne (ne_of_none e h)]; exact s b u e
theorem small_of {n m : Nat} (h : n ≤ m) (hm : m ≤ 100000 := by decide) : n ≤ sizeLine := Nat.le_trans (Nat.le_trans h hm) (by decide)
theorem small_lt {n m : Nat} (h : n ≤ m) (hm : m ≤ 100000 := by decide) : n < sizeLine := Nat.lt_of_le_of_lt (Nat.le_trans h hm) (by decide)
theorem map_app (ns : List Int) (x : Int) : ns.map V.int ++ [V.int x] = (ns ++ [x]).map V.int := by simp
end Mc

end
section
set_option Elab.async false
set_option linter.all false
set_option maxRecDepth 100000
set_option maxHeartbeats 4000000
/-! Rules for lists of whole numbers, in the words that the proofs here use. -/
namespace Mc
open PySem PySem.Spec PyProof.Rows L2
section
variable {X : Cx} {a b e : Expr} {ta tb te : TE} {p pos apos : Pos}
theorem pe_imp {t t' : TE} (h : PE X e t) (i : ∀ σ H Q, t' σ H Q → t σ H Q) : PE X e t' := fun pins s σ H Q I q => h pins s σ H Q I (i σ H Q q)
/-- len of a list of whole numbers -/
def tLenI (K : PySem.W.Frag) (te : TE) : TE := fun σ H Q => te σ H fun x H1 => ∃ a ns, x = .ref a ∧ LI K H1 a ns ∧ Q (.int (ns.length : Nat)) H1
theorem pe_lenI (hm : X.mg "len" = none) (hg : Gl X "len") (ha : PE X e te) (mono : ∀ σ H Q Q', (∀ x H1, Q x H1 → Q' x H1) → te σ H Q → te σ H Q')
    (he : starEach [e] X.env = (false, eval e X.env) :: starEach [] X.env := by rfl) : PE X (.Call (.Name "len" p) [e] [] pos) (tLenI X.K te) :=
  pe_imp (pe_callB call_len_seq hg hm PySem.boot_len (pa_cons ha pa_nil he) (by decide) (by decide) he rfl) fun σ H Q q =>
    mono σ H _ _ (fun x H1 ⟨a, ns, e, l, q⟩ => ⟨a, ns.map V.int, by rw [e], .inl l, by rw [List.length_map]; exact q⟩) q
theorem mono_var {i : Nat} : ∀ σ H Q Q', (∀ x H1, Q x H1 → Q' x H1) → tVar i σ H Q → tVar i σ H Q' := fun σ H Q Q' m ⟨v, e, q⟩ => ⟨v, e, m _ _ q⟩
/-- len(x), x a name -/
theorem pe_lenV (i : Nat) {x : Str} {vp : Pos} (hm : X.mg "len" = none) (hg : Gl X "len") (ha : PE X (.Name x vp) (tVar i)) : PE X (.Call (.Name "len" p) [.Name x vp] [] pos) (tLenI X.K (tVar i)) := pe_lenI hm hg ha mono_var
/-- an item of a list of whole numbers, by its place -/
def rIxI (K : PySem.W.Frag) : R2 := fun x y H Q => ∃ a ns z, ∃ j : Nat, x = .ref a ∧ y = .int z ∧ LI K H a ns ∧ z = (j : Int) ∧ j < ns.length ∧ Q (.int (ns.getD j 0)) H
theorem ix_I : IxR X (rIxI X.K) := fun value slice pins s σ H x y v u Q I rx ry ⟨a, ns, z, j, ex, ey, l, ez, hj, q⟩ hs =>
  ix_list value slice pins s σ H x y v u Q I rx ry ⟨a, ns.map V.int, z, .int (ns.getD j 0), ex, ey, l, at_int ez hj, q⟩ hs
theorem ix_Ik (K : PySem.W.Frag) (h : X.K = K := by rfl) : IxR X (rIxI K) := by
  subst h
  exact ix_I
/-- the last item: xs[-1] -/
def rIxE (K : PySem.W.Frag) : R2 := fun x y H Q => ∃ a ns, x = .ref a ∧ y = .int (-1) ∧ LI K H a ns ∧ 1 ≤ ns.length ∧ Q (.int (ns.getD (ns.length - 1) 0)) H
theorem at_end {ns : List Int} (h : 1 ≤ ns.length) : atI (ns.map V.int) (-1) = some (.int (ns.getD (ns.length - 1) 0)) := by
  unfold atI ixN
  rw [List.length_map, if_neg (by decide), if_pos (by omega)]
  show (ns.map V.int)[((-1 : Int) + (ns.length : Int)).toNat]? = _
  rw [show ((-1 : Int) + (ns.length : Int)).toNat = ns.length - 1 by omega, List.getElem?_map, get?_of 0 (by omega)]
  rfl
theorem ix_E : IxR X (rIxE X.K) := fun value slice pins s σ H x y v u Q I rx ry ⟨a, ns, ex, ey, l, hj, q⟩ hs =>
  ix_list value slice pins s σ H x y v u Q I rx ry ⟨a, ns.map V.int, -1, .int (ns.getD (ns.length - 1) 0), ex, ey, l, at_end hj, q⟩ hs
/-- xs.append(e), xs a list of whole numbers that this code has made -/
def rAppI : V → List V → Hp → VK → Prop := fun x vs H Q => ∃ l ns z, x = .ref l ∧ vs = [.int z] ∧ H l = some (.lst (ns.map V.int)) ∧ ns.length ≤ 90000 ∧ Q .non (upd H l (.lst ((ns ++ [z]).map V.int)))
theorem mt_appI : MtM X "list.append" rAppI := fun pins s σ H x vs v us Q I rx rv ⟨l, ns, z, ex, ev, h, hz, q⟩ =>
  mt_append pins s σ H x vs v us Q I rx rv ⟨l, ns.map V.int, .int z, ex, ev, h, by rw [List.length_map]; exact small_lt hz, by rw [map_app]; exact q⟩
theorem ps_appI {o : Expr} {to : TE} {epos : Pos} (ho : PE X o to) (ha : PE X e te) (hbase : attributeBase o "append" X.env (eval o X.env) = eval o X.env := by rfl)
    (hfew : ((backTo pos (starEach [e] X.env)).all (fun x => !x.1) && (backToKw pos (keywordEach [] X.env)).all (fun x => x.1.isSome)
      && decide (([e] : List Expr).length + ([] : List Keyword).length + (if ([] : List Keyword).isEmpty then 0 else 1) < 30)) = true := by rfl)
    (hline : (apos.endLine == pos.line) = true := by rfl) (hs : starEach [e] X.env = (false, eval e X.env) :: starEach [] X.env := by rfl) (hplain : (backTo pos (starEach [] X.env)).any (·.1) = false := by rfl) :
    PS X (.Expr (.Call (.Attribute o "append" apos) [e] [] pos) epos) (tDrop (tBM X.K "list" rAppI to (tCons te tNil))) :=
  ps_expr (pe_bm PySem.F.plainAttrs_list PySem.F.slot_list_append PySem.F.type_list_append mt_appI ho (pa_cons ha pa_nil hs) hbase hfew hline hs hplain)
/-- [0] * n of a written list -/
theorem rep_zero (n : Nat) : (List.replicate n [V.int 0]).flatten = (List.replicate n (0 : Int)).map V.int := by
  induction n with
  | zero => rfl
  | succ n ih => rw [List.replicate_succ, List.flatten_cons, ih, List.replicate_succ]; rfl
/-- xs[i] = e -/
theorem ixN_nat {n j : Nat} {z : Int} (e : z = (j : Int)) (h : j < n) : ixN n z = some j := by
  subst e
  unfold ixN
  rw [if_pos (by omega), if_pos (by omega)]
  simp
def rSetI : V → V → V → Hp → (Hp → Prop) → Prop := fun o i v H Q => ∃ (p : Addr) (ns : List Int) (k : Int) (j : Nat) (z : Int), o = .ref p ∧ i = .int k ∧ v = .int z ∧ H p = some (.lst (ns.map V.int)) ∧ k = (j : Int) ∧ j < ns.length ∧ Q (upd H p (.lst ((ns.set j z).map V.int)))
theorem set_I : PSet X rSetI := fun pins s σ H o i v ov iv u Q I ro ri rv ⟨p, ns, k, j, z, eo, ei, ev, h, ek, hj, q⟩ => by
  subst ev
  refine set_list pins s σ H o i (.int z) ov iv u Q I ro ri rv ⟨p, ns.map V.int, k, j, eo, ei, h, ixN_nat ek (by rw [List.length_map]; exact hj), ?_⟩
  rw [← List.map_set]
  exact q
end
end Mc

end
section
set_option Elab.async false
set_option linter.all false
set_option maxRecDepth 100000
set_option maxHeartbeats 4000000
/-! The text by places. -/
namespace Mc
open PySem PySem.Spec PyProof.Rows L2
def top (i : Nat) : Stmt := PySem.Challenge.pw_madecoins_s01_answers.main.body.getD i (.Pass ⟨0, 0, 0, 0⟩)
abbrev s_choose : Stmt := top 2
abbrev n_choose : List Str := ["n", "k", "ways", "taken"]
theorem sc_choose : FnScope n_choose ["n", "k"] (defScope s_choose) := ⟨rfl, rfl, rfl, by decide +kernel, rfl, by decide +kernel, by decide +kernel⟩
abbrev s_power : Stmt := top 3
abbrev n_power : List Str := ["base", "times", "made", "again"]
theorem sc_power : FnScope n_power ["base", "times"] (defScope s_power) := ⟨rfl, rfl, rfl, by decide +kernel, rfl, by decide +kernel, by decide +kernel⟩
abbrev s_weighed : Stmt := top 4
abbrev n_weighed : List Str := ["numbers", "one", "other", "last", "total", "place"]
theorem sc_weighed : FnScope n_weighed ["numbers", "one", "other"] (defScope s_weighed) := ⟨rfl, rfl, rfl, by decide +kernel, rfl, by decide +kernel, by decide +kernel⟩
abbrev s_tosses_of : Stmt := top 5
abbrev n_tosses_of : List Str := ["row"]
theorem sc_tosses_of : FnScope n_tosses_of ["row"] (defScope s_tosses_of) := ⟨rfl, rfl, rfl, by decide +kernel, rfl, by decide +kernel, by decide +kernel⟩
abbrev s_fits : Stmt := top 6
abbrev n_fits : List Str := ["row", "tosses", "heads"]
theorem sc_fits : FnScope n_fits ["row"] (defScope s_fits) := ⟨rfl, rfl, rfl, by decide +kernel, rfl, by decide +kernel, by decide +kernel⟩
abbrev s_is_coin : Stmt := top 7
abbrev n_is_coin : List Str := ["row", "tosses"]
theorem sc_is_coin : FnScope n_is_coin ["row"] (defScope s_is_coin) := ⟨rfl, rfl, rfl, by decide +kernel, rfl, by decide +kernel, by decide +kernel⟩
abbrev s_toss_more : Stmt := top 8
abbrev n_toss_more : List Str := ["row", "longer", "heads"]
theorem sc_toss_more : FnScope n_toss_more ["row"] (defScope s_toss_more) := ⟨rfl, rfl, rfl, by decide +kernel, rfl, by decide +kernel, by decide +kernel⟩
abbrev s_toss_fewer : Stmt := top 9
abbrev n_toss_fewer : List Str := ["row", "shorter", "before", "heads"]
theorem sc_toss_fewer : FnScope n_toss_fewer ["row"] (defScope s_toss_fewer) := ⟨rfl, rfl, rfl, by decide +kernel, rfl, by decide +kernel, by decide +kernel⟩
abbrev s_with_fewest_tosses : Stmt := top 10
abbrev n_with_fewest_tosses : List Str := ["row", "left", "shorter"]
theorem sc_with_fewest_tosses : FnScope n_with_fewest_tosses ["row"] (defScope s_with_fewest_tosses) := ⟨rfl, rfl, rfl, by decide +kernel, rfl, by decide +kernel, by decide +kernel⟩
abbrev s_chance_at : Stmt := top 11
abbrev n_chance_at : List Str := ["row", "a", "b"]
theorem sc_chance_at : FnScope n_chance_at ["row", "a", "b"] (defScope s_chance_at) := ⟨rfl, rfl, rfl, by decide +kernel, rfl, by decide +kernel, by decide +kernel⟩
abbrev s_opposite : Stmt := top 12
abbrev n_opposite : List Str := ["row", "tosses", "heads"]
theorem sc_opposite : FnScope n_opposite ["row"] (defScope s_opposite) := ⟨rfl, rfl, rfl, by decide +kernel, rfl, by decide +kernel, by decide +kernel⟩
abbrev s_both : Stmt := top 13
abbrev n_both : List Str := ["first", "second", "made", "i", "j"]
theorem sc_both : FnScope n_both ["first", "second"] (defScope s_both) := ⟨rfl, rfl, rfl, by decide +kernel, rfl, by decide +kernel, by decide +kernel⟩
abbrev s_either : Stmt := top 14
abbrev n_either : List Str := ["first", "second"]
theorem sc_either : FnScope n_either ["first", "second"] (defScope s_either) := ⟨rfl, rfl, rfl, by decide +kernel, rfl, by decide +kernel, by decide +kernel⟩
abbrev s_stretched : Stmt := top 15
abbrev n_stretched : List Str := ["row", "tosses", "longer"]
theorem sc_stretched : FnScope n_stretched ["row", "tosses"] (defScope s_stretched) := ⟨rfl, rfl, rfl, by decide +kernel, rfl, by decide +kernel, by decide +kernel⟩
abbrev s_are_same : Stmt := top 16
abbrev n_are_same : List Str := ["first", "second"]
theorem sc_are_same : FnScope n_are_same ["first", "second"] (defScope s_are_same) := ⟨rfl, rfl, rfl, by decide +kernel, rfl, by decide +kernel, by decide +kernel⟩
abbrev s_added_up : Stmt := top 17
abbrev n_added_up : List Str := ["first", "second", "heads"]
theorem sc_added_up : FnScope n_added_up ["first", "second"] (defScope s_added_up) := ⟨rfl, rfl, rfl, by decide +kernel, rfl, by decide +kernel, by decide +kernel⟩
abbrev s_if_yes : Stmt := top 18
abbrev n_if_yes : List Str := ["first", "second", "third", "tosses", "where_yes", "where_no"]
theorem sc_if_yes : FnScope n_if_yes ["first", "second", "third"] (defScope s_if_yes) := ⟨rfl, rfl, rfl, by decide +kernel, rfl, by decide +kernel, by decide +kernel⟩
abbrev s_all_of : Stmt := top 19
abbrev n_all_of : List Str := ["row", "times", "made", "again"]
theorem sc_all_of : FnScope n_all_of ["row", "times"] (defScope s_all_of) := ⟨rfl, rfl, rfl, by decide +kernel, rfl, by decide +kernel, by decide +kernel⟩
abbrev s_tossed_by : Stmt := top 20
abbrev n_tossed_by : List Str := ["first", "second", "made", "heads", "tails", "one", "number"]
theorem sc_tossed_by : FnScope n_tossed_by ["first", "second"] (defScope s_tossed_by) := ⟨rfl, rfl, rfl, by decide +kernel, rfl, by decide +kernel, by decide +kernel⟩
abbrev s_are_tosses : Stmt := top 22
abbrev n_are_tosses : List Str := ["tossed", "toss"]
theorem sc_are_tosses : FnScope n_are_tosses ["tossed"] (defScope s_are_tosses) := ⟨rfl, rfl, rfl, by decide +kernel, rfl, by decide +kernel, by decide +kernel⟩
abbrev s_how_many_ahead : Stmt := top 23
abbrev n_how_many_ahead : List Str := ["tossed", "ahead", "heads", "behind", "toss"]
theorem sc_how_many_ahead : FnScope n_how_many_ahead ["tossed"] (defScope s_how_many_ahead) := ⟨rfl, rfl, rfl, by decide +kernel, rfl, by decide +kernel, by decide +kernel⟩
abbrev s_says_yes : Stmt := top 24
abbrev n_says_yes : List Str := ["row", "tossed"]
theorem sc_says_yes : FnScope n_says_yes ["row", "tossed"] (defScope s_says_yes) := ⟨rfl, rfl, rfl, by decide +kernel, rfl, by decide +kernel, by decide +kernel⟩
abbrev s_first_unlike_pair : Stmt := top 25
abbrev n_first_unlike_pair : List Str := ["tossed", "at"]
theorem sc_first_unlike_pair : FnScope n_first_unlike_pair ["tossed"] (defScope s_first_unlike_pair) := ⟨rfl, rfl, rfl, by decide +kernel, rfl, by decide +kernel, by decide +kernel⟩
abbrev s_Holder_init : Stmt := inClass (top 36) 0
abbrev n_Holder_init : List Str := ["self"]
theorem sc_Holder_init : FnScope n_Holder_init ["self"] (defScope s_Holder_init) := ⟨rfl, rfl, rfl, by decide +kernel, rfl, by decide +kernel, by decide +kernel⟩
abbrev s_Holder_begin : Stmt := inClass (top 36) 1
abbrev n_Holder_begin : List Str := ["self"]
theorem sc_Holder_begin : FnScope n_Holder_begin ["self"] (defScope s_Holder_begin) := ⟨rfl, rfl, rfl, by decide +kernel, rfl, by decide +kernel, by decide +kernel⟩
abbrev s_Holder_has : Stmt := inClass (top 36) 2
abbrev n_Holder_has : List Str := ["self", "i"]
theorem sc_Holder_has : FnScope n_Holder_has ["self", "i"] (defScope s_Holder_has) := ⟨rfl, rfl, rfl, by decide +kernel, rfl, by decide +kernel, by decide +kernel⟩
abbrev s_Holder_change : Stmt := inClass (top 36) 3
abbrev n_Holder_change : List Str := ["self", "rows"]
theorem sc_Holder_change : FnScope n_Holder_change ["self", "rows"] (defScope s_Holder_change) := ⟨rfl, rfl, rfl, by decide +kernel, rfl, by decide +kernel, by decide +kernel⟩
abbrev s_Holder_add : Stmt := inClass (top 36) 4
abbrev n_Holder_add : List Str := ["self", "row"]
theorem sc_Holder_add : FnScope n_Holder_add ["self", "row"] (defScope s_Holder_add) := ⟨rfl, rfl, rfl, by decide +kernel, rfl, by decide +kernel, by decide +kernel⟩
abbrev s_Holder_drop : Stmt := inClass (top 36) 5
abbrev n_Holder_drop : List Str := ["self", "i"]
theorem sc_Holder_drop : FnScope n_Holder_drop ["self", "i"] (defScope s_Holder_drop) := ⟨rfl, rfl, rfl, by decide +kernel, rfl, by decide +kernel, by decide +kernel⟩
abbrev s_Holder_changes : Stmt := inClass (top 36) 6
abbrev n_Holder_changes : List Str := ["self"]
theorem sc_Holder_changes : FnScope n_Holder_changes ["self"] (defScope s_Holder_changes) := ⟨rfl, rfl, rfl, by decide +kernel, rfl, by decide +kernel, by decide +kernel⟩
abbrev s_Holder_back : Stmt := inClass (top 36) 7
abbrev n_Holder_back : List Str := ["self"]
theorem sc_Holder_back : FnScope n_Holder_back ["self"] (defScope s_Holder_back) := ⟨rfl, rfl, rfl, by decide +kernel, rfl, by decide +kernel, by decide +kernel⟩
abbrev s_is_polynomial : Stmt := top 40
abbrev n_is_polynomial : List Str := ["numbers", "number"]
theorem sc_is_polynomial : FnScope n_is_polynomial ["numbers"] (defScope s_is_polynomial) := ⟨rfl, rfl, rfl, by decide +kernel, rfl, by decide +kernel, by decide +kernel⟩
abbrev s_by_heads : Stmt := top 41
abbrev n_by_heads : List Str := ["numbers", "tosses", "heads", "total", "place"]
theorem sc_by_heads : FnScope n_by_heads ["numbers", "tosses", "heads"] (defScope s_by_heads) := ⟨rfl, rfl, rfl, by decide +kernel, rfl, by decide +kernel, by decide +kernel⟩
abbrev s_by_tosses : Stmt := top 42
abbrev n_by_tosses : List Str := ["numbers", "tosses", "heads"]
theorem sc_by_tosses : FnScope n_by_tosses ["numbers", "tosses"] (defScope s_by_tosses) := ⟨rfl, rfl, rfl, by decide +kernel, rfl, by decide +kernel, by decide +kernel⟩
abbrev s_coin_with_fewest_tosses : Stmt := top 43
abbrev n_coin_with_fewest_tosses : List Str := ["numbers", "tosses", "row"]
theorem sc_coin_with_fewest_tosses : FnScope n_coin_with_fewest_tosses ["numbers"] (defScope s_coin_with_fewest_tosses) := ⟨rfl, rfl, rfl, by decide +kernel, rfl, by decide +kernel, by decide +kernel⟩
abbrev s_number_by_power : Stmt := top 44
abbrev n_number_by_power : List Str := ["row", "place", "total", "heads", "ways"]
theorem sc_number_by_power : FnScope n_number_by_power ["row", "place"] (defScope s_number_by_power) := ⟨rfl, rfl, rfl, by decide +kernel, rfl, by decide +kernel, by decide +kernel⟩
abbrev s_by_powers : Stmt := top 45
abbrev n_by_powers : List Str := ["row", "place"]
theorem sc_by_powers : FnScope n_by_powers ["row"] (defScope s_by_powers) := ⟨rfl, rfl, rfl, by decide +kernel, rfl, by decide +kernel, by decide +kernel⟩
abbrev s_is_always : Stmt := top 46
abbrev n_is_always : List Str := ["numbers", "number"]
theorem sc_is_always : FnScope n_is_always ["numbers", "number"] (defScope s_is_always) := ⟨rfl, rfl, rfl, by decide +kernel, rfl, by decide +kernel, by decide +kernel⟩
abbrev s_can_never_be : Stmt := top 47
abbrev n_can_never_be : List Str := ["numbers", "a", "b", "value", "sure"]
theorem sc_can_never_be : FnScope n_can_never_be ["numbers", "a", "b"] (defScope s_can_never_be) := ⟨rfl, rfl, rfl, by decide +kernel, rfl, by decide +kernel, by decide +kernel⟩
abbrev s_begin : Stmt := top 52
abbrev n_begin : List Str := ["holder", "numbers", "row"]
theorem sc_begin : FnScope n_begin ["holder", "numbers", "row"] (defScope s_begin) := ⟨rfl, rfl, rfl, by decide +kernel, rfl, by decide +kernel, by decide +kernel⟩
abbrev s_coin : Stmt := top 53
abbrev n_coin : List Str := ["holder", "numbers", "row"]
theorem sc_coin : FnScope n_coin ["holder", "numbers", "row"] (defScope s_coin) := ⟨rfl, rfl, rfl, by decide +kernel, rfl, by decide +kernel, by decide +kernel⟩
abbrev s_poly : Stmt := top 54
abbrev n_poly : List Str := ["holder", "numbers", "row", "made"]
theorem sc_poly : FnScope n_poly ["holder", "numbers", "row"] (defScope s_poly) := ⟨rfl, rfl, rfl, by decide +kernel, rfl, by decide +kernel, by decide +kernel⟩
abbrev s_drop : Stmt := top 55
abbrev n_drop : List Str := ["holder", "numbers", "row"]
theorem sc_drop : FnScope n_drop ["holder", "numbers", "row"] (defScope s_drop) := ⟨rfl, rfl, rfl, by decide +kernel, rfl, by decide +kernel, by decide +kernel⟩
abbrev s_more : Stmt := top 56
abbrev n_more : List Str := ["holder", "numbers", "row", "told"]
theorem sc_more : FnScope n_more ["holder", "numbers", "row"] (defScope s_more) := ⟨rfl, rfl, rfl, by decide +kernel, rfl, by decide +kernel, by decide +kernel⟩
abbrev s_less : Stmt := top 57
abbrev n_less : List Str := ["holder", "numbers", "row", "made"]
theorem sc_less : FnScope n_less ["holder", "numbers", "row"] (defScope s_less) := ⟨rfl, rfl, rfl, by decide +kernel, rfl, by decide +kernel, by decide +kernel⟩
abbrev s_not_of : Stmt := top 58
abbrev n_not_of : List Str := ["holder", "numbers", "row"]
theorem sc_not_of : FnScope n_not_of ["holder", "numbers", "row"] (defScope s_not_of) := ⟨rfl, rfl, rfl, by decide +kernel, rfl, by decide +kernel, by decide +kernel⟩
abbrev s_and_of : Stmt := top 59
abbrev n_and_of : List Str := ["holder", "numbers", "row", "first", "second"]
theorem sc_and_of : FnScope n_and_of ["holder", "numbers", "row"] (defScope s_and_of) := ⟨rfl, rfl, rfl, by decide +kernel, rfl, by decide +kernel, by decide +kernel⟩
abbrev s_or_of : Stmt := top 60
abbrev n_or_of : List Str := ["holder", "numbers", "row", "first", "second"]
theorem sc_or_of : FnScope n_or_of ["holder", "numbers", "row"] (defScope s_or_of) := ⟨rfl, rfl, rfl, by decide +kernel, rfl, by decide +kernel, by decide +kernel⟩
abbrev s_if_then : Stmt := top 61
abbrev n_if_then : List Str := ["holder", "numbers", "row", "first", "second", "third"]
theorem sc_if_then : FnScope n_if_then ["holder", "numbers", "row"] (defScope s_if_then) := ⟨rfl, rfl, rfl, by decide +kernel, rfl, by decide +kernel, by decide +kernel⟩
abbrev s_of : Stmt := top 62
abbrev n_of : List Str := ["holder", "numbers", "row", "first", "second"]
theorem sc_of : FnScope n_of ["holder", "numbers", "row"] (defScope s_of) := ⟨rfl, rfl, rfl, by decide +kernel, rfl, by decide +kernel, by decide +kernel⟩
abbrev s_with_count : Stmt := top 63
abbrev n_with_count : List Str := ["numbers"]
theorem sc_with_count : FnScope n_with_count ["numbers"] (defScope s_with_count) := ⟨rfl, rfl, rfl, by decide +kernel, rfl, by decide +kernel, by decide +kernel⟩
abbrev s_coin_row : Stmt := top 64
abbrev n_coin_row : List Str := ["holder", "numbers", "row"]
theorem sc_coin_row : FnScope n_coin_row ["holder", "numbers", "row"] (defScope s_coin_row) := ⟨rfl, rfl, rfl, by decide +kernel, rfl, by decide +kernel, by decide +kernel⟩
abbrev s_coefs : Stmt := top 65
abbrev n_coefs : List Str := ["holder", "numbers", "row"]
theorem sc_coefs : FnScope n_coefs ["holder", "numbers", "row"] (defScope s_coefs) := ⟨rfl, rfl, rfl, by decide +kernel, rfl, by decide +kernel, by decide +kernel⟩
abbrev s_chance : Stmt := top 66
abbrev n_chance : List Str := ["holder", "numbers", "row", "told", "a", "b"]
theorem sc_chance : FnScope n_chance ["holder", "numbers", "row"] (defScope s_chance) := ⟨rfl, rfl, rfl, by decide +kernel, rfl, by decide +kernel, by decide +kernel⟩
abbrev s_same : Stmt := top 67
abbrev n_same : List Str := ["holder", "numbers", "row"]
theorem sc_same : FnScope n_same ["holder", "numbers", "row"] (defScope s_same) := ⟨rfl, rfl, rfl, by decide +kernel, rfl, by decide +kernel, by decide +kernel⟩
abbrev s_least : Stmt := top 68
abbrev n_least : List Str := ["holder", "numbers", "row"]
theorem sc_least : FnScope n_least ["holder", "numbers", "row"] (defScope s_least) := ⟨rfl, rfl, rfl, by decide +kernel, rfl, by decide +kernel, by decide +kernel⟩
abbrev s_says : Stmt := top 69
abbrev n_says : List Str := ["holder", "numbers", "row", "told"]
theorem sc_says : FnScope n_says ["holder", "numbers", "row"] (defScope s_says) := ⟨rfl, rfl, rfl, by decide +kernel, rfl, by decide +kernel, by decide +kernel⟩
abbrev s_can : Stmt := top 70
abbrev n_can : List Str := ["holder", "numbers", "row", "made"]
theorem sc_can : FnScope n_can ["holder", "numbers", "row"] (defScope s_can) := ⟨rfl, rfl, rfl, by decide +kernel, rfl, by decide +kernel, by decide +kernel⟩
abbrev s_never : Stmt := top 71
abbrev n_never : List Str := ["holder", "numbers", "row", "a", "b"]
theorem sc_never : FnScope n_never ["holder", "numbers", "row"] (defScope s_never) := ⟨rfl, rfl, rfl, by decide +kernel, rfl, by decide +kernel, by decide +kernel⟩
abbrev s_fair : Stmt := top 72
abbrev n_fair : List Str := ["holder", "numbers", "row", "at"]
theorem sc_fair : FnScope n_fair ["holder", "numbers", "row"] (defScope s_fair) := ⟨rfl, rfl, rfl, by decide +kernel, rfl, by decide +kernel, by decide +kernel⟩
abbrev s_back : Stmt := top 73
abbrev n_back : List Str := ["holder", "numbers", "row"]
theorem sc_back : FnScope n_back ["holder", "numbers", "row"] (defScope s_back) := ⟨rfl, rfl, rfl, by decide +kernel, rfl, by decide +kernel, by decide +kernel⟩
abbrev s_state : Stmt := top 74
abbrev n_state : List Str := ["holder", "numbers", "row"]
theorem sc_state : FnScope n_state ["holder", "numbers", "row"] (defScope s_state) := ⟨rfl, rfl, rfl, by decide +kernel, rfl, by decide +kernel, by decide +kernel⟩
abbrev s_answer_to : Stmt := top 76
abbrev n_answer_to : List Str := ["holder", "call", "numbers", "row", "i"]
theorem sc_answer_to : FnScope n_answer_to ["holder", "call", "numbers", "row"] (defScope s_answer_to) := ⟨rfl, rfl, rfl, by decide +kernel, rfl, by decide +kernel, by decide +kernel⟩
abbrev s_read_call : Stmt := top 77
abbrev n_read_call : List Str := ["calls", "at", "shape", "end", "numbers", "row", "length"]
theorem sc_read_call : FnScope n_read_call ["calls", "at"] (defScope s_read_call) := ⟨rfl, rfl, rfl, by decide +kernel, rfl, by decide +kernel, by decide +kernel⟩
abbrev s_answers : Stmt := top 78
abbrev n_answers : List Str := ["calls", "holder", "given", "at", "told", "answer"]
theorem sc_answers : FnScope n_answers ["calls"] (defScope s_answers) := ⟨rfl, rfl, rfl, by decide +kernel, rfl, by decide +kernel, by decide +kernel⟩
end Mc

end
section
set_option Elab.async false
set_option linter.all false
set_option maxRecDepth 100000
set_option maxHeartbeats 4000000
namespace Mc
open PySem PySem.Spec PyProof.Rows L2
open Kv394 (choose tosses)
structure Bl (mg : Str → Option Value) : Prop where
  range : mg "range" = none
  len : mg "len" = none
  list : mg "list" = none
  max : mg "max" = none
  min : mg "min" = none
  sum : mg "sum" = none
section
variable {P : Program} {w : World} {K : PySem.W.Frag} {mg : Str → Option Value} {base : Heap}
/-! ### choose -/
def spChoose : Sp := fun vs H Q _ => ∃ n k : Nat, vs = [.int n, .int k] ∧ n ≤ 1000 ∧ k ≤ 1000 ∧ Q (.int (choose n k)) H
theorem choose_turn (n i : Nat) : (choose n i : Int) * ((n : Int) - (i : Int)) / ((i : Int) + 1) = (choose n (i + 1) : Int) := by
  have h := choose_step n i
  rw [Int.mul_comm, ← h]
  exact Int.mul_ediv_cancel_left _ (by omega)
theorem ok_choose (B : Bl mg) (D : DefAt K mg "choose" s_choose ["n", "k"]) : Cal P w K mg base "choose" ["n", "k"] 1 spChoose := by
  refine D.cal sc_choose (fun vs H Q E h => ?_) (fun f cdv A outer s H vs Q E hr h => ?_)
  · obtain ⟨n, k, rfl, _⟩ := h
    rfl
  · obtain ⟨n, k, rfl, hn, hk, q⟩ := h
    refine ⟨_, pss_cons (ps_set (i := 2) sc_choose.nd rfl (Or.inl rfl) pe_int)
      (pss_cons (ps_for PassesOwn.never rfl (pi_range1 rfl B.range (pa_cons (pv 1) pa_nil)) (pg_name (i := 3) sc_choose.nd rfl (Or.inl rfl))
        (pss_one (ps_set (i := 2) sc_choose.nd rfl (Or.inl rfl) (pe_op op_fdiv (pe_op op_mul (pv 2) (pe_op op_sub (pv 0) (pv 3))) (pe_op op_add (pv 3) pe_int)))))
      (pss_one (ps_ret (pv 2)))), ?_⟩
    refine ⟨_, rfl, (k : Int), rfl, by omega, by omega, ?_⟩
    rw [Int.toNat_natCast]
    refine for_range (lo := 0) (n := k) (fun i σ H' => ∃ v : Option V, σ = [some (.int n), some (.int k), some (.int (choose n i)), v] ∧ H' = H) ⟨none, ?_, rfl⟩ ?_ ?_
    · rw [choose_zero]; rfl
    · rintro i σ H' hi ⟨v, rfl, rfl⟩
      refine ⟨_, rfl, _, rfl, _, rfl, _, _, rfl, rfl, _, _, rfl, rfl, .inr ⟨by omega, by omega⟩, _, rfl, _, _, rfl, rfl, _, _, rfl, rfl, ⟨by omega, by omega⟩, some (.int (0 + (i : Int))), ?_, rfl⟩
      have e := choose_turn n i
      rw [Int.zero_add]
      exact congrArg (fun z => [some (V.int n), some (V.int k), some (V.int z), some (V.int i)]) e
    · rintro σ H' ⟨v, rfl, rfl⟩
      exact ⟨_, rfl, q⟩
/-! ### tosses_of -/
def spTosses (K : PySem.W.Frag) : Sp := fun vs H Q _ => ∃ (a : Addr) (ns : List Int), vs = [.ref a] ∧ LI K H a ns ∧ Q (.int ((ns.length : Int) - 1)) H
theorem ok_tosses (B : Bl mg) (D : DefAt K mg "tosses_of" s_tosses_of ["row"]) : Cal P w K mg base "tosses_of" ["row"] 1 (spTosses K) := by
  refine D.cal sc_tosses_of (fun vs H Q E h => ?_) (fun f cdv A outer s H vs Q E hr h => ?_)
  · obtain ⟨a, ns, rfl, _⟩ := h
    rfl
  · obtain ⟨a, ns, rfl, hS, q⟩ := h
    refine ⟨_, pss_one (ps_ret (pe_op op_sub (pe_callB call_len_seq (by rfl) B.len PySem.boot_len (pa_cons (pv 0) pa_nil)) pe_int)), ?_⟩
    refine ⟨_, rfl, a, _, rfl, .inl hS, _, _, rfl, rfl, ?_⟩
    rw [List.length_map]
    exact q
/-! ### fits -/
def spFits (K : PySem.W.Frag) : Sp := fun vs H Q _ => ∃ (a : Addr) (ns : List Int), vs = [.ref a] ∧ LI K H a ns ∧ 1 ≤ ns.length ∧ ns.length ≤ 1000 ∧ Q (.bl (Kv394.fits (ns.length - 1) ns)) H
theorem ok_fits_ (B : Bl mg) (CC : Cal P w K mg base "choose" ["n", "k"] 1 spChoose) (CT : Cal P w K mg base "tosses_of" ["row"] 1 (spTosses K)) (D : DefAt K mg "fits" s_fits ["row"]) : Cal P w K mg base "fits" ["row"] 2 (spFits K) := by
  refine D.cal sc_fits (fun vs H Q E h => ?_) (fun f cdv A outer s H vs Q E hr h => ?_)
  · obtain ⟨a, ns, rfl, _⟩ := h
    rfl
  · obtain ⟨a, ns, rfl, hS, h1, h2, q⟩ := h
    refine ⟨_, pss_cons (ps_set (i := 1) sc_fits.nd rfl (Or.inl rfl) (pe_callC CT hr (by rfl) (pa_cons (pv 0) pa_nil)))
      (pss_cons (ps_for PassesOwn.never rfl (pi_range1 rfl B.range (pa_cons (pe_callB call_len_seq (by rfl) B.len PySem.boot_len (pa_cons (pv 0) pa_nil)) pa_nil)) (pg_name (i := 2) sc_fits.nd rfl (Or.inl rfl))
        (pss_one (ps_if (PW.pt (pw_or (pt_cmpR op_lt (pe_ix ix_list (pv 0) (pv 2) (fun _ _ => rfl)) pe_int (nomark _)) (pw_or1 (pt_cmpR op_gt (pe_ix ix_list (pv 0) (pv 2) (fun _ _ => rfl)) (pe_callC CC hr (by rfl) (pa_cons (pv 1) (pa_cons (pv 2) pa_nil))) (nomark _)))))
          (pss_one (ps_ret pe_bl)) pss_nil)))
      (pss_one (ps_ret pe_bl))), ?_⟩
    refine ⟨_, rfl, a, ns, rfl, hS, ?_⟩
    refine ⟨_, rfl, a, _, rfl, .inl hS, ((ns.length : Nat) : Int), by rw [List.length_map], by omega, by omega, ?_⟩
    rw [Int.toNat_natCast]
    refine for_range (lo := 0) (n := ns.length) (fun i σ H' => ∃ v : Option V, σ = [some (.ref a), some (.int ((ns.length : Int) - 1)), v] ∧ H' = H ∧ ∀ j, j < i → 0 ≤ ns.getD j 0 ∧ ns.getD j 0 ≤ (choose (ns.length - 1) j : Int)) ⟨none, rfl, rfl, fun j hj => absurd hj (by omega)⟩ ?_ ?_
    · rintro i σ H' hi ⟨v, rfl, rfl, ih⟩
      have e0 : (0 : Int) + (i : Int) = (i : Int) := Int.zero_add _
      refine ⟨_, rfl, _, rfl, a, _, _, _, rfl, rfl, hS, at_int (j := i) e0 hi, _, _, rfl, rfl, _, rfl, ?_⟩
      refine ite2 (fun c1 => ?_) (fun c1 => ?_)
      · refine iteT ?_
        have c : ns.getD i 0 < 0 := of_decide_eq_true c1
        rw [fits_not hi (k := ns.length - 1) (by omega)] at q
        exact q
      · have c : ¬ ns.getD i 0 < 0 := fun z => c1 (decide_eq_true z)
        refine ⟨_, rfl, _, rfl, a, _, _, _, rfl, rfl, hS, at_int (j := i) e0 hi, _, rfl, _, rfl, ns.length - 1, i, ?_, by omega, by omega, _, _, rfl, rfl, _, rfl, ?_⟩
        · rw [e0, show ((ns.length : Int) - 1) = ((ns.length - 1 : Nat) : Int) by omega]
        · refine ite2 (fun c2 => ?_) (fun c2 => ?_)
          · have c3 : (choose (ns.length - 1) i : Int) < ns.getD i 0 := of_decide_eq_true c2
            rw [fits_not hi (k := ns.length - 1) (by omega)] at q
            exact q
          · have c3 : ¬ (choose (ns.length - 1) i : Int) < ns.getD i 0 := fun z => c2 (decide_eq_true z)
            refine ⟨some (.int (0 + (i : Int))), rfl, rfl, fun j hj => ?_⟩
            by_cases e : j = i
            · subst e; omega
            · exact ih j (by omega)
    · rintro σ H' ⟨v, rfl, rfl, ih⟩
      rw [fits_iff.mpr ih] at q
      exact q
/-! ### is_coin -/
def spIsCoin (K : PySem.W.Frag) : Sp := fun vs H Q _ => ∃ (a : Addr) (ns : List Int), vs = [.ref a] ∧ LI K H a ns ∧ (∀ x ∈ ns, 0 ≤ x) ∧ Q (.bl (Kv394.ok (ns.map Int.toNat))) H
theorem ok_is_coin (mT : GI mg "MOST_TOSSES" 10) (CT : Cal P w K mg base "tosses_of" ["row"] 1 (spTosses K)) (CF : Cal P w K mg base "fits" ["row"] 2 (spFits K)) (D : DefAt K mg "is_coin" s_is_coin ["row"]) : Cal P w K mg base "is_coin" ["row"] 3 (spIsCoin K) := by
  refine D.cal sc_is_coin (fun vs H Q E h => ?_) (fun f cdv A outer s H vs Q E hr h => ?_)
  · obtain ⟨a, ns, rfl, _⟩ := h
    rfl
  · obtain ⟨a, ns, rfl, hS, hp, q⟩ := h
    refine ⟨_, pss_cons (ps_set (i := 1) sc_is_coin.nd rfl (Or.inl rfl) (pe_callC CT (hr.mono (by decide)) (by rfl) (pa_cons (pv 0) pa_nil)))
      (pss_one (ps_ret (pe_and (pe_cmpR op_ge (pv 1) pe_int (nomark _)) (pe_and (pe_cmpR op_le (pv 1) (pe_gi mT (by rfl)) (nomark _)) (pe_one (pe_callC CF hr (by rfl) (pa_cons (pv 0) pa_nil))))))), ?_⟩
    rw [ok_fits hp] at q
    refine ⟨_, rfl, a, ns, rfl, hS, ?_⟩
    refine ⟨_, rfl, _, _, rfl, rfl, _, rfl, ?_⟩
    refine ite2 (fun c1 => ?_) (fun c1 => ?_)
    · have c : 0 ≤ (ns.length : Int) - 1 := of_decide_eq_true c1
      rw [decide_eq_true c, Bool.true_and] at q
      refine ⟨_, rfl, _, _, rfl, rfl, _, rfl, ?_⟩
      refine ite2 (fun c2 => ?_) (fun c2 => ?_)
      · have c3 : (ns.length : Int) - 1 ≤ 10 := of_decide_eq_true c2
        rw [decide_eq_true c3, Bool.true_and] at q
        exact ⟨_, rfl, a, ns, rfl, hS, by omega, by omega, q⟩
      · have c3 : ¬ (ns.length : Int) - 1 ≤ 10 := fun z => c2 (decide_eq_true z)
        rw [decide_eq_false c3, Bool.false_and] at q
        exact q
    · have c : ¬ 0 ≤ (ns.length : Int) - 1 := fun z => c1 (decide_eq_true z)
      rw [decide_eq_false c, Bool.false_and] at q
      exact q
end
end Mc

end
section
set_option Elab.async false
set_option linter.all false
set_option maxRecDepth 100000
set_option maxHeartbeats 4000000
namespace Mc
open PySem PySem.Spec PyProof.Rows L2
open Kv394 (choose tosses)
section
variable {P : Program} {w : World} {K : PySem.W.Frag} {mg : Str → Option Value} {base : Heap}
/-! ### toss_more -/
def spMore (K : PySem.W.Frag) : Sp := fun vs H Q _ => ∃ (a : Addr) (c : List Nat), vs = [.ref a] ∧ LI K H a (iN c) ∧ 1 ≤ c.length ∧ c.length ≤ 1000 ∧ NewL H (iN (Kv394.more c)) Q
theorem ok_more (B : Bl mg) (D : DefAt K mg "toss_more" s_toss_more ["row"]) : Cal P w K mg base "toss_more" ["row"] 1 (spMore K) := by
  refine D.cal sc_toss_more (fun vs H Q E h => ?_) (fun f cdv A outer s H vs Q E hr h => ?_)
  · obtain ⟨a, ns, rfl, _⟩ := h
    rfl
  · obtain ⟨a, c, rfl, hS, h1, h2, q⟩ := h
    refine ⟨_, pss_cons (ps_set (i := 1) sc_toss_more.nd rfl (Or.inl rfl) (pe_lst (pa_cons (pe_ix ix_I (pv 0) pe_int (fun _ _ => rfl)) pa_nil)))
      (pss_cons (ps_for PassesOwn.never rfl (pi_range2 (by rfl) B.range (pa_cons pe_int (pa_cons (pe_lenV 0 B.len (by rfl) (pv 0)) pa_nil))) (pg_name (i := 2) sc_toss_more.nd rfl (Or.inl rfl))
        (pss_one (ps_appI (pv 1) (pe_op op_add (pe_ix ix_I (pv 0) (pv 2) (fun _ _ => rfl)) (pe_ix ix_I (pv 0) (pe_op op_sub (pv 2) pe_int) (fun _ _ => rfl))))))
      (pss_cons (ps_appI (pv 1) (pe_ix ix_E (pv 0) (pe_un un_neg pe_int) (fun _ _ => rfl)))
      (pss_one (ps_ret (pv 1))))), ?_⟩
    refine ⟨_, rfl, a, iN c, 0, 0, rfl, rfl, hS, rfl, by rw [iN_len]; omega, (by show 1 ≤ sizeLine; decide), fun l hl => ?_⟩
    have S0 : Same H (upd H l (.lst [V.int ((iN c).getD 0 0)])) := Same.upd_new (Same.refl H) hl
    refine ⟨_, rfl, a, iN c, rfl, S0.seq hS, 1, ((iN c).length : Nat), rfl, ⟨by omega, by omega, by omega, by rw [iN_len]; omega⟩, ?_⟩
    refine for_range (lo := 1) (n := (((iN c).length : Nat) - 1 : Int).toNat) (fun i σ H' => ∃ v : Option V, σ = [some (.ref a), some (.ref l), v] ∧ Same H H' ∧ H' l = some (.lst (((iN (Kv394.more c)).take (i + 1)).map V.int))) ⟨none, rfl, S0, ?_⟩ ?_ ?_
    · rw [upd_same, more_first h1, iN_getD]; rfl
    · rintro i σ H' hi ⟨v, rfl, S1, hq⟩
      rw [iN_len] at hi
      have hi2 : 1 + i < c.length := by omega
      refine ⟨_, rfl, .inl ⟨rfl, _, SqL.of hq⟩, _, rfl, _, rfl, a, iN c, _, 1 + i, rfl, rfl, S1.seq hS, by omega, by rw [iN_len]; exact hi2, _, rfl, _, rfl, _, _, rfl, rfl, a, iN c, _, i, rfl, rfl, S1.seq hS, by omega, by rw [iN_len]; omega, _, _, rfl, rfl,
        l, _, _, rfl, rfl, hq, by rw [List.length_take, iN_len, more_len]; omega, some (.int (1 + (i : Int))), rfl, Same.upd_own S1 hl, ?_⟩
      rw [upd_same, more_mid hi2, iN_getD, iN_getD]
    · rintro σ H' ⟨v, rfl, S1, hq⟩
      have e : (((iN c).length : Nat) - 1 : Int).toNat + 1 = c.length := by rw [iN_len]; omega
      rw [e] at hq
      refine ⟨_, rfl, .inl ⟨rfl, _, SqL.of hq⟩, _, rfl, _, rfl, a, iN c, rfl, rfl, S1.seq hS, by rw [iN_len]; exact h1, l, _, _, rfl, rfl, hq, by rw [List.length_take, iN_len, more_len]; omega, ?_⟩
      refine ⟨_, rfl, q _ l (Same.upd_own S1 hl) hl ?_⟩
      rw [upd_same, iN_len, iN_getD, more_end h1]
/-! ### toss_fewer -/
def spFewer (K : PySem.W.Frag) : Sp := fun vs H Q _ => ∃ (a : Addr) (c : List Nat), vs = [.ref a] ∧ LI K H a (iN c) ∧ 1 ≤ c.length ∧ c.length ≤ 11 ∧
  (Kv394.less c = none → ∀ H', Same H H' → Q .non H') ∧ ∀ d, Kv394.less c = some d → NewL H (iN d) Q
theorem dec_ne {i j : Int} : (!decide (V.int i = V.int j)) = true ↔ i ≠ j := by
  rw [Bool.not_eq_true', decide_eq_false_iff_not]
  exact ⟨fun h e => h (by rw [e]), fun h e => h (V.int.inj e)⟩
theorem ok_fewer (B : Bl mg) (CT : Cal P w K mg base "tosses_of" ["row"] 1 (spTosses K)) (CF : Cal P w K mg base "fits" ["row"] 2 (spFits K)) (D : DefAt K mg "toss_fewer" s_toss_fewer ["row"]) : Cal P w K mg base "toss_fewer" ["row"] 3 (spFewer K) := by
  refine D.cal sc_toss_fewer (fun vs H Q E h => ?_) (fun f cdv A outer s H vs Q E hr h => ?_)
  · obtain ⟨a, ns, rfl, _⟩ := h
    rfl
  · obtain ⟨a, c, rfl, hS, h1, h2, qN, qS⟩ := h
    have hr1 : Room 1 _ := hr.mono (by decide)
    refine ⟨_, pss_cons (ps_if (pt_cmpR op_eq (pe_callC CT hr1 (by rfl) (pa_cons (pv 0) pa_nil)) pe_int (nomark _)) (pss_one (ps_ret pe_non)) pss_nil)
      (pss_cons (ps_set (i := 1) sc_toss_fewer.nd rfl (Or.inl rfl) (pe_lst pa_nil))
      (pss_cons (ps_set (i := 2) sc_toss_fewer.nd rfl (Or.inl rfl) pe_int)
      (pss_cons (ps_for PassesOwn.never rfl (pi_range1 rfl B.range (pa_cons (pe_callC CT hr1 (by rfl) (pa_cons (pv 0) pa_nil)) pa_nil)) (pg_name (i := 3) sc_toss_fewer.nd rfl (Or.inl rfl))
        (pss_cons (ps_set (i := 2) sc_toss_fewer.nd rfl (Or.inl rfl) (pe_op op_sub (pe_ix ix_I (pv 0) (pv 3) (fun _ _ => rfl)) (pv 2))) (pss_one (ps_appI (pv 1) (pv 2)))))
      (pss_cons (ps_if (PW.pt (pw_or (pt_cmpR op_ne (pv 2) (pe_ix ix_E (pv 0) (pe_un un_neg pe_int) (fun _ _ => rfl)) (nomark _)) (pw_or1 (pt_not (pt_val (pe_callC CF hr (by rfl) (pa_cons (pv 1) pa_nil))))))) (pss_one (ps_ret pe_non)) pss_nil)
      (pss_one (ps_ret (pv 1))))))), ?_⟩
    have hl := len_tosses h1
    have le := less_eq h1 h2
    refine ⟨_, rfl, a, iN c, rfl, hS, rfl, _, rfl, ?_⟩
    refine ite2 (fun c0 => ?_) (fun c0 => ?_)
    · have c1 : (((iN c).length : Int) - 1) = 0 := V.int.inj (of_decide_eq_true c0)
      rw [iN_len] at c1
      rw [if_pos (by omega)] at le
      exact qN le H (Same.refl H)
    · have c1 : ¬ (((iN c).length : Int) - 1) = 0 := fun z => c0 (decide_eq_true (by rw [z]))
      rw [iN_len] at c1
      rw [if_neg (by omega)] at le
      refine ⟨Nat.zero_le _, fun l hl0 => ?_⟩
      have S0 : Same H (upd H l (.lst [])) := Same.upd_new (Same.refl H) hl0
      refine ⟨_, rfl, a, iN c, rfl, S0.seq hS, ((tosses c : Nat) : Int), by rw [iN_len, hl]; congr 2; omega, by omega, by omega, ?_⟩
      rw [Int.toNat_natCast]
      refine for_range (lo := 0) (n := tosses c) (fun i σ H' => ∃ v : Option V, σ = [some (.ref a), some (.ref l), some (.int (bef c i)), v] ∧ Same H H' ∧ H' l = some (.lst ((alts c i).map V.int))) ⟨none, rfl, S0, ?_⟩ ?_ ?_
      · rw [upd_same]; rfl
      · rintro i σ H' hi ⟨v, rfl, S1, hq⟩
        refine ⟨_, rfl, _, rfl, a, iN c, _, i, rfl, rfl, S1.seq hS, Int.zero_add _, by rw [iN_len]; omega, _, rfl, _, _, rfl, rfl, ?_⟩
        refine ⟨_, rfl, .inl ⟨rfl, _, SqL.of hq⟩, _, rfl, l, _, _, rfl, rfl, hq, by rw [alts_len]; omega, some (.int (0 + (i : Int))), ?_, Same.upd_own S1 hl0, ?_⟩
        · exact congrArg (fun z => [some (V.ref a), some (V.ref l), some (V.int z), some (V.int (0 + (i : Int)))]) (show (iN c).getD i 0 - bef c i = bef c (i + 1) by rw [iN_getD]; exact (alt_bef c i).symm)
        · rw [upd_same, iN_getD, ← alt_bef, ← alts_succ]
      · rintro σ H' ⟨v, rfl, S1, hq⟩
        refine ⟨_, rfl, _, rfl, _, rfl, a, iN c, rfl, rfl, S1.seq hS, by rw [iN_len]; exact h1, rfl, _, rfl, ?_⟩
        rw [iN_len, iN_getD, show c.length - 1 = tosses c from rfl]
        refine ite2 (fun c2 => ?_) (fun c2 => ?_)
        · have c3 := dec_ne.mp c2
          rw [if_neg (fun z => c3 z.1)] at le
          exact qN le H' S1
        · have c3 : bef c (tosses c) = (co c (tosses c) : Int) := by
            by_cases z : bef c (tosses c) = (co c (tosses c) : Int)
            · exact z
            · exact absurd (dec_ne.mpr z) c2
          refine ⟨_, rfl, l, alts c (tosses c), rfl, SqL.of hq, by rw [alts_len]; omega, by rw [alts_len]; omega, _, rfl, ?_⟩
          rw [alts_len]
          cases g : Kv394.fits (tosses c - 1) (alts c (tosses c)) with
          | false =>
            rw [g, if_neg (fun z => absurd z.2 (by decide))] at le
            exact qN le H' S1
          | true =>
            rw [if_pos ⟨c3, g⟩] at le
            refine ⟨_, rfl, qS _ le H' l S1 hl0 ?_⟩
            rw [iN_nats, hq]
            intro x hx
            obtain ⟨j, hj, rfl⟩ := List.mem_map.mp hx
            have f := (fits_iff.mp g j (by rw [alts_len]; exact List.mem_range.mp hj)).1
            rwa [alts_getD c (List.mem_range.mp hj)] at f
/-! ### opposite -/
def spOpp (K : PySem.W.Frag) : Sp := fun vs H Q _ => ∃ (a : Addr) (c : List Nat), vs = [.ref a] ∧ LI K H a (iN c) ∧ Ok c ∧ NewL H (iN (Kv394.not_ c)) Q
theorem ok_opp (B : Bl mg) (CC : Cal P w K mg base "choose" ["n", "k"] 1 spChoose) (CT : Cal P w K mg base "tosses_of" ["row"] 1 (spTosses K)) (D : DefAt K mg "opposite" s_opposite ["row"]) : Cal P w K mg base "opposite" ["row"] 2 (spOpp K) := by
  refine D.cal sc_opposite (fun vs H Q E h => ?_) (fun f cdv A outer s H vs Q E hr h => ?_)
  · obtain ⟨a, ns, rfl, _⟩ := h
    rfl
  · obtain ⟨a, c, rfl, hS, hc, q⟩ := h
    have hl := len_tosses hc.pos
    have hm := hc.most
    refine ⟨_, pss_cons (ps_set (i := 1) sc_opposite.nd rfl (Or.inr rfl) (pe_callC CT hr (by rfl) (pa_cons (pv 0) pa_nil)))
      (pss_one (ps_ret (pe_lc (own := [("heads", 2)]) (g := gName 2) (by rfl) sc_opposite.nd (pi_range1 rfl B.range (pa_cons (pe_lenV 0 B.len (by rfl) (pv 0)) pa_nil))
        (blkOk_by (own := [("heads", 2)]) (N := n_opposite) (sc := defScope s_opposite) (by decide +kernel)) (fun _ _ _ _ _ => pg_name (i := 2) sc_opposite.nd rfl (Or.inl rfl)) (fun _ _ _ _ _ => pts_nil)
        (fun _ _ _ _ _ => pe_op op_sub (pe_callC CC hr (by rfl) (pa_cons (pv 1) (pa_cons (pv 2) pa_nil))) (pe_ix (ix_Ik K) (pv 0) (pv 2) (fun _ _ => rfl)))))), ?_⟩
    refine ⟨_, rfl, a, iN c, rfl, hS, ?_⟩
    refine ⟨_, rfl, a, iN c, rfl, hS, ((c.length : Nat) : Int), by rw [iN_len], by omega, by omega, ?_⟩
    rw [Int.toNat_natCast]
    intro l hl0
    have S0 : Same H (upd H l (.lst [])) := Same.upd_new (Same.refl H) hl0
    refine lc_range (lo := 0) (n := c.length) (fun i H' => Same H H' ∧ H' l = some (.lst (((iN (Kv394.not_ c)).take i).map V.int))) ⟨S0, ?_⟩ ?_ ?_
    · rw [upd_same]; rfl
    · rintro i H' hi ⟨S1, hq⟩
      refine ⟨rfl, ?_⟩
      refine ⟨_, rfl, _, rfl, tosses c, i, ?_, by omega, by omega, _, rfl, _, rfl, a, iN c, _, i, rfl, rfl, S1.seq hS, Int.zero_add _, by rw [iN_len]; exact hi, _, _, rfl, rfl, _, hq, ?_, Same.upd_own S1 hl0, ?_⟩
      · rw [iN_len, Int.zero_add, show (c.length : Int) - 1 = (tosses c : Int) by omega]
      · rw [List.length_map, List.length_take, iN_len, not_len]
        exact small_lt (m := 100) (by omega)
      · rw [upd_same, iN_getD, map_app, ← not_turn hc hi]
    · rintro H' ⟨S1, hq⟩
      refine q H' l S1 hl0 ?_
      rw [hq, List.take_of_length_le (by rw [iN_len, not_len]; exact Nat.le_refl _)]
end
end Mc

end
section
set_option Elab.async false
set_option linter.all false
set_option maxRecDepth 100000
set_option maxHeartbeats 4000000
namespace Mc
open PySem PySem.Spec PyProof.Rows L2
open Kv394 (choose tosses)
section
variable {P : Program} {w : World} {K : PySem.W.Frag} {mg : Str → Option Value} {base : Heap}
/-! ### both -/
def spBoth (K : PySem.W.Frag) : Sp := fun vs H Q _ => ∃ (a b : Addr) (c d : List Nat), vs = [.ref a, .ref b] ∧ LI K H a (iN c) ∧ LI K H b (iN d) ∧ (1 ≤ c.length ∧ c.length ≤ 1000) ∧ (1 ≤ d.length ∧ d.length ≤ 1000) ∧ (∀ j, co c j ≤ 1000000) ∧ NewL H (iN (Kv394.mul c d)) Q
theorem ok_both (B : Bl mg) (CT : Cal P w K mg base "tosses_of" ["row"] 1 (spTosses K)) (D : DefAt K mg "both" s_both ["first", "second"]) : Cal P w K mg base "both" ["first", "second"] 2 (spBoth K) := by
  refine D.cal sc_both (fun vs H Q E h => ?_) (fun f cdv A outer s H vs Q E hr h => ?_)
  · obtain ⟨a, b, c, d, rfl, _⟩ := h
    rfl
  · obtain ⟨a, b, c, d, rfl, hA, hB, ⟨c1, c2⟩, ⟨d1, d2⟩, hc, q⟩ := h
    refine ⟨_, pss_cons (ps_set (i := 2) sc_both.nd rfl (Or.inl rfl) (pe_op op_rep (pe_lst (pa_cons pe_int pa_nil)) (pe_op op_add (pe_lenV 0 B.len (by rfl) (pv 0)) (pe_callC CT hr (by rfl) (pa_cons (pv 1) pa_nil)))))
      (pss_cons (ps_for PassesOwn.never rfl (pi_range1 rfl B.range (pa_cons (pe_lenV 0 B.len (by rfl) (pv 0)) pa_nil)) (pg_name (i := 3) sc_both.nd rfl (Or.inl rfl))
        (pss_one (ps_for PassesOwn.never rfl (pi_range1 rfl B.range (pa_cons (pe_lenV 1 B.len (by rfl) (pv 1)) pa_nil)) (pg_name (i := 4) sc_both.nd rfl (Or.inl rfl))
          (pss_one (ps_asg (pe_op op_add (pe_ix ix_I (pv 2) (pe_op op_add (pv 3) (pv 4)) (fun _ _ => rfl)) (pe_op op_mul (pe_ix ix_I (pv 0) (pv 3) (fun _ _ => rfl)) (pe_ix ix_I (pv 1) (pv 4) (fun _ _ => rfl))))
            (pg_sub (pv 2) (pe_op op_add (pv 3) (pv 4)) set_I))))))
      (pss_one (ps_ret (pv 2)))), ?_⟩
    refine ⟨(by show 1 ≤ sizeLine; decide), fun l0 hl0 => ?_⟩
    have S0 : Same H (upd H l0 (.lst [V.int 0])) := Same.upd_new (Same.refl H) hl0
    refine ⟨_, rfl, a, iN c, rfl, S0.seq hA, _, rfl, b, iN d, rfl, S0.seq hB, _, _, rfl, rfl, l0, _, [V.int 0], rfl, rfl, upd_same, by rw [iN_len, iN_len]; omega, by rw [iN_len, iN_len]; omega, ?_, fun l hl => ?_⟩
    · rw [iN_len, iN_len]
      exact small_of (m := 3000) (by simp; omega)
    have eN : (((iN c).length : Int) + (((iN d).length : Int) - 1)).toNat = c.length + d.length - 1 := by rw [iN_len, iN_len]; omega
    rw [eN]
    have hlH : H l = none := by
      have z := hl
      by_cases e : l = l0
      · rw [e]; exact hl0
      · rwa [upd_ne e] at z
    have S1 : Same H (upd (upd H l0 (.lst [V.int 0])) l (.lst (List.replicate (c.length + d.length - 1) [V.int 0]).flatten)) := Same.upd_new S0 hl
    refine ⟨_, rfl, a, iN c, rfl, S1.seq hA, ((c.length : Nat) : Int), by rw [iN_len], by omega, by omega, ?_⟩
    rw [Int.toNat_natCast]
    refine for_range (lo := 0) (n := c.length) (fun i σ H' => ∃ v v' : Option V, σ = [some (.ref a), some (.ref b), some (.ref l), v, v'] ∧ Same H H' ∧ H' l = some (.lst ((bothT c d i 0).map V.int))) ⟨none, none, rfl, S1, ?_⟩ ?_ ?_
    · rw [upd_same, rep_zero, bothT_start]
    · rintro i σ H' hi ⟨v, v', rfl, S2, hq⟩
      refine ⟨_, rfl, b, iN d, rfl, S2.seq hB, ((d.length : Nat) : Int), by rw [iN_len], by omega, by omega, ?_⟩
      rw [Int.toNat_natCast]
      refine for_range (lo := 0) (n := d.length) (fun j σ H' => ∃ v' : Option V, σ = [some (.ref a), some (.ref b), some (.ref l), some (.int (0 + (i : Int))), v'] ∧ Same H H' ∧ H' l = some (.lst ((bothT c d i j).map V.int))) ⟨v', rfl, S2, hq⟩ ?_ ?_
      · rintro j σ H' hj ⟨v', rfl, S3, hq3⟩
        have hij : i + j < (bothT c d i j).length := by rw [bothT_len]; omega
        have hz : ((0 : Int) + (i : Int)) + (0 + (j : Int)) = ((i + j : Nat) : Int) := by omega
        refine ⟨_, rfl, _, rfl, _, rfl, _, _, rfl, rfl, l, _, _, i + j, rfl, rfl, SqL.of hq3, hz, hij,
          _, rfl, _, rfl, a, iN c, _, i, rfl, rfl, S3.seq hA, Int.zero_add _, by rw [iN_len]; exact hi, _, rfl, _, rfl, b, iN d, _, j, rfl, rfl, S3.seq hB, Int.zero_add _, by rw [iN_len]; exact hj, _, _, rfl, rfl, .inl ?_,
          _, _, rfl, rfl, _, rfl, _, rfl, _, rfl, _, _, rfl, rfl, l, _, _, i + j, _, rfl, rfl, rfl, hq3, hz, hij, some (.int (0 + (j : Int))), rfl, Same.upd_own S3 hlH, ?_⟩
        · rw [iN_getD]
          have := hc i
          constructor <;> omega
        · rw [upd_same, iN_getD, iN_getD, bothT_turn hi hj]
      · rintro σ H' ⟨v', rfl, S3, hq3⟩
        rw [bothT_next] at hq3
        exact ⟨_, _, rfl, S3, hq3⟩
    · rintro σ H' ⟨v, v', rfl, S2, hq⟩
      rw [bothT_end] at hq
      exact ⟨_, rfl, q H' l S2 hlH hq⟩
/-! ### either -/
def spEither (K : PySem.W.Frag) : Sp := fun vs H Q _ => ∃ (a b : Addr) (c d : List Nat), vs = [.ref a, .ref b] ∧ LI K H a (iN c) ∧ LI K H b (iN d) ∧ Ok c ∧ Ok d ∧ tosses c + tosses d ≤ 10 ∧ NewL H (iN (Kv394.or_ c d)) Q
theorem Ok.big {c : List Nat} (h : Ok c) (j : Nat) : co c j ≤ 1000000 := Nat.le_trans (h.small j) (by decide)
theorem Ok.len1000 {c : List Nat} (h : Ok c) : 1 ≤ c.length ∧ c.length ≤ 1000 := ⟨h.pos, Nat.le_trans h.most (by decide)⟩
theorem ok_either (CO : Cal P w K mg base "opposite" ["row"] 2 (spOpp K)) (CB : Cal P w K mg base "both" ["first", "second"] 2 (spBoth K)) (D : DefAt K mg "either" s_either ["first", "second"]) : Cal P w K mg base "either" ["first", "second"] 3 (spEither K) := by
  refine D.cal sc_either (fun vs H Q E h => ?_) (fun f cdv A outer s H vs Q E hr h => ?_)
  · obtain ⟨a, b, c, d, rfl, _⟩ := h
    rfl
  · obtain ⟨a, b, c, d, rfl, hA, hB, hc, hd, ht, q⟩ := h
    refine ⟨_, pss_one (ps_ret (pe_callC CO hr (by rfl) (pa_cons (pe_callC CB hr (by rfl) (pa_cons (pe_callC CO hr (by rfl) (pa_cons (pv 0) pa_nil)) (pa_cons (pe_callC CO hr (by rfl) (pa_cons (pv 1) pa_nil)) pa_nil))) pa_nil))), ?_⟩
    refine ⟨_, rfl, a, c, rfl, hA, hc, fun H1 p1 s1 n1 e1 => ?_⟩
    refine ⟨_, rfl, b, d, rfl, s1.seq hB, hd, fun H2 p2 s2 n2 e2 => ?_⟩
    refine ⟨p1, p2, _, _, rfl, SqL.of (s2 _ _ e1), SqL.of e2, hc.not.len1000, hd.not.len1000, hc.not.big, fun H3 p3 s3 n3 e3 => ?_⟩
    refine ⟨p3, _, rfl, SqL.of e3, Ok.mul hc.not hd.not (by rw [not_tosses, not_tosses]; exact ht), fun H4 p4 s4 n4 e4 => ?_⟩
    exact q H4 p4 (((s1.trans s2).trans s3).trans s4) (((s1.trans s2).trans s3).free n4) e4
/-! ### added_up -/
def spAdded (K : PySem.W.Frag) : Sp := fun vs H Q _ => ∃ (a b : Addr) (c d : List Nat), vs = [.ref a, .ref b] ∧ LI K H a (iN c) ∧ LI K H b (iN d) ∧ c.length = d.length ∧ c.length ≤ 1000 ∧ NewL H (iN (Kv394.add c d)) Q
theorem ok_added (B : Bl mg) (D : DefAt K mg "added_up" s_added_up ["first", "second"]) : Cal P w K mg base "added_up" ["first", "second"] 1 (spAdded K) := by
  refine D.cal sc_added_up (fun vs H Q E h => ?_) (fun f cdv A outer s H vs Q E hr h => ?_)
  · obtain ⟨a, b, c, d, rfl, _⟩ := h
    rfl
  · obtain ⟨a, b, c, d, rfl, hA, hB, hcd, hc, q⟩ := h
    refine ⟨_, pss_one (ps_ret (pe_lc (own := [("heads", 2)]) (g := gName 2) (by rfl) sc_added_up.nd (pi_range1 rfl B.range (pa_cons (pe_lenV 0 B.len (by rfl) (pv 0)) pa_nil))
        (blkOk_by (own := [("heads", 2)]) (N := n_added_up) (sc := defScope s_added_up) (by decide +kernel)) (fun _ _ _ _ _ => pg_name (i := 2) sc_added_up.nd rfl (Or.inl rfl)) (fun _ _ _ _ _ => pts_nil)
        (fun _ _ _ _ _ => pe_op op_add (pe_ix (ix_Ik K) (pv 0) (pv 2) (fun _ _ => rfl)) (pe_ix (ix_Ik K) (pv 1) (pv 2) (fun _ _ => rfl))))), ?_⟩
    refine ⟨_, rfl, a, iN c, rfl, hA, ((c.length : Nat) : Int), by rw [iN_len], by omega, by omega, ?_⟩
    rw [Int.toNat_natCast]
    intro l hl0
    have S0 : Same H (upd H l (.lst [])) := Same.upd_new (Same.refl H) hl0
    refine lc_range (lo := 0) (n := c.length) (fun i H' => Same H H' ∧ H' l = some (.lst (((iN (Kv394.add c d)).take i).map V.int))) ⟨S0, ?_⟩ ?_ ?_
    · rw [upd_same]; rfl
    · rintro i H' hi ⟨S1, hq⟩
      refine ⟨rfl, ?_⟩
      refine ⟨_, rfl, _, rfl, a, iN c, _, i, rfl, rfl, S1.seq hA, Int.zero_add _, by rw [iN_len]; exact hi, _, rfl, _, rfl, b, iN d, _, i, rfl, rfl, S1.seq hB, Int.zero_add _, by rw [iN_len]; omega, _, _, rfl, rfl, _, hq, ?_, Same.upd_own S1 hl0, ?_⟩
      · rw [List.length_map, List.length_take, iN_len, add_len]
        exact small_lt (m := 1000) (by omega)
      · rw [upd_same, iN_getD, iN_getD, map_app, ← add_turn hcd hi]
    · rintro H' ⟨S1, hq⟩
      refine q H' l S1 hl0 ?_
      rw [hq, List.take_of_length_le (by rw [iN_len, add_len]; omega)]
end
end Mc

end
section
set_option Elab.async false
set_option linter.all false
set_option maxRecDepth 100000
set_option maxHeartbeats 4000000
namespace Mc
open PySem PySem.Spec PyProof.Rows L2
open Kv394 (choose tosses)
theorem mores_succ : ∀ (n : Nat) (c : List Nat), Kv394.mores (n + 1) c = Kv394.more (Kv394.mores n c)
  | 0, c => rfl
  | n + 1, c => by
    show Kv394.mores (n + 1) (Kv394.more c) = _
    rw [mores_succ n (Kv394.more c)]; rfl
section
variable {P : Program} {w : World} {K : PySem.W.Frag} {mg : Str → Option Value} {base : Heap}
/-! ### stretched -/
def spStr (K : PySem.W.Frag) : Sp := fun vs H Q _ => ∃ (a : Addr) (c : List Nat) (n : Nat), vs = [.ref a, .int n] ∧ LI K H a (iN c) ∧ Ok c ∧ tosses c ≤ n ∧ n ≤ 10 ∧ NewL H (iN (Kv394.level n c)) Q
/-- the measure: how many numbers the list of the third name still lacks -/
def lacks (σ : L2.St) (H : Hp) : Nat := match σ with
  | [_, _, some (.ref l)] => match H l with
    | some (.lst xs) => 100 - xs.length
    | _ => 0
  | _ => 0
theorem lacks_at {a b : Option V} {l : Addr} {H : Hp} {xs : List V} (h : H l = some (.lst xs)) : lacks [a, b, some (.ref l)] H = 100 - xs.length := by
  show (match H l with
    | some (.lst xs) => 100 - xs.length
    | _ => 0) = _
  rw [h]
theorem ok_str (B : Bl mg) (CT : Cal P w K mg base "tosses_of" ["row"] 1 (spTosses K)) (CM : Cal P w K mg base "toss_more" ["row"] 1 (spMore K)) (D : DefAt K mg "stretched" s_stretched ["row", "tosses"]) : Cal P w K mg base "stretched" ["row", "tosses"] 2 (spStr K) := by
  refine D.cal sc_stretched (fun vs H Q E h => ?_) (fun f cdv A outer s H vs Q E hr h => ?_)
  · obtain ⟨a, c, n, rfl, _⟩ := h
    rfl
  · obtain ⟨a, c, n, rfl, hA, hc, hn, hn2, q⟩ := h
    refine ⟨_, pss_cons (ps_set (i := 2) sc_stretched.nd rfl (Or.inl rfl) (pe_callTy call_list_of (by rfl) B.list (by decide +kernel) (pa_cons (pv 0) pa_nil)))
      (pss_cons (ps_while PassesOwn.never (pt_cmpR op_lt (pe_callC CT hr (by rfl) (pa_cons (pv 2) pa_nil)) (pv 1) (nomark _))
        (pss_one (ps_set (i := 2) sc_stretched.nd rfl (Or.inl rfl) (pe_callC CM hr (by rfl) (pa_cons (pv 2) pa_nil)))))
      (pss_one (ps_ret (pv 2)))), ?_⟩
    refine ⟨_, rfl, a, _, rfl, .inl hA, fun l0 hl0 => ?_⟩
    refine while_by (fun σ H' => ∃ (m : Nat) (l : Addr), σ = [some (.ref a), some (.int n), some (.ref l)] ∧ tosses c + m ≤ n ∧ Same H H' ∧ H l = none ∧ H' l = some (.lst ((iN (Kv394.mores m c)).map V.int))) lacks
      ⟨0, l0, rfl, by omega, Same.upd_new (Same.refl H) hl0, hl0, upd_same⟩ ?_ ?_
    · rintro σ H' ⟨m, l, rfl, hm, S1, n1, hq⟩
      have M := mores_spec m hc (by omega)
      refine ⟨_, rfl, l, _, rfl, SqL.of hq, _, rfl, _, _, rfl, rfl, _, rfl, ?_⟩
      refine ite2 (fun c0 => ?_) (fun c0 => ?_)
      · have c1 : ((iN (Kv394.mores m c)).length : Int) - 1 < (n : Int) := of_decide_eq_true c0
        rw [iN_len] at c1
        have hl := len_tosses M.1.pos
        refine ⟨_, rfl, l, _, rfl, SqL.of hq, M.1.len1000.1, M.1.len1000.2, fun H2 p S2 n2 e2 => ?_⟩
        refine ⟨⟨m + 1, p, rfl, by omega, S1.trans S2, S1.free n2, by rw [mores_succ]; exact e2⟩, ?_⟩
        show lacks [some (.ref a), some (.int n), some (.ref p)] H2 < _
        rw [lacks_at e2, lacks_at hq, List.length_map, List.length_map, iN_len, iN_len, more_len]
        have := M.1.most
        omega
      · have c1 : ¬ ((iN (Kv394.mores m c)).length : Int) - 1 < (n : Int) := fun z => c0 (decide_eq_true z)
        rw [iN_len] at c1
        have hl := len_tosses M.1.pos
        have em : m = n - tosses c := by omega
        refine ⟨_, rfl, q H' l S1 n1 ?_⟩
        rw [hq, em]; rfl
    · exact fun σ H Q Q' mo ⟨v, e, a, ns, e2, l, v', e3, i, j, e4, e5, k, e6, q⟩ => ⟨v, e, a, ns, e2, l, v', e3, i, j, e4, e5, k, e6, mo _ _ q⟩
/-! ### if_yes -/
def spIf (K : PySem.W.Frag) : Sp := fun vs H Q _ => ∃ (a b e : Addr) (c d g : List Nat), vs = [.ref a, .ref b, .ref e] ∧ LI K H a (iN c) ∧ LI K H b (iN d) ∧ LI K H e (iN g) ∧ Ok c ∧ Ok d ∧ Ok g ∧ tosses c + max (tosses d) (tosses g) ≤ 10 ∧ NewL H (iN (Kv394.if_ c d g)) Q
theorem ok_if (B : Bl mg) (CT : Cal P w K mg base "tosses_of" ["row"] 1 (spTosses K)) (CO : Cal P w K mg base "opposite" ["row"] 2 (spOpp K)) (CB : Cal P w K mg base "both" ["first", "second"] 2 (spBoth K))
    (CS : Cal P w K mg base "stretched" ["row", "tosses"] 2 (spStr K)) (CA : Cal P w K mg base "added_up" ["first", "second"] 1 (spAdded K)) (D : DefAt K mg "if_yes" s_if_yes ["first", "second", "third"]) : Cal P w K mg base "if_yes" ["first", "second", "third"] 3 (spIf K) := by
  refine D.cal sc_if_yes (fun vs H Q E h => ?_) (fun f cdv A outer s H vs Q E hr h => ?_)
  · obtain ⟨a, b, e, c, d, g, rfl, _⟩ := h
    rfl
  · obtain ⟨a, b, e, c, d, g, rfl, hA, hB, hE, hc, hd, hg, ht, q⟩ := h
    have hr1 : Room 1 _ := hr.mono (by decide)
    refine ⟨_, pss_cons (ps_set (i := 3) sc_if_yes.nd rfl (Or.inl rfl) (pe_callB (call_max2 rfl) (by rfl) B.max (by decide +kernel) (pa_cons (pe_callC CT hr1 (by rfl) (pa_cons (pv 1) pa_nil)) (pa_cons (pe_callC CT hr1 (by rfl) (pa_cons (pv 2) pa_nil)) pa_nil))))
      (pss_cons (ps_set (i := 4) sc_if_yes.nd rfl (Or.inl rfl) (pe_callC CB hr (by rfl) (pa_cons (pv 0) (pa_cons (pe_callC CS hr (by rfl) (pa_cons (pv 1) (pa_cons (pv 3) pa_nil))) pa_nil))))
      (pss_cons (ps_set (i := 5) sc_if_yes.nd rfl (Or.inl rfl) (pe_callC CB hr (by rfl) (pa_cons (pe_callC CO hr (by rfl) (pa_cons (pv 0) pa_nil)) (pa_cons (pe_callC CS hr (by rfl) (pa_cons (pv 2) (pa_cons (pv 3) pa_nil))) pa_nil))))
      (pss_one (ps_ret (pe_callC CA hr1 (by rfl) (pa_cons (pv 4) (pa_cons (pv 5) pa_nil))))))), ?_⟩
    have ld := len_tosses hd.pos
    have lg := len_tosses hg.pos
    refine ⟨_, rfl, b, iN d, rfl, hB, _, rfl, e, iN g, rfl, hE, _, _, rfl, ?_⟩
    have em : (if ((iN g).length : Int) - 1 > ((iN d).length : Int) - 1 then ((iN g).length : Int) - 1 else ((iN d).length : Int) - 1) = ((max (tosses d) (tosses g) : Nat) : Int) := by
      rw [iN_len, iN_len]
      split <;> omega
    rw [em]
    have LD := hd.level (n := max (tosses d) (tosses g)) (by omega) (by omega)
    have LG := hg.level (n := max (tosses d) (tosses g)) (by omega) (by omega)
    refine ⟨_, rfl, _, rfl, _, rfl, b, d, _, rfl, hB, hd, by omega, by omega, fun H1 p1 s1 n1 e1 => ?_⟩
    refine ⟨a, p1, c, _, rfl, s1.seq hA, SqL.of e1, hc.len1000, LD.1.len1000, hc.big, fun H2 p2 s2 n2 e2 => ?_⟩
    refine ⟨_, rfl, a, c, rfl, (s1.trans s2).seq hA, hc, fun H3 p3 s3 n3 e3 => ?_⟩
    refine ⟨_, rfl, _, rfl, e, g, _, rfl, ((s1.trans s2).trans s3).seq hE, hg, by omega, by omega, fun H4 p4 s4 n4 e4 => ?_⟩
    refine ⟨p3, p4, _, _, rfl, SqL.of (s4 _ _ e3), SqL.of e4, hc.not.len1000, LG.1.len1000, hc.not.big, fun H5 p5 s5 n5 e5 => ?_⟩
    have x1 := (hc.bd.mul LD.1.bd).len
    have x2 := (hc.bd.not.mul LG.1.bd).len
    rw [LD.2] at x1
    rw [LG.2] at x2
    refine ⟨_, rfl, _, rfl, p2, p5, _, _, rfl, SqL.of ((s3.trans (s4.trans s5)) _ _ e2), SqL.of e5, by rw [x1, x2], by rw [x1]; omega, fun H6 p6 s6 n6 e6 => ?_⟩
    have S5 := (s1.trans s2).trans (s3.trans (s4.trans s5))
    exact q H6 p6 (S5.trans s6) (S5.free n6) e6
/-! ### all_of -/
def spAll (K : PySem.W.Frag) : Sp := fun vs H Q _ => ∃ (a : Addr) (d : List Nat) (n : Nat), vs = [.ref a, .int n] ∧ LI K H a (iN d) ∧ Ok d ∧ n ≤ 10 ∧ tosses d * n ≤ 10 ∧ NewL H (iN (Kv394.pow d n)) Q
theorem ok_all (B : Bl mg) (CB : Cal P w K mg base "both" ["first", "second"] 2 (spBoth K)) (D : DefAt K mg "all_of" s_all_of ["row", "times"]) : Cal P w K mg base "all_of" ["row", "times"] 3 (spAll K) := by
  refine D.cal sc_all_of (fun vs H Q E h => ?_) (fun f cdv A outer s H vs Q E hr h => ?_)
  · obtain ⟨a, d, n, rfl, _⟩ := h
    rfl
  · obtain ⟨a, d, n, rfl, hA, hd, hn, ht, q⟩ := h
    refine ⟨_, pss_cons (ps_set (i := 2) sc_all_of.nd rfl (Or.inl rfl) (pe_lst (pa_cons pe_int pa_nil)))
      (pss_cons (ps_for PassesOwn.never rfl (pi_range1 rfl B.range (pa_cons (pv 1) pa_nil)) (pg_name (i := 3) sc_all_of.nd rfl (Or.inl rfl))
        (pss_one (ps_set (i := 2) sc_all_of.nd rfl (Or.inl rfl) (pe_callC CB hr (by rfl) (pa_cons (pv 2) (pa_cons (pv 0) pa_nil))))))
      (pss_one (ps_ret (pv 2)))), ?_⟩
    refine ⟨(by show 1 ≤ sizeLine; decide), fun l0 hl0 => ?_⟩
    refine ⟨_, rfl, (n : Int), rfl, by omega, by omega, ?_⟩
    rw [Int.toNat_natCast]
    refine for_range (lo := 0) (n := n) (fun i σ H' => ∃ (v : Option V) (l : Addr), σ = [some (.ref a), some (.int n), some (.ref l), v] ∧ Same H H' ∧ H l = none ∧ H' l = some (.lst ((iN (Kv394.pow d i)).map V.int))) ⟨none, l0, rfl, Same.upd_new (Same.refl H) hl0, hl0, upd_same⟩ ?_ ?_
    · rintro i σ H' hi ⟨v, l, rfl, S1, n1, hq⟩
      have hb : Bd (Kv394.pow d i) (tosses d * i) := hd.bd.pow i
      have hi2 : tosses d * i ≤ tosses d * n := Nat.mul_le_mul_left _ (by omega)
      have ho := hb.ok (by omega)
      refine ⟨_, rfl, _, rfl, l, a, _, _, rfl, SqL.of hq, S1.seq hA, ho.len1000, hd.len1000, ho.big, fun H2 p S2 n2 e2 => ?_⟩
      refine ⟨some (.int (0 + (i : Int))), p, rfl, S1.trans S2, S1.free n2, ?_⟩
      rw [e2, pow_turn hd.bd]
    · rintro σ H' ⟨v, l, rfl, S1, n1, hq⟩
      exact ⟨_, rfl, q H' l S1 n1 hq⟩
end
end Mc

end
section
set_option Elab.async false
set_option linter.all false
set_option maxRecDepth 100000
set_option maxHeartbeats 4000000
namespace Mc
open PySem PySem.Spec PyProof.Rows L2
open Kv394 (choose tosses)
theorem scale_turn (a : Nat) (l : List Nat) {i : Nat} (h : i < l.length) : (iN (l.map fun x => a * x)).take (i + 1) = (iN (l.map fun x => a * x)).take i ++ [(a : Int) * (co l i : Int)] := by
  apply take_more
  rw [iN_get (by rw [List.length_map]; exact h), co_map_mul]
  simp
section
variable {P : Program} {w : World} {K : PySem.W.Frag} {mg : Str → Option Value} {base : Heap}
/-! ### tossed_by -/
def spOf (K : PySem.W.Frag) : Sp := fun vs H Q _ => ∃ (a b : Addr) (c d : List Nat), vs = [.ref a, .ref b] ∧ LI K H a (iN c) ∧ LI K H b (iN d) ∧ Ok c ∧ Ok d ∧ tosses c * tosses d ≤ 10 ∧ NewL H (iN (Kv394.of_ c d)) Q
theorem ok_of (B : Bl mg) (CT : Cal P w K mg base "tosses_of" ["row"] 1 (spTosses K)) (CO : Cal P w K mg base "opposite" ["row"] 2 (spOpp K)) (CB : Cal P w K mg base "both" ["first", "second"] 2 (spBoth K))
    (CL : Cal P w K mg base "all_of" ["row", "times"] 3 (spAll K)) (CA : Cal P w K mg base "added_up" ["first", "second"] 1 (spAdded K)) (D : DefAt K mg "tossed_by" s_tossed_by ["first", "second"]) : Cal P w K mg base "tossed_by" ["first", "second"] 4 (spOf K) := by
  refine D.cal sc_tossed_by (fun vs H Q E h => ?_) (fun f cdv A outer s H vs Q E hr h => ?_)
  · obtain ⟨a, b, c, d, rfl, _⟩ := h
    rfl
  · obtain ⟨a, b, c, d, rfl, hA, hB, hc, hd, ht, q⟩ := h
    have hr1 : Room 1 _ := hr.mono (by decide)
    have hr2 : Room 2 _ := hr.mono (by decide)
    refine ⟨_, pss_cons (ps_set (i := 2) sc_tossed_by.nd rfl (Or.inl rfl) (pe_op op_rep (pe_lst (pa_cons pe_int pa_nil)) (pe_op op_add (pe_op op_mul (pe_callC CT hr1 (by rfl) (pa_cons (pv 0) pa_nil)) (pe_callC CT hr1 (by rfl) (pa_cons (pv 1) pa_nil))) pe_int)))
      (pss_cons (ps_for PassesOwn.never rfl (pi_range1 rfl B.range (pa_cons (pe_lenV 0 B.len (by rfl) (pv 0)) pa_nil)) (pg_name (i := 3) sc_tossed_by.nd rfl (Or.inr rfl))
        (pss_cons (ps_set (i := 4) sc_tossed_by.nd rfl (Or.inl rfl) (pe_op op_sub (pe_callC CT hr1 (by rfl) (pa_cons (pv 0) pa_nil)) (pv 3)))
        (pss_cons (ps_set (i := 5) sc_tossed_by.nd rfl (Or.inl rfl) (pe_callC CB hr2 (by rfl) (pa_cons (pe_callC CL hr (by rfl) (pa_cons (pv 1) (pa_cons (pv 3) pa_nil))) (pa_cons (pe_callC CL hr (by rfl) (pa_cons (pe_callC CO hr2 (by rfl) (pa_cons (pv 1) pa_nil)) (pa_cons (pv 4) pa_nil))) pa_nil))))
        (pss_one (ps_set (i := 2) sc_tossed_by.nd rfl (Or.inl rfl) (pe_callC CA hr1 (by rfl) (pa_cons (pv 2) (pa_cons
          (pe_lc (own := [("number", 6)]) (g := gName 6) (by rfl) sc_tossed_by.nd (pi_list (pv 5))
            (blkOk_by (own := [("number", 6)]) (N := n_tossed_by) (sc := defScope s_tossed_by) (by decide +kernel)) (fun _ _ _ _ _ => pg_name (i := 6) sc_tossed_by.nd rfl (Or.inl rfl)) (fun _ _ _ _ _ => pts_nil)
            (fun _ _ _ _ _ => pe_op op_mul (pe_ix (ix_Ik K) (pv 0) (pv 3) (fun _ _ => rfl)) (pv 6))) pa_nil))))))))
      (pss_one (ps_ret (pv 2)))), ?_⟩
    have lc := len_tosses hc.pos
    have ld := len_tosses hd.pos
    have mc := hc.most
    have md := hd.most
    refine ⟨(by show 1 ≤ sizeLine; decide), fun l0 hl0 => ?_⟩
    have S0 : Same H (upd H l0 (.lst [V.int 0])) := Same.upd_new (Same.refl H) hl0
    have eN : (((iN c).length : Int) - 1) * (((iN d).length : Int) - 1) + 1 = ((tosses c * tosses d + 1 : Nat) : Int) := by
      rw [iN_len, iN_len, show (c.length : Int) - 1 = (tosses c : Int) by omega, show (d.length : Int) - 1 = (tosses d : Int) by omega]
      push_cast
      rfl
    refine ⟨_, rfl, a, iN c, rfl, S0.seq hA, _, rfl, b, iN d, rfl, S0.seq hB, _, _, rfl, rfl, .inl ⟨by rw [iN_len]; omega, by rw [iN_len]; omega⟩, _, _, rfl, rfl, l0, _, [V.int 0], rfl, rfl, upd_same, ?_, ?_, ?_, fun l hl => ?_⟩
    · rw [eN]; omega
    · rw [eN]; omega
    · rw [eN, Int.toNat_natCast]
      exact small_of (m := 3000) (by simp; omega)
    rw [eN, Int.toNat_natCast]
    have hlH : H l = none := by
      have z := hl
      by_cases e : l = l0
      · rw [e]; exact hl0
      · rwa [upd_ne e] at z
    have S1 : Same H (upd (upd H l0 (.lst [V.int 0])) l (.lst (List.replicate (tosses c * tosses d + 1) [V.int 0]).flatten)) := Same.upd_new S0 hl
    refine ⟨_, rfl, a, iN c, rfl, S1.seq hA, ((c.length : Nat) : Int), by rw [iN_len], by omega, by omega, ?_⟩
    rw [Int.toNat_natCast]
    refine for_range (lo := 0) (n := c.length) (fun i σ H' => ∃ (v3 v4 v5 v6 : Option V) (l : Addr), σ = [some (.ref a), some (.ref b), some (.ref l), v3, v4, v5, v6] ∧ Same H H' ∧ H l = none ∧ H' l = some (.lst ((iN (ofT c d i)).map V.int))) ⟨none, none, none, none, l, rfl, S1, hlH, ?_⟩ ?_ ?_
    · rw [upd_same, rep_zero]
      have e : iN (ofT c d 0) = List.replicate (tosses c * tosses d + 1) (0 : Int) := by
        show (List.replicate _ 0).map Int.ofNat = _
        rw [List.map_replicate]; rfl
      rw [e]
    · rintro i σ H' hi ⟨v3, v4, v5, v6, l, rfl, S2, n2, hq⟩
      have hti : tosses d * i ≤ 10 := by
        refine Nat.le_trans (Nat.mul_le_mul_left (tosses d) (show i ≤ tosses c by omega)) ?_
        rw [Nat.mul_comm]; exact ht
      have htt : tosses (Kv394.not_ d) * (tosses c - i) ≤ 10 := by
        rw [not_tosses]
        refine Nat.le_trans (Nat.mul_le_mul_left (tosses d) (show tosses c - i ≤ tosses c by omega)) ?_
        rw [Nat.mul_comm]; exact ht
      have b1 := (hd.bd.pow i).ok hti
      have b2 : Ok (Kv394.pow (Kv394.not_ d) (tosses c - i)) := (hd.not.bd.pow (tosses c - i)).ok htt
      refine ⟨_, rfl, a, iN c, rfl, S2.seq hA, _, rfl, _, _, rfl, rfl, ?_⟩
      have et : ((iN c).length : Int) - 1 - (0 + (i : Int)) = ((tosses c - i : Nat) : Int) := by rw [iN_len]; omega
      rw [Int.zero_add] at et ⊢
      refine ⟨_, rfl, _, rfl, b, d, i, rfl, S2.seq hB, hd, by omega, hti, fun H3 p3 s3 n3 e3 => ?_⟩
      refine ⟨_, rfl, b, d, rfl, (S2.trans s3).seq hB, hd, fun H4 p4 s4 n4 e4 => ?_⟩
      refine ⟨_, rfl, p4, _, tosses c - i, by rw [← et], SqL.of e4, hd.not, by omega, htt, fun H5 p5 s5 n5 e5 => ?_⟩
      refine ⟨p3, p5, _, _, rfl, SqL.of ((s4.trans s5) _ _ e3), SqL.of e5, b1.len1000, b2.len1000, b1.big, fun H6 p6 s6 n6 e6 => ?_⟩
      have S6 : Same H H6 := ((S2.trans s3).trans (s4.trans s5)).trans s6
      have hq6 := (s3.trans ((s4.trans s5).trans s6)) _ _ hq
      refine ⟨_, rfl, _, rfl, p6, rfl, ⟨_, SqL.of e6⟩, fun l2 hl2 => ?_⟩
      have ol := ofT_one_len hc hd hi
      have S7 : Same H6 (upd H6 l2 (.lst [])) := Same.upd_new (Same.refl _) hl2
      refine lc_list (K := K) (a := p6) (xs := (iN (Kv394.mul (Kv394.pow d i) (Kv394.pow (Kv394.not_ d) (tosses c - i)))).map V.int)
        (fun j H' => Same H6 H' ∧ H' l2 = some (.lst (((iN ((Kv394.mul (Kv394.pow d i) (Kv394.pow (Kv394.not_ d) (tosses c - i))).map fun x => co c i * x)).take j).map V.int))) ⟨S7, ?_⟩ (fun j H' _ z => SqL.of (z.1 _ _ e6)) ?_ ?_
      · rw [upd_same]; rfl
      · rintro j x H' hx ⟨S8, hq8⟩
        rw [List.getElem?_map] at hx
        have hj : j < (Kv394.mul (Kv394.pow d i) (Kv394.pow (Kv394.not_ d) (tosses c - i))).length := by
          by_cases z : j < (Kv394.mul (Kv394.pow d i) (Kv394.pow (Kv394.not_ d) (tosses c - i))).length
          · exact z
          · rw [List.getElem?_eq_none (by rw [iN_len]; omega)] at hx
            cases hx
        rw [iN_get hj] at hx
        obtain rfl := Option.some.inj hx
        refine ⟨rfl, ?_⟩
        have sm := hc.small i
        refine ⟨_, rfl, _, rfl, a, iN c, _, i, rfl, rfl, (S6.trans S8).seq hA, rfl, by rw [iN_len]; exact hi, _, rfl, _, _, rfl, rfl, .inl ⟨by rw [iN_getD]; omega, by rw [iN_getD]; omega⟩, _, hq8, ?_, Same.upd_own S8 hl2, ?_⟩
        · rw [List.length_map, List.length_take, iN_len, List.length_map, ol]
          exact small_lt (m := 1000) (by omega)
        · rw [upd_same, iN_getD, map_app, ← scale_turn _ _ hj]
      · rintro H' ⟨S8, hq8⟩
        rw [List.length_map, iN_len, List.take_of_length_le (by rw [iN_len, List.length_map]; exact Nat.le_refl _)] at hq8
        have lo := ofT_len hc hd (n := i) (by omega)
        refine ⟨l, l2, _, _, rfl, SqL.of (S8 _ _ hq6), SqL.of hq8, by rw [lo, List.length_map, ol], by rw [lo]; omega, fun H9 p9 s9 n9 e9 => ?_⟩
        exact ⟨_, _, _, _, p9, rfl, (S6.trans S8).trans s9, (S6.trans S8).free n9, e9⟩
    · rintro σ H' ⟨v3, v4, v5, v6, l, rfl, S2, n2, hq⟩
      rw [ofT_end] at hq
      exact ⟨_, rfl, q H' l S2 n2 hq⟩
/-! ### is_polynomial -/
def spIsPoly (K : PySem.W.Frag) : Sp := fun vs H Q _ => ∃ (a : Addr) (ns : List Int), vs = [.ref a] ∧ LI K H a ns ∧ Q (.bl (Kv394.okPoly ns)) H
theorem ok_is_poly (B : Bl mg) (mN : GI mg "MOST_NUMBERS" 7) (mL : GI mg "LARGEST" 1000) (D : DefAt K mg "is_polynomial" s_is_polynomial ["numbers"]) : Cal P w K mg base "is_polynomial" ["numbers"] 1 (spIsPoly K) := by
  refine D.cal sc_is_polynomial (fun vs H Q E h => ?_) (fun f cdv A outer s H vs Q E hr h => ?_)
  · obtain ⟨a, ns, rfl, _⟩ := h
    rfl
  · obtain ⟨a, ns, rfl, hA, q⟩ := h
    have no : ¬ Kv394.okPoly ns = true → Q (.bl false) H := fun z => by
      rw [Bool.not_eq_true] at z
      rw [z] at q
      exact q
    refine ⟨_, pss_cons (ps_if (PW.pt (pw_or (pt_cmpR op_lt (pe_lenV 0 B.len (by rfl) (pv 0)) pe_int (nomark _)) (pw_or1 (pt_cmpR op_gt (pe_lenV 0 B.len (by rfl) (pv 0)) (pe_gi mN (by rfl)) (nomark _))))) (pss_one (ps_ret pe_bl)) pss_nil)
      (pss_cons (ps_for PassesOwn.never rfl (pi_list (pv 0)) (pg_name (i := 1) sc_is_polynomial.nd rfl (Or.inl rfl))
        (pss_one (ps_if (PW.pt (pw_or (pt_cmpR op_lt (pv 1) (pe_un un_neg (pe_gi mL (by rfl))) (nomark _)) (pw_or1 (pt_cmpR op_gt (pv 1) (pe_gi mL (by rfl)) (nomark _))))) (pss_one (ps_ret pe_bl)) pss_nil)))
      (pss_one (ps_ret pe_bl))), ?_⟩
    refine ⟨_, rfl, a, ns, rfl, hA, _, _, rfl, rfl, _, rfl, ?_⟩
    refine ite2 (fun c0 => ?_) (fun c0 => ?_)
    · refine no fun z => ?_
      have c1 : (ns.length : Int) < 1 := of_decide_eq_true c0
      have := (okPoly_iff.mp z).1.1
      omega
    · have c1 : ¬ (ns.length : Int) < 1 := fun z => c0 (decide_eq_true z)
      refine ⟨_, rfl, a, ns, rfl, hA, _, _, rfl, rfl, _, rfl, ?_⟩
      refine ite2 (fun c2 => ?_) (fun c2 => ?_)
      · refine no fun z => ?_
        have c3 : (7 : Int) < (ns.length : Int) := of_decide_eq_true c2
        have := (okPoly_iff.mp z).1.2
        omega
      · have c3 : ¬ (7 : Int) < (ns.length : Int) := fun z => c2 (decide_eq_true z)
        refine ⟨_, rfl, a, rfl, ⟨_, hA⟩, for_list (K := K) (a := a) (xs := ns.map V.int) (fun i σ H' => ∃ v : Option V, σ = [some (.ref a), v] ∧ H' = H ∧ ∀ j, j < i → -1000 ≤ ns.getD j 0 ∧ ns.getD j 0 ≤ 1000) ⟨none, rfl, rfl, fun j hj => absurd hj (by omega)⟩ (fun i σ H' _ ⟨_, _, e, _⟩ => by rw [e]; exact hA) ?_ ?_⟩
        · rintro i x σ H' hx ⟨v, rfl, rfl, ih⟩
          rw [List.getElem?_map] at hx
          have hi : i < ns.length := by
            by_cases z : i < ns.length
            · exact z
            · rw [List.getElem?_eq_none (by omega)] at hx
              cases hx
          rw [get?_of 0 hi] at hx
          obtain rfl := Option.some.inj hx
          refine ⟨_, rfl, _, rfl, _, _, rfl, rfl, _, rfl, ?_⟩
          refine ite2 (fun d0 => ?_) (fun d0 => ?_)
          · refine no fun z => ?_
            have d1 : ns.getD i 0 < -1000 := of_decide_eq_true d0
            have := (okPoly_iff.mp z).2 _ (List.mem_of_getElem? (get?_of 0 hi))
            omega
          · have d1 : ¬ ns.getD i 0 < -1000 := fun z => d0 (decide_eq_true z)
            refine ⟨_, rfl, _, _, rfl, rfl, _, rfl, ?_⟩
            refine ite2 (fun d2 => ?_) (fun d2 => ?_)
            · refine no fun z => ?_
              have d3 : 1000 < ns.getD i 0 := of_decide_eq_true d2
              have := (okPoly_iff.mp z).2 _ (List.mem_of_getElem? (get?_of 0 hi))
              omega
            · have d3 : ¬ 1000 < ns.getD i 0 := fun z => d2 (decide_eq_true z)
              refine ⟨_, rfl, rfl, fun j hj => ?_⟩
              by_cases e : j = i
              · subst e; omega
              · exact ih j (by omega)
        · rintro σ H' ⟨v, rfl, rfl, ih⟩
          have z : Kv394.okPoly ns = true := okPoly_iff.mpr ⟨⟨by omega, by omega⟩, fun x hx => by
            obtain ⟨j, hj, e⟩ := List.getElem_of_mem hx
            have := ih j (by rw [List.length_map]; exact hj)
            rwa [getD_in (List.getElem?_eq_getElem hj), e] at this⟩
          rw [z] at q
          exact q
/-! ### by_heads, by_tosses -/
def spByHeads (K : PySem.W.Frag) : Sp := fun vs H Q _ => ∃ (a : Addr) (p : List Int) (k h : Nat), vs = [.ref a, .int k, .int h] ∧ LI K H a p ∧ p.length ≤ k + 1 ∧ k ≤ 10 ∧ h ≤ k ∧ (∀ x ∈ p, -1000 ≤ x ∧ x ≤ 1000) ∧ Q (.int (bhT p k h (min p.length (h + 1)))) H
theorem ok_by_heads (B : Bl mg) (CC : Cal P w K mg base "choose" ["n", "k"] 1 spChoose) (D : DefAt K mg "by_heads" s_by_heads ["numbers", "tosses", "heads"]) : Cal P w K mg base "by_heads" ["numbers", "tosses", "heads"] 2 (spByHeads K) := by
  refine D.cal sc_by_heads (fun vs H Q E h => ?_) (fun f cdv A outer s H vs Q E hr h => ?_)
  · obtain ⟨a, p, k, h, rfl, _⟩ := h
    rfl
  · obtain ⟨a, p, k, h, rfl, hA, hp, hk, hh, hb, q⟩ := h
    refine ⟨_, pss_cons (ps_set (i := 3) sc_by_heads.nd rfl (Or.inl rfl) pe_int)
      (pss_cons (ps_for PassesOwn.never rfl (pi_range1 rfl B.range (pa_cons (pe_callB (call_min2 rfl) (by rfl) B.min (by decide +kernel) (pa_cons (pe_lenV 0 B.len (by rfl) (pv 0)) (pa_cons (pe_op op_add (pv 2) pe_int) pa_nil))) pa_nil)) (pg_name (i := 4) sc_by_heads.nd rfl (Or.inl rfl))
        (pss_one (ps_set (i := 3) sc_by_heads.nd rfl (Or.inl rfl) (pe_op op_add (pv 3) (pe_op op_mul (pe_ix ix_I (pv 0) (pv 4) (fun _ _ => rfl)) (pe_callC CC hr (by rfl) (pa_cons (pe_op op_sub (pv 1) (pv 4)) (pa_cons (pe_op op_sub (pv 2) (pv 4)) pa_nil))))))))
      (pss_one (ps_ret (pv 3)))), ?_⟩
    have em : (if ((h : Int) + 1) < (p.length : Int) then ((h : Int) + 1) else (p.length : Int)) = ((min p.length (h + 1) : Nat) : Int) := by
      split <;> omega
    refine ⟨_, rfl, a, p, rfl, hA, _, rfl, _, _, rfl, rfl, _, _, rfl, ((min p.length (h + 1) : Nat) : Int), by rw [← em], by omega, by omega, ?_⟩
    rw [Int.toNat_natCast]
    refine for_range (lo := 0) (n := min p.length (h + 1)) (fun i σ H' => ∃ v : Option V, σ = [some (.ref a), some (.int k), some (.int h), some (.int (bhT p k h i)), v] ∧ H' = H) ⟨none, rfl, rfl⟩ ?_ ?_
    · rintro i σ H' hi ⟨v, rfl, rfl⟩
      have hx := hb _ (List.mem_of_getElem? (get?_of (0 : Int) (show i < p.length by omega)))
      rw [Int.zero_add]
      refine ⟨_, rfl, _, rfl, _, rfl, a, p, _, i, rfl, rfl, hA, rfl, by omega, _, rfl, _, rfl, _, _, rfl, rfl, _, rfl, _, rfl, _, _, rfl, rfl, k - i, h - i, ?_, by omega, by omega, _, _, rfl, rfl, .inl ⟨by omega, by omega⟩, _, _, rfl, rfl, some (.int (i : Int)), ?_, rfl⟩
      · show [V.int ((k : Int) - (i : Int)), V.int ((h : Int) - (i : Int))] = _
        rw [show ((k : Int) - (i : Int)) = ((k - i : Nat) : Int) by omega, show ((h : Int) - (i : Int)) = ((h - i : Nat) : Int) by omega]
      · rfl
    · rintro σ H' ⟨v, rfl, rfl⟩
      exact ⟨_, rfl, q⟩
def spByTosses (K : PySem.W.Frag) : Sp := fun vs H Q _ => ∃ (a : Addr) (p : List Int) (k : Nat), vs = [.ref a, .int k] ∧ LI K H a p ∧ p.length ≤ k + 1 ∧ k ≤ 10 ∧ (∀ x ∈ p, -1000 ≤ x ∧ x ≤ 1000) ∧ NewL H (Kv394.rowOf k p) Q
theorem ok_by_tosses (B : Bl mg) (CH : Cal P w K mg base "by_heads" ["numbers", "tosses", "heads"] 2 (spByHeads K)) (D : DefAt K mg "by_tosses" s_by_tosses ["numbers", "tosses"]) : Cal P w K mg base "by_tosses" ["numbers", "tosses"] 3 (spByTosses K) := by
  refine D.cal sc_by_tosses (fun vs H Q E h => ?_) (fun f cdv A outer s H vs Q E hr h => ?_)
  · obtain ⟨a, p, k, rfl, _⟩ := h
    rfl
  · obtain ⟨a, p, k, rfl, hA, hp, hk, hb, q⟩ := h
    refine ⟨_, pss_one (ps_ret (pe_lc (own := [("heads", 2)]) (g := gName 2) (by rfl) sc_by_tosses.nd (pi_range1 rfl B.range (pa_cons (pe_op op_add (pv 1) pe_int) pa_nil))
        (blkOk_by (own := [("heads", 2)]) (N := n_by_tosses) (sc := defScope s_by_tosses) (by decide +kernel)) (fun _ _ _ _ _ => pg_name (i := 2) sc_by_tosses.nd rfl (Or.inl rfl)) (fun _ _ _ _ _ => pts_nil)
        (fun _ _ _ _ _ => pe_callC CH hr (by rfl) (pa_cons (pv 0) (pa_cons (pv 1) (pa_cons (pv 2) pa_nil)))))), ?_⟩
    refine ⟨_, rfl, _, _, rfl, rfl, ((k + 1 : Nat) : Int), by push_cast; rfl, by omega, by omega, ?_⟩
    rw [Int.toNat_natCast]
    intro l hl0
    have S0 : Same H (upd H l (.lst [])) := Same.upd_new (Same.refl H) hl0
    refine lc_range (lo := 0) (n := k + 1) (fun i H' => Same H H' ∧ H' l = some (.lst (((Kv394.rowOf k p).take i).map V.int))) ⟨S0, ?_⟩ ?_ ?_
    · rw [upd_same]; rfl
    · rintro i H' hi ⟨S1, hq⟩
      refine ⟨rfl, ?_⟩
      rw [Int.zero_add]
      refine ⟨_, rfl, _, rfl, _, rfl, a, p, k, i, rfl, S1.seq hA, hp, hk, by omega, hb, _, hq, ?_, Same.upd_own S1 hl0, ?_⟩
      · rw [List.length_map, List.length_take, rowOf_len]
        exact small_lt (m := 100) (by omega)
      · rw [upd_same, map_app, ← rowOf_turn p (by omega)]
    · rintro H' ⟨S1, hq⟩
      refine q H' l S1 hl0 ?_
      rw [hq, List.take_of_length_le (by rw [rowOf_len]; exact Nat.le_refl _)]
/-! ### coin_with_fewest_tosses -/
def spFewest (K : PySem.W.Frag) : Sp := fun vs H Q _ => ∃ (a : Addr) (p : List Int), vs = [.ref a] ∧ LI K H a p ∧ Kv394.okPoly p = true ∧
  (Kv394.coinOf p = none → ∀ H', Same H H' → Q .non H') ∧ ∀ d, Kv394.coinOf p = some d → NewL H (iN d) Q
theorem ok_fewest (B : Bl mg) (mT : GI mg "MOST_TOSSES" 10) (CY : Cal P w K mg base "by_tosses" ["numbers", "tosses"] 3 (spByTosses K)) (CF : Cal P w K mg base "fits" ["row"] 2 (spFits K)) (D : DefAt K mg "coin_with_fewest_tosses" s_coin_with_fewest_tosses ["numbers"]) :
    Cal P w K mg base "coin_with_fewest_tosses" ["numbers"] 4 (spFewest K) := by
  refine D.cal sc_coin_with_fewest_tosses (fun vs H Q E h => ?_) (fun f cdv A outer s H vs Q E hr h => ?_)
  · obtain ⟨a, p, rfl, _⟩ := h
    rfl
  · obtain ⟨a, p, rfl, hA, hp, qN, qS⟩ := h
    have hr2 : Room 2 _ := hr.mono (by decide)
    obtain ⟨⟨p1, p7⟩, hb⟩ := okPoly_iff.mp hp
    refine ⟨_, pss_cons (ps_for PassesOwn.never rfl (pi_range2 (by rfl) B.range (pa_cons (pe_op op_sub (pe_lenV 0 B.len (by rfl) (pv 0)) pe_int) (pa_cons (pe_op op_add (pe_gi mT (by rfl)) pe_int) pa_nil))) (pg_name (i := 1) sc_coin_with_fewest_tosses.nd rfl (Or.inl rfl))
        (pss_cons (ps_set (i := 2) sc_coin_with_fewest_tosses.nd rfl (Or.inl rfl) (pe_callC CY hr (by rfl) (pa_cons (pv 0) (pa_cons (pv 1) pa_nil))))
        (pss_one (ps_if (pt_val (pe_callC CF hr2 (by rfl) (pa_cons (pv 2) pa_nil))) (pss_one (ps_ret (pv 2))) pss_nil))))
      (pss_one (ps_ret pe_non)), ?_⟩
    refine ⟨_, rfl, a, p, rfl, hA, _, _, rfl, rfl, _, _, rfl, rfl, (p.length : Int) - 1, 11, rfl, ⟨by omega, by omega, by omega, by omega⟩, ?_⟩
    have eT : ((11 : Int) - ((p.length : Int) - 1)).toNat = 12 - p.length := by omega
    rw [eT]
    refine for_range (lo := (p.length : Int) - 1) (n := 12 - p.length) (fun i σ H' => ∃ v1 v2 : Option V, σ = [some (.ref a), v1, v2] ∧ Same H H' ∧ ∀ j, p.length ≤ j + 1 → j < p.length - 1 + i → Kv394.fits j (Kv394.rowOf j p) = false) ⟨none, none, rfl, Same.refl H, fun j h1 h2 => absurd h2 (by omega)⟩ ?_ ?_
    · rintro i σ H' hi ⟨v1, v2, rfl, S1, ih⟩
      have ek : (p.length : Int) - 1 + (i : Int) = ((p.length - 1 + i : Nat) : Int) := by omega
      rw [ek]
      refine ⟨_, rfl, _, rfl, a, p, p.length - 1 + i, rfl, S1.seq hA, by omega, by omega, hb, fun H2 l S2 n2 e2 => ?_⟩
      refine ⟨_, rfl, l, _, rfl, SqL.of e2, by rw [rowOf_len]; omega, by rw [rowOf_len]; omega, _, rfl, ?_⟩
      rw [rowOf_len, show p.length - 1 + i + 1 - 1 = p.length - 1 + i by omega]
      cases g : Kv394.fits (p.length - 1 + i) (Kv394.rowOf (p.length - 1 + i) p) with
      | true =>
        have e := coinOf_some (k := p.length - 1 + i) (by omega) (by omega) g (fun j h1 h2 => ih j h1 h2)
        refine ⟨_, rfl, qS _ e H2 l (S1.trans S2) (S1.free n2) ?_⟩
        rw [rowOf_fits_iN g]; exact e2
      | false =>
        refine ⟨_, _, rfl, S1.trans S2, fun j h1 h2 => ?_⟩
        by_cases z : j = p.length - 1 + i
        · rw [z]; exact g
        · exact ih j h1 (by omega)
    · rintro σ H' ⟨v1, v2, rfl, S1, ih⟩
      exact qN (coinOf_none fun j h1 h2 => ih j h1 (by omega)) H' S1
end
end Mc

end
section
set_option Elab.async false
set_option linter.all false
set_option maxRecDepth 100000
set_option maxHeartbeats 4000000
/-! Rows: powers, weighed sums, the fewest tosses, the same. -/
namespace Mc
open PySem PySem.Spec PyProof.Rows L2
open Kv394 (choose tosses)
theorem dp_ints {K : PySem.W.Frag} {H : Hp} : ∀ ns : List Int, DpAll K H (ns.map V.int) (ns.map PyData.int)
  | [] => .nil
  | n :: ns => .cons (.int n) (dp_ints ns)
theorem eqv_ints_all : ∀ xs ys : List Int, PyData.eqvAll (xs.map PyData.int) (ys.map PyData.int) = decide (xs = ys)
  | [], [] => by simp [PyData.eqvAll]
  | [], y :: ys => by simp [PyData.eqvAll]
  | x :: xs, [] => by simp [PyData.eqvAll]
  | x :: xs, y :: ys => by
    rw [List.map_cons, List.map_cons, PyData.eqvAll.eq_2, PyData.eqv.eq_5, eqv_ints_all xs ys]
    by_cases h : x = y <;> by_cases g : xs = ys <;> simp [h, g]
theorem eqv_ints (xs ys : List Int) : PyData.eqv (.list (xs.map PyData.int)) (.list (ys.map PyData.int)) = decide (xs = ys) := by
  rw [← eqv_ints_all]
  simp [PyData.eqv]
theorem lay_ints : ∀ xs : List Int, PyData.canLayAll0 (xs.map PyData.int) = true
  | [] => by simp [PyData.canLayAll0]
  | x :: xs => by
    have := lay_ints xs
    simp [PyData.canLayAll0, PyData.canLay0, this]
theorem depth_ints : ∀ xs : List Int, PyData.depthAll (xs.map PyData.int) ≤ 1
  | [] => by simp [PyData.depthAll]
  | x :: xs => by
    have := depth_ints xs
    simp [PyData.depthAll, PyData.depth]
    omega
theorem shaped_ints (xs : List Int) : SeqAt.shaped (.list (xs.map PyData.int)) = true := by
  have h1 := lay_ints xs
  have h2 := depth_ints xs
  simp [SeqAt.shaped, PyData.canLay0, PyData.depth, h1]
  omega
theorem iN_eq (c d : List Nat) : decide (iN c = iN d) = (c == d) := by
  by_cases h : c = d
  · subst h; simp
  · rw [decide_eq_false (fun z => h (iN_inj z))]
    exact (beq_eq_false_iff_ne.mpr h).symm
theorem pow_small {y m : Nat} (hy : y ≤ 20) (hm : m ≤ 10) : y ^ m ≤ 10240000000000 := Nat.le_trans (Nat.pow_le_pow_left hy m) (Nat.pow_le_pow_right (by decide) hm)
section
variable {P : Program} {w : World} {K : PySem.W.Frag} {mg : Str → Option Value} {base : Heap}
theorem Cal.imp {x : Str} {ps : List Str} {k : Nat} {sp sp' : Sp} (C : Cal P w K mg base x ps k sp) (h : ∀ vs H Q E, sp' vs H Q E → sp vs H Q E) : Cal P w K mg base x ps k sp' := by
  obtain ⟨f, fd, F, g, kp, b⟩ := C
  exact ⟨f, fd, F.imp h, g, kp, b⟩
/-! ### power -/
def spPower : Sp := fun vs H Q _ => ∃ b n : Nat, vs = [.int b, .int n] ∧ b ≤ 1000 ∧ n ≤ 1000 ∧ Q (.int ((b ^ n : Nat) : Int)) H
theorem ok_power (B : Bl mg) (D : DefAt K mg "power" s_power ["base", "times"]) : Cal P w K mg base "power" ["base", "times"] 1 spPower := by
  refine D.cal sc_power (fun vs H Q E h => ?_) (fun f cdv A outer s H vs Q E hr h => ?_)
  · obtain ⟨n, k, rfl, _⟩ := h
    rfl
  · obtain ⟨b, n, rfl, hb, hn, q⟩ := h
    refine ⟨_, pss_cons (ps_set (i := 2) sc_power.nd rfl (Or.inl rfl) pe_int)
      (pss_cons (ps_for PassesOwn.never rfl (pi_range1 rfl B.range (pa_cons (pv 1) pa_nil)) (pg_name (i := 3) sc_power.nd rfl (Or.inl rfl))
        (pss_one (ps_set (i := 2) sc_power.nd rfl (Or.inl rfl) (pe_op op_mul (pv 2) (pv 0)))))
      (pss_one (ps_ret (pv 2)))), ?_⟩
    refine ⟨_, rfl, (n : Int), rfl, by omega, by omega, ?_⟩
    rw [Int.toNat_natCast]
    refine for_range (lo := 0) (n := n) (fun i σ H' => ∃ v : Option V, σ = [some (.int b), some (.int n), some (.int ((b ^ i : Nat) : Int)), v] ∧ H' = H) ⟨none, ?_, rfl⟩ ?_ ?_
    · rw [Nat.pow_zero]; rfl
    · rintro i σ H' hi ⟨v, rfl, rfl⟩
      refine ⟨_, rfl, _, rfl, _, _, rfl, rfl, .inr ⟨by omega, by omega⟩, some (.int (0 + (i : Int))), ?_, rfl⟩
      rw [Nat.pow_succ, Int.natCast_mul]; rfl
    · rintro σ H' ⟨v, rfl, rfl⟩
      exact ⟨_, rfl, q⟩
/-! ### weighed -/
def spWeighed (K : PySem.W.Frag) : Sp := fun vs H Q _ => ∃ (a : Addr) (ns : List Int) (x y : Nat), vs = [.ref a, .int x, .int y] ∧ LI K H a ns ∧ 1 ≤ ns.length ∧ ns.length ≤ 11 ∧ (∀ i, -100000 ≤ ns.getD i 0 ∧ ns.getD i 0 ≤ 100000) ∧ x ≤ 20 ∧ y ≤ 20 ∧ Q (.int (wT ns x y ns.length)) H
theorem ok_weighed (B : Bl mg) (CP : Cal P w K mg base "power" ["base", "times"] 1 spPower) (D : DefAt K mg "weighed" s_weighed ["numbers", "one", "other"]) : Cal P w K mg base "weighed" ["numbers", "one", "other"] 2 (spWeighed K) := by
  refine D.cal sc_weighed (fun vs H Q E h => ?_) (fun f cdv A outer s H vs Q E hr h => ?_)
  · obtain ⟨a, ns, x, y, rfl, _⟩ := h
    rfl
  · obtain ⟨a, ns, x, y, rfl, hA, h1, h2, hb, hx, hy, q⟩ := h
    refine ⟨_, pss_cons (ps_set (i := 3) sc_weighed.nd rfl (Or.inl rfl) (pe_op op_sub (pe_lenV 0 B.len (by rfl) (pv 0)) pe_int))
      (pss_cons (ps_set (i := 4) sc_weighed.nd rfl (Or.inl rfl) pe_int)
      (pss_cons (ps_for PassesOwn.never rfl (pi_range1 rfl B.range (pa_cons (pe_lenV 0 B.len (by rfl) (pv 0)) pa_nil)) (pg_name (i := 5) sc_weighed.nd rfl (Or.inl rfl))
        (pss_one (ps_set (i := 4) sc_weighed.nd rfl (Or.inl rfl) (pe_op op_add (pv 4) (pe_op op_mul (pe_op op_mul (pe_ix ix_I (pv 0) (pv 5) (fun _ _ => rfl)) (pe_callC CP hr (by rfl) (pa_cons (pv 1) (pa_cons (pv 5) pa_nil)))) (pe_callC CP hr (by rfl) (pa_cons (pv 2) (pa_cons (pe_op op_sub (pv 3) (pv 5)) pa_nil))))))))
      (pss_one (ps_ret (pv 4))))), ?_⟩
    refine ⟨_, rfl, a, ns, rfl, hA, _, _, rfl, rfl, _, rfl, a, ns, rfl, hA, ((ns.length : Nat) : Int), rfl, by omega, by omega, ?_⟩
    rw [Int.toNat_natCast]
    refine for_range (lo := 0) (n := ns.length) (fun i σ H' => ∃ v : Option V, σ = [some (.ref a), some (.int x), some (.int y), some (.int ((ns.length : Int) - 1)), some (.int (wT ns x y i)), v] ∧ H' = H) ⟨none, rfl, rfl⟩ ?_ ?_
    · rintro i σ H' hi ⟨v, rfl, rfl⟩
      have hxi := hb i
      have hp := pow_small hy (m := ns.length - 1 - i) (by omega)
      rw [Int.zero_add]
      refine ⟨_, rfl, _, rfl, _, rfl, a, ns, _, i, rfl, rfl, hA, rfl, hi, _, rfl, _, rfl, x, i, rfl, by omega, by omega, _, _, rfl, rfl, .inl ⟨by omega, by omega⟩,
        _, rfl, _, rfl, _, rfl, _, _, rfl, rfl, y, ns.length - 1 - i, ?_, by omega, by omega, _, _, rfl, rfl, .inr ⟨by omega, by omega⟩, _, _, rfl, rfl, some (.int (i : Int)), ?_, rfl⟩
      · show [V.int (y : Int), V.int ((ns.length : Int) - 1 - (i : Int))] = _
        rw [show ((ns.length : Int) - 1 - (i : Int)) = ((ns.length - 1 - i : Nat) : Int) by omega]
      · rfl
    · rintro σ H' ⟨v, rfl, rfl⟩
      exact ⟨_, rfl, q⟩
/-! ### chance_at -/
def spChanceAt (K : PySem.W.Frag) : Sp := fun vs H Q _ => ∃ (r : Addr) (c : List Nat) (a b : Nat), vs = [.ref r, .int a, .int b] ∧ LI K H r (iN c) ∧ Ok c ∧ a ≤ b ∧ b ≤ 20 ∧ Q (.int (Kv394.chance c a b : Nat)) H
theorem ok_chance_at (CW : Cal P w K mg base "weighed" ["numbers", "one", "other"] 2 (spWeighed K)) (D : DefAt K mg "chance_at" s_chance_at ["row", "a", "b"]) : Cal P w K mg base "chance_at" ["row", "a", "b"] 3 (spChanceAt K) := by
  refine D.cal sc_chance_at (fun vs H Q E h => ?_) (fun f cdv A outer s H vs Q E hr h => ?_)
  · obtain ⟨r, c, a, b, rfl, _⟩ := h
    rfl
  · obtain ⟨r, c, a, b, rfl, hA, hc, hab, hb, q⟩ := h
    refine ⟨_, pss_one (ps_ret (pe_callC CW hr (by rfl) (pa_cons (pv 0) (pa_cons (pv 1) (pa_cons (pe_op op_sub (pv 2) (pv 1)) pa_nil))))), ?_⟩
    refine ⟨_, rfl, _, rfl, _, rfl, _, rfl, _, _, rfl, rfl, r, iN c, a, b - a, ?_, hA, by rw [iN_len]; exact hc.pos, by rw [iN_len]; exact hc.most, fun i => ?_, by omega, by omega, ?_⟩
    · show [V.ref r, V.int (a : Int), V.int ((b : Int) - (a : Int))] = _
      rw [show ((b : Int) - (a : Int)) = ((b - a : Nat) : Int) by omega]
    · rw [iN_getD]
      have := hc.small i
      omega
    · rw [wT_chance]
      exact q
/-! ### with_fewest_tosses -/
def FewV (H H' : Hp) (c : List Nat) (v : V) : Prop := Same H H' ∧ ((Kv394.less c = none ∧ v = .non) ∨ ∃ d p, Kv394.less c = some d ∧ v = .ref p ∧ H p = none ∧ H' p = some (.lst ((iN d).map V.int)))
def spFewer1 (K : PySem.W.Frag) : Sp := fun vs H Q _ => ∃ (a : Addr) (c : List Nat), vs = [.ref a] ∧ LI K H a (iN c) ∧ 1 ≤ c.length ∧ c.length ≤ 11 ∧ ∀ H' v, FewV H H' c v → Q v H'
theorem fewer1 (C : Cal P w K mg base "toss_fewer" ["row"] 3 (spFewer K)) : Cal P w K mg base "toss_fewer" ["row"] 3 (spFewer1 K) := C.imp fun vs H Q E ⟨a, c, e, l, h1, h2, q⟩ =>
  ⟨a, c, e, l, h1, h2, fun z H' S => q H' .non ⟨S, .inl ⟨z, rfl⟩⟩, fun d z H' p S n h => q H' (.ref p) ⟨S, .inr ⟨d, p, z, rfl, n, h⟩⟩⟩
def leftLen (σ : L2.St) (H : Hp) : Nat := match σ with
  | [_, some (.ref l), _] => match H l with
    | some (.lst xs) => xs.length
    | _ => 0
  | _ => 0
theorem leftLen_at {a b : Option V} {l : Addr} {H : Hp} {xs : List V} (h : H l = some (.lst xs)) : leftLen [a, some (.ref l), b] H = xs.length := by
  show (match H l with
    | some (.lst xs) => xs.length
    | _ => 0) = _
  rw [h]
def spLeastF (K : PySem.W.Frag) : Sp := fun vs H Q _ => ∃ (a : Addr) (c : List Nat), vs = [.ref a] ∧ LI K H a (iN c) ∧ Ok c ∧ NewL H (iN (Kv394.least 10 c)) Q
theorem ok_leastF_ (B : Bl mg) (C0 : Cal P w K mg base "toss_fewer" ["row"] 3 (spFewer K)) (D : DefAt K mg "with_fewest_tosses" s_with_fewest_tosses ["row"]) : Cal P w K mg base "with_fewest_tosses" ["row"] 4 (spLeastF K) := by
  have CF := fewer1 C0
  refine D.cal sc_with_fewest_tosses (fun vs H Q E h => ?_) (fun f cdv A outer s H vs Q E hr h => ?_)
  · obtain ⟨a, c, rfl, _⟩ := h
    rfl
  · obtain ⟨a, c, rfl, hA, hc, q⟩ := h
    refine ⟨_, pss_cons (ps_set (i := 1) sc_with_fewest_tosses.nd rfl (Or.inl rfl) (pe_callTy call_list_of (by rfl) B.list (by decide +kernel) (pa_cons (pv 0) pa_nil)))
      (pss_cons (ps_set (i := 2) sc_with_fewest_tosses.nd rfl (Or.inl rfl) (pe_callC CF hr (by rfl) (pa_cons (pv 1) pa_nil)))
      (pss_cons (ps_while PassesOwn.never (pt_cmpR op_notN (pv 2) pe_non (nomark _))
        (pss_cons (ps_set (i := 1) sc_with_fewest_tosses.nd rfl (Or.inl rfl) (pv 2)) (pss_one (ps_set (i := 2) sc_with_fewest_tosses.nd rfl (Or.inl rfl) (pe_callC CF hr (by rfl) (pa_cons (pv 1) pa_nil))))))
      (pss_one (ps_ret (pv 1))))), ?_⟩
    refine ⟨_, rfl, a, _, rfl, .inl hA, fun l0 hl0 => ?_⟩
    have S0 : Same H (upd H l0 (.lst ((iN c).map V.int))) := Same.upd_new (Same.refl H) hl0
    refine ⟨_, rfl, l0, c, rfl, SqL.of upd_same, hc.pos, hc.most, fun H1 v1 F1 => ?_⟩
    refine while_by (fun σ H' => ∃ (l : Addr) (v : V) (d : List Nat) (n : Nat), σ = [some (.ref a), some (.ref l), some v] ∧ Same H H' ∧ H l = none ∧ H' l = some (.lst ((iN d).map V.int)) ∧ Ok d ∧ tosses d ≤ n ∧ Kv394.least 10 c = Kv394.least n d ∧
      ((Kv394.less d = none ∧ v = .non) ∨ ∃ e p, Kv394.less d = some e ∧ v = .ref p ∧ H p = none ∧ H' p = some (.lst ((iN e).map V.int)))) leftLen ?_ ?_ ?_
    · have hm := hc.most
      have hl := len_tosses hc.pos
      refine ⟨l0, v1, c, 10, rfl, S0.trans F1.1, hl0, F1.1 _ _ upd_same, hc, by omega, rfl, ?_⟩
      rcases F1.2 with z | ⟨e, p, z1, z2, z3, z4⟩
      · exact .inl z
      · exact .inr ⟨e, p, z1, z2, S0.free z3, z4⟩
    · rintro σ H' ⟨l, v, d, n, rfl, S1, n1, hq, hd, hn, hle, hv⟩
      refine ⟨_, rfl, rfl, _, rfl, ?_⟩
      rcases hv with ⟨z, rfl⟩ | ⟨e, p, z, rfl, np, hp⟩
      · refine iteNS rfl ⟨_, rfl, q H' l S1 n1 ?_⟩
        rw [hq, hle, least_none z]
      · have he : Ok e := Ok.less z
        have ht := less_tosses hd.pos hd.most z
        refine iteT ⟨_, rfl, _, rfl, p, e, rfl, SqL.of hp, he.pos, he.most, fun H2 v2 F2 => ?_⟩
        obtain ⟨m, rfl⟩ : ∃ m, n = m + 1 := ⟨n - 1, by omega⟩
        refine ⟨⟨p, v2, e, m, rfl, S1.trans F2.1, np, F2.1 _ _ hp, he, by omega, by rw [hle, least_some z], ?_⟩, ?_⟩
        · rcases F2.2 with z | ⟨e, p, z1, z2, z3, z4⟩
          · exact .inl z
          · exact .inr ⟨e, p, z1, z2, S1.free z3, z4⟩
        · show leftLen [some (.ref a), some (.ref p), some v2] H2 < _
          rw [leftLen_at (F2.1 _ _ hp), leftLen_at hq, List.length_map, List.length_map, iN_len, iN_len]
          have := len_tosses hd.pos
          have := len_tosses he.pos
          omega
    · exact fun σ H Q Q' mo ⟨v, e, e2, k, e3, q⟩ => ⟨v, e, e2, k, e3, mo _ _ q⟩
/-! ### are_same -/
def spSame (K : PySem.W.Frag) : Sp := fun vs H Q _ => ∃ (a b : Addr) (c d : List Nat), vs = [.ref a, .ref b] ∧ LI K H a (iN c) ∧ LI K H b (iN d) ∧ Ok c ∧ Ok d ∧ ∀ H', Same H H' → Q (.bl (Kv394.level 10 c == Kv394.level 10 d)) H'
theorem ok_same (mT : GI mg "MOST_TOSSES" 10) (CS : Cal P w K mg base "stretched" ["row", "tosses"] 2 (spStr K)) (D : DefAt K mg "are_same" s_are_same ["first", "second"]) : Cal P w K mg base "are_same" ["first", "second"] 3 (spSame K) := by
  refine D.cal sc_are_same (fun vs H Q E h => ?_) (fun f cdv A outer s H vs Q E hr h => ?_)
  · obtain ⟨a, b, c, d, rfl, _⟩ := h
    rfl
  · obtain ⟨a, b, c, d, rfl, hA, hB, hc, hd, q⟩ := h
    refine ⟨_, pss_one (ps_ret (pe_cmpR (op_eqD hr.units) (pe_callC CS hr (by rfl) (pa_cons (pv 0) (pa_cons (pe_gi mT (by rfl)) pa_nil))) (pe_callC CS hr (by rfl) (pa_cons (pv 1) (pa_cons (pe_gi mT (by rfl)) pa_nil))) (nomark _))), ?_⟩
    have lc := len_tosses hc.pos
    have ld := len_tosses hd.pos
    have mc := hc.most
    have md := hd.most
    refine ⟨_, rfl, a, c, 10, rfl, hA, hc, by omega, by omega, fun H1 p1 s1 n1 e1 => ?_⟩
    refine ⟨_, rfl, b, d, 10, rfl, s1.seq hB, hd, by omega, by omega, fun H2 p2 s2 n2 e2 => ?_⟩
    refine ⟨_, _, Dp.lst (SqL.of (s2 _ _ e1)) (dp_ints _), Dp.lst (SqL.of e2) (dp_ints _), shaped_ints _, shaped_ints _, ?_⟩
    rw [eqv_ints, iN_eq]
    exact q H2 (s1.trans s2)
end
end Mc

end
section
set_option Elab.async false
set_option linter.all false
set_option maxRecDepth 100000
set_option maxHeartbeats 4000000
/-! Polynomials: by powers, always, never. -/
namespace Mc
open PySem PySem.Spec PyProof.Rows L2
open Kv394 (choose tosses)
section
variable {P : Program} {w : World} {K : PySem.W.Frag} {mg : Str → Option Value} {base : Heap}
/-! ### number_by_power -/
def spNumPow (K : PySem.W.Frag) : Sp := fun vs H Q _ => ∃ (a : Addr) (c : List Nat) (i : Nat), vs = [.ref a, .int i] ∧ LI K H a (iN c) ∧ Ok c ∧ i < c.length ∧ Q (.int (cfT c i (i + 1))) H
theorem ok_num_pow (B : Bl mg) (CC : Cal P w K mg base "choose" ["n", "k"] 1 spChoose) (CT : Cal P w K mg base "tosses_of" ["row"] 1 (spTosses K)) (D : DefAt K mg "number_by_power" s_number_by_power ["row", "place"]) : Cal P w K mg base "number_by_power" ["row", "place"] 2 (spNumPow K) := by
  refine D.cal sc_number_by_power (fun vs H Q E h => ?_) (fun f cdv A outer s H vs Q E hr h => ?_)
  · obtain ⟨a, c, i, rfl, _⟩ := h
    rfl
  · obtain ⟨a, c, i, rfl, hA, hc, hi, q⟩ := h
    refine ⟨_, pss_cons (ps_set (i := 2) sc_number_by_power.nd rfl (Or.inl rfl) pe_int)
      (pss_cons (ps_for PassesOwn.never rfl (pi_range1 rfl B.range (pa_cons (pe_op op_add (pv 1) pe_int) pa_nil)) (pg_name (i := 3) sc_number_by_power.nd rfl (Or.inl rfl))
        (pss_cons (ps_set (i := 4) sc_number_by_power.nd rfl (Or.inl rfl) (pe_callC CC hr (by rfl) (pa_cons (pe_op op_sub (pe_callC CT hr (by rfl) (pa_cons (pv 0) pa_nil)) (pv 3)) (pa_cons (pe_op op_sub (pv 1) (pv 3)) pa_nil))))
        (pss_cons (ps_if (pt_cmpR op_eq (pe_op op_mod (pe_op op_sub (pv 1) (pv 3)) pe_int) pe_int (nomark _)) (pss_one (ps_set (i := 4) sc_number_by_power.nd rfl (Or.inl rfl) (pe_un un_neg (pv 4)))) pss_nil)
        (pss_one (ps_set (i := 2) sc_number_by_power.nd rfl (Or.inl rfl) (pe_op op_add (pv 2) (pe_op op_mul (pe_ix ix_I (pv 0) (pv 3) (fun _ _ => rfl)) (pv 4))))))))
      (pss_one (ps_ret (pv 2)))), ?_⟩
    have hl := len_tosses hc.pos
    have hm := hc.most
    refine ⟨_, rfl, _, _, rfl, rfl, ((i + 1 : Nat) : Int), by push_cast; rfl, by omega, by omega, ?_⟩
    rw [Int.toNat_natCast]
    refine for_range (lo := 0) (n := i + 1) (fun j σ H' => ∃ v v' : Option V, σ = [some (.ref a), some (.int i), some (.int (cfT c i j)), v, v'] ∧ H' = H) ⟨none, none, rfl, rfl⟩ ?_ ?_
    · rintro j σ H' hj ⟨v, v', rfl, rfl⟩
      have hs := hc.small j
      rw [Int.zero_add]
      refine ⟨_, rfl, a, iN c, rfl, hA, _, rfl, _, _, rfl, rfl, _, rfl, _, rfl, _, _, rfl, rfl, tosses c - j, i - j, ?_, by omega, by omega, ?_⟩
      · show [V.int ((((iN c).length : Nat) : Int) - 1 - (j : Int)), V.int ((i : Int) - (j : Int))] = _
        rw [iN_len, show ((c.length : Nat) : Int) - 1 - (j : Int) = ((tosses c - j : Nat) : Int) by omega, show (i : Int) - (j : Int) = ((i - j : Nat) : Int) by omega]
      · refine ⟨_, rfl, _, rfl, _, _, rfl, rfl, _, _, rfl, rfl, (by show (0 : Int) < 2; decide), rfl, _, rfl, ?_⟩
        refine ite2 (fun c0 => ?_) (fun c0 => ?_)
        · have c1 : ((i : Int) - (j : Int)) % 2 = 1 := V.int.inj (of_decide_eq_true c0)
          refine ⟨_, rfl, _, rfl, ?_⟩
          refine ⟨_, rfl, _, rfl, _, rfl, a, iN c, _, j, rfl, rfl, hA, rfl, by rw [iN_len]; omega, _, rfl, _, _, rfl, rfl, .inl ⟨by rw [iN_getD]; omega, by rw [iN_getD]; omega⟩, _, _, rfl, rfl, some (.int (j : Int)), some (.int (-(choose (tosses c - j) (i - j) : Int))), ?_, rfl⟩
          refine congrArg (fun z => [some (V.ref a), some (V.int i), some (V.int z), some (V.int j), some (V.int (-(choose (tosses c - j) (i - j) : Int)))]) ?_
          show cfT c i j + (iN c).getD j 0 * -(choose (tosses c - j) (i - j) : Int) = cfT c i j + (co c j : Int) * (if (i - j) % 2 = 1 then -(choose (tosses c - j) (i - j) : Int) else (choose (tosses c - j) (i - j) : Int))
          rw [iN_getD, if_pos (by omega)]
        · have c1 : ¬ ((i : Int) - (j : Int)) % 2 = 1 := fun z => c0 (decide_eq_true (congrArg V.int z))
          refine ⟨_, rfl, _, rfl, _, rfl, a, iN c, _, j, rfl, rfl, hA, rfl, by rw [iN_len]; omega, _, rfl, _, _, rfl, rfl, .inl ⟨by rw [iN_getD]; omega, by rw [iN_getD]; omega⟩, _, _, rfl, rfl, some (.int (j : Int)), some (.int (choose (tosses c - j) (i - j) : Int)), ?_, rfl⟩
          refine congrArg (fun z => [some (V.ref a), some (V.int i), some (V.int z), some (V.int j), some (V.int (choose (tosses c - j) (i - j) : Int))]) ?_
          show cfT c i j + (iN c).getD j 0 * (choose (tosses c - j) (i - j) : Int) = cfT c i j + (co c j : Int) * (if (i - j) % 2 = 1 then -(choose (tosses c - j) (i - j) : Int) else (choose (tosses c - j) (i - j) : Int))
          rw [iN_getD, if_neg (by omega)]
    · rintro σ H' ⟨v, v', rfl, rfl⟩
      exact ⟨_, rfl, q⟩
/-! ### by_powers -/
def spByPow (K : PySem.W.Frag) : Sp := fun vs H Q _ => ∃ (a : Addr) (c : List Nat), vs = [.ref a] ∧ LI K H a (iN c) ∧ Ok c ∧ NewL H (Kv394.coefs c) Q
theorem ok_by_pow (B : Bl mg) (CN : Cal P w K mg base "number_by_power" ["row", "place"] 2 (spNumPow K)) (D : DefAt K mg "by_powers" s_by_powers ["row"]) : Cal P w K mg base "by_powers" ["row"] 3 (spByPow K) := by
  refine D.cal sc_by_powers (fun vs H Q E h => ?_) (fun f cdv A outer s H vs Q E hr h => ?_)
  · obtain ⟨a, c, rfl, _⟩ := h
    rfl
  · obtain ⟨a, c, rfl, hA, hc, q⟩ := h
    have hm := hc.most
    refine ⟨_, pss_one (ps_ret (pe_lc (own := [("place", 1)]) (g := gName 1) (by rfl) sc_by_powers.nd (pi_range1 rfl B.range (pa_cons (pe_lenV 0 B.len (by rfl) (pv 0)) pa_nil))
        (blkOk_by (own := [("place", 1)]) (N := n_by_powers) (sc := defScope s_by_powers) (by decide +kernel)) (fun _ _ _ _ _ => pg_name (i := 1) sc_by_powers.nd rfl (Or.inl rfl)) (fun _ _ _ _ _ => pts_nil)
        (fun _ _ _ _ _ => pe_callC CN hr (by rfl) (pa_cons (pv 0) (pa_cons (pv 1) pa_nil))))), ?_⟩
    refine ⟨_, rfl, a, iN c, rfl, hA, ((c.length : Nat) : Int), by rw [iN_len], by omega, by omega, ?_⟩
    rw [Int.toNat_natCast]
    intro l hl0
    have S0 : Same H (upd H l (.lst [])) := Same.upd_new (Same.refl H) hl0
    refine lc_range (lo := 0) (n := c.length) (fun i H' => Same H H' ∧ H' l = some (.lst (((Kv394.coefs c).take i).map V.int))) ⟨S0, ?_⟩ ?_ ?_
    · rw [upd_same]; rfl
    · rintro i H' hi ⟨S1, hq⟩
      refine ⟨rfl, ?_⟩
      rw [Int.zero_add]
      refine ⟨_, rfl, _, rfl, a, c, i, rfl, S1.seq hA, hc, hi, _, hq, ?_, Same.upd_own S1 hl0, ?_⟩
      · rw [List.length_map, List.length_take, coefs_len]
        exact small_lt (m := 100) (by omega)
      · rw [upd_same, map_app, ← coefs_turn c hi]
    · rintro H' ⟨S1, hq⟩
      refine q H' l S1 hl0 ?_
      rw [hq, List.take_of_length_le (by rw [coefs_len]; exact Nat.le_refl _)]
/-! ### is_always -/
def spAlways (K : PySem.W.Frag) : Sp := fun vs H Q _ => ∃ (a : Addr) (ns : List Int) (z : Int), vs = [.ref a, .int z] ∧ LI K H a ns ∧ 1 ≤ ns.length ∧ ns.length ≤ 1000 ∧ ∀ H', Same H H' → Q (.bl (decide (ns = z :: List.replicate (ns.length - 1) 0))) H'
theorem ok_always (B : Bl mg) (D : DefAt K mg "is_always" s_is_always ["numbers", "number"]) : Cal P w K mg base "is_always" ["numbers", "number"] 1 (spAlways K) := by
  refine D.cal sc_is_always (fun vs H Q E h => ?_) (fun f cdv A outer s H vs Q E hr h => ?_)
  · obtain ⟨a, ns, z, rfl, _⟩ := h
    rfl
  · obtain ⟨a, ns, z, rfl, hA, h1, h2, q⟩ := h
    refine ⟨_, pss_one (ps_ret (pe_cmpR (op_eqD hr.units) (pv 0) (pe_op op_cat (pe_lst (pa_cons (pv 1) pa_nil)) (pe_op op_rep (pe_lst (pa_cons pe_int pa_nil)) (pe_op op_sub (pe_lenV 0 B.len (by rfl) (pv 0)) pe_int))) (nomark _))), ?_⟩
    refine ⟨_, rfl, _, rfl, (by show 1 ≤ sizeLine; decide), fun l1 n1 => ?_⟩
    have S1 : Same H (upd H l1 (.lst [V.int z])) := Same.upd_new (Same.refl H) n1
    refine ⟨(by show 1 ≤ sizeLine; decide), fun l2 n2 => ?_⟩
    have S2 : Same _ (upd (upd H l1 (.lst [V.int z])) l2 (.lst [V.int 0])) := Same.upd_new (Same.refl _) n2
    have eN : ((ns.length : Int) - 1).toNat = ns.length - 1 := by omega
    refine ⟨_, rfl, a, ns, rfl, (S1.trans S2).seq hA, _, _, rfl, rfl, l2, _, [V.int 0], rfl, rfl, upd_same, by omega, by omega, ?_, fun l3 n3 => ?_⟩
    · rw [eN]
      exact small_of (m := 3000) (by simp; omega)
    rw [eN, rep_zero]
    have S3 : Same _ (upd (upd (upd H l1 (.lst [V.int z])) l2 (.lst [V.int 0])) l3 (.lst ((List.replicate (ns.length - 1) (0 : Int)).map V.int))) := Same.upd_new (Same.refl _) n3
    refine ⟨l1, l3, [V.int z], (List.replicate (ns.length - 1) (0 : Int)).map V.int, rfl, rfl, S3 _ _ (S2 _ _ upd_same), upd_same, ?_, fun l4 n4 => ?_⟩
    · rw [List.length_map, List.length_replicate]
      exact small_of (m := 3000) (by simp; omega)
    have S4 : Same _ (upd (upd (upd (upd H l1 (.lst [V.int z])) l2 (.lst [V.int 0])) l3 (.lst ((List.replicate (ns.length - 1) (0 : Int)).map V.int))) l4 (.lst ([V.int z] ++ (List.replicate (ns.length - 1) (0 : Int)).map V.int))) := Same.upd_new (Same.refl _) n4
    have S := ((S1.trans S2).trans S3).trans S4
    refine ⟨_, _, Dp.lst (S.seq hA) (dp_ints _), Dp.lst (xs := (z :: List.replicate (ns.length - 1) (0 : Int)).map V.int) (SqL.of upd_same) (dp_ints _), shaped_ints _, shaped_ints _, ?_⟩
    rw [eqv_ints]
    exact q _ S
/-! ### can_never_be -/
def spNever (K : PySem.W.Frag) : Sp := fun vs H Q _ => ∃ (r : Addr) (p : List Int) (a b : Nat), vs = [.ref r, .int a, .int b] ∧ LI K H r p ∧ Kv394.okPoly p = true ∧ a ≤ 20 ∧ 2 ≤ b ∧ b ≤ 20 ∧ ∀ H', Same H H' → Q (.bl (Kv394.never p a b)) H'
theorem ok_never (B : Bl mg) (CW : Cal P w K mg base "weighed" ["numbers", "one", "other"] 2 (spWeighed K)) (CP : Cal P w K mg base "power" ["base", "times"] 1 spPower) (CA : Cal P w K mg base "is_always" ["numbers", "number"] 1 (spAlways K)) (D : DefAt K mg "can_never_be" s_can_never_be ["numbers", "a", "b"]) : Cal P w K mg base "can_never_be" ["numbers", "a", "b"] 3 (spNever K) := by
  refine D.cal sc_can_never_be (fun vs H Q E h => ?_) (fun f cdv A outer s H vs Q E hr h => ?_)
  · obtain ⟨r, p, a, b, rfl, _⟩ := h
    rfl
  · obtain ⟨r, p, a, b, rfl, hA, hp, ha, hb2, hb, q⟩ := h
    have hr1 : Room 1 _ := hr.mono (by decide)
    obtain ⟨⟨p1, p7⟩, hbd⟩ := okPoly_iff.mp hp
    refine ⟨_, pss_cons (ps_set (i := 3) sc_can_never_be.nd rfl (Or.inl rfl) (pe_callC CW hr (by rfl) (pa_cons (pv 0) (pa_cons (pv 1) (pa_cons (pv 2) pa_nil)))))
      (pss_cons (ps_set (i := 4) sc_can_never_be.nd rfl (Or.inl rfl) (pe_callC CP hr1 (by rfl) (pa_cons (pv 2) (pa_cons (pe_op op_sub (pe_lenV 0 B.len (by rfl) (pv 0)) pe_int) pa_nil))))
      (pss_cons (ps_if (PW.pt (pw_or (pt_cmpR op_lt (pv 3) pe_int (nomark _)) (pw_or1 (pt_cmpR op_gt (pv 3) (pv 4) (nomark _))))) (pss_one (ps_ret pe_bl)) pss_nil)
      (pss_cons (ps_if (pt_cmpR op_eq (pv 3) pe_int (nomark _)) (pss_one (ps_ret (pe_not (pe_callC CA hr1 (by rfl) (pa_cons (pv 0) (pa_cons pe_int pa_nil)))))) pss_nil)
      (pss_cons (ps_if (pt_cmpR op_eq (pv 3) (pv 4) (nomark _)) (pss_one (ps_ret (pe_not (pe_callC CA hr1 (by rfl) (pa_cons (pv 0) (pa_cons pe_int pa_nil)))))) pss_nil)
      (pss_one (ps_ret pe_bl)))))), ?_⟩
    refine ⟨_, rfl, _, rfl, _, rfl, r, p, a, b, rfl, hA, p1, by omega, fun i => ?_, ha, hb, ?_⟩
    · by_cases z : i < p.length
      · have := hbd _ (List.mem_of_getElem? (get?_of (0 : Int) z))
        omega
      · rw [getD_out (by omega)]
        omega
    rw [wT_value]
    rw [never_eq p1 hb2] at q
    refine ⟨_, rfl, _, rfl, r, p, rfl, hA, _, _, rfl, rfl, b, p.length - 1, ?_, by omega, by omega, ?_⟩
    · show [V.int (b : Int), V.int ((p.length : Int) - 1)] = _
      rw [show ((p.length : Int) - 1) = ((p.length - 1 : Nat) : Int) by omega]
    refine ⟨_, rfl, _, _, rfl, rfl, _, rfl, ?_⟩
    refine ite2 (fun c0 => ?_) (fun c0 => ?_)
    · have c1 : Kv394.value p a b < 0 := of_decide_eq_true c0
      rw [if_pos (.inl c1)] at q
      exact q H (Same.refl H)
    have c1 : ¬ Kv394.value p a b < 0 := fun z => c0 (decide_eq_true z)
    refine ⟨_, rfl, _, rfl, _, _, rfl, rfl, _, rfl, ?_⟩
    refine ite2 (fun c2 => ?_) (fun c2 => ?_)
    · have c3 : ((b ^ (p.length - 1) : Nat) : Int) < Kv394.value p a b := of_decide_eq_true c2
      rw [if_pos (.inr c3)] at q
      exact q H (Same.refl H)
    have c3 : ¬ ((b ^ (p.length - 1) : Nat) : Int) < Kv394.value p a b := fun z => c2 (decide_eq_true z)
    rw [if_neg (fun z => z.elim c1 c3)] at q
    refine ⟨_, rfl, rfl, _, rfl, ?_⟩
    refine ite2 (fun c4 => ?_) (fun c4 => ?_)
    · have c5 : Kv394.value p a b = 0 := V.int.inj (of_decide_eq_true c4)
      rw [if_pos c5] at q
      exact ⟨_, rfl, r, p, 0, rfl, hA, p1, by omega, fun H' S => ⟨_, rfl, q H' S⟩⟩
    have c5 : ¬ Kv394.value p a b = 0 := fun z => c4 (decide_eq_true (congrArg V.int z))
    rw [if_neg c5] at q
    refine ⟨_, rfl, _, rfl, rfl, _, rfl, ?_⟩
    refine ite2 (fun c6 => ?_) (fun c6 => ?_)
    · have c7 : Kv394.value p a b = ((b ^ (p.length - 1) : Nat) : Int) := V.int.inj (of_decide_eq_true c6)
      rw [if_pos c7] at q
      exact ⟨_, rfl, r, p, 1, rfl, hA, p1, by omega, fun H' S => ⟨_, rfl, q H' S⟩⟩
    have c7 : ¬ Kv394.value p a b = ((b ^ (p.length - 1) : Nat) : Int) := fun z => c6 (decide_eq_true (congrArg V.int z))
    rw [if_neg c7] at q
    exact q H (Same.refl H)
end
end Mc

end
section
set_option Elab.async false
set_option linter.all false
set_option maxRecDepth 100000
set_option maxHeartbeats 4000000
/-! Rows of tosses. -/
namespace Mc
open PySem PySem.Spec PyProof.Rows L2
open Kv394 (choose tosses)
theorem nats_len (ns : List Int) : (ns.map Int.toNat).length = ns.length := List.length_map ..
theorem nats_co (ns : List Int) (j : Nat) : co (ns.map Int.toNat) j = (ns.getD j 0).toNat := by
  show (ns.map Int.toNat).getD j 0 = _
  rw [List.getD_eq_getElem?_getD, List.getD_eq_getElem?_getD, List.getElem?_map]
  cases ns[j]? <;> rfl
theorem nats_drop {ns : List Int} {i : Nat} (h : i < ns.length) : (ns.map Int.toNat).drop i = (ns.getD i 0).toNat :: (ns.map Int.toNat).drop (i + 1) := by
  rw [List.drop_eq_getElem_cons (by rw [nats_len]; exact h), List.getElem_map]
  congr 1
  rw [getD_in (List.getElem?_eq_getElem h)]
section
variable {P : Program} {w : World} {K : PySem.W.Frag} {mg : Str → Option Value} {base : Heap}
theorem at_list {ns : List Int} {i : Nat} {x : V} (hx : (ns.map V.int)[i]? = some x) : i < ns.length ∧ x = .int (ns.getD i 0) := by
  rw [List.getElem?_map] at hx
  have hi : i < ns.length := by
    by_cases z : i < ns.length
    · exact z
    · rw [List.getElem?_eq_none (by omega)] at hx
      cases hx
  rw [get?_of 0 hi] at hx
  exact ⟨hi, (Option.some.inj hx).symm⟩
/-! ### are_tosses -/
def spAreT (K : PySem.W.Frag) : Sp := fun vs H Q _ => ∃ (a : Addr) (ns : List Int), vs = [.ref a] ∧ LI K H a ns ∧ (∀ x ∈ ns, 0 ≤ x) ∧ Q (.bl (!(ns.map Int.toNat).any fun x => decide (1 < x))) H
theorem ok_areT (D : DefAt K mg "are_tosses" s_are_tosses ["tossed"]) : Cal P w K mg base "are_tosses" ["tossed"] 1 (spAreT K) := by
  refine D.cal sc_are_tosses (fun vs H Q E h => ?_) (fun f cdv A outer s H vs Q E hr h => ?_)
  · obtain ⟨a, ns, rfl, _⟩ := h
    rfl
  · obtain ⟨a, ns, rfl, hA, hp, q⟩ := h
    refine ⟨_, pss_cons (ps_for PassesOwn.never rfl (pi_list (pv 0)) (pg_name (i := 1) sc_are_tosses.nd rfl (Or.inl rfl))
        (pss_one (ps_if (pt_cmpR op_gt (pv 1) pe_int (nomark _)) (pss_one (ps_ret pe_bl)) pss_nil)))
      (pss_one (ps_ret pe_bl)), ?_⟩
    refine ⟨_, rfl, a, rfl, ⟨_, hA⟩, for_list (K := K) (a := a) (xs := ns.map V.int) (fun i σ H' => ∃ v : Option V, σ = [some (.ref a), v] ∧ H' = H ∧ ∀ j, j < i → ns.getD j 0 ≤ 1) ⟨none, rfl, rfl, fun j hj => absurd hj (by omega)⟩ (fun i σ H' _ ⟨_, _, e, _⟩ => by rw [e]; exact hA) ?_ ?_⟩
    · rintro i x σ H' hx ⟨v, rfl, rfl, ih⟩
      obtain ⟨hi, rfl⟩ := at_list hx
      refine ⟨_, rfl, _, _, rfl, rfl, _, rfl, ?_⟩
      refine ite2 (fun d0 => ?_) (fun d0 => ?_)
      · have d1 : 1 < ns.getD i 0 := of_decide_eq_true d0
        have e : ((ns.map Int.toNat).any fun x => decide (1 < x)) = true := by
          rw [List.any_eq_true]
          refine ⟨(ns.getD i 0).toNat, List.mem_map.mpr ⟨_, List.mem_of_getElem? (get?_of (0 : Int) hi), rfl⟩, decide_eq_true (by omega)⟩
        rw [e] at q
        exact q
      · have d1 : ¬ 1 < ns.getD i 0 := fun z => d0 (decide_eq_true z)
        refine ⟨_, rfl, rfl, fun j hj => ?_⟩
        by_cases e : j = i
        · subst e; omega
        · exact ih j (by omega)
    · rintro σ H' ⟨v, rfl, rfl, ih⟩
      have e : ((ns.map Int.toNat).any fun x => decide (1 < x)) = false := any_gt.mpr fun x hx => by
        obtain ⟨y, hy, rfl⟩ := List.mem_map.mp hx
        obtain ⟨j, hj, e⟩ := List.getElem_of_mem hy
        have := ih j (by rw [List.length_map]; exact hj)
        rw [getD_in (List.getElem?_eq_getElem hj), e] at this
        omega
      rw [e] at q
      exact q
/-! ### how_many_ahead -/
def spAhead (K : PySem.W.Frag) : Sp := fun vs H Q _ => ∃ (a : Addr) (ns : List Int), vs = [.ref a] ∧ LI K H a ns ∧ (∀ x ∈ ns, 0 ≤ x ∧ x ≤ 1) ∧ ns.length ≤ 10 ∧ Q (.int (Kv394.rank (ns.map Int.toNat) : Nat)) H
theorem bits_isT {ns : List Int} (h : ∀ x ∈ ns, 0 ≤ x ∧ x ≤ 1) (i : Nat) : isT ((ns.map Int.toNat).drop i) := fun x hx => by
  obtain ⟨y, hy, rfl⟩ := List.mem_map.mp (List.mem_of_mem_drop hx)
  have := h y hy
  omega
theorem ok_ahead (B : Bl mg) (CC : Cal P w K mg base "choose" ["n", "k"] 1 spChoose) (D : DefAt K mg "how_many_ahead" s_how_many_ahead ["tossed"]) : Cal P w K mg base "how_many_ahead" ["tossed"] 2 (spAhead K) := by
  refine D.cal sc_how_many_ahead (fun vs H Q E h => ?_) (fun f cdv A outer s H vs Q E hr h => ?_)
  · obtain ⟨a, ns, rfl, _⟩ := h
    rfl
  · obtain ⟨a, ns, rfl, hA, hp, hl, q⟩ := h
    refine ⟨_, pss_cons (ps_set (i := 1) sc_how_many_ahead.nd rfl (Or.inl rfl) pe_int)
      (pss_cons (ps_set (i := 2) sc_how_many_ahead.nd rfl (Or.inl rfl) (pe_callB (cr_sum rfl) (by rfl) B.sum (by decide +kernel) (pa_cons (pv 0) pa_nil)))
      (pss_cons (ps_set (i := 3) sc_how_many_ahead.nd rfl (Or.inl rfl) (pe_lenV 0 B.len (by rfl) (pv 0)))
      (pss_cons (ps_for PassesOwn.never rfl (pi_list (pv 0)) (pg_name (i := 4) sc_how_many_ahead.nd rfl (Or.inl rfl))
        (pss_cons (ps_set (i := 3) sc_how_many_ahead.nd rfl (Or.inl rfl) (pe_op op_sub (pv 3) pe_int))
        (pss_one (ps_if (pt_cmpR op_eq (pv 4) pe_int (nomark _)) (pss_one (ps_set (i := 2) sc_how_many_ahead.nd rfl (Or.inl rfl) (pe_op op_sub (pv 2) pe_int)))
          (pss_one (ps_if (pt_cmpR op_gt (pv 2) pe_int (nomark _)) (pss_one (ps_set (i := 1) sc_how_many_ahead.nd rfl (Or.inl rfl) (pe_op op_add (pv 1) (pe_callC CC hr (by rfl) (pa_cons (pv 3) (pa_cons (pe_op op_sub (pv 2) pe_int) pa_nil)))))) pss_nil))))))
      (pss_one (ps_ret (pv 1)))))), ?_⟩
    refine ⟨_, rfl, a, ns, rfl, hA, ?_⟩
    refine ⟨_, rfl, a, ns, rfl, hA, ?_⟩
    refine ⟨_, rfl, a, rfl, ⟨_, hA⟩, for_list (K := K) (a := a) (xs := ns.map V.int) (fun i σ H' => ∃ (v : Option V) (m : Nat), σ = [some (.ref a), some (.int m), some (.int (((ns.map Int.toNat).drop i).sum : Nat)), some (.int ((ns.length : Int) - (i : Int))), v] ∧ H' = H ∧ m + Kv394.rank ((ns.map Int.toNat).drop i) = Kv394.rank (ns.map Int.toNat)) ⟨none, 0, ?_, rfl, ?_⟩ (fun i σ H' _ ⟨_, _, _, e, _⟩ => by rw [e]; exact hA) ?_ ?_⟩
    · rw [List.drop_zero, ← sum_toNat (fun x hx => (hp x hx).1)]
      exact congrArg (fun z => [some (V.ref a), some (V.int 0), some (V.int ns.sum), some (V.int z), none]) (by simp)
    · rw [List.drop_zero, Nat.zero_add]
    · rintro i x σ H' hx ⟨v, m, rfl, rfl, ih⟩
      obtain ⟨hi, rfl⟩ := at_list hx
      have hxi := hp _ (List.mem_of_getElem? (get?_of (0 : Int) hi))
      have dl : ((ns.map Int.toNat).drop (i + 1)).length = ns.length - (i + 1) := by rw [List.length_drop, nats_len]
      have ds := sum_le_len (bits_isT hp (i + 1))
      have eb : (ns.length : Int) - (i : Int) - 1 = (ns.length : Int) - ((i + 1 : Nat) : Int) := by omega
      rw [nats_drop hi] at ih
      refine ⟨_, rfl, _, _, rfl, rfl, ?_⟩
      refine ⟨_, rfl, rfl, _, rfl, ?_⟩
      rw [nats_drop hi]
      refine ite2 (fun c0 => ?_) (fun c0 => ?_)
      · have c1 : ns.getD i 0 = 1 := V.int.inj (of_decide_eq_true c0)
        rw [c1] at ih
        rw [c1]
        have e1 : (1 : Int).toNat = 1 := rfl
        rw [e1, rank_one] at ih
        refine ⟨_, rfl, _, _, rfl, rfl, some (.int 1), m, ?_, rfl, ih⟩
        have es : (((1 : Int).toNat :: (ns.map Int.toNat).drop (i + 1)).sum : Int) - 1 = (((ns.map Int.toNat).drop (i + 1)).sum : Nat) := by
          rw [List.sum_cons, e1]; omega
        exact congr (congrArg (fun z z' => [some (V.ref a), some (V.int m), some (V.int z), some (V.int z'), some (V.int 1)]) es) eb
      · have c1 : ¬ ns.getD i 0 = 1 := fun z => c0 (decide_eq_true (congrArg V.int z))
        have c2 : ns.getD i 0 = 0 := by omega
        rw [c2] at ih
        rw [c2]
        have e0 : (0 : Int).toNat = 0 := rfl
        rw [e0, rank_zero] at ih
        have es : (((0 : Int).toNat :: (ns.map Int.toNat).drop (i + 1)).sum : Int) = (((ns.map Int.toNat).drop (i + 1)).sum : Nat) := by
          rw [List.sum_cons, e0]; omega
        refine ⟨_, rfl, _, _, rfl, rfl, _, rfl, ?_⟩
        refine ite2 (fun c3 => ?_) (fun c3 => ?_)
        · have c4 : (0 : Int) < (((0 : Int).toNat :: (ns.map Int.toNat).drop (i + 1)).sum : Nat) := of_decide_eq_true c3
          rw [es] at c4
          rw [if_pos (by omega)] at ih
          refine ⟨_, rfl, _, rfl, _, rfl, _, _, rfl, rfl, ns.length - (i + 1), ((ns.map Int.toNat).drop (i + 1)).sum - 1, ?_, by omega, by omega, _, _, rfl, rfl, some (.int 0), m + Kv394.choose (ns.length - (i + 1)) (((ns.map Int.toNat).drop (i + 1)).sum - 1), ?_, rfl, ?_⟩
          · show [V.int ((ns.length : Int) - (i : Int) - 1), V.int ((((0 : Int).toNat :: (ns.map Int.toNat).drop (i + 1)).sum : Nat) - 1)] = _
            rw [es, show (ns.length : Int) - (i : Int) - 1 = ((ns.length - (i + 1) : Nat) : Int) by omega, show ((((ns.map Int.toNat).drop (i + 1)).sum : Nat) : Int) - 1 = ((((ns.map Int.toNat).drop (i + 1)).sum - 1 : Nat) : Int) by omega]
          · rw [Int.natCast_add]
            exact congr (congrArg (fun z z' => [some (V.ref a), some (V.int ((m : Int) + (choose (ns.length - (i + 1)) (((ns.map Int.toNat).drop (i + 1)).sum - 1) : Int))), some (V.int z), some (V.int z'), some (V.int 0)]) es) eb
          · rw [dl] at ih
            omega
        · have c4 : ¬ (0 : Int) < (((0 : Int).toNat :: (ns.map Int.toNat).drop (i + 1)).sum : Nat) := fun z => c3 (decide_eq_true z)
          rw [es] at c4
          rw [if_neg (by omega)] at ih
          refine ⟨some (.int 0), m, ?_, rfl, by omega⟩
          exact congr (congrArg (fun z z' => [some (V.ref a), some (V.int m), some (V.int z), some (V.int z'), some (V.int 0)]) es) eb
    · rintro σ H' ⟨v, m, rfl, rfl, ih⟩
      rw [List.length_map, List.drop_of_length_le (by rw [nats_len]; exact Nat.le_refl _)] at ih
      have e : m = Kv394.rank (ns.map Int.toNat) := ih
      rw [← e] at q
      exact ⟨_, rfl, q⟩
/-! ### says_yes -/
def spSays (K : PySem.W.Frag) : Sp := fun vs H Q _ => ∃ (r a : Addr) (c : List Nat) (ns : List Int), vs = [.ref r, .ref a] ∧ LI K H r (iN c) ∧ LI K H a ns ∧ (∀ x ∈ ns, 0 ≤ x ∧ x ≤ 1) ∧ Ok c ∧ ns.length = tosses c ∧ Q (.bl (decide (Kv394.rank (ns.map Int.toNat) < co c (ns.map Int.toNat).sum))) H
theorem ok_says_yes (B : Bl mg) (CH : Cal P w K mg base "how_many_ahead" ["tossed"] 2 (spAhead K)) (D : DefAt K mg "says_yes" s_says_yes ["row", "tossed"]) : Cal P w K mg base "says_yes" ["row", "tossed"] 3 (spSays K) := by
  refine D.cal sc_says_yes (fun vs H Q E h => ?_) (fun f cdv A outer s H vs Q E hr h => ?_)
  · obtain ⟨r, a, c, ns, rfl, _⟩ := h
    rfl
  · obtain ⟨r, a, c, ns, rfl, hR, hA, hp, hc, hl, q⟩ := h
    refine ⟨_, pss_one (ps_ret (pe_cmpR op_lt (pe_callC CH hr (by rfl) (pa_cons (pv 1) pa_nil)) (pe_ix ix_I (pv 0) (pe_callB (cr_sum rfl) (by rfl) B.sum (by decide +kernel) (pa_cons (pv 1) pa_nil)) (fun _ _ => rfl)) (nomark _))), ?_⟩
    have ht := len_tosses hc.pos
    have hm := hc.most
    have ds := sum_le_len (bits_isT hp 0)
    rw [List.drop_zero, nats_len] at ds
    refine ⟨_, rfl, a, ns, rfl, hA, hp, by omega, ?_⟩
    refine ⟨_, rfl, _, rfl, a, ns, rfl, hA, r, iN c, _, (ns.map Int.toNat).sum, rfl, rfl, hR, sum_toNat (fun x hx => (hp x hx).1), by rw [iN_len]; omega, _, _, rfl, rfl, ?_⟩
    rw [iN_getD]
    have e : decide ((Kv394.rank (ns.map Int.toNat) : Int) < (co c (ns.map Int.toNat).sum : Int)) = decide (Kv394.rank (ns.map Int.toNat) < co c (ns.map Int.toNat).sum) := by
      apply decide_eq_decide.mpr
      omega
    rw [← e] at q
    exact q
/-! ### first_unlike_pair -/
def spUnlike (K : PySem.W.Frag) : Sp := fun vs H Q _ => ∃ (a : Addr) (ns : List Int), vs = [.ref a] ∧ LI K H a ns ∧ (∀ x ∈ ns, 0 ≤ x) ∧ ns.length ≤ 1000 ∧
  (Kv394.fair 0 (ns.map Int.toNat) = none → Q .non H) ∧ ∀ j : Nat, j + 1 < ns.length → Kv394.fair 0 (ns.map Int.toNat) = some (co (ns.map Int.toNat) j, j + 2) → Q (.int j) H
theorem rg_two {n : Nat} (h : n ≤ 1000) : RgC 0 ((n : Int) - 1) 2 (n / 2) := by
  have e : Builtin.Range.rangeSize 0 ((n : Int) - 1) 2 = ((n / 2 : Nat) : Int) := by
    unfold Builtin.Range.rangeSize
    rw [if_pos (by decide)]
    split <;> omega
  refine ⟨by decide, by decide, ?_, e⟩
  unfold Builtin.Range.small
  rw [e]
  have f : ∀ z : Int, -2000 ≤ z → z ≤ 2000 → Builtin.Range.rangeFitsLong z = true := fun z h1 h2 => by
    unfold Builtin.Range.rangeFitsLong
    simp
    omega
  rw [f 0 (by omega) (by omega), f _ (show -2000 ≤ (n : Int) - 1 by omega) (by omega), f 2 (by omega) (by omega), f _ (show -2000 ≤ ((n / 2 : Nat) : Int) by omega) (by omega), if_pos (by decide), f _ (show -2000 ≤ (n : Int) - 1 + (2 - 1) by omega) (by omega)]
  simp
theorem ok_unlike (B : Bl mg) (D : DefAt K mg "first_unlike_pair" s_first_unlike_pair ["tossed"]) : Cal P w K mg base "first_unlike_pair" ["tossed"] 1 (spUnlike K) := by
  refine D.cal sc_first_unlike_pair (fun vs H Q E h => ?_) (fun f cdv A outer s H vs Q E hr h => ?_)
  · obtain ⟨a, ns, rfl, _⟩ := h
    rfl
  · obtain ⟨a, ns, rfl, hA, hp, hl, qN, qS⟩ := h
    refine ⟨_, pss_cons (ps_for PassesOwn.never rfl (pi_range3 (by rfl) B.range (pa_cons pe_int (pa_cons (pe_op op_sub (pe_lenV 0 B.len (by rfl) (pv 0)) pe_int) (pa_cons pe_int pa_nil)))) (pg_name (i := 1) sc_first_unlike_pair.nd rfl (Or.inl rfl))
        (pss_one (ps_if (pt_cmpR op_ne (pe_ix ix_I (pv 0) (pv 1) (fun _ _ => rfl)) (pe_ix ix_I (pv 0) (pe_op op_add (pv 1) pe_int) (fun _ _ => rfl)) (nomark _)) (pss_one (ps_ret (pv 1))) pss_nil)))
      (pss_one (ps_ret pe_non)), ?_⟩
    refine ⟨_, rfl, a, ns, rfl, hA, _, _, rfl, rfl, 0, (ns.length : Int) - 1, 2, ns.length / 2, rfl, rg_two hl, ?_⟩
    refine for_rangeC (lo := 0) (c := 2) (n := ns.length / 2) (fun i σ H' => ∃ v : Option V, σ = [some (.ref a), v] ∧ H' = H ∧ Kv394.fair 0 (ns.map Int.toNat) = Kv394.fair (i * 2) ((ns.map Int.toNat).drop (i * 2))) ⟨none, rfl, rfl, rfl⟩ ?_ ?_
    · rintro i σ H' hi ⟨v, rfl, rfl, ih⟩
      have ez : (0 : Int) + (i : Int) * 2 = ((i * 2 : Nat) : Int) := by omega
      rw [ez]
      have hj : i * 2 + 1 < ns.length := by omega
      have ft := fair_turn (l := ns.map Int.toNat) (k := i * 2) (j := i * 2) (by rw [nats_len]; exact hj)
      rw [← ih, nats_co, nats_co] at ft
      have p1 := hp _ (List.mem_of_getElem? (get?_of (0 : Int) (show i * 2 < ns.length by omega)))
      have p2 := hp _ (List.mem_of_getElem? (get?_of (0 : Int) hj))
      refine ⟨_, rfl, _, rfl, a, ns, _, i * 2, rfl, rfl, hA, rfl, by omega, _, rfl, _, rfl, _, _, rfl, rfl, a, ns, _, i * 2 + 1, rfl, rfl, hA, by push_cast; rfl, hj, rfl, _, rfl, ?_⟩
      refine ite2 (fun c0 => ?_) (fun c0 => ?_)
      · have c1 := dec_ne.mp c0
        rw [if_neg (by omega), ← nats_co] at ft
        exact ⟨_, rfl, qS _ hj ft⟩
      · have c1 : ns.getD (i * 2) 0 = ns.getD (i * 2 + 1) 0 := by
          by_cases z : ns.getD (i * 2) 0 = ns.getD (i * 2 + 1) 0
          · exact z
          · exact absurd (dec_ne.mpr z) c0
        rw [if_pos (by rw [c1])] at ft
        refine ⟨some (.int ((i * 2 : Nat) : Int)), rfl, rfl, ?_⟩
        rw [ft, show (i + 1) * 2 = i * 2 + 2 by omega]
    · rintro σ H' ⟨v, rfl, rfl, ih⟩
      exact qN (ih.trans (fair_short _ (by rw [List.length_drop, nats_len]; omega)))
end
end Mc

end
section
set_option Elab.async false
set_option linter.all false
set_option maxRecDepth 100000
set_option maxHeartbeats 4000000
/-! The holder: what stands at its address, and its methods. -/
namespace Mc
open PySem PySem.Spec PyProof.Rows L2
open Kv394 (choose tosses)
/-! ### fields -/
theorem putF_eq {f : Str} {v x : V} {r : List (Str × V)} : putF f v ((f, x) :: r) = (f, v) :: r := if_pos rfl
theorem putF_ne {f g : Str} {v x : V} {r : List (Str × V)} (h : ¬ g = f) : putF f v ((g, x) :: r) = (g, x) :: putF f v r := if_neg h
theorem look_eq {f : Str} {x : V} {r : List (Str × V)} : List.lookup f ((f, x) :: r) = some x := by
  have hb : (f == f) = true := beq_iff_eq.mpr rfl
  simp only [List.lookup, hb]
theorem look_ne {f g : Str} {x : V} {r : List (Str × V)} (h : ¬ f = g) : List.lookup f ((g, x) :: r) = List.lookup f r := by
  have hb : (f == g) = false := beq_eq_false_iff_ne.mpr h
  simp only [List.lookup, hb]
def hf (b : Bool) (r p : Addr) : List (Str × V) := [("begun", .bl b), ("rows", .ref r), ("past", .ref p)]
theorem hf_begun (b : Bool) (r p : Addr) : (hf b r p).lookup ("begun" : Str) = some (.bl b) := look_eq
theorem hf_rows (b : Bool) (r p : Addr) : (hf b r p).lookup ("rows" : Str) = some (.ref r) := (look_ne (by decide +kernel)).trans look_eq
theorem hf_past (b : Bool) (r p : Addr) : (hf b r p).lookup ("past" : Str) = some (.ref p) := (look_ne (by decide +kernel)).trans ((look_ne (by decide +kernel)).trans look_eq)
theorem hf_no (b : Bool) (r p : Addr) {m : Str} (h1 : ¬ m = "begun") (h2 : ¬ m = "rows") (h3 : ¬ m = "past") : (hf b r p).lookup m = none := (look_ne h1).trans ((look_ne h2).trans ((look_ne h3).trans rfl))
theorem hf_put_begun (b b' : Bool) (r p : Addr) : putF "begun" (.bl b') (hf b r p) = hf b' r p := putF_eq
theorem hf_put_rows (b : Bool) (r r' p : Addr) : putF "rows" (.ref r') (hf b r p) = hf b r' p := (putF_ne (by decide +kernel)).trans (congrArg _ putF_eq)
theorem hf_put_past (b : Bool) (r p p' : Addr) : putF "past" (.ref p') (hf b r p) = hf b r p' := (putF_ne (by decide +kernel)).trans (congrArg _ ((putF_ne (by decide +kernel)).trans (congrArg _ putF_eq)))
theorem hf_two (b : Bool) (r : Addr) : (putF "rows" (.ref r) (putF "begun" (.bl b) [])).length < 1000 := by
  have e1 : putF "rows" (.ref r) (putF "begun" (.bl b) []) = ([("begun", V.bl b), ("rows", V.ref r)] : List (Str × V)) := putF_ne (by decide +kernel)
  rw [e1]
  show 2 < 1000
  decide
theorem hf_new (b : Bool) (r p : Addr) : putF "past" (.ref p) (putF "rows" (.ref r) (putF "begun" (.bl b) [])) = hf b r p := by
  have e1 : putF "rows" (.ref r) (putF "begun" (.bl b) []) = ([("begun", V.bl b), ("rows", V.ref r)] : List (Str × V)) := putF_ne (by decide +kernel)
  rw [e1]
  exact (putF_ne (by decide +kernel)).trans (congrArg _ (putF_ne (by decide +kernel)))
/-! ### coins, lists of coins, the holder -/
/-- the list at a holds the coins cs; it and their rows stand where N lets them (N: what no other code changes) -/
def Coins (N : Addr → Prop) (H : Hp) (a : Addr) (cs : List (List Nat)) : Prop := ∃ as : List Addr, H a = some (.lst (as.map V.ref)) ∧ as.length = cs.length ∧ (N a ∧ ∀ x ∈ as, N x) ∧ ∀ (i : Nat) (x : Addr), as[i]? = some x → H x = some (.lst ((iN (cs.getD i [])).map V.int))
/-- the list at a holds such lists -/
def Pasts (N : Addr → Prop) (H : Hp) (a : Addr) (ps : List (List (List Nat))) : Prop := ∃ as : List Addr, H a = some (.lst (as.map V.ref)) ∧ as.length = ps.length ∧ N a ∧ ∀ (i : Nat) (x : Addr), as[i]? = some x → Coins N H x (ps.getD i [])
def HoldAt (N : Addr → Prop) (C : Addr) (H : Hp) (h : Addr) (b : Bool) (cs : List (List Nat)) (ps : List (List (List Nat))) : Prop := ∃ dx r p, H h = some (.ins C dx (hf b r p)) ∧ Coins N H r cs ∧ Pasts N H p ps
/-- what is not there yet, N lets be -/
def Fr (N : Addr → Prop) (H : Hp) : Prop := ∀ b, H b = none → N b
theorem Fr.same {N : Addr → Prop} {H H' : Hp} (f : Fr N H) (s : Same H H') : Fr N H' := fun b e => f b (s.free e)
/-- all but h stands as it stood -/
def Kp (h : Addr) (H H' : Hp) : Prop := ∀ b o, H b = some o → b ≠ h → H' b = some o
theorem Kp.of {h : Addr} {H H' : Hp} (s : Same H H') : Kp h H H' := fun b o e _ => s b o e
theorem Kp.trans {h : Addr} {H H1 H2 : Hp} (a : Kp h H H1) (b : Kp h H1 H2) : Kp h H H2 := fun c o e n => b c o (a c o e n) n
theorem Kp.lst {h C dx : Addr} {fs : List (Str × V)} {H H' : Hp} (hh : H h = some (.ins C dx fs)) (k : Kp h H H') {a : Addr} {xs : List V} (e : H a = some (.lst xs)) : H' a = some (.lst xs) :=
  k a _ e (ne_of e hh (by intro z; cases z))
theorem Kp.seq {K : PySem.W.Frag} {h C dx : Addr} {fs : List (Str × V)} {H H' : Hp} (hh : H h = some (.ins C dx fs)) (k : Kp h H H') {a : Addr} {xs : List V} (q : SqL K H a xs) : SqL K H' a xs := by
  rcases q with (q | ⟨o, q⟩) | q
  · exact .inl (.inl (k.lst hh q))
  · exact .inl (.inr ⟨o, k a _ q (ne_of q hh (by intro z; cases z))⟩)
  · exact .inr q
theorem Coins.kp {h C dx : Addr} {fs : List (Str × V)} {H H' : Hp} (hh : H h = some (.ins C dx fs)) (k : Kp h H H') {N : Addr → Prop} {a : Addr} {cs : List (List Nat)} (c : Coins N H a cs) : Coins N H' a cs := by
  obtain ⟨as, e, l, n, i⟩ := c
  exact ⟨as, k.lst hh e, l, n, fun j x hx => k.lst hh (i j x hx)⟩
theorem Pasts.kp {h C dx : Addr} {fs : List (Str × V)} {H H' : Hp} (hh : H h = some (.ins C dx fs)) (k : Kp h H H') {N : Addr → Prop} {a : Addr} {ps : List (List (List Nat))} (c : Pasts N H a ps) : Pasts N H' a ps := by
  obtain ⟨as, e, l, n, i⟩ := c
  exact ⟨as, k.lst hh e, l, n, fun j x hx => (i j x hx).kp hh k⟩
theorem Coins.same {N : Addr → Prop} {H H' : Hp} (s : Same H H') {a : Addr} {cs : List (List Nat)} (c : Coins N H a cs) : Coins N H' a cs := by
  obtain ⟨as, e, l, n, i⟩ := c
  exact ⟨as, s _ _ e, l, n, fun j x hx => s _ _ (i j x hx)⟩
theorem Pasts.same {N : Addr → Prop} {H H' : Hp} (s : Same H H') {a : Addr} {ps : List (List (List Nat))} (c : Pasts N H a ps) : Pasts N H' a ps := by
  obtain ⟨as, e, l, n, i⟩ := c
  exact ⟨as, s _ _ e, l, n, fun j x hx => (i j x hx).same s⟩
/-- a change where N lets nothing be is none of the holder's -/
theorem Coins.off {N : Addr → Prop} {H : Hp} {g : Addr} {o : HO} (hg : ¬ N g) {a : Addr} {cs : List (List Nat)} (c : Coins N H a cs) : Coins N (upd H g o) a cs := by
  obtain ⟨as, e, l, n, i⟩ := c
  have ne : ∀ {b : Addr}, N b → b ≠ g := fun hb z => hg (z ▸ hb)
  exact ⟨as, by rw [upd_ne (ne n.1)]; exact e, l, n, fun j x hx => by rw [upd_ne (ne (n.2 x (List.mem_of_getElem? hx)))]; exact i j x hx⟩
theorem Pasts.off {N : Addr → Prop} {H : Hp} {g : Addr} {o : HO} (hg : ¬ N g) {a : Addr} {ps : List (List (List Nat))} (c : Pasts N H a ps) : Pasts N (upd H g o) a ps := by
  obtain ⟨as, e, l, n, i⟩ := c
  have ne : ∀ {b : Addr}, N b → b ≠ g := fun hb z => hg (z ▸ hb)
  exact ⟨as, by rw [upd_ne (ne n)]; exact e, l, n, fun j x hx => (i j x hx).off hg⟩
theorem HoldAt.off {N : Addr → Prop} {C : Addr} {H : Hp} {h g : Addr} {o : HO} {b : Bool} {cs : List (List Nat)} {ps : List (List (List Nat))} (hg : ¬ N g) (hh : h ≠ g) (q : HoldAt N C H h b cs ps) : HoldAt N C (upd H g o) h b cs ps := by
  obtain ⟨dx, r, p, e, c, d⟩ := q
  exact ⟨dx, r, p, by rw [upd_ne hh]; exact e, c.off hg, d.off hg⟩
theorem HoldAt.same {N : Addr → Prop} {C : Addr} {H H' : Hp} {h : Addr} {b : Bool} {cs : List (List Nat)} {ps : List (List (List Nat))} (s : Same H H') (q : HoldAt N C H h b cs ps) : HoldAt N C H' h b cs ps := by
  obtain ⟨dx, r, p, e, c, d⟩ := q
  exact ⟨dx, r, p, s _ _ e, c.same s, d.same s⟩
theorem HoldAt.imp {N N' : Addr → Prop} {C : Addr} {H : Hp} {h : Addr} {b : Bool} {cs : List (List Nat)} {ps : List (List (List Nat))} (i : ∀ b, N b → N' b) (q : HoldAt N C H h b cs ps) : HoldAt N' C H h b cs ps := by
  obtain ⟨dx, r, p, e, ⟨as, e1, l1, n1, i1⟩, ⟨bs, e2, l2, n2, i2⟩⟩ := q
  refine ⟨dx, r, p, e, ⟨as, e1, l1, ⟨i _ n1.1, fun x hx => i _ (n1.2 x hx)⟩, i1⟩, ⟨bs, e2, l2, i _ n2, fun j x hx => ?_⟩⟩
  obtain ⟨cs, e3, l3, n3, i3⟩ := i2 j x hx
  exact ⟨cs, e3, l3, ⟨i _ n3.1, fun x hx => i _ (n3.2 x hx)⟩, i3⟩
theorem Coins.nil {N : Addr → Prop} {H : Hp} {a : Addr} (h : H a = some (.lst [])) (n : N a) : Coins N H a [] := ⟨[], h, rfl, ⟨n, fun x hx => nomatch hx⟩, fun i x e => by simp at e⟩
theorem Pasts.nil {N : Addr → Prop} {H : Hp} {a : Addr} (h : H a = some (.lst [])) (n : N a) : Pasts N H a [] := ⟨[], h, rfl, n, fun i x e => by simp at e⟩
/-- the i-th coin's own list -/
theorem Coins.get {N : Addr → Prop} {H : Hp} {a : Addr} {cs : List (List Nat)} (c : Coins N H a cs) {i : Nat} (h : i < cs.length) : ∃ (as : List Addr) (x : Addr), H a = some (.lst (as.map V.ref)) ∧ as.length = cs.length ∧ as[i]? = some x ∧ H x = some (.lst ((iN (cs.getD i [])).map V.int)) := by
  obtain ⟨as, e, l, _, q⟩ := c
  obtain ⟨x, hx⟩ : ∃ x, as[i]? = some x := ⟨_, List.getElem?_eq_getElem (by omega)⟩
  exact ⟨as, x, e, l, hx, q i x hx⟩
structure HTxt (K : PySem.W.Frag) (C : Addr) : Prop where
  cl : Cls K C
  nB : NoAttr K C "begun"
  nR : NoAttr K C "rows"
  nP : NoAttr K C "past"
section
variable {P : Program} {w : World} {K : PySem.W.Frag} {mg : Str → Option Value} {base : Heap} {C : Addr}
theorem upd_kp {h : Addr} {H H' : Hp} {o : HO} (k : Kp h H H') : Kp h H (upd H' h o) := fun b u e n => by rw [upd_ne n]; exact k b u e n
theorem new_kp {h l : Addr} {H H' : Hp} {o : HO} (k : Kp h H H') (hl : H' l = none) : Kp h H (upd H' l o) := fun b u e n => by
  rw [upd_ne (ne_of_none (k b u e n) hl)]; exact k b u e n
/-! ### __init__, begin -/
def spInit (C : Addr) : Sp := fun vs H Q _ => ∃ (p dx : Addr), vs = [.ref p] ∧ H p = some (.ins C dx []) ∧ ∀ H' : Hp, HoldAt (fun b => H' b ≠ none) C H' p false [] [] → Kp p H H' → Q .non H'
theorem ok_init (T : HTxt K C) {f : Addr} {fd : FuncData} (F : Fun K "__init__" "Holder.__init__" s_Holder_init f fd) : FnOk P w K mg base CX0 1 f fd ["self"] (spInit C) := by
  refine F.ok sc_Holder_init (fun vs H Q E h => ?_) (fun cdv A outer s H vs Q E hr h => ?_)
  · obtain ⟨p, dx, rfl, _⟩ := h
    rfl
  · obtain ⟨p, dx, rfl, hp, k⟩ := h
    refine ⟨_, pss_cons (ps_fld (pv 0) pe_bl rfl) (pss_cons (ps_fld (pv 0) (pe_lst pa_nil) rfl) (pss_one (ps_fld (pv 0) (pe_lst pa_nil) rfl))), ?_⟩
    refine ⟨_, rfl, p, C, dx, [], rfl, hp, T.cl, T.nB, (by show 0 < 1000; decide), ?_⟩
    refine ⟨Nat.zero_le _, fun l1 h1 => ?_⟩
    have n1 : p ≠ l1 := ne_of_none upd_same h1
    refine ⟨_, rfl, p, C, dx, _, rfl, by rw [upd_ne n1, upd_same], T.cl, T.nR, (by show 1 < 1000; decide), ?_⟩
    refine ⟨Nat.zero_le _, fun l2 h2 => ?_⟩
    have n2 : p ≠ l2 := ne_of_none upd_same h2
    have n12 : l1 ≠ l2 := by
      intro e
      subst e
      rw [upd_ne (fun e => n1 e.symm), upd_same] at h2
      cases h2
    refine ⟨_, rfl, p, C, dx, _, rfl, by rw [upd_ne n2, upd_same], T.cl, T.nP, hf_two _ _, ?_⟩
    refine k _ ⟨dx, l1, l2, ?_, Coins.nil ?_ ?_, Pasts.nil ?_ ?_⟩ ?_
    · rw [upd_same]
      exact congrArg (fun q => some (HO.ins C dx q)) (hf_new false l1 l2)
    · rw [upd_ne (fun e => n1 e.symm), upd_ne n12, upd_ne (fun e => n1 e.symm), upd_same]
    · rw [upd_ne (fun e => n1 e.symm), upd_ne n12, upd_ne (fun e => n1 e.symm), upd_same]
      intro z; cases z
    · rw [upd_ne (fun e => n2 e.symm), upd_same]
    · rw [upd_ne (fun e => n2 e.symm), upd_same]
      intro z; cases z
    · exact upd_kp (new_kp (upd_kp (new_kp (upd_kp (Kp.of (Same.refl H))) h1)) h2)
def spBegin (C : Addr) : Sp := fun vs H Q _ => ∃ (N : Addr → Prop) (h : Addr) (b : Bool) (cs : List (List Nat)) (ps : List (List (List Nat))), vs = [.ref h] ∧ HoldAt N C H h b cs ps ∧ Fr N H ∧ ∀ H' : Hp, HoldAt N C H' h true [] [] → Kp h H H' → Q .non H'
theorem ok_begin (T : HTxt K C) (D : MethAt K C "begin" "Holder.begin" s_Holder_begin ["self"]) : MCal P w K mg base C "begin" ["self"] 1 (spBegin C) := by
  refine D.cal sc_Holder_begin (fun vs H Q E h => ?_) (fun f cdv A outer s H vs Q E hr h => ?_)
  · obtain ⟨N, p, b, cs, ps, rfl, _⟩ := h
    rfl
  · obtain ⟨N, h, b, cs, ps, rfl, ⟨dx, r, p, hh, _, _⟩, fr, k⟩ := h
    refine ⟨_, pss_cons (ps_fld (pv 0) pe_bl rfl) (pss_cons (ps_fld (pv 0) (pe_lst pa_nil) rfl) (pss_one (ps_fld (pv 0) (pe_lst pa_nil) rfl))), ?_⟩
    refine ⟨_, rfl, h, C, dx, _, rfl, hh, T.cl, T.nB, (by show 3 < 1000; decide), ?_⟩
    refine ⟨Nat.zero_le _, fun l1 h1 => ?_⟩
    have n1 : h ≠ l1 := ne_of_none upd_same h1
    refine ⟨_, rfl, h, C, dx, _, rfl, by rw [upd_ne n1, upd_same, hf_put_begun], T.cl, T.nR, (by show 3 < 1000; decide), ?_⟩
    refine ⟨Nat.zero_le _, fun l2 h2 => ?_⟩
    have n2 : h ≠ l2 := ne_of_none upd_same h2
    have n12 : l1 ≠ l2 := by
      intro e
      subst e
      rw [upd_ne (fun e => n1 e.symm), upd_same] at h2
      cases h2
    refine ⟨_, rfl, h, C, dx, _, rfl, by rw [upd_ne n2, upd_same, hf_put_rows], T.cl, T.nP, (by show 3 < 1000; decide), ?_⟩
    have g1 : H l1 = none := by rwa [upd_ne (fun e => n1 e.symm)] at h1
    have g2 : H l2 = none := by rwa [upd_ne (fun e => n2 e.symm), upd_ne (fun e => n12 e.symm), upd_ne (fun e => n2 e.symm)] at h2
    refine k _ ⟨dx, l1, l2, ?_, Coins.nil ?_ (fr _ g1), Pasts.nil ?_ (fr _ g2)⟩ ?_
    · rw [upd_same, hf_put_past]
    · rw [upd_ne (fun e => n1 e.symm), upd_ne n12, upd_ne (fun e => n1 e.symm), upd_same]
    · rw [upd_ne (fun e => n2 e.symm), upd_same]
    · exact upd_kp (new_kp (upd_kp (new_kp (upd_kp (Kp.of (Same.refl H))) h1)) h2)
/-! ### has -/
def spHas (C : Addr) : Sp := fun vs H Q _ => ∃ (N : Addr → Prop) (h : Addr) (b : Bool) (cs : List (List Nat)) (ps : List (List (List Nat))) (i : Int), vs = [.ref h, .int i] ∧ HoldAt N C H h b cs ps ∧ Q (.bl (decide (i < (cs.length : Int)))) H
theorem ok_has (B : Bl mg) (T : HTxt K C) (D : MethAt K C "has" "Holder.has" s_Holder_has ["self", "i"]) : MCal P w K mg base C "has" ["self", "i"] 1 (spHas C) := by
  refine D.cal sc_Holder_has (fun vs H Q E h => ?_) (fun f cdv A outer s H vs Q E hr h => ?_)
  · obtain ⟨N, p, b, cs, ps, i, rfl, _⟩ := h
    rfl
  · obtain ⟨N, h, b, cs, ps, i, rfl, ⟨dx, r, p, hh, ⟨as, ha, hl, _⟩, _⟩, q⟩ := h
    refine ⟨_, pss_one (ps_ret (pe_cmpR op_lt (pv 1) (pe_callB call_len_seq (by rfl) B.len PySem.boot_len (pa_cons (pe_fld (pv 0) rfl) pa_nil)) (nomark _))), ?_⟩
    refine ⟨_, rfl, _, rfl, h, C, dx, _, _, rfl, hh, T.cl, T.nR, hf_rows _ _ _, r, _, rfl, .inl (SqL.of ha), _, _, rfl, rfl, ?_⟩
    rw [List.length_map, hl]
    exact q
/-! ### change -/
def lastTen (ps : List (List (List Nat))) (cs : List (List Nat)) : List (List (List Nat)) := (ps ++ [cs]).drop (ps.length + 1 - 10)
def spChange (C : Addr) : Sp := fun vs H Q _ => ∃ (N : Addr → Prop) (h r' : Addr) (b : Bool) (cs cs' : List (List Nat)) (ps : List (List (List Nat))), vs = [.ref h, .ref r'] ∧ HoldAt N C H h b cs ps ∧ Fr N H ∧ ps.length ≤ 1000 ∧ Coins N H r' cs' ∧ ∀ H' : Hp, HoldAt N C H' h b cs' (lastTen ps cs) → Kp h H H' → Q .non H'
theorem cut_ten (xs : List V) : cutV xs (some (-10)) none = xs.drop (xs.length - 10) := by
  unfold cutV
  have e : HT.sIx xs.length 0 (some (-10)) = xs.length - 10 := by
    show (if (-10 : Int) < 0 then ((-10 : Int) + (xs.length : Int)).toNat else min (-10 : Int).toNat xs.length) = _
    rw [if_pos (by decide)]
    omega
  rw [e, HT.sIx_none, List.take_of_length_le (by rw [List.length_drop]; exact Nat.le_refl _)]
theorem Pasts.last {N : Addr → Prop} {H : Hp} {q : Addr} {ps : List (List (List Nat))} {cs : List (List Nat)} {as : List Addr} {r : Addr} (hl : as.length = ps.length) (hi : ∀ (i : Nat) (x : Addr), as[i]? = some x → Coins N H x (ps.getD i [])) (hr : Coins N H r cs) (nq : N q)
    (hq : H q = some (.lst ((as.map V.ref ++ [V.ref r]).drop (as.length + 1 - 10)))) : Pasts N H q (lastTen ps cs) := by
  refine ⟨(as ++ [r]).drop (as.length + 1 - 10), ?_, ?_, nq, fun i x hx => ?_⟩
  · rw [hq, List.map_drop, List.map_append]; rfl
  · unfold lastTen
    rw [List.length_drop, List.length_drop, List.length_append, List.length_append, hl]; rfl
  · unfold lastTen
    rw [List.getElem?_drop] at hx
    have e : ((ps ++ [cs]).drop (ps.length + 1 - 10)).getD i [] = (ps ++ [cs]).getD (as.length + 1 - 10 + i) [] := by
      rw [List.getD_eq_getElem?_getD, List.getD_eq_getElem?_getD, List.getElem?_drop, hl]
    rw [e]
    by_cases z : as.length + 1 - 10 + i < as.length
    · rw [List.getElem?_append_left z] at hx
      rw [List.getD_eq_getElem?_getD, List.getElem?_append_left (by omega), ← List.getD_eq_getElem?_getD]
      exact hi _ x hx
    · rw [List.getElem?_append_right (by omega)] at hx
      rw [List.getD_eq_getElem?_getD, List.getElem?_append_right (by omega)]
      have z2 : as.length + 1 - 10 + i - as.length = 0 := by
        cases g : as.length + 1 - 10 + i - as.length with
        | zero => rfl
        | succ n =>
          rw [g] at hx
          simp at hx
      rw [z2] at hx
      rw [show as.length + 1 - 10 + i - ps.length = 0 by omega]
      have ex : r = x := Option.some.inj hx
      rw [← ex]
      exact hr
theorem ok_change (T : HTxt K C) (mB : GI mg "MOST_BACK" 10) (D : MethAt K C "change" "Holder.change" s_Holder_change ["self", "rows"]) : MCal P w K mg base C "change" ["self", "rows"] 1 (spChange C) := by
  refine D.cal sc_Holder_change (fun vs H Q E h => ?_) (fun f cdv A outer s H vs Q E hr h => ?_)
  · obtain ⟨N, p, r', b, cs, cs', ps, rfl, _⟩ := h
    rfl
  · obtain ⟨N, h, r', b, cs, cs', ps, rfl, ⟨dx, r, p, hh, hC, ⟨as, ha, hl, _, hi⟩⟩, fr, hps, hC', k⟩ := h
    refine ⟨_, pss_cons (ps_fld (pv 0) (pe_slice sl_list (pe_op op_cat (pe_fld (pv 0) rfl) (pe_lst (pa_cons (pe_fld (pv 0) rfl) pa_nil))) (po_some (pe_un un_neg (pe_gi mB (by rfl)))) po_none) rfl) (pss_one (ps_fld (pv 0) (pv 1) rfl)), ?_⟩
    refine ⟨_, rfl, h, C, dx, _, _, rfl, hh, T.cl, T.nP, hf_past _ _ _, _, rfl, h, C, dx, _, _, rfl, hh, T.cl, T.nR, hf_rows _ _ _, (by show 1 ≤ sizeLine; decide), fun l1 h1 => ?_⟩
    have S1 : Same H (upd H l1 (.lst [V.ref r])) := Same.upd_new (Same.refl H) h1
    refine ⟨p, l1, _, _, rfl, rfl, S1 _ _ ha, upd_same, ?_, fun l2 h2 => ?_⟩
    · rw [List.length_map, hl]
      exact small_of (m := 3000) (by simp; omega)
    have S2 : Same H (upd (upd H l1 (.lst [V.ref r])) l2 (.lst (as.map V.ref ++ [V.ref r]))) := Same.upd_new S1 h2
    refine ⟨_, rfl, _, rfl, l2, _, rfl, SqL.of upd_same, fun l3 h3 => ?_⟩
    have S3 := Same.upd_new (o := .lst (cutV (as.map V.ref ++ [V.ref r]) (some (-10)) none)) S2 h3
    refine ⟨_, rfl, h, C, dx, _, rfl, S3 _ _ hh, T.cl, T.nP, (by show 3 < 1000; decide), ?_⟩
    refine ⟨_, rfl, _, rfl, h, C, dx, _, rfl, by rw [upd_same, hf_put_past], T.cl, T.nR, (by show 3 < 1000; decide), ?_⟩
    have n3 : h ≠ l3 := ne_of_none (S2 _ _ hh) h3
    have k3 : Kp h H (upd (upd (upd (upd (upd H l1 (.lst [V.ref r])) l2 (.lst (as.map V.ref ++ [V.ref r]))) l3 (.lst (cutV (as.map V.ref ++ [V.ref r]) (some (-10)) none))) h (.ins C dx (putF "past" (.ref l3) (hf b r p)))) h (.ins C dx (putF "rows" (.ref r') (hf b r l3)))) := upd_kp (upd_kp (Kp.of S3))
    refine k _ ⟨dx, r', l3, by rw [upd_same, hf_put_rows], hC'.kp hh k3, ?_⟩ k3
    refine Pasts.last (as := as) (r := r) hl (fun i x hx => (hi i x hx).kp hh k3) (hC.kp hh k3) (fr.same S2 _ h3) ?_
    rw [upd_ne (fun e => n3 e.symm), upd_ne (fun e => n3 e.symm), upd_same, cut_ten, List.length_append, List.length_map]
    rfl
end
end Mc

end
section
set_option Elab.async false
set_option linter.all false
set_option maxRecDepth 100000
set_option maxHeartbeats 4000000
/-! The holder's add and drop. -/
namespace Mc
open PySem PySem.Spec PyProof.Rows L2
open Kv394 (choose tosses)
/-- the holder at h holds the state a -/
def HoldA (N : Addr → Prop) (C : Addr) (H : Hp) (h : Addr) (a : Kv394.Abs) : Prop := HoldAt N C H h true a.coins a.past.reverse
theorem lastTen_eq (cs : List (List Nat)) (ps : List (List (List Nat))) : lastTen ps.reverse cs = ((cs :: ps).take 10).reverse := by
  unfold lastTen
  rw [List.reverse_take, List.reverse_cons, List.length_reverse, List.length_cons]
theorem Coins.snoc {N : Addr → Prop} {H : Hp} {q x : Addr} {cs : List (List Nat)} {c : List Nat} {as : List Addr} (hl : as.length = cs.length) (hi : ∀ (i : Nat) (x : Addr), as[i]? = some x → H x = some (.lst ((iN (cs.getD i [])).map V.int))) (hx : H x = some (.lst ((iN c).map V.int)))
    (hq : H q = some (.lst (as.map V.ref ++ [V.ref x]))) (nq : N q) (na : ∀ y ∈ as, N y) (nx : N x) : Coins N H q (cs ++ [c]) := by
  refine ⟨as ++ [x], by rw [hq, List.map_append]; rfl, by rw [List.length_append, List.length_append, hl]; rfl, ⟨nq, fun y hy => ?_⟩, fun i y hy => ?_⟩
  · rcases List.mem_append.mp hy with z | z
    · exact na y z
    · rw [List.mem_singleton.mp z]; exact nx
  by_cases z : i < as.length
  · rw [List.getElem?_append_left z] at hy
    rw [List.getD_eq_getElem?_getD, List.getElem?_append_left (by omega), ← List.getD_eq_getElem?_getD]
    exact hi i y hy
  · rw [List.getElem?_append_right (by omega)] at hy
    rw [List.getD_eq_getElem?_getD, List.getElem?_append_right (by omega)]
    cases g : i - as.length with
    | zero =>
      rw [g] at hy
      rw [show i - cs.length = 0 by omega]
      have e : x = y := Option.some.inj hy
      rw [← e]
      exact hx
    | succ n =>
      rw [g] at hy
      simp at hy
theorem Coins.erase {N : Addr → Prop} {H : Hp} {q : Addr} {cs : List (List Nat)} {as : List Addr} (k : Nat) (hl : as.length = cs.length) (hi : ∀ (i : Nat) (x : Addr), as[i]? = some x → H x = some (.lst ((iN (cs.getD i [])).map V.int)))
    (hq : H q = some (.lst ((as.eraseIdx k).map V.ref))) (nq : N q) (na : ∀ y ∈ as, N y) : Coins N H q (cs.eraseIdx k) := by
  refine ⟨as.eraseIdx k, hq, by rw [List.length_eraseIdx, List.length_eraseIdx, hl], ⟨nq, fun y hy => na y (List.mem_of_mem_eraseIdx hy)⟩, fun i y hy => ?_⟩
  rw [List.getElem?_eraseIdx] at hy
  rw [List.getD_eq_getElem?_getD, List.getElem?_eraseIdx]
  split
  · rename_i z
    rw [if_pos z] at hy
    rw [← List.getD_eq_getElem?_getD]
    exact hi i y hy
  · rename_i z
    rw [if_neg z] at hy
    rw [← List.getD_eq_getElem?_getD]
    exact hi (i + 1) y hy
section
variable {P : Program} {w : World} {K : PySem.W.Frag} {mg : Str → Option Value} {base : Heap} {C : Addr}
def spAdd (C : Addr) : Sp := fun vs H Q _ => ∃ (N : Addr → Prop) (h x : Addr) (a : Kv394.Abs) (c : List Nat), vs = [.ref h, .ref x] ∧ HoldA N C H h a ∧ Fr N H ∧ GoodAbs a ∧ N x ∧ H x = some (.lst ((iN c).map V.int)) ∧ ∀ H' : Hp, HoldA N C H' h (a.add c).1 → Kp h H H' → Q (.int (a.add c).2.ret) H'
theorem ok_add (B : Bl mg) (T : HTxt K C) (mC : GI mg "MOST_COINS" 8) (mE : GI mg "TOO_MANY_COINS" (-28)) (MC : MCal P w K mg base C "change" ["self", "rows"] 1 (spChange C)) (D : MethAt K C "add" "Holder.add" s_Holder_add ["self", "row"]) : MCal P w K mg base C "add" ["self", "row"] 2 (spAdd C) := by
  refine D.cal sc_Holder_add (fun vs H Q E h => ?_) (fun f cdv A outer s H vs Q E hr h => ?_)
  · obtain ⟨N, h, x, a, c, rfl, _⟩ := h
    rfl
  · obtain ⟨N, h, x, a, c, rfl, hA, fr, g, nx, hx, k⟩ := h
    have hA' := hA
    obtain ⟨dx, r, p, hh, ⟨as, ha, hl, na, hi⟩, hP⟩ := hA
    refine ⟨_, pss_cons (ps_if (pt_cmpR op_eq (pe_callB call_len_seq (by rfl) B.len PySem.boot_len (pa_cons (pe_fld (pv 0) rfl) pa_nil)) (pe_gi mC (by rfl)) (nomark _)) (pss_one (ps_ret (pe_gi mE (by rfl)))) pss_nil)
      (pss_cons (ps_expr (pe_methC (pv 0) T.cl MC hr (pa_cons (pe_op op_cat (pe_fld (pv 0) rfl) (pe_lst (pa_cons (pv 1) pa_nil))) pa_nil)))
      (pss_one (ps_ret (pe_op op_sub (pe_callB call_len_seq (by rfl) B.len PySem.boot_len (pa_cons (pe_fld (pv 0) rfl) pa_nil)) pe_int)))), ?_⟩
    have few := g.coins.few
    refine ⟨_, rfl, h, C, dx, _, _, rfl, hh, T.cl, T.nR, hf_rows _ _ _, r, _, rfl, .inl (SqL.of ha), rfl, _, rfl, ?_⟩
    rw [List.length_map, hl]
    refine ite2 (fun c0 => ?_) (fun c0 => ?_)
    · have c1 : (a.coins.length : Int) = 8 := V.int.inj (of_decide_eq_true c0)
      have e : a.add c = (a, Kv394.say (-28)) := if_pos (by omega)
      rw [e] at k
      exact k H hA' (Kp.of (Same.refl H))
    · have c1 : ¬ (a.coins.length : Int) = 8 := fun z => c0 (decide_eq_true (by rw [z]))
      have e : a.add c = (⟨a.coins ++ [c], (a.coins :: a.past).take 10⟩, Kv394.num a.coins.length) := if_neg (by omega)
      rw [e] at k
      refine ⟨_, rfl, h, dx, _, rfl, hh, hf_no _ _ _ (by decide +kernel) (by decide +kernel) (by decide +kernel), ?_⟩
      refine ⟨_, rfl, h, C, dx, _, _, rfl, hh, T.cl, T.nR, hf_rows _ _ _, _, rfl, (by show 1 ≤ sizeLine; decide), fun l1 h1 => ?_⟩
      have S1 : Same H (upd H l1 (.lst [V.ref x])) := Same.upd_new (Same.refl H) h1
      refine ⟨r, l1, _, _, rfl, rfl, S1 _ _ ha, upd_same, ?_, fun l2 h2 => ?_⟩
      · rw [List.length_map, hl]
        exact small_of (m := 3000) (by simp; omega)
      have S2 : Same H (upd (upd H l1 (.lst [V.ref x])) l2 (.lst (as.map V.ref ++ [V.ref x]))) := Same.upd_new S1 h2
      refine ⟨N, h, l2, true, a.coins, a.coins ++ [c], a.past.reverse, rfl, HoldAt.same S2 hA', fr.same S2, by rw [List.length_reverse]; have := g.few; omega, ?_, fun H3 hH3 k3 => ?_⟩
      · exact Coins.snoc hl (fun i y hy => S2 _ _ (hi i y hy)) (S2 _ _ hx) upd_same (fr.same S1 _ h2) na.2 nx
      · rw [lastTen_eq] at hH3
        have k3' : Kp h H H3 := (Kp.of S2).trans k3
        have hH3' := hH3
        obtain ⟨dx3, r3, p3, hh3, ⟨as3, ha3, hl3, hi3⟩, hP3⟩ := hH3
        refine ⟨_, rfl, h, C, dx3, _, _, rfl, hh3, T.cl, T.nR, hf_rows _ _ _, r3, _, rfl, .inl (SqL.of ha3), _, _, rfl, rfl, ?_⟩
        have q := k H3 hH3' k3'
        have en : (((as3.map V.ref).length : Nat) : Int) - 1 = (Kv394.num a.coins.length).ret := by
          rw [List.length_map, hl3, List.length_append]
          show ((a.coins.length + 1 : Nat) : Int) - 1 = ((a.coins.length : Nat) : Int)
          omega
        rw [← en] at q
        exact q
/-! ### drop -/
def spDropH (C : Addr) : Sp := fun vs H Q _ => ∃ (N : Addr → Prop) (h : Addr) (a : Kv394.Abs) (i : Nat), vs = [.ref h, .int i] ∧ HoldA N C H h a ∧ Fr N H ∧ GoodAbs a ∧ i < a.coins.length ∧ ∀ H' : Hp, HoldA N C H' h ⟨a.coins.eraseIdx i, (a.coins :: a.past).take 10⟩ → Kp h H H' → Q (.int ((a.coins.length - 1 : Nat) : Int)) H'
theorem cut_to {xs : List V} {i : Nat} (h : i ≤ xs.length) : cutV xs none (some (i : Int)) = xs.take i := by
  unfold cutV
  rw [HT.sIx_none, HT.sIx_nat, Nat.min_eq_left h]
  rfl
theorem cut_from {xs : List V} {i : Nat} (h : i ≤ xs.length) : cutV xs (some (i : Int)) none = xs.drop i := by
  unfold cutV
  rw [HT.sIx_none, HT.sIx_nat, Nat.min_eq_left h, List.take_of_length_le (by rw [List.length_drop]; exact Nat.le_refl _)]
theorem ok_dropH (B : Bl mg) (T : HTxt K C) (MC : MCal P w K mg base C "change" ["self", "rows"] 1 (spChange C)) (D : MethAt K C "drop" "Holder.drop" s_Holder_drop ["self", "i"]) : MCal P w K mg base C "drop" ["self", "i"] 2 (spDropH C) := by
  refine D.cal sc_Holder_drop (fun vs H Q E h => ?_) (fun f cdv A outer s H vs Q E hr h => ?_)
  · obtain ⟨N, h, a, i, rfl, _⟩ := h
    rfl
  · obtain ⟨N, h, a, i, rfl, hA, fr, g, hi0, k⟩ := h
    have hA' := hA
    obtain ⟨dx, r, p, hh, ⟨as, ha, hl, na, hi⟩, hP⟩ := hA
    refine ⟨_, pss_cons (ps_expr (pe_methC (pv 0) T.cl MC hr (pa_cons (pe_op op_cat (pe_slice sl_list (pe_fld (pv 0) rfl) po_none (po_some (pv 1))) (pe_slice sl_list (pe_fld (pv 0) rfl) (po_some (pe_op op_add (pv 1) pe_int)) po_none)) pa_nil)))
      (pss_one (ps_ret (pe_callB call_len_seq (by rfl) B.len PySem.boot_len (pa_cons (pe_fld (pv 0) rfl) pa_nil)))), ?_⟩
    have few := g.coins.few
    have hlm : (as.map V.ref).length = a.coins.length := by rw [List.length_map, hl]
    refine ⟨_, rfl, h, dx, _, rfl, hh, hf_no _ _ _ (by decide +kernel) (by decide +kernel) (by decide +kernel), ?_⟩
    refine ⟨_, rfl, h, C, dx, _, _, rfl, hh, T.cl, T.nR, hf_rows _ _ _, _, rfl, (i : Int), rfl, r, _, rfl, SqL.of ha, fun l1 h1 => ?_⟩
    rw [cut_to (by omega)]
    have S1 : Same H (upd H l1 (.lst ((as.map V.ref).take i))) := Same.upd_new (Same.refl H) h1
    refine ⟨_, rfl, h, C, dx, _, _, rfl, S1 _ _ hh, T.cl, T.nR, hf_rows _ _ _, _, rfl, _, _, rfl, rfl, ((i + 1 : Nat) : Int), by push_cast; rfl, r, _, rfl, SqL.of (S1 _ _ ha), fun l2 h2 => ?_⟩
    rw [cut_from (by omega)]
    have S2 : Same H (upd (upd H l1 (.lst ((as.map V.ref).take i))) l2 (.lst ((as.map V.ref).drop (i + 1)))) := Same.upd_new S1 h2
    have n12 : l1 ≠ l2 := ne_of_none upd_same h2
    refine ⟨l1, l2, _, _, rfl, rfl, by rw [upd_ne n12, upd_same], upd_same, ?_, fun l3 h3 => ?_⟩
    · rw [List.length_take, List.length_drop]
      exact small_of (m := 3000) (by omega)
    have S3 := Same.upd_new (o := .lst ((as.map V.ref).take i ++ (as.map V.ref).drop (i + 1))) S2 h3
    refine ⟨N, h, l3, true, a.coins, a.coins.eraseIdx i, a.past.reverse, rfl, HoldAt.same S3 hA', fr.same S3, by rw [List.length_reverse]; have := g.few; omega, ?_, fun H4 hH4 k4 => ?_⟩
    · refine Coins.erase i hl (fun j y hy => S3 _ _ (hi j y hy)) ?_ (fr.same S2 _ h3) na.2
      rw [upd_same, List.eraseIdx_eq_take_drop_succ, List.map_append, List.map_take, List.map_drop]
    · rw [lastTen_eq] at hH4
      have k4' : Kp h H H4 := (Kp.of S3).trans k4
      have hH4' := hH4
      obtain ⟨dx3, r3, p3, hh3, ⟨as3, ha3, hl3, hi3⟩, hP3⟩ := hH4
      refine ⟨_, rfl, h, C, dx3, _, _, rfl, hh3, T.cl, T.nR, hf_rows _ _ _, r3, _, rfl, .inl (SqL.of ha3), ?_⟩
      have q := k H4 hH4' k4'
      rw [List.length_map, hl3, List.length_eraseIdx, if_pos hi0]
      exact q
end
end Mc

end
section
set_option Elab.async false
set_option linter.all false
set_option maxRecDepth 100000
set_option maxHeartbeats 4000000
/-! The holder's changes and back; with_count. -/
namespace Mc
open PySem PySem.Spec PyProof.Rows L2
open Kv394 (choose tosses)
theorem cut_but (xs : List V) : cutV xs none (some (-1)) = xs.take (xs.length - 1) := by
  unfold cutV
  have e : HT.sIx xs.length xs.length (some (-1)) = xs.length - 1 := by
    show (if (-1 : Int) < 0 then ((-1 : Int) + (xs.length : Int)).toNat else min (-1 : Int).toNat xs.length) = _
    rw [if_pos (by decide)]
    omega
  rw [e, HT.sIx_none, List.drop_zero]
  rfl
theorem at_last {as : List Addr} {x : Addr} {n : Nat} (hl : as.length = n + 1) (hx : as[n]? = some x) : atI (as.map V.ref) (-1) = some (.ref x) := by
  unfold atI ixN
  rw [List.length_map, if_neg (by decide), if_pos (by omega)]
  show (as.map V.ref)[((-1 : Int) + (as.length : Int)).toNat]? = _
  rw [show ((-1 : Int) + (as.length : Int)).toNat = n by omega, List.getElem?_map, hx]
  rfl
section
variable {P : Program} {w : World} {K : PySem.W.Frag} {mg : Str → Option Value} {base : Heap} {C : Addr}
/-! ### changes -/
def spChanges (C : Addr) : Sp := fun vs H Q _ => ∃ (N : Addr → Prop) (h : Addr) (b : Bool) (cs : List (List Nat)) (ps : List (List (List Nat))), vs = [.ref h] ∧ HoldAt N C H h b cs ps ∧ Q (.int (ps.length : Nat)) H
theorem ok_changes (B : Bl mg) (T : HTxt K C) (D : MethAt K C "changes" "Holder.changes" s_Holder_changes ["self"]) : MCal P w K mg base C "changes" ["self"] 1 (spChanges C) := by
  refine D.cal sc_Holder_changes (fun vs H Q E h => ?_) (fun f cdv A outer s H vs Q E hr h => ?_)
  · obtain ⟨N, p, b, cs, ps, rfl, _⟩ := h
    rfl
  · obtain ⟨N, h, b, cs, ps, rfl, ⟨dx, r, p, hh, hC, ⟨as, ha, hl, _⟩⟩, q⟩ := h
    refine ⟨_, pss_one (ps_ret (pe_callB call_len_seq (by rfl) B.len PySem.boot_len (pa_cons (pe_fld (pv 0) rfl) pa_nil))), ?_⟩
    refine ⟨_, rfl, h, C, dx, _, _, rfl, hh, T.cl, T.nP, hf_past _ _ _, p, _, rfl, .inl (SqL.of ha), ?_⟩
    rw [List.length_map, hl]
    exact q
/-! ### back -/
def spBack (C : Addr) : Sp := fun vs H Q _ => ∃ (N : Addr → Prop) (h : Addr) (b : Bool) (cs last : List (List Nat)) (ps : List (List (List Nat))), vs = [.ref h] ∧ HoldAt N C H h b cs (ps ++ [last]) ∧ Fr N H ∧ ∀ H' : Hp, HoldAt N C H' h b last ps → Kp h H H' → Q (.int (ps.length : Nat)) H'
theorem ok_back (B : Bl mg) (T : HTxt K C) (MC : MCal P w K mg base C "changes" ["self"] 1 (spChanges C)) (D : MethAt K C "back" "Holder.back" s_Holder_back ["self"]) : MCal P w K mg base C "back" ["self"] 2 (spBack C) := by
  refine D.cal sc_Holder_back (fun vs H Q E h => ?_) (fun f cdv A outer s H vs Q E hr h => ?_)
  · obtain ⟨N, p, b, cs, last, ps, rfl, _⟩ := h
    rfl
  · obtain ⟨N, h, b, cs, last, ps, rfl, ⟨dx, r, p, hh, hC, ⟨as, ha, hl, nP, hi⟩⟩, fr, k⟩ := h
    have hl' : as.length = ps.length + 1 := by rw [hl, List.length_append]; rfl
    obtain ⟨x, hx⟩ : ∃ x, as[ps.length]? = some x := ⟨_, List.getElem?_eq_getElem (by omega)⟩
    have hX : Coins N H x last := by
      have z := hi _ x hx
      rw [List.getD_eq_getElem?_getD, List.getElem?_append_right (Nat.le_refl _), Nat.sub_self] at z
      exact z
    refine ⟨_, pss_cons (ps_fld (pv 0) (pe_ix ix_list (pe_fld (pv 0) rfl) (pe_un un_neg pe_int) (fun _ _ => rfl)) rfl)
      (pss_cons (ps_fld (pv 0) (pe_slice sl_list (pe_fld (pv 0) rfl) po_none (po_some (pe_un un_neg pe_int))) rfl)
      (pss_one (ps_ret (pe_methC0 (pv 0) T.cl MC hr)))), ?_⟩
    refine ⟨_, rfl, h, C, dx, _, _, rfl, hh, T.cl, T.nP, hf_past _ _ _, _, rfl, p, _, _, _, rfl, rfl, SqL.of ha, at_last hl' hx, ?_⟩
    refine ⟨_, rfl, h, C, dx, _, rfl, hh, T.cl, T.nR, (by show 3 < 1000; decide), ?_⟩
    have np : p ≠ h := ne_of ha hh (by intro z; cases z)
    refine ⟨_, rfl, h, C, dx, _, _, rfl, by rw [upd_same, hf_put_rows], T.cl, T.nP, hf_past _ _ _, _, rfl, _, rfl, p, _, rfl, SqL.of (by rw [upd_ne np]; exact ha), fun l3 h3 => ?_⟩
    have n3 : h ≠ l3 := ne_of_none upd_same h3
    have g3 : H l3 = none := by rwa [upd_ne (fun e => n3 e.symm)] at h3
    refine ⟨_, rfl, h, C, dx, _, rfl, by rw [upd_ne n3, upd_same, hf_put_rows], T.cl, T.nP, (by show 3 < 1000; decide), ?_⟩
    have k3 : Kp h H (upd (upd (upd H h (.ins C dx (putF "rows" (.ref x) (hf b r p)))) l3 (.lst (cutV (as.map V.ref) none (some (-1))))) h (.ins C dx (putF "past" (.ref l3) (hf b x p)))) := upd_kp (new_kp (upd_kp (Kp.of (Same.refl H))) h3)
    have hN : HoldAt N C (upd (upd (upd H h (.ins C dx (putF "rows" (.ref x) (hf b r p)))) l3 (.lst (cutV (as.map V.ref) none (some (-1))))) h (.ins C dx (putF "past" (.ref l3) (hf b x p)))) h b last ps := by
      refine ⟨dx, x, l3, by rw [upd_same, hf_put_past], hX.kp hh k3, as.take ps.length, ?_, by rw [List.length_take]; omega, fr _ g3, fun i y hy => ?_⟩
      · rw [upd_ne (fun e => n3 e.symm), upd_same, cut_but, List.length_map, hl', Nat.add_sub_cancel, List.map_take]
      · rw [List.getElem?_take] at hy
        by_cases z : i < ps.length
        · rw [if_pos z] at hy
          have c := hi i y hy
          rw [List.getD_eq_getElem?_getD, List.getElem?_append_left z, ← List.getD_eq_getElem?_getD] at c
          exact c.kp hh k3
        · rw [if_neg z] at hy
          cases hy
    refine ⟨_, rfl, h, dx, _, rfl, by rw [upd_same, hf_put_past], hf_no _ _ _ (by decide +kernel) (by decide +kernel) (by decide +kernel), N, h, b, last, ps, rfl, hN, k _ hN k3⟩
/-! ### with_count -/
def spCount : Sp := fun vs H Q _ => ∃ (a : Addr) (ns : List Int), vs = [.ref a] ∧ H a = some (.lst (ns.map V.int)) ∧ ns.length ≤ 1000 ∧ NewL H ((ns.length : Int) :: ns) Q
theorem ok_count (B : Bl mg) (D : DefAt K mg "with_count" s_with_count ["numbers"]) : Cal P w K mg base "with_count" ["numbers"] 1 spCount := by
  refine D.cal sc_with_count (fun vs H Q E h => ?_) (fun f cdv A outer s H vs Q E hr h => ?_)
  · obtain ⟨a, ns, rfl, _⟩ := h
    rfl
  · obtain ⟨a, ns, rfl, hA, hn, q⟩ := h
    refine ⟨_, pss_one (ps_ret (pe_op op_cat (pe_lst (pa_cons (pe_lenV 0 B.len (by rfl) (pv 0)) pa_nil)) (pv 0))), ?_⟩
    refine ⟨_, rfl, a, ns, rfl, SqL.of hA, (by show 1 ≤ sizeLine; decide), fun l1 n1 => ?_⟩
    have S1 : Same H (upd H l1 (.lst [V.int (ns.length : Nat)])) := Same.upd_new (Same.refl H) n1
    refine ⟨_, rfl, l1, a, _, _, rfl, rfl, upd_same, S1 _ _ hA, ?_, fun p np => ?_⟩
    · rw [List.length_map]
      exact small_of (m := 3000) (by simp; omega)
    · exact q _ p (Same.upd_new S1 np) (S1.free np) upd_same
end
end Mc

end
section
set_option Elab.async false
set_option linter.all false
set_option maxRecDepth 100000
set_option maxHeartbeats 4000000
/-! The calls of points 1 and 2, each by its own def. -/
namespace Mc
open PySem PySem.Spec PyProof.Rows L2
open Kv394 (choose tosses)
/-- a call is done: the state behind it, a new list with its answer -/
def CallDone (N : Addr → Prop) (C h : Addr) (H : Hp) (a' : Kv394.Abs) (ans : Kv394.Ans) (Q : VK) : Prop := ∀ (H' : Hp) (p : Addr), HoldA N C H' h a' → Kp h H H' → H p = none → H' p = some (.lst ((ans.ret :: ans.nums).map V.int)) → Q (.ref p) H'
theorem Kp.free {h : Addr} {H H' : Hp} (k : Kp h H H') {o : HO} (hh : H' h = some o) {p : Addr} (hp : H' p = none) : H p = none := by
  cases e : H p with
  | none => rfl
  | some u =>
    have n : p ≠ h := fun z => by rw [z, hh] at hp; cases hp
    rw [k p u e n] at hp
    cases hp
theorem HoldA.at {N : Addr → Prop} {C : Addr} {H : Hp} {h : Addr} {a : Kv394.Abs} (q : HoldA N C H h a) : ∃ o, H h = some o := by
  obtain ⟨dx, r, p, e, _⟩ := q
  exact ⟨_, e⟩
theorem CallDone.put {N : Addr → Prop} {C h : Addr} {H H' : Hp} {a' : Kv394.Abs} {ans : Kv394.Ans} {Q : VK} (q : CallDone N C h H a' ans Q) (hn : ans.nums = []) (hA : HoldA N C H' h a') (k : Kp h H H') {p : Addr} (hp : H' p = none) : Q (.ref p) (upd H' p (.lst [V.int ans.ret])) := by
  obtain ⟨o, ho⟩ := hA.at
  refine q _ p (HoldAt.same (Same.upd_new (Same.refl _) hp) hA) (new_kp k hp) (k.free ho hp) ?_
  rw [upd_same, hn]
  rfl
theorem add_nums (a : Kv394.Abs) (c : List Nat) : (a.add c).2.nums = [] := by
  unfold Kv394.Abs.add
  split <;> rfl
theorem Coins.at {N : Addr → Prop} {H : Hp} {r : Addr} {cs : List (List Nat)} (c : Coins N H r cs) : ∃ as : List Addr, H r = some (.lst (as.map V.ref)) ∧ ∀ z : Int, 0 ≤ z → z.toNat < cs.length → ∃ x, atI (as.map V.ref) z = some (.ref x) ∧ H x = some (.lst ((iN (cs.getD z.toNat [])).map V.int)) := by
  obtain ⟨as, e, l, _, q⟩ := c
  refine ⟨as, e, fun z h0 h1 => ?_⟩
  obtain ⟨x, hx⟩ : ∃ x, as[z.toNat]? = some x := ⟨_, List.getElem?_eq_getElem (by omega)⟩
  exact ⟨x, at_of (j := z.toNat) (by omega) (by rw [List.getElem?_map, hx]; rfl), q _ x hx⟩
/-- the first n numbers tell coins that are there -/
structure Told (a : Kv394.Abs) (nums : List Int) (n : Nat) : Prop where
  len : n ≤ nums.length
  at_ : ∀ j, j < n → 0 ≤ nums.getD j 0 ∧ (nums.getD j 0).toNat < a.coins.length
theorem Told.no {a : Kv394.Abs} {nums : List Int} {n : Nat} (t : Told a nums n) {j : Nat} (h : j < n) : ¬ a.no (nums.getD j 0).toNat = true := by
  unfold Kv394.Abs.no
  rw [decide_eq_true_iff]
  have := (t.at_ j h).2
  omega
def spCallF (K : PySem.W.Frag) (C : Addr) (req : Kv394.Abs → List Int → List Int → Prop) (mk : List Int → List Int → Kv394.Call) : Sp := fun vs H Q _ => ∃ (N : Addr → Prop) (h nA rA : Addr) (a : Kv394.Abs) (nums row : List Int),
  vs = [.ref h, .ref nA, .ref rA] ∧ HoldA N C H h a ∧ Fr N H ∧ GoodAbs a ∧ LI K H nA nums ∧ N rA ∧ H rA = some (.lst (row.map V.int)) ∧ req a nums row ∧ CallDone N C h H (a.does (mk nums row)).1 (a.does (mk nums row)).2 Q
theorem spCallF_len {K : PySem.W.Frag} {C : Addr} {req : Kv394.Abs → List Int → List Int → Prop} {mk : List Int → List Int → Kv394.Call} {a b c : Str} : ∀ vs H Q E, spCallF K C req mk vs H Q E → vs.length = [a, b, c].length := fun vs H Q E h => by
  obtain ⟨N, h, nA, rA, a, nums, row, rfl, _⟩ := h
  rfl
section
variable {P : Program} {w : World} {K : PySem.W.Frag} {mg : Str → Option Value} {base : Heap} {C : Addr}
/-- what stands under the calls -/
structure Under (P : Program) (w : World) (K : PySem.W.Frag) (mg : Str → Option Value) (base : Heap) (C : Addr) : Prop where
  B : Bl mg
  T : HTxt K C
  mT : GI mg "MOST_TOSSES" 10
  m22 : GI mg "NOT_AS_TOLD" (-22)
  m33 : GI mg "THERE_IS_NONE" (-33)
  m75 : GI mg "TOO_MANY_TOSSES" (-75)
  m11 : GI mg "NOT_BEGUN" (-11)
  m2 : GI mg "NO_SUCH_COIN" (-2)
  tosses : Cal P w K mg base "tosses_of" ["row"] 1 (spTosses K)
  isCoin : Cal P w K mg base "is_coin" ["row"] 3 (spIsCoin K)
  isPoly : Cal P w K mg base "is_polynomial" ["numbers"] 1 (spIsPoly K)
  fewest : Cal P w K mg base "coin_with_fewest_tosses" ["numbers"] 4 (spFewest K)
  more : Cal P w K mg base "toss_more" ["row"] 1 (spMore K)
  fewer : Cal P w K mg base "toss_fewer" ["row"] 3 (spFewer K)
  opp : Cal P w K mg base "opposite" ["row"] 2 (spOpp K)
  both : Cal P w K mg base "both" ["first", "second"] 2 (spBoth K)
  either : Cal P w K mg base "either" ["first", "second"] 3 (spEither K)
  ifYes : Cal P w K mg base "if_yes" ["first", "second", "third"] 3 (spIf K)
  of_ : Cal P w K mg base "tossed_by" ["first", "second"] 4 (spOf K)
  mBegin : MCal P w K mg base C "begin" ["self"] 1 (spBegin C)
  mHas : MCal P w K mg base C "has" ["self", "i"] 1 (spHas C)
  mAdd : MCal P w K mg base C "add" ["self", "row"] 2 (spAdd C)
  mDrop : MCal P w K mg base C "drop" ["self", "i"] 2 (spDropH C)
  m6 : GI mg "NO_CHANGE" (-6)
  mLB : GI mg "LARGEST_B" 20
  power : Cal P w K mg base "power" ["base", "times"] 1 spPower
  chanceAt : Cal P w K mg base "chance_at" ["row", "a", "b"] 3 (spChanceAt K)
  leastF : Cal P w K mg base "with_fewest_tosses" ["row"] 4 (spLeastF K)
  same : Cal P w K mg base "are_same" ["first", "second"] 3 (spSame K)
  byPow : Cal P w K mg base "by_powers" ["row"] 3 (spByPow K)
  never : Cal P w K mg base "can_never_be" ["numbers", "a", "b"] 3 (spNever K)
  areT : Cal P w K mg base "are_tosses" ["tossed"] 1 (spAreT K)
  saysYes : Cal P w K mg base "says_yes" ["row", "tossed"] 3 (spSays K)
  unlike : Cal P w K mg base "first_unlike_pair" ["tossed"] 1 (spUnlike K)
  count : Cal P w K mg base "with_count" ["numbers"] 1 spCount
  mChanges : MCal P w K mg base C "changes" ["self"] 1 (spChanges C)
  mBack : MCal P w K mg base C "back" ["self"] 2 (spBack C)
abbrev pCall : List Str := ["holder", "numbers", "row"]
/-! ### begin -/
def spBeginF (K : PySem.W.Frag) (C : Addr) : Sp := fun vs H Q _ => ∃ (N : Addr → Prop) (h nA rA : Addr) (b : Bool) (cs : List (List Nat)) (ps : List (List (List Nat))), vs = [.ref h, .ref nA, .ref rA] ∧ HoldAt N C H h b cs ps ∧ Fr N H ∧ CallDone N C h H ⟨[], []⟩ (Kv394.say 0) Q
theorem ok_beginF (U : Under P w K mg base C) (D : DefAt K mg "begin" s_begin pCall) : Cal P w K mg base "begin" pCall 6 (spBeginF K C) := by
  refine D.cal sc_begin (fun vs H Q E h => ?_) (fun f cdv A outer s H vs Q E hr h => ?_)
  · obtain ⟨N, h, nA, rA, b, cs, ps, rfl, _⟩ := h
    rfl
  · obtain ⟨N, h, nA, rA, b, cs, ps, rfl, hA, fr, q⟩ := h
    have hA' := hA
    obtain ⟨dx, r, p, hh, _⟩ := hA
    refine ⟨_, pss_cons (ps_expr (pe_methC0 (pv 0) U.T.cl U.mBegin (hr.mono (by decide)))) (pss_one (ps_ret (pe_lst (pa_cons pe_int pa_nil)))), ?_⟩
    refine ⟨_, rfl, h, dx, _, rfl, hh, hf_no _ _ _ (by decide +kernel) (by decide +kernel) (by decide +kernel), N, h, b, cs, ps, rfl, hA', fr, fun H1 hA1 k1 => ?_⟩
    exact ⟨(by show 1 ≤ sizeLine; decide), fun p hp => q.put rfl hA1 k1 hp⟩
/-! ### coin -/
theorem ok_coinF (U : Under P w K mg base C) (D : DefAt K mg "coin" s_coin pCall) : Cal P w K mg base "coin" pCall 6 (spCallF K C (fun _ _ row => ∀ x ∈ row, 0 ≤ x) fun _ row => .coin (row.map Int.toNat)) := by
  refine D.cal sc_coin spCallF_len (fun f cdv A outer s H vs Q E hr h => ?_)
  obtain ⟨N, h, nA, rA, a, nums, row, rfl, hA, fr, g, hN, nR, hR, rq, q⟩ := h
  have hA' := hA
  obtain ⟨dx, r, p, hh, _⟩ := hA
  refine ⟨_, pss_cons (ps_if (pt_not (pt_val (pe_callC U.isCoin (hr.mono (by decide)) (by rfl) (pa_cons (pv 2) pa_nil)))) (pss_one (ps_ret (pe_lst (pa_cons (pe_gi U.m22 (by rfl)) pa_nil)))) pss_nil)
    (pss_one (ps_ret (pe_lst (pa_cons (pe_methC (pv 0) U.T.cl U.mAdd (hr.mono (by decide)) (pa_cons (pv 2) pa_nil)) pa_nil)))), ?_⟩
  refine ⟨_, rfl, rA, row, rfl, SqL.of hR, rq, _, rfl, ?_⟩
  cases e : Kv394.ok (row.map Int.toNat) with
  | false =>
    have e2 : a.does (.coin (row.map Int.toNat)) = (a, Kv394.say (-22)) := if_pos e
    rw [e2] at q
    exact ⟨(by show 1 ≤ sizeLine; decide), fun p hp => q.put rfl hA' (Kp.of (Same.refl H)) hp⟩
  | true =>
    have e2 : a.does (.coin (row.map Int.toNat)) = a.add (row.map Int.toNat) := if_neg (by rw [e]; decide)
    rw [e2] at q
    refine ⟨_, rfl, h, dx, _, rfl, hh, hf_no _ _ _ (by decide +kernel) (by decide +kernel) (by decide +kernel), _, rfl, N, h, rA, a, row.map Int.toNat, rfl, hA', fr, g, nR, by rw [iN_nats rq]; exact hR, fun H1 hA1 k1 => ?_⟩
    exact ⟨(by show 1 ≤ sizeLine; decide), fun p hp => q.put (add_nums _ _) hA1 k1 hp⟩
/-! ### poly -/
theorem ok_polyF (U : Under P w K mg base C) (D : DefAt K mg "poly" s_poly pCall) : Cal P w K mg base "poly" pCall 6 (spCallF K C (fun _ _ _ => True) fun _ row => .poly row) := by
  refine D.cal sc_poly spCallF_len (fun f cdv A outer s H vs Q E hr h => ?_)
  obtain ⟨N, h, nA, rA, a, nums, row, rfl, hA, fr, g, hN, nR, hR, rq, q⟩ := h
  have hA' := hA
  obtain ⟨dx, r, p, hh, _⟩ := hA
  refine ⟨_, pss_cons (ps_if (pt_not (pt_val (pe_callC U.isPoly (hr.mono (by decide)) (by rfl) (pa_cons (pv 2) pa_nil)))) (pss_one (ps_ret (pe_lst (pa_cons (pe_gi U.m22 (by rfl)) pa_nil)))) pss_nil)
    (pss_cons (ps_set (i := 3) sc_poly.nd rfl (Or.inl rfl) (pe_callC U.fewest (hr.mono (by decide)) (by rfl) (pa_cons (pv 2) pa_nil)))
    (pss_cons (ps_if (pt_cmpR op_isN (pv 3) pe_non (nomark _)) (pss_one (ps_ret (pe_lst (pa_cons (pe_gi U.m33 (by rfl)) pa_nil)))) pss_nil)
    (pss_one (ps_ret (pe_lst (pa_cons (pe_methC (pv 0) U.T.cl U.mAdd (hr.mono (by decide)) (pa_cons (pv 3) pa_nil)) pa_nil)))))), ?_⟩
  refine ⟨_, rfl, rA, row, rfl, SqL.of hR, _, rfl, ?_⟩
  cases e : Kv394.okPoly row with
  | false =>
    have e2 : a.does (.poly row) = (a, Kv394.say (-22)) := if_pos e
    rw [e2] at q
    exact ⟨(by show 1 ≤ sizeLine; decide), fun p hp => q.put rfl hA' (Kp.of (Same.refl H)) hp⟩
  | true =>
    refine ⟨_, rfl, rA, row, rfl, SqL.of hR, e, fun e3 H1 S1 => ?_, fun d e3 H1 p1 S1 n1 h1 => ?_⟩
    · have e2 : a.does (.poly row) = (a, Kv394.say (-33)) := (if_neg (by rw [e]; decide)).trans (by rw [e3])
      rw [e2] at q
      refine ⟨_, rfl, rfl, _, rfl, iteT ?_⟩
      exact ⟨(by show 1 ≤ sizeLine; decide), fun p hp => q.put rfl (HoldAt.same S1 hA') (Kp.of S1) hp⟩
    · have e2 : a.does (.poly row) = a.add d := (if_neg (by rw [e]; decide)).trans (by rw [e3])
      rw [e2] at q
      refine ⟨_, rfl, rfl, _, rfl, iteF ?_⟩
      refine ⟨_, rfl, h, dx, _, rfl, S1 _ _ hh, hf_no _ _ _ (by decide +kernel) (by decide +kernel) (by decide +kernel), _, rfl, N, h, p1, a, d, rfl, HoldAt.same S1 hA', fr.same S1, g, fr _ n1, h1, fun H2 hA2 k2 => ?_⟩
      exact ⟨(by show 1 ≤ sizeLine; decide), fun p hp => q.put (add_nums _ _) hA2 ((Kp.of S1).trans k2) hp⟩
/-! ### drop -/
theorem ok_dropF (U : Under P w K mg base C) (D : DefAt K mg "drop" s_drop pCall) : Cal P w K mg base "drop" pCall 6 (spCallF K C (fun a nums _ => Told a nums 1) fun nums _ => .drop (nums.getD 0 0).toNat) := by
  refine D.cal sc_drop spCallF_len (fun f cdv A outer s H vs Q E hr h => ?_)
  obtain ⟨N, h, nA, rA, a, nums, row, rfl, hA, fr, g, hN, nR, hR, rq, q⟩ := h
  have hA' := hA
  obtain ⟨dx, r, p, hh, _⟩ := hA
  refine ⟨_, pss_one (ps_ret (pe_lst (pa_cons (pe_methC (pv 0) U.T.cl U.mDrop (hr.mono (by decide)) (pa_cons (pe_ix ix_I (pv 1) pe_int (fun _ _ => rfl)) pa_nil)) pa_nil))), ?_⟩
  have t0 := rq.at_ 0 (by decide)
  have e2 : a.does (.drop (nums.getD 0 0).toNat) = (⟨a.coins.eraseIdx (nums.getD 0 0).toNat, (a.coins :: a.past).take 10⟩, Kv394.num (a.coins.length - 1)) := if_neg (rq.no (by decide))
  rw [e2] at q
  refine ⟨_, rfl, h, dx, _, rfl, hh, hf_no _ _ _ (by decide +kernel) (by decide +kernel) (by decide +kernel), _, rfl, nA, nums, 0, 0, rfl, rfl, hN, rfl, rq.len, N, h, a, (nums.getD 0 0).toNat, by rw [Int.toNat_of_nonneg t0.1], hA', fr, g, t0.2, fun H1 hA1 k1 => ?_⟩
  exact ⟨(by show 1 ≤ sizeLine; decide), fun p hp => q.put rfl hA1 k1 hp⟩
/-! ### more -/
theorem ok_moreF (U : Under P w K mg base C) (D : DefAt K mg "more" s_more pCall) : Cal P w K mg base "more" pCall 6 (spCallF K C (fun a nums _ => Told a nums 1) fun nums _ => .more (nums.getD 0 0).toNat) := by
  refine D.cal sc_more spCallF_len (fun f cdv A outer s H vs Q E hr h => ?_)
  obtain ⟨N, h, nA, rA, a, nums, row, rfl, hA, fr, g, hN, nR, hR, rq, q⟩ := h
  have hA' := hA
  obtain ⟨dx, r, p, hh, hC, _⟩ := hA
  obtain ⟨as, ha, hi⟩ := hC.at
  have t0 := rq.at_ 0 (by decide)
  obtain ⟨x, hx, hxl⟩ := hi _ t0.1 t0.2
  have ho := g.coin (rq.no (j := 0) (by decide))
  refine ⟨_, pss_cons (ps_set (i := 3) sc_more.nd rfl (Or.inl rfl) (pe_ix ix_list (pe_fld (pv 0) rfl) (pe_ix ix_I (pv 1) pe_int (fun _ _ => rfl)) (fun _ _ => rfl)))
    (pss_cons (ps_if (pt_cmpR op_eq (pe_callC U.tosses (hr.mono (by decide)) (by rfl) (pa_cons (pv 3) pa_nil)) (pe_gi U.mT (by rfl)) (nomark _)) (pss_one (ps_ret (pe_lst (pa_cons (pe_gi U.m75 (by rfl)) pa_nil)))) pss_nil)
    (pss_one (ps_ret (pe_lst (pa_cons (pe_methC (pv 0) U.T.cl U.mAdd (hr.mono (by decide)) (pa_cons (pe_callC U.more (hr.mono (by decide)) (by rfl) (pa_cons (pv 3) pa_nil)) pa_nil)) pa_nil))))), ?_⟩
  refine ⟨_, rfl, h, C, dx, _, _, rfl, hh, U.T.cl, U.T.nR, hf_rows _ _ _, _, rfl, nA, nums, 0, 0, rfl, rfl, hN, rfl, rq.len, r, _, _, _, rfl, rfl, SqL.of ha, hx, ?_⟩
  refine ⟨_, rfl, x, _, rfl, SqL.of hxl, rfl, _, rfl, ?_⟩
  have lt := len_tosses ho.pos
  have ec : a.coins.getD (nums.getD 0 0).toNat [] = a.coin (nums.getD 0 0).toNat := rfl
  rw [iN_len, ec]
  refine ite2 (fun c0 => ?_) (fun c0 => ?_)
  · have c1 : ((a.coin (nums.getD 0 0).toNat).length : Int) - 1 = 10 := V.int.inj (of_decide_eq_true c0)
    have e2 : a.does (.more (nums.getD 0 0).toNat) = (a, Kv394.say (-75)) := (if_neg (rq.no (by decide))).trans (if_pos (by omega))
    rw [e2] at q
    exact ⟨(by show 1 ≤ sizeLine; decide), fun p hp => q.put rfl hA' (Kp.of (Same.refl H)) hp⟩
  · have c1 : ¬ ((a.coin (nums.getD 0 0).toNat).length : Int) - 1 = 10 := fun z => c0 (decide_eq_true (by rw [z]))
    have hm := ho.most
    have e2 : a.does (.more (nums.getD 0 0).toNat) = a.add (Kv394.more (a.coin (nums.getD 0 0).toNat)) := (if_neg (rq.no (by decide))).trans (if_neg (by omega))
    rw [e2] at q
    refine ⟨_, rfl, h, dx, _, rfl, hh, hf_no _ _ _ (by decide +kernel) (by decide +kernel) (by decide +kernel), _, rfl, x, _, rfl, SqL.of hxl, ho.len1000.1, ho.len1000.2, fun H1 p1 S1 n1 h1 => ?_⟩
    refine ⟨N, h, p1, a, _, rfl, HoldAt.same S1 hA', fr.same S1, g, fr _ n1, h1, fun H2 hA2 k2 => ?_⟩
    exact ⟨(by show 1 ≤ sizeLine; decide), fun p hp => q.put (add_nums _ _) hA2 ((Kp.of S1).trans k2) hp⟩
/-! ### less -/
theorem ok_lessF (U : Under P w K mg base C) (D : DefAt K mg "less" s_less pCall) : Cal P w K mg base "less" pCall 6 (spCallF K C (fun a nums _ => Told a nums 1) fun nums _ => .less (nums.getD 0 0).toNat) := by
  refine D.cal sc_less spCallF_len (fun f cdv A outer s H vs Q E hr h => ?_)
  obtain ⟨N, h, nA, rA, a, nums, row, rfl, hA, fr, g, hN, nR, hR, rq, q⟩ := h
  have hA' := hA
  obtain ⟨dx, r, p, hh, hC, _⟩ := hA
  obtain ⟨as, ha, hi⟩ := hC.at
  have t0 := rq.at_ 0 (by decide)
  obtain ⟨x, hx, hxl⟩ := hi _ t0.1 t0.2
  have ho := g.coin (rq.no (j := 0) (by decide))
  refine ⟨_, pss_cons (ps_set (i := 3) sc_less.nd rfl (Or.inl rfl) (pe_callC U.fewer (hr.mono (by decide)) (by rfl) (pa_cons (pe_ix ix_list (pe_fld (pv 0) rfl) (pe_ix ix_I (pv 1) pe_int (fun _ _ => rfl)) (fun _ _ => rfl)) pa_nil)))
    (pss_cons (ps_if (pt_cmpR op_isN (pv 3) pe_non (nomark _)) (pss_one (ps_ret (pe_lst (pa_cons (pe_gi U.m33 (by rfl)) pa_nil)))) pss_nil)
    (pss_one (ps_ret (pe_lst (pa_cons (pe_methC (pv 0) U.T.cl U.mAdd (hr.mono (by decide)) (pa_cons (pv 3) pa_nil)) pa_nil))))), ?_⟩
  refine ⟨_, rfl, h, C, dx, _, _, rfl, hh, U.T.cl, U.T.nR, hf_rows _ _ _, _, rfl, nA, nums, 0, 0, rfl, rfl, hN, rfl, rq.len, r, _, _, _, rfl, rfl, SqL.of ha, hx, ?_⟩
  refine ⟨x, a.coin (nums.getD 0 0).toNat, rfl, SqL.of hxl, ho.pos, ho.most, fun e3 H1 S1 => ?_, fun d e3 H1 p1 S1 n1 h1 => ?_⟩
  · have e2 : a.does (.less (nums.getD 0 0).toNat) = (a, Kv394.say (-33)) := (if_neg (rq.no (by decide))).trans (by rw [e3])
    rw [e2] at q
    refine ⟨_, rfl, rfl, _, rfl, iteT ?_⟩
    exact ⟨(by show 1 ≤ sizeLine; decide), fun p hp => q.put rfl (HoldAt.same S1 hA') (Kp.of S1) hp⟩
  · have e2 : a.does (.less (nums.getD 0 0).toNat) = a.add d := (if_neg (rq.no (by decide))).trans (by rw [e3])
    rw [e2] at q
    refine ⟨_, rfl, rfl, _, rfl, iteF ?_⟩
    refine ⟨_, rfl, h, dx, _, rfl, S1 _ _ hh, hf_no _ _ _ (by decide +kernel) (by decide +kernel) (by decide +kernel), _, rfl, N, h, p1, a, d, rfl, HoldAt.same S1 hA', fr.same S1, g, fr _ n1, h1, fun H2 hA2 k2 => ?_⟩
    exact ⟨(by show 1 ≤ sizeLine; decide), fun p hp => q.put (add_nums _ _) hA2 ((Kp.of S1).trans k2) hp⟩
/-! ### not -/
theorem ok_notF (U : Under P w K mg base C) (D : DefAt K mg "not_of" s_not_of pCall) : Cal P w K mg base "not_of" pCall 6 (spCallF K C (fun a nums _ => Told a nums 1) fun nums _ => .not_ (nums.getD 0 0).toNat) := by
  refine D.cal sc_not_of spCallF_len (fun f cdv A outer s H vs Q E hr h => ?_)
  obtain ⟨N, h, nA, rA, a, nums, row, rfl, hA, fr, g, hN, nR, hR, rq, q⟩ := h
  have hA' := hA
  obtain ⟨dx, r, p, hh, hC, _⟩ := hA
  obtain ⟨as, ha, hi⟩ := hC.at
  have t0 := rq.at_ 0 (by decide)
  obtain ⟨x, hx, hxl⟩ := hi _ t0.1 t0.2
  have ho := g.coin (rq.no (j := 0) (by decide))
  refine ⟨_, pss_one (ps_ret (pe_lst (pa_cons (pe_methC (pv 0) U.T.cl U.mAdd (hr.mono (by decide)) (pa_cons (pe_callC U.opp (hr.mono (by decide)) (by rfl) (pa_cons (pe_ix ix_list (pe_fld (pv 0) rfl) (pe_ix ix_I (pv 1) pe_int (fun _ _ => rfl)) (fun _ _ => rfl)) pa_nil)) pa_nil)) pa_nil))), ?_⟩
  have e2 : a.does (.not_ (nums.getD 0 0).toNat) = a.add (Kv394.not_ (a.coin (nums.getD 0 0).toNat)) := if_neg (rq.no (by decide))
  rw [e2] at q
  refine ⟨_, rfl, h, dx, _, rfl, hh, hf_no _ _ _ (by decide +kernel) (by decide +kernel) (by decide +kernel), ?_⟩
  refine ⟨_, rfl, h, C, dx, _, _, rfl, hh, U.T.cl, U.T.nR, hf_rows _ _ _, _, rfl, nA, nums, 0, 0, rfl, rfl, hN, rfl, rq.len, r, _, _, _, rfl, rfl, SqL.of ha, hx, ?_⟩
  refine ⟨x, a.coin (nums.getD 0 0).toNat, rfl, SqL.of hxl, ho, fun H1 p1 S1 n1 h1 => ?_⟩
  refine ⟨N, h, p1, a, _, rfl, HoldAt.same S1 hA', fr.same S1, g, fr _ n1, h1, fun H2 hA2 k2 => ?_⟩
  exact ⟨(by show 1 ≤ sizeLine; decide), fun p hp => q.put (add_nums _ _) hA2 ((Kp.of S1).trans k2) hp⟩
end
end Mc

end
section
set_option Elab.async false
set_option linter.all false
set_option maxRecDepth 100000
set_option maxHeartbeats 4000000
/-! The calls and, or, if, of. -/
namespace Mc
open PySem PySem.Spec PyProof.Rows L2
open Kv394 (choose tosses)
section
variable {P : Program} {w : World} {K : PySem.W.Frag} {mg : Str → Option Value} {base : Heap} {C : Addr}
theorem Told.no2 {a : Kv394.Abs} {nums : List Int} (t : Told a nums 2) : ¬ (a.no (nums.getD 0 0).toNat = true ∨ a.no (nums.getD 1 0).toNat = true) := fun z => z.elim (t.no (by decide)) (t.no (by decide))
theorem Told.no3 {a : Kv394.Abs} {nums : List Int} (t : Told a nums 3) : ¬ (a.no (nums.getD 0 0).toNat = true ∨ a.no (nums.getD 1 0).toNat = true ∨ a.no (nums.getD 2 0).toNat = true) := fun z => z.elim (t.no (by decide)) fun z => z.elim (t.no (by decide)) (t.no (by decide))
/-! ### and -/
theorem ok_andF (U : Under P w K mg base C) (D : DefAt K mg "and_of" s_and_of pCall) : Cal P w K mg base "and_of" pCall 6 (spCallF K C (fun a nums _ => Told a nums 2) fun nums _ => .and_ (nums.getD 0 0).toNat (nums.getD 1 0).toNat) := by
  refine D.cal sc_and_of spCallF_len (fun f cdv A outer s H vs Q E hr h => ?_)
  obtain ⟨N, h, nA, rA, a, nums, row, rfl, hA, fr, g, hN, nR, hR, rq, q⟩ := h
  have hA' := hA
  obtain ⟨dx, r, p, hh, hC, _⟩ := hA
  obtain ⟨as, ha, hi⟩ := hC.at
  have t0 := rq.at_ 0 (by decide)
  have t1 := rq.at_ 1 (by decide)
  obtain ⟨x, hx, hxl⟩ := hi _ t0.1 t0.2
  obtain ⟨y, hy, hyl⟩ := hi _ t1.1 t1.2
  have hx0 := g.coin (rq.no (j := 0) (by decide))
  have hy0 := g.coin (rq.no (j := 1) (by decide))
  refine ⟨_, pss_cons (ps_set (i := 3) sc_and_of.nd rfl (Or.inl rfl) (pe_ix ix_list (pe_fld (pv 0) rfl) (pe_ix ix_I (pv 1) pe_int (fun _ _ => rfl)) (fun _ _ => rfl)))
    (pss_cons (ps_set (i := 4) sc_and_of.nd rfl (Or.inl rfl) (pe_ix ix_list (pe_fld (pv 0) rfl) (pe_ix ix_I (pv 1) pe_int (fun _ _ => rfl)) (fun _ _ => rfl)))
    (pss_cons (ps_if (pt_cmpR op_gt (pe_op op_add (pe_callC U.tosses (hr.mono (by decide)) (by rfl) (pa_cons (pv 3) pa_nil)) (pe_callC U.tosses (hr.mono (by decide)) (by rfl) (pa_cons (pv 4) pa_nil))) (pe_gi U.mT (by rfl)) (nomark _)) (pss_one (ps_ret (pe_lst (pa_cons (pe_gi U.m75 (by rfl)) pa_nil)))) pss_nil)
    (pss_one (ps_ret (pe_lst (pa_cons (pe_methC (pv 0) U.T.cl U.mAdd (hr.mono (by decide)) (pa_cons (pe_callC U.both (hr.mono (by decide)) (by rfl) (pa_cons (pv 3) (pa_cons (pv 4) pa_nil))) pa_nil)) pa_nil)))))), ?_⟩
  refine ⟨_, rfl, h, C, dx, _, _, rfl, hh, U.T.cl, U.T.nR, hf_rows _ _ _, _, rfl, nA, nums, 0, 0, rfl, rfl, hN, rfl, Nat.le_trans (by decide) rq.len, r, _, _, _, rfl, rfl, SqL.of ha, hx, ?_⟩
  refine ⟨_, rfl, h, C, dx, _, _, rfl, hh, U.T.cl, U.T.nR, hf_rows _ _ _, _, rfl, nA, nums, 1, 1, rfl, rfl, hN, rfl, rq.len, r, _, _, _, rfl, rfl, SqL.of ha, hy, ?_⟩
  refine ⟨_, rfl, x, _, rfl, SqL.of hxl, _, rfl, y, _, rfl, SqL.of hyl, _, _, rfl, rfl, _, _, rfl, rfl, _, rfl, ?_⟩
  have lx := len_tosses hx0.pos
  have ly := len_tosses hy0.pos
  have ex : a.coins.getD (nums.getD 0 0).toNat [] = a.coin (nums.getD 0 0).toNat := rfl
  have ey : a.coins.getD (nums.getD 1 0).toNat [] = a.coin (nums.getD 1 0).toNat := rfl
  rw [iN_len, iN_len, ex, ey]
  refine ite2 (fun c0 => ?_) (fun c0 => ?_)
  · have c1 : (10 : Int) < ((a.coin (nums.getD 0 0).toNat).length : Int) - 1 + (((a.coin (nums.getD 1 0).toNat).length : Int) - 1) := of_decide_eq_true c0
    have e2 : a.does (.and_ (nums.getD 0 0).toNat (nums.getD 1 0).toNat) = (a, Kv394.say (-75)) := (if_neg rq.no2).trans (if_pos (by omega))
    rw [e2] at q
    exact ⟨(by show 1 ≤ sizeLine; decide), fun p hp => q.put rfl hA' (Kp.of (Same.refl H)) hp⟩
  · have c1 : ¬ (10 : Int) < ((a.coin (nums.getD 0 0).toNat).length : Int) - 1 + (((a.coin (nums.getD 1 0).toNat).length : Int) - 1) := fun z => c0 (decide_eq_true z)
    have e2 : a.does (.and_ (nums.getD 0 0).toNat (nums.getD 1 0).toNat) = a.add (Kv394.and_ (a.coin (nums.getD 0 0).toNat) (a.coin (nums.getD 1 0).toNat)) := (if_neg rq.no2).trans (if_neg (by omega))
    rw [e2] at q
    refine ⟨_, rfl, h, dx, _, rfl, hh, hf_no _ _ _ (by decide +kernel) (by decide +kernel) (by decide +kernel), ?_⟩
    refine ⟨_, rfl, _, rfl, x, y, _, _, rfl, SqL.of hxl, SqL.of hyl, hx0.len1000, hy0.len1000, hx0.big, fun H1 p1 S1 n1 h1 => ?_⟩
    refine ⟨N, h, p1, a, _, rfl, HoldAt.same S1 hA', fr.same S1, g, fr _ n1, h1, fun H2 hA2 k2 => ?_⟩
    exact ⟨(by show 1 ≤ sizeLine; decide), fun p hp => q.put (add_nums _ _) hA2 ((Kp.of S1).trans k2) hp⟩
/-! ### or -/
theorem ok_orF (U : Under P w K mg base C) (D : DefAt K mg "or_of" s_or_of pCall) : Cal P w K mg base "or_of" pCall 6 (spCallF K C (fun a nums _ => Told a nums 2) fun nums _ => .or_ (nums.getD 0 0).toNat (nums.getD 1 0).toNat) := by
  refine D.cal sc_or_of spCallF_len (fun f cdv A outer s H vs Q E hr h => ?_)
  obtain ⟨N, h, nA, rA, a, nums, row, rfl, hA, fr, g, hN, nR, hR, rq, q⟩ := h
  have hA' := hA
  obtain ⟨dx, r, p, hh, hC, _⟩ := hA
  obtain ⟨as, ha, hi⟩ := hC.at
  have t0 := rq.at_ 0 (by decide)
  have t1 := rq.at_ 1 (by decide)
  obtain ⟨x, hx, hxl⟩ := hi _ t0.1 t0.2
  obtain ⟨y, hy, hyl⟩ := hi _ t1.1 t1.2
  have hx0 := g.coin (rq.no (j := 0) (by decide))
  have hy0 := g.coin (rq.no (j := 1) (by decide))
  refine ⟨_, pss_cons (ps_set (i := 3) sc_or_of.nd rfl (Or.inl rfl) (pe_ix ix_list (pe_fld (pv 0) rfl) (pe_ix ix_I (pv 1) pe_int (fun _ _ => rfl)) (fun _ _ => rfl)))
    (pss_cons (ps_set (i := 4) sc_or_of.nd rfl (Or.inl rfl) (pe_ix ix_list (pe_fld (pv 0) rfl) (pe_ix ix_I (pv 1) pe_int (fun _ _ => rfl)) (fun _ _ => rfl)))
    (pss_cons (ps_if (pt_cmpR op_gt (pe_op op_add (pe_callC U.tosses (hr.mono (by decide)) (by rfl) (pa_cons (pv 3) pa_nil)) (pe_callC U.tosses (hr.mono (by decide)) (by rfl) (pa_cons (pv 4) pa_nil))) (pe_gi U.mT (by rfl)) (nomark _)) (pss_one (ps_ret (pe_lst (pa_cons (pe_gi U.m75 (by rfl)) pa_nil)))) pss_nil)
    (pss_one (ps_ret (pe_lst (pa_cons (pe_methC (pv 0) U.T.cl U.mAdd (hr.mono (by decide)) (pa_cons (pe_callC U.either (hr.mono (by decide)) (by rfl) (pa_cons (pv 3) (pa_cons (pv 4) pa_nil))) pa_nil)) pa_nil)))))), ?_⟩
  refine ⟨_, rfl, h, C, dx, _, _, rfl, hh, U.T.cl, U.T.nR, hf_rows _ _ _, _, rfl, nA, nums, 0, 0, rfl, rfl, hN, rfl, Nat.le_trans (by decide) rq.len, r, _, _, _, rfl, rfl, SqL.of ha, hx, ?_⟩
  refine ⟨_, rfl, h, C, dx, _, _, rfl, hh, U.T.cl, U.T.nR, hf_rows _ _ _, _, rfl, nA, nums, 1, 1, rfl, rfl, hN, rfl, rq.len, r, _, _, _, rfl, rfl, SqL.of ha, hy, ?_⟩
  refine ⟨_, rfl, x, _, rfl, SqL.of hxl, _, rfl, y, _, rfl, SqL.of hyl, _, _, rfl, rfl, _, _, rfl, rfl, _, rfl, ?_⟩
  have lx := len_tosses hx0.pos
  have ly := len_tosses hy0.pos
  have ex : a.coins.getD (nums.getD 0 0).toNat [] = a.coin (nums.getD 0 0).toNat := rfl
  have ey : a.coins.getD (nums.getD 1 0).toNat [] = a.coin (nums.getD 1 0).toNat := rfl
  rw [iN_len, iN_len, ex, ey]
  refine ite2 (fun c0 => ?_) (fun c0 => ?_)
  · have c1 : (10 : Int) < ((a.coin (nums.getD 0 0).toNat).length : Int) - 1 + (((a.coin (nums.getD 1 0).toNat).length : Int) - 1) := of_decide_eq_true c0
    have e2 : a.does (.or_ (nums.getD 0 0).toNat (nums.getD 1 0).toNat) = (a, Kv394.say (-75)) := (if_neg rq.no2).trans (if_pos (by omega))
    rw [e2] at q
    exact ⟨(by show 1 ≤ sizeLine; decide), fun p hp => q.put rfl hA' (Kp.of (Same.refl H)) hp⟩
  · have c1 : ¬ (10 : Int) < ((a.coin (nums.getD 0 0).toNat).length : Int) - 1 + (((a.coin (nums.getD 1 0).toNat).length : Int) - 1) := fun z => c0 (decide_eq_true z)
    have e2 : a.does (.or_ (nums.getD 0 0).toNat (nums.getD 1 0).toNat) = a.add (Kv394.or_ (a.coin (nums.getD 0 0).toNat) (a.coin (nums.getD 1 0).toNat)) := (if_neg rq.no2).trans (if_neg (by omega))
    rw [e2] at q
    refine ⟨_, rfl, h, dx, _, rfl, hh, hf_no _ _ _ (by decide +kernel) (by decide +kernel) (by decide +kernel), ?_⟩
    refine ⟨_, rfl, _, rfl, x, y, a.coin (nums.getD 0 0).toNat, a.coin (nums.getD 1 0).toNat, rfl, SqL.of hxl, SqL.of hyl, hx0, hy0, by omega, fun H1 p1 S1 n1 h1 => ?_⟩
    refine ⟨N, h, p1, a, _, rfl, HoldAt.same S1 hA', fr.same S1, g, fr _ n1, h1, fun H2 hA2 k2 => ?_⟩
    exact ⟨(by show 1 ≤ sizeLine; decide), fun p hp => q.put (add_nums _ _) hA2 ((Kp.of S1).trans k2) hp⟩
/-! ### if -/
theorem ok_ifF (U : Under P w K mg base C) (D : DefAt K mg "if_then" s_if_then pCall) : Cal P w K mg base "if_then" pCall 6 (spCallF K C (fun a nums _ => Told a nums 3) fun nums _ => .if_ (nums.getD 0 0).toNat (nums.getD 1 0).toNat (nums.getD 2 0).toNat) := by
  refine D.cal sc_if_then spCallF_len (fun f cdv A outer s H vs Q E hr h => ?_)
  obtain ⟨N, h, nA, rA, a, nums, row, rfl, hA, fr, g, hN, nR, hR, rq, q⟩ := h
  have hA' := hA
  obtain ⟨dx, r, p, hh, hC, _⟩ := hA
  obtain ⟨as, ha, hi⟩ := hC.at
  have t0 := rq.at_ 0 (by decide)
  have t1 := rq.at_ 1 (by decide)
  have t2 := rq.at_ 2 (by decide)
  obtain ⟨x, hx, hxl⟩ := hi _ t0.1 t0.2
  obtain ⟨y, hy, hyl⟩ := hi _ t1.1 t1.2
  obtain ⟨z, hz, hzl⟩ := hi _ t2.1 t2.2
  have hx0 := g.coin (rq.no (j := 0) (by decide))
  have hy0 := g.coin (rq.no (j := 1) (by decide))
  have hz0 := g.coin (rq.no (j := 2) (by decide))
  refine ⟨_, pss_cons (ps_set (i := 3) sc_if_then.nd rfl (Or.inl rfl) (pe_ix ix_list (pe_fld (pv 0) rfl) (pe_ix ix_I (pv 1) pe_int (fun _ _ => rfl)) (fun _ _ => rfl)))
    (pss_cons (ps_set (i := 4) sc_if_then.nd rfl (Or.inl rfl) (pe_ix ix_list (pe_fld (pv 0) rfl) (pe_ix ix_I (pv 1) pe_int (fun _ _ => rfl)) (fun _ _ => rfl)))
    (pss_cons (ps_set (i := 5) sc_if_then.nd rfl (Or.inl rfl) (pe_ix ix_list (pe_fld (pv 0) rfl) (pe_ix ix_I (pv 1) pe_int (fun _ _ => rfl)) (fun _ _ => rfl)))
    (pss_cons (ps_if (pt_cmpR op_gt (pe_op op_add (pe_callC U.tosses (hr.mono (by decide)) (by rfl) (pa_cons (pv 3) pa_nil))
        (pe_callB (call_max2 rfl) (by rfl) U.B.max (by decide +kernel) (pa_cons (pe_callC U.tosses (hr.mono (by decide)) (by rfl) (pa_cons (pv 4) pa_nil)) (pa_cons (pe_callC U.tosses (hr.mono (by decide)) (by rfl) (pa_cons (pv 5) pa_nil)) pa_nil)))) (pe_gi U.mT (by rfl)) (nomark _)) (pss_one (ps_ret (pe_lst (pa_cons (pe_gi U.m75 (by rfl)) pa_nil)))) pss_nil)
    (pss_one (ps_ret (pe_lst (pa_cons (pe_methC (pv 0) U.T.cl U.mAdd (hr.mono (by decide)) (pa_cons (pe_callC U.ifYes (hr.mono (by decide)) (by rfl) (pa_cons (pv 3) (pa_cons (pv 4) (pa_cons (pv 5) pa_nil)))) pa_nil)) pa_nil))))))), ?_⟩
  refine ⟨_, rfl, h, C, dx, _, _, rfl, hh, U.T.cl, U.T.nR, hf_rows _ _ _, _, rfl, nA, nums, 0, 0, rfl, rfl, hN, rfl, Nat.le_trans (by decide) rq.len, r, _, _, _, rfl, rfl, SqL.of ha, hx, ?_⟩
  refine ⟨_, rfl, h, C, dx, _, _, rfl, hh, U.T.cl, U.T.nR, hf_rows _ _ _, _, rfl, nA, nums, 1, 1, rfl, rfl, hN, rfl, Nat.le_trans (by decide) rq.len, r, _, _, _, rfl, rfl, SqL.of ha, hy, ?_⟩
  refine ⟨_, rfl, h, C, dx, _, _, rfl, hh, U.T.cl, U.T.nR, hf_rows _ _ _, _, rfl, nA, nums, 2, 2, rfl, rfl, hN, rfl, rq.len, r, _, _, _, rfl, rfl, SqL.of ha, hz, ?_⟩
  refine ⟨_, rfl, x, _, rfl, SqL.of hxl, _, rfl, y, _, rfl, SqL.of hyl, _, rfl, z, _, rfl, SqL.of hzl, _, _, rfl, _, _, rfl, rfl, _, _, rfl, rfl, _, rfl, ?_⟩
  have lx := len_tosses hx0.pos
  have ly := len_tosses hy0.pos
  have lz := len_tosses hz0.pos
  have ex : a.coins.getD (nums.getD 0 0).toNat [] = a.coin (nums.getD 0 0).toNat := rfl
  have ey : a.coins.getD (nums.getD 1 0).toNat [] = a.coin (nums.getD 1 0).toNat := rfl
  have ez : a.coins.getD (nums.getD 2 0).toNat [] = a.coin (nums.getD 2 0).toNat := rfl
  rw [iN_len, iN_len, iN_len, ex, ey, ez]
  have em : (if ((a.coin (nums.getD 2 0).toNat).length : Int) - 1 > ((a.coin (nums.getD 1 0).toNat).length : Int) - 1 then ((a.coin (nums.getD 2 0).toNat).length : Int) - 1 else ((a.coin (nums.getD 1 0).toNat).length : Int) - 1) = ((max (tosses (a.coin (nums.getD 1 0).toNat)) (tosses (a.coin (nums.getD 2 0).toNat)) : Nat) : Int) := by
    split <;> omega
  rw [em]
  refine ite2 (fun c0 => ?_) (fun c0 => ?_)
  · have c1 : (10 : Int) < ((a.coin (nums.getD 0 0).toNat).length : Int) - 1 + ((max (tosses (a.coin (nums.getD 1 0).toNat)) (tosses (a.coin (nums.getD 2 0).toNat)) : Nat) : Int) := of_decide_eq_true c0
    have e2 : a.does (.if_ (nums.getD 0 0).toNat (nums.getD 1 0).toNat (nums.getD 2 0).toNat) = (a, Kv394.say (-75)) := (if_neg rq.no3).trans (if_pos (by omega))
    rw [e2] at q
    exact ⟨(by show 1 ≤ sizeLine; decide), fun p hp => q.put rfl hA' (Kp.of (Same.refl H)) hp⟩
  · have c1 : ¬ (10 : Int) < ((a.coin (nums.getD 0 0).toNat).length : Int) - 1 + ((max (tosses (a.coin (nums.getD 1 0).toNat)) (tosses (a.coin (nums.getD 2 0).toNat)) : Nat) : Int) := fun z => c0 (decide_eq_true z)
    have e2 : a.does (.if_ (nums.getD 0 0).toNat (nums.getD 1 0).toNat (nums.getD 2 0).toNat) = a.add (Kv394.if_ (a.coin (nums.getD 0 0).toNat) (a.coin (nums.getD 1 0).toNat) (a.coin (nums.getD 2 0).toNat)) := (if_neg rq.no3).trans (if_neg (by omega))
    rw [e2] at q
    refine ⟨_, rfl, h, dx, _, rfl, hh, hf_no _ _ _ (by decide +kernel) (by decide +kernel) (by decide +kernel), ?_⟩
    refine ⟨_, rfl, _, rfl, _, rfl, x, y, z, a.coin (nums.getD 0 0).toNat, a.coin (nums.getD 1 0).toNat, a.coin (nums.getD 2 0).toNat, rfl, SqL.of hxl, SqL.of hyl, SqL.of hzl, hx0, hy0, hz0, by omega, fun H1 p1 S1 n1 h1 => ?_⟩
    refine ⟨N, h, p1, a, _, rfl, HoldAt.same S1 hA', fr.same S1, g, fr _ n1, h1, fun H2 hA2 k2 => ?_⟩
    exact ⟨(by show 1 ≤ sizeLine; decide), fun p hp => q.put (add_nums _ _) hA2 ((Kp.of S1).trans k2) hp⟩
/-! ### of -/
theorem ok_ofF (U : Under P w K mg base C) (D : DefAt K mg "of" s_of pCall) : Cal P w K mg base "of" pCall 6 (spCallF K C (fun a nums _ => Told a nums 2) fun nums _ => .of_ (nums.getD 0 0).toNat (nums.getD 1 0).toNat) := by
  refine D.cal sc_of spCallF_len (fun f cdv A outer s H vs Q E hr h => ?_)
  obtain ⟨N, h, nA, rA, a, nums, row, rfl, hA, fr, g, hN, nR, hR, rq, q⟩ := h
  have hA' := hA
  obtain ⟨dx, r, p, hh, hC, _⟩ := hA
  obtain ⟨as, ha, hi⟩ := hC.at
  have t0 := rq.at_ 0 (by decide)
  have t1 := rq.at_ 1 (by decide)
  obtain ⟨x, hx, hxl⟩ := hi _ t0.1 t0.2
  obtain ⟨y, hy, hyl⟩ := hi _ t1.1 t1.2
  have hx0 := g.coin (rq.no (j := 0) (by decide))
  have hy0 := g.coin (rq.no (j := 1) (by decide))
  refine ⟨_, pss_cons (ps_set (i := 3) sc_of.nd rfl (Or.inl rfl) (pe_ix ix_list (pe_fld (pv 0) rfl) (pe_ix ix_I (pv 1) pe_int (fun _ _ => rfl)) (fun _ _ => rfl)))
    (pss_cons (ps_set (i := 4) sc_of.nd rfl (Or.inl rfl) (pe_ix ix_list (pe_fld (pv 0) rfl) (pe_ix ix_I (pv 1) pe_int (fun _ _ => rfl)) (fun _ _ => rfl)))
    (pss_cons (ps_if (pt_cmpR op_gt (pe_op op_mul (pe_callC U.tosses (hr.mono (by decide)) (by rfl) (pa_cons (pv 3) pa_nil)) (pe_callC U.tosses (hr.mono (by decide)) (by rfl) (pa_cons (pv 4) pa_nil))) (pe_gi U.mT (by rfl)) (nomark _)) (pss_one (ps_ret (pe_lst (pa_cons (pe_gi U.m75 (by rfl)) pa_nil)))) pss_nil)
    (pss_one (ps_ret (pe_lst (pa_cons (pe_methC (pv 0) U.T.cl U.mAdd (hr.mono (by decide)) (pa_cons (pe_callC U.of_ (hr.mono (by decide)) (by rfl) (pa_cons (pv 3) (pa_cons (pv 4) pa_nil))) pa_nil)) pa_nil)))))), ?_⟩
  refine ⟨_, rfl, h, C, dx, _, _, rfl, hh, U.T.cl, U.T.nR, hf_rows _ _ _, _, rfl, nA, nums, 0, 0, rfl, rfl, hN, rfl, Nat.le_trans (by decide) rq.len, r, _, _, _, rfl, rfl, SqL.of ha, hx, ?_⟩
  refine ⟨_, rfl, h, C, dx, _, _, rfl, hh, U.T.cl, U.T.nR, hf_rows _ _ _, _, rfl, nA, nums, 1, 1, rfl, rfl, hN, rfl, rq.len, r, _, _, _, rfl, rfl, SqL.of ha, hy, ?_⟩
  have lx := len_tosses hx0.pos
  have ly := len_tosses hy0.pos
  have mx := hx0.most
  have ex : a.coins.getD (nums.getD 0 0).toNat [] = a.coin (nums.getD 0 0).toNat := rfl
  have ey : a.coins.getD (nums.getD 1 0).toNat [] = a.coin (nums.getD 1 0).toNat := rfl
  refine ⟨_, rfl, x, _, rfl, SqL.of hxl, _, rfl, y, _, rfl, SqL.of hyl, _, _, rfl, rfl, .inl ⟨by rw [iN_len, ex]; omega, by rw [iN_len, ex]; omega⟩, _, _, rfl, rfl, _, rfl, ?_⟩
  rw [iN_len, iN_len, ex, ey, show ((a.coin (nums.getD 0 0).toNat).length : Int) - 1 = (tosses (a.coin (nums.getD 0 0).toNat) : Int) by omega, show ((a.coin (nums.getD 1 0).toNat).length : Int) - 1 = (tosses (a.coin (nums.getD 1 0).toNat) : Int) by omega, ← Int.natCast_mul]
  refine ite2 (fun c0 => ?_) (fun c0 => ?_)
  · have c1 : (10 : Int) < ((tosses (a.coin (nums.getD 0 0).toNat) * tosses (a.coin (nums.getD 1 0).toNat) : Nat) : Int) := of_decide_eq_true c0
    have e2 : a.does (.of_ (nums.getD 0 0).toNat (nums.getD 1 0).toNat) = (a, Kv394.say (-75)) := (if_neg rq.no2).trans (if_pos (by omega))
    rw [e2] at q
    exact ⟨(by show 1 ≤ sizeLine; decide), fun p hp => q.put rfl hA' (Kp.of (Same.refl H)) hp⟩
  · have c1 : ¬ (10 : Int) < ((tosses (a.coin (nums.getD 0 0).toNat) * tosses (a.coin (nums.getD 1 0).toNat) : Nat) : Int) := fun z => c0 (decide_eq_true z)
    have e2 : a.does (.of_ (nums.getD 0 0).toNat (nums.getD 1 0).toNat) = a.add (Kv394.of_ (a.coin (nums.getD 0 0).toNat) (a.coin (nums.getD 1 0).toNat)) := (if_neg rq.no2).trans (if_neg (by omega))
    rw [e2] at q
    refine ⟨_, rfl, h, dx, _, rfl, hh, hf_no _ _ _ (by decide +kernel) (by decide +kernel) (by decide +kernel), ?_⟩
    refine ⟨_, rfl, _, rfl, x, y, a.coin (nums.getD 0 0).toNat, a.coin (nums.getD 1 0).toNat, rfl, SqL.of hxl, SqL.of hyl, hx0, hy0, by omega, fun H1 p1 S1 n1 h1 => ?_⟩
    refine ⟨N, h, p1, a, _, rfl, HoldAt.same S1 hA', fr.same S1, g, fr _ n1, h1, fun H2 hA2 k2 => ?_⟩
    exact ⟨(by show 1 ≤ sizeLine; decide), fun p hp => q.put (add_nums _ _) hA2 ((Kp.of S1).trans k2) hp⟩
end
end Mc

end
section
set_option Elab.async false
set_option linter.all false
set_option maxRecDepth 100000
set_option maxHeartbeats 4000000
/-! The calls row, coefs, chance, same, least, says, can, never, fair, back, state. -/
namespace Mc
open PySem PySem.Spec PyProof.Rows L2
open Kv394 (choose tosses)
section
variable {P : Program} {w : World} {K : PySem.W.Frag} {mg : Str → Option Value} {base : Heap} {C : Addr}
theorem CallDone.look {N : Addr → Prop} {h : Addr} {H H' : Hp} {a : Kv394.Abs} {ans : Kv394.Ans} {Q : VK} (q : CallDone N C h H a ans Q) (hA : HoldA N C H h a) (S : Same H H') {p : Addr} (n : H p = none) (e : H' p = some (.lst ((ans.ret :: ans.nums).map V.int))) : Q (.ref p) H' :=
  q H' p (HoldAt.same S hA) (Kp.of S) n e
theorem CallDone.puts {N : Addr → Prop} {h : Addr} {H H' : Hp} {a' : Kv394.Abs} {ans : Kv394.Ans} {Q : VK} (q : CallDone N C h H a' ans Q) {vs : List V} (hn : (ans.ret :: ans.nums).map V.int = vs) (hA : HoldA N C H' h a') (k : Kp h H H') {p : Addr} (hp : H' p = none) : Q (.ref p) (upd H' p (.lst vs)) := by
  obtain ⟨o, ho⟩ := hA.at
  refine q _ p (HoldAt.same (Same.upd_new (Same.refl _) hp) hA) (new_kp k hp) (k.free ho hp) ?_
  rw [upd_same, hn]
theorem list_done {H : Hp} {p : Addr} {c : List Nat} (e : H p = some (.lst ((((iN c).length : Int) :: iN c).map V.int))) : H p = some (.lst (((Kv394.list c).ret :: (Kv394.list c).nums).map V.int)) := by
  rw [e, iN_len]
  rfl
/-! ### row -/
theorem ok_rowF (U : Under P w K mg base C) (D : DefAt K mg "coin_row" s_coin_row pCall) : Cal P w K mg base "coin_row" pCall 6 (spCallF K C (fun a nums _ => Told a nums 1) fun nums _ => .row (nums.getD 0 0).toNat) := by
  refine D.cal sc_coin_row spCallF_len (fun f cdv A outer s H vs Q E hr h => ?_)
  obtain ⟨N, h, nA, rA, a, nums, row, rfl, hA, fr, g, hN, nR, hR, rq, q⟩ := h
  have hA' := hA
  obtain ⟨dx, r, p, hh, hC, _⟩ := hA
  obtain ⟨as, ha, hi⟩ := hC.at
  have t0 := rq.at_ 0 (by decide)
  obtain ⟨x, hx, hxl⟩ := hi _ t0.1 t0.2
  have ho := g.coin (rq.no (j := 0) (by decide))
  have e2 : a.does (.row (nums.getD 0 0).toNat) = (a, Kv394.list (a.coin (nums.getD 0 0).toNat)) := if_neg (rq.no (by decide))
  rw [e2] at q
  refine ⟨_, pss_one (ps_ret (pe_callC U.count (hr.mono (by decide)) (by rfl) (pa_cons (pe_ix ix_list (pe_fld (pv 0) rfl) (pe_ix ix_I (pv 1) pe_int (fun _ _ => rfl)) (fun _ _ => rfl)) pa_nil))), ?_⟩
  refine ⟨_, rfl, h, C, dx, _, _, rfl, hh, U.T.cl, U.T.nR, hf_rows _ _ _, _, rfl, nA, nums, 0, 0, rfl, rfl, hN, rfl, rq.len, r, _, _, _, rfl, rfl, SqL.of ha, hx, ?_⟩
  refine ⟨x, iN (a.coin (nums.getD 0 0).toNat), rfl, hxl, by rw [iN_len]; exact ho.len1000.2, fun H1 p1 S1 n1 e1 => ?_⟩
  exact q.look hA' S1 n1 (list_done e1)
/-! ### coefs -/
theorem ok_coefsF (U : Under P w K mg base C) (D : DefAt K mg "coefs" s_coefs pCall) : Cal P w K mg base "coefs" pCall 6 (spCallF K C (fun a nums _ => Told a nums 1) fun nums _ => .coefs (nums.getD 0 0).toNat) := by
  refine D.cal sc_coefs spCallF_len (fun f cdv A outer s H vs Q E hr h => ?_)
  obtain ⟨N, h, nA, rA, a, nums, row, rfl, hA, fr, g, hN, nR, hR, rq, q⟩ := h
  have hA' := hA
  obtain ⟨dx, r, p, hh, hC, _⟩ := hA
  obtain ⟨as, ha, hi⟩ := hC.at
  have t0 := rq.at_ 0 (by decide)
  obtain ⟨x, hx, hxl⟩ := hi _ t0.1 t0.2
  have ho := g.coin (rq.no (j := 0) (by decide))
  have e2 : a.does (.coefs (nums.getD 0 0).toNat) = (a, ⟨((a.coin (nums.getD 0 0).toNat).length : Nat), Kv394.coefs (a.coin (nums.getD 0 0).toNat)⟩) := if_neg (rq.no (by decide))
  rw [e2] at q
  refine ⟨_, pss_one (ps_ret (pe_callC U.count (hr.mono (by decide)) (by rfl) (pa_cons (pe_callC U.byPow (hr.mono (by decide)) (by rfl) (pa_cons (pe_ix ix_list (pe_fld (pv 0) rfl) (pe_ix ix_I (pv 1) pe_int (fun _ _ => rfl)) (fun _ _ => rfl)) pa_nil)) pa_nil))), ?_⟩
  refine ⟨_, rfl, h, C, dx, _, _, rfl, hh, U.T.cl, U.T.nR, hf_rows _ _ _, _, rfl, nA, nums, 0, 0, rfl, rfl, hN, rfl, rq.len, r, _, _, _, rfl, rfl, SqL.of ha, hx, ?_⟩
  refine ⟨x, a.coin (nums.getD 0 0).toNat, rfl, SqL.of hxl, ho, fun H1 p1 S1 n1 e1 => ?_⟩
  refine ⟨p1, _, rfl, e1, by rw [coefs_len]; exact ho.len1000.2, fun H2 p2 S2 n2 e3 => ?_⟩
  refine q.look hA' (S1.trans S2) (S1.free n2) ?_
  rw [e3, coefs_len]
/-! ### least -/
theorem ok_leastF (U : Under P w K mg base C) (D : DefAt K mg "least" s_least pCall) : Cal P w K mg base "least" pCall 6 (spCallF K C (fun a nums _ => Told a nums 1) fun nums _ => .least (nums.getD 0 0).toNat) := by
  refine D.cal sc_least spCallF_len (fun f cdv A outer s H vs Q E hr h => ?_)
  obtain ⟨N, h, nA, rA, a, nums, row, rfl, hA, fr, g, hN, nR, hR, rq, q⟩ := h
  have hA' := hA
  obtain ⟨dx, r, p, hh, hC, _⟩ := hA
  obtain ⟨as, ha, hi⟩ := hC.at
  have t0 := rq.at_ 0 (by decide)
  obtain ⟨x, hx, hxl⟩ := hi _ t0.1 t0.2
  have ho := g.coin (rq.no (j := 0) (by decide))
  have e2 : a.does (.least (nums.getD 0 0).toNat) = (a, Kv394.list (Kv394.least 10 (a.coin (nums.getD 0 0).toNat))) := if_neg (rq.no (by decide))
  rw [e2] at q
  refine ⟨_, pss_one (ps_ret (pe_callC U.count (hr.mono (by decide)) (by rfl) (pa_cons (pe_callC U.leastF (hr.mono (by decide)) (by rfl) (pa_cons (pe_ix ix_list (pe_fld (pv 0) rfl) (pe_ix ix_I (pv 1) pe_int (fun _ _ => rfl)) (fun _ _ => rfl)) pa_nil)) pa_nil))), ?_⟩
  refine ⟨_, rfl, h, C, dx, _, _, rfl, hh, U.T.cl, U.T.nR, hf_rows _ _ _, _, rfl, nA, nums, 0, 0, rfl, rfl, hN, rfl, rq.len, r, _, _, _, rfl, rfl, SqL.of ha, hx, ?_⟩
  refine ⟨x, a.coin (nums.getD 0 0).toNat, rfl, SqL.of hxl, ho, fun H1 p1 S1 n1 e1 => ?_⟩
  refine ⟨p1, _, rfl, e1, by rw [iN_len]; exact (Ok.least 10 ho).len1000.2, fun H2 p2 S2 n2 e3 => ?_⟩
  exact q.look hA' (S1.trans S2) (S1.free n2) (list_done e3)
/-! ### chance -/
def ReqN (n : Nat) (nums : List Int) : Prop := nums.length = n ∧ ∀ x ∈ nums, 0 ≤ x
theorem ReqN.at {n : Nat} {nums : List Int} (r : ReqN n nums) {j : Nat} (h : j < n) : ∃ k : Nat, nums.getD j 0 = (k : Int) := by
  have hx := r.2 _ (List.mem_of_getElem? (get?_of (0 : Int) (show j < nums.length by rw [r.1]; exact h)))
  exact ⟨(nums.getD j 0).toNat, by omega⟩
theorem ok_chanceF (U : Under P w K mg base C) (D : DefAt K mg "chance" s_chance pCall) : Cal P w K mg base "chance" pCall 6 (spCallF K C (fun a nums _ => Told a nums 1 ∧ ReqN 3 nums) fun nums _ => .chance (nums.getD 0 0).toNat (nums.getD 1 0).toNat (nums.getD 2 0).toNat) := by
  refine D.cal sc_chance spCallF_len (fun f cdv A outer s H vs Q E hr h => ?_)
  obtain ⟨N, h, nA, rA, a, nums, row, rfl, hA, fr, g, hN, nR, hR, ⟨rq, rn⟩, q⟩ := h
  have hA' := hA
  obtain ⟨dx, r, p, hh, hC, _⟩ := hA
  obtain ⟨as, ha, hi⟩ := hC.at
  have t0 := rq.at_ 0 (by decide)
  obtain ⟨x, hx, hxl⟩ := hi _ t0.1 t0.2
  have ho := g.coin (rq.no (j := 0) (by decide))
  obtain ⟨u, eu⟩ := rn.at (j := 1) (by decide)
  obtain ⟨v, ev⟩ := rn.at (j := 2) (by decide)
  refine ⟨_, pss_cons (ps_set (i := 3) sc_chance.nd rfl (Or.inl rfl) (pe_ix ix_list (pe_fld (pv 0) rfl) (pe_ix ix_I (pv 1) pe_int (fun _ _ => rfl)) (fun _ _ => rfl)))
    (pss_cons (ps_set (i := 4) sc_chance.nd rfl (Or.inl rfl) (pe_ix ix_I (pv 1) pe_int (fun _ _ => rfl)))
    (pss_cons (ps_set (i := 5) sc_chance.nd rfl (Or.inl rfl) (pe_ix ix_I (pv 1) pe_int (fun _ _ => rfl)))
    (pss_cons (ps_if (PW.pt (pw_or (pt_cmpR op_lt (pv 5) pe_int (nomark _)) (pw_or (pt_cmpR op_gt (pv 5) (pe_gi U.mLB (by rfl)) (nomark _)) (pw_or1 (pt_cmpR op_gt (pv 4) (pv 5) (nomark _)))))) (pss_one (ps_ret (pe_lst (pa_cons (pe_gi U.m22 (by rfl)) pa_nil)))) pss_nil)
    (pss_one (ps_ret (pe_lst (pa_cons pe_int (pa_cons (pe_callC U.chanceAt (hr.mono (by decide)) (by rfl) (pa_cons (pv 3) (pa_cons (pv 4) (pa_cons (pv 5) pa_nil)))) (pa_cons (pe_callC U.power (hr.mono (by decide)) (by rfl) (pa_cons (pv 5) (pa_cons (pe_callC U.tosses (hr.mono (by decide)) (by rfl) (pa_cons (pv 3) pa_nil)) pa_nil))) pa_nil))))))))), ?_⟩
  refine ⟨_, rfl, h, C, dx, _, _, rfl, hh, U.T.cl, U.T.nR, hf_rows _ _ _, _, rfl, nA, nums, 0, 0, rfl, rfl, hN, rfl, rq.len, r, _, _, _, rfl, rfl, SqL.of ha, hx, ?_⟩
  refine ⟨_, rfl, nA, nums, 1, 1, rfl, rfl, hN, rfl, by rw [rn.1]; decide, ?_⟩
  refine ⟨_, rfl, nA, nums, 2, 2, rfl, rfl, hN, rfl, by rw [rn.1]; decide, ?_⟩
  rw [eu, ev]
  dsimp only at q
  rw [eu, ev, Int.toNat_natCast, Int.toNat_natCast] at q
  have lx := len_tosses ho.pos
  have no : (v = 0 ∨ 20 < v ∨ v < u) → CallDone N C h H a (Kv394.say (-22)) Q := fun z => by
    have e2 : a.does (.chance (nums.getD 0 0).toNat u v) = (a, Kv394.say (-22)) := (if_neg (rq.no (by decide))).trans (if_pos z)
    rw [e2] at q
    exact q
  refine ⟨_, rfl, _, _, rfl, rfl, _, rfl, ?_⟩
  refine ite2 (fun c0 => ?_) (fun c0 => ?_)
  · have c1 : (v : Int) < 1 := of_decide_eq_true c0
    exact ⟨(by show 1 ≤ sizeLine; decide), fun p hp => (no (by omega)).put rfl hA' (Kp.of (Same.refl H)) hp⟩
  have c1 : ¬ (v : Int) < 1 := fun z => c0 (decide_eq_true z)
  refine ⟨_, rfl, _, _, rfl, rfl, _, rfl, ?_⟩
  refine ite2 (fun c2 => ?_) (fun c2 => ?_)
  · have c3 : (20 : Int) < (v : Int) := of_decide_eq_true c2
    exact ⟨(by show 1 ≤ sizeLine; decide), fun p hp => (no (by omega)).put rfl hA' (Kp.of (Same.refl H)) hp⟩
  have c3 : ¬ (20 : Int) < (v : Int) := fun z => c2 (decide_eq_true z)
  refine ⟨_, rfl, _, rfl, _, _, rfl, rfl, _, rfl, ?_⟩
  refine ite2 (fun c4 => ?_) (fun c4 => ?_)
  · have c5 : (v : Int) < (u : Int) := of_decide_eq_true c4
    exact ⟨(by show 1 ≤ sizeLine; decide), fun p hp => (no (by omega)).put rfl hA' (Kp.of (Same.refl H)) hp⟩
  have c5 : ¬ (v : Int) < (u : Int) := fun z => c4 (decide_eq_true z)
  have e2 : a.does (.chance (nums.getD 0 0).toNat u v) = (a, ⟨0, [(Kv394.chance (a.coin (nums.getD 0 0).toNat) u v : Nat), ((v ^ tosses (a.coin (nums.getD 0 0).toNat) : Nat) : Int)]⟩) := (if_neg (rq.no (by decide))).trans (if_neg (by omega))
  rw [e2] at q
  have hm := ho.most
  refine ⟨_, rfl, _, rfl, _, rfl, x, a.coin (nums.getD 0 0).toNat, u, v, rfl, SqL.of hxl, ho, by omega, by omega, ?_⟩
  refine ⟨_, rfl, _, rfl, x, _, rfl, SqL.of hxl, v, tosses (a.coin (nums.getD 0 0).toNat), ?_, by omega, by omega, ?_⟩
  · have ex : a.coins.getD (nums.getD 0 0).toNat [] = a.coin (nums.getD 0 0).toNat := rfl
    rw [iN_len, ex, show ((a.coin (nums.getD 0 0).toNat).length : Int) - 1 = (tosses (a.coin (nums.getD 0 0).toNat) : Int) by omega]
  · exact ⟨(by show 3 ≤ sizeLine; decide), fun p hp => q.puts rfl hA' (Kp.of (Same.refl H)) hp⟩
/-! ### same -/
theorem ok_sameF (U : Under P w K mg base C) (D : DefAt K mg "same" s_same pCall) : Cal P w K mg base "same" pCall 6 (spCallF K C (fun a nums _ => Told a nums 2) fun nums _ => .same (nums.getD 0 0).toNat (nums.getD 1 0).toNat) := by
  refine D.cal sc_same spCallF_len (fun f cdv A outer s H vs Q E hr h => ?_)
  obtain ⟨N, h, nA, rA, a, nums, row, rfl, hA, fr, g, hN, nR, hR, rq, q⟩ := h
  have hA' := hA
  obtain ⟨dx, r, p, hh, hC, _⟩ := hA
  obtain ⟨as, ha, hi⟩ := hC.at
  have t0 := rq.at_ 0 (by decide)
  have t1 := rq.at_ 1 (by decide)
  obtain ⟨x, hx, hxl⟩ := hi _ t0.1 t0.2
  obtain ⟨y, hy, hyl⟩ := hi _ t1.1 t1.2
  have hx0 := g.coin (rq.no (j := 0) (by decide))
  have hy0 := g.coin (rq.no (j := 1) (by decide))
  have e2 : a.does (.same (nums.getD 0 0).toNat (nums.getD 1 0).toNat) = (a, Kv394.num (Kv394.bit (Kv394.level 10 (a.coin (nums.getD 0 0).toNat) == Kv394.level 10 (a.coin (nums.getD 1 0).toNat)))) := if_neg rq.no2
  rw [e2] at q
  refine ⟨_, pss_one (ps_ret (pe_lst (pa_cons (pe_ifExp (pt_val (pe_callC U.same (hr.mono (by decide)) (by rfl) (pa_cons (pe_ix ix_list (pe_fld (pv 0) rfl) (pe_ix ix_I (pv 1) pe_int (fun _ _ => rfl)) (fun _ _ => rfl)) (pa_cons (pe_ix ix_list (pe_fld (pv 0) rfl) (pe_ix ix_I (pv 1) pe_int (fun _ _ => rfl)) (fun _ _ => rfl)) pa_nil)))) pe_int pe_int) pa_nil))), ?_⟩
  refine ⟨_, rfl, h, C, dx, _, _, rfl, hh, U.T.cl, U.T.nR, hf_rows _ _ _, _, rfl, nA, nums, 0, 0, rfl, rfl, hN, rfl, Nat.le_trans (by decide) rq.len, r, _, _, _, rfl, rfl, SqL.of ha, hx, ?_⟩
  refine ⟨_, rfl, h, C, dx, _, _, rfl, hh, U.T.cl, U.T.nR, hf_rows _ _ _, _, rfl, nA, nums, 1, 1, rfl, rfl, hN, rfl, rq.len, r, _, _, _, rfl, rfl, SqL.of ha, hy, ?_⟩
  refine ⟨x, y, a.coin (nums.getD 0 0).toNat, a.coin (nums.getD 1 0).toNat, rfl, SqL.of hxl, SqL.of hyl, hx0, hy0, fun H1 S1 => ⟨_, rfl, ?_⟩⟩
  cases e : (Kv394.level 10 (a.coin (nums.getD 0 0).toNat) == Kv394.level 10 (a.coin (nums.getD 1 0).toNat)) with
  | true =>
    rw [e] at q
    exact iteT ⟨(by show 1 ≤ sizeLine; decide), fun p hp => q.put rfl (HoldAt.same S1 hA') (Kp.of S1) hp⟩
  | false =>
    rw [e] at q
    exact iteF ⟨(by show 1 ≤ sizeLine; decide), fun p hp => q.put rfl (HoldAt.same S1 hA') (Kp.of S1) hp⟩
/-! ### says -/
theorem ok_saysF (U : Under P w K mg base C) (D : DefAt K mg "says" s_says pCall) : Cal P w K mg base "says" pCall 6 (spCallF K C (fun a nums row => Told a nums 1 ∧ ∀ x ∈ row, 0 ≤ x) fun nums row => .says (nums.getD 0 0).toNat (row.map Int.toNat)) := by
  refine D.cal sc_says spCallF_len (fun f cdv A outer s H vs Q E hr h => ?_)
  obtain ⟨N, h, nA, rA, a, nums, row, rfl, hA, fr, g, hN, nR, hR, ⟨rq, rp⟩, q⟩ := h
  have hA' := hA
  obtain ⟨dx, r, p, hh, hC, _⟩ := hA
  obtain ⟨as, ha, hi⟩ := hC.at
  have t0 := rq.at_ 0 (by decide)
  obtain ⟨x, hx, hxl⟩ := hi _ t0.1 t0.2
  have ho := g.coin (rq.no (j := 0) (by decide))
  refine ⟨_, pss_cons (ps_set (i := 3) sc_says.nd rfl (Or.inl rfl) (pe_ix ix_list (pe_fld (pv 0) rfl) (pe_ix ix_I (pv 1) pe_int (fun _ _ => rfl)) (fun _ _ => rfl)))
    (pss_cons (ps_if (PW.pt (pw_or (pt_cmpR op_ne (pe_lenV 2 U.B.len (by rfl) (pv 2)) (pe_callC U.tosses (hr.mono (by decide)) (by rfl) (pa_cons (pv 3) pa_nil)) (nomark _)) (pw_or1 (pt_not (pt_val (pe_callC U.areT (hr.mono (by decide)) (by rfl) (pa_cons (pv 2) pa_nil))))))) (pss_one (ps_ret (pe_lst (pa_cons (pe_gi U.m22 (by rfl)) pa_nil)))) pss_nil)
    (pss_one (ps_ret (pe_lst (pa_cons (pe_ifExp (pt_val (pe_callC U.saysYes (hr.mono (by decide)) (by rfl) (pa_cons (pv 3) (pa_cons (pv 2) pa_nil)))) pe_int pe_int) pa_nil))))), ?_⟩
  refine ⟨_, rfl, h, C, dx, _, _, rfl, hh, U.T.cl, U.T.nR, hf_rows _ _ _, _, rfl, nA, nums, 0, 0, rfl, rfl, hN, rfl, rq.len, r, _, _, _, rfl, rfl, SqL.of ha, hx, ?_⟩
  have lx := len_tosses ho.pos
  have ex : a.coins.getD (nums.getD 0 0).toNat [] = a.coin (nums.getD 0 0).toNat := rfl
  have no : ((row.map Int.toNat).length ≠ tosses (a.coin (nums.getD 0 0).toNat) ∨ ((row.map Int.toNat).any fun x => decide (1 < x)) = true) → CallDone N C h H a (Kv394.say (-22)) Q := fun z => by
    have e2 : a.does (.says (nums.getD 0 0).toNat (row.map Int.toNat)) = (a, Kv394.say (-22)) := (if_neg (rq.no (by decide))).trans (if_pos z)
    rw [e2] at q
    exact q
  refine ⟨_, rfl, rA, row, rfl, SqL.of hR, _, rfl, x, _, rfl, SqL.of hxl, rfl, _, rfl, ?_⟩
  rw [iN_len, ex]
  refine ite2 (fun c0 => ?_) (fun c0 => ?_)
  · have c1 := dec_ne.mp c0
    exact ⟨(by show 1 ≤ sizeLine; decide), fun p hp => (no (.inl (by rw [List.length_map]; omega))).put rfl hA' (Kp.of (Same.refl H)) hp⟩
  have c1 : ((row.length : Nat) : Int) = ((a.coin (nums.getD 0 0).toNat).length : Int) - 1 := by
    by_cases z : ((row.length : Nat) : Int) = ((a.coin (nums.getD 0 0).toNat).length : Int) - 1
    · exact z
    · exact absurd (dec_ne.mpr z) c0
  refine ⟨_, rfl, rA, row, rfl, SqL.of hR, rp, _, rfl, ?_⟩
  cases e : ((row.map Int.toNat).any fun x => decide (1 < x)) with
  | true =>
    exact iteT ⟨(by show 1 ≤ sizeLine; decide), fun p hp => (no (.inr e)).put rfl hA' (Kp.of (Same.refl H)) hp⟩
  | false =>
    have bits : ∀ x ∈ row, 0 ≤ x ∧ x ≤ 1 := fun x hx => by
      have h1 := rp x hx
      have h2 := any_gt.mp e x.toNat (List.mem_map.mpr ⟨x, hx, rfl⟩)
      omega
    have e2 : a.does (.says (nums.getD 0 0).toNat (row.map Int.toNat)) = (a, Kv394.num (Kv394.bit (decide (Kv394.rank (row.map Int.toNat) < (a.coin (nums.getD 0 0).toNat).getD (row.map Int.toNat).sum 0)))) := (if_neg (rq.no (by decide))).trans (if_neg (fun z => by
      rcases z with z | z
      · rw [List.length_map] at z; omega
      · rw [e] at z; cases z))
    rw [e2] at q
    refine iteF ?_
    refine ⟨_, rfl, _, rfl, x, rA, a.coin (nums.getD 0 0).toNat, row, rfl, SqL.of hxl, SqL.of hR, bits, ho, by omega, _, rfl, ?_⟩
    cases e3 : decide (Kv394.rank (row.map Int.toNat) < (a.coin (nums.getD 0 0).toNat).getD (row.map Int.toNat).sum 0) with
    | true =>
      rw [e3] at q
      exact iteT ⟨(by show 1 ≤ sizeLine; decide), fun p hp => q.put rfl hA' (Kp.of (Same.refl H)) hp⟩
    | false =>
      rw [e3] at q
      exact iteF ⟨(by show 1 ≤ sizeLine; decide), fun p hp => q.put rfl hA' (Kp.of (Same.refl H)) hp⟩
/-! ### can -/
theorem ok_canF (U : Under P w K mg base C) (D : DefAt K mg "can" s_can pCall) : Cal P w K mg base "can" pCall 6 (spCallF K C (fun _ _ _ => True) fun _ row => .can row) := by
  refine D.cal sc_can spCallF_len (fun f cdv A outer s H vs Q E hr h => ?_)
  obtain ⟨N, h, nA, rA, a, nums, row, rfl, hA, fr, g, hN, nR, hR, rq, q⟩ := h
  have hA' := hA
  refine ⟨_, pss_cons (ps_if (pt_not (pt_val (pe_callC U.isPoly (hr.mono (by decide)) (by rfl) (pa_cons (pv 2) pa_nil)))) (pss_one (ps_ret (pe_lst (pa_cons (pe_gi U.m22 (by rfl)) pa_nil)))) pss_nil)
    (pss_cons (ps_set (i := 3) sc_can.nd rfl (Or.inl rfl) (pe_callC U.fewest (hr.mono (by decide)) (by rfl) (pa_cons (pv 2) pa_nil)))
    (pss_cons (ps_if (pt_cmpR op_isN (pv 3) pe_non (nomark _)) (pss_one (ps_ret (pe_lst (pa_cons (pe_gi U.m33 (by rfl)) pa_nil)))) pss_nil)
    (pss_one (ps_ret (pe_lst (pa_cons (pe_callC U.tosses (hr.mono (by decide)) (by rfl) (pa_cons (pv 3) pa_nil)) pa_nil)))))), ?_⟩
  refine ⟨_, rfl, rA, row, rfl, SqL.of hR, _, rfl, ?_⟩
  cases e : Kv394.okPoly row with
  | false =>
    have e2 : a.does (.can row) = (a, Kv394.say (-22)) := if_pos e
    rw [e2] at q
    exact ⟨(by show 1 ≤ sizeLine; decide), fun p hp => q.put rfl hA' (Kp.of (Same.refl H)) hp⟩
  | true =>
    refine ⟨_, rfl, rA, row, rfl, SqL.of hR, e, fun e3 H1 S1 => ?_, fun d e3 H1 p1 S1 n1 h1 => ?_⟩
    · have e2 : a.does (.can row) = (a, Kv394.say (-33)) := (if_neg (by rw [e]; decide)).trans (by rw [e3])
      rw [e2] at q
      refine ⟨_, rfl, rfl, _, rfl, iteT ?_⟩
      exact ⟨(by show 1 ≤ sizeLine; decide), fun p hp => q.put rfl (HoldAt.same S1 hA') (Kp.of S1) hp⟩
    · have e2 : a.does (.can row) = (a, Kv394.num (tosses d)) := (if_neg (by rw [e]; decide)).trans (by rw [e3])
      rw [e2] at q
      have hd : Ok d := Ok.coinOf e3
      have ld := len_tosses hd.pos
      refine ⟨_, rfl, rfl, _, rfl, iteF ?_⟩
      refine ⟨_, rfl, p1, _, rfl, SqL.of h1, ?_⟩
      have et : ((iN d).length : Int) - 1 = (tosses d : Int) := by rw [iN_len]; omega
      rw [et]
      exact ⟨(by show 1 ≤ sizeLine; decide), fun p hp => q.put rfl (HoldAt.same S1 hA') (Kp.of S1) hp⟩
/-! ### never -/
theorem ok_neverF (U : Under P w K mg base C) (D : DefAt K mg "never" s_never pCall) : Cal P w K mg base "never" pCall 6 (spCallF K C (fun _ nums _ => ReqN 2 nums) fun nums row => .never (nums.getD 0 0).toNat (nums.getD 1 0).toNat row) := by
  refine D.cal sc_never spCallF_len (fun f cdv A outer s H vs Q E hr h => ?_)
  obtain ⟨N, h, nA, rA, a, nums, row, rfl, hA, fr, g, hN, nR, hR, rn, q⟩ := h
  have hA' := hA
  obtain ⟨u, eu⟩ := rn.at (j := 0) (by decide)
  obtain ⟨v, ev⟩ := rn.at (j := 1) (by decide)
  refine ⟨_, pss_cons (ps_set (i := 3) sc_never.nd rfl (Or.inl rfl) (pe_ix ix_I (pv 1) pe_int (fun _ _ => rfl)))
    (pss_cons (ps_set (i := 4) sc_never.nd rfl (Or.inl rfl) (pe_ix ix_I (pv 1) pe_int (fun _ _ => rfl)))
    (pss_cons (ps_if (PW.pt (pw_or (pt_cmpR op_lt (pv 4) pe_int (nomark _)) (pw_or (pt_cmpR op_gt (pv 4) (pe_gi U.mLB (by rfl)) (nomark _)) (pw_or (pt_cmpR op_lt (pv 3) pe_int (nomark _)) (pw_or (pt_cmpR op_ge (pv 3) (pv 4) (nomark _)) (pw_or1 (pt_not (pt_val (pe_callC U.isPoly (hr.mono (by decide)) (by rfl) (pa_cons (pv 2) pa_nil)))))))))) (pss_one (ps_ret (pe_lst (pa_cons (pe_gi U.m22 (by rfl)) pa_nil)))) pss_nil)
    (pss_one (ps_ret (pe_lst (pa_cons (pe_ifExp (pt_val (pe_callC U.never (hr.mono (by decide)) (by rfl) (pa_cons (pv 2) (pa_cons (pv 3) (pa_cons (pv 4) pa_nil))))) pe_int pe_int) pa_nil)))))), ?_⟩
  refine ⟨_, rfl, nA, nums, 0, 0, rfl, rfl, hN, rfl, by rw [rn.1]; decide, ?_⟩
  refine ⟨_, rfl, nA, nums, 1, 1, rfl, rfl, hN, rfl, by rw [rn.1]; decide, ?_⟩
  rw [eu, ev]
  dsimp only at q
  rw [eu, ev, Int.toNat_natCast, Int.toNat_natCast] at q
  have no : (u = 0 ∨ v ≤ u ∨ 20 < v ∨ Kv394.okPoly row = false) → CallDone N C h H a (Kv394.say (-22)) Q := fun z => by
    have e2 : a.does (.never u v row) = (a, Kv394.say (-22)) := if_pos z
    rw [e2] at q
    exact q
  refine ⟨_, rfl, _, _, rfl, rfl, _, rfl, ?_⟩
  refine ite2 (fun c0 => ?_) (fun c0 => ?_)
  · have c1 : (v : Int) < 2 := of_decide_eq_true c0
    exact ⟨(by show 1 ≤ sizeLine; decide), fun p hp => (no (by omega)).put rfl hA' (Kp.of (Same.refl H)) hp⟩
  have c1 : ¬ (v : Int) < 2 := fun z => c0 (decide_eq_true z)
  refine ⟨_, rfl, _, _, rfl, rfl, _, rfl, ?_⟩
  refine ite2 (fun c2 => ?_) (fun c2 => ?_)
  · have c3 : (20 : Int) < (v : Int) := of_decide_eq_true c2
    exact ⟨(by show 1 ≤ sizeLine; decide), fun p hp => (no (by omega)).put rfl hA' (Kp.of (Same.refl H)) hp⟩
  have c3 : ¬ (20 : Int) < (v : Int) := fun z => c2 (decide_eq_true z)
  refine ⟨_, rfl, _, _, rfl, rfl, _, rfl, ?_⟩
  refine ite2 (fun c4 => ?_) (fun c4 => ?_)
  · have c5 : (u : Int) < 1 := of_decide_eq_true c4
    exact ⟨(by show 1 ≤ sizeLine; decide), fun p hp => (no (by omega)).put rfl hA' (Kp.of (Same.refl H)) hp⟩
  have c5 : ¬ (u : Int) < 1 := fun z => c4 (decide_eq_true z)
  refine ⟨_, rfl, _, rfl, _, _, rfl, rfl, _, rfl, ?_⟩
  refine ite2 (fun c6 => ?_) (fun c6 => ?_)
  · have c7 : (v : Int) ≤ (u : Int) := of_decide_eq_true c6
    exact ⟨(by show 1 ≤ sizeLine; decide), fun p hp => (no (by omega)).put rfl hA' (Kp.of (Same.refl H)) hp⟩
  have c7 : ¬ (v : Int) ≤ (u : Int) := fun z => c6 (decide_eq_true z)
  refine ⟨_, rfl, rA, row, rfl, SqL.of hR, _, rfl, ?_⟩
  cases e : Kv394.okPoly row with
  | false =>
    exact iteT ⟨(by show 1 ≤ sizeLine; decide), fun p hp => (no (.inr (.inr (.inr e)))).put rfl hA' (Kp.of (Same.refl H)) hp⟩
  | true =>
    have e2 : a.does (.never u v row) = (a, Kv394.num (Kv394.bit (Kv394.never row u v))) := if_neg (fun z => by
      rcases z with z | z | z | z
      · omega
      · omega
      · omega
      · rw [e] at z; cases z)
    rw [e2] at q
    refine iteF ?_
    refine ⟨_, rfl, _, rfl, _, rfl, rA, row, u, v, rfl, SqL.of hR, e, by omega, by omega, by omega, fun H1 S1 => ⟨_, rfl, ?_⟩⟩
    cases e3 : Kv394.never row u v with
    | true =>
      rw [e3] at q
      exact iteT ⟨(by show 1 ≤ sizeLine; decide), fun p hp => q.put rfl (HoldAt.same S1 hA') (Kp.of S1) hp⟩
    | false =>
      rw [e3] at q
      exact iteF ⟨(by show 1 ≤ sizeLine; decide), fun p hp => q.put rfl (HoldAt.same S1 hA') (Kp.of S1) hp⟩
/-! ### fair -/
theorem ok_fairF (U : Under P w K mg base C) (D : DefAt K mg "fair" s_fair pCall) : Cal P w K mg base "fair" pCall 6 (spCallF K C (fun _ _ row => (∀ x ∈ row, 0 ≤ x) ∧ row.length ≤ 1000) fun _ row => .fair (row.map Int.toNat)) := by
  refine D.cal sc_fair spCallF_len (fun f cdv A outer s H vs Q E hr h => ?_)
  obtain ⟨N, h, nA, rA, a, nums, row, rfl, hA, fr, g, hN, nR, hR, ⟨rp, rl⟩, q⟩ := h
  have hA' := hA
  refine ⟨_, pss_cons (ps_if (pt_not (pt_val (pe_callC U.areT (hr.mono (by decide)) (by rfl) (pa_cons (pv 2) pa_nil)))) (pss_one (ps_ret (pe_lst (pa_cons (pe_gi U.m22 (by rfl)) pa_nil)))) pss_nil)
    (pss_cons (ps_set (i := 3) sc_fair.nd rfl (Or.inl rfl) (pe_callC U.unlike (hr.mono (by decide)) (by rfl) (pa_cons (pv 2) pa_nil)))
    (pss_cons (ps_if (pt_cmpR op_isN (pv 3) pe_non (nomark _)) (pss_one (ps_ret (pe_lst (pa_cons (pe_gi U.m33 (by rfl)) pa_nil)))) pss_nil)
    (pss_one (ps_ret (pe_lst (pa_cons (pe_ix ix_I (pv 2) (pv 3) (fun _ _ => rfl)) (pa_cons (pe_op op_add (pv 3) pe_int) pa_nil))))))), ?_⟩
  refine ⟨_, rfl, rA, row, rfl, SqL.of hR, rp, _, rfl, ?_⟩
  cases e : ((row.map Int.toNat).any fun x => decide (1 < x)) with
  | true =>
    have e2 : a.does (.fair (row.map Int.toNat)) = (a, Kv394.say (-22)) := if_pos e
    rw [e2] at q
    exact iteT ⟨(by show 1 ≤ sizeLine; decide), fun p hp => q.put rfl hA' (Kp.of (Same.refl H)) hp⟩
  | false =>
    have e1 : ¬ ((row.map Int.toNat).any fun x => decide (1 < x)) = true := by rw [e]; decide
    refine iteF ?_
    refine ⟨_, rfl, rA, row, rfl, SqL.of hR, rp, rl, fun e3 => ?_, fun j hj e3 => ?_⟩
    · have e2 : a.does (.fair (row.map Int.toNat)) = (a, Kv394.say (-33)) := (if_neg e1).trans (by rw [e3])
      rw [e2] at q
      refine ⟨_, rfl, rfl, _, rfl, iteT ?_⟩
      exact ⟨(by show 1 ≤ sizeLine; decide), fun p hp => q.put rfl hA' (Kp.of (Same.refl H)) hp⟩
    · have e2 : a.does (.fair (row.map Int.toNat)) = (a, ⟨(co (row.map Int.toNat) j : Nat), [((j + 2 : Nat) : Int)]⟩) := (if_neg e1).trans (by rw [e3])
      rw [e2] at q
      refine ⟨_, rfl, rfl, _, rfl, iteF ?_⟩
      refine ⟨_, rfl, _, rfl, rA, row, _, j, rfl, rfl, SqL.of hR, rfl, by omega, _, rfl, _, _, rfl, rfl, ?_⟩
      refine ⟨(by show 2 ≤ sizeLine; decide), fun p hp => q.puts ?_ hA' (Kp.of (Same.refl H)) hp⟩
      have px := rp _ (List.mem_of_getElem? (get?_of (0 : Int) (show j < row.length by omega)))
      rw [nats_co]
      show [V.int (((row.getD j 0).toNat : Nat) : Int), V.int (((j + 2 : Nat) : Int))] = _
      rw [Int.toNat_of_nonneg px]
      rfl
/-! ### back -/
theorem ok_backF (U : Under P w K mg base C) (D : DefAt K mg "back" s_back pCall) : Cal P w K mg base "back" pCall 6 (spCallF K C (fun _ _ _ => True) fun _ _ => .back) := by
  refine D.cal sc_back spCallF_len (fun f cdv A outer s H vs Q E hr h => ?_)
  obtain ⟨N, h, nA, rA, a, nums, row, rfl, hA, fr, g, hN, nR, hR, rq, q⟩ := h
  have hA' := hA
  obtain ⟨dx, r, p, hh, _⟩ := hA
  refine ⟨_, pss_cons (ps_if (pt_cmpR op_eq (pe_methC0 (pv 0) U.T.cl U.mChanges (hr.mono (by decide))) pe_int (nomark _)) (pss_one (ps_ret (pe_lst (pa_cons (pe_gi U.m6 (by rfl)) pa_nil)))) pss_nil)
    (pss_one (ps_ret (pe_lst (pa_cons (pe_methC0 (pv 0) U.T.cl U.mBack (hr.mono (by decide))) pa_nil)))), ?_⟩
  refine ⟨_, rfl, h, dx, _, rfl, hh, hf_no _ _ _ (by decide +kernel) (by decide +kernel) (by decide +kernel), N, h, true, a.coins, a.past.reverse, rfl, hA', rfl, _, rfl, ?_⟩
  rw [List.length_reverse]
  obtain ⟨coins, past⟩ := a
  cases past with
  | nil =>
    refine iteT ⟨(by show 1 ≤ sizeLine; decide), fun p hp => ?_⟩
    exact CallDone.put (a' := ⟨coins, []⟩) (ans := Kv394.say (-6)) q rfl hA' (Kp.of (Same.refl H)) hp
  | cons w l =>
    refine ite2 (fun c0 => ?_) (fun c0 => ?_)
    · have c1 : (((w :: l).length : Nat) : Int) = 0 := V.int.inj (of_decide_eq_true c0)
      rw [List.length_cons] at c1
      omega
    · have hB : HoldAt N C H h true coins (l.reverse ++ [w]) := by
        have z : HoldAt N C H h true coins (w :: l).reverse := hA'
        rwa [List.reverse_cons] at z
      refine ⟨_, rfl, h, dx, _, rfl, hh, hf_no _ _ _ (by decide +kernel) (by decide +kernel) (by decide +kernel), N, h, true, coins, w, l.reverse, rfl, hB, fr, fun H1 hA1 k1 => ?_⟩
      rw [List.length_reverse]
      refine ⟨(by show 1 ≤ sizeLine; decide), fun p hp => ?_⟩
      exact CallDone.put (a' := ⟨w, l⟩) (ans := Kv394.num l.length) q rfl hA1 k1 hp
/-! ### state -/
theorem ok_stateF (U : Under P w K mg base C) (D : DefAt K mg "state" s_state pCall) : Cal P w K mg base "state" pCall 6 (spCallF K C (fun _ _ _ => True) fun _ _ => .state) := by
  refine D.cal sc_state spCallF_len (fun f cdv A outer s H vs Q E hr h => ?_)
  obtain ⟨N, h, nA, rA, a, nums, row, rfl, hA, fr, g, hN, nR, hR, rq, q⟩ := h
  have hA' := hA
  obtain ⟨dx, r, p, hh, ⟨as, ha, hl, _⟩, _⟩ := hA
  refine ⟨_, pss_one (ps_ret (pe_lst (pa_cons (pe_callB call_len_seq (by rfl) U.B.len PySem.boot_len (pa_cons (pe_fld (pv 0) rfl) pa_nil)) (pa_cons (pe_methC0 (pv 0) U.T.cl U.mChanges (hr.mono (by decide))) pa_nil)))), ?_⟩
  refine ⟨_, rfl, h, C, dx, _, _, rfl, hh, U.T.cl, U.T.nR, hf_rows _ _ _, r, _, rfl, .inl (SqL.of ha), ?_⟩
  refine ⟨_, rfl, h, dx, _, rfl, hh, hf_no _ _ _ (by decide +kernel) (by decide +kernel) (by decide +kernel), N, h, true, a.coins, a.past.reverse, rfl, hA', ?_⟩
  rw [List.length_map, hl, List.length_reverse]
  exact ⟨(by show 2 ≤ sizeLine; decide), fun p hp => CallDone.puts (a' := a) (ans := ⟨(a.coins.length : Nat), [(a.past.length : Nat)]⟩) q rfl hA' (Kp.of (Same.refl H)) hp⟩
end
end Mc

end
section
set_option Elab.async false
set_option linter.all false
set_option maxRecDepth 100000
set_option maxHeartbeats 4000000
/-! Reading a call, answering it, all of them. -/
namespace Mc
open PySem PySem.Spec PyProof.Rows L2
open Kv394 (choose tosses)
/-- the table of shapes, as the top has written it -/
def ShTab (K : PySem.W.Frag) (mg : Str → Option Value) : Prop := ∃ (sA : Addr) (es : List Addr), mg "SHAPES" = some (.ref sA) ∧ (∀ H, SqT K H sA (es.map V.ref)) ∧ es.length = 22 ∧ ∀ (p : Nat) (e : Addr), es[p]? = some e → ∀ H, SqT K H e [.int (tabC p), .int (tabN p), .int (tabR p)]
theorem cut_mid {xs : List V} {i j : Nat} (h : i ≤ j) (hj : j ≤ xs.length) : cutV xs (some (i : Int)) (some (j : Int)) = (xs.drop i).take (j - i) := by
  unfold cutV
  rw [HT.sIx_nat, HT.sIx_nat, Nat.min_eq_left hj, Nat.min_eq_left (Nat.le_trans h hj)]
theorem seqT {K : PySem.W.Frag} {H : Hp} {a : Addr} {xs : List V} (h : H a = some (.tup xs)) : SqT K H a xs := SqT.of h
section
variable {P : Program} {w : World} {K : PySem.W.Frag} {mg : Str → Option Value} {base : Heap} {C : Addr}
/-! ### read_call -/
def spRead (K : PySem.W.Frag) : Sp := fun vs H Q _ => ∃ (a : Addr) (l : List Int) (i p : Nat) (nums row : List Int) (nx : Nat), vs = [.ref a, .int i] ∧ LI K H a l ∧ l.length ≤ 30000 ∧ CallIs l i p nums row nx ∧
  ∀ (H' : Hp) (q nA rA : Addr), Same H H' → H rA = none → H' nA = some (.lst (nums.map V.int)) → H' rA = some (.lst (row.map V.int)) → H' q = some (.tup [.int p, .ref nA, .ref rA, .int nx]) → Q (.ref q) H'
theorem ok_read (ST : ShTab K mg) (D : DefAt K mg "read_call" s_read_call ["calls", "at"]) : Cal P w K mg base "read_call" ["calls", "at"] 1 (spRead K) := by
  obtain ⟨sA, es, hsA, hsT, hel, hes⟩ := ST
  refine D.cal sc_read_call (fun vs H Q E h => ?_) (fun f cdv A outer s H vs Q E hr h => ?_)
  · obtain ⟨a, l, i, p, nums, row, nx, rfl, _⟩ := h
    rfl
  · obtain ⟨a, l, i, p, nums, row, nx, rfl, hL, hl, c, q⟩ := h
    refine ⟨_, pss_cons (ps_set (i := 2) sc_read_call.nd rfl (Or.inl rfl) (pe_ix ix_tup (pe_glob (v := .ref sA) (by rfl) hsA rfl) (pe_ix ix_I (pv 0) (pv 1) (fun _ _ => rfl)) (fun _ _ => rfl)))
      (pss_cons (ps_set (i := 3) sc_read_call.nd rfl (Or.inl rfl) (pe_op op_add (pe_op op_add (pe_op op_add (pv 1) pe_int) (pe_ix ix_tup (pv 2) pe_int (fun _ _ => rfl))) (pe_ix ix_tup (pv 2) pe_int (fun _ _ => rfl))))
      (pss_cons (ps_set (i := 4) sc_read_call.nd rfl (Or.inl rfl) (pe_slice sl_list (pv 0) (po_some (pe_op op_add (pv 1) pe_int)) (po_some (pv 3))))
      (pss_cons (ps_set (i := 5) sc_read_call.nd rfl (Or.inl rfl) (pe_lst pa_nil))
      (pss_cons (ps_if (pt_cmpR op_eq (pe_ix ix_tup (pv 2) pe_int (fun _ _ => rfl)) pe_int (nomark _))
        (pss_cons (ps_set (i := 6) sc_read_call.nd rfl (Or.inl rfl) (pe_ix ix_I (pv 0) (pv 3) (fun _ _ => rfl)))
        (pss_cons (ps_set (i := 5) sc_read_call.nd rfl (Or.inl rfl) (pe_slice sl_list (pv 0) (po_some (pe_op op_add (pv 3) pe_int)) (po_some (pe_op op_add (pe_op op_add (pv 3) pe_int) (pv 6)))))
        (pss_one (ps_set (i := 3) sc_read_call.nd rfl (Or.inl rfl) (pe_op op_add (pe_op op_add (pv 3) pe_int) (pv 6)))))) pss_nil)
      (pss_one (ps_ret (pe_tup (pa_cons (pe_ix ix_I (pv 0) (pv 1) (fun _ _ => rfl)) (pa_cons (pv 4) (pa_cons (pv 5) (pa_cons (pv 3) pa_nil))))))))))), ?_⟩
    have hi : i < l.length := (List.getElem?_eq_some_iff.mp c.at_).1
    have eg : l.getD i 0 = (p : Int) := getD_in c.at_
    have hin := c.in_
    obtain ⟨e, he⟩ : ∃ e, es[p]? = some e := ⟨_, List.getElem?_eq_getElem (by rw [hel]; exact c.lt)⟩
    have hE := hes p e he
    refine ⟨_, rfl, _, rfl, a, l, _, i, rfl, rfl, hL, rfl, hi, sA, _, _, _, rfl, rfl, hsT H, at_of (j := p) (v := .ref e) eg (by rw [List.getElem?_map, he]; rfl), ?_⟩
    refine ⟨_, rfl, _, _, rfl, rfl, _, rfl, e, _, _, _, rfl, rfl, hE H, atI_nat (j := 0) rfl, _, _, rfl, rfl, _, rfl, e, _, _, _, rfl, rfl, hE H, atI_nat (j := 1) rfl, _, _, rfl, rfl, ?_⟩
    have eE : (i : Int) + 1 + (tabC p : Int) + (tabN p : Int) = ((i + 1 + (tabC p + tabN p) : Nat) : Int) := by push_cast; omega
    refine ⟨_, rfl, _, rfl, _, _, rfl, rfl, ((i + 1 : Nat) : Int), by push_cast; rfl, _, rfl, ((i + 1 + (tabC p + tabN p) : Nat) : Int), congrArg V.int eE, a, _, rfl, hL, fun nA hn => ?_⟩
    rw [cut_mid (by omega) (by rw [List.length_map]; omega), ← List.map_drop, ← List.map_take, show i + 1 + (tabC p + tabN p) - (i + 1) = tabC p + tabN p by omega, ← c.nm]
    have S1 : Same H (upd H nA (.lst (nums.map V.int))) := Same.upd_new (Same.refl H) hn
    refine ⟨Nat.zero_le _, fun r0 hr0 => ?_⟩
    have S2 : Same H (upd (upd H nA (.lst (nums.map V.int))) r0 (.lst [])) := Same.upd_new S1 hr0
    have n2 : (upd (upd H nA (.lst (nums.map V.int))) r0 (.lst [])) nA = some (.lst (nums.map V.int)) := Same.upd_new (Same.refl _) hr0 _ _ upd_same
    refine ⟨_, rfl, e, _, _, _, rfl, rfl, hE _, atI_nat (j := 2) rfl, rfl, _, rfl, ?_⟩
    refine ite2 (fun c0 => ?_) (fun c0 => ?_)
    · have c1 : (tabR p : Int) = 1 := V.int.inj (of_decide_eq_true c0)
      obtain ⟨m, hm, erow, rl, hmx, enx⟩ := c.row1 (by omega)
      have hmi : i + 1 + (tabC p + tabN p) < l.length := (List.getElem?_eq_some_iff.mp hm).1
      have em : l.getD (i + 1 + (tabC p + tabN p)) 0 = (m : Int) := getD_in hm
      refine ⟨_, rfl, _, rfl, a, l, _, i + 1 + (tabC p + tabN p), rfl, rfl, S2.seq hL, eE, hmi, ?_⟩
      have e1 : (i : Int) + 1 + (tabC p : Int) + (tabN p : Int) + 1 = ((i + 1 + (tabC p + tabN p) + 1 : Nat) : Int) := by rw [eE]; push_cast; rfl
      have e2 : (i : Int) + 1 + (tabC p : Int) + (tabN p : Int) + 1 + l.getD (i + 1 + (tabC p + tabN p)) 0 = ((i + 1 + (tabC p + tabN p) + 1 + m : Nat) : Int) := by rw [e1, em]; push_cast; rfl
      refine ⟨_, rfl, _, rfl, _, _, rfl, rfl, ((i + 1 + (tabC p + tabN p) + 1 : Nat) : Int), congrArg V.int e1, _, rfl, _, _, rfl, rfl, _, rfl, _, _, rfl, rfl, ((i + 1 + (tabC p + tabN p) + 1 + m : Nat) : Int), congrArg V.int e2, a, _, rfl, S2.seq hL, fun rA hrA => ?_⟩
      rw [cut_mid (by omega) (by rw [List.length_map]; omega), ← List.map_drop, ← List.map_take, show i + 1 + (tabC p + tabN p) + 1 + m - (i + 1 + (tabC p + tabN p) + 1) = m by omega, ← erow]
      have S3 := Same.upd_new (o := .lst (row.map V.int)) S2 hrA
      refine ⟨_, rfl, _, _, rfl, rfl, _, rfl, _, _, rfl, rfl, ?_⟩
      refine ⟨_, rfl, _, rfl, a, l, _, i, rfl, rfl, S3.seq hL, rfl, hi, _, rfl, _, rfl, _, rfl, (by show 4 ≤ sizeLine; decide), fun t ht => ?_⟩
      refine q _ t nA rA (Same.upd_new S3 ht) (S2.free hrA) ?_ ?_ ?_
      · exact Same.upd_new (Same.upd_new (Same.refl _) hrA) ht _ _ n2
      · exact Same.upd_new (Same.refl _) ht _ _ upd_same
      · refine upd_same.trans ?_
        show some (HO.tup [V.int (l.getD i 0), V.ref nA, V.ref rA, V.int ((i : Int) + 1 + (tabC p : Int) + (tabN p : Int) + 1 + l.getD (i + 1 + (tabC p + tabN p)) 0)]) = _
        rw [eg, e2, enx]
    · have c1 : ¬ (tabR p : Int) = 1 := fun z => c0 (decide_eq_true (by rw [z]))
      obtain ⟨erow, enx⟩ := c.row0 (by have := tabR_01 p; omega)
      refine ⟨_, rfl, _, rfl, a, l, _, i, rfl, rfl, S2.seq hL, rfl, hi, _, rfl, _, rfl, _, rfl, (by show 4 ≤ sizeLine; decide), fun t ht => ?_⟩
      refine q _ t nA r0 (Same.upd_new S2 ht) (S1.free hr0) ?_ ?_ ?_
      · exact Same.upd_new (Same.refl _) ht _ _ n2
      · rw [erow]
        exact Same.upd_new (Same.refl _) ht _ _ upd_same
      · refine upd_same.trans ?_
        show some (HO.tup [V.int (l.getD i 0), V.ref nA, V.ref r0, V.int ((i : Int) + 1 + (tabC p : Int) + (tabN p : Int))]) = _
        rw [eg, eE, enx]
end
end Mc

end
section
set_option Elab.async false
set_option linter.all false
set_option maxRecDepth 100000
set_option maxHeartbeats 4000000
/-! answer_to. -/
namespace Mc
open PySem PySem.Spec PyProof.Rows L2
open Kv394 (choose tosses)
/-! ### the specification's refusals that all calls share -/
theorem act_none (nums row : List Int) : ∀ p, p < 22 → p ≠ 0 → Kv394.act none (callN p nums row) = (none, Kv394.say (-11))
  | 0, _, h => absurd rfl h
  | 1, _, _ => rfl
  | 2, _, _ => rfl
  | 3, _, _ => rfl
  | 4, _, _ => rfl
  | 5, _, _ => rfl
  | 6, _, _ => rfl
  | 7, _, _ => rfl
  | 8, _, _ => rfl
  | 9, _, _ => rfl
  | 10, _, _ => rfl
  | 11, _, _ => rfl
  | 12, _, _ => rfl
  | 13, _, _ => rfl
  | 14, _, _ => rfl
  | 15, _, _ => rfl
  | 16, _, _ => rfl
  | 17, _, _ => rfl
  | 18, _, _ => rfl
  | 19, _, _ => rfl
  | 20, _, _ => rfl
  | 21, _, _ => rfl
  | p + 22, h, _ => absurd h (by omega)
theorem act_begin (s : Kv394.State) : Kv394.act s .begin_ = (some ⟨[], []⟩, Kv394.say 0) := by cases s <;> rfl
theorem act_some (a : Kv394.Abs) (c : Kv394.Call) : Kv394.act (some a) c = (some (a.does c).1, (a.does c).2) := rfl
theorem no_1 {a : Kv394.Abs} {nums : List Int} {j : Nat} (hj : j < 1) (hn : a.coins.length ≤ (nums.getD j 0).toNat) : a.no (nums.getD 0 0).toNat = true := by
  have e : j = 0 := by omega
  subst e
  exact decide_eq_true hn
theorem no_2 {a : Kv394.Abs} {nums : List Int} {j : Nat} (hj : j < 2) (hn : a.coins.length ≤ (nums.getD j 0).toNat) : a.no (nums.getD 0 0).toNat = true ∨ a.no (nums.getD 1 0).toNat = true := by
  by_cases e : j = 0
  · subst e; exact .inl (decide_eq_true hn)
  · have e : j = 1 := by omega
    subst e; exact .inr (decide_eq_true hn)
theorem no_3 {a : Kv394.Abs} {nums : List Int} {j : Nat} (hj : j < 3) (hn : a.coins.length ≤ (nums.getD j 0).toNat) : a.no (nums.getD 0 0).toNat = true ∨ a.no (nums.getD 1 0).toNat = true ∨ a.no (nums.getD 2 0).toNat = true := by
  by_cases e : j = 0
  · subst e; exact .inl (decide_eq_true hn)
  · by_cases e : j = 1
    · subst e; exact .inr (.inl (decide_eq_true hn))
    · have e : j = 2 := by omega
      subst e; exact .inr (.inr (decide_eq_true hn))
theorem does_no {a : Kv394.Abs} {nums row : List Int} {j : Nat} (hn : a.coins.length ≤ (nums.getD j 0).toNat) : ∀ p, p < 22 → j < tabC p → a.does (callN p nums row) = (a, Kv394.say (-2))
  | 0, _, hj => absurd hj (by show ¬ j < 0; omega)
  | 1, _, hj => absurd hj (by show ¬ j < 0; omega)
  | 2, _, hj => absurd hj (by show ¬ j < 0; omega)
  | 3, _, hj => if_pos (no_1 hj hn)
  | 4, _, hj => if_pos (no_1 hj hn)
  | 5, _, hj => if_pos (no_1 hj hn)
  | 6, _, hj => if_pos (no_1 hj hn)
  | 7, _, hj => if_pos (no_2 hj hn)
  | 8, _, hj => if_pos (no_2 hj hn)
  | 9, _, hj => if_pos (no_3 hj hn)
  | 10, _, hj => if_pos (no_2 hj hn)
  | 11, _, hj => if_pos (no_1 hj hn)
  | 12, _, hj => if_pos (no_1 hj hn)
  | 13, _, hj => if_pos (no_1 hj hn)
  | 14, _, hj => if_pos (no_2 hj hn)
  | 15, _, hj => if_pos (no_1 hj hn)
  | 16, _, hj => if_pos (no_1 hj hn)
  | 17, _, hj => absurd hj (by show ¬ j < 0; omega)
  | 18, _, hj => absurd hj (by show ¬ j < 0; omega)
  | 19, _, hj => absurd hj (by show ¬ j < 0; omega)
  | 20, _, hj => absurd hj (by show ¬ j < 0; omega)
  | 21, _, hj => absurd hj (by show ¬ j < 0; omega)
  | p + 22, h, _ => absurd h (by omega)
/-! ### the holder with or without a begin -/
def HoldS (N : Addr → Prop) (C : Addr) (H : Hp) (h : Addr) : Kv394.State → Prop
  | none => HoldAt N C H h false [] []
  | some a => HoldA N C H h a
def DoneS (N : Addr → Prop) (C h : Addr) (H : Hp) (s' : Kv394.State) (ans : List Int) (Q : VK) : Prop := ∀ (H' : Hp) (p : Addr), HoldS N C H' h s' → Kp h H H' → H p = none → H' p = some (.lst (ans.map V.int)) → Q (.ref p) H'
theorem HoldS.same {N : Addr → Prop} {C : Addr} {H H' : Hp} {h : Addr} {s : Kv394.State} (e : Same H H') (q : HoldS N C H h s) : HoldS N C H' h s := by
  cases s with
  | none => exact HoldAt.same e q
  | some a => exact HoldAt.same e q
theorem HoldS.any {N : Addr → Prop} {C : Addr} {H : Hp} {h : Addr} {s : Kv394.State} (q : HoldS N C H h s) : ∃ b cs ps, HoldAt N C H h b cs ps ∧ ((b = false ∧ s = none ∧ cs = []) ∨ ∃ a, b = true ∧ s = some a ∧ cs = a.coins) := by
  cases s with
  | none => exact ⟨_, _, _, q, .inl ⟨rfl, rfl, rfl⟩⟩
  | some a => exact ⟨_, _, _, q, .inr ⟨a, rfl, rfl, rfl⟩⟩
theorem HoldS.off {N : Addr → Prop} {C : Addr} {H : Hp} {h g : Addr} {o : HO} {s : Kv394.State} (hg : ¬ N g) (hh : h ≠ g) (q : HoldS N C H h s) : HoldS N C (upd H g o) h s := by
  cases s with
  | none => exact HoldAt.off hg hh q
  | some a => exact HoldAt.off hg hh q
theorem DoneS.put {N : Addr → Prop} {C h : Addr} {H H' : Hp} {s' : Kv394.State} {z : Int} {Q : VK} (q : DoneS N C h H s' [z] Q) (hA : HoldS N C H' h s') (S : Same H H') {p : Addr} (hp : H' p = none) : Q (.ref p) (upd H' p (.lst [V.int z])) :=
  q _ p (HoldS.same (Same.upd_new (Same.refl _) hp) hA) (Kp.of (Same.upd_new S hp)) (S.free hp) upd_same
theorem DoneS.from_ {N : Addr → Prop} {C h : Addr} {H H1 : Hp} {s' : Kv394.State} {ans : List Int} {Q : VK} (q : DoneS N C h H s' ans Q) (S : Same H H1) : DoneS N C h H1 s' ans Q :=
  fun H' p hA k hp e => q H' p hA ((Kp.of S).trans k) (S.free hp) e
/-- what the def of the p-th call promises -/
def spDo (K : PySem.W.Frag) (C : Addr) (p : Nat) : Sp := fun vs H Q _ => ∃ (N : Addr → Prop) (h nA rA : Addr) (s : Kv394.State) (nums row : List Int), vs = [.ref h, .ref nA, .ref rA] ∧ HoldS N C H h s ∧ Fr N H ∧ GoodS s ∧ LI K H nA nums ∧ N rA ∧ H rA = some (.lst (row.map V.int)) ∧
  nums.length = tabC p + tabN p ∧ AskedN p nums row ∧ (p = 0 ∨ ∃ a, s = some a ∧ Told a nums (tabC p)) ∧ DoneS N C h H (Kv394.act s (callN p nums row)).1 (Kv394Neutral.row (Kv394.act s (callN p nums row)).2) Q
section
variable {P : Program} {w : World} {K : PySem.W.Frag} {mg : Str → Option Value} {base : Heap} {C : Addr}
/-- the table of calls, as the top has written it -/
def CallTab (P : Program) (w : World) (K : PySem.W.Frag) (mg : Str → Option Value) (base : Heap) (C : Addr) : Prop := ∃ (cA : Addr) (fs : List Addr), mg "CALLS" = some (.ref cA) ∧ (∀ H, SqT K H cA (fs.map V.ref)) ∧ fs.length = 22 ∧
  ∀ (p : Nat) (f : Addr), fs[p]? = some f → ∃ fd ps, FnOk P w K mg base CX0 6 f fd ps (spDo K C p) ∧ PySem.W.keepIn K (.ref f) = true ∧ Binds K fd ps []
def spAnsTo (K : PySem.W.Frag) (C : Addr) : Sp := fun vs H Q _ => ∃ (N : Addr → Prop) (h nA rA : Addr) (s : Kv394.State) (p : Nat) (nums row : List Int), vs = [.ref h, .int p, .ref nA, .ref rA] ∧ HoldS N C H h s ∧ Fr N H ∧ GoodS s ∧ p < 22 ∧ H nA = some (.lst (nums.map V.int)) ∧ N rA ∧ H rA = some (.lst (row.map V.int)) ∧
  nums.length = tabC p + tabN p ∧ AskedN p nums row ∧ DoneS N C h H (Kv394.act s (callN p nums row)).1 (Kv394Neutral.row (Kv394.act s (callN p nums row)).2) Q
theorem ok_answer (U : Under P w K mg base C) (ST : ShTab K mg) (CB : CallTab P w K mg base C) (mB : GI mg "BEGIN" 0) (D : DefAt K mg "answer_to" s_answer_to ["holder", "call", "numbers", "row"]) : Cal P w K mg base "answer_to" ["holder", "call", "numbers", "row"] 7 (spAnsTo K C) := by
  obtain ⟨sA, es, hsA, hsT, hel, hes⟩ := ST
  obtain ⟨cA, fs, hcA, hcT, hfl, hfs⟩ := CB
  refine D.cal sc_answer_to (fun vs H Q E h => ?_) (fun f cdv A outer s0 H vs Q E hr h => ?_)
  · obtain ⟨N, h, nA, rA, s, p, nums, row, rfl, _⟩ := h
    rfl
  · obtain ⟨N, h, nA, rA, s, p, nums, row, rfl, hS, fr, hg, hp, hN, nR, hR, hnl, hask, q⟩ := h
    refine ⟨_, pss_cons (ps_if (PW.pt (pw_and (pt_cmpR op_ne (pv 1) (pe_gi mB (by rfl)) (nomark _)) (pw_and1 (pt_not (pt_val (pe_fld (pv 0) rfl)))))) (pss_one (ps_ret (pe_lst (pa_cons (pe_gi U.m11 (by rfl)) pa_nil)))) pss_nil)
      (pss_cons (ps_for PassesOwn.never rfl (pi_list (pe_slice sl_list (pv 2) po_none (po_some (pe_ix ix_tup (pe_ix ix_tup (pe_glob (v := .ref sA) (by rfl) hsA rfl) (pv 1) (fun _ _ => rfl)) pe_int (fun _ _ => rfl))))) (pg_name (i := 4) sc_answer_to.nd rfl (Or.inl rfl))
        (pss_one (ps_if (pt_not (pt_val (pe_methC (pv 0) U.T.cl U.mHas (hr.mono (by decide)) (pa_cons (pv 4) pa_nil)))) (pss_one (ps_ret (pe_lst (pa_cons (pe_gi U.m2 (by rfl)) pa_nil)))) pss_nil)))
      (pss_one (ps_ret (pe_callE (pe_ix ix_tup (pe_glob (v := .ref cA) (by rfl) hcA rfl) (pv 1) (fun _ _ => rfl)) hr (pa_cons (pv 0) (pa_cons (pv 2) (pa_cons (pv 3) pa_nil))))))), ?_⟩
    obtain ⟨b, cs, ps, hAt, hb⟩ := hS.any
    have hAt' := hAt
    obtain ⟨dx, r, pa, hh, _, _⟩ := hAt
    refine ⟨_, rfl, rfl, _, rfl, ?_⟩
    by_cases hno : p ≠ 0 ∧ s = none
    · obtain ⟨hp0, rfl⟩ := hno
      rw [act_none nums row p hp hp0] at q
      have c0 : (!decide (V.int (p : Int) = V.int 0)) = true := dec_ne.mpr (by omega)
      rw [c0]
      rcases hb with ⟨eb, _, _⟩ | ⟨a, _, ea, _⟩
      · subst eb
        refine iteT ⟨_, rfl, h, C, dx, _, _, rfl, hh, U.T.cl, U.T.nB, hf_begun _ _ _, _, rfl, ?_⟩
        exact ⟨(by show 1 ≤ sizeLine; decide), fun p hp => DoneS.put q hS (Same.refl H) hp⟩
      · cases ea
    · refine (fun rest => ite2 (fun c0 => ?_) (fun c0 => rest)) ?_
      · have c1 := dec_ne.mp c0
        rcases hb with ⟨_, es, _⟩ | ⟨a, eb, _, _⟩
        · exact absurd ⟨by omega, es⟩ hno
        · subst eb
          exact ⟨_, rfl, h, C, dx, _, _, rfl, hh, U.T.cl, U.T.nB, hf_begun _ _ _, _, rfl, rest⟩
      · have hst : p = 0 ∨ ∃ a, s = some a ∧ cs = a.coins := by
          by_cases e0 : p = 0
          · exact .inl e0
          · rcases hb with ⟨_, es, _⟩ | ⟨a, _, ea, ec⟩
            · exact absurd ⟨e0, es⟩ hno
            · exact .inr ⟨a, ea, ec⟩
        obtain ⟨e, he⟩ : ∃ e, es[p]? = some e := ⟨_, List.getElem?_eq_getElem (by rw [hel]; exact hp)⟩
        obtain ⟨fn, hfn⟩ : ∃ e, fs[p]? = some e := ⟨_, List.getElem?_eq_getElem (by rw [hfl]; exact hp)⟩
        have hE := hes p e he
        refine ⟨_, rfl, _, rfl, sA, _, _, _, rfl, rfl, hsT H, at_of (j := p) (v := .ref e) rfl (by rw [List.getElem?_map, he]; rfl), e, _, _, _, rfl, rfl, hE H, atI_nat (j := 0) rfl, (tabC p : Int), rfl, nA, _, rfl, SqL.of hN, fun n2 hn2 => ?_⟩
        rw [cut_to (by rw [List.length_map]; omega), ← List.map_take]
        have S1 : Same H (upd H n2 (.lst ((nums.take (tabC p)).map V.int))) := Same.upd_new (Same.refl H) hn2
        refine ⟨n2, rfl, ⟨_, SqL.of upd_same⟩, for_list (K := K) (a := n2) (xs := (nums.take (tabC p)).map V.int)
          (fun i σ H' => ∃ v : Option V, σ = [some (.ref h), some (.int p), some (.ref nA), some (.ref rA), v] ∧ H' = upd H n2 (.lst ((nums.take (tabC p)).map V.int)) ∧ ∀ j, j < i → (nums.getD j 0).toNat < cs.length) ⟨none, rfl, rfl, fun j hj => absurd hj (by omega)⟩ (fun i σ H' _ ⟨_, _, e, _⟩ => by rw [e]; exact SqL.of upd_same) ?_ ?_⟩
        · rintro i x σ H' hx ⟨v, rfl, rfl, ih⟩
          rw [List.getElem?_map] at hx
          have hi : i < tabC p := by
            by_cases z : i < tabC p
            · exact z
            · rw [List.getElem?_eq_none (by rw [List.length_take]; omega)] at hx
              cases hx
          have hg1 : (nums.take (tabC p))[i]? = some (nums.getD i 0) := by
            rw [List.getElem?_take_of_lt hi, get?_of 0 (by omega)]
          rw [hg1] at hx
          obtain rfl := Option.some.inj hx
          have hx0 := (hask.nums _ (List.mem_of_getElem? (get?_of 0 (show i < nums.length by omega)))).1
          refine ⟨_, rfl, h, dx, _, rfl, S1 _ _ hh, hf_no _ _ _ (by decide +kernel) (by decide +kernel) (by decide +kernel), _, rfl, N, h, b, cs, ps, _, rfl, HoldAt.same S1 hAt', _, rfl, ?_⟩
          by_cases c0 : nums.getD i 0 < (cs.length : Int)
          · rw [decide_eq_true c0]
            refine iteF ⟨_, rfl, rfl, fun j hj => ?_⟩
            by_cases ej : j = i
            · subst ej; omega
            · exact ih j (by omega)
          · rw [decide_eq_false c0]
            rcases hst with e0 | ⟨a, ea, ec⟩
            · exfalso
              rw [e0] at hi
              exact absurd hi (by show ¬ i < 0; omega)
            · subst ea ec
              rw [act_some, does_no (by omega) p hp hi] at q
              exact iteT ⟨(by show 1 ≤ sizeLine; decide), fun p hp => DoneS.put q (HoldS.same S1 hS) S1 hp⟩
        · rintro σ H' ⟨v, rfl, rfl, ih⟩
          have hT : p = 0 ∨ ∃ a, s = some a ∧ Told a nums (tabC p) := by
            rcases hst with e0 | ⟨a, ea, ec⟩
            · exact .inl e0
            · refine .inr ⟨a, ea, by omega, fun j hj => ?_⟩
              have h1 := ih j (by rw [List.length_map, List.length_take]; omega)
              rw [ec] at h1
              exact ⟨(hask.nums _ (List.mem_of_getElem? (get?_of 0 (show j < nums.length by omega)))).1, h1⟩
          obtain ⟨fd, pn, F, kp, bn⟩ := hfs p fn hfn
          refine ⟨_, rfl, cA, _, _, _, rfl, rfl, hcT _, at_of (j := p) (v := .ref fn) rfl (by rw [List.getElem?_map, hfn]; rfl), fn, fd, pn, _, rfl, F, kp, bn, _, rfl, _, rfl, _, rfl, ?_⟩
          exact ⟨N, h, nA, rA, s, nums, row, rfl, HoldS.same S1 hS, fr.same S1, hg, SqL.of (S1 _ _ hN), nR, S1 _ _ hR, hnl, hask, hT, DoneS.from_ q S1⟩
end
end Mc

end
section
set_option Elab.async false
set_option linter.all false
set_option maxRecDepth 100000
set_option maxHeartbeats 4000000
/-! answers: all the calls. -/
namespace Mc
open PySem PySem.Spec PyProof.Rows L2
open Kv394 (choose tosses)
theorem GoodS.act {s : Kv394.State} (g : GoodS s) (c : Kv394.Call) : GoodS (Kv394.act s c).1 := by
  cases s with
  | some a => exact GoodAbs.does g c
  | none =>
    cases c with
    | begin_ => exact GoodAbs.nil
    | _ => trivial
theorem map_whole (l : List (List (List Int))) : l.map PyKv394.whole = l := by
  have e : PyKv394.whole = id := funext whole_id
  rw [e, List.map_id]
theorem asked_run {l : List Int} (h : PyKv394.answers_asked l = true) : ∃ raw, PyFlat.calls PyKv394.shape l.length l = some raw ∧ (∀ c ∈ raw, PyInside.call PyKv394.bound c = true) ∧ (PyKv394.answers l).length ≤ 10000000 ∧ PyKv394.answers l = PyFlat.told (PyFlat.played Kv394Neutral.step none raw) := by
  unfold PyKv394.answers_asked at h
  cases e : PyFlat.calls PyKv394.shape l.length l with
  | none =>
    rw [e] at h
    cases h
  | some raw =>
    rw [e] at h
    have h' : (!raw.isEmpty && PyFlat.atMost 256 raw && PyInside.calls PyKv394.bound raw && Kv394Neutral.asked (raw.map PyKv394.whole) && PyFlat.short 10000000 (PyKv394.answers l)) = true := h
    simp only [Bool.and_eq_true] at h'
    refine ⟨raw, rfl, List.all_eq_true.mp h'.1.1.2, of_decide_eq_true h'.2, ?_⟩
    unfold PyKv394.answers PyKv394.calls
    rw [e]
    show PyFlat.told (PyFlat.played Kv394Neutral.step Kv394Neutral.start (raw.map PyKv394.whole)) = _
    rw [map_whole]
    rfl
theorem calls_next {l : List Int} {i fu : Nat} {rest : List (List (List Int))} (hi : i < l.length) (h : PyFlat.calls PyKv394.shape fu (l.drop i) = some rest) : ∃ p nums row nx fu' rest', CallIs l i p nums row nx ∧ rest = raw p nums row :: rest' ∧ PyFlat.calls PyKv394.shape fu' (l.drop nx) = some rest' := by
  have d : l.drop i = l[i] :: l.drop (i + 1) := List.drop_eq_getElem_cons hi
  cases fu with
  | zero =>
    rw [d] at h
    cases h
  | succ fu =>
    have h2 : PyFlat.calls PyKv394.shape (fu + 1) (l[i] :: l.drop (i + 1)) = some rest := by rw [← d]; exact h
    have h3 : (match PyFlat.call PyKv394.shape (l[i] :: l.drop (i + 1)) with
      | none => none
      | some (c, t) => match PyFlat.calls PyKv394.shape fu t with
        | none => none
        | some cs => some (c :: cs)) = some rest := h2
    cases e : PyFlat.call PyKv394.shape (l[i] :: l.drop (i + 1)) with
    | none =>
      rw [e] at h3
      cases h3
    | some ct =>
      obtain ⟨c, t⟩ := ct
      rw [e] at h3
      rw [← d] at e
      obtain ⟨p, nums, row, nx, ci, ec, et⟩ := call_is hi e
      have h4 : (match PyFlat.calls PyKv394.shape fu t with
        | none => none
        | some cs => some (c :: cs)) = some rest := h3
      cases e2 : PyFlat.calls PyKv394.shape fu t with
      | none =>
        rw [e2] at h4
        cases h4
      | some cs =>
        rw [e2] at h4
        have h5 : some (c :: cs) = some rest := h4
        refine ⟨p, nums, row, nx, fu, cs, ci, ?_, ?_⟩
        · rw [← Option.some.inj h5, ec]
        · rw [← et]; exact e2
theorem calls_end {l : List Int} {i fu : Nat} {rest : List (List (List Int))} (hi : l.length ≤ i) (h : PyFlat.calls PyKv394.shape fu (l.drop i) = some rest) : rest = [] := by
  rw [List.drop_of_length_le hi] at h
  cases fu <;> exact (Option.some.inj h).symm
/-- the measure: what is left of the list -/
def leftOf (n : Nat) (σ : L2.St) (_ : Hp) : Nat := match σ with
  | [_, _, _, some (.int i), _, _] => n - i.toNat
  | _ => 0
section
variable {P : Program} {w : World} {K : PySem.W.Frag} {mg : Str → Option Value} {base : Heap} {C : Addr}
def spAnswers (K : PySem.W.Frag) : Sp := fun vs H Q _ => ∃ (a : Addr) (l : List Int), vs = [.ref a] ∧ LI K H a l ∧ l.length ≤ 30000 ∧ PyKv394.answers_asked l = true ∧ ∀ (H' : Hp) (p : Addr), H' p = some (.lst ((PyKv394.answers l).map V.int)) → Q (.ref p) H'
theorem ok_answers (U : Under P w K mg base C) (CR : Cal P w K mg base "read_call" ["calls", "at"] 1 (spRead K)) (CA : Cal P w K mg base "answer_to" ["holder", "call", "numbers", "row"] 7 (spAnsTo K C))
    (mC : mg "Holder" = some (.ref C)) {fI : Addr} {fdI : FuncData} (M : Mk K C fI) (FI : Fun K "__init__" "Holder.__init__" s_Holder_init fI fdI) (bI : Binds K fdI ["self"] []) {f : Addr} {fd : FuncData} (F : Fun K "answers" "answers" s_answers f fd) :
    FnOk P w K mg base CX0 8 f fd ["calls"] (spAnswers K) := by
  have G0 : FnOk P w K mg base CX0 1 fI fdI ["self"] (spInit C) := ok_init U.T FI
  refine F.ok sc_answers (fun vs H Q E h => ?_) (fun cdv A outer s0 H vs Q E hr h => ?_)
  · obtain ⟨a, l, rfl, _⟩ := h
    rfl
  · obtain ⟨a, l, rfl, hL, hl, hask, q⟩ := h
    refine ⟨_, pss_cons (ps_set (i := 1) sc_answers.nd rfl (Or.inl rfl) (pe_make0 M G0 (hr.mono (by decide)) rfl mC bI .nil pass0))
      (pss_cons (ps_set (i := 2) sc_answers.nd rfl (Or.inl rfl) (pe_lst pa_nil))
      (pss_cons (ps_set (i := 3) sc_answers.nd rfl (Or.inl rfl) pe_int)
      (pss_cons (ps_while PassesOwn.never (pt_cmpR op_lt (pv 3) (pe_lenV 0 U.B.len (by rfl) (pv 0)) (nomark _))
        (pss_cons (ps_set (i := 4) sc_answers.nd rfl (Or.inl rfl) (pe_callC CR (hr.mono (by decide)) (by rfl) (pa_cons (pv 0) (pa_cons (pv 3) pa_nil))))
        (pss_cons (ps_set (i := 5) sc_answers.nd rfl (Or.inl rfl) (pe_callC CA hr (by rfl) (pa_cons (pv 1) (pa_cons (pe_ix ix_tup (pv 4) pe_int (fun _ _ => rfl)) (pa_cons (pe_ix ix_tup (pv 4) pe_int (fun _ _ => rfl)) (pa_cons (pe_ix ix_tup (pv 4) pe_int (fun _ _ => rfl)) pa_nil))))))
        (pss_cons (ps_expr (pe_bm PySem.F.plainAttrs_list PySem.F.slot_list_append PySem.F.type_list_append mt_append (pv 2) (pa_cons (pe_lenV 5 U.B.len (by rfl) (pv 5)) pa_nil)))
        (pss_cons (ps_expr (pe_bm PySem.F.plainAttrs_list PySem.F.slot_list_extend PySem.F.type_list_extend mt_extend (pv 2) (pa_cons (pv 5) pa_nil)))
        (pss_one (ps_set (i := 3) sc_answers.nd rfl (Or.inl rfl) (pe_ix ix_tup (pv 4) pe_int (fun _ _ => rfl)))))))))
      (pss_one (ps_ret (pv 2)))))), ?_⟩
    obtain ⟨rw0, hc0, hin, hsz, hans⟩ := asked_run hask
    intro h dx n0 m0 e0
    refine ⟨h, dx, rfl, upd_same, fun H1 hA1 k1 => ⟨rfl, ?_⟩⟩
    have S1 : Same H H1 := Same.made n0 m0 k1
    refine ⟨Nat.zero_le _, fun g hg => ?_⟩
    have S2 : Same H1 (upd H1 g (.lst [])) := Same.upd_new (Same.refl _) hg
    have hA2 : HoldAt (fun b => b ≠ g) C H1 h false [] [] := HoldAt.imp (fun b hb z => hb (by rw [z]; exact hg)) hA1
    refine while_by (fun σ H' => ∃ (v4 v5 : Option V) (i : Nat) (s : Kv394.State) (gv : List Int) (rest : List (List (List Int))) (fu : Nat), σ = [some (.ref a), some (.ref h), some (.ref g), some (.int i), v4, v5] ∧ i ≤ l.length ∧
      PyFlat.calls PyKv394.shape fu (l.drop i) = some rest ∧ (∀ c ∈ rest, PyInside.call PyKv394.bound c = true) ∧ gv ++ PyFlat.told (PyFlat.played Kv394Neutral.step s rest) = PyKv394.answers l ∧ HoldS (fun b => b ≠ g) C H' h s ∧ GoodS s ∧ H' g = some (.lst (gv.map V.int)) ∧ Same H H') (leftOf l.length)
      ⟨none, none, 0, none, [], rw0, l.length, rfl, Nat.zero_le _, hc0, hin, hans.symm, HoldAt.same S2 hA2, trivial, upd_same, S1.trans S2⟩ ?_ ?_
    · rintro σ H' ⟨v4, v5, i, s, gv, rest, fu, rfl, hi, hc, hin, hgv, hS, hgd, hq, S3⟩
      refine ⟨_, rfl, _, rfl, a, l, rfl, S3.seq hL, _, _, rfl, rfl, _, rfl, ?_⟩
      refine ite2 (fun c0 => ?_) (fun c0 => ?_)
      · have c1 : (i : Int) < (l.length : Int) := of_decide_eq_true c0
        obtain ⟨p, nums, row, nx, fu', rest', ci, er, hc'⟩ := calls_next (by omega) hc
        subst er
        have hra := hin _ (List.mem_cons_self ..)
        have hak := asked_of ci.lt ci.nl (fun z => (ci.row0 z).1) hra
        have hnx := ci.next
        have est := step_raw ci.lt s nums row
        have hpl : PyFlat.told (PyFlat.played Kv394Neutral.step s (raw p nums row :: rest')) = ((Kv394Neutral.row (Kv394.act s (callN p nums row)).2).length : Int) :: (Kv394Neutral.row (Kv394.act s (callN p nums row)).2 ++ PyFlat.told (PyFlat.played Kv394Neutral.step (Kv394.act s (callN p nums row)).1 rest')) := by
          show ((((Kv394Neutral.step s (raw p nums row)).2.length : Int) :: (Kv394Neutral.step s (raw p nums row)).2) ++ PyFlat.told (PyFlat.played Kv394Neutral.step (Kv394Neutral.step s (raw p nums row)).1 rest')) = _
          rw [est]
          rfl
        rw [hpl] at hgv
        have hsz2 : gv.length + 1 + (Kv394Neutral.row (Kv394.act s (callN p nums row)).2).length ≤ 10000000 := by
          have z := hsz
          rw [← hgv] at z
          simp only [List.length_append, List.length_cons] at z
          omega
        refine ⟨_, rfl, _, rfl, a, l, i, p, nums, row, nx, rfl, S3.seq hL, hl, ci, fun H4 t nA rA S4 nr4 hn4 hr4 ht4 => ?_⟩
        refine ⟨_, rfl, _, rfl, t, _, _, _, rfl, rfl, SqT.of ht4, atI_nat (j := 0) rfl, _, rfl, t, _, _, _, rfl, rfl, SqT.of ht4, atI_nat (j := 1) rfl, _, rfl, t, _, _, _, rfl, rfl, SqT.of ht4, atI_nat (j := 2) rfl, ?_⟩
        refine ⟨fun b => b ≠ g, h, nA, rA, s, p, nums, row, rfl, HoldS.same S4 hS, fun b hb z => ?_, hgd, ci.lt, hn4, ?_, hr4, ci.nl, hak, fun H5 an hS5 k5 hn5 ha5 => ?_⟩
        · rw [z, S4 _ _ hq] at hb
          cases hb
        · intro z
          rw [z, hq] at nr4
          cases nr4
        obtain ⟨b', cs', ps', hAt4, _⟩ := (HoldS.same S4 hS).any
        obtain ⟨dx4, r4, p4, hh4, _, _⟩ := hAt4
        have hg5 : H5 g = some (.lst (gv.map V.int)) := k5.lst hh4 (S4 _ _ hq)
        have ht5 : H5 t = some (.tup [.int p, .ref nA, .ref rA, .int nx]) := k5 t _ ht4 (ne_of ht4 hh4 (by intro z; cases z))
        have nga : g ≠ an := ne_of_none (S4 _ _ hq) hn5
        have S5 : Same H H5 := fun b o e => k5 b o (S4 _ _ (S3 b o e)) (fun z => by rw [z, n0] at e; cases e)
        have ngH : H g = none := S1.free hg
        refine ⟨_, rfl, .inl ⟨rfl, _, SqL.of hg5⟩, _, rfl, an, _, rfl, SqL.of ha5, g, _, _, rfl, rfl, hg5, ?_, ?_⟩
        · rw [List.length_map]
          exact Nat.lt_of_le_of_lt (show gv.length ≤ 10000000 by omega) (by decide)
        refine ⟨_, rfl, .inl ⟨rfl, _, SqL.of upd_same⟩, _, rfl, g, an, _, _, rfl, rfl, upd_same, by rw [upd_ne (fun z => nga z.symm)]; exact ha5, ?_, ?_⟩
        · rw [List.length_append, List.length_map, List.length_map]
          exact Nat.le_trans (show gv.length + 1 + (Kv394Neutral.row (Kv394.act s (callN p nums row)).2).length ≤ 10000000 by omega) (by decide)
        rw [upd_upd]
        have ngh : h ≠ g := ne_of hh4 (S4 _ _ hq) (by intro z; cases z)
        have ngt : t ≠ g := ne_of ht5 hg5 (by intro z; cases z)
        refine ⟨_, rfl, t, _, _, _, rfl, rfl, SqT.of (by rw [upd_ne ngt]; exact ht5), atI_nat (j := 3) rfl, ?_⟩
        have kg : ∀ {o : HO}, Kp g H5 (upd H5 g o) := fun {o} => upd_kp (Kp.of (Same.refl _))
        refine ⟨⟨_, _, nx, (Kv394.act s (callN p nums row)).1, gv ++ (((Kv394Neutral.row (Kv394.act s (callN p nums row)).2).length : Int) :: Kv394Neutral.row (Kv394.act s (callN p nums row)).2), rest', fu', rfl, hnx.2, hc', fun c hcm => hin c (List.mem_cons_of_mem _ hcm), ?_, ?_, hgd.act _, ?_, Same.upd_own S5 ngH⟩, ?_⟩
        · rw [← hgv]
          simp
        · exact HoldS.off (fun z => z rfl) ngh hS5
        · rw [upd_same]
          simp
        · show l.length - ((nx : Int)).toNat < l.length - ((i : Int)).toNat
          rw [Int.toNat_natCast, Int.toNat_natCast]
          omega
      · have c1 : ¬ (i : Int) < (l.length : Int) := fun z => c0 (decide_eq_true z)
        have er := calls_end (by omega) hc
        subst er
        refine ⟨_, rfl, q H' g ?_⟩
        rw [hq, ← hgv]
        congr 3
        exact (List.append_nil gv).symm
    · exact fun σ H Q Q' mo ⟨v, e, v', e', a, ns, e1, l, i, j, e2, e3, k, e4, q⟩ => ⟨v, e, v', e', a, ns, e1, l, i, j, e2, e3, k, e4, mo _ _ q⟩
end
end Mc

end
section
set_option Elab.async false
set_option linter.all false
set_option maxRecDepth 100000
set_option maxHeartbeats 4000000
/-! From what the top has written to the promises. -/
namespace Mc
open PySem PySem.Spec PyProof.Rows L2
open Kv394 (choose tosses)
section
variable {P : Program} {w : World} {K : PySem.W.Frag} {mg : Str → Option Value} {base : Heap} {C : Addr} {h : Heap}
theorem def_mk {x : Str} {st : Stmt} {ps : List Str} (X : K.In h) (G : h.Ns mainGlobals mg) {f : Addr} {oc : Value} {od an : Option Addr} {osl : Array (Option Value)} {kV doc pm cdv ct : Value} (a : PySem.W.nsIn K mainGlobals x = some (some (.ref f)))
    (l : K.lookup f = some ⟨oc, od, .func (PySem.W.fnOf x x (defArgs st) (defBody st) (defScope st) .none kV doc pm an cdv ct), osl⟩) (c : PySem.W.codeIn K cdv x = true) (k : PySem.W.keepIn K (.ref f) = true)
    (hb : ∀ (kV doc pm : Value) (an : Option Addr) (cdv ct : Value) (us : List Value), us.length = ps.length → bindArgs (PySem.W.fnOf x x (defArgs st) (defBody st) (defScope st) .none kV doc pm an cdv ct) ⟨us, []⟩ = pure (ps.zip us)) : DefAt K mg x st ps :=
  ⟨f, _, fun_mk l c k, (fun_mk l c k).binds hb, PySem.W.mg_of X G a⟩
theorem meth_mk {m qual : Str} {st : Stmt} {ps : List Str} {f : Addr} {oc : Value} {od an : Option Addr} {osl : Array (Option Value)} {kV doc pm cdv ct : Value} (a : PySem.W.findIn K (.ref C) m = some (some (.ref f))) (i : PySem.W.isFn K (.ref f) = true)
    (l : K.lookup f = some ⟨oc, od, .func (PySem.W.fnOf m qual (defArgs st) (defBody st) (defScope st) .none kV doc pm an cdv ct), osl⟩) (c : PySem.W.codeIn K cdv qual = true) (k : PySem.W.keepIn K (.ref f) = true)
    (hb : ∀ (kV doc pm : Value) (an : Option Addr) (cdv ct : Value) (us : List Value), us.length = ps.length → bindArgs (PySem.W.fnOf m qual (defArgs st) (defBody st) (defScope st) .none kV doc pm an cdv ct) ⟨us, []⟩ = pure (ps.zip us)) : MethAt K C m qual st ps :=
  ⟨f, _, fun_mk l c k, (fun_mk l c k).binds hb, ⟨a, i, k⟩⟩
theorem gi_mk {x : Str} {i : Int} {t : Tok} (X : K.In h) (G : h.Ns mainGlobals mg) (a : PySem.W.nsIn K mainGlobals x = some (some (.int i t))) : GI mg x i := ⟨t, PySem.W.mg_of X G a⟩
/-- a tuple of three whole numbers -/
theorem tup3 {e : Addr} {oc : Value} {od : Option Addr} {osl : Array (Option Value)} {x y z : Int} {t u v : Tok} {n : Nat} (l : K.lookup e = some ⟨.type "tuple", od, .seq #[.int x t, .int y u, .int z v] n, osl⟩) (H : Hp) : SqT K H e [.int x, .int y, .int z] :=
  .inr ⟨_, _, n, l, rfl, rfl, (by show 3 ≤ sizeLine; decide), .cons ⟨t, rfl⟩ (.cons ⟨u, rfl⟩ (.cons ⟨v, rfl⟩ .nil))⟩
theorem refs_vals : ∀ es : List Addr, Vals (es.map V.ref) (es.map Value.ref)
  | [] => .nil
  | e :: es => .cons rfl (refs_vals es)
theorem tupR {e : Addr} {od : Option Addr} {osl : Array (Option Value)} {n : Nat} (es : List Addr) (hl : es.length ≤ 100) (l : K.lookup e = some ⟨.type "tuple", od, .seq (es.map Value.ref).toArray n, osl⟩) (H : Hp) : SqT K H e (es.map V.ref) :=
  .inr ⟨_, _, n, l, rfl, rfl, by simpa using small_of hl, by simpa using refs_vals es⟩
/-- one of the table's rows -/
def Sh (K : PySem.W.Frag) (p : Nat) (e : Addr) : Prop := ∀ H, SqT K H e [.int (tabC p), .int (tabN p), .int (tabR p)]
theorem sh_mk {p : Nat} {e : Addr} {od : Option Addr} {osl : Array (Option Value)} {t u v : Tok} {n : Nat} (l : K.lookup e = some ⟨.type "tuple", od, .seq #[.int (tabC p) t, .int (tabN p) u, .int (tabR p) v] n, osl⟩) : Sh K p e := fun H =>
  .inr ⟨_, _, n, l, rfl, rfl, (by show 3 ≤ sizeLine; decide), .cons ⟨t, rfl⟩ (.cons ⟨u, rfl⟩ (.cons ⟨v, rfl⟩ .nil))⟩
theorem shTab_mk (X : K.In h) (G : h.Ns mainGlobals mg) {sA e0 e1 e2 e3 e4 e5 e6 e7 e8 e9 e10 e11 e12 e13 e14 e15 e16 e17 e18 e19 e20 e21 : Addr} {od : Option Addr} {osl : Array (Option Value)} {n : Nat} (a : PySem.W.nsIn K mainGlobals "SHAPES" = some (some (.ref sA)))
    (l : K.lookup sA = some ⟨.type "tuple", od, .seq #[.ref e0, .ref e1, .ref e2, .ref e3, .ref e4, .ref e5, .ref e6, .ref e7, .ref e8, .ref e9, .ref e10, .ref e11, .ref e12, .ref e13, .ref e14, .ref e15, .ref e16, .ref e17, .ref e18, .ref e19, .ref e20, .ref e21] n, osl⟩)
    (h0 : Sh K 0 e0) (h1 : Sh K 1 e1) (h2 : Sh K 2 e2) (h3 : Sh K 3 e3) (h4 : Sh K 4 e4) (h5 : Sh K 5 e5) (h6 : Sh K 6 e6) (h7 : Sh K 7 e7) (h8 : Sh K 8 e8) (h9 : Sh K 9 e9) (h10 : Sh K 10 e10) (h11 : Sh K 11 e11) (h12 : Sh K 12 e12) (h13 : Sh K 13 e13) (h14 : Sh K 14 e14) (h15 : Sh K 15 e15) (h16 : Sh K 16 e16) (h17 : Sh K 17 e17) (h18 : Sh K 18 e18) (h19 : Sh K 19 e19) (h20 : Sh K 20 e20) (h21 : Sh K 21 e21) : ShTab K mg := by
  refine ⟨sA, [e0, e1, e2, e3, e4, e5, e6, e7, e8, e9, e10, e11, e12, e13, e14, e15, e16, e17, e18, e19, e20, e21], PySem.W.mg_of X G a, tupR _ (by show 22 ≤ 100; decide) l, rfl, fun p e he => ?_⟩
  match p, he with
  | 0, he => cases he; exact h0
  | 1, he => cases he; exact h1
  | 2, he => cases he; exact h2
  | 3, he => cases he; exact h3
  | 4, he => cases he; exact h4
  | 5, he => cases he; exact h5
  | 6, he => cases he; exact h6
  | 7, he => cases he; exact h7
  | 8, he => cases he; exact h8
  | 9, he => cases he; exact h9
  | 10, he => cases he; exact h10
  | 11, he => cases he; exact h11
  | 12, he => cases he; exact h12
  | 13, he => cases he; exact h13
  | 14, he => cases he; exact h14
  | 15, he => cases he; exact h15
  | 16, he => cases he; exact h16
  | 17, he => cases he; exact h17
  | 18, he => cases he; exact h18
  | 19, he => cases he; exact h19
  | 20, he => cases he; exact h20
  | 21, he => cases he; exact h21
  | p + 22, he => simp at he
/-- the def under the p-th place keeps its promise -/
def Ca (P : Program) (w : World) (K : PySem.W.Frag) (mg : Str → Option Value) (base : Heap) (C : Addr) (p : Nat) (f : Addr) : Prop := ∃ fd ps, FnOk P w K mg base CX0 6 f fd ps (spDo K C p) ∧ PySem.W.keepIn K (.ref f) = true ∧ Binds K fd ps []
theorem ca_mk {x : Str} {ps : List Str} {p : Nat} {f : Addr} (X : K.In h) (G : h.Ns mainGlobals mg) (a : PySem.W.nsIn K mainGlobals x = some (some (.ref f))) (c : Cal P w K mg base x ps 6 (spDo K C p)) : Ca P w K mg base C p f := by
  obtain ⟨f', fd, F, hm, kp, b⟩ := c
  have e := (PySem.W.mg_of X G a).symm.trans hm
  cases e
  exact ⟨fd, ps, F, kp, b⟩
theorem callTab_mk (X : K.In h) (G : h.Ns mainGlobals mg) {sA e0 e1 e2 e3 e4 e5 e6 e7 e8 e9 e10 e11 e12 e13 e14 e15 e16 e17 e18 e19 e20 e21 : Addr} {od : Option Addr} {osl : Array (Option Value)} {n : Nat} (a : PySem.W.nsIn K mainGlobals "CALLS" = some (some (.ref sA)))
    (l : K.lookup sA = some ⟨.type "tuple", od, .seq #[.ref e0, .ref e1, .ref e2, .ref e3, .ref e4, .ref e5, .ref e6, .ref e7, .ref e8, .ref e9, .ref e10, .ref e11, .ref e12, .ref e13, .ref e14, .ref e15, .ref e16, .ref e17, .ref e18, .ref e19, .ref e20, .ref e21] n, osl⟩)
    (h0 : Ca P w K mg base C 0 e0) (h1 : Ca P w K mg base C 1 e1) (h2 : Ca P w K mg base C 2 e2) (h3 : Ca P w K mg base C 3 e3) (h4 : Ca P w K mg base C 4 e4) (h5 : Ca P w K mg base C 5 e5) (h6 : Ca P w K mg base C 6 e6) (h7 : Ca P w K mg base C 7 e7) (h8 : Ca P w K mg base C 8 e8) (h9 : Ca P w K mg base C 9 e9) (h10 : Ca P w K mg base C 10 e10)
    (h11 : Ca P w K mg base C 11 e11) (h12 : Ca P w K mg base C 12 e12) (h13 : Ca P w K mg base C 13 e13) (h14 : Ca P w K mg base C 14 e14) (h15 : Ca P w K mg base C 15 e15) (h16 : Ca P w K mg base C 16 e16) (h17 : Ca P w K mg base C 17 e17) (h18 : Ca P w K mg base C 18 e18) (h19 : Ca P w K mg base C 19 e19) (h20 : Ca P w K mg base C 20 e20) (h21 : Ca P w K mg base C 21 e21) : CallTab P w K mg base C := by
  refine ⟨sA, [e0, e1, e2, e3, e4, e5, e6, e7, e8, e9, e10, e11, e12, e13, e14, e15, e16, e17, e18, e19, e20, e21], PySem.W.mg_of X G a, tupR _ (by show 22 ≤ 100; decide) l, rfl, fun p e he => ?_⟩
  match p, he with
  | 0, he => cases he; exact h0
  | 1, he => cases he; exact h1
  | 2, he => cases he; exact h2
  | 3, he => cases he; exact h3
  | 4, he => cases he; exact h4
  | 5, he => cases he; exact h5
  | 6, he => cases he; exact h6
  | 7, he => cases he; exact h7
  | 8, he => cases he; exact h8
  | 9, he => cases he; exact h9
  | 10, he => cases he; exact h10
  | 11, he => cases he; exact h11
  | 12, he => cases he; exact h12
  | 13, he => cases he; exact h13
  | 14, he => cases he; exact h14
  | 15, he => cases he; exact h15
  | 16, he => cases he; exact h16
  | 17, he => cases he; exact h17
  | 18, he => cases he; exact h18
  | 19, he => cases he; exact h19
  | 20, he => cases he; exact h20
  | 21, he => cases he; exact h21
  | p + 22, he => simp at he
/-- a call's own promise gives what the table asks -/
theorem do_of {x : Str} {ps : List Str} {p : Nat} {req : Kv394.Abs → List Int → List Int → Prop} {mk : List Int → List Int → Kv394.Call} (hp : p ≠ 0) (hq : ∀ a nums row, nums.length = tabC p + tabN p → AskedN p nums row → Told a nums (tabC p) → req a nums row) (hm : ∀ nums row, callN p nums row = mk nums row)
    (c : Cal P w K mg base x ps 6 (spCallF K C req mk)) : Cal P w K mg base x ps 6 (spDo K C p) := by
  obtain ⟨f, fd, F, m, kp, b⟩ := c
  refine ⟨f, fd, F.imp fun vs H Q E hd => ?_, m, kp, b⟩
  obtain ⟨N, h, nA, rA, s, nums, row, e, hS, fr, hg, hN, nR, hR, hnl, hask, ht, q⟩ := hd
  rcases ht with z | ⟨a, rfl, ht⟩
  · exact absurd z hp
  · refine ⟨N, h, nA, rA, a, nums, row, e, hS, fr, hg, hN, nR, hR, hq a nums row hnl hask ht, ?_⟩
    rw [hm nums row] at q
    exact q
theorem do_begin {x : Str} {ps : List Str} (c : Cal P w K mg base x ps 6 (spBeginF K C)) : Cal P w K mg base x ps 6 (spDo K C 0) := by
  obtain ⟨f, fd, F, m, kp, b⟩ := c
  refine ⟨f, fd, F.imp fun vs H Q E hd => ?_, m, kp, b⟩
  obtain ⟨N, h, nA, rA, s, nums, row, e, hS, fr, hg, hN, nR, hR, hnl, hask, ht, q⟩ := hd
  obtain ⟨b', cs, pp, hAt, _⟩ := hS.any
  refine ⟨N, h, nA, rA, b', cs, pp, e, hAt, fr, ?_⟩
  have e2 : Kv394.act s (callN 0 nums row) = (some ⟨[], []⟩, Kv394.say 0) := act_begin s
  rw [e2] at q
  exact q
theorem do_coin (U : Under P w K mg base C) (D : DefAt K mg "coin" s_coin pCall) : Cal P w K mg base "coin" pCall 6 (spDo K C 1) := do_of (by decide) (fun a nums row _ hk _ x hx => (hk.pos (.inl rfl) x hx).1) (fun _ _ => rfl) (ok_coinF U D)
theorem do_poly (U : Under P w K mg base C) (D : DefAt K mg "poly" s_poly pCall) : Cal P w K mg base "poly" pCall 6 (spDo K C 2) := do_of (by decide) (fun _ _ _ _ _ _ => trivial) (fun _ _ => rfl) (ok_polyF U D)
theorem do_drop (U : Under P w K mg base C) (D : DefAt K mg "drop" s_drop pCall) : Cal P w K mg base "drop" pCall 6 (spDo K C 3) := do_of (by decide) (fun _ _ _ _ _ t => t) (fun _ _ => rfl) (ok_dropF U D)
theorem do_more (U : Under P w K mg base C) (D : DefAt K mg "more" s_more pCall) : Cal P w K mg base "more" pCall 6 (spDo K C 4) := do_of (by decide) (fun _ _ _ _ _ t => t) (fun _ _ => rfl) (ok_moreF U D)
theorem do_less (U : Under P w K mg base C) (D : DefAt K mg "less" s_less pCall) : Cal P w K mg base "less" pCall 6 (spDo K C 5) := do_of (by decide) (fun _ _ _ _ _ t => t) (fun _ _ => rfl) (ok_lessF U D)
theorem do_not (U : Under P w K mg base C) (D : DefAt K mg "not_of" s_not_of pCall) : Cal P w K mg base "not_of" pCall 6 (spDo K C 6) := do_of (by decide) (fun _ _ _ _ _ t => t) (fun _ _ => rfl) (ok_notF U D)
theorem do_and (U : Under P w K mg base C) (D : DefAt K mg "and_of" s_and_of pCall) : Cal P w K mg base "and_of" pCall 6 (spDo K C 7) := do_of (by decide) (fun _ _ _ _ _ t => t) (fun _ _ => rfl) (ok_andF U D)
theorem do_or (U : Under P w K mg base C) (D : DefAt K mg "or_of" s_or_of pCall) : Cal P w K mg base "or_of" pCall 6 (spDo K C 8) := do_of (by decide) (fun _ _ _ _ _ t => t) (fun _ _ => rfl) (ok_orF U D)
theorem do_if (U : Under P w K mg base C) (D : DefAt K mg "if_then" s_if_then pCall) : Cal P w K mg base "if_then" pCall 6 (spDo K C 9) := do_of (by decide) (fun _ _ _ _ _ t => t) (fun _ _ => rfl) (ok_ifF U D)
theorem do_of_ (U : Under P w K mg base C) (D : DefAt K mg "of" s_of pCall) : Cal P w K mg base "of" pCall 6 (spDo K C 10) := do_of (by decide) (fun _ _ _ _ _ t => t) (fun _ _ => rfl) (ok_ofF U D)
theorem do_row (U : Under P w K mg base C) (D : DefAt K mg "coin_row" s_coin_row pCall) : Cal P w K mg base "coin_row" pCall 6 (spDo K C 11) := do_of (by decide) (fun _ _ _ _ _ t => t) (fun _ _ => rfl) (ok_rowF U D)
theorem do_coefs (U : Under P w K mg base C) (D : DefAt K mg "coefs" s_coefs pCall) : Cal P w K mg base "coefs" pCall 6 (spDo K C 12) := do_of (by decide) (fun _ _ _ _ _ t => t) (fun _ _ => rfl) (ok_coefsF U D)
theorem do_chance (U : Under P w K mg base C) (D : DefAt K mg "chance" s_chance pCall) : Cal P w K mg base "chance" pCall 6 (spDo K C 13) := do_of (by decide) (fun _ _ _ hl hk t => ⟨t, hl, fun x hx => (hk.nums x hx).1⟩) (fun _ _ => rfl) (ok_chanceF U D)
theorem do_same (U : Under P w K mg base C) (D : DefAt K mg "same" s_same pCall) : Cal P w K mg base "same" pCall 6 (spDo K C 14) := do_of (by decide) (fun _ _ _ _ _ t => t) (fun _ _ => rfl) (ok_sameF U D)
theorem do_least (U : Under P w K mg base C) (D : DefAt K mg "least" s_least pCall) : Cal P w K mg base "least" pCall 6 (spDo K C 15) := do_of (by decide) (fun _ _ _ _ _ t => t) (fun _ _ => rfl) (ok_leastF U D)
theorem do_says (U : Under P w K mg base C) (D : DefAt K mg "says" s_says pCall) : Cal P w K mg base "says" pCall 6 (spDo K C 16) := do_of (by decide) (fun _ _ _ _ hk t => ⟨t, fun x hx => (hk.pos (.inr (.inl rfl)) x hx).1⟩) (fun _ _ => rfl) (ok_saysF U D)
theorem do_can (U : Under P w K mg base C) (D : DefAt K mg "can" s_can pCall) : Cal P w K mg base "can" pCall 6 (spDo K C 17) := do_of (by decide) (fun _ _ _ _ _ _ => trivial) (fun _ _ => rfl) (ok_canF U D)
theorem do_never (U : Under P w K mg base C) (D : DefAt K mg "never" s_never pCall) : Cal P w K mg base "never" pCall 6 (spDo K C 18) := do_of (by decide) (fun _ _ _ hl hk _ => ⟨hl, fun x hx => (hk.nums x hx).1⟩) (fun _ _ => rfl) (ok_neverF U D)
theorem do_fair (U : Under P w K mg base C) (D : DefAt K mg "fair" s_fair pCall) : Cal P w K mg base "fair" pCall 6 (spDo K C 19) := do_of (by decide) (fun _ _ _ _ hk _ => ⟨fun x hx => (hk.pos (.inr (.inr rfl)) x hx).1, hk.len⟩) (fun _ _ => rfl) (ok_fairF U D)
theorem do_back (U : Under P w K mg base C) (D : DefAt K mg "back" s_back pCall) : Cal P w K mg base "back" pCall 6 (spDo K C 20) := do_of (by decide) (fun _ _ _ _ _ _ => trivial) (fun _ _ => rfl) (ok_backF U D)
theorem do_state (U : Under P w K mg base C) (D : DefAt K mg "state" s_state pCall) : Cal P w K mg base "state" pCall 6 (spDo K C 21) := do_of (by decide) (fun _ _ _ _ _ _ => trivial) (fun _ _ => rfl) (ok_stateF U D)
end
end Mc

end
section
set_option Elab.async false
set_option linter.all false
set_option maxRecDepth 100000
set_option maxHeartbeats 4000000
/-! All defs together. -/
namespace Mc
open PySem PySem.Spec PyProof.Rows L2
open Kv394 (choose tosses)
section
variable {P : Program} {w : World} {K : PySem.W.Frag} {mg : Str → Option Value} {base : Heap} {C : Addr} {h : Heap}
/-- what the top has written, but the two tables -/
structure Top (K : PySem.W.Frag) (mg : Str → Option Value) (C : Addr) : Prop where
  B : Bl mg
  T : HTxt K C
  g1 : GI mg "MOST_TOSSES" 10
  g2 : GI mg "NOT_AS_TOLD" (-22)
  g3 : GI mg "THERE_IS_NONE" (-33)
  g4 : GI mg "TOO_MANY_TOSSES" (-75)
  g5 : GI mg "NOT_BEGUN" (-11)
  g6 : GI mg "NO_SUCH_COIN" (-2)
  g7 : GI mg "MOST_COINS" 8
  g8 : GI mg "MOST_BACK" 10
  g9 : GI mg "TOO_MANY_COINS" (-28)
  g10 : GI mg "MOST_NUMBERS" 7
  g11 : GI mg "LARGEST" 1000
  g12 : GI mg "BEGIN" 0
  g13 : GI mg "NO_CHANGE" (-6)
  g14 : GI mg "LARGEST_B" 20
  d1 : DefAt K mg "choose" s_choose ["n", "k"]
  d2 : DefAt K mg "tosses_of" s_tosses_of ["row"]
  d3 : DefAt K mg "fits" s_fits ["row"]
  d4 : DefAt K mg "is_coin" s_is_coin ["row"]
  d5 : DefAt K mg "toss_more" s_toss_more ["row"]
  d6 : DefAt K mg "toss_fewer" s_toss_fewer ["row"]
  d7 : DefAt K mg "opposite" s_opposite ["row"]
  d8 : DefAt K mg "both" s_both ["first", "second"]
  d9 : DefAt K mg "either" s_either ["first", "second"]
  d10 : DefAt K mg "stretched" s_stretched ["row", "tosses"]
  d11 : DefAt K mg "added_up" s_added_up ["first", "second"]
  d12 : DefAt K mg "if_yes" s_if_yes ["first", "second", "third"]
  d13 : DefAt K mg "all_of" s_all_of ["row", "times"]
  d14 : DefAt K mg "tossed_by" s_tossed_by ["first", "second"]
  d15 : DefAt K mg "is_polynomial" s_is_polynomial ["numbers"]
  d16 : DefAt K mg "by_heads" s_by_heads ["numbers", "tosses", "heads"]
  d17 : DefAt K mg "by_tosses" s_by_tosses ["numbers", "tosses"]
  d18 : DefAt K mg "coin_with_fewest_tosses" s_coin_with_fewest_tosses ["numbers"]
  d19 : DefAt K mg "power" s_power ["base", "times"]
  d20 : DefAt K mg "weighed" s_weighed ["numbers", "one", "other"]
  d21 : DefAt K mg "with_fewest_tosses" s_with_fewest_tosses ["row"]
  d22 : DefAt K mg "chance_at" s_chance_at ["row", "a", "b"]
  d23 : DefAt K mg "are_same" s_are_same ["first", "second"]
  d24 : DefAt K mg "are_tosses" s_are_tosses ["tossed"]
  d25 : DefAt K mg "how_many_ahead" s_how_many_ahead ["tossed"]
  d26 : DefAt K mg "says_yes" s_says_yes ["row", "tossed"]
  d27 : DefAt K mg "first_unlike_pair" s_first_unlike_pair ["tossed"]
  d28 : DefAt K mg "number_by_power" s_number_by_power ["row", "place"]
  d29 : DefAt K mg "by_powers" s_by_powers ["row"]
  d30 : DefAt K mg "is_always" s_is_always ["numbers", "number"]
  d31 : DefAt K mg "can_never_be" s_can_never_be ["numbers", "a", "b"]
  d32 : DefAt K mg "with_count" s_with_count ["numbers"]
  m1 : MethAt K C "begin" "Holder.begin" s_Holder_begin ["self"]
  m2 : MethAt K C "has" "Holder.has" s_Holder_has ["self", "i"]
  m3 : MethAt K C "change" "Holder.change" s_Holder_change ["self", "rows"]
  m4 : MethAt K C "add" "Holder.add" s_Holder_add ["self", "row"]
  m5 : MethAt K C "drop" "Holder.drop" s_Holder_drop ["self", "i"]
  m6 : MethAt K C "changes" "Holder.changes" s_Holder_changes ["self"]
  m7 : MethAt K C "back" "Holder.back" s_Holder_back ["self"]
theorem Top.under (t : Top K mg C) : Under P w K mg base C := by
  have c1 : Cal P w K mg base "choose" ["n", "k"] 1 spChoose := ok_choose t.B t.d1
  have c2 : Cal P w K mg base "tosses_of" ["row"] 1 (spTosses K) := ok_tosses t.B t.d2
  have c3 : Cal P w K mg base "fits" ["row"] 2 (spFits K) := ok_fits_ t.B c1 c2 t.d3
  have c5 : Cal P w K mg base "toss_more" ["row"] 1 (spMore K) := ok_more t.B t.d5
  have c7 : Cal P w K mg base "opposite" ["row"] 2 (spOpp K) := ok_opp t.B c1 c2 t.d7
  have c8 : Cal P w K mg base "both" ["first", "second"] 2 (spBoth K) := ok_both t.B c2 t.d8
  have c10 : Cal P w K mg base "stretched" ["row", "tosses"] 2 (spStr K) := ok_str t.B c2 c5 t.d10
  have c11 : Cal P w K mg base "added_up" ["first", "second"] 1 (spAdded K) := ok_added t.B t.d11
  have c13 : Cal P w K mg base "all_of" ["row", "times"] 3 (spAll K) := ok_all t.B c8 t.d13
  have c16 : Cal P w K mg base "by_heads" ["numbers", "tosses", "heads"] 2 (spByHeads K) := ok_by_heads t.B c1 t.d16
  have c17 : Cal P w K mg base "by_tosses" ["numbers", "tosses"] 3 (spByTosses K) := ok_by_tosses t.B c16 t.d17
  have mc : MCal P w K mg base C "change" ["self", "rows"] 1 (spChange C) := ok_change t.T t.g8 t.m3
  have c6 : Cal P w K mg base "toss_fewer" ["row"] 3 (spFewer K) := ok_fewer t.B c2 c3 t.d6
  have c19 : Cal P w K mg base "power" ["base", "times"] 1 spPower := ok_power t.B t.d19
  have c20 : Cal P w K mg base "weighed" ["numbers", "one", "other"] 2 (spWeighed K) := ok_weighed t.B c19 t.d20
  have c25 : Cal P w K mg base "how_many_ahead" ["tossed"] 2 (spAhead K) := ok_ahead t.B c1 t.d25
  have c28 : Cal P w K mg base "number_by_power" ["row", "place"] 2 (spNumPow K) := ok_num_pow t.B c1 c2 t.d28
  have c30 : Cal P w K mg base "is_always" ["numbers", "number"] 1 (spAlways K) := ok_always t.B t.d30
  have mch : MCal P w K mg base C "changes" ["self"] 1 (spChanges C) := ok_changes t.B t.T t.m6
  exact { B := t.B, T := t.T, mT := t.g1, m22 := t.g2, m33 := t.g3, m75 := t.g4, m11 := t.g5, m2 := t.g6, tosses := c2, isCoin := ok_is_coin t.g1 c2 c3 t.d4, isPoly := ok_is_poly t.B t.g10 t.g11 t.d15, fewest := ok_fewest t.B t.g1 c17 c3 t.d18, more := c5, fewer := c6, opp := c7, both := c8, either := ok_either c7 c8 t.d9, ifYes := ok_if t.B c2 c7 c8 c10 c11 t.d12, of_ := ok_of t.B c2 c7 c8 c13 c11 t.d14, mBegin := ok_begin t.T t.m1, mHas := ok_has t.B t.T t.m2, mAdd := ok_add t.B t.T t.g7 t.g9 mc t.m4, mDrop := ok_dropH t.B t.T mc t.m5, m6 := t.g13, mLB := t.g14, power := c19, chanceAt := ok_chance_at c20 t.d22, leastF := ok_leastF_ t.B c6 t.d21, same := ok_same t.g1 c10 t.d23, byPow := ok_by_pow t.B c28 t.d29, never := ok_never t.B c20 c19 c30 t.d31, areT := ok_areT t.d24, saysYes := ok_says_yes t.B c25 t.d26, unlike := ok_unlike t.B t.d27, count := ok_count t.B t.d32, mChanges := mch, mBack := ok_back t.B t.T mch t.m7 }
theorem htxt_mk (pg : PySem.W.plainGet K C Str.empty = true) (hd : PySem.W.hasDictIn K C = true) (po : PySem.W.plainOver K C = true) (sa : PySem.W.findIn K (.ref C) "__setattr__" = some (some (.builtin "object.__setattr__"))) (nB : PySem.W.findIn K (.ref C) "begun" = some none) (nR : PySem.W.findIn K (.ref C) "rows" = some none) (nP : PySem.W.findIn K (.ref C) "past" = some none) : HTxt K C := ⟨⟨pg, hd, po, sa⟩, nB, nR, nP⟩
theorem bl_mk (X : K.In h) (G : h.Ns mainGlobals mg) (a1 : PySem.W.nsIn K mainGlobals "range" = some none) (a2 : PySem.W.nsIn K mainGlobals "len" = some none) (a3 : PySem.W.nsIn K mainGlobals "list" = some none) (a4 : PySem.W.nsIn K mainGlobals "max" = some none) (a5 : PySem.W.nsIn K mainGlobals "min" = some none) (a6 : PySem.W.nsIn K mainGlobals "sum" = some none) : Bl mg :=
  ⟨PySem.W.mg_none_of X G a1, PySem.W.mg_none_of X G a2, PySem.W.mg_none_of X G a3, PySem.W.mg_none_of X G a4, PySem.W.mg_none_of X G a5, PySem.W.mg_none_of X G a6⟩
theorem all_mk {fa : Addr} (X : K.In h) (G : h.Ns mainGlobals mg) (hfa : mg "answers" = some (.ref fa)) (aC : PySem.W.nsIn K mainGlobals "Holder" = some (some (.ref C))) (t : Top K mg C) (ST : ShTab K mg) (dR : DefAt K mg "read_call" s_read_call ["calls", "at"]) (dA : DefAt K mg "answer_to" s_answer_to ["holder", "call", "numbers", "row"])
    (CT : ∀ base, Under P w K mg base C → CallTab P w K mg base C)
    {fI : Addr} {od1 an1 : Option Addr} {sl1 : Array (Option Value)} {oc1 kV1 dc1 pm1 cd1 ct1 : Value} (a1 : PySem.W.findIn K (.ref C) "__init__" = some (some (.ref fI))) (i1 : PySem.W.isFn K (.ref fI) = true)
    (l1 : K.lookup fI = some ⟨oc1, od1, .func (PySem.W.fnOf "__init__" "Holder.__init__" (defArgs s_Holder_init) (defBody s_Holder_init) (defScope s_Holder_init) .none kV1 dc1 pm1 an1 cd1 ct1), sl1⟩) (c1 : PySem.W.codeIn K cd1 "Holder.__init__" = true) (k1 : PySem.W.keepIn K (.ref fI) = true) (mk : PySem.W.makesIn K C = true) (kc : PySem.W.keepIn K (.ref C) = true)
    {f3 : Addr} {od3 an3 : Option Addr} {sl3 : Array (Option Value)} {oc3 kV3 dc3 pm3 cd3 ct3 : Value} (a3 : PySem.W.nsIn K mainGlobals "answers" = some (some (.ref f3)))
    (l3 : K.lookup f3 = some ⟨oc3, od3, .func (PySem.W.fnOf "answers" "answers" (defArgs s_answers) (defBody s_answers) (defScope s_answers) .none kV3 dc3 pm3 an3 cd3 ct3), sl3⟩) (c3 : PySem.W.codeIn K cd3 "answers" = true) (k3 : PySem.W.keepIn K (.ref f3) = true) :
    ∃ fd : FuncData, (∀ (s : Shared) (us : List Value), us.length = (["calls"] : List Str).length → BindsTo s fd ⟨us, []⟩ ((["calls"] : List Str).zip us)) ∧ ∀ base : Heap, K.In base → base.Ns mainGlobals mg → FnOk P w K mg base CX0 8 fa fd ["calls"] (spAnswers K) := by
  have e := hfa.symm.trans (PySem.W.mg_of X G a3)
  cases e
  have F1 := fun_mk (st := s_Holder_init) l1 c1 k1
  have b1 := F1.binds (ps := ["self"]) fun _ _ _ _ _ _ us hl => match us, hl with | [_], _ => rfl
  have F3 := fun_mk (st := s_answers) l3 c3 k3
  refine ⟨PySem.W.fnOf "answers" "answers" (defArgs s_answers) (defBody s_answers) (defScope s_answers) .none kV3 dc3 pm3 an3 cd3 ct3, fun s us hu => match us, hu with | [_], _ => .of_eq rfl, fun base _ _ => ?_⟩
  have U : Under P w K mg base C := t.under
  exact ok_answers U (ok_read ST dR) (ok_answer U ST (CT base U) t.g12 dA) (PySem.W.mg_of X G aC) ⟨mk, a1, i1, kc⟩ F1 b1 F3
end
end Mc

end
open PySem PySem.W PyProof.Rows
set_option maxRecDepth 100000 in
set_option maxHeartbeats 0 in
theorem PySem.Challenge.cw_madecoins_s01_answers_holds : PySem.Challenge.rw_madecoins_s01_answers.Holds := by
  w_on; k_headS; (case hw => exact ⟨[.list [.int 0]], by decide +kernel, by decide +kernel⟩)
  k_fillS
  refine L2.walk_specK (r := PySem.Challenge.rw_madecoins_s01_answers) (k := 8) (CX := L2.CX0) (ps := ["calls"]) (sp := Mc.spAnswers) (by decide +kernel) rfl rfl ⟨rfl, by decide, by decide⟩ (fun w h Y => PySem.W.kIn_of Y) ?F ?S (fun _ _ _ _ z => z)
  case F =>
    intro w mg fa h Y KX G hmg
    refine' Mc.all_mk KX G hmg ?aC ?top ?st ?dR ?dA ?ct ?a1 ?i1 ?l1 ?c1 ?k1 ?mk ?kc ?a3 ?l3 ?c3 ?k3
    (case aC => k_is); (case a1 => k_is); (case i1 => k_is); (case l1 => k_is); (case c1 => k_is); (case k1 => k_is); (case mk => k_is); (case kc => k_is); (case a3 => k_is); (case l3 => k_is); (case c3 => k_is); (case k3 => k_is)
    case top =>
      refine' ⟨?B, ?T, ?g1, ?g2, ?g3, ?g4, ?g5, ?g6, ?g7, ?g8, ?g9, ?g10, ?g11, ?g12, ?g13, ?g14, ?d1, ?d2, ?d3, ?d4, ?d5, ?d6, ?d7, ?d8, ?d9, ?d10, ?d11, ?d12, ?d13, ?d14, ?d15, ?d16, ?d17, ?d18, ?d19, ?d20, ?d21, ?d22, ?d23, ?d24, ?d25, ?d26, ?d27, ?d28, ?d29, ?d30, ?d31, ?d32, ?m1, ?m2, ?m3, ?m4, ?m5, ?m6, ?m7⟩
      case B => refine' Mc.bl_mk KX G ?a1 ?a2 ?a3 ?a4 ?a5 ?a6; (case a1 => k_is); (case a2 => k_is); (case a3 => k_is); (case a4 => k_is); (case a5 => k_is); (case a6 => k_is)
      case T => refine' Mc.htxt_mk ?pg ?hd ?po ?sa ?nB ?nR ?nP; (case pg => k_is); (case hd => k_is); (case po => k_is); (case sa => k_is); (case nB => k_is); (case nR => k_is); (case nP => k_is)
      case g1 => refine' Mc.gi_mk KX G ?a; (case a => k_is)
      case g2 => refine' Mc.gi_mk KX G ?a; (case a => k_is)
      case g3 => refine' Mc.gi_mk KX G ?a; (case a => k_is)
      case g4 => refine' Mc.gi_mk KX G ?a; (case a => k_is)
      case g5 => refine' Mc.gi_mk KX G ?a; (case a => k_is)
      case g6 => refine' Mc.gi_mk KX G ?a; (case a => k_is)
      case g7 => refine' Mc.gi_mk KX G ?a; (case a => k_is)
      case g8 => refine' Mc.gi_mk KX G ?a; (case a => k_is)
      case g9 => refine' Mc.gi_mk KX G ?a; (case a => k_is)
      case g10 => refine' Mc.gi_mk KX G ?a; (case a => k_is)
      case g11 => refine' Mc.gi_mk KX G ?a; (case a => k_is)
      case g12 => refine' Mc.gi_mk KX G ?a; (case a => k_is)
      case g13 => refine' Mc.gi_mk KX G ?a; (case a => k_is)
      case g14 => refine' Mc.gi_mk KX G ?a; (case a => k_is)
      case d1 => refine' Mc.def_mk KX G ?a ?l ?c ?k (fun _ _ _ _ _ _ us hl => match us, hl with | [_, _], _ => rfl); (case a => k_is); (case l => k_is); (case c => k_is); (case k => k_is)
      case d2 => refine' Mc.def_mk KX G ?a ?l ?c ?k (fun _ _ _ _ _ _ us hl => match us, hl with | [_], _ => rfl); (case a => k_is); (case l => k_is); (case c => k_is); (case k => k_is)
      case d3 => refine' Mc.def_mk KX G ?a ?l ?c ?k (fun _ _ _ _ _ _ us hl => match us, hl with | [_], _ => rfl); (case a => k_is); (case l => k_is); (case c => k_is); (case k => k_is)
      case d4 => refine' Mc.def_mk KX G ?a ?l ?c ?k (fun _ _ _ _ _ _ us hl => match us, hl with | [_], _ => rfl); (case a => k_is); (case l => k_is); (case c => k_is); (case k => k_is)
      case d5 => refine' Mc.def_mk KX G ?a ?l ?c ?k (fun _ _ _ _ _ _ us hl => match us, hl with | [_], _ => rfl); (case a => k_is); (case l => k_is); (case c => k_is); (case k => k_is)
      case d6 => refine' Mc.def_mk KX G ?a ?l ?c ?k (fun _ _ _ _ _ _ us hl => match us, hl with | [_], _ => rfl); (case a => k_is); (case l => k_is); (case c => k_is); (case k => k_is)
      case d7 => refine' Mc.def_mk KX G ?a ?l ?c ?k (fun _ _ _ _ _ _ us hl => match us, hl with | [_], _ => rfl); (case a => k_is); (case l => k_is); (case c => k_is); (case k => k_is)
      case d8 => refine' Mc.def_mk KX G ?a ?l ?c ?k (fun _ _ _ _ _ _ us hl => match us, hl with | [_, _], _ => rfl); (case a => k_is); (case l => k_is); (case c => k_is); (case k => k_is)
      case d9 => refine' Mc.def_mk KX G ?a ?l ?c ?k (fun _ _ _ _ _ _ us hl => match us, hl with | [_, _], _ => rfl); (case a => k_is); (case l => k_is); (case c => k_is); (case k => k_is)
      case d10 => refine' Mc.def_mk KX G ?a ?l ?c ?k (fun _ _ _ _ _ _ us hl => match us, hl with | [_, _], _ => rfl); (case a => k_is); (case l => k_is); (case c => k_is); (case k => k_is)
      case d11 => refine' Mc.def_mk KX G ?a ?l ?c ?k (fun _ _ _ _ _ _ us hl => match us, hl with | [_, _], _ => rfl); (case a => k_is); (case l => k_is); (case c => k_is); (case k => k_is)
      case d12 => refine' Mc.def_mk KX G ?a ?l ?c ?k (fun _ _ _ _ _ _ us hl => match us, hl with | [_, _, _], _ => rfl); (case a => k_is); (case l => k_is); (case c => k_is); (case k => k_is)
      case d13 => refine' Mc.def_mk KX G ?a ?l ?c ?k (fun _ _ _ _ _ _ us hl => match us, hl with | [_, _], _ => rfl); (case a => k_is); (case l => k_is); (case c => k_is); (case k => k_is)
      case d14 => refine' Mc.def_mk KX G ?a ?l ?c ?k (fun _ _ _ _ _ _ us hl => match us, hl with | [_, _], _ => rfl); (case a => k_is); (case l => k_is); (case c => k_is); (case k => k_is)
      case d15 => refine' Mc.def_mk KX G ?a ?l ?c ?k (fun _ _ _ _ _ _ us hl => match us, hl with | [_], _ => rfl); (case a => k_is); (case l => k_is); (case c => k_is); (case k => k_is)
      case d16 => refine' Mc.def_mk KX G ?a ?l ?c ?k (fun _ _ _ _ _ _ us hl => match us, hl with | [_, _, _], _ => rfl); (case a => k_is); (case l => k_is); (case c => k_is); (case k => k_is)
      case d17 => refine' Mc.def_mk KX G ?a ?l ?c ?k (fun _ _ _ _ _ _ us hl => match us, hl with | [_, _], _ => rfl); (case a => k_is); (case l => k_is); (case c => k_is); (case k => k_is)
      case d18 => refine' Mc.def_mk KX G ?a ?l ?c ?k (fun _ _ _ _ _ _ us hl => match us, hl with | [_], _ => rfl); (case a => k_is); (case l => k_is); (case c => k_is); (case k => k_is)
      case d19 => refine' Mc.def_mk KX G ?a ?l ?c ?k (fun _ _ _ _ _ _ us hl => match us, hl with | [_, _], _ => rfl); (case a => k_is); (case l => k_is); (case c => k_is); (case k => k_is)
      case d20 => refine' Mc.def_mk KX G ?a ?l ?c ?k (fun _ _ _ _ _ _ us hl => match us, hl with | [_, _, _], _ => rfl); (case a => k_is); (case l => k_is); (case c => k_is); (case k => k_is)
      case d21 => refine' Mc.def_mk KX G ?a ?l ?c ?k (fun _ _ _ _ _ _ us hl => match us, hl with | [_], _ => rfl); (case a => k_is); (case l => k_is); (case c => k_is); (case k => k_is)
      case d22 => refine' Mc.def_mk KX G ?a ?l ?c ?k (fun _ _ _ _ _ _ us hl => match us, hl with | [_, _, _], _ => rfl); (case a => k_is); (case l => k_is); (case c => k_is); (case k => k_is)
      case d23 => refine' Mc.def_mk KX G ?a ?l ?c ?k (fun _ _ _ _ _ _ us hl => match us, hl with | [_, _], _ => rfl); (case a => k_is); (case l => k_is); (case c => k_is); (case k => k_is)
      case d24 => refine' Mc.def_mk KX G ?a ?l ?c ?k (fun _ _ _ _ _ _ us hl => match us, hl with | [_], _ => rfl); (case a => k_is); (case l => k_is); (case c => k_is); (case k => k_is)
      case d25 => refine' Mc.def_mk KX G ?a ?l ?c ?k (fun _ _ _ _ _ _ us hl => match us, hl with | [_], _ => rfl); (case a => k_is); (case l => k_is); (case c => k_is); (case k => k_is)
      case d26 => refine' Mc.def_mk KX G ?a ?l ?c ?k (fun _ _ _ _ _ _ us hl => match us, hl with | [_, _], _ => rfl); (case a => k_is); (case l => k_is); (case c => k_is); (case k => k_is)
      case d27 => refine' Mc.def_mk KX G ?a ?l ?c ?k (fun _ _ _ _ _ _ us hl => match us, hl with | [_], _ => rfl); (case a => k_is); (case l => k_is); (case c => k_is); (case k => k_is)
      case d28 => refine' Mc.def_mk KX G ?a ?l ?c ?k (fun _ _ _ _ _ _ us hl => match us, hl with | [_, _], _ => rfl); (case a => k_is); (case l => k_is); (case c => k_is); (case k => k_is)
      case d29 => refine' Mc.def_mk KX G ?a ?l ?c ?k (fun _ _ _ _ _ _ us hl => match us, hl with | [_], _ => rfl); (case a => k_is); (case l => k_is); (case c => k_is); (case k => k_is)
      case d30 => refine' Mc.def_mk KX G ?a ?l ?c ?k (fun _ _ _ _ _ _ us hl => match us, hl with | [_, _], _ => rfl); (case a => k_is); (case l => k_is); (case c => k_is); (case k => k_is)
      case d31 => refine' Mc.def_mk KX G ?a ?l ?c ?k (fun _ _ _ _ _ _ us hl => match us, hl with | [_, _, _], _ => rfl); (case a => k_is); (case l => k_is); (case c => k_is); (case k => k_is)
      case d32 => refine' Mc.def_mk KX G ?a ?l ?c ?k (fun _ _ _ _ _ _ us hl => match us, hl with | [_], _ => rfl); (case a => k_is); (case l => k_is); (case c => k_is); (case k => k_is)
      case m1 => refine' Mc.meth_mk ?a ?i ?l ?c ?k (fun _ _ _ _ _ _ us hl => match us, hl with | [_], _ => rfl); (case a => k_is); (case i => k_is); (case l => k_is); (case c => k_is); (case k => k_is)
      case m2 => refine' Mc.meth_mk ?a ?i ?l ?c ?k (fun _ _ _ _ _ _ us hl => match us, hl with | [_, _], _ => rfl); (case a => k_is); (case i => k_is); (case l => k_is); (case c => k_is); (case k => k_is)
      case m3 => refine' Mc.meth_mk ?a ?i ?l ?c ?k (fun _ _ _ _ _ _ us hl => match us, hl with | [_, _], _ => rfl); (case a => k_is); (case i => k_is); (case l => k_is); (case c => k_is); (case k => k_is)
      case m4 => refine' Mc.meth_mk ?a ?i ?l ?c ?k (fun _ _ _ _ _ _ us hl => match us, hl with | [_, _], _ => rfl); (case a => k_is); (case i => k_is); (case l => k_is); (case c => k_is); (case k => k_is)
      case m5 => refine' Mc.meth_mk ?a ?i ?l ?c ?k (fun _ _ _ _ _ _ us hl => match us, hl with | [_, _], _ => rfl); (case a => k_is); (case i => k_is); (case l => k_is); (case c => k_is); (case k => k_is)
      case m6 => refine' Mc.meth_mk ?a ?i ?l ?c ?k (fun _ _ _ _ _ _ us hl => match us, hl with | [_], _ => rfl); (case a => k_is); (case i => k_is); (case l => k_is); (case c => k_is); (case k => k_is)
      case m7 => refine' Mc.meth_mk ?a ?i ?l ?c ?k (fun _ _ _ _ _ _ us hl => match us, hl with | [_], _ => rfl); (case a => k_is); (case i => k_is); (case l => k_is); (case c => k_is); (case k => k_is)
    case st =>
      refine' Mc.shTab_mk KX G ?a ?l (Mc.sh_mk ?h0) (Mc.sh_mk ?h1) (Mc.sh_mk ?h2) (Mc.sh_mk ?h3) (Mc.sh_mk ?h4) (Mc.sh_mk ?h5) (Mc.sh_mk ?h6) (Mc.sh_mk ?h7) (Mc.sh_mk ?h8) (Mc.sh_mk ?h9) (Mc.sh_mk ?h10) (Mc.sh_mk ?h11) (Mc.sh_mk ?h12) (Mc.sh_mk ?h13) (Mc.sh_mk ?h14) (Mc.sh_mk ?h15) (Mc.sh_mk ?h16) (Mc.sh_mk ?h17) (Mc.sh_mk ?h18) (Mc.sh_mk ?h19) (Mc.sh_mk ?h20) (Mc.sh_mk ?h21)
      (case a => k_is); (case l => k_is)
      (case h0 => k_is); (case h1 => k_is); (case h2 => k_is); (case h3 => k_is); (case h4 => k_is); (case h5 => k_is); (case h6 => k_is); (case h7 => k_is); (case h8 => k_is); (case h9 => k_is); (case h10 => k_is); (case h11 => k_is); (case h12 => k_is); (case h13 => k_is); (case h14 => k_is); (case h15 => k_is); (case h16 => k_is); (case h17 => k_is); (case h18 => k_is); (case h19 => k_is); (case h20 => k_is); (case h21 => k_is)
    case dR => refine' Mc.def_mk KX G ?a ?l ?c ?k (fun _ _ _ _ _ _ us hl => match us, hl with | [_, _], _ => rfl); (case a => k_is); (case l => k_is); (case c => k_is); (case k => k_is)
    case dA => refine' Mc.def_mk KX G ?a ?l ?c ?k (fun _ _ _ _ _ _ us hl => match us, hl with | [_, _, _, _], _ => rfl); (case a => k_is); (case l => k_is); (case c => k_is); (case k => k_is)
    case ct =>
      intro base U
      refine' Mc.callTab_mk KX G ?a ?l (Mc.ca_mk (x := "begin") KX G ?n0 (Mc.do_begin (Mc.ok_beginF U ?d0))) (Mc.ca_mk (x := "coin") KX G ?n1 (Mc.do_coin U ?d1)) (Mc.ca_mk (x := "poly") KX G ?n2 (Mc.do_poly U ?d2)) (Mc.ca_mk (x := "drop") KX G ?n3 (Mc.do_drop U ?d3)) (Mc.ca_mk (x := "more") KX G ?n4 (Mc.do_more U ?d4)) (Mc.ca_mk (x := "less") KX G ?n5 (Mc.do_less U ?d5)) (Mc.ca_mk (x := "not_of") KX G ?n6 (Mc.do_not U ?d6)) (Mc.ca_mk (x := "and_of") KX G ?n7 (Mc.do_and U ?d7)) (Mc.ca_mk (x := "or_of") KX G ?n8 (Mc.do_or U ?d8)) (Mc.ca_mk (x := "if_then") KX G ?n9 (Mc.do_if U ?d9)) (Mc.ca_mk (x := "of") KX G ?n10 (Mc.do_of_ U ?d10)) (Mc.ca_mk (x := "coin_row") KX G ?n11 (Mc.do_row U ?d11)) (Mc.ca_mk (x := "coefs") KX G ?n12 (Mc.do_coefs U ?d12)) (Mc.ca_mk (x := "chance") KX G ?n13 (Mc.do_chance U ?d13)) (Mc.ca_mk (x := "same") KX G ?n14 (Mc.do_same U ?d14)) (Mc.ca_mk (x := "least") KX G ?n15 (Mc.do_least U ?d15)) (Mc.ca_mk (x := "says") KX G ?n16 (Mc.do_says U ?d16)) (Mc.ca_mk (x := "can") KX G ?n17 (Mc.do_can U ?d17)) (Mc.ca_mk (x := "never") KX G ?n18 (Mc.do_never U ?d18)) (Mc.ca_mk (x := "fair") KX G ?n19 (Mc.do_fair U ?d19)) (Mc.ca_mk (x := "back") KX G ?n20 (Mc.do_back U ?d20)) (Mc.ca_mk (x := "state") KX G ?n21 (Mc.do_state U ?d21))
      (case a => k_is); (case l => k_is)
      (case n0 => k_is)
      case d0 => refine' Mc.def_mk KX G ?a ?l ?c ?k (fun _ _ _ _ _ _ us hl => match us, hl with | [_, _, _], _ => rfl); (case a => k_is); (case l => k_is); (case c => k_is); (case k => k_is)
      (case n1 => k_is)
      case d1 => refine' Mc.def_mk KX G ?a ?l ?c ?k (fun _ _ _ _ _ _ us hl => match us, hl with | [_, _, _], _ => rfl); (case a => k_is); (case l => k_is); (case c => k_is); (case k => k_is)
      (case n2 => k_is)
      case d2 => refine' Mc.def_mk KX G ?a ?l ?c ?k (fun _ _ _ _ _ _ us hl => match us, hl with | [_, _, _], _ => rfl); (case a => k_is); (case l => k_is); (case c => k_is); (case k => k_is)
      (case n3 => k_is)
      case d3 => refine' Mc.def_mk KX G ?a ?l ?c ?k (fun _ _ _ _ _ _ us hl => match us, hl with | [_, _, _], _ => rfl); (case a => k_is); (case l => k_is); (case c => k_is); (case k => k_is)
      (case n4 => k_is)
      case d4 => refine' Mc.def_mk KX G ?a ?l ?c ?k (fun _ _ _ _ _ _ us hl => match us, hl with | [_, _, _], _ => rfl); (case a => k_is); (case l => k_is); (case c => k_is); (case k => k_is)
      (case n5 => k_is)
      case d5 => refine' Mc.def_mk KX G ?a ?l ?c ?k (fun _ _ _ _ _ _ us hl => match us, hl with | [_, _, _], _ => rfl); (case a => k_is); (case l => k_is); (case c => k_is); (case k => k_is)
      (case n6 => k_is)
      case d6 => refine' Mc.def_mk KX G ?a ?l ?c ?k (fun _ _ _ _ _ _ us hl => match us, hl with | [_, _, _], _ => rfl); (case a => k_is); (case l => k_is); (case c => k_is); (case k => k_is)
      (case n7 => k_is)
      case d7 => refine' Mc.def_mk KX G ?a ?l ?c ?k (fun _ _ _ _ _ _ us hl => match us, hl with | [_, _, _], _ => rfl); (case a => k_is); (case l => k_is); (case c => k_is); (case k => k_is)
      (case n8 => k_is)
      case d8 => refine' Mc.def_mk KX G ?a ?l ?c ?k (fun _ _ _ _ _ _ us hl => match us, hl with | [_, _, _], _ => rfl); (case a => k_is); (case l => k_is); (case c => k_is); (case k => k_is)
      (case n9 => k_is)
      case d9 => refine' Mc.def_mk KX G ?a ?l ?c ?k (fun _ _ _ _ _ _ us hl => match us, hl with | [_, _, _], _ => rfl); (case a => k_is); (case l => k_is); (case c => k_is); (case k => k_is)
      (case n10 => k_is)
      case d10 => refine' Mc.def_mk KX G ?a ?l ?c ?k (fun _ _ _ _ _ _ us hl => match us, hl with | [_, _, _], _ => rfl); (case a => k_is); (case l => k_is); (case c => k_is); (case k => k_is)
      (case n11 => k_is)
      case d11 => refine' Mc.def_mk KX G ?a ?l ?c ?k (fun _ _ _ _ _ _ us hl => match us, hl with | [_, _, _], _ => rfl); (case a => k_is); (case l => k_is); (case c => k_is); (case k => k_is)
      (case n12 => k_is)
      case d12 => refine' Mc.def_mk KX G ?a ?l ?c ?k (fun _ _ _ _ _ _ us hl => match us, hl with | [_, _, _], _ => rfl); (case a => k_is); (case l => k_is); (case c => k_is); (case k => k_is)
      (case n13 => k_is)
      case d13 => refine' Mc.def_mk KX G ?a ?l ?c ?k (fun _ _ _ _ _ _ us hl => match us, hl with | [_, _, _], _ => rfl); (case a => k_is); (case l => k_is); (case c => k_is); (case k => k_is)
      (case n14 => k_is)
      case d14 => refine' Mc.def_mk KX G ?a ?l ?c ?k (fun _ _ _ _ _ _ us hl => match us, hl with | [_, _, _], _ => rfl); (case a => k_is); (case l => k_is); (case c => k_is); (case k => k_is)
      (case n15 => k_is)
      case d15 => refine' Mc.def_mk KX G ?a ?l ?c ?k (fun _ _ _ _ _ _ us hl => match us, hl with | [_, _, _], _ => rfl); (case a => k_is); (case l => k_is); (case c => k_is); (case k => k_is)
      (case n16 => k_is)
      case d16 => refine' Mc.def_mk KX G ?a ?l ?c ?k (fun _ _ _ _ _ _ us hl => match us, hl with | [_, _, _], _ => rfl); (case a => k_is); (case l => k_is); (case c => k_is); (case k => k_is)
      (case n17 => k_is)
      case d17 => refine' Mc.def_mk KX G ?a ?l ?c ?k (fun _ _ _ _ _ _ us hl => match us, hl with | [_, _, _], _ => rfl); (case a => k_is); (case l => k_is); (case c => k_is); (case k => k_is)
      (case n18 => k_is)
      case d18 => refine' Mc.def_mk KX G ?a ?l ?c ?k (fun _ _ _ _ _ _ us hl => match us, hl with | [_, _, _], _ => rfl); (case a => k_is); (case l => k_is); (case c => k_is); (case k => k_is)
      (case n19 => k_is)
      case d19 => refine' Mc.def_mk KX G ?a ?l ?c ?k (fun _ _ _ _ _ _ us hl => match us, hl with | [_, _, _], _ => rfl); (case a => k_is); (case l => k_is); (case c => k_is); (case k => k_is)
      (case n20 => k_is)
      case d20 => refine' Mc.def_mk KX G ?a ?l ?c ?k (fun _ _ _ _ _ _ us hl => match us, hl with | [_, _, _], _ => rfl); (case a => k_is); (case l => k_is); (case c => k_is); (case k => k_is)
      (case n21 => k_is)
      case d21 => refine' Mc.def_mk KX G ?a ?l ?c ?k (fun _ _ _ _ _ _ us hl => match us, hl with | [_, _, _], _ => rfl); (case a => k_is); (case l => k_is); (case c => k_is); (case k => k_is)
  case S =>
    intro K H xs a hO hwi hask hx
    cases hx with
    | cons h1 h2 =>
      cases h2
      cases h1 with
      | lst hs ha =>
        have e := L2.ints_dw a.1 _ ha
        subst e
        have q : ((PySem.W.Codec.inLen 0 30000 a.1 && a.1.all (PySem.W.Codec.inInt (-32768) 4294967295)) && true) = true := hwi
        rw [Bool.and_eq_true, Bool.and_eq_true] at q
        exact ⟨_, a.1, rfl, hs, (PySem.W.Codec.inNat_iff.mp q.1.1).2, hask, fun H' p hp => .lst (L2.SqL.of hp) (L2.dw_ints _)⟩
#print axioms PySem.Challenge.cw_madecoins_s01_answers_holds

