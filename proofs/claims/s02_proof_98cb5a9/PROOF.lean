import PyProof.Rows.All
import Wide.All
import OpenK.AllK
import Wide.FinOn
import PyProof.EqAt
import PyProof.EqKinds
import PyProof.TupleCall
import PyProof.AutoSeq1
import KE.BitLaws
import Open.SpecLaws
import KE.OsHead
import KE.OsGo
import PySem.Challenge.RW_smalltongue_s02_pr_run
section
set_option Elab.async false
set_option linter.all false
set_option maxRecDepth 100000
namespace L2
open PySem PySem.Spec PyProof.Rows
abbrev Key := Sum Int Str
def keyIs : Key -> Value -> Bool
  | .inl k, v => Value.isInt k v
  | .inr x, v => Value.isStrOf x v
def keyH (w : World) : Key -> Int
  | .inl k => hashInt k
  | .inr x => hashStr w x
theorem yI : ∀ {k : Key} {v : Value}, keyIs k v = true -> (∃ i t, k = Sum.inl i /\ v = Value.int i t) ∨ (∃ x t, k = Sum.inr x /\ v = Value.str x t)
  | .inl i, v, h => by
    obtain ⟨t, e⟩ := Value.isInt_shape (k := i) (v := v) h
    exact .inl ⟨i, t, rfl, e⟩
  | .inr x, v, h => by
    obtain ⟨t, e⟩ := Value.isStrOf_shape (x := x) (v := v) h
    exact .inr ⟨x, t, rfl, e⟩
theorem keyIs_int (i : Int) (t : Tok) : keyIs (.inl i) (.int i t) = true := by simp [keyIs, Value.isInt]
theorem keyIs_str (x : Str) (t : Tok) : keyIs (.inr x) (.str x t) = true := by simp [keyIs, Value.isStrOf]
theorem key_ll (a b : Int) : decide ((Sum.inl a : Key) = Sum.inl b) = (a == b) := by
  by_cases e : a = b
  · subst e; simp
  · have h : ¬ (Sum.inl a : Key) = Sum.inl b := fun q => e (Sum.inl.inj q)
    rw [decide_eq_false h]
    exact (beq_eq_false_iff_ne.mpr e).symm
theorem key_rr (a b : Str) : decide ((Sum.inr a : Key) = Sum.inr b) = decide (a = b) := by
  by_cases e : a = b
  · subst e; simp
  · have h : ¬ (Sum.inr a : Key) = Sum.inr b := fun q => e (Sum.inr.inj q)
    rw [decide_eq_false h, decide_eq_false e]
theorem key_lr (a : Int) (b : Str) : decide ((Sum.inl a : Key) = Sum.inr b) = false := decide_eq_false (fun q => nomatch q)
theorem key_rl (a : Str) (b : Int) : decide ((Sum.inr a : Key) = Sum.inl b) = false := decide_eq_false (fun q => nomatch q)
def yF (prog : Program) (w : World) : PySem.KeyKind prog w Key where
  is := keyIs
  hash := keyH w
  inj := fun v a b ha hb => by
    rcases yI ha with ⟨i, t, rfl, rfl⟩ | ⟨x, t, rfl, rfl⟩
    · rcases yI hb with ⟨j, u, rfl, e⟩ | ⟨y, u, rfl, e⟩
      · injection e with e1 _; rw [e1]
      · exact nomatch e
    · rcases yI hb with ⟨j, u, rfl, e⟩ | ⟨y, u, rfl, e⟩
      · exact nomatch e
      · injection e with e1 _; rw [e1]
  byValue := fun k v h => by
    rcases yI h with ⟨i, t, rfl, rfl⟩ | ⟨x, t, rfl, rfl⟩ <;> rfl
  pyHash := fun hv h => by
    rcases yI hv with ⟨i, t, rfl, rfl⟩ | ⟨x, t, rfl, rfl⟩
    · exact wpAny_pyHash_int h
    · exact wpAny_pyHash_str h
  eqBool := fun hu hv h => by
    rcases yI hu with ⟨i, t, rfl, rfl⟩ | ⟨x, t, rfl, rfl⟩
    · rcases yI hv with ⟨j, u, rfl, rfl⟩ | ⟨y, u, rfl, rfl⟩
      · rw [key_ll] at h; exact wpAny_eqBool_int h
      · rw [key_lr] at h; exact SeqAt.EqAt.int_str i t y u _ _ _ _ h
    · rcases yI hv with ⟨j, u, rfl, rfl⟩ | ⟨y, u, rfl, rfl⟩
      · rw [key_rl] at h; exact SeqAt.EqAt.str_int x t j u _ _ _ _ h
      · rw [key_rr] at h; exact wpAny_eqBool_str h
  «strs» := fun k x t v h => by
    rcases yI h with ⟨i, u, rfl, e⟩ | ⟨y, u, rfl, e⟩
    · exact nomatch e
    · injection e with e1 _
      subst e1
      cases v <;> rfl
theorem mixKind_int (prog : Program) (w : World) (i : Int) (t : Tok) : (yF prog w).is (.inl i) (.int i t) = true := keyIs_int i t
theorem mixKind_str (prog : Program) (w : World) (x : Str) (t : Tok) : (yF prog w).is (.inr x) (.str x t) = true := keyIs_str x t
end L2
namespace L2
open PySem PySem.Spec PyProof.Rows
inductive V where
  | non | bl (b : Bool) | int (i : Int) | str (x : Str) | byt (b : Array UInt8) | flt (b : UInt64) | ref (a : Addr) | ty (n : String)
  deriving DecidableEq
def qN : V -> Value -> Prop
  | .non, u => u = Value.none
  | .bl b, u => u = Value.bool b
  | .int i, u => ∃ t, u = Value.int i t
  | .str x, u => ∃ t, u = Value.str x t
  | .byt b, u => ∃ t, u = Value.bytes b t
  | .flt b, u => ∃ t, u = Value.float b t
  | .ref a, u => u = Value.ref a
  | .ty n, u => u = Value.type n
abbrev Vals : List V -> List Value -> Prop := Paired qN
theorem Vals.length {xs : List V} {us : List Value} (r : Vals xs us) : xs.length = us.length := Paired.length r
theorem Vals.get : ∀ {xs : List V} {us : List Value} {i : Nat} {x : V}, Vals xs us -> xs[i]? = some x -> ∃ u, us[i]? = some u /\ qN x u
  | _, _, _, _, .nil, e => by simp at e
  | _, _, 0, _, .cons r _, e => by simp at e; subst e; exact ⟨_, rfl, r⟩
  | _, _, i + 1, x, .cons _ t, e => by
    obtain ⟨u, h1, h2⟩ := Vals.get (i := i) (x := x) t (by simpa using e)
    exact ⟨u, by simpa using h1, h2⟩
theorem Vals.set {x : V} {u : Value} (r : qN x u) : ∀ {xs : List V} {us : List Value} (i : Nat), Vals xs us -> Vals (xs.set i x) (us.set i u)
  | _, _, _, .nil => .nil
  | _, _, 0, .cons _ t => .cons r t
  | _, _, i + 1, .cons q t => .cons q (Vals.set r i t)
theorem Vals.append : ∀ {xs ys : List V} {us ws : List Value}, Vals xs us -> Vals ys ws -> Vals (xs ++ ys) (us ++ ws)
  | _, _, _, _, .nil, s => s
  | _, _, _, _, .cons r t, s => .cons r (Vals.append t s)
theorem Vals.take : ∀ {xs : List V} {us : List Value} (n : Nat), Vals xs us -> Vals (xs.take n) (us.take n)
  | _, _, 0, _ => .nil
  | _, _, _ + 1, .nil => .nil
  | _, _, n + 1, .cons r t => .cons r (Vals.take n t)
theorem Vals.drop : ∀ {xs : List V} {us : List Value} (n : Nat), Vals xs us -> Vals (xs.drop n) (us.drop n)
  | _, _, 0, r => r
  | _, _, _ + 1, .nil => .nil
  | _, _, n + 1, .cons _ t => Vals.drop n t
def RelO : Option V -> Option Value -> Prop
  | some v, some u => qN v u
  | none, none => True
  | _, _ => False
def KV {κ : Type} : List (κ × V) -> List (κ × Value) -> Prop := Paired fun (p : κ × V) (q : κ × Value) => p.1 = q.1 /\ qN p.2 q.2
def kV : Key -> V
  | .inl i => .int i
  | .inr x => .str x
inductive HO where
    | lst (xs : List V)
    | tup (xs : List V)
    | dK (kvs : List (Key × V)) | dT (kvs : List (List Key × V))
    | set (S : Int -> Bool) (n : Nat)
    | ins (C dx : Addr) (fs : List (Str × V))
    | own (x : Addr)
    | xd (fs : List (Str × V))
    | met (f x : Addr)
    | rng (lo hi : Int)
    | frz (o : Obj) (u : HO)
    | tbl (ps : Array Value)
    | ext (φ : Heap -> Prop)
abbrev Hp := Addr -> Option HO
def upd (H : Hp) (a : Addr) (o : HO) : Hp := fun b => if b = a then some o else H b
theorem zG {H : Hp} {a : Addr} {o : HO} : upd H a o a = some o := by unfold upd; rw [if_pos rfl]
theorem zF {H : Hp} {a b : Addr} {o : HO} (h : b ≠ a) : upd H a o b = H b := by unfold upd; rw [if_neg h]
theorem upd_upd {H : Hp} {a : Addr} {o u : HO} : upd (upd H a o) a u = upd H a u := by
  funext b; unfold upd; split <;> rfl
theorem qD {H : Hp} {a b : Addr} {o u : HO} (h : H a = some o) (h' : H b = some u) (d : o ≠ u) : a ≠ b := by
  intro e; subst e; rw [h] at h'; exact d (Option.some.inj h')
theorem zH {H : Hp} {a b : Addr} {o : HO} (h : H a = some o) (h' : H b = none) : a ≠ b := by
  intro e; subst e; rw [h] at h'; cases h'
section
variable (P : Program) (w : World)
def yZ (H : Hp) (h : Heap) (a : Addr) : HO -> Prop
  | .lst xs => xs.length <= sizeLine /\ ∃ (its : List Value) (n : Nat), Vals xs its /\ h.get? a = some { cls := .type "list", data := .seq its.toArray n }
  | .tup xs => xs.length <= sizeLine /\ ∃ its : List Value, Vals xs its /\ IsTup h a its.toArray
  | .dK kvs => kvs.length <= sizeLine /\ (a == sysModules) = false /\ ∃ vs, KV kvs vs /\ h.DictOf (yF P w) a vs
  | .dT kvs => kvs.length <= sizeLine /\ (a == sysModules) = false /\ ∃ xs : List (List Key × Addr × Value),
      Paired (fun (p : List Key × V) (q : List Key × Addr × Value) => p.1 = q.1 /\ H q.2.1 = some (.tup (p.1.map kV)) /\ qN p.2 q.2.2) kvs xs /\
      ∃ o es ep, h.get? a = some o /\ o.ExactDict /\ o.data = .dict es ep /\ es.toList = xs.map (entryOfKey (tupleKind (yF P w))) /\ (xs.map (·.1)).Nodup
  | .set S n => h.SetOf (intKind P w) a S n
  | .ins C dx fs => H dx = some (.own a) /\ fs.length <= 1000 /\ dx ≠ a /\ h.get? a = some (PySem.W.instObj C dx) /\
      ∃ mA, h.Ns1 dx mA /\ (∀ f, RelO (fs.lookup f) (mA f)) /\ PySem.Within mA (fs.map (·.1))
  | .own _ => ∃ o, h.get? a = some o
  | .xd fs => ∃ mA, h.Ns1 a mA /\ ∀ f, RelO (fs.lookup f) (mA f)
  | .rng lo hi => ∃ t u v, h.get? a = some { cls := .type "range", data := .fields #[.int lo t, .int hi u, .int 1 v] }
  | .frz o u => h.get? a = some o /\ yZ H h a u
  | .tbl ps => h.get? a = some { cls := .none, data := .fields ps }
  | .met f x => h.get? a = some (PySem.W.methodObj (.ref f) (.ref x))
  | .ext φ => φ h /\ (∃ o, h.get? a = some o) /\ ∀ h1 h2 : Heap, φ h1 -> (∀ o, h1.get? a = some o -> h2.get? a = some o) -> φ h2
def HOk (H : Hp) (h : Heap) : Prop := ∀ a o, H a = some o -> yZ P w H h a o
end
section
variable {P : Program} {w : World} {H H' : Hp} {h h' : Heap} {a : Addr} {o : HO}
theorem yZ.lt (x : yZ P w H h a o) : a < h.objs.size := by
  cases o with
  | lst xs => obtain ⟨_, _, _, _, e⟩ := x; exact Heap.lt_size e
  | tup xs => obtain ⟨_, _, _, p⟩ := x; exact p.lt
  | dK kvs => obtain ⟨_, _, _, _, o, _, _, e, _⟩ := x; exact Heap.lt_size e
  | dT kvs => obtain ⟨_, _, _, _, o, _, _, e, _⟩ := x; exact Heap.lt_size e
  | set S n => obtain ⟨o, _, _, _, e, _⟩ := x; exact Heap.lt_size e
  | ins C dx fs => obtain ⟨_, _, _, e, _⟩ := x; exact Heap.lt_size e
  | own y => obtain ⟨_, e⟩ := x; exact Heap.lt_size e
  | xd fs => obtain ⟨_, ⟨_, _, _, e, _⟩, _⟩ := x; exact Heap.lt_size e
  | rng lo hi => obtain ⟨_, _, _, e⟩ := x; exact Heap.lt_size e
  | frz ob u => obtain ⟨e, _⟩ := x; exact Heap.lt_size e
  | tbl ps => exact Heap.lt_size (show h.get? a = some _ from x)
  | met f y => exact Heap.lt_size (show h.get? a = some _ from x)
  | ext φ => obtain ⟨_, ⟨_, e⟩, _⟩ := x; exact Heap.lt_size e
theorem Paired.mapP {α β : Type} {F G : α -> β -> Prop} : ∀ {l₁ : List α} {l₂ : List β}, Paired F l₁ l₂ -> (∀ a b, F a b -> G a b) -> Paired G l₁ l₂
  | _, _, .nil, _ => .nil
  | _, _, .cons r t, f => .cons (f _ _ r) (Paired.mapP t f)
theorem yZ.stay (x : yZ P w H h a o) (k : ∀ b u, (b = a ∨ H b = some (.own a)) -> h.get? b = some u -> h'.get? b = some u)
    (ho : ∀ b, H b = some (.own a) -> H' b = some (.own a)) (ht : ∀ b xs, H b = some (.tup xs) -> H' b = some (.tup xs)) : yZ P w H' h' a o := by
  induction o with
  | lst xs => obtain ⟨z, its, n, r, e⟩ := x; exact ⟨z, its, n, r, k _ _ (.inl rfl) e⟩
  | tup xs => obtain ⟨z, its, r, ob, e, c⟩ := x; exact ⟨z, its, r, ob, k _ _ (.inl rfl) e, c⟩
  | dK kvs => obtain ⟨z, y, vs, r, ob, es, ep, e, c⟩ := x; exact ⟨z, y, vs, r, ob, es, ep, k _ _ (.inl rfl) e, c⟩
  | dT kvs =>
    obtain ⟨z, y, xs, r, ob, es, ep, e, c⟩ := x
    exact ⟨z, y, xs, Paired.mapP r fun p q z => ⟨z.1, ht _ _ z.2.1, z.2.2⟩, ob, es, ep, k _ _ (.inl rfl) e, c⟩
  | set S n => obtain ⟨ob, es, ep, t, e, c⟩ := x; exact ⟨ob, es, ep, t, k _ _ (.inl rfl) e, c⟩
  | ins C dx fs =>
    obtain ⟨d, z, ne, e, mA, ⟨od, es, ep, e2, c⟩, r⟩ := x
    exact ⟨ho _ d, z, ne, k _ _ (.inl rfl) e, mA, ⟨od, es, ep, k _ _ (.inr d) e2, c⟩, r⟩
  | own y => obtain ⟨ob, e⟩ := x; exact ⟨ob, k _ _ (.inl rfl) e⟩
  | xd fs => obtain ⟨mA, ⟨od, es, ep, e, c⟩, r⟩ := x; exact ⟨mA, ⟨od, es, ep, k _ _ (.inl rfl) e, c⟩, r⟩
  | rng lo hi => obtain ⟨t, u, v, e⟩ := x; exact ⟨t, u, v, k _ _ (.inl rfl) e⟩
  | frz ob u ih => obtain ⟨e, q⟩ := x; exact ⟨k _ _ (.inl rfl) e, ih q⟩
  | tbl ps =>
    have e : h.get? a = some { cls := .none, data := .fields ps } := x
    show h'.get? a = some { cls := .none, data := .fields ps }
    exact k a _ (.inl rfl) e
  | met f y =>
    have e : h.get? a = some (PySem.W.methodObj (.ref f) (.ref y)) := x
    show h'.get? a = some (PySem.W.methodObj (.ref f) (.ref y))
    exact k a _ (.inl rfl) e
  | ext φ => obtain ⟨p, ⟨o, e⟩, st⟩ := x; exact ⟨st _ _ p fun o q => k _ _ (.inl rfl) q, ⟨o, k _ _ (.inl rfl) e⟩, st⟩
theorem HOk.lt (x : HOk P w H h) (e : H a = some o) : a < h.objs.size := (x a o e).lt
theorem HOk.fresh (x : HOk P w H h) (e : h.objs.size <= a) : H a = none := by
  cases q : H a with
  | none => rfl
  | some u => exact absurd (Nat.lt_of_lt_of_le (x.lt q) e) (Nat.lt_irrefl _)
theorem HOk.kept (x : HOk P w H h) (k : ∀ b u, h.get? b = some u -> h'.get? b = some u) : HOk P w H h' := fun a o e =>
  (x a o e).stay (fun b u _ q => k b u q) (fun _ q => q) fun _ _ q => q
theorem HOk.laid (x : HOk P w H h) (k : ∀ b u, h.get? b = some u -> h'.get? b = some u) (hp : h.objs.size <= a) (new : yZ P w (upd H a o) h' a o) : HOk P w (upd H a o) h' := fun b u e => by
  have hn := x.fresh hp
  by_cases hb : b = a
  · subst hb; rw [zG] at e; cases e; exact new
  · rw [zF hb] at e
    exact (x b u e).stay (fun c v _ q => k c v q) (fun c q => by rw [zF (zH q hn)]; exact q) fun c xs q => by rw [zF (zH q hn)]; exact q
end
def Rd (H : Hp) (a : Addr) (u : HO) : Prop := H a = some u ∨ ∃ o, H a = some (.frz o u)
theorem Rd.ok {P : Program} {w : World} {H : Hp} {h : Heap} {a : Addr} {u : HO} (r : Rd H a u) (x : HOk P w H h) : yZ P w H h a u := by
  rcases r with r | ⟨o, r⟩
  · exact x a u r
  · obtain ⟨_, q⟩ := x a _ r
    exact q
def Mut : Option HO -> Prop
  | some (.lst _) => True
  | some (.dK _) => True
  | some (.dT _) => True
  | some (.set _ _) => True
  | some (.ins _ _ _) => True
  | some (.ext _) => True
  | _ => False
section
variable {P : Program} {w : World} {H : Hp} {h h' : Heap} {x e : Addr} {o' : HO}
theorem HOk.write (ok : HOk P w H h) (mu : Mut (H x)) (he : e = x ∨ H e = some (.own x)) (k : ∀ b u, b ≠ e -> h.get? b = some u -> h'.get? b = some u) (heo : ∃ u, h'.get? e = some u)
    (new : yZ P w (upd H x o') h' x o') : HOk P w (upd H x o') h' := fun b u q => by
  have nown : ∀ c y, H c = some (.own y) -> c ≠ x := fun c y r z => by subst z; rw [r] at mu; exact mu
  have ntup : ∀ c xs, H c = some (.tup xs) -> c ≠ x := fun c xs r z => by subst z; rw [r] at mu; exact mu
  by_cases hb : b = x
  · subst hb; rw [zG] at q; cases q; exact new
  · rw [zF hb] at q
    by_cases hbe : b = e
    · have q' : H b = some (.own x) := by
        rcases he with z | z
        · exact absurd (hbe.trans z) hb
        · rw [hbe]; exact z
      rw [q] at q'; cases q'
      obtain ⟨v, hv⟩ := heo
      exact ⟨v, by rw [hbe]; exact hv⟩
    · refine (ok b u q).stay (fun c v hc r => k c v ?_ r) (fun c r => by rw [zF (nown c b r)]; exact r) fun c xs r => by rw [zF (ntup c xs r)]; exact r
      rcases hc with rfl | hc
      · exact hbe
      · rintro rfl
        rcases he with z | z
        · exact nown c b hc z
        · rw [hc] at z; cases z; exact hb rfl
end
structure Un (fs ex : List Addr) (H H' : Hp) (h h' : Heap) : Prop where
  keep : ∀ b o, h.get? b = some o -> H b = none -> b ∉ fs -> b ∉ ex -> h'.get? b = some o
  slot : ∀ b o, h.get? b = some o -> H b = none -> b ∈ fs -> b ∉ ex -> ∃ sl, h'.get? b = some { o with slots := sl }
  free : ∀ b o, h.get? b = some o -> H b = none -> b ∉ ex -> H' b = none
  there : ∀ b o, h.get? b = some o -> b ∉ ex -> ∃ o', h'.get? b = some o'
  tups : ∀ b xs, H b = some (.tup xs) -> H' b = some (.tup xs)
  frzs : ∀ b o u, H b = some (.frz o u) -> H' b = some (.frz o u)
  tbls : ∀ b ps, H b = some (.tbl ps) -> ∃ more, H' b = some (.tbl (ps ++ more))
section
variable {fs fs' ex ex' : List Addr} {H H1 H2 : Hp} {h h1 h2 h' : Heap} {a x e : Addr} {o : HO}
theorem Un.any (u : Un fs ex H H1 h h1) {b : Addr} {ob : Obj} (q : h.get? b = some ob) (n : H b = none) (hx : b ∉ ex) : ∃ sl, h1.get? b = some { ob with slots := sl } := by
  by_cases hb : b ∈ fs
  · exact u.slot b ob q n hb hx
  · exact ⟨ob.slots, u.keep b ob q n hb hx⟩
theorem Un.kept (k : ∀ b u, h.get? b = some u -> h'.get? b = some u) : Un fs ex H H h h' :=
  ⟨fun b ob q _ _ _ => k b ob q, fun b ob q _ _ _ => ⟨ob.slots, k b ob q⟩, fun _ _ _ n _ => n, fun b ob q _ => ⟨ob, k b ob q⟩, fun _ _ q => q, fun _ _ _ q => q, fun _ ps q => ⟨#[], by rw [q]; simp⟩⟩
theorem Un.refl : Un fs ex H H h h := Un.kept fun _ _ q => q
theorem Un.laid (k : ∀ b u, h.get? b = some u -> h'.get? b = some u) (hp : h.objs.size <= a) (hn : H a = none) : Un fs ex H (upd H a o) h h' where
  keep := fun b u q _ _ _ => k b u q
  slot := fun b u q _ _ _ => ⟨u.slots, k b u q⟩
  free := fun b u q n _ => by rw [zF (Nat.ne_of_lt (Nat.lt_of_lt_of_le (Heap.lt_size q) hp))]; exact n
  there := fun b u q _ => ⟨u, k b u q⟩
  tups := fun b xs q => by rw [zF (zH q hn)]; exact q
  frzs := fun b u xs q => by rw [zF (zH q hn)]; exact q
  tbls := fun b ps q => ⟨#[], by rw [zF (zH q hn), q]; simp⟩
theorem Un.write (mu : Mut (H x)) (he : e = x ∨ H e = some (.own x)) (k : ∀ b u, b ≠ e -> h.get? b = some u -> h'.get? b = some u) (heo : ∃ u, h'.get? e = some u) : Un fs ex H (upd H x o) h h' := by
  have hx : ∀ b, H b = none -> b ≠ x := fun b n z => by subst z; rw [n] at mu; exact mu
  have hb : ∀ b, H b = none -> b ≠ e := fun b n z => by
    subst z
    rcases he with r | r
    · exact hx b n r
    · rw [n] at r; cases r
  have hm : ∀ b u, H b = some u -> ¬ Mut (some u) -> b ≠ x := fun b u q nm z => by subst z; rw [q] at mu; exact nm mu
  refine ⟨fun b u q n _ _ => k b u (hb b n) q, fun b u q n _ _ => ⟨u.slots, k b u (hb b n) q⟩, fun b u q n _ => by rw [zF (hx b n)]; exact n, fun b u q _ => ?_,
    fun b xs q => by rw [zF (hm b _ q fun z => z)]; exact q, fun b u xs q => by rw [zF (hm b _ q fun z => z)]; exact q, fun b ps q => ⟨#[], by rw [zF (hm b _ q fun z => z), q]; simp⟩⟩
  by_cases hbe : b = e
  · subst hbe; exact heo
  · exact ⟨u, k b u hbe q⟩
end
def trk (h : Heap) (H : Hp) : List Addr := (List.range h.objs.size).filter fun a => (H a).isSome
def hidT (h : Heap) (H : Hp) : Heap := PySem.W.hideAll h (trk h H)
theorem hidT_size (h : Heap) (H : Hp) : (hidT h H).objs.size = h.objs.size := PySem.W.hideAll_size _ _
theorem hidT_get {h : Heap} {H : Hp} {b : Addr} {o : Obj} (e : h.get? b = some o) (n : H b = none) : (hidT h H).get? b = some o :=
  PySem.W.hideAll_get _ e fun hm => by
    have q : (H b).isSome = true := (List.mem_filter.mp hm).2
    rw [n] at q; simp at q
theorem of_hidT {h : Heap} {H : Hp} {b : Addr} {o : Obj} (e : (hidT h H).get? b = some o) : h.get? b = some o /\ H b = none := by
  have e' : h.get? b = some o := PySem.W.of_hideAll (trk h H) e
  refine ⟨e', ?_⟩
  cases q : H b with
  | none => rfl
  | some x =>
    have hm : b ∈ trk h H := List.mem_filter.mpr ⟨List.mem_range.mpr (Heap.lt_size e'), by simp [q]⟩
    have z : (hidT h H).get? b = none := PySem.W.hideAll_none (trk h H) hm
    rw [z] at e; cases e
end L2
namespace L2
open PySem PySem.Spec PyProof.Rows
structure Mod (K : PySem.W.Frag) (mg : Str -> Option Value) (base : Heap) : Prop where
  kin : K.In base
  glob : base.Ns mainGlobals mg
  blt : ∃ mb, base.Ns builtinsNs mb /\ ∀ x : Str, x ≠ "__name__" -> mb x = bootBuiltins x
  nolimit : base.NoLimit
structure Cx where
  prog : Program
  w : World
  K : PySem.W.Frag
  mg : Str -> Option Value
  base : Heap
  A : Around
  N : List Str
  s_0 : Shared
  H_0 : Hp
  env : Env
  outer : List Env
  stack : List Env
  ex : List Addr
  fn : Str -> Bool
  calm : Bool
  pn : List (Addr × Obj)
  xe : Value -> Shared -> Prop
def frs (l : List Env) : List Addr := l.filterMap (·.frame)
abbrev Cx.fs (X : Cx) : List Addr := frs X.outer
def Vis (sc : Scope) (x : Str) : Prop := sc.names.lookup x = some .local ∨ sc.names.lookup x = some .cell ∨ sc.names.lookup x = some .free
def Loc (sc : Scope) (x : Str) : Prop := sc.names.lookup x = some .local ∨ sc.names.lookup x = some .cell
def Look (env : Env) (h : Heap) (m : Str -> Option Value) (x : Str) (u : Value) : Prop :=
  (env.kindOf x = some .local /\ m x = some u) ∨ ((env.kindOf x = some .cell ∨ env.kindOf x = some .free) /\ ∃ c, env.cells.lookup x = some c /\ h.IsCell c (some u))
structure Cx.Ok (X : Cx) : Prop where
  mod : Mod X.K X.mg X.base
  kind : X.env.scope.kind = .function
  glob : X.env.globals = mainGlobals
  blt : X.env.builtins = builtinsNs
  above : X.s_0.heap.objs.size <= X.env.locals
  inj : ∀ x y c, X.env.cells.lookup x = some c -> X.env.cells.lookup y = some c -> x = y
  has : ∀ x, (X.env.kindOf x = some .cell ∨ X.env.kindOf x = some .free) -> ∃ c, X.env.cells.lookup x = some c
  cab : ∀ x c, X.fn x = true -> X.env.cells.lookup x = some c -> X.s_0.heap.objs.size <= c
  hd : X.calm = true -> X.A.handled = none
  frames : X.A.frames = some X.stack
  stk : X.stack = X.outer ∨ (X.stack = X.env :: X.outer /\ X.env.frame = some X.env.locals)
  exf : ∀ b ∈ X.ex, b ≠ X.env.locals /\ ∀ x c, X.env.cells.lookup x = some c -> c ≠ b
  bs : ∀ b o, X.base.get? b = some o -> X.s_0.heap.get? b = some o /\ X.H_0 b = none
  bsz : X.base.objs.size <= X.s_0.heap.objs.size
  noex : ∀ b o, X.base.get? b = some o -> b ∉ X.ex
  exfs : ∀ b ∈ X.ex, b ∉ X.fs
  funs : X.s_0.heap.FunFrames X.base X.outer
  frf : ∀ b ∈ X.fs, X.H_0 b = none
structure Inv (X : Cx) (pins : List (Addr × Obj)) (σ : List (Option V)) (H : Hp) (s : Shared) : Prop where
  ok : X.Ok
  os : s.os = X.s_0.os
  bare : AllBare s.gens
  base : Un X.fs X.ex X.H_0 H X.s_0.heap s.heap
  loc : ∃ m, s.heap.Ns X.env.locals m /\ ∀ (i : Nat) (x : Str) (v : V), X.N[i]? = some x -> σ[i]? = some (some v) -> Vis X.env.scope x -> ∃ u, qN v u /\ Look X.env s.heap m x u
  cell : ∀ x c, X.env.cells.lookup x = some c -> ∃ v, s.heap.IsCell c v
  free : H X.env.locals = none
  freeC : ∀ x c, X.env.cells.lookup x = some c -> H c = none
  pin : ∀ p ∈ X.pn ++ pins, s.heap.get? p.1 = some p.2 /\ H p.1 = none /\ p.1 ≠ X.env.locals /\ p.1 ∉ X.fs /\ ∀ v, p.2.data ≠ .cell v
  hok : HOk X.prog X.w H s.heap
  len : σ.length = X.N.length
section
variable {X : Cx} {pins : List (Addr × Obj)} {σ : List (Option V)} {H H' : Hp} {s : Shared} {h' : Heap}
theorem Cx.Ok.nofr (ok : X.Ok) {b : Addr} {o : Obj} (e : X.base.get? b = some o) : b ∉ X.fs := fun hb => by
  have := (ok.funs.mem hb).1
  rw [e] at this; cases this
theorem Inv.bs (I : Inv X pins σ H s) : ∀ b o, X.base.get? b = some o -> s.heap.get? b = some o /\ H b = none := fun b o e =>
  ⟨I.base.keep b o (I.ok.bs b o e).1 (I.ok.bs b o e).2 (I.ok.nofr e) (I.ok.noex b o e), I.base.free b o (I.ok.bs b o e).1 (I.ok.bs b o e).2 (I.ok.noex b o e)⟩
theorem Inv.bk (I : Inv X pins σ H s) : ∀ b o, X.base.get? b = some o -> s.heap.get? b = some o := fun b o e => (I.bs b o e).1
theorem Inv.mod (I : Inv X pins σ H s) : Mod X.K X.mg X.base := I.ok.mod
theorem Inv.kIn (I : Inv X pins σ H s) : X.K.In s.heap := I.ok.mod.kin.keeps I.bk
theorem Inv.lt (I : Inv X pins σ H s) : X.env.locals < s.heap.objs.size := let ⟨_, hn, _⟩ := I.loc; hn.lt
theorem Inv.sz (I : Inv X pins σ H s) : X.s_0.heap.objs.size <= s.heap.objs.size := Nat.le_trans I.ok.above (Nat.le_of_lt I.lt)
theorem Inv.nofs (I : Inv X pins σ H s) {a : Addr} (h : s.heap.objs.size <= a) : a ∉ X.fs := fun hb => by
  obtain ⟨_, o, ho, _⟩ := I.ok.funs.mem hb
  exact absurd (Nat.lt_of_lt_of_le (Heap.lt_size ho) (Nat.le_trans I.sz h)) (Nat.lt_irrefl _)
theorem Inv.cne (I : Inv X pins σ H s) : ∀ x c, X.env.cells.lookup x = some c -> c ≠ X.env.locals := fun x c e z => by
  obtain ⟨v, o, ho, hd⟩ := I.cell x c e
  obtain ⟨m, ⟨o', es, ep, ho', hd', _⟩, _⟩ := I.loc
  rw [z, ho'] at ho; cases ho; rw [hd'] at hd; cases hd
theorem Inv.funs (I : Inv X pins σ H s) : s.heap.FunFrames X.base X.outer := by
  have all : ∀ (l : List Env), (∀ b ∈ frs l, b ∈ X.fs) -> X.s_0.heap.FunFrames X.base l -> s.heap.FunFrames X.base l := by
    intro l
    induction l with
    | nil => intro _ _; trivial
    | cons env r ih =>
      intro hs hl
      obtain ⟨hk, ⟨L, o, hf, hn, ho, hd⟩, hr⟩ := hl
      have hL : L ∈ X.fs := hs L (by unfold frs; rw [List.filterMap_cons, hf]; exact List.mem_cons_self)
      obtain ⟨sl, e⟩ := I.base.slot L o ho (I.ok.frf L hL) hL fun z => I.ok.exfs L z hL
      exact ⟨hk, ⟨L, _, hf, hn, e, hd⟩, ih (fun b hb => hs b (by unfold frs; rw [List.filterMap_cons, hf]; exact List.mem_cons_of_mem _ hb)) hr⟩
  exact all X.outer (fun _ hb => hb) I.ok.funs
theorem Inv.stack (I : Inv X pins σ H s) : s.heap.FunFrames X.base X.stack := by
  rcases I.ok.stk with e | ⟨e, hf⟩
  · rw [e]; exact I.funs
  · rw [e]
    obtain ⟨m, hn, _⟩ := I.loc
    refine .cons (by rw [I.ok.kind]; decide) hf hn ?_ I.funs
    exact Heap.get?_none_of_le (Nat.le_trans I.ok.bsz I.ok.above)
theorem Inv.stkSub (I : Inv X pins σ H s) : ∀ b ∈ frs X.stack, b ∈ X.env.locals :: X.fs := fun b hb => by
  rcases I.ok.stk with e | ⟨e, hf⟩
  · rw [e] at hb; exact List.mem_cons_of_mem _ hb
  · rw [e] at hb
    unfold frs at hb
    rw [List.filterMap_cons, hf] at hb
    exact hb
theorem Inv.stkFree (I : Inv X pins σ H s) : ∀ b ∈ frs X.stack, H b = none := fun b hb => by
  rcases List.mem_cons.mp (I.stkSub b hb) with e | hb
  · rw [e]; exact I.free
  · obtain ⟨_, o, ho, _⟩ := I.ok.funs.mem hb
    exact I.base.free b o ho (I.ok.frf b hb) fun z => I.ok.exfs b z hb
theorem Inv.step {g' : Array GenState} {t' : Nat} {d' : Drawn} {ch : List Addr} (I : Inv X pins σ H s)
    (hch : ∀ b ∈ ch, (b ∈ X.ex ∨ X.s_0.heap.objs.size <= b) /\ b ≠ X.env.locals /\ (∀ x c, X.env.cells.lookup x = some c -> c ≠ b) /\ ∀ p ∈ X.pn ++ pins, p.1 ≠ b)
    (keep : ∀ b o, b ≠ X.env.locals -> b ∉ X.fs -> b ∉ ch -> s.heap.get? b = some o -> H b = none -> h'.get? b = some o)
    (slot : ∀ b o, b ≠ X.env.locals -> b ∈ X.fs -> b ∉ ch -> s.heap.get? b = some o -> H b = none -> ∃ sl, h'.get? b = some { o with slots := sl }) (free : ∀ b o, b ∉ ch -> s.heap.get? b = some o -> H b = none -> H' b = none)
    (there : ∀ b o, b ∉ ch -> s.heap.get? b = some o -> ∃ o', h'.get? b = some o')
    (tups : ∀ b xs, H b = some (.tup xs) -> H' b = some (.tup xs)) (frzs : ∀ b o u, H b = some (.frz o u) -> H' b = some (.frz o u)) (tbls : ∀ b ps, H b = some (.tbl ps) -> ∃ more, H' b = some (.tbl (ps ++ more)))
    (ns : ∀ m, s.heap.Ns X.env.locals m -> h'.Ns X.env.locals m) (hok : HOk X.prog X.w H' h') (hg : AllBare g') :
    Inv X pins σ H' { s with heap := h', gens := g', drawn := d', toks := t' } := by
  have neL : ∀ b o, X.s_0.heap.get? b = some o -> b ≠ X.env.locals := fun b o e => Nat.ne_of_lt (Nat.lt_of_lt_of_le (Heap.lt_size e) I.ok.above)
  have neC : ∀ b o, X.s_0.heap.get? b = some o -> b ∉ X.ex -> b ∉ ch := fun b o e hx hb => by
    rcases (hch b hb).1 with z | z
    · exact hx z
    · exact absurd (Nat.lt_of_lt_of_le (Heap.lt_size e) z) (Nat.lt_irrefl _)
  have cellK : ∀ x c, X.env.cells.lookup x = some c -> ∀ v, s.heap.IsCell c v -> h'.IsCell c v := fun x c e v ⟨o, ho, hd⟩ => by
    have nch : c ∉ ch := fun z => (hch c z).2.2.1 x c e rfl
    by_cases hc : c ∈ X.fs
    · obtain ⟨sl, q⟩ := slot c o (I.cne x c e) hc nch ho (I.freeC x c e)
      exact ⟨_, q, hd⟩
    · exact ⟨o, keep c o (I.cne x c e) hc nch ho (I.freeC x c e), hd⟩
  refine ⟨I.ok, I.os, hg, ⟨fun b o e n hb hx => ?_, fun b o e n hb hx => ?_, fun b o e n hx => ?_, fun b o e hx => ?_, fun b xs e => tups b xs (I.base.tups b xs e), fun b o xs e => frzs b o xs (I.base.frzs b o xs e), fun b ps e => ?_⟩, ?_, fun x c e => ?_, ?_, fun x c e => ?_, fun p hp => ?_, hok, I.len⟩
  · exact keep b o (neL b o e) hb (neC b o e hx) (I.base.keep b o e n hb hx) (I.base.free b o e n hx)
  · obtain ⟨sl, e1⟩ := I.base.slot b o e n hb hx
    obtain ⟨sl', e2⟩ := slot b _ (neL b o e) hb (neC b o e hx) e1 (I.base.free b o e n hx)
    exact ⟨sl', e2⟩
  · obtain ⟨o', e1⟩ := I.base.there b o e hx
    exact free b o' (neC b o e hx) e1 (I.base.free b o e n hx)
  · obtain ⟨o', e1⟩ := I.base.there b o e hx
    exact there b o' (neC b o e hx) e1
  · obtain ⟨m1, e1⟩ := I.base.tbls b ps e
    obtain ⟨m2, e2⟩ := tbls b _ e1
    exact ⟨m1 ++ m2, by rw [e2, Array.append_assoc]⟩
  · obtain ⟨m, hn, hl⟩ := I.loc
    refine ⟨m, ns m hn, fun i x v e1 e2 e3 => ?_⟩
    obtain ⟨u, r, l⟩ := hl i x v e1 e2 e3
    refine ⟨u, r, ?_⟩
    rcases l with l | ⟨k, c, e, z⟩
    · exact .inl l
    · exact .inr ⟨k, c, e, cellK x c e _ z⟩
  · obtain ⟨v, z⟩ := I.cell x c e
    exact ⟨v, cellK x c e v z⟩
  · obtain ⟨m, ⟨o, _, _, ho, _⟩, _⟩ := I.loc
    exact free _ o (fun z => (hch _ z).2.1 rfl) ho I.free
  · obtain ⟨v, o, ho, hd⟩ := I.cell x c e
    exact free c o (fun z => (hch c z).2.2.1 x c e rfl) ho (I.freeC x c e)
  · obtain ⟨e, n, ne, nf, d⟩ := I.pin p hp
    have nch : p.1 ∉ ch := fun z => (hch p.1 z).2.2.2 p hp rfl
    exact ⟨keep p.1 p.2 ne nf nch e n, free p.1 p.2 nch e n, ne, nf, d⟩
theorem Inv.un {t' : Nat} (I : Inv X pins σ H s) (u : Un X.fs [] H H' s.heap h') (hok : HOk X.prog X.w H' h') : Inv X pins σ H' { s with heap := h', toks := t' } := by
  obtain ⟨m, ⟨o, es, ep, ho, r⟩, _⟩ := id I.loc
  obtain ⟨sl, hL⟩ := u.any ho I.free (by simp)
  exact I.step (g' := s.gens) (d' := s.drawn) (ch := []) (fun _ z => nomatch z) (fun b o _ hb _ e n => u.keep b o e n hb (by simp)) (fun b o _ hb _ e n => u.slot b o e n hb (by simp)) (fun b o _ e n => u.free b o e n (by simp)) (fun b o _ e => u.there b o e (by simp)) u.tups u.frzs u.tbls (fun m' hm => by
    obtain ⟨o', es', ep', ho', r'⟩ := hm
    rw [ho] at ho'; cases ho'
    exact ⟨_, es', ep', hL, r'⟩) hok I.bare
theorem Inv.call {g' : Array GenState} {t' : Nat} {d' : Drawn} {ch : List Addr} (I : Inv X pins σ H s) (u : Un (frs X.stack) ch H H' s.heap h') (hok : HOk X.prog X.w H' h') (hg : AllBare g')
    (hch : ∀ b ∈ ch, (b ∈ X.ex ∨ X.s_0.heap.objs.size <= b) /\ b ≠ X.env.locals /\ (∀ x c, X.env.cells.lookup x = some c -> c ≠ b) /\ ∀ p ∈ X.pn ++ pins, p.1 ≠ b) :
    Inv X pins σ H' { s with heap := h', gens := g', drawn := d', toks := t' } := by
  obtain ⟨m, ⟨o, es, ep, ho, r⟩, _⟩ := id I.loc
  obtain ⟨sl, hL⟩ := u.any ho I.free fun z => (hch _ z).2.1 rfl
  exact I.step (ch := ch) hch (fun b o hL hb hc e n => u.keep b o e n (fun z => (List.mem_cons.mp (I.stkSub b z)).elim hL hb) hc) (fun b o _ _ hc e n => u.any e n hc) (fun b o hc e n => u.free b o e n hc) (fun b o hc e => u.there b o e hc) u.tups u.frzs u.tbls (fun m' hm => by
    obtain ⟨o', es', ep', ho', r'⟩ := hm
    rw [ho] at ho'; cases ho'
    exact ⟨_, es', ep', hL, r'⟩) hok hg
theorem Inv.turned {t' : Nat} {it : Addr} (I : Inv X pins σ H s) (k : ∀ b o, b ≠ it -> s.heap.get? b = some o -> h'.get? b = some o) (hn : H it = none) (hL : it ≠ X.env.locals)
    (h1 : it ∈ X.ex ∨ X.s_0.heap.objs.size <= it) (h2 : ∀ x c, X.env.cells.lookup x = some c -> c ≠ it) (h3 : ∀ p ∈ X.pn ++ pins, p.1 ≠ it) : Inv X pins σ H { s with heap := h', toks := t' } := by
  have nit : ∀ b u, H b = some u -> b ≠ it := fun b u e z => by rw [z, hn] at e; cases e
  refine I.step (g' := s.gens) (d' := s.drawn) (ch := [it]) (fun b hb => ?_) (fun b o _ _ hc e _ => k b o (fun z => hc (by simp [z])) e) (fun b o _ _ hc e _ => ⟨o.slots, k b o (fun z => hc (by simp [z])) e⟩) (fun _ _ _ _ n => n)
    (fun b o hc e => ⟨o, k b o (fun z => hc (by simp [z])) e⟩) (fun _ _ e => e) (fun _ _ _ e => e) (fun b ps e => ⟨#[], by rw [e]; simp⟩) (fun m hm => ?_) (fun b u e => ?_) I.bare
  · have e : b = it := by simpa using hb
    subst e
    exact ⟨h1, hL, h2, h3⟩
  · obtain ⟨o, es, ep, ho, r⟩ := hm
    exact ⟨o, es, ep, k _ o (Ne.symm hL) ho, r⟩
  · refine (I.hok b u e).stay (fun c v hc q => k c v ?_ q) (fun _ q => q) fun _ _ q => q
    rcases hc with z | z
    · rw [z]; exact nit b u e
    · exact nit c _ z
theorem Inv.tok (I : Inv X pins σ H s) (t : Nat) : Inv X pins σ H { s with toks := t } := I.un (h' := s.heap) (t' := t) Un.refl I.hok
theorem Inv.kept {t' : Nat} (I : Inv X pins σ H s) (k : ∀ b u, s.heap.get? b = some u -> h'.get? b = some u) : Inv X pins σ H { s with heap := h', toks := t' } := I.un (Un.kept k) (I.hok.kept k)
theorem Inv.laid {a : Addr} {o : HO} {t' : Nat} (I : Inv X pins σ H s) (k : ∀ b u, s.heap.get? b = some u -> h'.get? b = some u) (hp : s.heap.objs.size <= a) (new : yZ X.prog X.w (upd H a o) h' a o) :
    Inv X pins σ (upd H a o) { s with heap := h', toks := t' } := I.un (Un.laid k hp (I.hok.fresh hp)) (I.hok.laid k hp new)
theorem Inv.write {x e : Addr} {o : HO} {t' : Nat} (I : Inv X pins σ H s) (mu : Mut (H x)) (he : e = x ∨ H e = some (.own x)) (k : ∀ b u, b ≠ e -> s.heap.get? b = some u -> h'.get? b = some u) (heo : ∃ u, h'.get? e = some u)
    (new : yZ X.prog X.w (upd H x o) h' x o) : Inv X pins σ (upd H x o) { s with heap := h', toks := t' } := I.un (Un.write mu he k heo) (I.hok.write mu he k heo new)
theorem Inv.weak {σ' : List (Option V)} (I : Inv X pins σ H s) (hl : σ'.length = σ.length) (w : ∀ (i : Nat) v, σ'[i]? = some (some v) -> σ[i]? = some (some v)) : Inv X pins σ' H s :=
  ⟨I.ok, I.os, I.bare, I.base, let ⟨m, hn, hl'⟩ := I.loc; ⟨m, hn, fun i x v e1 e2 e3 => hl' i x v e1 (w i v e2) e3⟩, I.cell, I.free, I.freeC, I.pin, I.hok, hl.trans I.len⟩
theorem Inv.pins_of {pins' : List (Addr × Obj)} (I : Inv X pins σ H s) (h : ∀ p ∈ pins', s.heap.get? p.1 = some p.2 /\ H p.1 = none /\ p.1 ≠ X.env.locals /\ p.1 ∉ X.fs /\ ∀ v, p.2.data ≠ .cell v) : Inv X pins' σ H s :=
  ⟨I.ok, I.os, I.bare, I.base, I.loc, I.cell, I.free, I.freeC, fun p hp => (List.mem_append.mp hp).elim (fun z => I.pin p (List.mem_append_left _ z)) (h p), I.hok, I.len⟩
theorem nodup_ix {N : List Str} (hN : N.Nodup) {i j : Nat} {x : Str} (a : N[i]? = some x) (b : N[j]? = some x) : i = j := by
  obtain ⟨h1, e1⟩ := List.getElem?_eq_some_iff.mp a
  obtain ⟨h2, e2⟩ := List.getElem?_eq_some_iff.mp b
  exact (List.getElem_inj hN).mp (e1.trans e2.symm)
theorem store_ok2 {M : Model} {A : Around} {E : Value -> Shared -> Prop} {i : Nat} {x : Str} {v : V} {u : Value} {Q : Unit -> Shared -> Prop} (I : Inv X pins σ H s) (hN : X.N.Nodup) (hi : X.N[i]? = some x) (hx : Loc X.env.scope x) (r : qN v u)
    (h : ∀ s', Inv X pins (σ.set i (some v)) H s' -> (∃ a, Heap.SameBut a s.heap s'.heap /\ (a = X.env.locals ∨ X.env.cells.lookup x = some a)) -> Q () s') (hf : X.fn x = true ∨ X.env.scope.names.lookup x = some .local := by first | exact .inl rfl | exact .inr rfl | assumption) : wpAny M A (storeName X.env x u) Q E s := by
  obtain ⟨m, hn, hl⟩ := id I.loc
  have hcls : (X.env.scope.kind == .class || (X.env.scope.kind == .module && X.env.locals != X.env.globals)) = false := by rw [I.ok.kind]; rfl
  have hiσ : i < σ.length := by rw [I.len]; exact (List.getElem?_eq_some_iff.mp hi).1
  have cne := I.cne
  have tracked : ∀ {a : Addr} {h' : Heap}, (∃ o, s.heap.get? a = some o /\ H a = none) -> Heap.SameBut a s.heap h' -> HOk X.prog X.w H h' := fun {a h'} ha hs b ob e => by
    obtain ⟨_, _, hfree⟩ := ha
    refine (I.hok b ob e).stay (fun c w' hc q => (hs.2 c ?_).trans q) (fun _ q => q) fun _ _ q => q
    rintro rfl
    rcases hc with rfl | hc
    · rw [hfree] at e; cases e
    · rw [hfree] at hc; cases hc
  rcases hx with hk | hk
  · refine wpAny_storeName_local hk hn (fun h' hn' hs => ?_) hcls
    obtain ⟨oL, _, _, hoL, _⟩ := id hn
    refine h _ ⟨I.ok, I.os, I.bare, ⟨fun b o e n hb hx => ?_, fun b o e n hb hx => ?_, I.base.free, fun b o e hx => ?_, I.base.tups, I.base.frzs, I.base.tbls⟩, ⟨_, hn', fun j y v' e1 e2 e3 => ?_⟩, fun y c e => ?_, I.free, I.freeC, fun p hp => ?_, tracked ⟨oL, hoL, I.free⟩ hs, by simpa using I.len⟩ ⟨_, hs, .inl rfl⟩
    · exact (hs.2 b (Nat.ne_of_lt (Nat.lt_of_lt_of_le (Heap.lt_size e) I.ok.above))).trans (I.base.keep b o e n hb hx)
    · obtain ⟨sl, e1⟩ := I.base.slot b o e n hb hx
      exact ⟨sl, (hs.2 b (Nat.ne_of_lt (Nat.lt_of_lt_of_le (Heap.lt_size e) I.ok.above))).trans e1⟩
    · obtain ⟨o', e1⟩ := I.base.there b o e hx
      exact ⟨o', (hs.2 b (Nat.ne_of_lt (Nat.lt_of_lt_of_le (Heap.lt_size e) I.ok.above))).trans e1⟩
    · by_cases hj : j = i
      · subst hj
        rw [hi] at e1; cases e1
        rw [List.getElem?_set_self hiσ] at e2
        cases e2
        exact ⟨u, r, .inl ⟨hk, by simp⟩⟩
      · rw [List.getElem?_set_ne (Ne.symm hj)] at e2
        obtain ⟨u', r', q⟩ := hl j y v' e1 e2 e3
        refine ⟨u', r', ?_⟩
        rcases q with ⟨k, e⟩ | ⟨k, c, e, z⟩
        · refine .inl ⟨k, ?_⟩
          have : y ≠ x := fun e => hj (nodup_ix hN e1 (e ▸ hi))
          simp [this, e]
        · exact .inr ⟨k, c, e, z.sameBut hs (cne y c e)⟩
    · obtain ⟨w', z⟩ := I.cell y c e
      exact ⟨w', z.sameBut hs (cne y c e)⟩
    · obtain ⟨e, n, ne, nf, d⟩ := I.pin p hp
      exact ⟨(hs.2 p.1 ne).trans e, n, ne, nf, d⟩
  · have hfn : X.fn x = true := by
      rcases hf with z | z
      · exact z
      · rw [z] at hk; cases hk
    obtain ⟨c, hc⟩ := I.ok.has x (.inl hk)
    obtain ⟨w', z⟩ := I.cell x c hc
    refine wpAny_storeName_cell I.ok.kind hk hc z (fun h' hc' hs => ?_)
    obtain ⟨oc, hoc, hocd⟩ := id z
    refine h { s with heap := h' } ⟨I.ok, I.os, I.bare, ⟨fun b o e n hb hx => ?_, fun b o e n hb hx => ?_, I.base.free, fun b o e hx => ?_, I.base.tups, I.base.frzs, I.base.tbls⟩, ⟨m, hn.sameBut hs (Ne.symm (cne x c hc)), fun j y v' e1 e2 e3 => ?_⟩, fun y c' e => ?_, I.free, I.freeC, fun p hp => ?_, tracked ⟨oc, hoc, I.freeC x c hc⟩ hs, by simpa using I.len⟩ ⟨c, hs, .inr hc⟩
    · exact (hs.2 b (Nat.ne_of_lt (Nat.lt_of_lt_of_le (Heap.lt_size e) (I.ok.cab x c hfn hc)))).trans (I.base.keep b o e n hb hx)
    · obtain ⟨sl, e1⟩ := I.base.slot b o e n hb hx
      exact ⟨sl, (hs.2 b (Nat.ne_of_lt (Nat.lt_of_lt_of_le (Heap.lt_size e) (I.ok.cab x c hfn hc)))).trans e1⟩
    · obtain ⟨o', e1⟩ := I.base.there b o e hx
      exact ⟨o', (hs.2 b (Nat.ne_of_lt (Nat.lt_of_lt_of_le (Heap.lt_size e) (I.ok.cab x c hfn hc)))).trans e1⟩
    · by_cases hj : j = i
      · subst hj
        rw [hi] at e1; cases e1
        rw [List.getElem?_set_self hiσ] at e2
        cases e2
        exact ⟨u, r, .inr ⟨.inl hk, c, hc, hc'⟩⟩
      · rw [List.getElem?_set_ne (Ne.symm hj)] at e2
        obtain ⟨u', r', q⟩ := hl j y v' e1 e2 e3
        refine ⟨u', r', ?_⟩
        rcases q with q | ⟨k, c', e, z'⟩
        · exact .inl q
        · refine .inr ⟨k, c', e, z'.sameBut hs ?_⟩
          rintro rfl
          exact hj (nodup_ix hN e1 (I.ok.inj _ _ _ e hc ▸ hi))
    · by_cases hcc : c' = c
      · subst hcc; exact ⟨_, hc'⟩
      · obtain ⟨w2, z2⟩ := I.cell y c' e
        exact ⟨w2, z2.sameBut hs hcc⟩
    · obtain ⟨e, n, ne, nf, d⟩ := I.pin p hp
      refine ⟨(hs.2 p.1 ?_).trans e, n, ne, nf, d⟩
      intro q
      rw [q, hoc] at e
      have q' : oc = p.2 := Option.some.inj e
      exact d w' (by rw [<- q']; exact hocd)
theorem store_ok {M : Model} {A : Around} {E : Value -> Shared -> Prop} {i : Nat} {x : Str} {v : V} {u : Value} {Q : Unit -> Shared -> Prop} (I : Inv X pins σ H s) (hN : X.N.Nodup) (hi : X.N[i]? = some x) (hx : Loc X.env.scope x) (r : qN v u)
    (h : ∀ s', Inv X pins (σ.set i (some v)) H s' -> Q () s') (hf : X.fn x = true ∨ X.env.scope.names.lookup x = some .local := by first | exact .inl rfl | exact .inr rfl | assumption) : wpAny M A (storeName X.env x u) Q E s :=
  store_ok2 I hN hi hx r (fun s' I' _ => h s' I') hf
theorem Inv.call' {s' : Shared} {ch : List Addr} (I : Inv X pins σ H s) (ho : s'.os = s.os) (u : Un (frs X.stack) ch H H' s.heap s'.heap) (hok : HOk X.prog X.w H' s'.heap) (hg : AllBare s'.gens)
    (hch : ∀ b ∈ ch, (b ∈ X.ex ∨ X.s_0.heap.objs.size <= b) /\ b ≠ X.env.locals /\ (∀ x c, X.env.cells.lookup x = some c -> c ≠ b) /\ ∀ p ∈ X.pn ++ pins, p.1 ≠ b) : Inv X pins σ H' s' := by
  obtain ⟨h', g', d', t', o'⟩ := s'
  have e : o' = s.os := ho
  subst e
  exact I.call (g' := g') (t' := t') (d' := d') u hok hg hch
end
abbrev XK := Value -> Option Addr -> Hp -> Prop
abbrev St := List (Option V)
abbrev VK := V -> Hp -> Prop
abbrev TE := St -> Hp -> VK -> Prop
abbrev TT := St -> Hp -> (Bool -> Hp -> Prop) -> Prop
abbrev TA := St -> Hp -> (List V -> Hp -> Prop) -> Prop
structure Ends where
  nx : St -> Hp -> Prop
  rt : VK
  bk : St -> Hp -> Prop := fun _ _ => False
  ct : St -> Hp -> Prop := fun _ _ => False
abbrev TS := Ends -> St -> Hp -> Prop
def EP (X : Cx) (pins : List (Addr × Obj)) (σ : St) (Q : VK) (u : Value) (s' : Shared) : Prop := ∃ v H', Inv X pins σ H' s' /\ qN v u /\ Q v H'
def TP (X : Cx) (pins : List (Addr × Obj)) (σ : St) (Q : Bool -> Hp -> Prop) (b : Bool) (s' : Shared) : Prop := ∃ H', Inv X pins σ H' s' /\ Q b H'
def AP (X : Cx) (pins : List (Addr × Obj)) (σ : St) (Q : List V -> Hp -> Prop) (us : List Value) (s' : Shared) : Prop := ∃ vs H', Inv X pins σ H' s' /\ Vals vs us /\ Q vs H'
def SP (X : Cx) (pins : List (Addr × Obj)) (D : Ends) (f : Flow) (s' : Shared) : Prop :=
  match f with
  | .next => ∃ σ' H', Inv X pins σ' H' s' /\ D.nx σ' H'
  | .brk => ∃ σ' H', Inv X pins σ' H' s' /\ D.bk σ' H'
  | .cont => ∃ σ' H', Inv X pins σ' H' s' /\ D.ct σ' H'
  | .ret u => ∃ v σ' H', Inv X pins σ' H' s' /\ qN v u /\ D.rt v H'
def PE (X : Cx) (e : Expr) (t : TE) : Prop :=
  ∀ (pins : List (Addr × Obj)) (s : Shared) (σ : St) (H : Hp) (Q : VK), Inv X pins σ H s -> t σ H Q -> wpAny (model X.prog X.w) X.A (eval e X.env) (EP X pins σ Q) X.xe s
def PT (X : Cx) (e : Expr) (t : TT) : Prop :=
  ∀ (pins : List (Addr × Obj)) (s : Shared) (σ : St) (H : Hp) (Q : Bool -> Hp -> Prop), Inv X pins σ H s -> t σ H Q -> wpAny (model X.prog X.w) X.A (isTrue e X.env (eval e X.env)) (TP X pins σ Q) X.xe s
def PW (X : Cx) (e : Expr) (t : TT) : Prop :=
  ∀ (whole : Sem Value) (pins : List (Addr × Obj)) (s : Shared) (σ : St) (H : Hp) (Q : Bool -> Hp -> Prop), Inv X pins σ H s -> t σ H Q -> wpAny (model X.prog X.w) X.A (isTrue e X.env whole) (TP X pins σ Q) X.xe s
theorem PW.pt {X : Cx} {e : Expr} {t : TT} (h : PW X e t) : PT X e t := h _
def PA (X : Cx) (es : List Expr) (t : TA) : Prop :=
  ∀ (pos : Pos) (pins : List (Addr × Obj)) (s : Shared) (σ : St) (H : Hp) (Q : List V -> Hp -> Prop), Inv X pins σ H s -> t σ H Q -> wpAny (model X.prog X.w) X.A (spliced (backTo pos (starEach es X.env))) (AP X pins σ Q) X.xe s
def PS (X : Cx) (st : Stmt) (t : TS) : Prop :=
  ∀ (pins : List (Addr × Obj)) (s : Shared) (σ : St) (H : Hp) (D : Ends), Inv X pins σ H s -> t D σ H -> wpAny (model X.prog X.w) X.A (exec st X.env) (SP X pins D) X.xe s
def PSs (X : Cx) (st : List Stmt) (t : TS) : Prop :=
  ∀ (pins : List (Addr × Obj)) (s : Shared) (σ : St) (H : Hp) (D : Ends), Inv X pins σ H s -> t D σ H -> wpAny (model X.prog X.w) X.A (execs st X.env) (SP X pins D) X.xe s
theorem thn {α : Type} {t : Sem α} {Q Q' : α -> Shared -> Prop} {M : Model} {A : Around} {E : Value -> Shared -> Prop} {s : Shared} (h : wpAny M A t Q E s) (hQ : ∀ a s, Q a s -> Q' a s) : wpAny M A t Q' E s := wpAny_mono h hQ fun _ _ x => x
end L2
namespace L2
open PySem PySem.Spec PyProof.Rows
section
variable {X : Cx}
def qT (i : Nat) : TE := fun σ H Q => ∃ v, σ[i]? = some (some v) /\ Q v H
def tC (v : V) : TE := fun _ H Q => Q v H
theorem pe_var {i : Nat} {x : Str} {pos : Pos} (hN : X.N[i]? = some x) (hv : Vis X.env.scope x) (hd : (x == ("__debug__" : Str)) = false := by decide) (hcd : (x == ("__classdict__" : Str)) = false := by decide) : PE X (.Name x pos) (qT i) := by
  intro pins s σ H Q I h
  obtain ⟨v, e, h⟩ := h
  obtain ⟨m, hn, hl⟩ := I.loc
  obtain ⟨u, r, l⟩ := hl i x v hN e hv
  have fin : EP X pins σ Q u s := ⟨v, H, I, r, h⟩
  rcases l with ⟨hk, hm⟩ | ⟨hk, c, hc, hcell⟩
  · exact wpAny_Name (wpAny_loadName_local I.ok.kind hk hn hm fin) hd
  · rcases hk with hk | hk
    · exact wpAny_Name (wpAny_loadName_cell I.ok.kind hk hc hcell fin) hd
    · exact wpAny_Name (wpAny_loadName_free I.ok.kind hk hc hcell fin hcd) hd
theorem zQ {i j pos} : PE X (.Constant (.int i) j pos) (tC (.int i)) := fun _ _ _ H _ I h => wpAny_Constant_int ⟨.int i, H, I.tok _, ⟨_, rfl⟩, h⟩
theorem zK {x j pos} : PE X (.Constant (.str x) j pos) (tC (.str x)) := fun _ _ _ H _ I h => Calls.Constant_str ⟨.str x, H, I.tok _, ⟨_, rfl⟩, h⟩
def Gl (X : Cx) (x : Str) : Prop := X.env.kindOf x = some .globalImplicit
theorem ld_glob {E : Value -> Shared -> Prop} {pins : List (Addr × Obj)} {s : Shared} {σ : St} {H : Hp} {x : Str} {u : Value} {pos : Pos} {Q : Value -> Shared -> Prop} (I : Inv X pins σ H s) (hg : Gl X x) (hm : X.mg x = some u) (h : Q u s)
    (hd : (x == ("__debug__" : Str)) = false := by decide) : wpAny (model X.prog X.w) X.A (eval (.Name x pos) X.env) Q E s :=
  Calls.Name_function_global I.ok.kind hg (Calls.loadGlobal_global (by rw [I.ok.glob]; exact I.mod.glob.keeps I.bk) hm h) hd
theorem ld_blt {E : Value -> Shared -> Prop} {pins : List (Addr × Obj)} {s : Shared} {σ : St} {H : Hp} {x : Str} {u : Value} {pos : Pos} {Q : Value -> Shared -> Prop} (I : Inv X pins σ H s) (hg : Gl X x) (hm : X.mg x = none) (hv : bootBuiltins x = some u) (h : Q u s)
    (hn : x ≠ "__name__" := by decide) (hd : (x == ("__debug__" : Str)) = false := by decide) : wpAny (model X.prog X.w) X.A (eval (.Name x pos) X.env) Q E s := by
  obtain ⟨mb, h1, h2⟩ := I.mod.blt
  exact Calls.Name_function_global I.ok.kind hg (Calls.loadGlobal_builtin (by rw [I.ok.glob]; exact I.mod.glob.keeps I.bk) hm (by rw [I.ok.blt]; exact h1.keeps I.bk) ((h2 x hn).trans hv) h) hd
theorem pe_glob {x : Str} {v : V} {u : Value} {pos : Pos} (hg : Gl X x) (hm : X.mg x = some u) (r : qN v u) (hd : (x == ("__debug__" : Str)) = false := by decide) : PE X (.Name x pos) (tC v) :=
  fun _ _ _ H _ I h => ld_glob I hg hm ⟨v, H, I, r, h⟩ hd
variable {a b : Expr} {ta tb : TE} {pos : Pos}
def PC (X : Cx) (op : CmpOp) (a b : Expr) (t : TE) : Prop :=
  ∀ (pins : List (Addr × Obj)) (s : Shared) (σ : St) (H : Hp) (Q : VK), Inv X pins σ H s -> t σ H Q ->
    wpAny (model X.prog X.w) X.A (eval a X.env) (fun v s₁ => wpAny (model X.prog X.w) X.A (eval b X.env) (fun u s₂ => wpAny (model X.prog X.w) X.A (compareOp op v u) (EP X pins σ Q) X.xe s₂) X.xe s₁) X.xe s
def tB (t : TE) : TT := fun σ H Q => t σ H fun x H1 => ∃ c, x = .bl c /\ Q c H1
theorem pt_cmp {op : CmpOp} {t : TE} (h : PC X op a b t) (h1 : behindInMarks op b = false := by first | exact nobehind _ (by decide) (by decide) | rfl) : PT X (.Compare a [op] [b] pos) (tB t) := by
  intro pins s σ H Q I hw
  refine wpAny_isTrue_Compare1 (thn (h pins s σ H _ I hw) fun v s1 h1 => thn h1 fun u s2 h2 => thn h2 fun c s3 ⟨x, H1, I1, r1, q1⟩ => ?_) h1
  obtain ⟨d, rfl, q⟩ := q1
  cases r1
  exact wpAny_truthy_bool ⟨H1, I1, q⟩
theorem pt_val {e : Expr} {t : TE} (h : PE X e t) (he : ∀ whole, isTrue e X.env whole = (do let v <- whole; standAt e.pos; holding [v] (truthy v)) := by intro _; rfl) : PT X e (tB t) := by
  intro pins s σ H Q I hw
  refine isTrue_plain (thn (h pins s σ H _ I hw) fun v s1 ⟨x, H1, I1, r1, q1⟩ => ?_) (he _)
  obtain ⟨d, rfl, q⟩ := q1
  cases r1
  exact wpAny_truthy_bool ⟨H1, I1, q⟩
variable {tA tB' : TT} {rest : List Expr}
def tAnd (t u : TT) : TT := fun σ H Q => t σ H fun c H1 => if c = true then u σ H1 Q else Q false H1
def tOr (t u : TT) : TT := fun σ H Q => t σ H fun c H1 => if c = true then Q true H1 else u σ H1 Q
theorem pw_and1 (ha : PT X a tA) : PW X (.BoolOp .And [a] pos) tA := by
  intro wh pins s σ H Q I h
  refine isTrue_and (thn (ha pins s σ H Q I h) fun c s1 e => ?_)
  cases c with
  | true => exact isTrue_and_nil e
  | false => exact e
theorem pw_or1 (ha : PT X a tA) : PW X (.BoolOp .Or [a] pos) tA := by
  intro wh pins s σ H Q I h
  refine isTrue_or (thn (ha pins s σ H Q I h) fun c s1 e => ?_)
  cases c with
  | false => exact isTrue_or_nil e
  | true => exact e
theorem pw_and (ha : PT X a tA) (hb : PW X (.BoolOp .And (b :: rest) pos) tB') : PW X (.BoolOp .And (a :: b :: rest) pos) (tAnd tA tB') := by
  intro wh pins s σ H Q I h
  refine isTrue_and (thn (ha pins s σ H _ I h) fun c s1 ⟨H1, I1, q1⟩ => ?_)
  cases c with
  | true => exact hb wh pins s1 σ H1 Q I1 q1
  | false => exact ⟨H1, I1, q1⟩
theorem pw_or (ha : PT X a tA) (hb : PW X (.BoolOp .Or (b :: rest) pos) tB') : PW X (.BoolOp .Or (a :: b :: rest) pos) (tOr tA tB') := by
  intro wh pins s σ H Q I h
  refine isTrue_or (thn (ha pins s σ H _ I h) fun c s1 ⟨H1, I1, q1⟩ => ?_)
  cases c with
  | true => exact ⟨H1, I1, q1⟩
  | false => exact hb wh pins s1 σ H1 Q I1 q1
def tAndV (ta tb : TE) : TE := fun σ H Q => ta σ H fun x H1 => ∃ c, x = .bl c /\ if c = true then tb σ H1 Q else Q (.bl false) H1
def tOrV (ta tb : TE) : TE := fun σ H Q => ta σ H fun x H1 => ∃ c, x = .bl c /\ if c = true then Q (.bl true) H1 else tb σ H1 Q
theorem pe_one {op} {t : TE} (h : PE X a t) : PE X (.BoolOp op [a] pos) t := fun pins s σ H Q I hw => BoolOp_one (h pins s σ H Q I hw)
theorem pe_and (ha : PE X a ta) (hb : PE X (.BoolOp .And (b :: rest) pos) tb) : PE X (.BoolOp .And (a :: b :: rest) pos) (tAndV ta tb) := by
  intro pins s σ H Q I h
  refine BoolOp_and (thn (ha pins s σ H _ I h) fun v s1 ⟨x, H1, I1, r1, q1⟩ => ?_)
  obtain ⟨c, rfl, q1⟩ := q1
  cases r1
  refine wpAny_truthy_bool ?_
  cases c with
  | true => exact hb pins s1 σ H1 Q I1 q1
  | false => exact ⟨.bl false, H1, I1, rfl, q1⟩
theorem pe_or (ha : PE X a ta) (hb : PE X (.BoolOp .Or (b :: rest) pos) tb) : PE X (.BoolOp .Or (a :: b :: rest) pos) (tOrV ta tb) := by
  intro pins s σ H Q I h
  refine BoolOp_or (thn (ha pins s σ H _ I h) fun v s1 ⟨x, H1, I1, r1, q1⟩ => ?_)
  obtain ⟨c, rfl, q1⟩ := q1
  cases r1
  refine wpAny_truthy_bool ?_
  cases c with
  | false => exact hb pins s1 σ H1 Q I1 q1
  | true => exact ⟨.bl true, H1, I1, rfl, q1⟩
def tIf (t : TT) (ta tb : TE) : TE := fun σ H Q => t σ H fun c H1 => if c = true then ta σ H1 Q else tb σ H1 Q
theorem pe_ifExp {c : Expr} (hc : PT X c tA) (ha : PE X a ta) (hb : PE X b tb) : PE X (.IfExp c a b pos) (tIf tA ta tb) := by
  intro pins s σ H Q I h
  refine wpAny_IfExp (thn (hc pins s σ H _ I h) fun d s1 ⟨H1, I1, q1⟩ => ?_)
  cases d with
  | true => exact ha pins s1 σ H1 Q I1 q1
  | false => exact hb pins s1 σ H1 Q I1 q1
end
end L2
namespace L2
open PySem PySem.Spec PyProof.Rows
def qZ (K : PySem.W.Frag) (H : Hp) (a : Addr) (xs : List V) : Prop :=
  Rd H a (.lst xs) ∨
    ∃ (o : Obj) (its : Array Value) (n : Nat), K.lookup a = some o /\ o.cls = .type "list" /\ o.dict = none /\ o.data = .seq its n /\ its.size <= sizeLine /\ Vals xs its.toList
def SqT (K : PySem.W.Frag) (H : Hp) (a : Addr) (xs : List V) : Prop :=
  Rd H a (.tup xs) ∨
    ∃ (o : Obj) (its : Array Value) (n : Nat), K.lookup a = some o /\ o.cls = .type "tuple" /\ o.data = .seq its n /\ its.size <= sizeLine /\ Vals xs its.toList
def absV : Value -> Option V
  | .none => some .non
  | .bool b => some (.bl b)
  | .int i _ => some (.int i)
  | .str x _ => some (.str x)
  | .bytes b _ => some (.byt b)
  | .float b _ => some (.flt b)
  | .ref a => some (.ref a)
  | .type n => some (.ty n)
  | _ => none
theorem qN.abs {x : V} {u : Value} (r : qN x u) : absV u = some x := by
  cases x with
  | non => cases r; rfl
  | bl _ => cases r; rfl
  | int _ => obtain ⟨t, rfl⟩ := r; rfl
  | str _ => obtain ⟨t, rfl⟩ := r; rfl
  | byt _ => obtain ⟨t, rfl⟩ := r; rfl
  | flt _ => obtain ⟨t, rfl⟩ := r; rfl
  | ref _ => cases r; rfl
  | ty _ => cases r; rfl
theorem qN.inj {x y : V} {u : Value} (r : qN x u) (q : qN y u) : x = y := Option.some.inj (r.abs.symm.trans q.abs)
theorem Vals.inj : ∀ {xs ys : List V} {us : List Value}, Vals xs us -> Vals ys us -> xs = ys
  | _, _, _, .nil, .nil => rfl
  | _, _, _, .cons r t, .cons r' t' => by rw [r.inj r', Vals.inj t t']
section
variable {X : Cx} {pins : List (Addr × Obj)} {σ : St} {H : Hp} {s : Shared} {a : Addr} {xs ys : List V}
theorem qZ.of {K : PySem.W.Frag} (h : H a = some (.lst xs)) : qZ K H a xs := .inl (.inl h)
theorem SqT.of {K : PySem.W.Frag} (h : H a = some (.tup xs)) : SqT K H a xs := .inl (.inl h)
theorem Inv.list (I : Inv X pins σ H s) (h : qZ X.K H a xs) : ∃ its : List Value, Vals xs its /\ PlainL s.heap a its.toArray /\ xs.length <= sizeLine := by
  rcases h with h | ⟨o, its, n, hk, hc, hd, hs, hz, r⟩
  · obtain ⟨z, its, n, r, e⟩ := h.ok I.hok
    exact ⟨its, r, ⟨_, n, e, rfl, rfl, rfl⟩, z⟩
  · refine ⟨its.toList, r, ⟨o, n, I.kIn a o hk, hc, hd, by simpa using hs⟩, ?_⟩
    have e := r.length
    simp only [Array.length_toList] at e
    omega
theorem Inv.tuple (I : Inv X pins σ H s) (h : SqT X.K H a xs) : ∃ its : List Value, Vals xs its /\ IsTup s.heap a its.toArray /\ xs.length <= sizeLine := by
  rcases h with h | ⟨o, its, n, hk, hc, hs, hz, r⟩
  · obtain ⟨z, its, r, p⟩ := h.ok I.hok
    exact ⟨its, r, p, z⟩
  · refine ⟨its.toList, r, ⟨o, I.kIn a o hk, hc, n, by simpa using hs⟩, ?_⟩
    have e := r.length
    simp only [Array.length_toList] at e
    omega
theorem Inv.list_inj (I : Inv X pins σ H s) (h : qZ X.K H a xs) (h' : qZ X.K H a ys) : xs = ys := by
  obtain ⟨its, r, ⟨o, n, e, _, _, d⟩, _⟩ := I.list h
  obtain ⟨its', r', ⟨o', n', e', _, _, d'⟩, _⟩ := I.list h'
  rw [e] at e'; cases e'
  rw [d] at d'
  injection d' with d1 _
  have : its = its' := by simpa using congrArg Array.toList d1
  subst this
  exact r.inj r'
end
section
variable {X : Cx} {pins : List (Addr × Obj)} {σ : St} {H : Hp} {s : Shared} {E : Value -> Shared -> Prop}
end
section
variable {X : Cx} {st : Stmt} {rest : List Stmt} {t u : TS} {e : Expr} {te : TE} {pos : Pos}
def tNext : TS := fun D σ H => D.nx σ H
def tSeq (t u : TS) : TS := fun D σ H => t { D with nx := u D } σ H
theorem zY : PSs X [] tNext := fun _ _ σ H _ I h => wpAny_execs_nil ⟨σ, H, I, h⟩
theorem zB (h1 : PS X st t) (h2 : PSs X rest u) : PSs X (st :: rest) (tSeq t u) := by
  intro pins s σ H D I h
  refine wpAny_execs_cons (thn (h1 pins s σ H { D with nx := u D } I h) fun f s1 q => ?_)
  cases f with
  | next =>
    obtain ⟨σ', H', I', q⟩ := q
    exact h2 pins s1 σ' H' D I' q
  | ret v => exact q
  | brk => exact q
  | cont => exact q
theorem zC (h1 : PS X st t) : PSs X [st] t := by
  intro pins s σ H D I h
  refine wpAny_execs_cons (thn (h1 pins s σ H D I h) fun f s1 q => ?_)
  cases f with
  | next => exact wpAny_execs_nil q
  | ret v => exact q
  | brk => exact q
  | cont => exact q
theorem Inv.quiet {pins : List (Addr × Obj)} {σ : St} {H : Hp} {s : Shared} (I : Inv X pins σ H s) : interactive X.env = false := by simp [interactive, I.ok.kind]
def tDrop (te : TE) : TS := fun D σ H => te σ H fun _ H1 => D.nx σ H1
theorem zL (he : PE X e te) (hs : swapsWith e none pos.line X.env = pure false := by rfl) : PS X (.Expr e pos) (tDrop te) := by
  intro pins s σ H D I h
  exact wpAny_Expr_any (thn (he pins s σ H _ I h) fun v s1 ⟨x, H1, I1, r1, q1⟩ => ⟨σ, H1, I1, q1⟩) I.quiet hs
def tRet (te : TE) : TS := fun D σ H => te σ H D.rt
theorem zW (he : PE X e te) : PS X (.Return (some e) pos) (tRet te) := by
  intro pins s σ H D I h
  exact wpAny_Return_some (thn (he pins s σ H _ I h) fun v s1 ⟨x, H1, I1, r1, q1⟩ => ⟨x, σ, H1, I1, r1, q1⟩)
def tIfS (c : TT) (t u : TS) : TS := fun D σ H => c σ H fun b H1 => if b = true then t D σ H1 else u D σ H1
theorem zZ {c : Expr} {a b : List Stmt} {tc : TT} (hc : PT X c tc) (ha : PSs X a t) (hb : PSs X b u) : PS X (.If c a b pos) (tIfS tc t u) := by
  intro pins s σ H D I h
  refine wpAny_If (thn (hc pins s σ H _ I h) fun d s1 ⟨H1, I1, q1⟩ => ?_)
  cases d with
  | true => exact ha pins s1 σ H1 D I1 q1
  | false => exact hb pins s1 σ H1 D I1 q1
def tNever : TS := fun _ _ _ => False
end
abbrev TG := V -> St -> Hp -> (St -> Hp -> Prop) -> Prop
abbrev TGs := List V -> St -> Hp -> (St -> Hp -> Prop) -> Prop
def PG (X : Cx) (target : Expr) (t : TG) : Prop :=
  ∀ (pins : List (Addr × Obj)) (s : Shared) (σ : St) (H : Hp) (v : V) (u : Value) (Q : St -> Hp -> Prop), Inv X pins σ H s -> qN v u -> t v σ H Q ->
    wpAny (model X.prog X.w) X.A (assign target X.env u) (fun _ s' => ∃ σ' H', Inv X pins σ' H' s' /\ Q σ' H') X.xe s
def PGs (X : Cx) (ts : List Expr) (t : TGs) : Prop :=
  ∀ (pins : List (Addr × Obj)) (s : Shared) (σ : St) (H : Hp) (vs : List V) (us : List Value) (Q : St -> Hp -> Prop), Inv X pins σ H s -> Vals vs us -> t vs σ H Q ->
    wpAny (model X.prog X.w) X.A (assignInOrder ((assignEach ts X.env).map (·.2)) us) (fun _ s' => ∃ σ' H', Inv X pins σ' H' s' /\ Q σ' H') X.xe s
abbrev TSet := V -> V -> V -> Hp -> (Hp -> Prop) -> Prop
def PSet (X : Cx) (t : TSet) : Prop :=
  ∀ (pins : List (Addr × Obj)) (s : Shared) (σ : St) (H : Hp) (o i v : V) (ov iv u : Value) (Q : Hp -> Prop), Inv X pins σ H s -> qN o ov -> qN i iv -> qN v u -> t o i v H Q ->
    wpAny (model X.prog X.w) X.A (setItem ov iv u) (fun _ s' => ∃ H', Inv X pins σ H' s' /\ Q H') X.xe s
abbrev TIp := V -> V -> Hp -> VK -> Prop
def PIp (X : Cx) (op : Operator) (t : TIp) : Prop :=
  ∀ (pins : List (Addr × Obj)) (s : Shared) (σ : St) (H : Hp) (x y : V) (v u : Value) (Q : VK), Inv X pins σ H s -> qN x v -> qN y u -> t x y H Q ->
    wpAny (model X.prog X.w) X.A (inplaceOp op v u) (EP X pins σ Q) X.xe s
section
variable {X : Cx} {pos : Pos}
def gName (i : Nat) : TG := fun v σ H Q => Q (σ.set i (some v)) H
theorem pg_name {i : Nat} {x : Str} (hN : X.N.Nodup) (hi : X.N[i]? = some x) (hx : Loc X.env.scope x) (hf : X.fn x = true ∨ X.env.scope.names.lookup x = some .local := by first | exact .inl rfl | exact .inr rfl | assumption) : PG X (.Name x pos) (gName i) := by
  intro pins s σ H v u Q I r h
  exact wpAny_assign_Name (store_ok I hN hi hx r (fun s' I' => ⟨_, H, I', h⟩) hf)
def gNil : TGs := fun vs σ H Q => vs = [] /\ Q σ H
def gCons (t : TG) (u : TGs) : TGs := fun vs σ H Q => ∃ v r, vs = v :: r /\ t v σ H fun σ' H' => u r σ' H' Q
theorem pgs_nil : PGs X [] gNil := by
  intro pins s σ H vs us Q I r h
  obtain ⟨e, h⟩ := h
  subst e
  cases r
  exact assignInOrder_nil ⟨σ, H, I, h⟩
theorem pgs_cons {e : Expr} {es : List Expr} {t : TG} {u : TGs} (h1 : PG X e t) (h2 : PGs X es u)
    (hs : (assignEach (e :: es) X.env).map (·.2) = assign e X.env :: (assignEach es X.env).map (·.2) := by rfl) : PGs X (e :: es) (gCons t u) := by
  intro pins s σ H vs us Q I r h
  obtain ⟨v, vr, e1, h⟩ := h
  subst e1
  cases r with
  | cons r rr =>
    rw [hs]
    refine assignInOrder_cons (thn (h1 pins s σ H _ _ _ I r h) fun _ s1 ⟨σ1, H1, I1, q1⟩ => ?_)
    exact h2 pins s1 σ1 H1 _ _ Q I1 rr q1
def gTup (K : PySem.W.Frag) (n : Nat) (t : TGs) : TG := fun v σ H Q => ∃ a xs, v = .ref a /\ SqT K H a xs /\ xs.length = n /\ t xs σ H Q
theorem pg_tup {es : List Expr} {k : Nat} {t : TGs} {n : Nat} (hc : X.calm = true) (h : PGs X es t)
    (hn : (assignEach es X.env).length = n := by rfl) (hst : (assignEach es X.env).findIdx? (·.1) = none := by rfl) : PG X (.Tuple es k pos) (gTup X.K n t) := by
  intro pins s σ H v u Q I r hw
  obtain ⟨a, xs, e1, hq, hl, hw⟩ := hw
  subst e1
  cases r
  obtain ⟨its, rv, ht, hz⟩ := I.tuple hq
  refine assign_Tuple_tuple (I.ok.hd hc) ht (by simp [hn, <- hl, rv.length]) hst fun h' hx => ?_
  have I1 : Inv X pins σ H { s with heap := h' } := I.kept (t' := s.toks) fun b o e => hx b o (Nat.ne_of_lt (Heap.lt_size e)) e
  exact h pins _ σ H xs _ Q I1 (by simpa using rv) hw
def gSub (to ti : TE) (t : TSet) : TG := fun v σ H Q => to σ H fun o H1 => ti σ H1 fun i H2 => t o i v H2 fun H3 => Q σ H3
theorem pg_sub {o i : Expr} {to ti : TE} {t : TSet} (ho : PE X o to) (hi : PE X i ti) (hs : PSet X t)
    (ha : ∀ v, assign (.Subscript o i pos) X.env v = (do
      let ov <- holding [v] (eval o X.env)
      let iv <- holding [v, ov] (eval i X.env)
      standAt pos
      holding [v, ov, iv] (setItem ov iv v)
      release [v, ov, iv] []) := by intro _; rfl) : PG X (.Subscript o i pos) (gSub to ti t) := by
  intro pins s σ H v u Q I r h
  rw [ha]
  refine wpAny_bind (wpAny_holding (thn (ho pins s σ H _ I h) fun ov s1 ⟨x, H1, I1, r1, q1⟩ => ?_))
  refine wpAny_bind (wpAny_holding (thn (hi pins s1 σ H1 _ I1 q1) fun iv s2 ⟨y, H2, I2, r2, q2⟩ => ?_))
  refine wpAny_bind (wpAny_standAt (wpAny_bind (wpAny_holding (thn (hs pins s2 σ H2 x y v ov iv u _ I2 r1 r2 r q2) fun _ s3 ⟨H3, I3, q3⟩ => ?_))))
  exact wpAny_release ⟨σ, H3, I3, q3⟩
def tAsg (te : TE) (g : TG) : TS := fun D σ H => te σ H fun x H1 => g x σ H1 D.nx
theorem ps_asg {tg e : Expr} {te : TE} {g : TG} (he : PE X e te) (hg : PG X tg g) (hs : swapsWithSole [tg] e pos.line X.env = pure false := by rfl) (hw : swappedStores [tg] e X.env = pure none := by rfl)
    (h1 : (assignEach [tg] X.env).map (·.2) = [assign tg X.env] := by rfl) : PS X (.Assign [tg] e pos) (tAsg te g) := by
  intro pins s σ H D I h
  refine wpAny_Assign_stores (thn (he pins s σ H _ I h) fun v s1 ⟨x, H1, I1, r1, q1⟩ => ?_) hs hw
  rw [h1]
  exact thn (hg pins s1 σ H1 x v _ I1 r1 q1) fun _ s2 q => q
theorem qB {i : Nat} {x : Str} {e : Expr} {te : TE} {pos' : Pos} (hN : X.N.Nodup) (hi : X.N[i]? = some x) (hx : Loc X.env.scope x) (he : PE X e te) (hs : swapsWith e (some (.Name x pos')) pos.line X.env = pure false := by rfl) (hf : X.fn x = true ∨ X.env.scope.names.lookup x = some .local := by first | exact .inl rfl | exact .inr rfl | assumption) :
    PS X (.Assign [.Name x pos'] e pos) (tAsg te (gName i)) := by
  intro pins s σ H D I h
  refine wpAny_Assign_Name (thn (he pins s σ H _ I h) fun v s1 ⟨y, H1, I1, r1, q1⟩ => ?_) hs
  exact store_ok I1 hN hi hx r1 (fun s2 I2 => ⟨_, H1, I2, q1⟩) hf
def tAug (i : Nat) (te : TE) (ti : TIp) : TS := fun D σ H => ∃ x, σ[i]? = some (some x) /\ te σ H fun y H1 => ti x y H1 fun z H2 => D.nx (σ.set i (some z)) H2
theorem ps_aug {i : Nat} {x : Str} {e : Expr} {te : TE} {op : Operator} {ti : TIp} {pos' : Pos} (hN : X.N.Nodup) (hi : X.N[i]? = some x) (hx : Loc X.env.scope x) (he : PE X e te) (ho : PIp X op ti) (hf : X.fn x = true ∨ X.env.scope.names.lookup x = some .local := by first | exact .inl rfl | exact .inr rfl | assumption) :
    PS X (.AugAssign (.Name x pos') op e pos) (tAug i te ti) := by
  intro pins s σ H D I h
  obtain ⟨v, e1, h⟩ := h
  obtain ⟨m, hn, hl⟩ := I.loc
  have vis : Vis X.env.scope x := by rcases hx with k | k; exact .inl k; exact .inr (.inl k)
  obtain ⟨u, r, l⟩ := hl i x v hi e1 vis
  refine wpAny_AugAssign_Name ?_
  have go : wpAny (model X.prog X.w) X.A (eval e X.env) (fun w s₂ => wpAny (model X.prog X.w) X.A (inplaceOp op u w) (fun r s₃ => wpAny (model X.prog X.w) X.A (storeName X.env x r) (fun _ => SP X pins D .next) X.xe s₃) X.xe s₂) X.xe s := by
    refine thn (he pins s σ H _ I h) fun w s1 ⟨y, H1, I1, r1, q1⟩ => ?_
    refine thn (ho pins s1 σ H1 v y u w _ I1 r r1 q1) fun z s2 ⟨zv, H2, I2, r2, q2⟩ => ?_
    exact store_ok I2 hN hi hx r2 (fun s3 I3 => ⟨_, H2, I3, q2⟩) hf
  rcases l with ⟨hk, hm⟩ | ⟨hk, c, hc, hcell⟩
  · exact wpAny_loadName_local I.ok.kind hk hn hm go
  · rcases hk with hk | hk
    · exact wpAny_loadName_cell I.ok.kind hk hc hcell go
    · rcases hx with k | k
      · have : X.env.scope.names.lookup x = some .free := hk
        rw [k] at this; cases this
      · have : X.env.scope.names.lookup x = some .free := hk
        rw [k] at this; cases this
def ipI (f : Int -> Int -> Int) : TIp := fun x y H Q => ∃ i j, x = .int i /\ y = .int j /\ Q (.int (f i j)) H
theorem ip_add : PIp X .Add (ipI fun i j => i + j) := by
  intro pins s σ H x y v u Q I r1 r2 h
  obtain ⟨i, j, e1, e2, q⟩ := h
  subst e1; subst e2
  obtain ⟨t, rfl⟩ := r1
  obtain ⟨t', rfl⟩ := r2
  exact iadd_int ⟨.int _, H, I.tok _, ⟨_, rfl⟩, q⟩
end
section
variable {X : Cx} {pos : Pos}
def tWhile (c : TT) (tb : TS) : TS := fun D σ H => ∃ W : Nat -> St -> Hp -> Prop, (∃ m, W m σ H) /\ ∀ m σ H, W m σ H ->
  c σ H fun b H1 => if b = true then ∃ N : St -> Hp -> Prop, (∀ σ' H', N σ' H' -> ∃ m', m' < m /\ W m' σ' H') /\ tb { D with nx := N, ct := N, bk := D.nx } σ H1 else D.nx σ H1
theorem ps_while {c : Expr} {body : List Stmt} {tc : TT} {tb : TS} (hp : PassesOwn (model X.prog X.w) X.A X.env X.xe) (hc : PT X c tc) (hb : PSs X body tb) : PS X (.While c body [] pos) (tWhile tc tb) := by
  intro pins s σ H D I h
  obtain ⟨W, ⟨m0, w0⟩, turn⟩ := h
  refine wpAny_While (codeAny_whileLoop (fun n s' => ∃ σ' H', Inv X pins σ' H' s' /\ W n σ' H') ?_ m0 ⟨σ, H, I, w0⟩)
  rintro n s1 ⟨σ1, H1, I1, w1⟩
  refine wpAny_passesOwn hp (thn (hc pins s1 σ1 H1 _ I1 (turn n σ1 H1 w1)) fun b s2 ⟨H2, I2, q2⟩ => ?_)
  cases b with
  | true =>
    obtain ⟨N, hN, q2⟩ := q2
    rw [if_pos rfl]
    refine wpAny_passesOwn hp (thn (hb pins s2 σ1 H2 _ I2 q2) fun f s3 q3 => ?_)
    cases f with
    | next =>
      obtain ⟨σ3, H3, I3, n3⟩ := q3
      obtain ⟨m', hm, w3⟩ := hN σ3 H3 n3
      exact ⟨m', hm, σ3, H3, I3, w3⟩
    | cont =>
      obtain ⟨σ3, H3, I3, n3⟩ := q3
      obtain ⟨m', hm, w3⟩ := hN σ3 H3 n3
      exact ⟨m', hm, σ3, H3, I3, w3⟩
    | brk => exact q3
    | ret v => exact q3
  | false =>
    rw [if_neg Bool.false_ne_true]
    exact wpAny_execs_nil ⟨σ1, H2, I2, q2⟩
end
structure It where
  go : Nat -> Hp -> Prop
  yld : Nat -> Hp -> V -> Hp -> Prop
  stop : Nat -> Hp -> Prop
def FpOk (X : Cx) (pins : List (Addr × Obj)) (H : Hp) (b : Addr) : Prop :=
  H b = none /\ b ≠ X.env.locals /\ b ∉ X.fs /\ (b ∈ X.ex ∨ X.s_0.heap.objs.size <= b) /\ (∀ x c, X.env.cells.lookup x = some c -> c ≠ b) /\ ∀ p ∈ X.pn ++ pins, p.1 ≠ b
theorem Inv.fpOk {X : Cx} {pins : List (Addr × Obj)} {σ : St} {H H' : Hp} {s : Shared} {b : Addr} (I : Inv X pins σ H s) (hb : s.heap.objs.size <= b) (hn : H' b = none) : FpOk X pins H' b := by
  refine ⟨hn, Nat.ne_of_gt (Nat.lt_of_lt_of_le I.lt hb), I.nofs hb, .inr (Nat.le_trans I.sz hb), fun x c e z => ?_, fun p hp z => ?_⟩
  · obtain ⟨v, q⟩ := I.cell x c e
    exact absurd (Nat.lt_of_lt_of_le q.lt (by rw [z]; exact hb)) (Nat.lt_irrefl _)
  · exact absurd (Nat.lt_of_lt_of_le (Heap.lt_size (I.pin p hp).1) (by rw [z]; exact hb)) (Nat.lt_irrefl _)
structure Turn (P : Program) (w : World) (K : PySem.W.Frag) (tg : Expr) (J : It) (fp : List Addr) (it : Addr) (tn : Nat -> Heap -> Prop) : Prop where
  mem : it ∈ fp
  obj : ∀ i h, tn i h -> ∀ b ∈ fp, ∃ o, h.get? b = some o /\ ∀ v, o.data ≠ .cell v
  keep : ∀ i h h', tn i h -> (∀ b ∈ fp, ∀ o, h.get? b = some o -> h'.get? b = some o) -> tn i h'
  item : ∀ (X : Cx), X.prog = P -> X.w = w -> X.K = K -> X.calm = true -> ∀ (i : Nat) (pins : List (Addr × Obj)) (s : Shared) (σ : St) (H : Hp) (E : Value -> Shared -> Prop), Inv X pins σ H s -> (∀ b ∈ fp, FpOk X pins H b) -> tn i s.heap -> J.go i H ->
    wpAny (model P w) X.A (pyNext (.ref it)) (fun r s1 => ∃ u, r = some u /\
      wpAny (model P w) X.A (letOwnedTupleGo tg (.ref it) u) (fun _ s2 => ∃ x H', Inv X pins σ H' s2 /\ qN x u /\ J.yld i H x H' /\ tn (i + 1) s2.heap /\ ∀ b ∈ fp, H' b = none) E s1) E s
  done : ∀ (X : Cx), X.prog = P -> X.w = w -> X.K = K -> X.calm = true -> ∀ (i : Nat) (pins : List (Addr × Obj)) (s : Shared) (σ : St) (H : Hp) (E : Value -> Shared -> Prop), Inv X pins σ H s -> (∀ b ∈ fp, FpOk X pins H b) -> tn i s.heap -> J.stop i H ->
    wpAny (model P w) X.A (pyNext (.ref it)) (fun r s1 => r = none /\ Inv X pins σ H s1) E s
  self : ∀ (A : Around) (i : Nat) (s : Shared) (Q : Value -> Shared -> Prop) (E : Value -> Shared -> Prop), tn i s.heap -> Q (.ref it) s -> wpAny (model P w) A (pyIter (.ref it)) Q E s
abbrev TI := St -> Hp -> (It -> Hp -> Prop) -> Prop
def PIE (X : Cx) (pins : List (Addr × Obj)) (σ : St) (tg : Expr) (R : It -> Hp -> Prop) (itv : Value) (s2 : Shared) : Prop :=
  ∃ (it : Addr) (fp : List Addr) (tn : Nat -> Heap -> Prop) (J : It) (H' : Hp), itv = .ref it /\ Inv X pins σ H' s2 /\ Turn X.prog X.w X.K tg J fp it tn /\ tn 0 s2.heap /\ (∀ b ∈ fp, FpOk X pins H' b) /\ R J H'
def PI (X : Cx) (tg iter : Expr) (wi : TI) : Prop :=
  ∀ (pins : List (Addr × Obj)) (s : Shared) (σ : St) (H : Hp) (R : It -> Hp -> Prop), Inv X pins σ H s -> wi σ H R ->
    wpAny (model X.prog X.w) X.A (eval iter X.env) (fun v s1 => wpAny (model X.prog X.w) X.A (pyIter v) (PIE X pins σ tg R) X.xe s1) X.xe s
theorem go_of {M : Model} {A : Around} {E : Value -> Shared -> Prop} {s : Shared} {tg : Expr} {it : Addr} {u : Value} {o : Obj} {n : String} {vs : Array Value} {Q : Unit -> Shared -> Prop} (ho : s.heap.get? it = some o) (hc : o.cls = .type n) (hd : o.data = .fields vs)
    (hn : ["enumerate", "zip", "dict_itemiterator", "dict_reverseitemiterator", "odict_iterator", "itertools.zip_longest", "itertools.pairwise"].contains n = false) (hQ : Q () s) : wpAny M A (letOwnedTupleGo tg (.ref it) u) Q E s := by
  unfold letOwnedTupleGo
  cases tg <;> first
    | exact wpAny_pure hQ
    | (cases u <;> first
        | exact wpAny_pure hQ
        | (refine wpAny_bind (wpAny_load ho ?_)
           rw [hc, hd]
           show wpAny M A (if (["enumerate", "zip", "dict_itemiterator", "dict_reverseitemiterator", "odict_iterator", "itertools.zip_longest", "itertools.pairwise"].contains n && vs[0]? == some (rawInt _)) = true then _ else _) Q E s
           rw [if_neg (by intro h; rw [hn, Bool.false_and] at h; cases h)]
           exact wpAny_pure hQ))
def Itl (K : PySem.W.Frag) (a : Addr) : It :=
  ⟨fun i H => ∃ xs x, qZ K H a xs /\ xs[i]? = some x, fun i H x H' => H' = H /\ ∀ xs, qZ K H a xs -> xs[i]? = some x, fun i H => ∃ xs, qZ K H a xs /\ xs.length <= i⟩
theorem turn_list {P : Program} {w : World} {K : PySem.W.Frag} {tg : Expr} (a it : Addr) : Turn P w K tg (Itl K a) [it] it (fun i h => h.IsListIter it a i) where
  mem := by simp
  obj := fun i h st b hb => by
    have e : b = it := by simpa using hb
    subst e
    obtain ⟨o, e, c, d⟩ := st
    exact ⟨o, e, fun v z => by rw [d] at z; cases z⟩
  keep := fun i h h' st k => st.at fun o e => k it (by simp) o e
  item := by
    intro X hP hw hK hc i pins s σ H E I hf st hg
    subst hP hw hK
    obtain ⟨xs, x, hq, hx⟩ := hg
    obtain ⟨its, rv, p, hz⟩ := I.list hq
    obtain ⟨u, hu, ru⟩ := rv.get hx
    obtain ⟨f0, f1, f2, f3, f4, f5⟩ := hf it (by simp)
    refine wpAny_pyNext_list_item st p.isList (x := u) (by simpa using hu) fun h' st' sb => ?_
    have I1 : Inv X pins σ H { s with heap := h' } := I.turned (t' := s.toks) (fun b o hb e => (sb.2 b hb).trans e) f0 f1 f3 f4 f5
    obtain ⟨o, e, c, d⟩ := id st'
    exact ⟨u, rfl, go_of (s := { s with heap := h' }) e c d (by decide) ⟨x, H, I1, ru, ⟨rfl, fun ys hy => by rw [I.list_inj hy hq]; exact hx⟩, st', fun b hb => (hf b hb).1⟩⟩
  done := by
    intro X hP hw hK hc i pins s σ H E I hf st hg
    subst hP hw hK
    obtain ⟨xs, hq, hx⟩ := hg
    obtain ⟨its, rv, p, hz⟩ := I.list hq
    obtain ⟨f0, f1, f2, f3, f4, f5⟩ := hf it (by simp)
    have hl := rv.length
    exact wpAny_pyNext_list_end (I.ok.hd hc) st p.isList (by simp; omega) fun h' eb => ⟨rfl, I.turned (t' := s.toks) (fun b o hb e => eb b o hb e) f0 f1 f3 f4 f5⟩
  self := fun _ _ _ _ _ st h => wpAny_pyIter_listiter st h
end L2
namespace L2
open PySem PySem.Spec PyProof.Rows
section
variable {X : Cx} {tg : Expr}
def iList (K : PySem.W.Frag) (tl : TE) : TI := fun σ H R => tl σ H fun x H1 => ∃ a, x = .ref a /\ (∃ xs, qZ K H1 a xs) /\ R (Itl K a) H1
theorem pi_list {l : Expr} {tl : TE} (hl : PE X l tl) : PI X tg l (iList X.K tl) := by
  intro pins s σ H R I h
  refine thn (hl pins s σ H _ I h) fun v s1 ⟨x, H1, I1, r1, q1⟩ => ?_
  obtain ⟨a, e, ⟨xs, hq⟩, q⟩ := q1
  subst e
  cases r1
  obtain ⟨its, rv, p, hz⟩ := I1.list hq
  refine wpAny_pyIter_list p.isList ?_
  refine ⟨s1.heap.objs.size, [s1.heap.objs.size], _, _, H1, rfl, I1.kept (t' := s1.toks) fun b o e => Heap.get?_push_of_some _ e, turn_list a _, ⟨_, Heap.get?_push_size _ rfl, rfl, rfl⟩, fun b hb => ?_, q⟩
  have e : b = s1.heap.objs.size := by simpa using hb
  subst e
  exact I1.fpOk (Nat.le_refl _) (I1.hok.fresh (Nat.le_refl _))
def tFor (wi : TI) (g : TG) (tb : TS) : TS := fun D σ H => wi σ H fun J H1 => ∃ W : Nat -> Nat -> St -> Hp -> Prop, (∃ m, W 0 m σ H1) /\ ∀ i m σ H, W i m σ H ->
  (J.stop i H /\ D.nx σ H) ∨ (J.go i H /\ ∃ N : St -> Hp -> Prop, (∀ σ' H', N σ' H' -> ∃ m', m' < m /\ W (i + 1) m' σ' H') /\ ∀ x H', J.yld i H x H' -> g x σ H' fun σ2 H2 => tb { D with nx := N, ct := N, bk := D.nx } σ2 H2)
def pinsAt (fp : List Addr) (h : Heap) : List (Addr × Obj) := fp.filterMap fun b => (h.get? b).map fun o => (b, o)
theorem mem_pinsAt {fp : List Addr} {h : Heap} {b : Addr} {o : Obj} (hb : b ∈ fp) (e : h.get? b = some o) : (b, o) ∈ pinsAt fp h := List.mem_filterMap.mpr ⟨b, hb, by rw [e]; rfl⟩
theorem of_pinsAt {fp : List Addr} {h : Heap} {p : Addr × Obj} (hp : p ∈ pinsAt fp h) : p.1 ∈ fp /\ h.get? p.1 = some p.2 := by
  obtain ⟨b, hb, e⟩ := List.mem_filterMap.mp hp
  cases q : h.get? b with
  | none => rw [q] at e; cases e
  | some o =>
    rw [q] at e
    have e' : (b, o) = p := Option.some.inj e
    subst e'
    exact ⟨hb, q⟩
theorem Inv.pinned {pins : List (Addr × Obj)} {σ : St} {H : Hp} {s : Shared} {fp : List Addr} (I : Inv X pins σ H s) (hf : ∀ b ∈ fp, FpOk X pins H b) (ho : ∀ b ∈ fp, ∃ o, s.heap.get? b = some o /\ ∀ v, o.data ≠ .cell v) : Inv X (pins ++ pinsAt fp s.heap) σ H s :=
  I.pins_of fun p hp => (List.mem_append.mp hp).elim (fun z => I.pin p (List.mem_append_right _ z)) fun z => by
    obtain ⟨hb, e⟩ := of_pinsAt z
    obtain ⟨f0, f1, f2, _⟩ := hf p.1 hb
    obtain ⟨o, e', d⟩ := ho p.1 hb
    rw [e] at e'; cases e'
    exact ⟨e, f0, f1, f2, d⟩
theorem Inv.unpinned {pins pl : List (Addr × Obj)} {σ : St} {H : Hp} {s : Shared} (I : Inv X (pins ++ pl) σ H s) : Inv X pins σ H s := I.pins_of fun p hp => I.pin p (List.mem_append_right _ (List.mem_append_left _ hp))
theorem ps_for {iter : Expr} {body : List Stmt} {wi : TI} {g : TG} {tb : TS} {pos : Pos} (hp : PassesOwn (model X.prog X.w) X.A X.env X.xe) (hc : X.calm = true) (hi : PI X tg iter wi) (hg : PG X tg g) (hb : PSs X body tb)
    (hs : ∀ x, foldedSetIterable iter X.env x = pure x := by intro _; rfl) : PS X (.For tg iter body [] pos) (tFor wi g tb) := by
  intro pins s σ H D I h
  refine wpAny_For (thn (hi pins s σ H _ I h) fun v s1 h1 => thn h1 fun itv s2 h2 => ?_) hs
  obtain ⟨it, fp, tn, J, H2, e, I2, T, st2, f2, W, ⟨m0, w0⟩, turn⟩ := h2
  subst e
  have stat : ∀ {H' : Hp}, (∀ b ∈ fp, H' b = none) -> ∀ b ∈ fp, FpOk X pins H' b := fun hn b hb => ⟨hn b hb, (f2 b hb).2⟩
  refine codeAny_forLoop_any (fun n s' => ∃ i σ' H', Inv X pins σ' H' s' /\ tn i s'.heap /\ (∀ b ∈ fp, H' b = none) /\ W i n σ' H') ?_ m0 ⟨0, σ, H2, I2, st2, fun b hb => (f2 b hb).1, w0⟩
  rintro n s3 ⟨i, σ3, H3, I3, st3, fr3, w3⟩
  rcases turn i n σ3 H3 w3 with ⟨stop, qn⟩ | ⟨go, N, hN, step⟩
  · refine wpAny_passesOwn hp (thn (T.done X rfl rfl rfl hc i pins s3 σ3 H3 X.xe I3 (stat fr3) st3 stop) fun r s4 ⟨hr, I4⟩ => ?_)
    subst hr
    exact wpAny_execs_nil ⟨σ3, H3, I4, qn⟩
  · refine wpAny_passesOwn hp (thn (T.item X rfl rfl rfl hc i pins s3 σ3 H3 X.xe I3 (stat fr3) st3 go) fun r s4 ⟨u, hr, h4⟩ => ?_)
    subst hr
    refine wpAny_passesOwn hp (thn h4 fun _ s5 ⟨x, H5, I5, r5, y5, st5, fr5⟩ => ?_)
    have I5' := I5.pinned (stat fr5) (T.obj _ _ st5)
    refine wpAny_passesOwn hp (thn (hg _ s5 σ3 H5 x u _ I5' r5 (step x H5 y5)) fun _ s6 ⟨σ6, H6, I6, q6⟩ => ?_)
    refine wpAny_passesOwn hp (thn (hb _ s6 σ6 H6 _ I6 q6) fun f s7 q7 => ?_)
    have again : ∀ {σ7 : St} {H7 : Hp}, Inv X (pins ++ pinsAt fp s5.heap) σ7 H7 s7 -> N σ7 H7 -> ∃ m, m < n /\ ∃ i σ' H', Inv X pins σ' H' s7 /\ tn i s7.heap /\ (∀ b ∈ fp, H' b = none) /\ W i m σ' H' := fun {σ7 H7} I7 n7 => by
      obtain ⟨m', hm, w7⟩ := hN σ7 H7 n7
      refine ⟨m', hm, i + 1, σ7, H7, I7.unpinned, T.keep _ _ _ st5 fun b hb o e => (I7.pin (b, o) (List.mem_append_right _ (List.mem_append_right _ (mem_pinsAt hb e)))).1, fun b hb => ?_, w7⟩
      obtain ⟨o, e, d⟩ := T.obj _ _ st5 b hb
      exact (I7.pin (b, o) (List.mem_append_right _ (List.mem_append_right _ (mem_pinsAt hb e)))).2.1
    cases f with
    | next => obtain ⟨σ7, H7, I7, n7⟩ := q7; exact again I7 n7
    | cont => obtain ⟨σ7, H7, I7, n7⟩ := q7; exact again I7 n7
    | brk => obtain ⟨σ7, H7, I7, q7⟩ := q7; exact ⟨σ7, H7, I7.unpinned, q7⟩
    | ret v => obtain ⟨x7, σ7, H7, I7, r7, q7⟩ := q7; exact ⟨x7, σ7, H7, I7.unpinned, r7, q7⟩
end
theorem for_list {K : PySem.W.Frag} {a : Addr} {xs : List V} {g : TG} {tb : TS} {D : Ends} {σ : St} {H : Hp} (Pv : Nat -> St -> Hp -> Prop) (h0 : Pv 0 σ H) (hl : ∀ i σ H, i <= xs.length -> Pv i σ H -> qZ K H a xs)
    (hs : ∀ i x σ H, xs[i]? = some x -> Pv i σ H -> g x σ H fun σ2 H2 => tb { D with nx := Pv (i + 1), ct := Pv (i + 1), bk := D.nx } σ2 H2) (hd : ∀ σ H, Pv xs.length σ H -> D.nx σ H) :
    ∃ W : Nat -> Nat -> St -> Hp -> Prop, (∃ m, W 0 m σ H) /\ ∀ i m σ H, W i m σ H ->
      ((Itl K a).stop i H /\ D.nx σ H) ∨ ((Itl K a).go i H /\ ∃ N : St -> Hp -> Prop, (∀ σ' H', N σ' H' -> ∃ m', m' < m /\ W (i + 1) m' σ' H') /\ ∀ x H', (Itl K a).yld i H x H' -> g x σ H' fun σ2 H2 => tb { D with nx := N, ct := N, bk := D.nx } σ2 H2) := by
  refine ⟨fun i m σ H => m = xs.length - i /\ i <= xs.length /\ Pv i σ H, ⟨xs.length, by simp, Nat.zero_le _, h0⟩, ?_⟩
  rintro i m σ H ⟨rfl, hi, p⟩
  have q := hl i σ H hi p
  by_cases hlt : i < xs.length
  · refine .inr ⟨⟨xs, xs[i], q, by simp [hlt]⟩, Pv (i + 1), fun σ' H' p' => ⟨xs.length - (i + 1), by omega, rfl, hlt, p'⟩, fun x H' y => ?_⟩
    obtain ⟨e, y⟩ := y
    subst e
    exact hs i x σ _ (y xs q) p
  · have e : i = xs.length := by omega
    subst e
    exact .inl ⟨⟨xs, q, Nat.le_refl _⟩, hd σ H p⟩
end L2
namespace L2
open PySem PySem.Spec PyProof.Rows
abbrev R2 := V -> V -> Hp -> VK -> Prop
def OpR (X : Cx) (f : Value -> Value -> Sem Value) (r : R2) : Prop :=
  ∀ (pins : List (Addr × Obj)) (s : Shared) (σ : St) (H : Hp) (x y : V) (v u : Value) (Q : VK), Inv X pins σ H s -> qN x v -> qN y u -> r x y H Q ->
    wpAny (model X.prog X.w) X.A (f v u) (EP X pins σ Q) X.xe s
def UnR (X : Cx) (f : Value -> Sem Value) (r : V -> Hp -> VK -> Prop) : Prop :=
  ∀ (pins : List (Addr × Obj)) (s : Shared) (σ : St) (H : Hp) (x : V) (v : Value) (Q : VK), Inv X pins σ H s -> qN x v -> r x H Q ->
    wpAny (model X.prog X.w) X.A (f v) (EP X pins σ Q) X.xe s
def CallR (X : Cx) (f : Value) (r : List V -> Hp -> VK -> Prop) : Prop :=
  ∀ (pins : List (Addr × Obj)) (s : Shared) (σ : St) (H : Hp) (xs : List V) (us : List Value) (Q : VK), Inv X pins σ H s -> Vals xs us -> r xs H Q ->
    wpAny (model X.prog X.w) X.A (call f us) (EP X pins σ Q) X.xe s
def tOp (r : R2) (ta tb : TE) : TE := fun σ H Q => ta σ H fun x H1 => tb σ H1 fun y H2 => r x y H2 Q
def tUn (r : V -> Hp -> VK -> Prop) (ta : TE) : TE := fun σ H Q => ta σ H fun x H1 => r x H1 Q
def rI (C : Int -> Int -> Prop) (g : Int -> Int -> V) : R2 := fun x y H Q => ∃ i j, x = .int i /\ y = .int j /\ C i j /\ Q (g i j) H
def rI0 (g : Int -> Int -> V) : R2 := fun x y H Q => ∃ i j, x = .int i /\ y = .int j /\ Q (g i j) H
def rU (g : Int -> V) : V -> Hp -> VK -> Prop := fun x H Q => ∃ i, x = .int i /\ Q (g i) H
section
variable {X : Cx} {a b c : Expr} {ta tb tc : TE} {pos : Pos}
theorem binT (ha : PE X a ta) (hb : PE X b tb) {pins : List (Addr × Obj)} {s : Shared} {σ : St} {H : Hp} {R : V -> V -> Hp -> Prop} (I : Inv X pins σ H s)
    (h : ta σ H fun x H1 => tb σ H1 fun y H2 => R x y H2) {Q : Value -> Shared -> Prop} {f : Value -> Value -> Sem Value}
    (hf : ∀ v u s2 x y H2, Inv X pins σ H2 s2 -> qN x v -> qN y u -> R x y H2 -> wpAny (model X.prog X.w) X.A (f v u) Q X.xe s2) :
    wpAny (model X.prog X.w) X.A (eval a X.env) (fun v s₁ => wpAny (model X.prog X.w) X.A (eval b X.env) (fun u s₂ => wpAny (model X.prog X.w) X.A (f v u) Q X.xe s₂) X.xe s₁) X.xe s := by
  refine thn (ha pins s σ H _ I h) fun v s1 ⟨x, H1, I1, r1, q1⟩ => ?_
  refine thn (hb pins s1 σ H1 _ I1 q1) fun u s2 ⟨y, H2, I2, r2, q2⟩ => ?_
  exact hf v u s2 x y H2 I2 r1 r2 q2
theorem pe_op {op : Operator} {r : R2} (ho : OpR X (binaryOp op) r) (ha : PE X a ta) (hb : PE X b tb) : PE X (.BinOp a op b pos) (tOp r ta tb) := by
  intro pins s σ H Q I h
  exact wpAny_BinOp (binT ha hb I h fun v u s2 x y H2 I2 rx ry q => ho pins s2 σ H2 x y v u Q I2 rx ry q)
theorem pe_un {op : UnaryOp} {r : V -> Hp -> VK -> Prop} (ho : UnR X (unaryOp op) r) (ha : PE X a ta) : PE X (.UnaryOp op a pos) (tUn r ta) := by
  intro pins s σ H Q I h
  exact UnaryOp_ (thn (ha pins s σ H _ I h) fun v s1 ⟨x, H1, I1, r1, q1⟩ => ho pins s1 σ H1 x v Q I1 r1 q1)
theorem opI {f : Value -> Value -> Sem Value} {C : Int -> Int -> Prop} {g : Int -> Int -> Int}
    (rule : ∀ (i j : Int) (t u : Tok) (s : Shared) (Q : Value -> Shared -> Prop) (E : Value -> Shared -> Prop), C i j -> Q (.int (g i j) s.toks) { s with toks := s.toks + 1 } -> wpAny (model X.prog X.w) X.A (f (.int i t) (.int j u)) Q E s) :
    OpR X f (rI C fun i j => .int (g i j)) := by
  intro pins s σ H x y v u Q I rx ry h
  obtain ⟨i, j, rfl, rfl, hc, q⟩ := h
  obtain ⟨t, rfl⟩ := rx
  obtain ⟨t', rfl⟩ := ry
  exact rule i j t t' s _ _ hc ⟨.int (g i j), H, I.tok _, ⟨_, rfl⟩, q⟩
theorem opI0 {f : Value -> Value -> Sem Value} {g : Int -> Int -> Int}
    (rule : ∀ (i j : Int) (t u : Tok) (s : Shared) (Q : Value -> Shared -> Prop) (E : Value -> Shared -> Prop), Q (.int (g i j) s.toks) { s with toks := s.toks + 1 } -> wpAny (model X.prog X.w) X.A (f (.int i t) (.int j u)) Q E s) :
    OpR X f (rI0 fun i j => .int (g i j)) := by
  intro pins s σ H x y v u Q I rx ry h
  obtain ⟨i, j, rfl, rfl, q⟩ := h
  obtain ⟨t, rfl⟩ := rx
  obtain ⟨t', rfl⟩ := ry
  exact rule i j t t' s _ _ ⟨.int (g i j), H, I.tok _, ⟨_, rfl⟩, q⟩
theorem opB0 {f : Value -> Value -> Sem Value} {g : Int -> Int -> Bool}
    (rule : ∀ (i j : Int) (t u : Tok) (s : Shared) (Q : Value -> Shared -> Prop) (E : Value -> Shared -> Prop), Q (.bool (g i j)) s -> wpAny (model X.prog X.w) X.A (f (.int i t) (.int j u)) Q E s) :
    OpR X f (rI0 fun i j => .bl (g i j)) := by
  intro pins s σ H x y v u Q I rx ry h
  obtain ⟨i, j, rfl, rfl, q⟩ := h
  obtain ⟨t, rfl⟩ := rx
  obtain ⟨t', rfl⟩ := ry
  exact rule i j t t' s _ _ ⟨.bl (g i j), H, I, rfl, q⟩
def CMul (i j : Int) : Prop := (-(2 ^ 64) < i /\ i < 2 ^ 64) ∨ (-(2 ^ 64) < j /\ j < 2 ^ 64)
theorem CMul.ok {i j : Int} (h : CMul i j) : IntMulOk i j := by
  rcases h with ⟨h1, h2⟩ | ⟨h1, h2⟩
  · exact .of_left (intBits_le_64 h1 h2)
  · exact .of_right (intBits_le_64 h1 h2)
theorem op_add : OpR X (binaryOp .Add) (rI0 fun i j => .int (i + j)) := opI0 fun _ _ _ _ _ _ _ q => add_int q
theorem op_sub : OpR X (binaryOp .Sub) (rI0 fun i j => .int (i - j)) := opI0 fun _ _ _ _ _ _ _ q => sub_int q
theorem op_mul : OpR X (binaryOp .Mult) (rI CMul fun i j => .int (i * j)) := opI fun _ _ _ _ _ _ _ hc q => mul_int q hc.ok
theorem op_mod : OpR X (binaryOp .Mod) (rI (fun _ j => 0 < j) fun i j => .int (i % j)) := opI fun i j _ _ _ _ _ hc q => by
  have h1 : (0 : Int) < j := hc
  exact mod_int' (by omega) (by rw [Int.fmod_eq_emod_of_nonneg i (by omega)]; exact q)
theorem unI {f : Value -> Sem Value} {g : Int -> Int}
    (rule : ∀ (i : Int) (t : Tok) (s : Shared) (Q : Value -> Shared -> Prop) (E : Value -> Shared -> Prop), Q (.int (g i) s.toks) { s with toks := s.toks + 1 } -> wpAny (model X.prog X.w) X.A (f (.int i t)) Q E s) :
    UnR X f (rU fun i => .int (g i)) := by
  intro pins s σ H x v Q I rx h
  obtain ⟨i, rfl, q⟩ := h
  obtain ⟨t, rfl⟩ := rx
  exact rule i t s _ _ ⟨.int (g i), H, I.tok _, ⟨_, rfl⟩, q⟩
theorem un_neg : UnR X (unaryOp .USub) (rU fun i => .int (-i)) := unI fun _ _ _ _ _ q => neg_int q
end
def scal : V -> V -> Bool
  | .non, .non => true | .non, .int _ => true | .int _, .non => true | .non, .bl _ => true | .bl _, .non => true | .non, .str _ => true | .str _, .non => true
  | .int _, .int _ => true | .bl _, .bl _ => true | .str _, .str _ => true | .byt _, .byt _ => true
  | .int _, .str _ => true | .str _, .int _ => true | .bl _, .str _ => true | .str _, .bl _ => true
  | _, _ => false
def rEq : R2 := fun x y H Q => scal x y = true /\ Q (.bl (decide (x = y))) H
def rNe : R2 := fun x y H Q => scal x y = true /\ Q (.bl (!decide (x = y))) H
theorem dec_int {i j : Int} : decide (V.int i = V.int j) = (i == j) := by
  rw [Bool.eq_iff_iff]
  simp
theorem dec_bl {i j : Bool} : decide (V.bl i = V.bl j) = (i == j) := by
  rw [Bool.eq_iff_iff]
  simp
theorem dec_str {i j : Str} : decide (V.str i = V.str j) = (i == j) := by
  rw [Bool.eq_iff_iff]
  simp
theorem dec_byt {i j : Array UInt8} : decide (V.byt i = V.byt j) = (i.toList == j.toList) := by
  rw [Bool.eq_iff_iff]
  cases i
  cases j
  simp
section
variable {X : Cx} {a b c : Expr} {ta tb tc : TE} {pos : Pos}
theorem qP {pins : List (Addr × Obj)} {σ : St} {H : Hp} {s : Shared} {Q : VK} {k k' : Bool} (I : Inv X pins σ H s) (q : Q (.bl k) H) (e : k = k') : EP X pins σ Q (.bool k') s := by
  subst e
  exact ⟨.bl k, H, I, rfl, q⟩
theorem qE : OpR X (compareOp .Eq) rEq := by
  intro pins s σ H x y v u Q I rx ry h
  obtain ⟨hs, q⟩ := h
  cases x with
  | non =>
    cases rx
    cases y with
    | non => cases ry; exact PySem.EqNone.eq_none_none (qP I q (by simp))
    | bl j => cases ry; exact PySem.EqNone.eq_none_bool (qP I q (by simp))
    | int j => obtain ⟨t', rfl⟩ := ry; exact PySem.EqNone.eq_none_int (qP I q (by simp))
    | str j => obtain ⟨t', rfl⟩ := ry; exact PySem.EqNone.eq_none_str (qP I q (by simp))
    | _ => exact absurd (show false = true from hs) Bool.false_ne_true
  | bl i =>
    cases rx
    cases y with
    | non => cases ry; exact PySem.EqNone.eq_bool_none (qP I q (by simp))
    | bl j => cases ry; exact eq_bool (qP I q dec_bl)
    | str j => obtain ⟨t', rfl⟩ := ry; exact PySem.EqMixed.eq_bool_str (qP I q (by simp))
    | _ => exact absurd (show false = true from hs) Bool.false_ne_true
  | int i =>
    obtain ⟨t, rfl⟩ := rx
    cases y with
    | non => cases ry; exact PySem.EqNone.eq_int_none (qP I q (by simp))
    | int j => obtain ⟨t', rfl⟩ := ry; exact eq_int (qP I q dec_int)
    | str j => obtain ⟨t', rfl⟩ := ry; exact PySem.EqMixed.eq_int_str (qP I q (by simp))
    | _ => exact absurd (show false = true from hs) Bool.false_ne_true
  | str i =>
    obtain ⟨t, rfl⟩ := rx
    cases y with
    | non => cases ry; exact PySem.EqNone.eq_str_none (qP I q (by simp))
    | bl j => cases ry; exact PySem.EqMixed.eq_str_bool (qP I q (by simp))
    | int j => obtain ⟨t', rfl⟩ := ry; exact PySem.EqMixed.eq_str_int (qP I q (by simp))
    | str j => obtain ⟨t', rfl⟩ := ry; exact eq_str (qP I q dec_str)
    | _ => exact absurd (show false = true from hs) Bool.false_ne_true
  | byt i =>
    obtain ⟨t, rfl⟩ := rx
    cases y with
    | byt j => obtain ⟨t', rfl⟩ := ry; exact PySem.W.eq_bytes (qP I q dec_byt)
    | _ => exact absurd (show false = true from hs) Bool.false_ne_true
  | _ => cases y <;> exact absurd (show false = true from hs) Bool.false_ne_true
theorem op_ne : OpR X (compareOp .NotEq) rNe := by
  intro pins s σ H x y v u Q I rx ry h
  obtain ⟨hs, q⟩ := h
  cases x with
  | non =>
    cases rx
    cases y with
    | non => cases ry; exact PySem.EqNone.ne_none_none (qP I q (by simp))
    | bl j => cases ry; exact PySem.EqNone.ne_none_bool (qP I q (by simp))
    | int j => obtain ⟨t', rfl⟩ := ry; exact PySem.EqNone.ne_none_int (qP I q (by simp))
    | str j => obtain ⟨t', rfl⟩ := ry; exact PySem.EqNone.ne_none_str (qP I q (by simp))
    | _ => exact absurd (show false = true from hs) Bool.false_ne_true
  | bl i =>
    cases rx
    cases y with
    | non => cases ry; exact PySem.EqNone.ne_bool_none (qP I q (by simp))
    | bl j => cases ry; exact ne_bool (qP I q (congrArg not dec_bl))
    | str j => obtain ⟨t', rfl⟩ := ry; exact PySem.EqMixed.ne_bool_str (qP I q (by simp))
    | _ => exact absurd (show false = true from hs) Bool.false_ne_true
  | int i =>
    obtain ⟨t, rfl⟩ := rx
    cases y with
    | non => cases ry; exact PySem.EqNone.ne_int_none (qP I q (by simp))
    | int j => obtain ⟨t', rfl⟩ := ry; exact ne_int (qP I q (congrArg not dec_int))
    | str j => obtain ⟨t', rfl⟩ := ry; exact PySem.EqMixed.ne_int_str (qP I q (by simp))
    | _ => exact absurd (show false = true from hs) Bool.false_ne_true
  | str i =>
    obtain ⟨t, rfl⟩ := rx
    cases y with
    | non => cases ry; exact PySem.EqNone.ne_str_none (qP I q (by simp))
    | bl j => cases ry; exact PySem.EqMixed.ne_str_bool (qP I q (by simp))
    | int j => obtain ⟨t', rfl⟩ := ry; exact PySem.EqMixed.ne_str_int (qP I q (by simp))
    | str j => obtain ⟨t', rfl⟩ := ry; exact ne_str (qP I q (congrArg not dec_str))
    | _ => exact absurd (show false = true from hs) Bool.false_ne_true
  | byt i =>
    obtain ⟨t, rfl⟩ := rx
    cases y with
    | byt j => obtain ⟨t', rfl⟩ := ry; exact PySem.W.ne_bytes (qP I q (congrArg not dec_byt))
    | _ => exact absurd (show false = true from hs) Bool.false_ne_true
  | _ => cases y <;> exact absurd (show false = true from hs) Bool.false_ne_true
theorem op_lt : OpR X (compareOp .Lt) (rI0 fun i j => .bl (decide (i < j))) := opB0 fun _ _ _ _ _ _ _ q => lt_int q
theorem op_le : OpR X (compareOp .LtE) (rI0 fun i j => .bl (decide (i <= j))) := opB0 fun _ _ _ _ _ _ _ q => le_int q
theorem op_gt : OpR X (compareOp .Gt) (rI0 fun i j => .bl (decide (j < i))) := opB0 fun _ _ _ _ _ _ _ q => gt_int q
theorem nomark (b : Expr) {op : CmpOp} (h : op ≠ .In := by decide) (h2 : op ≠ .NotIn := by decide) : behindInMarks op b = false := by
  have e1 : (op == CmpOp.In) = false := by cases op <;> first | rfl | exact absurd rfl h
  have e2 : (op == CmpOp.NotIn) = false := by cases op <;> first | rfl | exact absurd rfl h2
  cases b <;> simp [behindInMarks, e1, e2]
theorem pe_cmpR {op : CmpOp} {r : R2} (ho : OpR X (compareOp op) r) (ha : PE X a ta) (hb : PE X b tb) (hm : behindInMarks op b = false) : PE X (.Compare a [op] [b] pos) (tOp r ta tb) := by
  intro pins s σ H Q I h
  exact wpAny_Compare1 (binT ha hb I h fun v u s2 x y H2 I2 rx ry q => ho pins s2 σ H2 x y v u Q I2 rx ry q) hm
def tTest (t : TE) : TT := fun σ H Q => t σ H fun x H' => ∃ k, x = .bl k /\ Q k H'
theorem zM {op : CmpOp} {r : R2} (ho : OpR X (compareOp op) r) (ha : PE X a ta) (hb : PE X b tb) (hm : behindInMarks op b = false) : PT X (.Compare a [op] [b] pos) (tTest (tOp r ta tb)) := by
  intro pins s σ H Q I h
  refine wpAny_isTrue_Compare1 (thn (ha pins s σ H _ I h) fun v s1 ⟨x, H1, I1, r1, q1⟩ => thn (hb pins s1 σ H1 _ I1 q1) fun u s2 ⟨y, H2, I2, r2, q2⟩ =>
    thn (ho pins s2 σ H2 x y v u _ I2 r1 r2 q2) fun c s3 ⟨z, H3, I3, r3, k, e, q3⟩ => ?_) hm
  subst e
  cases r3
  exact wpAny_truthy_bool ⟨H3, I3, q3⟩
theorem line63 : (sizeLine : Nat) < 2 ^ 63 := by rw [sizeLine_eq]; decide
theorem vals1 {x : V} {us : List Value} (r : Vals [x] us) : ∃ u, us = [u] /\ qN x u := by
  cases r with
  | cons r1 r2 => cases r2; exact ⟨_, rfl, r1⟩
theorem call_abs : CallR X (.builtin "abs") (fun xs H Q => ∃ i, xs = [.int i] /\ Q (.int (if i < 0 then -i else i)) H) := by
  intro pins s σ H xs us Q I r h
  obtain ⟨i, rfl, q⟩ := h
  obtain ⟨u, rfl, t, rfl⟩ := vals1 r
  exact call_abs_int fun u tk => ⟨.int (if i < 0 then -i else i), H, I.tok _, ⟨_, rfl⟩, q⟩
end
end L2
namespace L2
open PySem PySem.Spec PyProof.Rows
structure ObjM (h : Heap) (x dx C : Addr) (mA : Str -> Option Value) : Prop where
  obj : h.get? x = some (PySem.W.instObj C dx)
  ns : h.Ns1 dx mA
  ne : dx ≠ x
theorem lookIn_ns {h : Heap} {dx : Addr} {mA : Str -> Option Value} (n : h.Ns1 dx mA) : ∃ od, h.get? dx = some od /\ ∀ name, PySem.W.lookIn name od = some (mA name) := by
  obtain ⟨o, es, ep, ho, hd, hk, _, hm⟩ := n
  refine ⟨o, ho, fun name => ?_⟩
  have e := hm name
  unfold nsFind findBy at e
  rw [<- Array.find?_toList] at e
  unfold PySem.W.lookIn
  rw [hd]
  dsimp only
  split
  · rename_i y q
    rw [q] at e
    exact congrArg some e
  · rename_i q
    rw [q] at e
    have a : es.toList.any (·.refKey) = false := by
      rw [List.any_eq_false]
      intro y hy
      obtain ⟨z, t, hkey⟩ := hk y (Array.mem_toList_iff.mp hy)
      simp [DictEntry.refKey, hkey]
    have a' : ¬ es.toList.any (·.refKey) = true := by rw [a]; exact Bool.false_ne_true
    rw [if_neg a']
    exact congrArg some e
theorem ObjM.look {h : Heap} {x dx C : Addr} {mA : Str -> Option Value} (I : ObjM h x dx C mA) : ∃ od, PySem.W.InstAt h x (PySem.W.instObj C dx) C (some od) /\ ∀ name, PySem.W.lookIn name od = some (mA name) :=
  let ⟨od, ho, hl⟩ := lookIn_ns I.ns
  ⟨od, ⟨I.obj, rfl, rfl, ho⟩, hl⟩
section
variable {prog : Program} {w : World} {A : Around} {E : Value -> Shared -> Prop} {s : Shared} {K : PySem.W.Frag} {x dx C f : Addr} {mA : Str -> Option Value} {name : Str} {v : Value}
theorem get_map {expr : Bool} {Q : Value -> Shared -> Prop} (X : K.In s.heap) (I : ObjM s.heap x dx C mA) (hg : PySem.W.plainGet K C name = true) (hh : PySem.W.hasDictIn K C = true)
    (ha : PySem.W.findIn K (.ref C) name = some none) (hv : mA name = some v) (hv' : PySem.W.handedIn v = true) (h : Q v { s with toks := s.toks + 1 }) :
    wpAny (model prog w) A (getAttr (.ref x) name expr) Q E s := by
  obtain ⟨od, J, hl⟩ := I.look
  exact PySem.W.get_value X J (PySem.W.plainGet_of hg).1 (PySem.W.findObj_own hh ha rfl (by rw [hl, hv])) hv' h
theorem get_meth {pl : Sem Bool} {Q : Value × List Value -> Shared -> Prop} (X : K.In s.heap) (I : ObjM s.heap x dx C mA) (hg : PySem.W.plainGet K C name = true)
    (hf : PySem.W.findIn K (.ref C) name = some (some (.ref f))) (ht : PySem.W.isFn K (.ref f) = true) (hv : mA name = none) (h : Q (.ref f, [.ref x]) s) :
    wpAny (model prog w) A (getMethod (.ref x) name pl) Q E s := by
  obtain ⟨od, J, hl⟩ := I.look
  exact PySem.W.method_fn X J (PySem.W.plainGet_of hg).1 (PySem.W.plainGet_of hg).2 hf (beq_iff_eq.mp ht) (by show (PySem.W.lookIn name od).map (·.isSome) = some false; rw [hl, hv]; rfl) h
theorem set_map {ns : List Str} {Q : Unit -> Shared -> Prop} (X : K.In s.heap) (I : ObjM s.heap x dx C mA)
    (hs : PySem.W.findIn K (.ref C) "__setattr__" = some (some (.builtin "object.__setattr__"))) (hp : PySem.W.plainOver K C = true) (ht : PySem.W.takerIn K C name = some none) (hh : PySem.W.hasDictIn K C = true)
    (hw : PySem.Within mA ns) (hsz : ns.length <= sizeLine)
    (h : ∀ h', ObjM h' x dx C (fun y => if y = name then some v else mA y) -> Heap.SameBut dx s.heap h' -> Q () { s with heap := h', toks := s.toks + 2 }) :
    wpAny (model prog w) A (setAttr (.ref x) name v) Q E s := by
  obtain ⟨od, J, hl⟩ := I.look
  refine PySem.W.set_plain X J hs (PySem.W.osa_open (s := { s with toks := s.toks + 1 }) (r := none) X J hp ht fun b => ?_)
  obtain ⟨cd, hc, hd'⟩ := PySem.W.any_some hh
  have hx : s.heap.get? x = some ⟨.ref C, some dx, .plain, #[]⟩ := I.obj
  refine wpAny_bind (wpAny_pure (wpAny_bind (wpAny_bind (wpAny_loadPart hx (wpAny_bind (PySem.W.Looks.here (s := { s with toks := s.toks + 1 }) (PySem.W.looks_clsIn X hc) ?_))))))
  rw [hd']
  refine wpAny_pure (a := some dx) (wpAny_bind (wpAny_pure (wpAny_bind ?_)))
  refine wpAny_nsSet1 (s := { s with toks := s.toks + 1 }) I.ns fun h' hn2 hs2 => ?_
  obtain ⟨oD, esD, epD, hoD, hdD, hcD⟩ := hn2.count (PySem.Within.cons name v hw)
  refine wpAny_bind (wpAny_lookBehind hoD (by rw [hdD]; exact pastItsLine_dict (Nat.le_trans hcD (by rw [List.length_cons]; omega))) ?_)
  exact wpAny_pure (h _ ⟨(hs2.2 _ (Ne.symm I.ne)).trans I.obj, hn2, I.ne⟩ hs2)
theorem make_map {R : Result -> Shared -> Prop} {vs : List Value} {kw : List (Str × Value)} (X : K.In s.heap) (hm : PySem.W.makesIn K C = true)
    (hi : PySem.W.findIn K (.ref C) "__init__" = some (some (.ref f))) (hf : PySem.W.typeIn K (.ref f) = some (.type "function"))
    (h : codeAny (model prog w) (A.under (.builtin "type.__call__" ⟨.ref C :: vs, kw⟩)) (.call (.ref f) ⟨.ref (s.heap.objs.size + 1) :: vs, kw⟩) (PySem.W.InitBack (s.heap.objs.size + 1) R)
      { s with heap := (s.heap.push PySem.W.emptyDict).push (PySem.W.instObj C s.heap.objs.size) }) :
    codeAny (model prog w) A (.call (.ref C) ⟨vs, kw⟩) R s := by
  obtain ⟨hh, g, d, t, os⟩ := s
  exact PySem.W.make_core (PySem.W.makes_of X hm) (PySem.W.looks_findIn X hi) (fun self => PySem.W.bind_fn X self hf) (.inl rfl) h
end
def qK (f : Str) (v : V) : List (Str × V) -> List (Str × V)
  | [] => [(f, v)]
  | (g, x) :: r => if g = f then (g, v) :: r else (g, x) :: qK f v r
theorem lookup_putF (f g : Str) (v : V) : ∀ fs : List (Str × V), (qK f v fs).lookup g = if g = f then some v else fs.lookup g
  | [] => by
    show List.lookup g [(f, v)] = _
    by_cases h : g = f
    · have hb : (g == f) = true := beq_iff_eq.mpr h
      simp only [List.lookup, hb, if_pos h]
    · have hb : (g == f) = false := beq_eq_false_iff_ne.mpr h
      simp only [List.lookup, hb, if_neg h]
  | (k, x) :: r => by
    have ih := lookup_putF f g v r
    rw [show qK f v ((k, x) :: r) = (if k = f then (k, v) :: r else (k, x) :: qK f v r) from rfl]
    by_cases hk : k = f
    · rw [if_pos hk]
      by_cases h : g = k
      · have hb : (g == k) = true := beq_iff_eq.mpr h
        simp only [List.lookup, hb, if_pos (h.trans hk)]
      · have hb : (g == k) = false := beq_eq_false_iff_ne.mpr h
        simp only [List.lookup, hb, if_neg (fun e : g = f => h (e.trans hk.symm))]
    · rw [if_neg hk]
      by_cases h : g = k
      · have hb : (g == k) = true := beq_iff_eq.mpr h
        simp only [List.lookup, hb, if_neg (fun e : g = f => hk (h.symm.trans e))]
      · have hb : (g == k) = false := beq_eq_false_iff_ne.mpr h
        simp only [List.lookup, hb]
        exact ih
theorem keys_putF (f : Str) (v : V) : ∀ fs : List (Str × V), f ∈ (qK f v fs).map (·.1) /\ ∀ g, g ∈ fs.map (·.1) -> g ∈ (qK f v fs).map (·.1)
  | [] => ⟨by simp [qK], fun g h => by simp at h⟩
  | (k, x) :: r => by
    obtain ⟨i1, i2⟩ := keys_putF f v r
    rw [show qK f v ((k, x) :: r) = (if k = f then (k, v) :: r else (k, x) :: qK f v r) from rfl]
    by_cases hk : k = f
    · rw [if_pos hk]
      subst hk
      exact ⟨by simp, fun g h => by simpa using h⟩
    · rw [if_neg hk]
      refine ⟨?_, fun g h => ?_⟩
      · rw [List.map_cons]
        exact List.mem_cons_of_mem _ i1
      · rw [List.map_cons] at h ⊢
        rcases List.mem_cons.mp h with e | e
        · exact List.mem_cons.mpr (.inl e)
        · exact List.mem_cons_of_mem _ (i2 g e)
theorem yP (f : Str) (v : V) : ∀ fs : List (Str × V), (qK f v fs).length <= fs.length + 1
  | [] => by simp [qK]
  | (k, x) :: r => by
    have ih := yP f v r
    rw [show qK f v ((k, x) :: r) = (if k = f then (k, v) :: r else (k, x) :: qK f v r) from rfl]
    by_cases hk : k = f
    · rw [if_pos hk, List.length_cons, List.length_cons]; omega
    · rw [if_neg hk, List.length_cons, List.length_cons]; omega
theorem RelO.some_of {v : V} {o : Option Value} (r : RelO (some v) o) : ∃ u, o = some u /\ qN v u := by
  cases o with
  | none => exact (show False from r).elim
  | some u => exact ⟨u, rfl, r⟩
theorem RelO.none_of {o : Option Value} (r : RelO none o) : o = none := by
  cases o with
  | none => rfl
  | some u => exact (show False from r).elim
theorem handed_of {v : V} {u : Value} (r : qN v u) : PySem.W.handedIn u = true := by
  cases v with
  | non => cases (show u = Value.none from r); rfl
  | bl b => cases (show u = Value.bool b from r); rfl
  | int i => obtain ⟨t, e⟩ := (show ∃ t, u = Value.int i t from r); cases e; rfl
  | str x => obtain ⟨t, e⟩ := (show ∃ t, u = Value.str x t from r); cases e; rfl
  | byt b => obtain ⟨t, e⟩ := (show ∃ t, u = Value.bytes b t from r); cases e; rfl
  | flt b => obtain ⟨t, e⟩ := (show ∃ t, u = Value.float b t from r); cases e; rfl
  | ref a => cases (show u = Value.ref a from r); rfl
  | ty n => cases (show u = Value.type n from r); rfl
section
variable {P : Program} {w : World} {H H' : Hp} {h h' : Heap} {a C dx : Addr} {fs fs' : List (Str × V)}
theorem ins_get (hok : HOk P w H h) (e : H a = some (.ins C dx fs)) : ∃ mA, ObjM h a dx C mA /\ (∀ f, RelO (fs.lookup f) (mA f)) /\ PySem.Within mA (fs.map (·.1)) /\ fs.length <= 1000 /\ H dx = some (.own a) := by
  obtain ⟨d, z, ne, ob, mA, n, r, q⟩ := (show yZ P w H h a (.ins C dx fs) from hok a _ e)
  exact ⟨mA, ⟨ob, n, ne⟩, r, q, z, d⟩
end
structure Cls (K : PySem.W.Frag) (C : Addr) : Prop where
  pg : PySem.W.plainGet K C Str.empty = true
  hd : PySem.W.hasDictIn K C = true
  po : PySem.W.plainOver K C = true
  sa : PySem.W.findIn K (.ref C) "__setattr__" = some (some (.builtin "object.__setattr__"))
theorem Cls.get {K : PySem.W.Frag} {C : Addr} (c : Cls K C) (f : Str) : PySem.W.plainGet K C f = true := c.pg
def qS (K : PySem.W.Frag) (C : Addr) (f : Str) : Prop := PySem.W.findIn K (.ref C) f = some none
theorem qS.taker {K : PySem.W.Frag} {C : Addr} {f : Str} (n : qS K C f) : PySem.W.takerIn K C f = some none := by
  unfold PySem.W.takerIn
  rw [show PySem.W.findIn K (.ref C) f = some none from n]
  rfl
structure Meth (K : PySem.W.Frag) (C : Addr) (m : Str) (f : Addr) : Prop where
  at_ : PySem.W.findIn K (.ref C) m = some (some (.ref f))
  fn : PySem.W.isFn K (.ref f) = true
  kp : PySem.W.keepIn K (.ref f) = true
section
variable {X : Cx} {pins : List (Addr × Obj)} {σ : St} {H : Hp} {s : Shared} {a C dx : Addr} {fs : List (Str × V)} {f : Str} {v : V} {A : Around} {E : Value -> Shared -> Prop}
theorem getattr_ok {b : Bool} {Q : Value -> Shared -> Prop} (I : Inv X pins σ H s) (e : H a = some (.ins C dx fs)) (c : Cls X.K C) (n : qS X.K C f) (l : fs.lookup f = some v)
    (h : ∀ u s', Inv X pins σ H s' -> qN v u -> Q u s') : wpAny (model X.prog X.w) A (getAttr (.ref a) f b) Q E s := by
  obtain ⟨mA, O, r, _, _, _⟩ := ins_get I.hok e
  obtain ⟨u, hu, ru⟩ := RelO.some_of (v := v) (o := mA f) (by rw [<- l]; exact r f)
  exact get_map I.kIn O (c.get f) c.hd n hu (handed_of ru) (h u _ (I.tok _) ru)
theorem getmeth_ok {m : Str} {g : Addr} {pl : Sem Bool} {Q : Value × List Value -> Shared -> Prop} (I : Inv X pins σ H s) (e : H a = some (.ins C dx fs)) (c : Cls X.K C) (k : Meth X.K C m g) (l : fs.lookup m = none)
    (h : Q (.ref g, [.ref a]) s) : wpAny (model X.prog X.w) A (getMethod (.ref a) m pl) Q E s := by
  obtain ⟨mA, O, r, _, _, _⟩ := ins_get I.hok e
  have hn : mA m = none := RelO.none_of (by rw [<- l]; exact r m)
  exact get_meth I.kIn O (c.get m) k.at_ k.fn hn h
theorem setattr_ok {y : V} {u : Value} {Q : Unit -> Shared -> Prop} (I : Inv X pins σ H s) (e : H a = some (.ins C dx fs)) (c : Cls X.K C) (n : qS X.K C f) (hl : fs.length < 1000) (ry : qN y u)
    (h : ∀ s', Inv X pins σ (upd H a (.ins C dx (qK f y fs))) s' -> Q () s') : wpAny (model X.prog X.w) A (setAttr (.ref a) f u) Q E s := by
  obtain ⟨mA, O, r, wi, _, ho⟩ := ins_get I.hok e
  have hz : (fs.map (·.1)).length <= sizeLine := by rw [List.length_map, sizeLine_eq]; omega
  refine set_map I.kIn O c.sa c.po n.taker c.hd wi hz fun h' O' sb => h _ ?_
  have hd : ∃ o, h'.get? dx = some o := let ⟨o, _, _, e', _⟩ := O'.ns; ⟨o, e'⟩
  refine I.write (x := a) (e := dx) (by rw [e]; exact True.intro) (.inr ho) (fun b q hb z => (sb.2 b hb).trans z) hd ?_
  refine ⟨by rw [zF O.ne]; exact ho, ?_, O.ne, O'.obj, _, O'.ns, fun g => ?_, fun g hg => ?_⟩
  · have := yP f y fs; omega
  · show RelO ((qK f y fs).lookup g) (if g = f then some u else mA g)
    rw [lookup_putF]
    by_cases q : g = f
    · rw [if_pos q, if_pos q]; exact ry
    · rw [if_neg q, if_neg q]; exact r g
  · by_cases q : g = f
    · rw [q]; exact (keys_putF f y fs).1
    · refine (keys_putF f y fs).2 g (wi g fun z => hg ?_)
      show (if g = f then some u else mA g) = none
      rw [if_neg q]; exact z
theorem Inv.made (I : Inv X pins σ H s) : Inv X pins σ (upd (upd H s.heap.objs.size (.own (s.heap.objs.size + 1))) (s.heap.objs.size + 1) (.ins C s.heap.objs.size []))
    { s with heap := (s.heap.push PySem.W.emptyDict).push (PySem.W.instObj C s.heap.objs.size) } := by
  have e1 : (s.heap.push PySem.W.emptyDict).get? s.heap.objs.size = some PySem.W.emptyDict := Heap.get?_push_size s.heap rfl
  have e2 : ((s.heap.push PySem.W.emptyDict).push (PySem.W.instObj C s.heap.objs.size)).get? (s.heap.objs.size + 1) = some (PySem.W.instObj C s.heap.objs.size) := by
    have := Heap.get?_push_size (s.heap.push PySem.W.emptyDict) (o := PySem.W.instObj C s.heap.objs.size) rfl
    rwa [Heap.size_push] at this
  have e3 : (s.heap.push PySem.W.emptyDict).Ns s.heap.objs.size (fun _ => none) := ⟨PySem.W.emptyDict, #[], _, e1, rfl, (fun e he => absurd he (by simp)), fun _ => rfl⟩
  have I1 := I.laid (a := s.heap.objs.size) (o := .own (s.heap.objs.size + 1)) (h' := s.heap.push PySem.W.emptyDict) (t' := s.toks) (fun b u q => Heap.get?_push_of_some _ q) (Nat.le_refl _) ⟨_, e1⟩
  refine I1.laid (a := s.heap.objs.size + 1) (o := .ins C s.heap.objs.size []) (t' := s.toks) (fun b u q => Heap.get?_push_of_some _ q) (Nat.le_of_eq (Heap.size_push _ _)) ?_
  have ne : s.heap.objs.size ≠ s.heap.objs.size + 1 := Nat.ne_of_lt (Nat.lt_succ_self _)
  refine ⟨by rw [zF ne, zG], Nat.zero_le _, ne, e2, fun _ => none, (Heap.Ns1.of_empty e3).at fun o q => Heap.get?_push_of_some _ q, fun _ => True.intro, fun y hy => absurd rfl hy⟩
theorem attr_of {prog : Program} {w : World} {env : Env} {e : Expr} {f : Str} {pos : Pos} {s : Shared} {Q : Value -> Shared -> Prop} (hb : attributeBase e f env (eval e env) = eval e env)
    (h : wpAny (model prog w) A (eval e env) (fun o s₁ => wpAny (model prog w) A (getAttr o f true) Q E s₁) E s) : wpAny (model prog w) A (eval (.Attribute e f pos) env) Q E s :=
  Attribute_any_ h (by rw [arm_eval_Attribute, hb])
end
def tFld (K : PySem.W.Frag) (ta : TE) (f : Str) : TE := fun σ H Q => ta σ H fun x H1 => ∃ a C dx fs v, x = .ref a /\ H1 a = some (.ins C dx fs) /\ Cls K C /\ qS K C f /\ fs.lookup f = some v /\ Q v H1
def sFld (K : PySem.W.Frag) (ta tv : TE) (f : Str) : TS := fun D σ H => tv σ H fun y H1 => ta σ H1 fun x H2 => ∃ a C dx fs, x = .ref a /\ H2 a = some (.ins C dx fs) /\ Cls K C /\ qS K C f /\ fs.length < 1000 /\
  D.nx σ (upd H2 a (.ins C dx (qK f y fs)))
def InOp (X : Cx) (op : Operator) (rd : V -> V -> Hp -> VK -> Prop) : Prop :=
  ∀ (pins : List (Addr × Obj)) (s : Shared) (σ : St) (H : Hp) (x y : V) (u v : Value) (Q : VK), Inv X pins σ H s -> qN x u -> qN y v -> rd x y H Q -> wpAny (model X.prog X.w) X.A (inplaceOp op u v) (EP X pins σ Q) X.xe s
def sFldAug (K : PySem.W.Frag) (ta tv : TE) (rd : V -> V -> Hp -> VK -> Prop) (f : Str) : TS := fun D σ H => ta σ H fun x H1 => ∃ a C dx fs v, x = .ref a /\ H1 a = some (.ins C dx fs) /\ Cls K C /\ qS K C f /\ fs.lookup f = some v /\
  tv σ H1 fun y H2 => rd v y H2 fun z H3 => ∃ dx' fs', H3 a = some (.ins C dx' fs') /\ fs'.length < 1000 /\ D.nx σ (upd H3 a (.ins C dx' (qK f z fs')))
section
variable {X : Cx} {o e value : Expr} {f : Str} {pos pos' tpos : Pos} {ta tv : TE}
theorem zX (he : PE X e ta) (hb : attributeBase e f X.env (eval e X.env) = eval e X.env) : PE X (.Attribute e f pos) (tFld X.K ta f) := by
  intro pins s σ H Q I h
  refine attr_of hb (thn (he pins s σ H _ I h) fun u s1 ⟨x, H1, I1, rx, a, C, dx, fs, v, ex, ea, c, n, l, q⟩ => ?_)
  subst ex
  obtain rfl : u = Value.ref a := rx
  exact getattr_ok I1 ea c n l fun u' s2 I2 ru => ⟨v, H1, I2, ru, q⟩
theorem qR (ha : PE X o ta) (hv : PE X value tv) (hs : swapsWith value (some (.Attribute o f pos')) pos.line X.env = pure false) : PS X (.Assign [.Attribute o f pos'] value pos) (sFld X.K ta tv f) := by
  intro pins s σ H D I h
  refine plainObj_wpAny_Assign_Attribute (thn (hv pins s σ H _ I h) fun u s1 ⟨y, H1, I1, ry, q⟩ => thn (ha pins s1 σ H1 _ I1 q) fun ov s2 ⟨x, H2, I2, rx, a, C, dx, fs, ex, ea, c, n, l, q2⟩ => ?_) hs
  subst ex
  obtain rfl : ov = Value.ref a := rx
  exact setattr_ok I2 ea c n l ry fun s3 I3 => ⟨σ, _, I3, q2⟩
theorem ps_fldaug {op : Operator} {rd : V -> V -> Hp -> VK -> Prop} (ha : PE X o ta) (hv : PE X value tv) (hop : InOp X op rd) : PS X (.AugAssign (.Attribute o f tpos) op value pos) (sFldAug X.K ta tv rd f) := by
  intro pins s σ H D I h
  refine wpAny_AugAssign_AttributeAny (thn (ha pins s σ H _ I h) fun ov s1 ⟨x, H1, I1, rx, a, C, dx, fs, v, ex, ea, c, n, l, q⟩ => ?_)
  subst ex
  obtain rfl : ov = Value.ref a := rx
  refine getattr_ok I1 ea c n l fun u s2 I2 ru => thn (hv pins s2 σ H1 _ I2 q) fun w3 s3 ⟨y, H2, I3, ry, q3⟩ => thn (hop pins s3 σ H2 v y u w3 _ I3 ru ry q3) fun w4 s4 ⟨z, H3, I4, rz, dx', fs', ea', l', q4⟩ => ?_
  exact setattr_ok I4 ea' c n l' rz fun s5 I5 => ⟨σ, _, I5, q4⟩
def rAdd : V -> V -> Hp -> VK -> Prop := fun x y H Q => ∃ i j, x = .int i /\ y = .int j /\ Q (.int (i + j)) H
def rSub : V -> V -> Hp -> VK -> Prop := fun x y H Q => ∃ i j, x = .int i /\ y = .int j /\ Q (.int (i - j)) H
theorem in_add : InOp X .Add rAdd := by
  rintro pins s σ H x y u v Q I rx ry ⟨i, j, rfl, rfl, q⟩
  obtain ⟨t, rfl⟩ := (show ∃ t, u = Value.int i t from rx)
  obtain ⟨t', rfl⟩ := (show ∃ t', v = Value.int j t' from ry)
  exact PyProof.Rows.iadd_int ⟨.int (i + j), H, I.tok _, ⟨_, rfl⟩, q⟩
theorem in_sub : InOp X .Sub rSub := by
  rintro pins s σ H x y u v Q I rx ry ⟨i, j, rfl, rfl, q⟩
  obtain ⟨t, rfl⟩ := (show ∃ t, u = Value.int i t from rx)
  obtain ⟨t', rfl⟩ := (show ∃ t', v = Value.int j t' from ry)
  exact PyProof.Rows.isub_int ⟨.int (i - j), H, I.tok _, ⟨_, rfl⟩, q⟩
end
section
variable {X : Cx} {pins : List (Addr × Obj)} {σ : St} {H : Hp} {s : Shared} {A : Around} {E : Value -> Shared -> Prop} {Q : Value -> Shared -> Prop} {c : Value} {b : Bool}
end
end L2
namespace L2
open PySem PySem.Spec PyProof.Rows
structure Room (k : Nat) (A : Around) : Prop where
  hd : A.handled = none
  dp : A.depth + 3 * k + 5 < recursionLimit
  un : A.units + 16 * k + 200 < cLine
theorem Room.mono {j k : Nat} {A : Around} (r : Room k A) (h : j <= k) : Room j A := ⟨r.hd, by have := r.dp; omega, by have := r.un; omega⟩
theorem Room.deeper {k : Nat} {A : Around} (r : Room (k + 1) A) (env : Env) : Room k (A.deeper env) :=
  ⟨r.hd, by have := r.dp; show A.depth + 1 + 3 * k + 5 < _; omega, by have := r.un; show A.units + 3 + 16 * k + 200 < _; omega⟩
theorem make_depth {A : Around} {C : Addr} {us : List Value} {kw : List (Str × Value)} : (A.under (.builtin "type.__call__" ⟨.ref C :: us, kw⟩)).depth = A.depth + 1 := by
  first | rfl | simp [Around.under, Code.weight, Code.isCreation, Code.isGuard, Code.isCaller, Code.frames, Code.isFrame, guardIds]
theorem make_units {A : Around} {C : Addr} {us : List Value} {kw : List (Str × Value)} : (A.under (.builtin "type.__call__" ⟨.ref C :: us, kw⟩)).units = A.units + 1 := by
  first | rfl | simp [Around.under, Code.cUnits, Code.frames, Code.isFrame]
theorem Room.make {k : Nat} {A : Around} (r : Room (k + 1) A) (C : Addr) (us : List Value) (kw : List (Str × Value)) : Room k (A.under (.builtin "type.__call__" ⟨.ref C :: us, kw⟩)) :=
  ⟨r.hd, by have := r.dp; rw [make_depth]; omega, by have := r.un; rw [make_units]; omega⟩
theorem Room.depth {k : Nat} {A : Around} (r : Room k A) : A.depth < recursionLimit := by have := r.dp; omega
theorem Room.units {k : Nat} {A : Around} (r : Room k A) : A.units + 64 < cLine := by have := r.un; omega
def tNil : TA := fun _ H Q => Q [] H
def qH (ta : TE) (tr : TA) : TA := fun σ H Q => ta σ H fun x H1 => tr σ H1 fun xs H2 => Q (x :: xs) H2
section
variable {X : Cx} {e : Expr} {es : List Expr} {te : TE} {t : TA} {pos : Pos}
theorem zE : PA X [] tNil := fun _ _ _ _ H Q I h => Calls.spliced_nil ⟨[], H, I, .nil, h⟩
theorem zA (ha : PE X e te) (hr : PA X es t) (hs : starEach (e :: es) X.env = (false, eval e X.env) :: starEach es X.env := by rfl) : PA X (e :: es) (qH te t) := by
  intro pos pins s σ H Q I h
  rw [hs]
  show wpAny _ _ (spliced ((false, eval e X.env) :: backTo pos (starEach es X.env))) _ _ s
  refine Calls.spliced_cons (thn (ha pins s σ H _ I h) fun u s1 ⟨x, H1, I1, r1, q1⟩ => ?_)
  exact thn (hr pos pins s1 σ H1 _ I1 q1) fun us s2 ⟨xs, H2, I2, r2, q2⟩ => ⟨x :: xs, H2, I2, .cons r1 r2, q2⟩
def tTup (t : TA) : TE := fun σ H Q => t σ H fun xs H1 => xs.length <= sizeLine /\ ∀ p, H1 p = none -> Q (.ref p) (upd H1 p (.tup xs))
def tLst (t : TA) : TE := fun σ H Q => t σ H fun xs H1 => xs.length <= sizeLine /\ ∀ p, H1 p = none -> Q (.ref p) (upd H1 p (.lst xs))
theorem pe_tup {x1} (h : PA X es t) : PE X (.Tuple es x1 pos) (tTup t) := by
  intro pins s σ H Q I hq
  refine wpAny_Tuple_spliced (thn (h pos pins s σ H _ I hq) fun us s1 ⟨xs, H1, I1, r, z, q⟩ => ⟨by rw [<- r.length]; exact z, ?_⟩)
  have hf : H1 s1.heap.objs.size = none := I1.hok.fresh (Nat.le_refl _)
  refine ⟨.ref s1.heap.objs.size, upd H1 s1.heap.objs.size (.tup xs), I1.laid (t' := s1.toks) (fun b u e => Heap.get?_push_of_some _ e) (Nat.le_refl _) ?_, rfl, q _ hf⟩
  exact ⟨z, us, r, ⟨_, Heap.get?_push_size _ rfl, rfl, _, rfl⟩⟩
theorem yC (h : PA X es t) : PE X (.List es pos) (tLst t) := by
  intro pins s σ H Q I hq
  refine wpAny_List_spliced (thn (h pos pins s σ H _ I hq) fun us s1 ⟨xs, H1, I1, r, z, q⟩ => ⟨by rw [<- r.length]; exact z, ?_⟩)
  have hf : H1 s1.heap.objs.size = none := I1.hok.fresh (Nat.le_refl _)
  refine ⟨.ref s1.heap.objs.size, upd H1 s1.heap.objs.size (.lst xs), I1.laid (t' := s1.toks) (fun b u e => Heap.get?_push_of_some _ e) (Nat.le_refl _) ?_, rfl, q _ hf⟩
  exact ⟨z, us, 0, r, Heap.get?_push_size _ rfl⟩
end
abbrev Sp := List V -> Hp -> VK -> XK -> Prop
abbrev CXT := List Env -> Hp -> Shared -> XK -> Value -> Shared -> Prop
structure Env0 (P : Program) (w : World) (K : PySem.W.Frag) (mg : Str -> Option Value) (base : Heap) (A : Around) (outer : List Env) (s : Shared) (H : Hp) : Prop where
  frames : A.frames = some outer
  mod : Mod K mg base
  bs : ∀ b o, base.get? b = some o -> s.heap.get? b = some o /\ H b = none
  bsz : base.objs.size <= s.heap.objs.size
  funs : s.heap.FunFrames base outer
  frf : ∀ b ∈ frs outer, H b = none
  hok : HOk P w H s.heap
  bare : AllBare s.gens
def CE (outer : List Env) (P : Program) (w : World) (H : Hp) (s : Shared) (Q : VK) (u : Value) (s' : Shared) : Prop :=
  ∃ v H', s'.os = s.os /\ AllBare s'.gens /\ Un (frs outer) [] H H' s.heap s'.heap /\ HOk P w H' s'.heap /\ qN v u /\ Q v H'
def CR (CX : CXT) (outer : List Env) (P : Program) (w : World) (H : Hp) (s : Shared) (Q : VK) (E : XK) (r : Result) (s' : Shared) : Prop :=
  match r with
  | .ok (.ret u) => CE outer P w H s Q u s'
  | .ok _ => False
  | .error e => CX outer H s E e s'
structure FnOk (P : Program) (w : World) (K : PySem.W.Frag) (mg : Str -> Option Value) (base : Heap) (CX : CXT) (k : Nat) (f : Addr) (fd : FuncData) (ps : List Str) (sp : Sp) : Prop where
  len : ∀ vs H Q E, sp vs H Q E -> vs.length = ps.length
  run : ∀ (A : Around) (outer : List Env) (s : Shared) (H : Hp) (args : Args) (us : List Value) (vs : List V) (Q : VK) (E : XK), Room k A -> Env0 P w K mg base A outer s H -> BindsTo s fd args (ps.zip us) -> Vals vs us -> sp vs H Q E ->
    codeAny (model P w) A (.call (.ref f) args) (CR CX outer P w H s Q E) s
theorem Env0.make {P : Program} {w : World} {K : PySem.W.Frag} {mg : Str -> Option Value} {base : Heap} {A : Around} {outer : List Env} {s : Shared} {H : Hp} (e : Env0 P w K mg base A outer s H) (C : Addr) (us : List Value) (kw : List (Str × Value)) :
    Env0 P w K mg base (A.under (.builtin "type.__call__" ⟨.ref C :: us, kw⟩)) outer s H := ⟨by first | exact e.frames | (simpa [Around.under, Code.envs, Code.isFrame, pushEnvs] using e.frames), e.mod, e.bs, e.bsz, e.funs, e.frf, e.hok, e.bare⟩
section
variable {X : Cx} {pins : List (Addr × Obj)} {σ : St} {H : Hp} {s s' : Shared}
theorem Inv.env0 (I : Inv X pins σ H s) : Env0 X.prog X.w X.K X.mg X.base X.A X.stack s H :=
  ⟨I.ok.frames, I.ok.mod, I.bs, Nat.le_trans I.ok.bsz I.sz, I.stack, I.stkFree, I.hok, I.bare⟩
theorem Inv.after {Q : VK} {u : Value} (I : Inv X pins σ H s) (h : CE X.stack X.prog X.w H s Q u s') : EP X pins σ Q u s' := by
  obtain ⟨v, H', os, bare, un, hok, r, q⟩ := h
  obtain ⟨hh, g, d, t, os'⟩ := s'
  obtain rfl : os' = s.os := os
  exact ⟨v, H', I.call (h' := hh) (g' := g) (d' := d) (t' := t) (ch := []) un hok bare (fun b z => absurd z (by simp)), r, q⟩
end
def tCall (sp : Sp) (dvs : List V) (E : XK) (t : TA) : TE := fun σ H Q => t σ H fun vs H1 => sp (vs ++ dvs) H1 Q E
def tMeth (C : Addr) (m : Str) (sp : Sp) (dvs : List V) (E : XK) (ta : TE) (t : TA) : TE := fun σ H Q => ta σ H fun x H1 => ∃ a dx fs, x = .ref a /\ H1 a = some (.ins C dx fs) /\ fs.lookup m = none /\
  t σ H1 fun vs H2 => sp (x :: (vs ++ dvs)) H2 Q E
def tMake (C : Addr) (sp : Sp) (dvs : List V) (E : XK) (t : TA) : TE := fun σ H Q => t σ H fun vs H1 => ∀ x dx, H1 x = none -> H1 dx = none -> dx ≠ x ->
  sp (.ref x :: (vs ++ dvs)) (upd (upd H1 dx (.own x)) x (.ins C dx [])) (fun v H2 => v = .non /\ Q (.ref x) H2) E
def Binds (K : PySem.W.Frag) (fd : FuncData) (ps : List Str) (ds : List Value) : Prop :=
  ∀ (s : Shared) (us : List Value), K.In s.heap -> (us ++ ds).length = ps.length -> BindsTo s fd ⟨us, []⟩ (ps.zip (us ++ ds))
theorem Binds.all {K : PySem.W.Frag} {fd : FuncData} {ps : List Str} (h : ∀ us : List Value, us.length = ps.length -> bindArgs fd ⟨us, []⟩ = pure (ps.zip us)) : Binds K fd ps [] := fun s us _ hl => by
  rw [List.append_nil] at hl ⊢
  exact .of_eq (h us hl)
def Passes (CX : CXT) (X : Cx) (E : XK) : Prop := ∀ (pins : List (Addr × Obj)) (σ : St) (H : Hp) (s : Shared) (e : Value) (s' : Shared), Inv X pins σ H s -> CX X.stack H s E e s' -> X.xe e s'
section
variable {X : Cx} {CX : CXT} {k : Nat} {f C : Addr} {fd : FuncData} {ps : List Str} {sp : Sp} {dvs : List V} {ds : List Value} {E : XK} {x m : Str} {p pos apos : Pos} {e o : Expr} {es : List Expr} {ta : TE} {t : TA}
theorem run_fn {pins : List (Addr × Obj)} {σ : St} {H : Hp} {s : Shared} {Q : VK} {us : List Value} {vs : List V} (F : FnOk X.prog X.w X.K X.mg X.base CX k f fd ps sp) (hr : Room k X.A) (hb : Binds X.K fd ps ds) (hd : Vals dvs ds) (hx : Passes CX X E)
    (I : Inv X pins σ H s) (r : Vals vs us) (h : sp (vs ++ dvs) H Q E) : wpAny (model X.prog X.w) X.A (call (.ref f) us) (EP X pins σ Q) X.xe s := by
  have r2 : Vals (vs ++ dvs) (us ++ ds) := r.append hd
  have hl : (us ++ ds).length = ps.length := by rw [<- r2.length]; exact F.len _ _ _ _ h
  refine wpAny_call (codeAny_mono (F.run X.A X.stack s H ⟨us, []⟩ (us ++ ds) (vs ++ dvs) Q E hr I.env0 (hb s us I.kIn hl) r2 h) fun r s' hq => ?_)
  cases r with
  | error e => exact hx pins σ H s e s' I hq
  | ok fl =>
    cases fl with
    | ret u => exact I.after hq
    | next => exact False.elim hq
    | brk => exact False.elim hq
    | cont => exact False.elim hq
theorem zO (F : FnOk X.prog X.w X.K X.mg X.base CX k f fd ps sp) (hr : Room k X.A) (hg : Gl X x) (hm : X.mg x = some (.ref f)) (hk : PySem.W.keepIn X.K (.ref f) = true) (hb : Binds X.K fd ps ds) (hd : Vals dvs ds) (hx : Passes CX X E)
    (ha : PA X (e :: es) t) (hdb : (x == ("__debug__" : Str)) = false := by decide) (he : starEach (e :: es) X.env = (false, eval e X.env) :: starEach es X.env := by rfl) (hpl : (backTo pos (starEach es X.env)).any (·.1) = false := by rfl) :
    PE X (.Call (.Name x p) (e :: es) [] pos) (tCall sp dvs E t) := by
  intro pins s σ H Q I h
  refine wpAny_Call_Name_kw (ld_glob I hg hm ?_ hdb)
  refine PySem.W.callWith_K (h₀ := X.base) I.ok.mod.kin hk (thn (ha pos pins s σ H _ I h) fun us s1 ⟨vs, H1, I1, r, q⟩ => ⟨I1.kIn, ?_⟩) he hpl
  exact run_fn F hr hb hd hx I1 r q
theorem zR {pl : Sem Bool} (he : PE X o ta) (c : Cls X.K C) (hm : Meth X.K C m f) (F : FnOk X.prog X.w X.K X.mg X.base CX k f fd ps sp) (hr : Room k X.A) (hb : Binds X.K fd ps ds) (hd : Vals dvs ds) (hx : Passes CX X E) (ha : PA X (e :: es) t)
    (hst : starEach (e :: es) X.env = (false, eval e X.env) :: starEach es X.env := by rfl) (hpl : (backTo pos (starEach es X.env)).any (·.1) = false := by rfl)
    (ht : eval (.Call (.Attribute o m apos) (e :: es) [] pos) X.env = (do
      let ov <- eval o X.env
      standAt apos.atName
      let (f, first) <- holding [ov] (getMethod ov m pl)
      callWith pos f first (backTo pos (starEach (e :: es) X.env)) (backToKw pos (keywordEach [] X.env))) := by rfl) :
    PE X (.Call (.Attribute o m apos) (e :: es) [] pos) (tMeth C m sp dvs E ta t) := by
  intro pins s σ H Q I h
  refine PySem.W.methodCall_KW (pl := pl) (thn (he pins s σ H _ I h) fun u s1 ⟨x, H1, I1, rx, a, dx, fs, ex, ea, l, q⟩ => ?_) ht
  subst ex
  obtain rfl : u = Value.ref a := rx
  refine getmeth_ok I1 ea c hm l ?_
  refine PySem.W.callWith_K (first := [.ref a]) (h₀ := X.base) I.ok.mod.kin hm.kp (thn (ha pos pins s1 σ H1 _ I1 q) fun us s2 ⟨vs, H2, I2, r, q2⟩ => ⟨I2.kIn, ?_⟩) hst hpl
  exact run_fn (us := .ref a :: us) (vs := .ref a :: vs) F hr hb hd hx I2 (.cons rfl r) q2
theorem qO {pl : Sem Bool} (he : PE X o ta) (c : Cls X.K C) (hm : Meth X.K C m f) (F : FnOk X.prog X.w X.K X.mg X.base CX k f fd ps sp) (hr : Room k X.A) (hb : Binds X.K fd ps ds) (hd : Vals dvs ds) (hx : Passes CX X E)
    (ht : eval (.Call (.Attribute o m apos) [] [] pos) X.env = (do
      let ov <- eval o X.env
      standAt apos.atName
      let (f, first) <- holding [ov] (getMethod ov m pl)
      callWith pos f first (backTo pos (starEach [] X.env)) (backToKw pos (keywordEach [] X.env))) := by rfl) :
    PE X (.Call (.Attribute o m apos) [] [] pos) (tMeth C m sp dvs E ta tNil) := by
  intro pins s σ H Q I h
  refine PySem.W.methodCall_KW (pl := pl) (thn (he pins s σ H _ I h) fun u s1 ⟨x, H1, I1, rx, a, dx, fs, ex, ea, l, q⟩ => ?_) ht
  subst ex
  obtain rfl : u = Value.ref a := rx
  refine getmeth_ok I1 ea c hm l ?_
  exact PySem.W.callWith_K0 (first := [.ref a]) I1.kIn hm.kp (run_fn (us := [.ref a]) (vs := [.ref a]) F hr hb hd hx I1 (.cons rfl .nil) q)
structure Mk (K : PySem.W.Frag) (C f : Addr) : Prop where
  makes : PySem.W.makesIn K C = true
  init : PySem.W.findIn K (.ref C) "__init__" = some (some (.ref f))
  fn : PySem.W.isFn K (.ref f) = true
  kp : PySem.W.keepIn K (.ref C) = true
theorem run_make {pins : List (Addr × Obj)} {σ : St} {H : Hp} {s : Shared} {Q : VK} {us : List Value} {vs : List V} (M : Mk X.K C f) (F : FnOk X.prog X.w X.K X.mg X.base CX k f fd ps sp) (hr : Room (k + 1) X.A) (hb : Binds X.K fd ps ds) (hd : Vals dvs ds)
    (hx : Passes CX X E) (I : Inv X pins σ H s) (r : Vals vs us)
    (h : ∀ x dx, H x = none -> H dx = none -> dx ≠ x -> sp (.ref x :: (vs ++ dvs)) (upd (upd H dx (.own x)) x (.ins C dx [])) (fun v H2 => v = .non /\ Q (.ref x) H2) E) :
    wpAny (model X.prog X.w) X.A (call (.ref C) us) (EP X pins σ Q) X.xe s := by
  have hq := h (s.heap.objs.size + 1) s.heap.objs.size (I.hok.fresh (Nat.le_succ _)) (I.hok.fresh (Nat.le_refl _)) (Nat.ne_of_lt (Nat.lt_succ_self _))
  have I2 := Inv.made (C := C) I
  have r2 : Vals (V.ref (s.heap.objs.size + 1) :: (vs ++ dvs)) (Value.ref (s.heap.objs.size + 1) :: (us ++ ds)) := .cons rfl (r.append hd)
  have hl : (Value.ref (s.heap.objs.size + 1) :: us ++ ds).length = ps.length := by
    have e := r2.length
    rw [F.len _ _ _ _ hq] at e
    exact e.symm
  refine wpAny_call (make_map (f := f) I.kIn M.makes M.init (beq_iff_eq.mp M.fn) (codeAny_mono (F.run _ X.stack _ _ ⟨Value.ref (s.heap.objs.size + 1) :: us, []⟩ (Value.ref (s.heap.objs.size + 1) :: (us ++ ds)) _ _ E (hr.make C us [])
    (I2.env0.make C us []) (hb _ (Value.ref (s.heap.objs.size + 1) :: us) I2.kIn hl) r2 hq) fun r s' hq' => ?_))
  cases r with
  | error e => exact hx pins σ _ _ e s' I2 hq'
  | ok fl =>
    cases fl with
    | ret u =>
      obtain ⟨v, H', I3, rv, ev, q3⟩ := I2.after hq'
      subst ev
      exact ⟨rv, ⟨V.ref (s.heap.objs.size + 1), H', I3, rfl, q3⟩⟩
    | next => exact False.elim hq'
    | brk => exact False.elim hq'
    | cont => exact False.elim hq'
theorem pe_make (M : Mk X.K C f) (F : FnOk X.prog X.w X.K X.mg X.base CX k f fd ps sp) (hr : Room (k + 1) X.A) (hg : Gl X x) (hm : X.mg x = some (.ref C)) (hb : Binds X.K fd ps ds) (hd : Vals dvs ds) (hx : Passes CX X E)
    (ha : PA X (e :: es) t) (hdb : (x == ("__debug__" : Str)) = false := by decide) (he : starEach (e :: es) X.env = (false, eval e X.env) :: starEach es X.env := by rfl) (hpl : (backTo pos (starEach es X.env)).any (·.1) = false := by rfl) :
    PE X (.Call (.Name x p) (e :: es) [] pos) (tMake C sp dvs E t) := by
  intro pins s σ H Q I h
  refine wpAny_Call_Name_kw (ld_glob I hg hm ?_ hdb)
  refine PySem.W.callWith_K (h₀ := X.base) I.ok.mod.kin M.kp (thn (ha pos pins s σ H _ I h) fun us s1 ⟨vs, H1, I1, r, q⟩ => ⟨I1.kIn, ?_⟩) he hpl
  exact run_make M F hr hb hd hx I1 r q
theorem pe_make0 (M : Mk X.K C f) (F : FnOk X.prog X.w X.K X.mg X.base CX k f fd ps sp) (hr : Room (k + 1) X.A) (hg : Gl X x) (hm : X.mg x = some (.ref C)) (hb : Binds X.K fd ps ds) (hd : Vals dvs ds) (hx : Passes CX X E)
    (hdb : (x == ("__debug__" : Str)) = false := by decide) : PE X (.Call (.Name x p) [] [] pos) (tMake C sp dvs E tNil) := by
  intro pins s σ H Q I h
  refine wpAny_Call_Name_kw (ld_glob I hg hm ?_ hdb)
  exact PySem.W.callWith_K0 I.kIn M.kp (run_make (us := []) M F hr hb hd hx I .nil h)
end
section
variable {X : Cx} {CX : CXT} {k : Nat} {f C : Addr} {fd : FuncData} {ps ks : List Str} {sp : Sp} {E : XK} {x m : Str} {p pos apos kpos : Pos} {e o : Expr} {es : List Expr} {kws : List Keyword} {te ta : TE} {t tk : TA} {nm : Option Str}
variable {g : List Value -> List Value -> List Value} {gV : List V -> List V -> List V}
end
structure FnScope (N P : List Str) (sc : Scope) : Prop where
  kind : sc.kind = .function
  co : sc.isCoroutine = false
  gen : sc.isGenerator = false
  nd : N.Nodup
  pre : N.take P.length = P
  par : ∀ x ∈ P, sc.names.lookup x = some .local ∨ sc.names.lookup x = some .cell
  nofree : ∀ y ∈ sc.names, y.2 ≠ .free
theorem bindL_out {kindOf : Str -> Option NameKind} {x : Str} : ∀ {binds : List (Str × Value)} {m : Str -> Option Value}, (∀ v, (x, v) ∉ binds) -> bindL kindOf binds m x = m x
  | [], _, _ => rfl
  | (n, v) :: r, m, h => by
    unfold bindL
    rw [bindL_out fun w hw => h w (List.mem_cons_of_mem _ hw)]
    split
    · have : x ≠ n := by rintro rfl; exact h v List.mem_cons_self
      simp [this]
    · rfl
theorem bindC_out {kindOf : Str -> Option NameKind} {x : Str} : ∀ {binds : List (Str × Value)} {m : Str -> Option Value}, (∀ v, (x, v) ∉ binds) -> bindC kindOf binds m x = m x
  | [], _, _ => rfl
  | (n, v) :: r, m, h => by
    unfold bindC
    rw [bindC_out fun w hw => h w (List.mem_cons_of_mem _ hw)]
    split
    · rfl
    · have : x ≠ n := by rintro rfl; exact h v List.mem_cons_self
      simp [this]
theorem bindL_get {kindOf : Str -> Option NameKind} {x : Str} {v : Value} : ∀ {P : List Str} {vs : List Value} {i : Nat} {m : Str -> Option Value}, P.Nodup -> P[i]? = some x -> vs[i]? = some v -> kindOf x = some .local ->
    bindL kindOf (P.zip vs) m x = some v
  | [], _, _, _, _, h, _, _ => by simp at h
  | _ :: _, [], _, _, _, _, h, _ => by simp at h
  | p :: P, w :: vs, 0, m, nd, h1, h2, hk => by
    simp at h1 h2; subst h1; subst h2
    show bindL kindOf ((p, w) :: P.zip vs) m p = _
    unfold bindL
    rw [bindL_out fun v hv => (List.nodup_cons.mp nd).1 (List.of_mem_zip hv).1, if_pos hk]
    simp
  | p :: P, w :: vs, i + 1, m, nd, h1, h2, hk => by
    show bindL kindOf ((p, w) :: P.zip vs) m x = _
    unfold bindL
    exact bindL_get (i := i) (List.nodup_cons.mp nd).2 (by simpa using h1) (by simpa using h2) hk
theorem bindC_get {kindOf : Str -> Option NameKind} {x : Str} {v : Value} : ∀ {P : List Str} {vs : List Value} {i : Nat} {m : Str -> Option Value}, P.Nodup -> P[i]? = some x -> vs[i]? = some v -> kindOf x ≠ some .local ->
    bindC kindOf (P.zip vs) m x = some v
  | [], _, _, _, _, h, _, _ => by simp at h
  | _ :: _, [], _, _, _, _, h, _ => by simp at h
  | p :: P, w :: vs, 0, m, nd, h1, h2, hk => by
    simp at h1 h2; subst h1; subst h2
    show bindC kindOf ((p, w) :: P.zip vs) m p = _
    unfold bindC
    rw [bindC_out fun v hv => (List.nodup_cons.mp nd).1 (List.of_mem_zip hv).1, if_neg hk]
    simp
  | p :: P, w :: vs, i + 1, m, nd, h1, h2, hk => by
    show bindC kindOf ((p, w) :: P.zip vs) m x = _
    unfold bindC
    exact bindC_get (i := i) (List.nodup_cons.mp nd).2 (by simpa using h1) (by simpa using h2) hk
def start (N : List Str) (vs : List V) : St := vs.map some ++ List.replicate (N.length - vs.length) none
def cxOf (CX : CXT) (P : Program) (w : World) (K : PySem.W.Frag) (mg : Str -> Option Value) (base : Heap) (N : List Str) (qual : Str) (scope : Scope) (f : Addr) (cd : Value) (A : Around) (outer : List Env) (s : Shared) (H : Hp) (E : XK) : Cx where
  prog := P
  w := w
  K := K
  mg := mg
  base := base
  A := A.deeper (envOfC qual scope s.heap.objs.size f cd)
  N := N
  s_0 := s
  H_0 := H
  env := envOfC qual scope s.heap.objs.size f cd
  outer := outer
  stack := envOfC qual scope s.heap.objs.size f cd :: outer
  ex := []
  calm := true
  fn := fun _ => true
  pn := []
  xe := fun e s' => wpAny (model P w) (A.deeper (envOfC qual scope s.heap.objs.size f cd)) (leaving (envOfC qual scope s.heap.objs.size f cd) e) (fun _ s'' => CX outer H s E e s'') (fun e' s'' => CX outer H s E e' s'') s'
theorem cell_has {sc : Scope} {n : Nat} {x : Str} (h : sc.names.lookup x = some .cell) : ∃ c, (cellsFrom n sc.names []).lookup x = some c := by
  have q := PySem.W.cellsFrom_some sc.names n [] (.inl h)
  exact Option.isSome_iff_exists.mp q
theorem inv_start {CX : CXT} {P : Program} {w : World} {K : PySem.W.Frag} {mg : Str -> Option Value} {base : Heap} {N ps : List Str} {qual : Str} {scope : Scope} {f : Addr} {cd : Value} {A : Around} {outer : List Env} {s s1 : Shared} {H : Hp} {E : XK} {us : List Value} {vs : List V}
    (S : FnScope N ps scope) (hd : A.handled = none) (e0 : Env0 P w K mg base A outer s H) (hl : vs.length = ps.length) (r : Vals vs us)
    (x : InCallC s s.heap.objs.size (bindL (envOfC qual scope s.heap.objs.size f cd).kindOf (ps.zip us) fun _ => none) (cellsFrom (s.heap.objs.size + 1) scope.names []) (bindC (envOfC qual scope s.heap.objs.size f cd).kindOf (ps.zip us) fun _ => none) s1) :
    Inv (cxOf CX P w K mg base N qual scope f cd A outer s H E) [] (start N vs) H s1 := by
  have hpl : ps.length <= N.length := by have := congrArg List.length S.pre; rw [List.length_take] at this; omega
  obtain ⟨h1, tk, rfl, hk⟩ := x.done
  have noA : ∀ b : Addr, b ∉ (cxOf CX P w K mg base N qual scope f cd A outer s H E).ex := fun b z => absurd (show b ∈ ([] : List Addr) from z) (by simp)
  refine ⟨⟨e0.mod, S.kind, rfl, rfl, Nat.le_refl _, fun y z c h1 h2 => ?_, fun y hy => ?_, fun y c _ h => ?_, fun _ => hd, Around.frames_deeper e0.frames, .inr ⟨rfl, rfl⟩, fun b z => absurd z (noA b), e0.bs, e0.bsz, fun b _ _ => noA b, fun b z => absurd z (noA b), e0.funs, e0.frf⟩,
    rfl, e0.bare, Un.kept hk, ⟨_, x.toInCall.ns, fun i y v h1 h2 h3 => ?_⟩, fun y c h => ⟨_, x.cell y c h⟩, e0.hok.fresh (Nat.le_refl _), fun y c h => ?_, fun p hp => absurd (show p ∈ ([] : List (Addr × Obj)) from hp) (by simp), e0.hok.kept hk, ?_⟩
  · exact name_of_addr x.apart (PySem.mem_of_lookup h1) (PySem.mem_of_lookup h2)
  · have hy : scope.names.lookup y = some .cell ∨ scope.names.lookup y = some .free := hy
    rcases hy with hy | hy
    · exact cell_has hy
    · exact absurd rfl (S.nofree _ (PySem.mem_of_lookup hy))
  · exact Nat.le_of_lt (x.above y c (PySem.mem_of_lookup h))
  · have hi : i < vs.length := by
      unfold start at h2
      by_cases hi : i < vs.length
      · exact hi
      · rw [List.getElem?_append_right (by simpa using hi)] at h2
        rw [List.getElem?_replicate] at h2
        split at h2 <;> cases h2
    have ha : vs[i]? = some v := by
      unfold start at h2
      rw [List.getElem?_append_left (by simpa using hi), List.getElem?_map] at h2
      cases e : vs[i]? with
      | none => rw [e] at h2; cases h2
      | some a => rw [e] at h2; cases h2; rfl
    obtain ⟨u, hu, rv⟩ := r.get ha
    have hp : ps[i]? = some y := by
      rw [<- S.pre, List.getElem?_take_of_lt (by omega)]; exact h1
    have ndP : ps.Nodup := by rw [<- S.pre]; exact S.nd.sublist (List.take_sublist _ _)
    refine ⟨u, rv, ?_⟩
    rcases S.par y (List.mem_of_getElem? hp) with k | k
    · exact .inl ⟨k, bindL_get ndP hp hu k⟩
    · obtain ⟨c, e⟩ := cell_has (n := s.heap.objs.size + 1) k
      refine .inr ⟨.inl k, c, e, ?_⟩
      have q := x.cell y c e
      rw [bindC_get ndP hp hu (by show scope.names.lookup y ≠ _; rw [k]; decide)] at q
      exact q
  · exact e0.hok.fresh (Nat.le_of_lt (x.above y c (PySem.mem_of_lookup h)))
  · unfold start
    show _ = N.length
    rw [List.length_append, List.length_map, List.length_replicate]
    omega
theorem fn_of {CX : CXT} {P : Program} {w : World} {K : PySem.W.Frag} {mg : Str -> Option Value} {base : Heap} {k : Nat} {f : Addr} {name qual : Str} {params : Arguments} {body : List Stmt} {scope : Scope} {dV kV doc pm cdv ct oc : Value} {an od : Option Addr}
    {osl : Array (Option Value)} {N ps : List Str} {sp : Sp} (lk : K.lookup f = some ⟨oc, od, .func (PySem.W.fnOf name qual params body scope dV kV doc pm an cdv ct), osl⟩) (hcd : PySem.W.codeIn K cdv qual = true) (S : FnScope N ps scope)
    (len : ∀ vs H Q E, sp vs H Q E -> vs.length = ps.length)
    (hbody : ∀ (A : Around) (outer : List Env) (s : Shared) (H : Hp) (vs : List V) (Q : VK) (E : XK), Room k (A.deeper (envOfC qual scope s.heap.objs.size f cdv)) -> sp vs H Q E ->
      ∃ t, PSs (cxOf CX P w K mg base N qual scope f cdv A outer s H E) body t /\ t { nx := fun _ H' => Q .non H', rt := Q } (start N vs) H) :
    FnOk P w K mg base CX (k + 1) f (PySem.W.fnOf name qual params body scope dV kV doc pm an cdv ct) ps sp := by
  refine ⟨len, fun A outer s H args us vs Q E hr e0 hb r hsp => ?_⟩
  have hl := len _ _ _ _ hsp
  have KX : K.In s.heap := e0.mod.kin.keeps fun b o e => (e0.bs b o e).1
  have lim : s.heap.NoLimit := e0.mod.nolimit.keeps fun b o e => (e0.bs b o e).1
  have hkind : ∀ y ∈ ps.zip us, scope.names.lookup y.1 = some .local ∨ (scope.names.lookup y.1 = some .cell /\ ((cellsFrom (s.heap.objs.size + 1) scope.names []).lookup y.1).isSome = true) := fun ⟨n, v⟩ hy => by
    rcases S.par n (List.of_mem_zip hy).1 with q | q
    · exact .inl q
    · exact .inr ⟨q, PySem.W.cellsFrom_some _ _ _ (.inl q)⟩
  refine codeAny_call_function hr.depth (KX _ _ lk) rfl S.co S.gen rfl (PySem.W.codeRec_of KX hcd) (hb _ _ _ _ ?_)
  refine wpAny_newFunctionEnv_cells S.kind hkind fun env he s1 x => ?_
  subst he
  refine ⟨lim.keeps x.toInCall.keep, codeAny_func ?_⟩
  obtain ⟨t, ht, hq⟩ := hbody A outer s H vs Q E (hr.deeper _) hsp
  have I : Inv (cxOf CX P w K mg base N qual scope f cdv A outer s H E) [] (start N vs) H s1 := inv_start S hr.hd e0 hl r x
  refine wpAny_mono (ht [] s1 (start N vs) H _ I hq) (fun fl s' hs => ?_) fun e s' hs => hs
  have fin : ∀ {σ' : St} {H' : Hp} {v : V} {u : Value}, Inv (cxOf CX P w K mg base N qual scope f cdv A outer s H E) [] σ' H' s' -> qN v u -> Q v H' -> CE outer P w H s Q u s' :=
    fun {σ' H' v u} J rv q => ⟨v, H', J.os, J.bare, J.base, J.hok, rv, q⟩
  cases fl with
  | ret u =>
    obtain ⟨v, σ', H', J, rv, q⟩ := hs
    exact fin J rv q
  | next =>
    obtain ⟨σ', H', J, q⟩ := hs
    exact fin (v := V.non) (u := Value.none) J rfl q
  | brk =>
    obtain ⟨_, _, _, q⟩ := hs
    exact False.elim q
  | cont =>
    obtain ⟨_, _, _, q⟩ := hs
    exact False.elim q
end L2
namespace L2
open PySem PySem.Spec PyProof.Rows
section
variable {X : Cx} {x : Str} {p pos : Pos} {e : Expr} {es : List Expr} {t : TA} {id T : String} {r : List V -> Hp -> VK -> Prop}
def tCB (r : List V -> Hp -> VK -> Prop) (t : TA) : TE := fun σ H Q => t σ H fun vs H1 => r vs H1 Q
theorem pe_callB (hc : CallR X (.builtin id) r) (hg : Gl X x) (hm : X.mg x = none) (hv : bootBuiltins x = some (.builtin id)) (ha : PA X (e :: es) t) (hn : x ≠ "__name__" := by decide) (hdb : (x == ("__debug__" : Str)) = false := by decide)
    (he : starEach (e :: es) X.env = (false, eval e X.env) :: starEach es X.env := by rfl) (hpl : (backTo pos (starEach es X.env)).any (·.1) = false := by rfl) : PE X (.Call (.Name x p) (e :: es) [] pos) (tCB r t) := by
  intro pins s σ H Q I h
  refine wpAny_Call_Name_kw (ld_blt I hg hm hv ?_ hn hdb)
  exact PyProof.Rows.callWith_builtin1 (thn (ha pos pins s σ H _ I h) fun us s1 ⟨vs, H1, I1, r1, q1⟩ => hc pins s1 σ H1 vs us Q I1 r1 q1) he hpl
theorem pe_callTy (hc : CallR X (.type T) r) (hg : Gl X x) (hm : X.mg x = none) (hv : bootBuiltins x = some (.type T)) (ha : PA X (e :: es) t) (hn : x ≠ "__name__" := by decide) (hdb : (x == ("__debug__" : Str)) = false := by decide)
    (he : starEach (e :: es) X.env = (false, eval e X.env) :: starEach es X.env := by rfl) (hpl : (backTo pos (starEach es X.env)).any (·.1) = false := by rfl) : PE X (.Call (.Name x p) (e :: es) [] pos) (tCB r t) := by
  intro pins s σ H Q I h
  refine wpAny_Call_Name_kw (ld_blt I hg hm hv ?_ hn hdb)
  exact PyProof.Rows.callWith_type1 (thn (ha pos pins s σ H _ I h) fun us s1 ⟨vs, H1, I1, r1, q1⟩ => hc pins s1 σ H1 vs us Q I1 r1 q1) he hpl
end
end L2
namespace HT
open PySem PyProof.Rows
section
open PySem.SeqAt
open PySem.AutoSeq1 (wpAny_loadPart')
open PySem.MeetsSeq PySem.MeetsSeq2 PySem.MeetsSeq3
end
section
variable {prog : Program} {w : World} {A : Around} {E : Value -> Shared -> Prop} {s : Shared}
def sIx (n d : Nat) : Option Int -> Nat
  | none => d
  | some v => if v < 0 then (v + (n : Int)).toNat else min v.toNat n
theorem sIx_none (n d : Nat) : sIx n d none = d := rfl
theorem sIx_nat (n d k : Nat) : sIx n d (some (k : Int)) = min k n := by
  show (if (k : Int) < 0 then ((k : Int) + (n : Int)).toNat else min (k : Int).toNat n) = min k n
  rw [if_neg (by omega), Int.toNat_natCast]
end
end HT
namespace L2
open PySem PySem.Spec PyProof.Rows
abbrev TO := St -> Hp -> (Option Int -> Hp -> Prop) -> Prop
def PO (X : Cx) (e : Option Expr) (t : TO) : Prop :=
  ∀ (pins : List (Addr × Obj)) (s : Shared) (σ : St) (H : Hp) (Q : Option Int -> Hp -> Prop), Inv X pins σ H s -> t σ H Q ->
    wpAny (model X.prog X.w) X.A (evalPart e X.env) (fun u s' => ∃ o H', Inv X pins σ H' s' /\ IsPart u o /\ Q o H') X.xe s
def tNoPart : TO := fun _ H Q => Q none H
def tPart (t : TE) : TO := fun σ H Q => t σ H fun x H1 => ∃ i, x = .int i /\ Q (some i) H1
section
variable {X : Cx} {e : Expr} {te : TE} {lo hi : Option Expr} {tl th : TO} {pos p2 : Pos}
theorem po_none : PO X none tNoPart := by
  intro pins s σ H Q I h
  rw [evalPart_none]
  exact wpAny_pure ⟨none, H, I, .none, h⟩
theorem po_some (h : PE X e te) : PO X (some e) (tPart te) := by
  intro pins s σ H Q I hw
  rw [evalPart_some]
  refine thn (h pins s σ H _ I hw) fun u s1 ⟨x, H1, I1, r1, q1⟩ => ?_
  obtain ⟨i, rfl, q⟩ := q1
  obtain ⟨t, rfl⟩ := r1
  exact ⟨some i, H1, I1, .int i t, q⟩
def SlR (X : Cx) (r : V -> Option Int -> Option Int -> Hp -> VK -> Prop) : Prop :=
  ∀ (pins : List (Addr × Obj)) (s : Shared) (σ : St) (H : Hp) (x : V) (v vl vu : Value) (lo hi : Option Int) (sl : Addr) (Q : VK), Inv X pins σ H s -> qN x v -> s.heap.IsSliceOf sl vl vu .none -> IsPart vl lo -> IsPart vu hi -> r x lo hi H Q ->
    ∃ T id, typeLookup (.type T) "__getitem__" = pure (some (.builtin id)) /\ s.TypeIs v T /\ wpAny (model X.prog X.w) X.A (getItem v (.ref sl)) (EP X pins σ Q) X.xe s
def tSl (r : V -> Option Int -> Option Int -> Hp -> VK -> Prop) (te : TE) (tl th : TO) : TE := fun σ H Q => te σ H fun x H1 => tl σ H1 fun l H2 => th σ H2 fun u H3 => r x l u H3 Q
theorem pe_slice {r : V -> Option Int -> Option Int -> Hp -> VK -> Prop} (hr : SlR X r) (he : PE X e te) (hl : PO X lo tl) (hu : PO X hi th) : PE X (.Subscript e (.Slice lo hi none p2) pos) (tSl r te tl th) := by
  intro pins s σ H Q I h
  refine Subscript_ (thn (he pins s σ H _ I h) fun v s1 ⟨x, H1, I1, r1, q1⟩ => ?_)
  refine wpAny_Slice (thn (hl pins s1 σ H1 _ I1 q1) fun vl s2 ⟨l, H2, I2, pl, q2⟩ => thn (hu pins s2 σ H2 _ I2 q2) fun vu s3 ⟨u, H3, I3, pu, q3⟩ => ?_)
  rw [evalPart_none]
  refine wpAny_pure ?_
  have I4 : Inv X pins σ H3 { s3 with heap := s3.heap.push { cls := .type "slice", data := .fields #[vl, vu, .none] } } := I3.kept (t' := s3.toks) fun b ob q => Heap.get?_push_of_some _ q
  obtain ⟨T, id, hT, ht, hg⟩ := hr pins { s3 with heap := s3.heap.push { cls := .type "slice", data := .fields #[vl, vu, .none] } } σ H3 x v vl vu l u s3.heap.objs.size Q I4 r1 (Heap.IsSliceOf.new ..) pl pu q3
  show wpAny (model X.prog X.w) X.A (subscriptTail e (.Slice lo hi none p2) v (.ref s3.heap.objs.size)) (EP X pins σ Q) X.xe { s3 with heap := s3.heap.push { cls := .type "slice", data := .fields #[vl, vu, .none] } }
  exact tail_any (ops := [.ref s3.heap.objs.size, v]) ht hT hg (by with_unfolding_all rfl)
def cutV (xs : List V) (lo hi : Option Int) : List V := (xs.drop (HT.sIx xs.length 0 lo)).take (HT.sIx xs.length xs.length hi - HT.sIx xs.length 0 lo)
theorem cutV_length (xs : List V) (lo hi : Option Int) : (cutV xs lo hi).length <= xs.length := by
  unfold cutV
  rw [List.length_take, List.length_drop]
  omega
end
end L2
namespace L2
open PySem PySem.Spec PyProof.Rows
def ixN (n : Nat) (i : Int) : Option Nat := if 0 <= i then (if i < n then some i.toNat else none) else if -(n : Int) <= i then some (i + n).toNat else none
def atI {α : Type} (xs : List α) (i : Int) : Option α := (ixN xs.length i).bind fun j => xs[j]?
theorem ixN_seq {n : Nat} {i : Int} {j : Nat} (h : ixN n i = some j) : seqIndex? i n = some j /\ j < n /\ -(n : Int) <= i /\ i < n := by
  unfold ixN at h
  by_cases h0 : 0 <= i
  · rw [if_pos h0] at h
    by_cases h1 : i < n
    · rw [if_pos h1] at h
      have e : i.toNat = j := Option.some.inj h
      exact ⟨by rw [seqIndex_of h0 h1, e], by omega, by omega, h1⟩
    · rw [if_neg h1] at h; cases h
  · rw [if_neg h0] at h
    by_cases h1 : -(n : Int) <= i
    · rw [if_pos h1] at h
      have e : (i + n).toNat = j := Option.some.inj h
      exact ⟨by rw [seqIndex_neg (by omega) h1, e], by omega, h1, by omega⟩
    · rw [if_neg h1] at h; cases h
theorem atI_get {α : Type} {xs : List α} {i : Int} {v : α} (h : atI xs i = some v) : ∃ j, seqIndex? i xs.length = some j /\ xs[j]? = some v /\ j < xs.length /\ -(xs.length : Int) <= i /\ i < xs.length := by
  unfold atI at h
  cases e : ixN xs.length i with
  | none => rw [e] at h; cases h
  | some j =>
    rw [e] at h
    obtain ⟨h1, h2, h3, h4⟩ := ixN_seq e
    exact ⟨j, h1, h, h2, h3, h4⟩
theorem zU {α : Type} {xs : List α} {j : Nat} {v : α} (h : xs[j]? = some v) : atI xs (j : Int) = some v := by
  have hj : j < xs.length := (List.getElem?_eq_some_iff.mp h).1
  have e : ixN xs.length (j : Int) = some j := by
    unfold ixN
    rw [if_pos (by omega), if_pos (by omega)]; simp
  unfold atI; rw [e]; exact h
theorem atI_last {α : Type} (xs : List α) (v : α) : atI (xs ++ [v]) (-1) = some v := by
  have hl : (xs ++ [v]).length = xs.length + 1 := by simp
  have e : ixN (xs ++ [v]).length (-1) = some xs.length := by
    unfold ixN
    rw [hl, if_neg (by decide), if_pos (by omega)]
    congr 1
    omega
  unfold atI
  rw [e]
  show (xs ++ [v])[xs.length]? = some v
  simp
def PlainIx (b : Expr) : Prop := ∀ o i, subscripted b false o i = operate [o, i] (getItem o i)
def IxR (X : Cx) (r : R2) : Prop :=
  ∀ (value slice : Expr) (pins : List (Addr × Obj)) (s : Shared) (σ : St) (H : Hp) (x y : V) (v u : Value) (Q : VK), Inv X pins σ H s -> qN x v -> qN y u -> r x y H Q ->
    subscripted slice false v u = operate [v, u] (getItem v u) -> wpAny (model X.prog X.w) X.A (subscriptTail value slice v u) (EP X pins σ Q) X.xe s
def MtR (X : Cx) (id : String) (r : V -> List V -> Hp -> VK -> Prop) : Prop :=
  ∀ (pins : List (Addr × Obj)) (s : Shared) (σ : St) (H : Hp) (x : V) (xs : List V) (v : Value) (us : List Value) (Q : VK), Inv X pins σ H s -> qN x v -> Vals xs us -> r x xs H Q ->
    wpAny (model X.prog X.w) X.A (call (.builtin id) (v :: us)) (EP X pins σ Q) X.xe s
section
variable {X : Cx} {a b : Expr} {ta tb : TE} {pos : Pos}
theorem qV {r : R2} (hr : IxR X r) (ha : PE X a ta) (hb : PE X b tb) (hs : PlainIx b) : PE X (.Subscript a b pos) (tOp r ta tb) := by
  intro pins s σ H Q I h
  exact Subscript_ (binT ha hb I h fun v u s2 x y H2 I2 rx ry q => hr a b pins s2 σ H2 x y v u Q I2 rx ry q (hs _ _))
def rIxL (K : PySem.W.Frag) : R2 := fun x y H Q => ∃ p xs i v, x = .ref p /\ y = .int i /\ qZ K H p xs /\ atI xs i = some v /\ Q v H
def rIxT (K : PySem.W.Frag) : R2 := fun x y H Q => ∃ p xs i v, x = .ref p /\ y = .int i /\ SqT K H p xs /\ atI xs i = some v /\ Q v H
def rIxS : R2 := fun x y H Q => ∃ z i c, x = .str z /\ y = .int i /\ z.length <= sizeLine /\ atI z.cps.toList i = some c /\ Q (.str ⟨#[c]⟩) H
theorem yB : IxR X (rIxL X.K) := by
  intro value slice pins s σ H x y v u Q I rx ry h hs
  obtain ⟨p, xs, i, z, rfl, rfl, hq, he, q⟩ := h
  cases rx
  obtain ⟨t, rfl⟩ := ry
  obtain ⟨its, r, pl, hz⟩ := I.list hq
  obtain ⟨j, h1, h2, h3, h4, h5⟩ := atI_get he
  obtain ⟨w, ew, rw'⟩ := r.get h2
  have hl := r.length
  have hn := line63
  have fin : EP X pins σ Q w s := ⟨z, H, I, rw', q⟩
  by_cases h0 : 0 <= i
  · have hj : i.toNat = j := by
      rw [seqIndex_of h0 h5] at h1
      exact Option.some.inj h1
    exact item_listR pl.isList h0 (by omega) (by rw [hj]; simpa using ew) fin hs
  · have hj : (i + (its.toArray.size : Int)).toNat = j := by
      rw [seqIndex_neg (by omega) h4] at h1
      rw [List.size_toArray, <- hl]
      exact Option.some.inj h1
    exact subscriptTail_builtinR (x := w) pl.isList.typeIs slot_list_getitem.lookup
      (wpAny_getItem_list_neg (Q := fun r s' => r = w /\ EP X pins σ Q r s') pl.isList (by omega) (by rw [List.size_toArray] <;> omega) (by omega) (by rw [hj]; simpa using ew) ⟨rfl, fin⟩) hs
theorem ix_tup : IxR X (rIxT X.K) := by
  intro value slice pins s σ H x y v u Q I rx ry h hs
  obtain ⟨p, xs, i, z, rfl, rfl, hq, he, q⟩ := h
  cases rx
  obtain ⟨t, rfl⟩ := ry
  obtain ⟨its, r, pl, hz⟩ := I.tuple hq
  obtain ⟨j, h1, h2, h3, h4, h5⟩ := atI_get he
  obtain ⟨w, ew, rw'⟩ := r.get h2
  have hl := r.length
  have hn := line63
  have fin : EP X pins σ Q w s := ⟨z, H, I, rw', q⟩
  exact subscriptTail_builtinR (x := w) pl.typeIs slot_tuple_getitem.lookup
    (getItem_tuple (j := j) (Q := fun r s' => r = w /\ EP X pins σ Q r s') pl (by omega) (by omega) (by rw [List.size_toArray, <- hl]; exact h1) (by simpa using ew) ⟨rfl, fin⟩) hs
theorem ix_str : IxR X rIxS := by
  intro value slice pins s σ H x y v u Q I rx ry h hs
  obtain ⟨z, i, c, rfl, rfl, hz, he, q⟩ := h
  obtain ⟨t, rfl⟩ := rx
  obtain ⟨t', rfl⟩ := ry
  obtain ⟨j, h1, h2, h3, h4, h5⟩ := atI_get he
  have hl : z.cps.toList.length = z.length := by simp [Str.length]
  rw [hl] at h1 h4 h5
  have hn := line63
  exact tail_any (typeIs_str s z t) slot_str_getitem.lookup (getItem_str (c := c) (by
    have e1 : decide (i < -(2 ^ 63 : Int)) = false := decide_eq_false (by omega)
    have e2 : decide (i ≥ 2 ^ 63) = false := decide_eq_false (by omega)
    rw [e1, e2, Bool.or_false]) (by rw [h1]; simpa using h2) ⟨.str ⟨#[c]⟩, H, I.tok _, ⟨_, rfl⟩, q⟩) hs
theorem mapSeq_set (its : List Value) (n j : Nat) (u : Value) : Obj.mapSeq (·.setIfInBounds j u) { cls := .type "list", data := .seq its.toArray n } = { cls := .type "list", data := .seq (its.set j u).toArray n } := by
  simp [Obj.mapSeq]
theorem Inv.lst {pins : List (Addr × Obj)} {σ : St} {H : Hp} {s : Shared} {p : Addr} {xs : List V} (I : Inv X pins σ H s) (h : H p = some (.lst xs)) :
    ∃ (its : List Value) (n : Nat), Vals xs its /\ s.heap.get? p = some { cls := .type "list", data := .seq its.toArray n } /\ xs.length <= sizeLine := by
  obtain ⟨z, its, n, r, e⟩ := I.hok p _ h
  exact ⟨its, n, r, e, z⟩
theorem Inv.lstUpd {pins : List (Addr × Obj)} {σ : St} {H : Hp} {s : Shared} {p : Addr} {xs ys : List V} {its its' : List Value} {n n' : Nat} {f : Obj -> Obj} (I : Inv X pins σ H s) (h : H p = some (.lst xs))
    (ho : s.heap.get? p = some { cls := .type "list", data := .seq its.toArray n }) (hf : f { cls := .type "list", data := .seq its.toArray n } = { cls := .type "list", data := .seq its'.toArray n' }) (r : Vals ys its') (hz : ys.length <= sizeLine) (t : Nat) :
    Inv X pins σ (upd H p (.lst ys)) { s with heap := s.heap.update p f, toks := t } := by
  have e : (s.heap.update p f).get? p = some { cls := .type "list", data := .seq its'.toArray n' } := by
    rw [Heap.get?_update_self f ho (by rw [hf] <;> rfl), hf]
  refine I.write (x := p) (e := p) (by rw [h]; trivial) (.inl rfl) (fun b u hb q => (Heap.get?_update_other _ _ (Ne.symm hb)).trans q) ⟨_, e⟩ ?_
  exact ⟨hz, its', n', r, e⟩
def rSetL : V -> V -> V -> Hp -> (Hp -> Prop) -> Prop := fun o i v H Q => ∃ p xs k j, o = .ref p /\ i = .int k /\ H p = some (.lst xs) /\ ixN xs.length k = some j /\ Q (upd H p (.lst (xs.set j v)))
theorem set_list : PSet X rSetL := by
  intro pins s σ H o i v ov iv u Q I ro ri rv h
  obtain ⟨p, xs, k, j, rfl, rfl, hp, hj, q⟩ := h
  cases ro
  obtain ⟨t, rfl⟩ := ri
  obtain ⟨its, n, r, ho, hz⟩ := I.lst hp
  obtain ⟨h1, h2, h3, h4⟩ := ixN_seq hj
  have hl := r.length
  have hn := line63
  have I' : Inv X pins σ (upd H p (.lst (xs.set j v))) { s with heap := s.heap.update p (Obj.mapSeq (·.setIfInBounds j u)) } :=
    I.lstUpd hp ho (mapSeq_set its n j u) (r.set rv j) (by rw [List.length_set]; exact hz) s.toks
  by_cases h0 : 0 <= k
  · have hk : k.toNat = j := by
      rw [seqIndex_of h0 h4] at h1
      exact Option.some.inj h1
    exact PySem.W.ki_setAt ho h0 (by omega) (by rw [List.size_toArray, <- hl]; exact h4) (by rw [hk]; exact ⟨_, I', q⟩)
  · have hk : (k + (its.toArray.size : Int)).toNat = j := by
      rw [seqIndex_neg (by omega) h3] at h1
      rw [List.size_toArray, <- hl]
      exact Option.some.inj h1
    exact PySem.W.ki_setBack ho (by omega) (by rw [List.size_toArray, <- hl]; exact h3) (by omega) (by rw [hk]; exact ⟨_, I', q⟩)
theorem slice_bounds (lo hi : Option Int) (n : Nat) : (sliceBounds lo hi none n).1 = ((HT.sIx n 0 lo : Nat) : Int) /\ (sliceBounds lo hi none n).2.1 = ((HT.sIx n n hi : Nat) : Int) /\ (sliceBounds lo hi none n).2.2 = 1 := by
  refine ⟨?_, ?_, rfl⟩
  · cases lo with
    | none => simp [sliceBounds, HT.sIx]
    | some i =>
      simp only [sliceBounds, HT.sIx, Option.getD_none, show (1 : Int) > 0 by decide, if_true]
      by_cases h : i < 0
      · simp only [h, if_true] <;> omega
      · simp only [h, if_false] <;> omega
  · cases hi with
    | none => simp [sliceBounds, HT.sIx]
    | some i =>
      simp only [sliceBounds, HT.sIx, Option.getD_none, show (1 : Int) > 0 by decide, if_true]
      by_cases h : i < 0
      · simp only [h, if_true] <;> omega
      · simp only [h, if_false] <;> omega
theorem slicePick_cut (its : List Value) (lo hi : Option Int) : slicePick its.toArray lo hi none = ((its.drop (HT.sIx its.length 0 lo)).take (HT.sIx its.length its.length hi - HT.sIx its.length 0 lo)).toArray := by
  obtain ⟨h1, h2, h3⟩ := slice_bounds lo hi its.toArray.size
  unfold slicePick
  rw [h1, h2, h3]
  simp only [sliceRange_one, pick_run, List.size_toArray] <;> rfl
def rSlL (K : PySem.W.Frag) : V -> Option Int -> Option Int -> Hp -> VK -> Prop := fun x lo hi H Q => ∃ a xs, x = .ref a /\ qZ K H a xs /\ ∀ p, H p = none -> Q (.ref p) (upd H p (.lst (cutV xs lo hi)))
theorem sl_list : SlR X (rSlL X.K) := by
  intro pins s σ H x v vl vu lo hi sl Q I rx hs pl pu h
  obtain ⟨a, xs, rfl, hx, q⟩ := h
  cases rx
  obtain ⟨its, r, ht, hz⟩ := I.list hx
  have hlen := r.length
  refine ⟨"list", _, slot_list_getitem.lookup, ht.isList.typeIs, ?_⟩
  refine wpAny_getItem_list_slice ht.isList hs pl pu .none (by simp) ?_ (by rw [List.size_toArray] <;> omega)
  rw [slicePick_cut, <- hlen]
  refine ⟨.ref s.heap.objs.size, _, I.laid (t' := s.toks) (o := .lst (cutV xs lo hi)) (fun b ob q => Heap.get?_push_of_some _ q) (Nat.le_refl _) ?_, rfl, q _ (I.hok.fresh (Nat.le_refl _))⟩
  exact ⟨Nat.le_trans (cutV_length xs lo hi) hz, _, 0, (r.drop (HT.sIx xs.length 0 lo)).take (HT.sIx xs.length xs.length hi - HT.sIx xs.length 0 lo), Heap.get?_push_size _ rfl⟩
def flatV : V -> Bool
  | .non => true
  | .bl _ => true
  | .int _ => true
  | .str _ => true
  | _ => false
def eqV : V -> V -> Bool
  | .non, .non => true
  | .bl a, .bl b => a == b
  | .bl a, .int b => (if a then 1 else 0) == b
  | .int a, .bl b => a == (if b then 1 else 0)
  | .int a, .int b => a == b
  | .str a, .str b => a == b
  | _, _ => false
theorem eqAt_V {A : Around} {s : Shared} {y x : V} {u v : Value} (ry : qN y u) (rx : qN x v) (fy : flatV y = true) (fx : flatV x = true) : SeqAt.EqAt A s u v (eqV y x) := by
  cases y with
  | non =>
    cases ry
    cases x with
    | non => cases rx; exact SeqAt.EqAt.same _
    | bl b => cases rx; exact SeqAt.EqAt.none_bool b
    | int b => obtain ⟨t, rfl⟩ := rx; exact SeqAt.EqAt.none_int b t
    | str b => obtain ⟨t, rfl⟩ := rx; exact SeqAt.EqAt.none_str b t
    | _ => exact absurd (show false = true from fx) Bool.false_ne_true
  | bl a =>
    cases ry
    cases x with
    | non => cases rx; exact SeqAt.EqAt.bool_none a
    | bl b => cases rx; exact SeqAt.EqAt.bool_bool a b
    | int b => obtain ⟨t, rfl⟩ := rx; exact SeqAt.EqAt.bool_int a b t
    | str b => obtain ⟨t, rfl⟩ := rx; exact SeqAt.EqAt.bool_str a b t
    | _ => exact absurd (show false = true from fx) Bool.false_ne_true
  | int a =>
    obtain ⟨t', rfl⟩ := ry
    cases x with
    | non => cases rx; exact SeqAt.EqAt.int_none a t'
    | bl b => cases rx; exact SeqAt.EqAt.int_bool a t' b
    | int b => obtain ⟨t, rfl⟩ := rx; exact SeqAt.EqAt.int_int a t' b t
    | str b => obtain ⟨t, rfl⟩ := rx; exact SeqAt.EqAt.int_str a t' b t
    | _ => exact absurd (show false = true from fx) Bool.false_ne_true
  | str a =>
    obtain ⟨t', rfl⟩ := ry
    cases x with
    | non => cases rx; exact SeqAt.EqAt.str_none a t'
    | bl b => cases rx; exact SeqAt.EqAt.str_bool a t' b
    | int b => obtain ⟨t, rfl⟩ := rx; exact SeqAt.EqAt.str_int a t' b t
    | str b => obtain ⟨t, rfl⟩ := rx; exact SeqAt.EqAt.str_str a t' b t
    | _ => exact absurd (show false = true from fx) Bool.false_ne_true
  | _ => exact absurd (show false = true from fy) Bool.false_ne_true
def eqU (x : V) (u : Value) : Bool := match u with
  | .none => eqV .non x
  | .bool b => eqV (.bl b) x
  | .int i _ => eqV (.int i) x
  | .str z _ => eqV (.str z) x
  | _ => false
theorem eqU_of {x y : V} {u : Value} (r : qN y u) (f : flatV y = true) : eqU x u = eqV y x := by
  cases y with
  | non => cases r; rfl
  | bl b => cases r; rfl
  | int i => obtain ⟨t, rfl⟩ := r; rfl
  | str z => obtain ⟨t, rfl⟩ := r; rfl
  | _ => exact absurd (show false = true from f) Bool.false_ne_true
theorem any_eqU {x : V} : ∀ {xs : List V} {us : List Value}, Vals xs us -> xs.all flatV = true -> us.any (eqU x) = xs.any fun y => eqV y x
  | _, _, .nil, _ => rfl
  | y :: xs, u :: us, .cons r t, f => by
    rw [List.all_cons, Bool.and_eq_true] at f
    rw [List.any_cons, List.any_cons, eqU_of r f.1, any_eqU t f.2]
theorem mem_eqAt {A : Around} {s : Shared} {x : V} {v : Value} (rx : qN x v) (fx : flatV x = true) : ∀ {xs : List V} {us : List Value}, Vals xs us -> xs.all flatV = true -> ∀ u ∈ us, SeqAt.EqAt A s u v (eqU x u)
  | _, _, .nil, _ => fun u hu => by cases hu
  | y :: xs, u :: us, .cons r t, f => fun u' hu => by
    rw [List.all_cons, Bool.and_eq_true] at f
    rcases List.mem_cons.mp hu with rfl | hu
    · rw [eqU_of r f.1]; exact eqAt_V r rx f.1 fx
    · exact mem_eqAt rx fx t f.2 u' hu
def inV (x : V) (xs : List V) : Bool := xs.any fun y => eqV y x
def rIn (K : PySem.W.Frag) (neg : Bool) : R2 := fun x y H Q => ∃ p xs, y = .ref p /\ (qZ K H p xs ∨ SqT K H p xs) /\ flatV x = true /\ xs.all flatV = true /\ Q (.bl (if neg then !inV x xs else inV x xs)) H
theorem op_in_seq : OpR X (compareOp .In) (rIn X.K false) := by
  intro pins s σ H x y v u Q I rx ry h
  obtain ⟨p, xs, rfl, hq, fx, fs, q⟩ := h
  cases ry
  rcases hq with hq | hq
  · obtain ⟨its, r, pl, hz⟩ := I.list hq
    refine SeqAt.in_listAt (eqU x) pl.isList (fun w hw => mem_eqAt rx fx r fs w (by simpa using hw)) ⟨.bl _, H, I, rfl, ?_⟩
    rw [show its.toArray.any (eqU x) = its.any (eqU x) by simp, any_eqU r fs]
    exact q
  · obtain ⟨its, r, pl, hz⟩ := I.tuple hq
    refine SeqAt.in_tupleAt (eqU x) pl (fun w hw => mem_eqAt rx fx r fs w (by simpa using hw)) ⟨.bl _, H, I, rfl, ?_⟩
    rw [show its.toArray.any (eqU x) = its.any (eqU x) by simp, any_eqU r fs]
    exact q
theorem op_notIn_seq : OpR X (compareOp .NotIn) (rIn X.K true) := by
  intro pins s σ H x y v u Q I rx ry h
  obtain ⟨p, xs, rfl, hq, fx, fs, q⟩ := h
  cases ry
  rcases hq with hq | hq
  · obtain ⟨its, r, pl, hz⟩ := I.list hq
    refine SeqAt.notIn_listAt (eqU x) pl.isList (fun w hw => mem_eqAt rx fx r fs w (by simpa using hw)) ⟨.bl _, H, I, rfl, ?_⟩
    rw [show its.toArray.any (eqU x) = its.any (eqU x) by simp, any_eqU r fs]
    exact q
  · obtain ⟨its, r, pl, hz⟩ := I.tuple hq
    refine SeqAt.notIn_tupleAt (eqU x) pl (fun w hw => mem_eqAt rx fx r fs w (by simpa using hw)) ⟨.bl _, H, I, rfl, ?_⟩
    rw [show its.toArray.any (eqU x) = its.any (eqU x) by simp, any_eqU r fs]
    exact q
theorem call_len_seq : CallR X (.builtin "len") (fun xs H Q => ∃ p ys, xs = [.ref p] /\ (qZ X.K H p ys ∨ SqT X.K H p ys) /\ Q (.int ys.length) H) := by
  intro pins s σ H xs us Q I r h
  obtain ⟨p, ys, rfl, hq, q⟩ := h
  obtain ⟨u, rfl, rx⟩ := vals1 r
  cases rx
  have hn := line63
  rcases hq with hq | hq
  · obtain ⟨its, r', pl, hz⟩ := I.list hq
    have hlen := r'.length
    exact Calls.call_len_list pl.isList (by simp only [List.size_toArray] <;> omega) ⟨.int ys.length, H, I.tok _, ⟨s.toks + 1, by rw [List.size_toArray, hlen]⟩, q⟩
  · obtain ⟨its, r', pl, hz⟩ := I.tuple hq
    have hlen := r'.length
    exact len_tuple pl (by simp only [List.size_toArray] <;> omega) ⟨.int ys.length, H, I.tok _, ⟨s.toks + 1, by rw [List.size_toArray, hlen]⟩, q⟩
def tyV (K : PySem.W.Frag) (T : String) (x : V) (H : Hp) : Prop := match x with
  | .str _ => T = "str"
  | .int _ => T = "int"
  | .ref p => (T = "list" /\ ∃ xs, qZ K H p xs) ∨ (T = "tuple" /\ ∃ o, K.lookup p = some o /\ o.cls = .type "tuple" /\ o.dict = none) ∨
      (T = "dict" /\ ((∃ kvs, H p = some (.dK kvs)) ∨ ∃ kvs, H p = some (.dT kvs))) ∨ (T = "set" /\ ∃ S n, H p = some (.set S n))
  | _ => False
theorem tyV_is {pins : List (Addr × Obj)} {σ : St} {H : Hp} {s : Shared} {T : String} {x : V} {v : Value} (I : Inv X pins σ H s) (r : qN x v) (ty : tyV X.K T x H) :
    s.TypeIs v T /\ ∀ a, v = .ref a -> ∃ ob, s.heap.get? a = some ob /\ ob.dict = none := by
  cases x with
  | str z =>
    obtain ⟨t, rfl⟩ := r
    cases (show T = "str" from ty)
    exact ⟨typeIs_str s z t, fun _ e => nomatch e⟩
  | int i =>
    obtain ⟨t, rfl⟩ := r
    cases (show T = "int" from ty)
    exact ⟨typeIs_int s i t, fun _ e => nomatch e⟩
  | ref p =>
    cases r
    rcases ty with ⟨rfl, xs, hq⟩ | ⟨rfl, o, hk, hc, hd⟩ | ⟨rfl, hk⟩ | ⟨rfl, S, n, hk⟩
    · obtain ⟨its, _, pl, _⟩ := I.list hq
      refine ⟨pl.isList.typeIs, fun a e => ?_⟩
      cases e
      obtain ⟨o, n, e, c, hd, _⟩ := pl
      exact ⟨o, e, hd⟩
    · refine ⟨⟨o, I.kIn p o hk, hc⟩, fun a e => ?_⟩
      cases e
      exact ⟨o, I.kIn _ o hk, hd⟩
    · have z : ∃ o, s.heap.get? p = some o /\ o.ExactDict := by
        rcases hk with ⟨kvs, hk⟩ | ⟨kvs, hk⟩
        · obtain ⟨_, _, _, _, o, _, _, e, ex, _⟩ := I.hok p _ hk
          exact ⟨o, e, ex⟩
        · obtain ⟨_, _, _, _, o, _, _, e, ex, _⟩ := I.hok p _ hk
          exact ⟨o, e, ex⟩
      obtain ⟨o, e, ex⟩ := z
      refine ⟨⟨o, e, ex.1⟩, fun a e2 => ?_⟩
      cases e2
      exact ⟨o, e, ex.2.1⟩
    · obtain ⟨o, _, _, _, e, ex, _⟩ := I.hok p _ hk
      refine ⟨⟨o, e, ex.1⟩, fun a e2 => ?_⟩
      cases e2
      exact ⟨o, e, ex.2.1⟩
  | _ => exact False.elim ty
def tBM0 (K : PySem.W.Frag) (T : String) (r : V -> List V -> Hp -> VK -> Prop) (to : TE) : TE := fun σ H Q => to σ H fun x H1 => tyV K T x H1 /\ r x [] H1 Q
def tBM (K : PySem.W.Frag) (T : String) (r : V -> List V -> Hp -> VK -> Prop) (to : TE) (t : TA) : TE := fun σ H Q => to σ H fun x H1 => tyV K T x H1 /\ t σ H1 fun xs H2 => r x xs H2 Q
variable {o e : Expr} {es : List Expr} {to : TE} {t : TA} {name : Str} {apos cpos : Pos} {T id : String} {r : V -> List V -> Hp -> VK -> Prop}
theorem pe_bm0 (pa : PlainAttrs T) (slot : Slot T name id) (hty : typeOf (.builtin id) = pure (.type "method_descriptor")) (hm : MtR X id r) (ho : PE X o to)
    (hbase : attributeBase o name X.env (eval o X.env) = eval o X.env := by rfl) (hline : (apos.endLine == cpos.line) = true := by rfl) : PE X (.Call (.Attribute o name apos) [] [] cpos) (tBM0 X.K T r to) := by
  intro pins s σ H Q I h
  refine wpAny_Call_method0_late hbase hline (thn (ho pins s σ H _ I h) fun v s1 ⟨x, H1, I1, r1, ty, q1⟩ => ?_)
  obtain ⟨h1, h2⟩ := tyV_is I1 r1 ty
  exact ⟨T, id, pa, slot, hty, h1, h2, Calls.callWith_builtin rfl (PySem.evalArgs_none (hm pins s1 σ H1 x [] v [] Q I1 r1 .nil q1))⟩
theorem pe_bm (pa : PlainAttrs T) (slot : Slot T name id) (hty : typeOf (.builtin id) = pure (.type "method_descriptor")) (hm : MtR X id r) (ho : PE X o to) (ha : PA X (e :: es) t)
    (hbase : attributeBase o name X.env (eval o X.env) = eval o X.env := by rfl)
    (hfew : ((backTo cpos (starEach (e :: es) X.env)).all (fun x => !x.1) && (backToKw cpos (keywordEach [] X.env)).all (fun x => x.1.isSome)
      && decide ((e :: es).length + ([] : List Keyword).length + (if ([] : List Keyword).isEmpty then 0 else 1) < 30)) = true := by rfl)
    (hline : (apos.endLine == cpos.line) = true := by rfl) (hs : starEach (e :: es) X.env = (false, eval e X.env) :: starEach es X.env := by rfl) (hplain : (backTo cpos (starEach es X.env)).any (·.1) = false := by rfl) :
    PE X (.Call (.Attribute o name apos) (e :: es) [] cpos) (tBM X.K T r to t) := by
  intro pins s σ H Q I h
  refine wpAny_Call_method_late hbase hfew hline rfl (thn (ho pins s σ H _ I h) fun v s1 ⟨x, H1, I1, r1, ty, q1⟩ => ?_)
  obtain ⟨h1, h2⟩ := tyV_is I1 r1 ty
  refine ⟨T, id, pa, slot, hty, h1, h2, ?_⟩
  have hA := ha cpos pins s1 σ H1 _ I1 q1
  rw [hs] at hA ⊢
  refine Calls.callWith_builtin (by show (false || (backTo cpos (starEach es X.env)).any (·.1)) = false; rw [hplain] <;> rfl) (Calls.evalArgs_plain ?_)
  exact thn hA fun us s2 ⟨vs, H2, I2, r2, q2⟩ => hm pins s2 σ H2 x vs v us Q I2 r1 r2 q2
/- xs.append(e), list.index on a module's tuple .. are MtR facts of 06m -/
end
end L2
namespace L2
open PySem PySem.Spec PyProof.Rows
def MtM (X : Cx) (id : String) (r : V -> List V -> Hp -> VK -> Prop) : Prop :=
  ∀ (pins : List (Addr × Obj)) (s : Shared) (σ : St) (H : Hp) (x : V) (xs : List V) (v : Value) (us : List Value) (Q : VK), Inv X pins σ H s -> qN x v -> Vals xs us -> r x xs H Q ->
    wpAny (model X.prog X.w) X.A (call (.builtin id) (v :: us)) (EP X pins σ Q) X.xe s
theorem Vals.one : ∀ {x : V} {us : List Value}, Vals [x] us -> ∃ u, us = [u] /\ qN x u
  | _, _, .cons r .nil => ⟨_, rfl, r⟩
theorem Vals.zero : ∀ {us : List Value}, Vals [] us -> us = []
  | _, .nil => rfl
theorem Vals.dropLast {xs : List V} {us : List Value} (h : Vals xs us) : Vals xs.dropLast us.dropLast := by
  induction h with
  | nil => exact .nil
  | cons r t ih =>
    cases t with
    | nil => exact .nil
    | cons q t' => exact .cons r ih
theorem erase_last {α : Type} (l : List α) : l.eraseIdx (l.length - 1) = l.dropLast := by
  induction l with
  | nil => rfl
  | cons a r ih =>
    cases r with
    | nil => rfl
    | cons b r =>
      have e : (a :: b :: r).length - 1 = ((b :: r).length - 1) + 1 := by
        have h1 : (a :: b :: r).length = r.length + 2 := rfl
        have h2 : (b :: r).length = r.length + 1 := rfl
        omega
      rw [e, List.eraseIdx_cons_succ, ih]
      all_goals rfl
section
variable {X : Cx} {pins : List (Addr × Obj)} {σ : St} {H : Hp} {s : Shared} {l b : Addr} {xs ys zs : List V}
theorem Inv.lset {its its' : List Value} {n : Nat} {f : Array Value -> Array Value} {t' : Nat} (I : Inv X pins σ H s) (hH : H l = some (.lst xs))
    (e : s.heap.get? l = some { cls := .type "list", data := .seq its.toArray n }) (hf : f its.toArray = its'.toArray) (hv : Vals ys its') (hz : ys.length <= sizeLine) :
    Inv X pins σ (upd H l (.lst ys)) { s with heap := s.heap.update l (Obj.mapSeq f), toks := t' } := by
  have q := PySem.IsL.update e f
  rw [hf] at q
  refine I.write (x := l) (e := l) (by rw [hH]; exact trivial) (.inl rfl) (fun b' u hb hu => (Heap.get?_update_other s.heap (Obj.mapSeq f) (Ne.symm hb)).trans hu) ⟨_, q⟩ ?_
  exact ⟨hz, its', _, hv, q⟩
theorem Inv.lnew {its : List Value} {t' : Nat} (I : Inv X pins σ H s) (hv : Vals ys its) (hz : ys.length <= sizeLine) :
    Inv X pins σ (upd H s.heap.objs.size (.lst ys)) { s with heap := s.heap.push { cls := .type "list", data := .seq its.toArray }, toks := t' } :=
  I.laid (fun _ _ q => Heap.get?_push_of_some _ q) (Nat.le_refl _) ⟨hz, its, 0, hv, Heap.get?_push_size _ rfl⟩
theorem Inv.fresh (I : Inv X pins σ H s) : H s.heap.objs.size = none := I.hok.fresh (Nat.le_refl _)
theorem Inv.lstM (I : Inv X pins σ H s) (hH : H l = some (.lst xs)) : xs.length <= sizeLine /\ ∃ (its : List Value) (n : Nat), Vals xs its /\ xs.length = its.length /\ s.heap.get? l = some { cls := .type "list", data := .seq its.toArray n } := by
  obtain ⟨z, its, n, r, e⟩ := I.hok l _ hH
  exact ⟨z, its, n, r, r.length, e⟩
theorem notLongL {n : Nat} (h : n <= sizeLine) : Builtin.List.listTooLong n = false := by
  unfold Builtin.List.listTooLong
  exact decide_eq_false (by omega)
end
section
variable {X : Cx}
def rAppend : V -> List V -> Hp -> VK -> Prop := fun x vs H Q => ∃ l xs y, x = .ref l /\ vs = [y] /\ H l = some (.lst xs) /\ xs.length < sizeLine /\ Q .non (upd H l (.lst (xs ++ [y])))
theorem yO : MtM X "list.append" rAppend := by
  intro pins s σ H x vs v us Q I rx rv h
  obtain ⟨l, xs, y, rfl, rfl, hH, hz, q⟩ := h
  cases rx
  obtain ⟨u, rfl, ru⟩ := rv.one
  obtain ⟨z, its, n, r, hl, e⟩ := I.lstM hH
  refine call_meets F.slot_list_append ⟨_, e, rfl⟩ F.entry_list_append (F.args_list_append_2 _ _) (PySem.list_append l its.toArray n u (by rw [List.size_toArray]; omega)) ⟨e, ?_⟩
  refine ⟨.non, _, I.lset (its' := its ++ [u]) hH e (by simp) (r.append (.cons ru .nil)) ?_, rfl, q⟩
  rw [List.length_append, List.length_singleton]
  omega
def rPop : V -> List V -> Hp -> VK -> Prop := fun x vs H Q => ∃ l xs y, x = .ref l /\ vs = [] /\ H l = some (.lst xs) /\ xs[xs.length - 1]? = some y /\ Q y (upd H l (.lst xs.dropLast))
theorem mt_pop : MtM X "list.pop" rPop := by
  intro pins s σ H x vs v us Q I rx rv h
  obtain ⟨l, xs, y, rfl, rfl, hH, hy, q⟩ := h
  cases rx
  have hus := rv.zero
  subst hus
  obtain ⟨z, its, n, r, hl, e⟩ := I.lstM hH
  obtain ⟨u, hu, ru⟩ := r.get hy
  have hy' : its.toArray[its.toArray.size - 1]? = some u := by
    show its.toArray[its.length - 1]? = some u
    rw [<- Array.getElem?_toList, <- hl]
    exact hu
  refine call_meets F.slot_list_pop ⟨_, e, rfl⟩ F.entry_list_pop (F.args_list_pop_1 _) (MeetsSeq.list_pop_last l its.toArray n u hy' (by rw [List.size_toArray]; omega)) ⟨e, ?_⟩
  refine ⟨y, _, I.lset (its' := its.dropLast) hH e ?_ r.dropLast ?_, ru, q⟩
  · show its.toArray.eraseIdxIfInBounds (its.toArray.size - 1) = its.dropLast.toArray
    rw [List.size_toArray, List.eraseIdxIfInBounds_toArray, erase_last]
  · rw [List.length_dropLast]
    omega
def rCat : R2 := fun x y H Q => ∃ l b xs zs, x = .ref l /\ y = .ref b /\ H l = some (.lst xs) /\ H b = some (.lst zs) /\ xs.length + zs.length <= sizeLine /\ ∀ p, H p = none -> Q (.ref p) (upd H p (.lst (xs ++ zs)))
theorem op_cat : OpR X (binaryOp .Add) rCat := by
  intro pins s σ H x y v u Q I rx ry h
  obtain ⟨l, b, xs, zs, rfl, rfl, hH, hB, hz, q⟩ := h
  cases rx
  cases ry
  obtain ⟨z, its, n, r, hl, e⟩ := I.lstM hH
  obtain ⟨z2, its2, n2, r2, hl2, e2⟩ := I.lstM hB
  refine PySem.P.add_list e e2 ?_ (by rw [List.size_toArray, List.size_toArray]; omega)
  have ea : its.toArray ++ its2.toArray = (its ++ its2).toArray := by simp
  rw [ea]
  exact ⟨.ref _, _, I.lnew (t' := s.toks) (r.append r2) (by rw [List.length_append]; omega), rfl, q _ I.fresh⟩
end
section
variable {prog : Program} {w : World} {A : Around} {E : Value -> Shared -> Prop} {s : Shared}
set_option maxRecDepth 100000 in
end
section
variable {X : Cx}
end
end L2
namespace L2
open PySem PySem.Spec PyProof.Rows
section
variable {prog : Program} {w : World} {A : Around} {E : Value -> Shared -> Prop} {s : Shared} {l : Addr} {its : List Value} {ns : List Int} {Q : Value -> Shared -> Prop}
end
section
variable {X : Cx}
end
section
variable {X : Cx}
end
section
variable {X : Cx}
end
section
variable {X : Cx}
end
mutual
inductive Dp (K : PySem.W.Frag) (H : Hp) : V -> PyData -> Prop
  | non : Dp K H .non .none
  | bl (b : Bool) : Dp K H (.bl b) (.bool b)
  | int (i : Int) : Dp K H (.int i) (.int i)
  | str (x : Str) : Dp K H (.str x) (.str x)
  | lst {a : Addr} {xs : List V} {ds : List PyData} : qZ K H a xs -> DpAll K H xs ds -> Dp K H (.ref a) (.list ds)
  | tup {a : Addr} {xs : List V} {ds : List PyData} : SqT K H a xs -> DpAll K H xs ds -> Dp K H (.ref a) (.tuple ds)
inductive DpAll (K : PySem.W.Frag) (H : Hp) : List V -> List PyData -> Prop
  | nil : DpAll K H [] []
  | cons {v : V} {vs : List V} {d : PyData} {ds : List PyData} : Dp K H v d -> DpAll K H vs ds -> DpAll K H (v :: vs) (d :: ds)
end
section
variable {X : Cx} {pins : List (Addr × Obj)} {σ : St} {H : Hp} {s : Shared}
mutual
theorem Dp.reads (I : Inv X pins σ H s) : ∀ (d : PyData) (v : V) (u : Value), Dp X.K H v d -> qN v u -> ∃ as, Reads s.heap u d as
  | .none, _, _, h, r => by
    cases h
    cases r
    exact ⟨_, Reads.none⟩
  | .bool b, _, _, h, r => by
    cases h
    cases r
    exact ⟨_, Reads.bool b⟩
  | .int i, _, _, h, r => by
    cases h
    obtain ⟨t, rfl⟩ := r
    exact ⟨_, Reads.int i t⟩
  | .str x, _, _, h, r => by
    cases h
    obtain ⟨t, rfl⟩ := r
    exact ⟨_, Reads.str x t⟩
  | .list ds, _, _, h, r => by
    cases h with
    | lst hs ha =>
      cases r
      obtain ⟨its, rv, ⟨o, n, ho, hc, _, hd⟩, _⟩ := I.list hs
      obtain ⟨as, hr⟩ := Dp.readsAll I ds _ its ha rv
      exact ⟨_, Reads.list ho hc hd hr⟩
  | .tuple ds, _, _, h, r => by
    cases h with
    | tup hs ha =>
      cases r
      obtain ⟨its, rv, ⟨o, ho, hc, n, hd⟩, _⟩ := I.tuple hs
      obtain ⟨as, hr⟩ := Dp.readsAll I ds _ its ha rv
      exact ⟨_, Reads.tuple ho hc hd hr⟩
  | .dict _, _, _, h, _ => by cases h
theorem Dp.readsAll (I : Inv X pins σ H s) : ∀ (ds : List PyData) (vs : List V) (us : List Value), DpAll X.K H vs ds -> Vals vs us -> ∃ as, ReadsAll s.heap us ds as
  | [], _, _, h, r => by
    cases h
    cases r
    exact ⟨_, ReadsAll.nil⟩
  | d :: ds, _, _, h, r => by
    cases h with
    | cons h1 h2 =>
      cases r with
      | cons r1 r2 =>
        obtain ⟨as, q1⟩ := Dp.reads I d _ _ h1 r1
        obtain ⟨bs, q2⟩ := Dp.readsAll I ds _ _ h2 r2
        exact ⟨_, ReadsAll.cons q1 q2⟩
end
end
section
variable {X : Cx}
def rEqD (K : PySem.W.Frag) : R2 := fun x y H Q => ∃ d e, Dp K H x d /\ Dp K H y e /\ SeqAt.shaped d = true /\ SeqAt.shaped e = true /\ Q (.bl (PyData.eqv d e)) H
theorem op_eqD (hu : X.A.units + 64 < cLine) : OpR X (compareOp .Eq) (rEqD X.K) := by
  intro pins s σ H x y v u Q I rx ry h
  obtain ⟨d, e, hd, he, sd, se, q⟩ := h
  obtain ⟨as, r1⟩ := Dp.reads I d x v hd rx
  obtain ⟨bs, r2⟩ := Dp.reads I e y u he ry
  exact SeqAt.compareEq_shaped r1 r2 sd se hu ⟨.bl _, H, I, rfl, q⟩
end
end L2
namespace L2
open PySem PySem.Spec PyProof.Rows
abbrev CellAt (h : Heap) (c : Addr) (v : Option Value) : Prop := h.IsCell c v
def relS (scope sc : Scope) : Scope :=
  { scope with names := scope.names.map fun (n, k) => if (k == .free && sc.kind == .function && sc.names.lookup n == some .cell) then (n, .cell) else (n, k) }
def qY (cells : List (Str × Addr)) : List (Str × NameKind) -> List (Str × Addr) -> List (Str × Addr)
  | [], acc => acc
  | (n, k) :: r, acc => if k == .free then qY cells r ((n, (cells.lookup n).getD 0) :: acc) else qY cells r acc
theorem closure_loop (env : Env) (f : Str × NameKind -> List (Str × Addr) -> Sem (ForInStep (List (Str × Addr))))
    (hf : ∀ n k c, f (n, k) c = if k == .free then (do let a <- cellOf env n; pure (.yield ((n, a) :: c))) else pure (.yield c)) :
    ∀ (names : List (Str × NameKind)) (acc : List (Str × Addr)), (∀ y ∈ names, y.2 = .free -> ∃ c, env.cells.lookup y.1 = some c) -> forIn names acc f = pure (qY env.cells names acc)
  | [], acc, _ => by rw [List.forIn_nil]; rfl
  | (n, k) :: r, acc, h => by
    rw [List.forIn_cons, hf]
    have ih := fun acc => closure_loop env f hf r acc fun y hy => h y (List.mem_cons_of_mem _ hy)
    unfold qY
    by_cases hk : (k == NameKind.free) = true
    · rw [if_pos hk, if_pos hk]
      obtain ⟨c, hc⟩ := h (n, k) List.mem_cons_self (by simpa using hk)
      have e : cellOf env n = pure c := by unfold cellOf; rw [hc]
      rw [e]
      have e2 : (env.cells.lookup n).getD 0 = c := by rw [hc]; rfl
      rw [e2]
      exact ih _
    · rw [if_neg hk, if_neg hk]
      exact ih _
theorem closure_ok {scope : Scope} {env : Env} (h : ∀ y ∈ scope.names, y.2 = .free -> ∃ c, env.cells.lookup y.1 = some c) : closureFor scope env = pure (qY env.cells scope.names []) := by
  simp only [closureFor]
  rw [closure_loop env _ (fun n k c => rfl) scope.names [] h]
  rfl
theorem mem_lookup {α : Type} : ∀ {l : List (Str × α)} {n : Str} {c : α}, (n, c) ∈ l -> ∃ c', l.lookup n = some c'
  | (k, v) :: r, n, c, h => by
    rw [List.lookup_cons]
    cases hb : n == k with
    | true => exact ⟨_, rfl⟩
    | false =>
      rcases List.mem_cons.mp h with e | h
      · cases e; simp at hb
      · exact mem_lookup h
theorem cloFrom_mem {cells : List (Str × Addr)} : ∀ {names : List (Str × NameKind)} {acc : List (Str × Addr)} {n : Str} {c : Addr}, (n, c) ∈ qY cells names acc -> (n, c) ∈ acc ∨ ((n, .free) ∈ names /\ c = (cells.lookup n).getD 0)
  | [], _, _, _, h => .inl h
  | (m, k) :: r, acc, n, c, h => by
    unfold qY at h
    split at h
    · rename_i hk
      have hk : k = .free := by simpa using hk
      rcases cloFrom_mem h with h | ⟨h1, h2⟩
      · rcases List.mem_cons.mp h with e | h
        · cases e; exact .inr ⟨hk ▸ List.mem_cons_self, rfl⟩
        · exact .inl h
      · exact .inr ⟨List.mem_cons_of_mem _ h1, h2⟩
    · rcases cloFrom_mem h with h | ⟨h1, h2⟩
      · exact .inl h
      · exact .inr ⟨List.mem_cons_of_mem _ h1, h2⟩
theorem cloFrom_acc {cells : List (Str × Addr)} : ∀ {names : List (Str × NameKind)} {acc : List (Str × Addr)} {p : Str × Addr}, p ∈ acc -> p ∈ qY cells names acc
  | [], _, _, h => h
  | (m, k) :: r, acc, p, h => by
    unfold qY
    split
    · exact cloFrom_acc (List.mem_cons_of_mem _ h)
    · exact cloFrom_acc h
theorem cloFrom_has {cells : List (Str × Addr)} : ∀ {names : List (Str × NameKind)} {acc : List (Str × Addr)} {n : Str}, (n, .free) ∈ names -> (n, (cells.lookup n).getD 0) ∈ qY cells names acc
  | (m, k) :: r, acc, n, h => by
    unfold qY
    rcases List.mem_cons.mp h with e | h
    · cases e
      exact cloFrom_acc List.mem_cons_self
    · split
      · exact cloFrom_has h
      · exact cloFrom_has h
theorem cells_mem : ∀ {names : List (Str × NameKind)} {h : Heap} {acc : List (Str × Addr)} {x : Str} {c : Addr}, (x, c) ∈ cellsFrom h.objs.size names acc ->
    (x, c) ∈ acc ∨ ((x, .cell) ∈ names /\ h.objs.size <= c /\ CellAt (pushCells h names) c none)
  | [], _, _, _, _, h => .inl h
  | (n, k) :: r, h, acc, x, c, hm => by
    unfold cellsFrom at hm
    unfold pushCells
    split at hm
    · rename_i hk
      rw [if_pos hk]
      have hk : k = .cell := by simpa using hk
      rw [<- Heap.size_push h { cls := .type "cell", data := .cell none }] at hm
      rcases cells_mem hm with hm | ⟨h1, h2, h3⟩
      · rcases List.mem_cons.mp hm with e | hm
        · cases e
          exact .inr ⟨hk ▸ List.mem_cons_self, Nat.le_refl _, _, pushCells_keeps r _ _ _ (Heap.get?_push_size _ rfl), rfl⟩
        · exact .inl hm
      · rw [Heap.size_push] at h2
        exact .inr ⟨List.mem_cons_of_mem _ h1, Nat.le_of_succ_le h2, h3⟩
    · rename_i hk
      rw [if_neg hk]
      rcases cells_mem hm with hm | ⟨h1, h2, h3⟩
      · exact .inl hm
      · exact .inr ⟨List.mem_cons_of_mem _ h1, h2, h3⟩
theorem cells_acc : ∀ {names : List (Str × NameKind)} {n : Nat} {acc : List (Str × Addr)} {p : Str × Addr}, p ∈ acc -> p ∈ cellsFrom n names acc
  | [], _, _, _, h => h
  | (m, k) :: r, n, acc, p, h => by
    unfold cellsFrom
    split
    · exact cells_acc (List.mem_cons_of_mem _ h)
    · exact cells_acc h
theorem cells_has : ∀ {names : List (Str × NameKind)} {n : Nat} {acc : List (Str × Addr)} {x : Str}, (x, .cell) ∈ names -> ∃ c, (x, c) ∈ cellsFrom n names acc
  | (m, k) :: r, n, acc, x, h => by
    unfold cellsFrom
    rcases List.mem_cons.mp h with e | h
    · cases e
      exact ⟨n, cells_acc List.mem_cons_self⟩
    · split
      · exact cells_has h
      · exact cells_has h
theorem cells_inj : ∀ {names : List (Str × NameKind)} {h : Heap} {acc : List (Str × Addr)} {x y : Str} {c : Addr}, (∀ p ∈ acc, p.2 < h.objs.size) -> (∀ x y c, (x, c) ∈ acc -> (y, c) ∈ acc -> x = y) ->
    (x, c) ∈ cellsFrom h.objs.size names acc -> (y, c) ∈ cellsFrom h.objs.size names acc -> x = y
  | [], _, _, _, _, _, _, hi, h1, h2 => hi _ _ _ h1 h2
  | (n, k) :: r, h, acc, x, y, c, hl, hi, h1, h2 => by
    unfold cellsFrom at h1 h2
    split at h1
    · rename_i hk
      rw [if_pos hk] at h2
      rw [<- Heap.size_push h { cls := .type "cell", data := .cell none }] at h1 h2
      refine cells_inj (h := h.push _) (fun p hp => ?_) (fun x y c a b => ?_) h1 h2
      · rw [Heap.size_push]
        rcases List.mem_cons.mp hp with rfl | hp
        · exact Nat.lt_succ_self _
        · exact Nat.lt_succ_of_lt (hl p hp)
      · rcases List.mem_cons.mp a with e | a <;> rcases List.mem_cons.mp b with e' | b
        · cases e; cases e'; rfl
        · cases e; exact absurd (hl _ b) (Nat.lt_irrefl _)
        · cases e'; exact absurd (hl _ a) (Nat.lt_irrefl _)
        · exact hi _ _ _ a b
    · rename_i hk
      rw [if_neg hk] at h2
      exact cells_inj hl hi h1 h2
theorem newEnv_comp {M : Model} {A : Around} {E : Value -> Shared -> Prop} {s : Shared} {scope : Scope} {globals : Addr} {closure : List (Str × Addr)} {qual : Str} {func : Option Addr} {code : Value} {around : Env} {builtins : Addr} {Q : Env -> Shared -> Prop}
    (h : Q (newEnv scope s.heap.objs.size globals (cellsFrom (s.heap.objs.size + 1) scope.names closure) qual func code (some around) builtins)
      { s with heap := pushCells (s.heap.push { cls := .type "dict", data := .dict #[] }) scope.names }) :
    wpAny M A (newFunctionEnv scope globals closure [] qual func code (some around) builtins) Q E s := by
  simp only [newFunctionEnv, Option.isSome_some, if_true]
  refine wpAny_bind (wpAny_alloc ?_)
  refine wpAny_bind (wpAny_layCells _ (fun n k c => rfl) scope.names closure _ _ ?_)
  rw [show ({ s with heap := s.heap.push { cls := .type "dict", data := .dict #[] } } : Shared).heap.objs.size = s.heap.objs.size + 1 from Heap.size_push ..]
  rw [List.forIn_nil]
  exact wpAny_bind (wpAny_pure (wpAny_pure h))
theorem lookup_relS {sc : Scope} : ∀ {names : List (Str × NameKind)} {x : Str} {k : NameKind},
    (names.map fun (n, k) => if (k == NameKind.free && sc.kind == .function && sc.names.lookup n == some .cell) then (n, NameKind.cell) else (n, k)).lookup x = some k ->
    ∃ k', names.lookup x = some k' /\ (k = k' ∨ (k' = .free /\ k = .cell))
  | [], _, _, h => by simp at h
  | (n, k₀) :: r, x, k, h => by
    have ih := @lookup_relS sc r x k
    have h' : List.lookup x ((if (k₀ == NameKind.free && sc.kind == .function && sc.names.lookup n == some .cell) = true then (n, NameKind.cell) else (n, k₀)) :: (r.map _)) = some k := h
    cases hx : x == n with
    | true =>
      simp only [List.lookup_cons, hx]
      by_cases hc : (k₀ == NameKind.free && sc.kind == .function && sc.names.lookup n == some .cell) = true
      · rw [if_pos hc] at h'
        simp only [List.lookup_cons, hx] at h'
        cases h'
        simp only [Bool.and_eq_true, beq_iff_eq] at hc
        exact ⟨k₀, rfl, .inr ⟨hc.1.1, rfl⟩⟩
      · rw [if_neg hc] at h'
        simp only [List.lookup_cons, hx] at h'
        cases h'
        exact ⟨_, rfl, .inl rfl⟩
    | false =>
      simp only [List.lookup_cons, hx]
      by_cases hc : (k₀ == NameKind.free && sc.kind == .function && sc.names.lookup n == some .cell) = true
      · rw [if_pos hc] at h'
        simp only [List.lookup_cons, hx] at h'
        exact ih h'
      · rw [if_neg hc] at h'
        simp only [List.lookup_cons, hx] at h'
        exact ih h'
structure BlkOk (N : List Str) (sc scope : Scope) (own : List (Str × Nat)) : Prop where
  kind : scope.kind = .function
  uniq : ∀ y ∈ scope.names, scope.names.lookup y.1 = some y.2
  ix : ∀ p ∈ own, N[p.2]? = some p.1
  free : ∀ y ∈ scope.names, y.2 = .free -> sc.names.lookup y.1 = some .cell ∨ sc.names.lookup y.1 = some .free
  own : ∀ y ∈ scope.names, y.2 = .local ∨ y.2 = .cell -> y.1 ∈ own.map (·.1) ∨ y.1 ∉ N
def wipe (σ : St) : List Nat -> St
  | [] => σ
  | v :: vs => (wipe σ vs).set v none
theorem wipe_length (σ : St) : ∀ vs : List Nat, (wipe σ vs).length = σ.length
  | [] => rfl
  | v :: vs => by unfold wipe; rw [List.length_set, wipe_length σ vs]
theorem wipe_some {σ : St} {i : Nat} {x : V} : ∀ {vs : List Nat}, (wipe σ vs)[i]? = some (some x) -> σ[i]? = some (some x) /\ i ∉ vs
  | [], h => ⟨h, by simp⟩
  | v :: vs, h => by
    unfold wipe at h
    by_cases hi : v = i
    · subst hi
      by_cases hv : v < (wipe σ vs).length
      · rw [List.getElem?_set_self hv] at h; cases h
      · rw [List.getElem?_eq_none (by simpa using hv)] at h; cases h
    · rw [List.getElem?_set_ne hi] at h
      obtain ⟨h1, h2⟩ := wipe_some h
      exact ⟨h1, by simp only [List.mem_cons, not_or]; exact ⟨fun e => hi e.symm, h2⟩⟩
abbrev Cx.blk (X : Cx) (s : Shared) (H : Hp) (scope : Scope) (cenv : Env) (fp : List Addr) : Cx := { X with s_0 := s, H_0 := H, env := cenv, outer := X.stack, ex := fp, fn := fun x => scope.names.lookup x == some .cell, pn := [], xe := fun _ _ => False }
section
variable {X : Cx} {pins : List (Addr × Obj)} {σ : St} {H : Hp} {s : Shared}
theorem block_start {scope : Scope} {own : List (Str × Nat)} {fp : List Addr} (I : Inv X pins σ H s) (ok : BlkOk X.N X.env.scope scope own) (hN : X.N.Nodup) (hfp : ∀ b ∈ fp, FpOk X pins H b /\ b < s.heap.objs.size) :
    Inv (X.blk s H scope (compEnvC scope (cellsFrom (s.heap.objs.size + 1) scope.names (qY X.env.cells scope.names [])) s.heap.objs.size X.env) fp) [] (wipe σ (own.map (·.2))) H { s with heap := pushCells (s.heap.push { cls := .type "dict", data := .dict #[] }) scope.names } := by
  have hfree : ∀ y ∈ scope.names, y.2 = .free -> ∃ c, X.env.cells.lookup y.1 = some c := fun y hy e => by
    rcases ok.free y hy e with k | k
    · exact I.ok.has _ (.inl k)
    · exact I.ok.has _ (.inr k)
  generalize hcenv : compEnvC scope (cellsFrom (s.heap.objs.size + 1) scope.names (qY X.env.cells scope.names [])) s.heap.objs.size X.env = cenv
  have kp : ∀ b o, s.heap.get? b = some o -> (pushCells (s.heap.push { cls := .type "dict", data := .dict #[] }) scope.names).get? b = some o := fun b o e => pushCells_keeps _ _ _ _ (Heap.get?_push_of_some _ e)
  have hL : cenv.locals = s.heap.objs.size := by rw [<- hcenv]; rfl
  have hcl : cenv.cells = cellsFrom (s.heap.objs.size + 1) scope.names (qY X.env.cells scope.names []) := by rw [<- hcenv]; rfl
  have hsc : cenv.scope = relS scope X.env.scope := by rw [<- hcenv]; rfl
  rw [<- Heap.size_push s.heap { cls := .type "dict", data := .dict #[] }] at hcl
  have cm : ∀ {y c}, (y, c) ∈ qY X.env.cells scope.names [] -> X.env.cells.lookup y = some c /\ c < s.heap.objs.size := fun {y c} hm => by
    rcases cloFrom_mem hm with hm | ⟨h1, rfl⟩
    · cases hm
    · obtain ⟨c, hc⟩ := hfree _ h1 rfl
      rw [hc]
      obtain ⟨w, z⟩ := I.cell _ _ hc
      exact ⟨rfl, z.lt⟩
  have mem : ∀ {y c}, cenv.cells.lookup y = some c -> (X.env.cells.lookup y = some c /\ c < s.heap.objs.size) ∨ (s.heap.objs.size + 1 <= c /\ CellAt (pushCells (s.heap.push { cls := .type "dict", data := .dict #[] }) scope.names) c none) := fun {y c} e => by
    rw [hcl] at e
    rcases cells_mem (PySem.mem_of_lookup e) with hm | ⟨_, h2, h3⟩
    · exact .inl (cm hm)
    · rw [Heap.size_push] at h2; exact .inr ⟨h2, h3⟩
  have look : ∀ {y}, scope.names.lookup y = some .free -> ∃ c, cenv.cells.lookup y = some c /\ X.env.cells.lookup y = some c := fun {y} hl => by
    have hy : (y, NameKind.free) ∈ scope.names := PySem.mem_of_lookup hl
    obtain ⟨c', e'⟩ := mem_lookup (cells_acc (names := scope.names) (n := (s.heap.push { cls := .type "dict", data := .dict #[] }).objs.size) (cloFrom_has (cells := X.env.cells) (acc := []) hy))
    rw [<- hcl] at e'
    refine ⟨c', e', ?_⟩
    rw [hcl] at e'
    rcases cells_mem (PySem.mem_of_lookup e') with hm | ⟨h1, _, _⟩
    · exact (cm hm).1
    · have := ok.uniq _ h1
      rw [hl] at this; cases this
  have okB : (X.blk s H scope cenv fp).Ok := by
    refine ⟨I.ok.mod, by show cenv.scope.kind = _; rw [hsc]; exact ok.kind, by show cenv.globals = _; rw [<- hcenv]; exact I.ok.glob, by show cenv.builtins = _; rw [<- hcenv]; exact I.ok.blt, by show s.heap.objs.size <= cenv.locals; rw [hL]; exact Nat.le_refl _,
      fun y z c e1 e2 => ?_, fun y hy => ?_, fun y c z e => ?_, I.ok.hd, I.ok.frames, .inl rfl, fun b hb => ⟨?_, fun y c e z => ?_⟩, I.bs, Nat.le_trans I.ok.bsz I.sz, fun b o e hb => ?_, fun b hb z => ?_, I.stack, I.stkFree⟩
    · have e1 : cenv.cells.lookup y = some c := e1
      have e2 : cenv.cells.lookup z = some c := e2
      rw [hcl] at e1 e2
      refine cells_inj (fun p hp => ?_) (fun y z c a b => I.ok.inj y z c (cm a).1 (cm b).1) (PySem.mem_of_lookup e1) (PySem.mem_of_lookup e2)
      rw [Heap.size_push]
      exact Nat.lt_succ_of_lt (cm (y := p.1) (c := p.2) hp).2
    · show ∃ c, cenv.cells.lookup y = some c
      have key : ∀ k, cenv.kindOf y = some k -> (k = .cell ∨ k = .free) -> ∃ c, cenv.cells.lookup y = some c := fun k hk hk' => by
        unfold Env.kindOf at hk
        rw [hsc] at hk
        obtain ⟨k', e, r⟩ := lookup_relS hk
        have : k' = .cell ∨ k' = .free := by
          rcases r with rfl | ⟨rfl, _⟩
          · exact hk'
          · exact .inr rfl
        rcases this with rfl | rfl
        · obtain ⟨c, hm⟩ := cells_has (n := (s.heap.push { cls := .type "dict", data := .dict #[] }).objs.size) (acc := qY X.env.cells scope.names []) (PySem.mem_of_lookup e)
          obtain ⟨c', e'⟩ := mem_lookup hm
          exact ⟨c', by rw [hcl]; exact e'⟩
        · obtain ⟨c, h1, _⟩ := look e
          exact ⟨c, h1⟩
      rcases hy with hy | hy
      · exact key _ hy (.inl rfl)
      · exact key _ hy (.inr rfl)
    · have z : (scope.names.lookup y == some NameKind.cell) = true := z
      have z : scope.names.lookup y = some .cell := by simpa using z
      have e : cenv.cells.lookup y = some c := e
      rw [hcl] at e
      rcases cells_mem (PySem.mem_of_lookup e) with hm | ⟨_, h2, _⟩
      · rcases cloFrom_mem hm with hm | ⟨h1, _⟩
        · cases hm
        · have q := ok.uniq _ h1
          rw [z] at q; cases q
      · rw [Heap.size_push] at h2
        exact Nat.le_of_succ_le h2
    · show b ≠ cenv.locals
      rw [hL]; exact Nat.ne_of_lt (hfp b hb).2
    · have e : cenv.cells.lookup y = some c := e
      rcases mem e with ⟨h1, _⟩ | ⟨h1, _⟩
      · exact (hfp b hb).1.2.2.2.2.1 y c h1 z
      · have h2 : s.heap.objs.size + 1 <= b := by rw [<- z]; exact h1
        exact absurd (Nat.lt_of_lt_of_le (hfp b hb).2 (Nat.le_of_succ_le h2)) (Nat.lt_irrefl _)
    · rcases (hfp b hb).1.2.2.2.1 with z | z
      · exact I.ok.noex b o e z
      · exact absurd (Nat.lt_of_lt_of_le (Heap.lt_size e) (Nat.le_trans I.ok.bsz z)) (Nat.lt_irrefl _)
    · rcases List.mem_cons.mp (I.stkSub b z) with z | z
      · exact (hfp b hb).1.2.1 z
      · exact (hfp b hb).1.2.2.1 z
  refine ⟨okB, rfl, I.bare, Un.kept kp, ⟨fun _ => none, ?_, fun i y av e1 e2 e3 => ?_⟩, fun y c e => ?_, ?_, fun y c e => ?_, fun p hp => ?_, I.hok.kept kp, by rw [wipe_length]; exact I.len⟩
  · show Heap.Ns _ cenv.locals _
    rw [hL]
    exact Heap.Ns.keeps (Heap.Ns.new ..) fun b o e => pushCells_keeps _ _ _ _ e
  · obtain ⟨e2, hne⟩ := wipe_some e2
    have hfr : scope.names.lookup y = some .free /\ (cenv.kindOf y = some .cell ∨ cenv.kindOf y = some .free) := by
      have key : ∀ k, cenv.scope.names.lookup y = some k -> k = .local ∨ k = .cell ∨ k = .free -> scope.names.lookup y = some .free /\ (cenv.kindOf y = some .cell ∨ cenv.kindOf y = some .free) := fun k hk hk' => by
        have hk0 := hk
        rw [hsc] at hk
        obtain ⟨k', e, r⟩ := lookup_relS hk
        have no : ¬ (k' = .local ∨ k' = .cell) := fun hh => by
          rcases ok.own _ (PySem.mem_of_lookup e) hh with e' | e'
          · obtain ⟨p, hp, hpy⟩ := List.mem_map.mp e'
            have e3 := ok.ix p hp
            have : p.1 = y := hpy
            rw [this] at e3
            exact hne (List.mem_map.mpr ⟨p, hp, nodup_ix hN e3 e1⟩)
          · exact e' (List.mem_of_getElem? e1)
        rcases r with rfl | ⟨rfl, rfl⟩
        · rcases hk' with rfl | rfl | rfl
          · exact absurd (.inl rfl) no
          · exact absurd (.inr rfl) no
          · exact ⟨e, .inr hk0⟩
        · exact ⟨e, .inl hk0⟩
      have e3 : Vis cenv.scope y := e3
      rcases e3 with e3 | e3 | e3
      · exact key _ e3 (.inl rfl)
      · exact key _ e3 (.inr (.inl rfl))
      · exact key _ e3 (.inr (.inr rfl))
    obtain ⟨m, hn, hl⟩ := I.loc
    have hvis : Vis X.env.scope y := (ok.free _ (PySem.mem_of_lookup hfr.1) rfl).elim (fun k => .inr (.inl k)) (fun k => .inr (.inr k))
    obtain ⟨w, r, q⟩ := hl i y av e1 e2 hvis
    refine ⟨w, r, .inr ⟨hfr.2, ?_⟩⟩
    obtain ⟨c, h1, h2⟩ := look hfr.1
    rcases q with ⟨k, _⟩ | ⟨_, c', e', z⟩
    · have k : X.env.scope.names.lookup y = some .local := k
      rcases ok.free _ (PySem.mem_of_lookup hfr.1) rfl with k' | k' <;> rw [show X.env.scope.names.lookup y = _ from k'] at k <;> cases k
    · rw [h2] at e'; cases e'
      exact ⟨c, h1, z.keeps kp⟩
  · have e : cenv.cells.lookup y = some c := e
    rcases mem e with ⟨h1, _⟩ | ⟨_, z⟩
    · obtain ⟨w, z⟩ := I.cell y c h1
      exact ⟨w, z.keeps kp⟩
    · exact ⟨_, z⟩
  · show H cenv.locals = none
    rw [hL]; exact I.hok.fresh (Nat.le_refl _)
  · have e : cenv.cells.lookup y = some c := e
    rcases mem e with ⟨h1, _⟩ | ⟨h1, _⟩
    · exact I.freeC y c h1
    · exact I.hok.fresh (Nat.le_of_succ_le h1)
  · exact absurd (show p ∈ ([] : List (Addr × Obj)) ++ [] from hp) (by simp)
theorem app_ok {E : Value -> Shared -> Prop} {D : Addr} {xs : List V} {y : V} {v : Value} {Q : Value -> Shared -> Prop} (I : Inv X pins σ H s) (hD : H D = some (.lst xs)) (hz : xs.length < sizeLine) (r : qN y v)
    (h : ∀ s', Inv X pins σ (upd H D (.lst (xs ++ [y]))) s' -> Q .none s') : wpAny (model X.prog X.w) X.A (call (.builtin "list.append") [.ref D, v]) Q E s := by
  obtain ⟨hz', its, n, ri, e⟩ := I.hok D _ hD
  have hl := ri.length
  refine append_at (hsz := by rw [List.size_toArray]; omega) e fun h' sb ho' => ?_
  refine h { s with heap := h' } (I.write (t' := s.toks) (by rw [hD]; trivial) (.inl rfl) (fun b u hb q => (sb.2 b hb).trans q) ⟨_, ho'⟩ ⟨by rw [List.length_append]; exact hz, its ++ [v], n + 1, ri.append (.cons r .nil), ?_⟩)
  rw [ho']
  simp
def PTs (X : Cx) (ifs : List Expr) (t : TT) : Prop :=
  ∀ (pins : List (Addr × Obj)) (s : Shared) (σ : St) (H : Hp) (Q : Bool -> Hp -> Prop), Inv X pins σ H s -> t σ H Q ->
    wpAny (model X.prog X.w) X.A (forIn ifs true fun c r => if r = true then do let ok <- isTrue c X.env (eval c X.env); pure (ForInStep.yield ok) else pure (ForInStep.yield r)) (TP X pins σ Q) X.xe s
def tYes : TT := fun _ H Q => Q true H
theorem pts_nil : PTs X [] tYes := fun _ _ _ H _ I h => wpAny_tests_nil ⟨H, I, h⟩
end
theorem thnF {α : Type} {t : Sem α} {Q Q' : α -> Shared -> Prop} {M : Model} {A : Around} {E : Value -> Shared -> Prop} {s : Shared} (h : wpAny M A t Q (fun _ _ => False) s) (hQ : ∀ a s, Q a s -> Q' a s) : wpAny M A t Q' E s := wpAny_mono h hQ fun _ _ z => False.elim z
theorem compLoop_any {prog : Program} {w : World} {A : Around} {R : Result -> Shared -> Prop} {s : Shared} {elt target iter : Expr} {ifs : List Expr} {scope : Scope} {pos : Pos} {it acc : Value} {env : Env} (I : Nat -> Shared -> Prop)
    (turn : ∀ n s, I n s -> wpAny (model prog w) A (pyNext it) (fun r s₁ => match r with
      | none => R (.ok .next) s₁
      | some v => wpAny (model prog w) A (letOwnedTupleGo target it v) (fun _ s₁' => wpAny (model prog w) A (assign target env v) (fun _ s₂ =>
          wpAny (model prog w) A (forIn ifs true fun c r => if r = true then do let ok <- isTrue c env (eval c env); pure (ForInStep.yield ok) else pure (ForInStep.yield r)) (fun ok s₃ =>
            if ok = true then wpAny (model prog w) A (eval elt env) (fun x s₄ =>
              wpAny (model prog w) A (call (.builtin "list.append") [acc, x]) (fun _ s₅ => ∃ m, m < n /\ I m s₅) (notedBy (model prog w) A env fun e s' => R (.error e) s') s₄) (notedBy (model prog w) A env fun e s' => R (.error e) s') s₃
            else ∃ m, m < n /\ I m s₃) (notedBy (model prog w) A env fun e s' => R (.error e) s') s₂) (notedBy (model prog w) A env fun e s' => R (.error e) s') s₁') (notedBy (model prog w) A env fun e s' => R (.error e) s') s₁) (notedBy (model prog w) A env fun e s' => R (.error e) s') s)
    (n : Nat) (h : I n s) :
    codeAny (model prog w) A (.compLoop (.ListComp elt [⟨target, iter, ifs, 0⟩] scope pos) 0 it acc env) R s := by
  refine codeAny_loop rfl I (fun n s hI => ?_) n h
  show wpAny _ A ((compTurn (.ListComp elt [⟨target, iter, ifs, 0⟩] scope pos) 0 it acc env).onRaise (fun x => do noteFrame x env; theTreesLotGoes x)) _ _ s
  refine wpAny_noted ?_
  rw [compTurn_list]
  refine wpAny_bind (wpAny_standAt (wpAny_bind (wpAny_mono (turn n s hI) (fun r s₁ h₁ => ?_) fun _ _ h' => h')))
  cases r with
  | none => exact wpAny_pure h₁
  | some v =>
    refine wpAny_bind (wpAny_mono h₁ (fun _ s₁' h₁' => ?_) fun _ _ h' => h')
    refine wpAny_bind (wpAny_mono h₁' (fun _ s₂ h₂ => wpAny_bind (wpAny_mono h₂ (fun ok s₃ h₃ => ?_) fun _ _ h' => h')) fun _ _ h' => h')
    cases ok with
    | false => exact wpAny_pure ⟨rfl, h₃⟩
    | true =>
      exact wpAny_bind (wpAny_bind (wpAny_mono h₃ (fun x s₄ h₄ => wpAny_bind (wpAny_mono h₄ (fun _ s₅ h₅ => wpAny_pure (wpAny_pure ⟨rfl, h₅⟩)) fun _ _ h' => h')) fun _ _ h' => h'))
section
variable {X : Cx}
def tLc (wi : TI) (g : TG) (tt : TT) (te : TE) (vs : List Nat) : TE := fun σ H Q => wi σ H fun J H1 => ∀ D, H1 D = none -> ∃ W : Nat -> Nat -> Hp -> Prop, (∃ m, W 0 m (upd H1 D (.lst []))) /\ ∀ i m H, W i m H ->
  (J.stop i H /\ Q (.ref D) H) ∨ (J.go i H /\ ∃ Nx : Hp -> Prop, (∀ H', Nx H' -> ∃ m', m' < m /\ W (i + 1) m' H') /\ ∀ x H', J.yld i H x H' -> g x (wipe σ vs) H' fun σ2 H2 => wipe σ2 vs = wipe σ vs /\ tt σ2 H2 fun b H3 =>
    if b = true then te σ2 H3 fun y H4 => ∃ acc, H4 D = some (.lst acc) /\ acc.length < sizeLine /\ Nx (upd H4 D (.lst (acc ++ [y]))) else Nx H3)
theorem lc_core {pins : List (Addr × Obj)} {s : Shared} {σ : St} {H : Hp} {Q : VK} {elt tg iter : Expr} {ifs : List Expr} {scope : Scope} {own : List (Str × Nat)} {pos pos' : Pos} {wi : TI} {g : TG} {tt : TT} {te : TE} {use : Option (Value -> Sem Unit)} {Qf : Value -> Shared -> Prop}
    (hc : X.calm = true) (hN : X.N.Nodup) (I : Inv X pins σ H s) (hi : PI X tg iter wi) (ok : BlkOk X.N X.env.scope scope own)
    (hg : ∀ (s : Shared) (H : Hp) (C : Addr) (cl : List (Str × Addr)) (fp : List Addr), PG (X.blk s H scope (compEnvC scope cl C X.env) fp) tg g) (ht : ∀ (s : Shared) (H : Hp) (C : Addr) (cl : List (Str × Addr)) (fp : List Addr), PTs (X.blk s H scope (compEnvC scope cl C X.env) fp) ifs tt)
    (he : ∀ (s : Shared) (H : Hp) (C : Addr) (cl : List (Str × Addr)) (fp : List Addr), PE (X.blk s H scope (compEnvC scope cl C X.env) fp) elt te) (hs : ∀ x, foldedSetIterable iter X.env x = pure x)
    (h : tLc wi g tt te (own.map (·.2)) σ H Q)
    (hRR : ∀ D C s' m H', Inv X pins σ H' s' -> Q (.ref D) H' -> s'.heap.Ns C m -> FpOk X pins H' C -> compPost (model X.prog X.w) X.A X.xe use Qf (.ref D) C (.ok .next) s') :
    wpAny (model X.prog X.w) X.A (comprehension (.ListComp elt [⟨tg, iter, ifs, 0⟩] scope pos) scope X.env pos' (newList []) false (eval iter X.env) use) Qf X.xe s := by
  have hfree : ∀ y ∈ scope.names, y.2 = .free -> ∃ c, X.env.cells.lookup y.1 = some c := fun y hy e => by
    rcases ok.free y hy e with k | k
    · exact I.ok.has _ (.inl k)
    · exact I.ok.has _ (.inr k)
  refine wpAny_comprehension_free (use := use) rfl hs (closure_ok hfree) ok.kind (fun y hy e => by rw [ok.uniq y hy, e])
    (thn (hi pins s σ H _ I h) fun xv s1 hx => thn hx fun itv s2 h2 => ?_)
  obtain ⟨it, fp, tn, J, H2, e, I2, T, st2, f2, q⟩ := h2
  subst e
  refine wpAny_newObj_type (newEnv_comp ?_) (by show 0 <= sizeLine; decide)
  generalize hD : s2.heap.objs.size = D
  have hDn : H2 D = none := I2.hok.fresh (Nat.le_of_eq hD)
  obtain ⟨W, ⟨m0, w0⟩, turn⟩ := q D hDn
  generalize hs3 : ({ s2 with heap := s2.heap.push { cls := .type "list", data := .seq ([] : List Value).toArray } } : Shared) = s3
  have I3 : Inv X pins σ (upd H2 D (.lst [])) s3 := by
    rw [<- hs3]
    refine I2.laid (t' := s2.toks) (fun b o e => Heap.get?_push_of_some _ e) (Nat.le_of_eq hD) ⟨Nat.zero_le _, [], 0, .nil, ?_⟩
    rw [<- hD]
    exact Heap.get?_push_size _ rfl
  have h3 : s3.heap = s2.heap.push { cls := .type "list", data := .seq ([] : List Value).toArray } := by rw [<- hs3]
  have sz : ∀ b ∈ fp, b < s2.heap.objs.size := fun b hb => by
    obtain ⟨o, e, _⟩ := T.obj _ _ st2 b hb
    exact Heap.lt_size e
  have f3 : ∀ b ∈ fp, FpOk X pins (upd H2 D (.lst [])) b /\ b < s3.heap.objs.size := fun b hb => by
    have hlt := sz b hb
    refine ⟨⟨?_, (f2 b hb).2⟩, by rw [h3, Heap.size_push]; exact Nat.lt_succ_of_lt hlt⟩
    rw [zF (by rw [<- hD]; exact Nat.ne_of_lt hlt)]
    exact (f2 b hb).1
  have st3 : tn 0 s3.heap := T.keep _ _ _ st2 fun b _ o e => by rw [h3]; exact Heap.get?_push_of_some _ e
  have I4 := block_start I3 ok hN f3
  have pg := hg s3 (upd H2 D (.lst [])) s3.heap.objs.size (cellsFrom (s3.heap.objs.size + 1) scope.names (qY X.env.cells scope.names [])) fp
  have pt := ht s3 (upd H2 D (.lst [])) s3.heap.objs.size (cellsFrom (s3.heap.objs.size + 1) scope.names (qY X.env.cells scope.names [])) fp
  have pe := he s3 (upd H2 D (.lst [])) s3.heap.objs.size (cellsFrom (s3.heap.objs.size + 1) scope.names (qY X.env.cells scope.names [])) fp
  show codeAny _ _ (.compStart (.ListComp elt [⟨tg, iter, ifs, 0⟩] scope pos) 0 (.ref it) (.ref D) (compEnvC scope (cellsFrom (s3.heap.objs.size + 1) scope.names (qY X.env.cells scope.names [])) s3.heap.objs.size X.env)) (compPost (model X.prog X.w) X.A X.xe use Qf (.ref D) s3.heap.objs.size) { s3 with heap := pushCells (s3.heap.push { cls := .type "dict", data := .dict #[] }) scope.names }
  have nfp : ∀ b ∈ fp, (upd H2 D (.lst [])) b = none := fun b hb => (f3 b hb).1.1
  generalize hce : compEnvC scope (cellsFrom (s3.heap.objs.size + 1) scope.names (qY X.env.cells scope.names [])) s3.heap.objs.size X.env = ce at I4 pg pt pe ⊢
  have cL : ce.locals = s3.heap.objs.size := by subst hce; rfl
  generalize hH3 : upd H2 D (.lst []) = H3 at I3 I4 pg pt pe w0 nfp f3
  generalize hs4 : ({ s3 with heap := pushCells (s3.heap.push { cls := .type "dict", data := .dict #[] }) scope.names } : Shared) = s4 at I4 ⊢
  have st4 : tn 0 s4.heap := T.keep _ _ _ st3 fun b _ o e => by rw [<- hs4]; exact pushCells_keeps _ _ _ _ (Heap.get?_push_of_some _ e)
  have stat : ∀ {σ' : St} {H' : Hp} {s' : Shared}, Inv (X.blk s3 H3 scope ce fp) [] σ' H' s' -> (∀ b ∈ fp, H' b = none) -> ∀ b ∈ fp, FpOk (X.blk s3 H3 scope ce fp) [] H' b := fun {σ' H' s'} I' hn b hb =>
    ⟨hn b hb, (I'.ok.exf b hb).1, I'.ok.exfs b hb, .inl hb, fun x c e => (I'.ok.exf b hb).2 x c e, fun p hp => absurd (show p ∈ ([] : List (Addr × Obj)) ++ [] from hp) (by simp)⟩
  have loop : codeAny (model X.prog X.w) X.A (.compLoop (.ListComp elt [⟨tg, iter, ifs, 0⟩] scope pos) 0 (.ref it) (.ref D) ce) (compPost (model X.prog X.w) X.A X.xe use Qf (.ref D) s3.heap.objs.size) s4 := by
    refine compLoop_any (fun n s' => ∃ i H', Inv (X.blk s3 H3 scope ce fp) [] (wipe σ (own.map (·.2))) H' s' /\ tn i s'.heap /\ (∀ b ∈ fp, H' b = none) /\ W i n H') ?_ m0 ⟨0, H3, I4, st4, nfp, w0⟩
    rintro n s5 ⟨i, H5, I5, st5, n5, w5⟩
    rcases turn i n H5 w5 with ⟨stop, qq⟩ | ⟨go, Nx, hNx, step⟩
    · have td := T.done (X.blk s3 H3 scope ce fp) rfl rfl rfl hc i [] s5 _ H5 (fun _ _ => False) I5 (stat I5 n5) st5 stop
      refine thnF td fun r s6 ⟨hr, I6⟩ => ?_
      subst hr
      have I7 : Inv X pins σ H5 s6 := I3.call' (ch := fp) I6.os I6.base I6.hok I6.bare fun b hb => ⟨(f3 b hb).1.2.2.2.1, (f3 b hb).1.2.1, (f3 b hb).1.2.2.2.2.1, (f3 b hb).1.2.2.2.2.2⟩
      have nC : H5 s3.heap.objs.size = none := by
        have z : H5 ce.locals = none := I6.free
        rw [cL] at z
        exact z
      obtain ⟨m, hn, _⟩ := I6.loc
      have hn : s6.heap.Ns ce.locals m := hn
      rw [cL] at hn
      exact hRR D s3.heap.objs.size s6 m H5 I7 qq hn (I3.fpOk (Nat.le_refl _) nC)
    · have ti := T.item (X.blk s3 H3 scope ce fp) rfl rfl rfl hc i [] s5 _ H5 (fun _ _ => False) I5 (stat I5 n5) st5 go
      refine thnF ti fun r s6 ⟨u, hr, h6⟩ => ?_
      subst hr
      refine thnF h6 fun _ s7 ⟨x, H7, I7, r7, y7, st7, n7⟩ => ?_
      have I7' := I7.pinned (stat I7 n7) (T.obj _ _ st7)
      refine thnF (pg _ s7 _ H7 x u _ I7' r7 (step x H7 y7)) fun _ s8 ⟨σ8, H8, I8, hw8, q8⟩ => ?_
      refine thnF (pt _ s8 σ8 H8 _ I8 q8) fun b s9 ⟨H9, I9, q9⟩ => ?_
      have fin : ∀ {s' : Shared} {H' : Hp}, Inv (X.blk s3 H3 scope ce fp) ([] ++ pinsAt fp s7.heap) σ8 H' s' -> Nx H' -> ∃ m, m < n /\ ∃ i H', Inv (X.blk s3 H3 scope ce fp) [] (wipe σ (own.map (·.2))) H' s' /\ tn i s'.heap /\ (∀ b ∈ fp, H' b = none) /\ W i m H' := fun {s' H'} I' nx => by
        obtain ⟨m', hm, w'⟩ := hNx H' nx
        have pin' : ∀ b ∈ fp, ∀ o, s7.heap.get? b = some o -> s'.heap.get? b = some o /\ H' b = none := fun b hb o e =>
          let z := I'.pin (b, o) (List.mem_append_right _ (List.mem_append_right _ (mem_pinsAt hb e)))
          ⟨z.1, z.2.1⟩
        have hl : (wipe σ (own.map (·.2))).length = σ8.length := by rw [<- hw8, wipe_length]
        refine ⟨m', hm, i + 1, H', (I'.unpinned (pins := [])).weak hl (fun j v e => ?_), T.keep _ _ _ st7 fun b hb o e => (pin' b hb o e).1, fun b hb => ?_, w'⟩
        · rw [<- hw8] at e
          exact (wipe_some e).1
        · obtain ⟨o, e, _⟩ := T.obj _ _ st7 b hb
          exact (pin' b hb o e).2
      cases b with
      | false =>
        simp only [Bool.false_eq_true, if_false] at q9 ⊢
        exact fin I9 q9
      | true =>
        simp only [if_true] at q9 ⊢
        refine thnF (pe _ s9 σ8 H9 _ I9 q9) fun z s10 ⟨yv, H10, I10, r10, acc, hD10, hz10, nx⟩ => ?_
        exact app_ok (X := X.blk s3 H3 scope ce fp) I10 hD10 hz10 r10 fun s11 I11 => fin I11 nx
  exact codeAny_compStart_list loop (T.self X.A 0 _ _ _ st4 loop)
theorem pe_lc {elt tg iter : Expr} {ifs : List Expr} {scope : Scope} {own : List (Str × Nat)} {pos : Pos} {wi : TI} {g : TG} {tt : TT} {te : TE} (hc : X.calm = true) (hN : X.N.Nodup) (hi : PI X tg iter wi) (ok : BlkOk X.N X.env.scope scope own)
    (hg : ∀ (s : Shared) (H : Hp) (C : Addr) (cl : List (Str × Addr)) (fp : List Addr), PG (X.blk s H scope (compEnvC scope cl C X.env) fp) tg g) (ht : ∀ (s : Shared) (H : Hp) (C : Addr) (cl : List (Str × Addr)) (fp : List Addr), PTs (X.blk s H scope (compEnvC scope cl C X.env) fp) ifs tt)
    (he : ∀ (s : Shared) (H : Hp) (C : Addr) (cl : List (Str × Addr)) (fp : List Addr), PE (X.blk s H scope (compEnvC scope cl C X.env) fp) elt te) (hs : ∀ x, foldedSetIterable iter X.env x = pure x := by intro _; rfl) :
    PE X (.ListComp elt [⟨tg, iter, ifs, 0⟩] scope pos) (tLc wi g tt te (own.map (·.2))) := by
  intro pins s σ H Q I h
  rw [eval_ListComp]
  refine lc_core hc hN I hi ok hg ht he hs h fun D C s' m H' I' q hn f => ⟨m, hn, fun h'' sb => ?_⟩
  obtain ⟨f0, f1, f2, f3, f4, f5⟩ := f
  exact ⟨.ref D, H', I'.turned (t' := s'.toks) (fun b o hb e => (sb.2 b hb).trans e) f0 f1 f3 f4 f5, rfl, q⟩
end
theorem lc_list {K : PySem.W.Frag} {a : Addr} {xs : List V} {g : TG} {tt : TT} {te : TE} {vs : List Nat} {σ : St} {H1 : Hp} {D : Addr} {Qd : Hp -> Prop} (Pv : Nat -> Hp -> Prop) (h0 : Pv 0 (upd H1 D (.lst []))) (hl : ∀ i H, i <= xs.length -> Pv i H -> qZ K H a xs)
    (hs : ∀ i x H, xs[i]? = some x -> Pv i H -> g x (wipe σ vs) H fun σ2 H2 => wipe σ2 vs = wipe σ vs /\ tt σ2 H2 fun b H3 =>
      if b = true then te σ2 H3 fun y H4 => ∃ acc, H4 D = some (.lst acc) /\ acc.length < sizeLine /\ Pv (i + 1) (upd H4 D (.lst (acc ++ [y]))) else Pv (i + 1) H3) (hd : ∀ H, Pv xs.length H -> Qd H) :
    ∃ W : Nat -> Nat -> Hp -> Prop, (∃ m, W 0 m (upd H1 D (.lst []))) /\ ∀ i m H, W i m H ->
      ((Itl K a).stop i H /\ Qd H) ∨ ((Itl K a).go i H /\ ∃ Nx : Hp -> Prop, (∀ H', Nx H' -> ∃ m', m' < m /\ W (i + 1) m' H') /\ ∀ x H', (Itl K a).yld i H x H' -> g x (wipe σ vs) H' fun σ2 H2 => wipe σ2 vs = wipe σ vs /\ tt σ2 H2 fun b H3 =>
        if b = true then te σ2 H3 fun y H4 => ∃ acc, H4 D = some (.lst acc) /\ acc.length < sizeLine /\ Nx (upd H4 D (.lst (acc ++ [y]))) else Nx H3) := by
  refine ⟨fun i m H => m = xs.length - i /\ i <= xs.length /\ Pv i H, ⟨xs.length, by simp, Nat.zero_le _, h0⟩, ?_⟩
  rintro i m H ⟨rfl, hi, p⟩
  have q := hl i H hi p
  by_cases hlt : i < xs.length
  · refine .inr ⟨⟨xs, xs[i], q, by simp [hlt]⟩, Pv (i + 1), fun H' p' => ⟨xs.length - (i + 1), by omega, rfl, hlt, p'⟩, fun x H' y => ?_⟩
    obtain ⟨e, y⟩ := y
    subst e
    exact hs i x _ (y xs q) p
  · have e : i = xs.length := by omega
    subst e
    exact .inl ⟨⟨xs, q, Nat.le_refl _⟩, hd H p⟩
end L2
namespace L2
open PySem PySem.Spec PyProof.Rows
section
variable {prog : Program} {w : World} {A : Around} {R : Result -> Shared -> Prop} {s : Shared} {elt t0 i0 t1 i1 : Expr} {ifs0 ifs1 : List Expr} {scope : Scope} {pos : Pos} {it acc : Value} {env : Env}
end
section
variable {X : Cx}
end
end L2
namespace L2
open PySem PySem.Spec PyProof.Rows
section
variable {κ : Type} [DecidableEq κ]
def valV (kvs : List (κ × V)) (k : κ) : Option V := (kvs.find? fun kv => decide (kv.1 = k)).map (·.2)
def putK (kvs : List (κ × V)) (k : κ) (v : V) : List (κ × V) :=
  if (kvs.any fun kv => decide (kv.1 = k)) = true then kvs.map (fun kv => if kv.1 = k then (kv.1, v) else kv) else kvs ++ [(k, v)]
theorem yM {p : κ × V} {r : List (κ × V)} {k : κ} (e : p.1 = k) : valV (p :: r) k = some p.2 := by simp [valV, List.find?_cons, e]
theorem yN {p : κ × V} {r : List (κ × V)} {k : κ} (e : ¬ p.1 = k) : valV (p :: r) k = valV r k := by simp [valV, List.find?_cons, e]
theorem valV_any (k : κ) : ∀ kvs : List (κ × V), (kvs.any fun kv => decide (kv.1 = k)) = (valV kvs k).isSome
  | [] => rfl
  | p :: r => by
    rw [List.any_cons]
    by_cases e : p.1 = k
    · simp only [yM e, decide_eq_true e, Bool.true_or, Option.isSome_some]
    · rw [yN e, decide_eq_false e, Bool.false_or]; exact valV_any k r
theorem valV_map (k j : κ) (y : V) : ∀ kvs : List (κ × V), valV (kvs.map fun kv => if kv.1 = k then (kv.1, y) else kv) j = (valV kvs j).map fun x => if j = k then y else x
  | [] => rfl
  | p :: r => by
    have ih := valV_map k j y r
    rw [List.map_cons]
    by_cases h : p.1 = k
    · rw [if_pos h]
      by_cases e : p.1 = j
      · rw [yM (p := (p.1, y)) e, yM e, Option.map_some, if_pos (e.symm.trans h)]
      · rw [yN (p := (p.1, y)) e, yN e, ih]
    · rw [if_neg h]
      by_cases e : p.1 = j
      · rw [yM (p := p) e, yM e, Option.map_some, if_neg (fun z => h (e.trans z))]
      · rw [yN (p := p) e, yN e, ih]
theorem valV_snoc (k j : κ) (y : V) : ∀ kvs : List (κ × V), valV kvs k = none -> valV (kvs ++ [(k, y)]) j = if j = k then some y else valV kvs j
  | [], _ => by
    by_cases e : k = j
    · rw [if_pos e.symm]; exact yM (p := (k, y)) e
    · rw [if_neg (fun z => e z.symm)]; exact yN (p := (k, y)) e
  | p :: r, hn => by
    rw [List.cons_append]
    have hk : ¬ p.1 = k := fun z => by rw [yM z] at hn; cases hn
    rw [yN hk] at hn
    have ih := valV_snoc k j y r hn
    by_cases e : p.1 = j
    · rw [yM e, yM e, if_neg (fun z => hk (e.trans z))]
    · rw [yN e, yN e, ih]
theorem valV_put (kvs : List (κ × V)) (k j : κ) (y : V) : valV (putK kvs k y) j = if j = k then some y else valV kvs j := by
  unfold putK
  by_cases a : (kvs.any fun kv => decide (kv.1 = k)) = true
  · rw [if_pos a, valV_map]
    rw [valV_any] at a
    by_cases e : j = k
    · obtain ⟨x, hx⟩ := Option.isSome_iff_exists.mp a
      rw [if_pos e, e, hx, Option.map_some, if_pos rfl]
    · rw [if_neg e]
      cases valV kvs j with
      | none => rfl
      | some x => rw [Option.map_some, if_neg e]
  · rw [if_neg a]
    refine valV_snoc k j y kvs ?_
    rw [valV_any] at a
    cases q : valV kvs k with
    | none => rfl
    | some x => rw [q] at a; exact (a rfl).elim
theorem length_putK (kvs : List (κ × V)) (k : κ) (v : V) : (putK kvs k v).length <= kvs.length + 1 := by
  unfold putK
  split
  · rw [List.length_map]; omega
  · rw [List.length_append, List.length_cons, List.length_nil]; omega
theorem putK_new {kvs : List (κ × V)} {k : κ} (v : V) (h : valV kvs k = none) : putK kvs k v = kvs ++ [(k, v)] := by
  unfold putK
  rw [valV_any, h]
  exact if_neg (by decide)
theorem RelO.isSome_eq {o : Option V} {u : Option Value} (r : RelO o u) : o.isSome = u.isSome := by
  cases o with
  | none => cases u with
    | none => rfl
    | some _ => exact (show False from r).elim
  | some _ => cases u with
    | none => exact (show False from r).elim
    | some _ => rfl
theorem KV.val {kvs : List (κ × V)} {vs : List (κ × Value)} (r : KV kvs vs) (k : κ) : RelO (valV kvs k) (valueAt vs k) := by
  unfold KV at r
  induction r with
  | nil => exact True.intro
  | @cons p q ps qs h t ih =>
    obtain ⟨h1, h2⟩ := h
    by_cases e : p.1 = k
    · have e' : q.1 = k := h1.symm.trans e
      have b : valueAt (q :: qs) k = some q.2 := by simp [valueAt, List.find?_cons, e']
      rw [yM e, b]; exact h2
    · have e' : ¬ q.1 = k := fun z => e (h1.trans z)
      have b : valueAt (q :: qs) k = valueAt qs k := by simp [valueAt, List.find?_cons, e']
      rw [yN e, b]; exact ih
theorem KV.any {kvs : List (κ × V)} {vs : List (κ × Value)} (r : KV kvs vs) (k : κ) : (kvs.any fun kv => decide (kv.1 = k)) = vs.any fun kv => decide (kv.1 = k) := by
  unfold KV at r
  induction r with
  | nil => rfl
  | cons h t ih => rw [List.any_cons, List.any_cons, ih, h.1]
theorem KV.repl {kvs : List (κ × V)} {vs : List (κ × Value)} (r : KV kvs vs) (k : κ) {y : V} {u : Value} (ry : qN y u) :
    KV (kvs.map fun kv => if kv.1 = k then (kv.1, y) else kv) (vs.map fun kv => if kv.1 = k then (kv.1, u) else kv) := by
  unfold KV at r ⊢
  induction r with
  | nil => exact .nil
  | @cons p q ps qs h t ih =>
    rw [List.map_cons, List.map_cons]
    refine .cons ?_ ih
    obtain ⟨h1, h2⟩ := h
    by_cases e : p.1 = k
    · rw [if_pos e, if_pos (h1.symm.trans e)]; exact ⟨h1, ry⟩
    · rw [if_neg e, if_neg (fun z => e (h1.trans z))]; exact ⟨h1, h2⟩
theorem KV.put {kvs : List (κ × V)} {vs : List (κ × Value)} (r : KV kvs vs) (k : κ) {y : V} {u : Value} (ry : qN y u) : KV (putK kvs k y) (stored vs k u) := by
  unfold putK stored
  rw [r.any k]
  by_cases e : (vs.any fun kv => decide (kv.1 = k)) = true
  · rw [if_pos e, if_pos e]; exact r.repl k ry
  · rw [if_neg e, if_neg e]; exact Paired.snoc r ⟨rfl, ry⟩
theorem KV.length {kvs : List (κ × V)} {vs : List (κ × Value)} (r : KV kvs vs) : kvs.length = vs.length := Paired.length r
end
theorem kV_is {P : Program} {w : World} {k : Key} {u : Value} (r : qN (kV k) u) : (yF P w).is k u = true := by
  cases k with
  | inl i => obtain ⟨t, e⟩ := (show ∃ t, u = Value.int i t from r); subst e; exact mixKind_int P w i t
  | inr x => obtain ⟨t, e⟩ := (show ∃ t, u = Value.str x t from r); subst e; exact mixKind_str P w x t
theorem items_are {P : Program} {w : World} : ∀ {ks : List Key} {us : List Value}, Vals (ks.map kV) us -> ItemsAre (yF P w) ks us
  | [], _, r => by rw [List.map_nil] at r; cases r; exact .nil
  | k :: ks, _, r => by
    rw [List.map_cons] at r
    cases r with
    | cons h t => exact .cons (kV_is h) (items_are t)
abbrev KT (H : Hp) : List (List Key × V) -> List (List Key × Addr × Value) -> Prop := Paired fun p q => p.1 = q.1 /\ H q.2.1 = some (.tup (p.1.map kV)) /\ qN p.2 q.2.2
theorem KT.val {H : Hp} {kvs : List (List Key × V)} {xs : List (List Key × Addr × Value)} (r : KT H kvs xs) (k : List Key) : RelO (valV kvs k) ((atKey xs k).map (·.2)) := by
  induction r with
  | nil => exact True.intro
  | @cons p q ps qs h t ih =>
    obtain ⟨h1, _, h2⟩ := h
    by_cases e : p.1 = k
    · have e' : q.1 = k := h1.symm.trans e
      have b : atKey (q :: qs) k = some q.2 := by simp [atKey, List.find?_cons, e']
      rw [yM e, b]; exact h2
    · have e' : ¬ q.1 = k := fun z => e (h1.trans z)
      have b : atKey (q :: qs) k = atKey qs k := by simp [atKey, List.find?_cons, e']
      rw [yN e, b]; exact ih
theorem KT.repl {H : Hp} {kvs : List (List Key × V)} {xs : List (List Key × Addr × Value)} (r : KT H kvs xs) (k : List Key) {y : V} {u : Value} (ry : qN y u) :
    KT H (kvs.map fun kv => if kv.1 = k then (kv.1, y) else kv) (xs.map (putAt k u)) := by
  induction r with
  | nil => exact .nil
  | @cons p q ps qs h t ih =>
    rw [List.map_cons, List.map_cons]
    refine .cons ?_ ih
    obtain ⟨h1, h2, h3⟩ := h
    unfold putAt
    by_cases e : p.1 = k
    · rw [if_pos e, if_pos (h1.symm.trans e)]; exact ⟨h1, h2, ry⟩
    · rw [if_neg e, if_neg (fun z => e (h1.trans z))]; exact ⟨h1, h2, h3⟩
theorem KT.put {H : Hp} {kvs : List (List Key × V)} {xs : List (List Key × Addr × Value)} (r : KT H kvs xs) (k : List Key) {b : Addr} {y : V} {u : Value} (hb : H b = some (.tup (k.map kV))) (ry : qN y u) :
    KT H (putK kvs k y) (storedH xs k b u) := by
  have e : (kvs.any fun kv => decide (kv.1 = k)) = (atKey xs k).isSome := by
    rw [valV_any, (r.val k).isSome_eq, Option.isSome_map]
  unfold putK storedH
  rw [e]
  by_cases q : (atKey xs k).isSome = true
  · rw [if_pos q, if_pos q]; exact r.repl k ry
  · rw [if_neg q, if_neg q]; exact Paired.snoc r ⟨rfl, hb, ry⟩
theorem KT.keeps {H H' : Hp} {kvs : List (List Key × V)} {xs : List (List Key × Addr × Value)} (r : KT H kvs xs) (ht : ∀ b ys, H b = some (.tup ys) -> H' b = some (.tup ys)) : KT H' kvs xs :=
  Paired.mapP r fun _ _ z => ⟨z.1, ht _ _ z.2.1, z.2.2⟩
section
variable {P : Program} {w : World} {H : Hp} {h : Heap} {a : Addr}
theorem rd_of {u : HO} (ok : HOk P w H h) (e : Rd H a u) : yZ P w H h a u := e.ok ok
theorem dk_rd {kvs : List (Key × V)} (ok : HOk P w H h) (e : Rd H a (.dK kvs)) : kvs.length <= sizeLine /\ (a == sysModules) = false /\ ∃ vs, KV kvs vs /\ h.DictOf (yF P w) a vs :=
  show yZ P w H h a (.dK kvs) from rd_of ok e
theorem dk_of {kvs : List (Key × V)} (ok : HOk P w H h) (e : H a = some (.dK kvs)) : kvs.length <= sizeLine /\ (a == sysModules) = false /\ ∃ vs, KV kvs vs /\ h.DictOf (yF P w) a vs := dk_rd ok (.inl e)
theorem key_of {ks : List Key} (ok : HOk P w H h) (e : H a = some (.tup (ks.map kV))) : (tupleKind (yF P w)).is h ks a := by
  obtain ⟨_, its, r, o, h1, h2, n, h3⟩ := (show yZ P w H h a (.tup (ks.map kV)) from ok a _ e)
  exact ⟨o, its.toArray, n, h1, h2, h3, by simpa using items_are r⟩
theorem dt_rd {kvs : List (List Key × V)} (ok : HOk P w H h) (e : Rd H a (.dT kvs)) : kvs.length <= sizeLine /\ (a == sysModules) = false /\
    ∃ xs, KT H kvs xs /\ h.DictOfH (tupleKind (yF P w)) a xs := by
  obtain ⟨z, y, xs, r, o, es, ep, h1, h2, h3, h4, h5⟩ := (show yZ P w H h a (.dT kvs) from rd_of ok e)
  refine ⟨z, y, xs, r, o, es, ep, h1, h2, h3, h4, fun x hx => ?_, h5⟩
  have all : ∀ {l : List (List Key × V)} {m : List (List Key × Addr × Value)}, KT H l m -> ∀ x ∈ m, (tupleKind (yF P w)).is h x.1 x.2.1 := by
    intro l m q
    induction q with
    | nil => intro x hx; exact nomatch hx
    | @cons p q ps qs hq t ih =>
      intro x hx
      rcases List.mem_cons.mp hx with e | hx
      · subst e
        exact key_of ok (by rw [<- hq.1]; exact hq.2.1)
      · exact ih x hx
  exact all r x hx
theorem dt_of {kvs : List (List Key × V)} (ok : HOk P w H h) (e : H a = some (.dT kvs)) : kvs.length <= sizeLine /\ (a == sysModules) = false /\
    ∃ xs, KT H kvs xs /\ h.DictOfH (tupleKind (yF P w)) a xs := dt_rd ok (.inl e)
end
def DGet (H : Hp) (a : Addr) (y : V) (r : Option V) : Prop :=
  (∃ kvs k, Rd H a (.dK kvs) /\ y = kV k /\ r = valV kvs k) ∨ ∃ kvs k b, Rd H a (.dT kvs) /\ y = .ref b /\ H b = some (.tup (k.map kV)) /\ r = valV kvs k
def DPut (H : Hp) (a : Addr) (y v : V) (H' : Hp) : Prop :=
  (∃ kvs k, H a = some (.dK kvs) /\ y = kV k /\ kvs.length < sizeLine /\ H' = upd H a (.dK (putK kvs k v))) ∨
  ∃ kvs k b, H a = some (.dT kvs) /\ y = .ref b /\ H b = some (.tup (k.map kV)) /\ kvs.length < sizeLine /\ H' = upd H a (.dT (putK kvs k v))
theorem DGet.k {H : Hp} {a : Addr} {kvs : List (Key × V)} {k : Key} (e : H a = some (.dK kvs)) : DGet H a (kV k) (valV kvs k) := .inl ⟨kvs, k, .inl e, rfl, rfl⟩
theorem DPut.k {H : Hp} {a : Addr} {kvs : List (Key × V)} {k : Key} {v : V} (e : H a = some (.dK kvs)) (hl : kvs.length < sizeLine) : DPut H a (kV k) v (upd H a (.dK (putK kvs k v))) := .inl ⟨kvs, k, e, rfl, hl, rfl⟩
section
variable {X : Cx} {pins : List (Addr × Obj)} {σ : St} {H : Hp} {s : Shared} {a : Addr} {y v : V} {u r : Value} {o : Option V} {A : Around} {E : Value -> Shared -> Prop}
theorem Inv.big (I : Inv X pins σ H s) : sysModules < s.heap.objs.size := by
  have h : mainGlobals < s.heap.objs.size := (I.mod.glob.keeps I.bk).lt
  exact Nat.lt_trans (by decide) h
theorem d_getItem {Q : Value -> Shared -> Prop} (hu : A.units + 1 < cLine) (I : Inv X pins σ H s) (g : DGet H a y (some v)) (ry : qN y u) (h : ∀ w' s', Inv X pins σ H s' -> qN v w' -> Q w' s') :
    wpAny (model X.prog X.w) A (getItem (.ref a) u) Q E s := by
  rcases g with ⟨kvs, k, e, ey, l⟩ | ⟨kvs, k, b, e, ey, eb, l⟩
  · subst ey
    obtain ⟨z, hd, vs, rel, dd⟩ := dk_rd I.hok e
    obtain ⟨w', hw, rw'⟩ := RelO.some_of (v := v) (o := valueAt vs k) (by rw [l]; exact rel.val k)
    exact wpAny_getItem_of (kV_is ry) dd.mapOf hw (h w' _ (I.tok _) rw')
  · subst ey
    cases (show u = Value.ref b from ry)
    obtain ⟨z, hd, xs, rel, dd⟩ := dt_rd I.hok e
    obtain ⟨w', hw, rw'⟩ := RelO.some_of (v := v) (o := (atKey xs k).map (·.2)) (by rw [l]; exact rel.val k)
    obtain ⟨p, hp, hp2⟩ := Option.map_eq_some_iff.mp hw
    refine wpAny_getItem_heap (tupleKind_room_in1 hu) (key_of I.hok eb) dd hp ?_
    rw [hp2]
    exact h w' _ (I.tok _) rw'
theorem d_in {Q : Value -> Shared -> Prop} (hu : A.units + 1 < cLine) (I : Inv X pins σ H s) (g : DGet H a y o) (ry : qN y u) (h : ∀ s', Inv X pins σ H s' -> Q (.bool o.isSome) s') :
    wpAny (model X.prog X.w) A (compareOp .In u (.ref a)) Q E s := by
  rcases g with ⟨kvs, k, e, ey, l⟩ | ⟨kvs, k, b, e, ey, eb, l⟩
  · subst ey
    obtain ⟨z, hd, vs, rel, dd⟩ := dk_rd I.hok e
    refine wpAny_in_of (kV_is ry) hd dd.mapOf ?_
    rw [<- (rel.val k).isSome_eq, <- l]
    exact h _ (I.tok _)
  · subst ey
    cases (show u = Value.ref b from ry)
    obtain ⟨z, hd, xs, rel, dd⟩ := dt_rd I.hok e
    refine wpAny_in_heap (tupleKind_room_in1 hu) (key_of I.hok eb) hd dd ?_
    have q := (rel.val k).isSome_eq
    rw [Option.isSome_map] at q
    rw [<- q, <- l]
    exact h _ (I.tok _)
theorem d_notIn {Q : Value -> Shared -> Prop} (hu : A.units + 1 < cLine) (I : Inv X pins σ H s) (g : DGet H a y o) (ry : qN y u) (h : ∀ s', Inv X pins σ H s' -> Q (.bool (!o.isSome)) s') :
    wpAny (model X.prog X.w) A (compareOp .NotIn u (.ref a)) Q E s := by
  rcases g with ⟨kvs, k, e, ey, l⟩ | ⟨kvs, k, b, e, ey, eb, l⟩
  · subst ey
    obtain ⟨z, hd, vs, rel, dd⟩ := dk_rd I.hok e
    refine wpAny_notIn_of (kV_is ry) hd dd.mapOf ?_
    rw [<- (rel.val k).isSome_eq, <- l]
    exact h _ (I.tok _)
  · subst ey
    cases (show u = Value.ref b from ry)
    obtain ⟨z, hd, xs, rel, dd⟩ := dt_rd I.hok e
    refine wpAny_notIn_heap (tupleKind_room_in1 hu) (key_of I.hok eb) hd dd ?_
    have q := (rel.val k).isSome_eq
    rw [Option.isSome_map] at q
    rw [<- q, <- l]
    exact h _ (I.tok _)
theorem d_write {h' : Heap} {t' : Nat} {ob : HO} (I : Inv X pins σ H s) (mu : Mut (H a)) (hs : Heap.SameBut a s.heap h') (he : ∃ q, h'.get? a = some q) (new : yZ X.prog X.w (upd H a ob) h' a ob) :
    Inv X pins σ (upd H a ob) { s with heap := h', toks := t' } :=
  I.write (x := a) (e := a) mu (.inl rfl) (fun b q hb z => (hs.2 b hb).trans z) he new
theorem dk_new {P : Program} {w : World} {H' : Hp} {h' : Heap} {kvs : List (Key × V)} {vs : List (Key × Value)} (z : kvs.length <= sizeLine) (hd : (a == sysModules) = false) (rel : KV kvs vs) (dd : h'.DictOf (yF P w) a vs) :
    yZ P w H' h' a (.dK kvs) := ⟨z, hd, vs, rel, dd⟩
theorem d_setItem {H' : Hp} {Q : Unit -> Shared -> Prop} (hu : A.units + 1 < cLine) (I : Inv X pins σ H s) (g : DPut H a y v H') (ry : qN y u) (rv : qN v r) (h : ∀ s', Inv X pins σ H' s' -> Q () s') :
    wpAny (model X.prog X.w) A (setItem (.ref a) u r) Q E s := by
  rcases g with ⟨kvs, k, e, ey, l, eH⟩ | ⟨kvs, k, b, e, ey, eb, l, eH⟩
  · subst ey eH
    obtain ⟨z, hd, vs, rel, dd⟩ := dk_of I.hok e
    have hz : vs.length <= sizeLine := by rw [<- rel.length]; exact z
    have hl : (putK kvs k v).length <= sizeLine := by have := length_putK kvs k v; omega
    refine wpAny_setItem_pairs (hsz := hz) (kV_is ry) dd fun h' dd' hs => h _ ?_
    have he : ∃ q, h'.get? a = some q := let ⟨q, _, _, hq, _⟩ := dd'; ⟨q, hq⟩
    exact d_write I (by rw [e]; exact True.intro) hs he (dk_new hl hd (rel.put k rv) dd')
  · subst ey eH
    cases (show u = Value.ref b from ry)
    obtain ⟨z, hd, xs, rel, dd⟩ := dt_of I.hok e
    have hz : xs.length <= sizeLine := by rw [<- Paired.length rel]; exact z
    have hl : (putK kvs k v).length <= sizeLine := by have := length_putK kvs k v; omega
    refine wpAny_setItem_heap (hsz := hz) (tupleKind_room_in1 hu) (key_of I.hok eb) dd fun h' dd' hs => h _ ?_
    obtain ⟨q, es, ep, hq, h2, h3, h4, _, h5⟩ := dd'
    refine d_write I (by rw [e]; exact True.intro) hs ⟨q, hq⟩ ⟨hl, hd, _, (rel.put k eb rv).keeps fun c ys ec => ?_, q, es, ep, hq, h2, h3, h4, h5⟩
    rw [zF (qD ec e (fun z => nomatch z))]
    exact ec
end
section
variable {X : Cx} {pins : List (Addr × Obj)} {σ : St} {H : Hp} {s : Shared} {a : Addr} {kvs : List (Key × V)} {k : Key} {u : Value} {A : Around} {E : Value -> Shared -> Prop}
end
def NoSl (i : Expr) : Prop := ∀ ov iv, subscripted i false ov iv = operate [ov, iv] (getItem ov iv)
theorem subD_of {prog : Program} {w : World} {A : Around} {E : Value -> Shared -> Prop} {s : Shared} {env : Env} {value slice : Expr} {pos : Pos} {T id : String} {Q : Value -> Shared -> Prop}
    (hl : typeLookup (.type T) "__getitem__" = pure (some (.builtin id))) (hs : NoSl slice)
    (h : wpAny (model prog w) A (eval value env) (fun o s₁ => wpAny (model prog w) A (eval slice env) (fun i s₂ => s₂.TypeIs o T /\ wpAny (model prog w) A (getItem o i) Q E s₂) E s₁) E s) :
    wpAny (model prog w) A (eval (.Subscript value slice pos) env) Q E s := by
  refine Subscript_ (wpAny_mono h (fun o s₁ h₁ => wpAny_mono h₁ (fun i s₂ h₂ => ?_) fun _ _ x => x) fun _ _ x => x)
  obtain ⟨hT, h₂⟩ := h₂
  unfold subscriptTail
  refine wpAny_bind ?_
  rw [getitemInPython_of_ne hT.not_modules]
  refine wpAny_bind (wpAny_specialOf hT hl ?_)
  have fin : wpAny (model prog w) A (subscripted slice false o i) (fun r s₃ => wpAny (model prog w) A (letTemporaryGo value o r >>= fun _ => pure r) Q E s₃) E s₂ := by
    rw [hs o i]
    exact wpAny_operating (wpAny_mono h₂ (fun r s₃ h₃ => wpAny_bind (wpAny_letTemporaryGo (wpAny_pure h₃))) fun _ _ x => x)
  first
    | exact wpAny_pure (wpAny_bind fin)
    | exact wpAny_bind (wpAny_pure (wpAny_bind fin))
    | exact wpAny_bind fin
theorem dict_typeIs {X : Cx} {pins : List (Addr × Obj)} {σ : St} {H : Hp} {s : Shared} {a : Addr} {y : V} {o : Option V} (I : Inv X pins σ H s) (g : DGet H a y o) : s.TypeIs (.ref a) "dict" := by
  rcases g with ⟨kvs, k, e, _, _⟩ | ⟨kvs, k, b, e, _, _, _⟩
  · obtain ⟨_, _, vs, _, dd⟩ := dk_rd I.hok e
    exact dd.typeIs
  · obtain ⟨_, _, xs, _, dd⟩ := dt_rd I.hok e
    exact dd.typeIs
def tDGet (td ty : TE) : TE := fun σ H Q => td σ H fun x H1 => ty σ H1 fun y H2 => ∃ a v, x = .ref a /\ DGet H2 a y (some v) /\ Q v H2
def tDIn (ty td : TE) : TE := fun σ H Q => ty σ H fun y H1 => td σ H1 fun x H2 => ∃ a o, x = .ref a /\ DGet H2 a y o /\ Q (.bl o.isSome) H2
def tDNotIn (ty td : TE) : TE := fun σ H Q => ty σ H fun y H1 => td σ H1 fun x H2 => ∃ a o, x = .ref a /\ DGet H2 a y o /\ Q (.bl (!o.isSome)) H2
def sDPut (td ty tv : TE) : TS := fun D σ H => tv σ H fun v H1 => td σ H1 fun x H2 => ty σ H2 fun y H3 => ∃ a H4, x = .ref a /\ DPut H3 a y v H4 /\ D.nx σ H4
section
variable {X : Cx} {o i e value : Expr} {pos pos' tpos : Pos} {td ty tv : TE}
theorem pe_dget (hu : X.A.units + 1 < cLine) (ho : PE X o td) (hi : PE X i ty) (hs : NoSl i) : PE X (.Subscript o i pos) (tDGet td ty) := by
  intro pins s σ H Q I h
  refine subD_of PySem.F.slot_dict_getitem.lookup hs (thn (ho pins s σ H _ I h) fun u s1 ⟨x, H1, I1, rx, q1⟩ => thn (hi pins s1 σ H1 _ I1 q1) fun iv s2 ⟨y, H2, I2, ry, a, v, ex, g, q2⟩ => ?_)
  subst ex
  obtain rfl : u = Value.ref a := rx
  exact ⟨dict_typeIs I2 g, d_getItem hu I2 g ry fun w' s3 I3 rw' => ⟨v, H2, I3, rw', q2⟩⟩
theorem pc_din (hu : X.A.units + 1 < cLine) (hi : PE X i ty) (ho : PE X o td) : PC X .In i o (tDIn ty td) := by
  intro pins s σ H Q I h
  refine thn (hi pins s σ H _ I h) fun iv s1 ⟨y, H1, I1, ry, q1⟩ => thn (ho pins s1 σ H1 _ I1 q1) fun u s2 ⟨x, H2, I2, rx, a, ov, ex, g, q2⟩ => ?_
  subst ex
  obtain rfl : u = Value.ref a := rx
  exact d_in hu I2 g ry fun s3 I3 => ⟨.bl ov.isSome, H2, I3, rfl, q2⟩
theorem pc_dnotin (hu : X.A.units + 1 < cLine) (hi : PE X i ty) (ho : PE X o td) : PC X .NotIn i o (tDNotIn ty td) := by
  intro pins s σ H Q I h
  refine thn (hi pins s σ H _ I h) fun iv s1 ⟨y, H1, I1, ry, q1⟩ => thn (ho pins s1 σ H1 _ I1 q1) fun u s2 ⟨x, H2, I2, rx, a, ov, ex, g, q2⟩ => ?_
  subst ex
  obtain rfl : u = Value.ref a := rx
  exact d_notIn hu I2 g ry fun s3 I3 => ⟨.bl (!ov.isSome), H2, I3, rfl, q2⟩
theorem ps_dput (hu : X.A.units + 1 < cLine) (ho : PE X o td) (hi : PE X i ty) (hv : PE X value tv) (hs : swapsWith value (some (.Subscript o i pos')) pos.line X.env = pure false) :
    PS X (.Assign [.Subscript o i pos'] value pos) (sDPut td ty tv) := by
  intro pins s σ H D I h
  refine wpAny_Assign_Subscript (thn (hv pins s σ H _ I h) fun r s1 ⟨v, H1, I1, rv, q1⟩ => thn (ho pins s1 σ H1 _ I1 q1) fun u s2 ⟨x, H2, I2, rx, q2⟩ => thn (hi pins s2 σ H2 _ I2 q2) fun iv s3 ⟨y, H3, I3, ry, a, H4, ex, g, q3⟩ => ?_) hs
  subst ex
  obtain rfl : u = Value.ref a := rx
  exact d_setItem hu I3 g ry rv fun s4 I4 => ⟨σ, H4, I4, q3⟩
end
theorem dk_empty {P : Program} {w : World} {H : Hp} (h : Heap) (hb : sysModules < h.objs.size) : yZ P w H (h.push { cls := .type "dict", data := .dict #[] }) h.objs.size (.dK []) :=
  ⟨Nat.zero_le _, beq_eq_false_iff_ne.mpr (Ne.symm (Nat.ne_of_lt hb)), [], .nil, Heap.DictOf.new h⟩
def tDNewK : TE := fun _ H Q => ∀ p, H p = none -> Q (.ref p) (upd H p (.dK []))
section
variable {X : Cx} {pos : Pos}
theorem pe_dnewK : PE X (.Dict [] [] pos) tDNewK := fun pins s σ H Q I h =>
  wpAny_Dict_empty ⟨.ref s.heap.objs.size, _, I.laid (a := s.heap.objs.size) (o := .dK []) (t' := s.toks) (fun _ _ q => Heap.get?_push_of_some _ q) (Nat.le_refl _) (dk_empty s.heap I.big), rfl, h _ (I.hok.fresh (Nat.le_refl _))⟩
end
section
variable {X : Cx} {pins : List (Addr × Obj)} {σ : St} {H : Hp} {s : Shared} {a : Addr} {y d : V} {u r : Value} {o : Option V} {A : Around} {E : Value -> Shared -> Prop}
end
section
variable {X : Cx} {o e f : Expr} {apos cpos : Pos} {td ty tx : TE}
end
section
variable {X : Cx} {pins : List (Addr × Obj)} {σ : St} {H : Hp} {s : Shared} {a : Addr} {kvs : List (Key × V)} {A : Around} {E : Value -> Shared -> Prop}
end
section
variable {X : Cx} {pins : List (Addr × Obj)} {σ : St} {H : Hp} {s : Shared} {a : Addr} {y : V} {u : Value} {A : Around} {E : Value -> Shared -> Prop}
end
end L2
namespace L2
open PySem PySem.Spec PyProof.Rows
section
variable {prog : Program} {w : World} {A : Around} {E : Value -> Shared -> Prop}
end
section
variable {X : Cx}
end
end L2
namespace L2
open PySem PySem.Spec PyProof.Rows
theorem boot_reversed5 : bootBuiltins "reversed" = some (.type "reversed") := by decide +kernel
section
variable {X : Cx} {pins : List (Addr × Obj)} {σ : St} {H : Hp} {s : Shared} {h' : Heap}
end
section
variable {X : Cx}
theorem pi_one {tg : Expr} {pins : List (Addr × Obj)} {σ : St} {H : Hp} {s : Shared} {R : It -> Hp -> Prop} {J : It} {tn : Nat -> Heap -> Prop} {tk : Nat} (I : Inv X pins σ H s) (o : Obj)
    (T : Turn X.prog X.w X.K tg J [s.heap.objs.size] s.heap.objs.size tn) (st : tn 0 (s.heap.push o)) (q : R J H) : PIE X pins σ tg R (.ref s.heap.objs.size) { s with heap := s.heap.push o, toks := tk } := by
  refine ⟨s.heap.objs.size, [s.heap.objs.size], tn, J, H, rfl, I.kept fun b ob e => Heap.get?_push_of_some _ e, T, st, fun b hb => ?_, q⟩
  have e : b = s.heap.objs.size := by simpa using hb
  subst e
  exact I.fpOk (Nat.le_refl _) (I.hok.fresh (Nat.le_refl _))
end
section
variable {X : Cx} {tg : Expr}
end
def Itv (K : PySem.W.Frag) (a : Addr) (n : Nat) : It :=
  ⟨fun i H => i < n /\ ∃ (xs : List V) (x : V), qZ K H a xs /\ xs[n - 1 - i]? = some x, fun i H x H' => H' = H /\ ∀ xs, qZ K H a xs -> xs[n - 1 - i]? = some x, fun i _ => n <= i⟩
theorem turn_rev {P : Program} {w : World} {K : PySem.W.Frag} {tg : Expr} (a it : Addr) (n : Nat) : Turn P w K tg (Itv K a n) [it] it (fun i h => i <= n /\ h.IsRevIter it a ((n : Int) - 1 - (i : Nat))) where
  mem := by simp
  obj := fun i h st b hb => by
    have e : b = it := by simpa using hb
    subst e
    obtain ⟨_, o, e, c, d⟩ := st
    exact ⟨o, e, fun v z => by rw [d] at z; cases z⟩
  keep := fun i h h' st k => ⟨st.1, st.2.at fun o e => k it (by simp) o e⟩
  item := by
    intro X hP hw hK hc i pins s σ H E I hf st hg
    subst hP hw hK
    obtain ⟨hin, xs, x, hq, hx⟩ := hg
    obtain ⟨its, rv, p, hz⟩ := I.list hq
    obtain ⟨u, hu, ru⟩ := rv.get hx
    obtain ⟨f0, f1, f2, f3, f4, f5⟩ := hf it (by simp)
    obtain ⟨_, hit⟩ := st
    have e1 : (n : Int) - 1 - ((i : Nat) : Int) = ((n - 1 - i : Nat) : Int) := by omega
    rw [e1] at hit
    refine wpAny_pyNext_rev_item hit p.isList (x := u) (by simpa using hu) fun h' st' sb => ?_
    have e2 : ((n - 1 - i : Nat) : Int) - 1 = (n : Int) - 1 - ((i + 1 : Nat) : Int) := by omega
    rw [e2] at st'
    have I1 : Inv X pins σ H { s with heap := h' } := I.turned (t' := s.toks) (fun b o hb e => (sb.2 b hb).trans e) f0 f1 f3 f4 f5
    obtain ⟨o, e, c, d⟩ := id st'
    exact ⟨u, rfl, go_of (s := { s with heap := h' }) e c d (by decide) ⟨x, H, I1, ru, ⟨rfl, fun ys hy => by rw [I.list_inj hy hq]; exact hx⟩, ⟨hin, st'⟩, fun b hb => (hf b hb).1⟩⟩
  done := by
    intro X hP hw hK hc i pins s σ H E I hf st hg
    subst hP hw hK
    obtain ⟨f0, f1, f2, f3, f4, f5⟩ := hf it (by simp)
    obtain ⟨hin, hit⟩ := st
    have hge : n <= i := hg
    have e1 : (n : Int) - 1 - ((i : Nat) : Int) = -1 := by omega
    rw [e1] at hit
    exact wpAny_pyNext_rev_end (I.ok.hd hc) hit fun h' eb => ⟨rfl, I.turned (t' := s.toks) (fun b o hb e => eb b o hb e) f0 f1 f3 f4 f5⟩
  self := fun A i s Q E st h => wpAny_pyIter_revIter st.2 h
def iRev (K : PySem.W.Frag) (ta : TA) : TI := fun σ H R => ta σ H fun vs H1 => ∃ (a : Addr) (xs : List V), vs = [.ref a] /\ qZ K H1 a xs /\ R (Itv K a xs.length) H1
section
variable {X : Cx} {tg : Expr}
theorem pi_reversed {e : Expr} {ta : TA} {p pos : Pos} (hg : Gl X "reversed") (hm : X.mg "reversed" = none) (ha : PA X [e] ta) (hs : starEach [e] X.env = [(false, eval e X.env)] := by rfl) : PI X tg (.Call (.Name "reversed" p) [e] [] pos) (iRev X.K ta) := by
  intro pins s σ H R I h
  refine Call_ (ld_blt I hg hm boot_reversed5 (PyProof.Rows.callWith_type1 (thn (ha pos pins s σ H _ I h) fun us s1 ⟨vs, H1, I1, r1, q1⟩ => ?_) hs rfl))
  obtain ⟨a, xs, e, hq, q⟩ := q1
  subst e
  cases r1 with
  | cons r rr =>
    cases rr
    cases r
    obtain ⟨its, rv, p', hz⟩ := I1.list hq
    have hl := rv.length
    have e1 : ((its.toArray.size : Nat) : Int) - 1 = (xs.length : Int) - 1 - ((0 : Nat) : Int) := by simp only [List.size_toArray]; omega
    refine call_reversed_list p'.isList (wpAny_pyIter_revIter (l := a) (i := ((its.toArray.size : Nat) : Int) - 1) ⟨_, Heap.get?_push_size _ rfl, rfl, rfl⟩ ?_)
    refine pi_one (tk := s1.toks) I1 _ (turn_rev a _ xs.length) ⟨Nat.zero_le _, ?_⟩ q
    rw [<- e1]
    exact ⟨_, Heap.get?_push_size _ rfl, rfl, rfl⟩
end
section
variable {prog : Program} {w : World} {A : Around} {E : Value -> Shared -> Prop} {s : Shared}
end
section
variable {X : Cx} {pins : List (Addr × Obj)} {σ : St} {H : Hp} {s : Shared} {d : Addr} {o : Obj}
end
section
variable {P : Program} {w : World} {K : PySem.W.Frag} {tg : Expr} {d : Addr} {o : Obj} {es : Array DictEntry} {ep : Nat}
end
section
variable {X : Cx} {tg e : Expr} {td : TE} {apos cpos : Pos}
end
end L2
section 
namespace Bits
open PySem PyProof.Rows
end Bits
end 
section 
namespace TL
open PySem PySem.Builtin PySem.Builtin.Str PySem.StrLaws
abbrev tl (x : Str) : List Nat := x.cps.toList
theorem ext_tl {x y : Str} (h : tl x = tl y) : x = y := Str.ext' (Array.toList_inj.mp h)
theorem tl_append (x y : Str) : tl (x ++ y) = tl x ++ tl y := by
  show (x ++ y).cps.toList = _
  rw [Str.cps_append, Array.toList_append]
def joinL (S : List Nat) : List (List Nat) -> List Nat
  | [] => []
  | [p] => p
  | p :: q :: r => p ++ (S ++ joinL S (q :: r))
theorem tl_join (y : Str) : ∀ parts : List Str, tl (Str.join y parts) = joinL (tl y) (parts.map tl)
  | [] => rfl
  | [_] => rfl
  | x :: z :: r => by
    show tl (x ++ y ++ Str.join y (z :: r)) = tl x ++ (tl y ++ joinL (tl y) ((z :: r).map tl))
    rw [tl_append, tl_append, tl_join y (z :: r), List.append_assoc]
theorem join_eq (y : Str) (parts : List Str) : Txt.join y parts = Str.join y parts := glued_eq_join y parts
end TL
end 
namespace L2
open PySem PySem.Spec PyProof.Rows
theorem strs_of_vals : ∀ {ys : List Str} {us : List Value}, Vals (ys.map V.str) us -> StrsAre us ys
  | [], _, .nil => .nil
  | y :: ys, _, .cons r t => by
    obtain ⟨k, rfl⟩ := r
    exact .cons y k (strs_of_vals t)
section
variable {X : Cx} {pins : List (Addr × Obj)} {σ : St} {H : Hp} {s : Shared} {Q : VK}
end
section
variable {X : Cx}
theorem mt_join : MtR X "str.join" (fun x xs H Q => ∃ a p, ∃ ys : List Str, x = .str a /\ xs = [.ref p] /\ (qZ X.K H p (ys.map V.str) ∨ SqT X.K H p (ys.map V.str)) /\
    (ys.map (·.length)).sum + ys.length * a.length <= 16777216 /\ Q (.str (Txt.join a ys)) H) := by
  intro pins s σ H x xs v us Q I rx rs h
  obtain ⟨a, p, ys, rfl, rfl, hp, hz, h⟩ := h
  obtain ⟨t, rfl⟩ := rx
  cases rs with
  | cons r1 rs =>
    cases rs
    cases r1
    rcases hp with hp | hp
    · obtain ⟨its, r, ⟨o, n, ho, hc, _, hd⟩, _⟩ := I.list hp
      exact PyProof.Rows.join_list (items := its.toArray) ⟨o, ho, hc, n, hd⟩ (by rw [List.toList_toArray]; exact strs_of_vals r) hz fun t' k => ⟨.str _, H, I.tok k, ⟨t', rfl⟩, h⟩
    · obtain ⟨its, r, ht, _⟩ := I.tuple hp
      exact PyProof.Rows.join_tuple (items := its.toArray) ht (by rw [List.toList_toArray]; exact strs_of_vals r) hz fun t' k => ⟨.str _, H, I.tok k, ⟨t', rfl⟩, h⟩
theorem call_int_str : CallR X (.type "int") (fun xs H Q => ∃ a n, xs = [.str a] /\ PySem.intText? a = some n /\ a.length <= 640 /\ Q (.int n) H) := by
  intro pins s σ H xs us Q I rs h
  obtain ⟨a, n, rfl, hn, hl, h⟩ := h
  cases rs with
  | cons r1 rs =>
    cases rs
    obtain ⟨t, rfl⟩ := r1
    exact PySem.W.KIN.call_text hn hl ⟨.int n, H, I.tok _, ⟨_, rfl⟩, h⟩
end
section
variable {X : Cx} {o e : Expr} {to te : TE}
def tM1 (r : V -> List V -> Hp -> VK -> Prop) (to te : TE) : TE := fun σ H Q => to σ H fun x H1 => (∃ a, x = .str a) /\ te σ H1 fun y H2 => r x [y] H2 Q
theorem pe_m1 {id : String} {name : Str} {apos pos : Pos} {r : V -> List V -> Hp -> VK -> Prop} (slot : Slot "str" name id) (ty : typeOf (.builtin id) = pure (.type "method_descriptor")) (rule : MtR X id r) (ho : PE X o to) (he : PE X e te)
    (hs : starEach [e] X.env = [(false, eval e X.env)] := by rfl) (hbase : attributeBase o name X.env (eval o X.env) = eval o X.env := by rfl) (hline : (apos.endLine == pos.line) = true := by rfl) :
    PE X (.Call (.Attribute o name apos) [e] [] pos) (tM1 r to te) := by
  intro pins s σ H Q I h
  refine PySem.Call_method1 hbase hs hline (thn (ho pins s σ H _ I h) fun v s1 ⟨x, H1, I1, r1, q1⟩ => ?_)
  obtain ⟨⟨a, rfl⟩, q1⟩ := q1
  obtain ⟨t, rfl⟩ := _root_.id r1
  refine ⟨"str", _, F.plainAttrs_str, slot, ty, typeIs_str _ _ _, (fun _ e => nomatch e), Calls.callWith_builtin rfl (Calls.evalArgs_plain (Calls.spliced_cons ?_))⟩
  exact thn (he pins s1 σ H1 _ I1 q1) fun u s2 ⟨y, H2, I2, r2, q2⟩ => Calls.spliced_nil (rule pins s2 σ H2 _ [y] _ [u] Q I2 r1 (.cons r2 .nil) q2)
theorem pe_join {apos pos : Pos} (ho : PE X o to) (he : PE X e te) (hs : starEach [e] X.env = [(false, eval e X.env)] := by rfl) (hbase : attributeBase o "join" X.env (eval o X.env) = eval o X.env := by rfl) (hline : (apos.endLine == pos.line) = true := by rfl) :
    PE X (.Call (.Attribute o "join" apos) [e] [] pos) (tM1 (fun x xs H Q => ∃ a p, ∃ ys : List Str, x = .str a /\ xs = [.ref p] /\ (qZ X.K H p (ys.map V.str) ∨ SqT X.K H p (ys.map V.str)) /\
      (ys.map (·.length)).sum + ys.length * a.length <= 16777216 /\ Q (.str (Txt.join a ys)) H) to te) :=
  pe_m1 F.slot_str_join F.type_str_join mt_join ho he hs hbase hline
end
end L2
namespace L2
open PySem PySem.Spec PyProof.Rows
section
variable {X : Cx}
end
end L2
namespace Att
open PySem PySem.W PySem.Calls PyProof.Rows
section
variable {prog : Program} {w : World} {A : Around} {E : Value -> Shared -> Prop} {s : Shared} {K : Frag}
end
end Att
namespace L2
open PySem PySem.Spec PyProof.Rows
end L2
namespace L2
open PySem PySem.Spec PyProof.Rows
end L2
/- THE LAST THEOREM (shape; LID, My.* are yours):
   My.Adr: a structure of the addresses that your layer names (classes, functions); My.Txt K t: a structure (Prop) of the equations over K;
   My.txt_mk : {K} {implicit addresses ..} (e1 : nsIn K mainGlobals "law" = some (some (.ref f))) (e2 : K.lookup f = some ⟨oc, od, .func (fnOf "law" "law" params body scope dV kV doc pm an cdv ct), sl⟩) (e3 : codeIn K cdv "law" = true) .. : ∃ t, My.Txt K t
set_option maxRecDepth 100000 in
set_option maxHeartbeats 0 in
theorem PySem.Challenge.cw_LID_holds : PySem.Challenge.rw_LID.Holds := by
  w_on; o_law; k_head; (case hw => w_witness2)
  k_fill
  refine L2.walk_of (l := PySem.Challenge.rw_LID) (n := 63) (k := 40) (x := "script") (CX := fun w => ..) (sp := fun _ => My.sp_law) rfl (by decide) rfl ⟨rfl, by decide, by decide⟩ (fun w h Y => PySem.W.kIn_of Y) ?F ?S ?C
  case F =>
    intro w mg fa h KX G hmg
    have T : ∃ t, My.Txt (L2.KOf KX) t := by
      dsimp only [L2.KOf]                          -- K must stand as «<heap const> w.params» for k_is
      refine' My.txt_mk ?e1 ?e2 ?e3 ..
      (case e1 => PySem.W.k_is)                    -- in the order: a name -> its address -> its object -> its parts
      (case e2 => PySem.W.k_is)
      ..
    obtain ⟨t, T⟩ := T
    have e0 := hmg.symm.trans (PySem.W.mg_of KX G T.law)
    cases e0                                       -- fa is the law's own address
    exact ⟨_, fun s u => .of_eq rfl, fun base kb nb => My.law_fn T kb nb⟩     -- if «.of_eq rfl» comes too early: refine' ⟨_, ?b, fun base kb nb => My.law_fn T kb nb⟩; exact fun s u => .of_eq rfl
  case S => exact fun w H a ns hl hO hS => ..
  case C => exact ..
(the tactic k_is has no namespace: write k_is) -/
namespace L2
open PySem PySem.Spec PyProof.Rows
def yS (s : Stmt) (j : Nat) : Stmt := match s with
  | .ClassDef _ _ _ body _ _ _ _ _ _ _ => body.getD j (.Pass ⟨0, 0, 0, 0⟩)
  | _ => .Pass ⟨0, 0, 0, 0⟩
def defArgs (s : Stmt) : Arguments := match s with
  | .FunctionDef _ a _ _ _ _ _ _ _ _ => a
  | _ => { posonlyargs := [], args := [], vararg := none, kwonlyargs := [], kw_defaults := [], kwarg := none, defaults := [] }
def defBody (s : Stmt) : List Stmt := match s with
  | .FunctionDef _ _ b _ _ _ _ _ _ _ => b
  | _ => []
def zJ (s : Stmt) : Scope := match s with
  | .FunctionDef _ _ _ _ _ _ sc _ _ _ => sc
  | _ => { kind := .function, names := [], isGenerator := false, isCoroutine := false }
abbrev E0 : XK := fun _ _ _ => False
structure Fun (K : PySem.W.Frag) (x qual : Str) (st : Stmt) (f : Addr) (fd : FuncData) : Prop where
  ex : ∃ (oc : Value) (od : Option Addr) (kV doc pm : Value) (an : Option Addr) (cdv ct : Value) (osl : Array (Option Value)),
    fd = PySem.W.fnOf x qual (defArgs st) (defBody st) (zJ st) .none kV doc pm an cdv ct /\ K.lookup f = some ⟨oc, od, .func fd, osl⟩ /\ PySem.W.codeIn K cdv qual = true
  kp : PySem.W.keepIn K (.ref f) = true
section
variable {P : Program} {w : World} {K : PySem.W.Frag} {mg : Str -> Option Value} {base : Heap}
theorem Fun.binds {x qual : Str} {st : Stmt} {f : Addr} {fd : FuncData} {ps : List Str} (F : Fun K x qual st f fd)
    (h : ∀ (kV doc pm : Value) (an : Option Addr) (cdv ct : Value) (us : List Value), us.length = ps.length -> bindArgs (PySem.W.fnOf x qual (defArgs st) (defBody st) (zJ st) .none kV doc pm an cdv ct) ⟨us, []⟩ = pure (ps.zip us)) : Binds K fd ps [] := by
  obtain ⟨oc, od, kV, doc, pm, an, cdv, ct, osl, rfl, lk, hcd⟩ := F.ex
  exact .all (h kV doc pm an cdv ct)
theorem fun_mk {x qual : Str} {st : Stmt} {f : Addr} {oc : Value} {od an : Option Addr} {osl : Array (Option Value)} {kV doc pm cdv ct : Value} (l : K.lookup f = some ⟨oc, od, .func (PySem.W.fnOf x qual (defArgs st) (defBody st) (zJ st) .none kV doc pm an cdv ct), osl⟩)
    (c : PySem.W.codeIn K cdv qual = true) (k : PySem.W.keepIn K (.ref f) = true) : Fun K x qual st f (PySem.W.fnOf x qual (defArgs st) (defBody st) (zJ st) .none kV doc pm an cdv ct) := ⟨⟨oc, od, kV, doc, pm, an, cdv, ct, osl, rfl, l, c⟩, k⟩
end
theorem hu_of {A : Around} {k : Nat} (hr : Room k A) : A.units + 1 < cLine := Nat.lt_of_le_of_lt (Nat.add_le_add_left (by decide : 1 <= 64) _) hr.units
theorem small1000 {n : Nat} (h : n <= 1000) : n < sizeLine := Nat.lt_of_le_of_lt h (by decide)
section
variable {X : Cx}
theorem pv (i : Nat) {x : Str} {pos : Pos} (hN : X.N[i]? = some x := by rfl) (hv : Vis X.env.scope x := by first | exact Or.inl rfl | exact Or.inr (Or.inl rfl) | exact Or.inr (Or.inr rfl)) (hd : (x == ("__debug__" : Str)) = false := by decide)
    (hcd : (x == ("__classdict__" : Str)) = false := by decide) : PE X (.Name x pos) (qT i) := pe_var hN hv hd hcd
end
theorem zN {A B : Prop} (h : B) : if false = true then A else B := by
  rw [if_neg Bool.false_ne_true]
  exact h
theorem yJ {A B : Prop} (h : A) : if true = true then A else B := by
  rw [if_pos rfl]
  exact h
theorem qG {c A B : Prop} [Decidable c] (h1 : c -> A) (h2 : ¬ c -> B) : if c then A else B := by
  by_cases h : c
  · rw [if_pos h]
    exact h1 h
  · rw [if_neg h]
    exact h2 h
def Same (H H' : Hp) : Prop := ∀ b o, H b = some o -> H' b = some o
theorem Same.refl (H : Hp) : Same H H := fun _ _ h => h
theorem Same.trans {H H1 H2 : Hp} (a : Same H H1) (b : Same H1 H2) : Same H H2 := fun c o h => b c o (a c o h)
theorem Same.free {H H' : Hp} (e : Same H H') {l : Addr} (h : H' l = Option.none) : H l = Option.none := by
  cases q : H l with
  | none => rfl
  | some o =>
    rw [e l o q] at h
    cases h
theorem Same.seq {K : PySem.W.Frag} {H H' : Hp} {a : Addr} {xs : List V} (e : Same H H') (h : qZ K H a xs) : qZ K H' a xs := by
  rcases h with (h | ⟨o, h⟩) | h
  · exact .inl (.inl (e _ _ h))
  · exact .inl (.inr ⟨o, e _ _ h⟩)
  · exact .inr h
section
variable {κ : Type} [DecidableEq κ]
theorem valV_in {kvs : List (κ × V)} {k : κ} {v : V} (h : valV kvs k = some v) : k ∈ kvs.map (·.1) := by
  have q : (kvs.any fun kv => decide (kv.1 = k)) = true := by
    rw [valV_any, h]
    all_goals rfl
  obtain ⟨p, hp, e⟩ := List.any_eq_true.mp q
  exact List.mem_map.mpr ⟨p, hp, of_decide_eq_true e⟩
end
end L2
end
section
section
set_option Elab.async false
set_option linter.all false
set_option maxRecDepth 100000
set_option maxHeartbeats 2000000
namespace L2
open PySem PySem.Spec PyProof.Rows
open PySem.W (WData Codec OpenSpec Well WellAll ReadsW ReadsAllW)
mutual
inductive Dw (K : PySem.W.Frag) (H : Hp) : V -> WData -> Prop
  | non : Dw K H .non .none
  | bl (b : Bool) : Dw K H (.bl b) (.bool b)
  | int (i : Int) : Dw K H (.int i) (.int i)
  | str (x : Str) : Dw K H (.str x) (.str x)
  | byt (b : Array UInt8) : Dw K H (.byt b) (.bytes b.toList)
  | lst {a : Addr} {xs : List V} {ds : List WData} : qZ K H a xs -> DwAll K H xs ds -> Dw K H (.ref a) (.list ds)
  | tup {a : Addr} {xs : List V} {ds : List WData} : SqT K H a xs -> DwAll K H xs ds -> Dw K H (.ref a) (.tuple ds)
inductive DwAll (K : PySem.W.Frag) (H : Hp) : List V -> List WData -> Prop
  | nil : DwAll K H [] []
  | cons {v : V} {vs : List V} {d : WData} {ds : List WData} : Dw K H v d -> DwAll K H vs ds -> DwAll K H (v :: vs) (d :: ds)
end
theorem dw_ints {K : PySem.W.Frag} {H : Hp} : ∀ ns : List Int, DwAll K H (ns.map V.int) (ns.map WData.int)
  | [] => .nil
  | n :: r => .cons (.int n) (dw_ints r)
theorem ints_dw {K : PySem.W.Frag} {H : Hp} : ∀ (ns : List Int) (xs : List V), DwAll K H xs (ns.map WData.int) -> xs = ns.map V.int
  | [], xs, h => by
    cases h
    rfl
  | n :: r, xs, h => by
    cases h with
    | cons h1 h2 =>
      cases h1
      rw [ints_dw r _ h2] <;> rfl
section
variable {P : Program} {w : World} {K : PySem.W.Frag} {H : Hp} {h : Heap} {R : PySem.W.WRecords} {cl : Str -> Option Addr}
theorem sqL_at {a : Addr} {xs : List V} (hok : HOk P w H h) (KX : K.In h) (q : qZ K H a xs) : ∃ (its : List Value) (o : Obj) (n : Nat), Vals xs its /\ h.get? a = some o /\ o.cls = .type "list" /\ o.data = .seq its.toArray n := by
  rcases q with q | ⟨o, its, n, e, hc, _, hd, _, hv⟩
  · obtain ⟨_, its, n, hv, e⟩ := (show yZ P w H h a (.lst xs) from q.ok hok)
    exact ⟨its, _, n, hv, e, rfl, rfl⟩
  · exact ⟨its.toList, o, n, hv, KX _ _ e, hc, by simp [hd]⟩
theorem sqT_at {a : Addr} {xs : List V} (hok : HOk P w H h) (KX : K.In h) (q : SqT K H a xs) : ∃ (its : List Value) (o : Obj) (n : Nat), Vals xs its /\ h.get? a = some o /\ o.cls = .type "tuple" /\ o.data = .seq its.toArray n := by
  rcases q with q | ⟨o, its, n, e, hc, hd, _, hv⟩
  · obtain ⟨_, its, hv, o, e, hc, n, hd⟩ := (show yZ P w H h a (.tup xs) from q.ok hok)
    exact ⟨its, o, n, hv, e, hc, hd⟩
  · exact ⟨its.toList, o, n, hv, KX _ _ e, hc, by simp [hd]⟩
mutual
theorem Dw.reads (hok : HOk P w H h) (KX : K.In h) : ∀ (d : WData) (v : V) (u : Value), Dw K H v d -> qN v u -> ∃ as, ReadsW R cl h u d as
  | .none, _, _, x, r => by
    cases x
    cases r
    exact ⟨_, ReadsW.none⟩
  | .bool b, _, _, x, r => by
    cases x
    cases r
    exact ⟨_, ReadsW.bool b⟩
  | .int i, _, _, x, r => by
    cases x
    obtain ⟨t, rfl⟩ := r
    exact ⟨_, ReadsW.int i t⟩
  | .str s, _, _, x, r => by
    cases x
    obtain ⟨t, rfl⟩ := r
    exact ⟨_, ReadsW.str s t⟩
  | .bytes b, _, _, x, r => by
    cases x
    obtain ⟨t, rfl⟩ := r
    exact ⟨_, ReadsW.bytes _ t⟩
  | .list ds, _, _, x, r => by
    cases x with
    | lst hs ha =>
      cases r
      obtain ⟨its, o, n, rv, ho, hc, hd⟩ := sqL_at hok KX hs
      obtain ⟨as, hr⟩ := Dw.readsAll hok KX ds _ its ha rv
      exact ⟨_, ReadsW.list ho hc hd hr⟩
  | .tuple ds, _, _, x, r => by
    cases x with
    | tup hs ha =>
      cases r
      obtain ⟨its, o, n, rv, ho, hc, hd⟩ := sqT_at hok KX hs
      obtain ⟨as, hr⟩ := Dw.readsAll hok KX ds _ its ha rv
      exact ⟨_, ReadsW.tuple ho hc hd hr⟩
  | .float _, _, _, x, _ => by cases x
  | .dict _, _, _, x, _ => by cases x
  | .bytearray _, _, _, x, _ => by cases x
  | .set _, _, _, x, _ => by cases x
  | .frozenset _, _, _, x, _ => by cases x
  | .obj _ _, _, _, x, _ => by cases x
theorem Dw.readsAll (hok : HOk P w H h) (KX : K.In h) : ∀ (ds : List WData) (vs : List V) (us : List Value), DwAll K H vs ds -> Vals vs us -> ∃ as, ReadsAllW R cl h us ds as
  | [], _, _, x, r => by
    cases x
    cases r
    exact ⟨_, ReadsAllW.nil⟩
  | d :: ds, _, _, x, r => by
    cases x with
    | cons h1 h2 =>
      cases r with
      | cons r1 r2 =>
        obtain ⟨as, q1⟩ := Dw.reads hok KX d _ _ h1 r1
        obtain ⟨bs, q2⟩ := Dw.readsAll hok KX ds _ _ h2 r2
        exact ⟨_, ReadsAllW.cons q1 q2⟩
end
end
mutual
def plW : WData -> Bool
  | .none => true
  | .bool _ => true
  | .int _ => true
  | .str _ => true
  | .bytes _ => true
  | .list xs => plWs xs
  | .tuple xs => plWs xs
  | _ => false
def plWs : List WData -> Bool
  | [] => true
  | x :: r => plW x && plWs r
end
theorem plWs_map {α : Type} {f : α -> WData} (h : ∀ a, plW (f a) = true) : ∀ l : List α, plWs (l.map f) = true
  | [] => rfl
  | x :: r => by
    show (plW (f x) && plWs (r.map f)) = true
    rw [h x, plWs_map h r] <;> rfl
theorem pl_enc : ∀ (c : Codec) (a : c.denote), plW (c.enc a) = true
  | .unit, _ => rfl
  | .bool, _ => rfl
  | .int _ _, _ => rfl
  | .nat _ _, _ => rfl
  | .u8, _ => rfl
  | .bytes _ _, _ => rfl
  | .text _ _ _ _, _ => rfl
  | .list _ _ c, a => plWs_map (fun x => pl_enc c x) a
  | .pair c d, a => by
    show (plW (c.enc a.1) && (plW (d.enc a.2) && true)) = true
    rw [pl_enc c a.1, pl_enc d a.2] <;> rfl
  | .triple c d e, a => by
    show (plW (c.enc a.1) && (plW (d.enc a.2.1) && (plW (e.enc a.2.2) && true))) = true
    rw [pl_enc c a.1, pl_enc d a.2.1, pl_enc e a.2.2] <;> rfl
  | .option c, none => rfl
  | .option c, some x => pl_enc c x
theorem pl_encAll : ∀ (cs : List Codec) (a : Codec.denoteAll cs), plWs (Codec.encAll cs a) = true
  | [], _ => rfl
  | c :: cs, a => by
    show (plW (c.enc a.1) && plWs (Codec.encAll cs a.2)) = true
    rw [pl_enc c a.1, pl_encAll cs a.2] <;> rfl
theorem weight_mem : ∀ {xs : List WData} {d : WData}, d ∈ xs -> d.weight <= WData.weightAll xs
  | [], d, h => absurd h (by simp)
  | x :: r, d, h => by
    show d.weight <= x.weight + 1 + WData.weightAll r
    rcases List.mem_cons.mp h with e | m
    · rw [e]
      omega
    · have z := weight_mem m
      omega
def toV : Value -> V
  | .none => .non
  | .bool b => .bl b
  | .int i _ => .int i
  | .str x _ => .str x
  | .bytes b _ => .byt b
  | .ref a => .ref a
  | _ => .non
def OkU (A : List Addr) : Value -> Prop
  | .none => True
  | .bool _ => True
  | .int _ _ => True
  | .str _ _ => True
  | .bytes _ _ => True
  | .ref a => a ∈ A
  | _ => False
theorem OkU.mono {A B : List Addr} (h : ∀ a ∈ A, a ∈ B) : ∀ {u : Value}, OkU A u -> OkU B u := fun {u} x => by
  cases u with
  | ref a => exact h a x
  | none => trivial
  | bool b => trivial
  | int i t => trivial
  | str s t => trivial
  | bytes b t => trivial
  | _ => exact False.elim x
theorem relV_toV {A : List Addr} {u : Value} (x : OkU A u) : qN (toV u) u := by
  cases u with
  | ref a => rfl
  | none => rfl
  | bool b => rfl
  | int i t => exact ⟨t, rfl⟩
  | str s t => exact ⟨t, rfl⟩
  | bytes b t => exact ⟨t, rfl⟩
  | _ => exact False.elim x
theorem vals_toV {A : List Addr} : ∀ {vs : List Value}, (∀ u ∈ vs, OkU A u) -> Vals (vs.map toV) vs
  | [], _ => .nil
  | u :: r, h => .cons (relV_toV (h u (List.mem_cons_self ..))) (vals_toV fun x hx => h x (List.mem_cons_of_mem _ hx))
def ArgOb (h : Heap) (A : List Addr) (a : Addr) : Prop := ∃ vs : List Value, vs.length <= sizeLine /\ (∀ u ∈ vs, OkU A u) /\
  (h.get? a = some { cls := .type "list", data := .seq vs.toArray } ∨ h.get? a = some { cls := .type "tuple", data := .seq vs.toArray })
theorem ArgOb.mono {h : Heap} {A B : List Addr} {a : Addr} (k : ∀ a ∈ A, a ∈ B) (x : ArgOb h A a) : ArgOb h B a := by
  obtain ⟨vs, h1, h2, h3⟩ := x
  exact ⟨vs, h1, fun u hu => (h2 u hu).mono k, h3⟩
theorem wellAll_len {P : Params} {h : Heap} : ∀ {vs : List Value} {ds : List WData}, WellAll P h vs ds -> vs.length = ds.length
  | _, _, .nil => rfl
  | _, _, .cons _ b => by
    show _ + 1 = _ + 1
    rw [wellAll_len b]
theorem well_list {P : Params} {h : Heap} {v : Value} {ds : List WData} (x : Well P h v (.list ds)) : ∃ (a : Addr) (vs : List Value), v = .ref a /\ h.get? a = some { cls := .type "list", data := .seq vs.toArray } /\ WellAll P h vs ds := by
  cases x with
  | list ho hall => exact ⟨_, _, rfl, ho, hall⟩
theorem well_tuple {P : Params} {h : Heap} {v : Value} {ds : List WData} (x : Well P h v (.tuple ds)) : ∃ (a : Addr) (vs : List Value), v = .ref a /\ h.get? a = some { cls := .type "tuple", data := .seq vs.toArray } /\ WellAll P h vs ds := by
  cases x with
  | tuple ho hall => exact ⟨_, _, rfl, ho, hall⟩
theorem well_cons {P : Params} {h : Heap} {us : List Value} {d : WData} {ds : List WData} (x : WellAll P h us (d :: ds)) : ∃ (v : Value) (vs : List Value), us = v :: vs /\ Well P h v d /\ WellAll P h vs ds := by
  cases x with
  | cons a b => exact ⟨_, _, rfl, a, b⟩
theorem line_of {n : Nat} (h : n <= 1048576) : n <= sizeLine := Nat.le_trans h (by decide)
section
variable {P : Params} {h : Heap}
mutual
theorem area_one : ∀ (d : WData) (v : Value), Well P h v d -> plW d = true -> d.weight <= 1048576 -> ∃ A : List Addr, OkU A v /\ ∀ a ∈ A, ArgOb h A a
  | .none, _, x, _, _ => by
    cases x
    exact ⟨[], trivial, fun a m => absurd m (by simp)⟩
  | .bool b, _, x, _, _ => by
    cases x
    exact ⟨[], trivial, fun a m => absurd m (by simp)⟩
  | .int i, _, x, _, _ => by
    cases x
    exact ⟨[], trivial, fun a m => absurd m (by simp)⟩
  | .str s, _, x, _, _ => by
    cases x
    exact ⟨[], trivial, fun a m => absurd m (by simp)⟩
  | .bytes b, _, x, _, _ => by
    cases x
    exact ⟨[], trivial, fun a m => absurd m (by simp)⟩
  | .list ds, _, x, p, z => by
    obtain ⟨a, vs, rfl, ho, hall⟩ := well_list x
    have z2 : WData.weightAll ds <= 1048576 := z
    obtain ⟨A, h1, h2⟩ := area_all ds _ hall p fun d hd => Nat.le_trans (weight_mem hd) z2
    have k : ∀ b ∈ A, b ∈ a :: A := fun b hb => List.mem_cons_of_mem _ hb
    refine ⟨a :: A, List.mem_cons_self .., fun b hb => ?_⟩
    rcases List.mem_cons.mp hb with e | m
    · rw [e]
      exact ⟨vs, line_of (by rw [wellAll_len hall]; exact Nat.le_trans (PySem.W.length_le_weightAllW ds) z2), fun u hu => (h1 u hu).mono k, .inl ho⟩
    · exact (h2 b m).mono k
  | .tuple ds, _, x, p, z => by
    obtain ⟨a, vs, rfl, ho, hall⟩ := well_tuple x
    have z2 : WData.weightAll ds <= 1048576 := z
    obtain ⟨A, h1, h2⟩ := area_all ds _ hall p fun d hd => Nat.le_trans (weight_mem hd) z2
    have k : ∀ b ∈ A, b ∈ a :: A := fun b hb => List.mem_cons_of_mem _ hb
    refine ⟨a :: A, List.mem_cons_self .., fun b hb => ?_⟩
    rcases List.mem_cons.mp hb with e | m
    · rw [e]
      exact ⟨vs, line_of (by rw [wellAll_len hall]; exact Nat.le_trans (PySem.W.length_le_weightAllW ds) z2), fun u hu => (h1 u hu).mono k, .inr ho⟩
    · exact (h2 b m).mono k
  | .float _, _, _, p, _ => Bool.noConfusion (show false = true from p)
  | .dict _, _, _, p, _ => Bool.noConfusion (show false = true from p)
  | .bytearray _, _, _, p, _ => Bool.noConfusion (show false = true from p)
  | .set _, _, _, p, _ => Bool.noConfusion (show false = true from p)
  | .frozenset _, _, _, p, _ => Bool.noConfusion (show false = true from p)
  | .obj _ _, _, _, p, _ => Bool.noConfusion (show false = true from p)
theorem area_all : ∀ (ds : List WData) (vs : List Value), WellAll P h vs ds -> plWs ds = true -> (∀ d ∈ ds, d.weight <= 1048576) -> ∃ A : List Addr, (∀ u ∈ vs, OkU A u) /\ ∀ a ∈ A, ArgOb h A a
  | [], _, x, _, _ => by
    cases x
    exact ⟨[], fun u m => absurd m (by simp), fun a m => absurd m (by simp)⟩
  | d :: ds, _, x, p, z => by
    obtain ⟨v, vs, rfl, x1, x2⟩ := well_cons x
    have q : plW d = true /\ plWs ds = true := Bool.and_eq_true_iff.mp p
    obtain ⟨A, a1, a2⟩ := area_one d v x1 q.1 (z d (List.mem_cons_self ..))
    obtain ⟨B, b1, b2⟩ := area_all ds vs x2 q.2 fun e he => z e (List.mem_cons_of_mem _ he)
    have kA : ∀ b ∈ A, b ∈ A ++ B := fun b hb => List.mem_append.mpr (.inl hb)
    have kB : ∀ b ∈ B, b ∈ A ++ B := fun b hb => List.mem_append.mpr (.inr hb)
    refine ⟨A ++ B, fun u hu => ?_, fun b hb => ?_⟩
    · rcases List.mem_cons.mp hu with e | m
      · rw [e]
        exact a1.mono kA
      · exact (b1 u m).mono kB
    · rcases List.mem_append.mp hb with m | m
      · exact (a2 b m).mono kA
      · exact (b2 b m).mono kB
end
end
def hoOf (o : Obj) : Option HO := match o.data with
  | .seq vs _ => if (o.cls == Value.type "list") = true then some (.frz o (.lst (vs.toList.map toV))) else some (.frz o (.tup (vs.toList.map toV)))
  | _ => none
def argH (K : PySem.W.Frag) (h : Heap) (A : List Addr) : Hp := fun b => if b ∈ A then (if (K.lookup b).isNone = true then (h.get? b).bind hoOf else none) else none
def OnlyF (H : Hp) : Prop := ∀ b, H b = none ∨ ∃ o u, H b = some (.frz o u)
theorem hoOf_lst (vs : List Value) : hoOf { cls := .type "list", data := .seq vs.toArray } = some (.frz { cls := .type "list", data := .seq vs.toArray } (.lst (vs.map toV))) := by
  show (if (Value.type "list" == Value.type "list") = true then some (HO.frz { cls := .type "list", data := .seq vs.toArray } (.lst (vs.toArray.toList.map toV))) else some (HO.frz { cls := .type "list", data := .seq vs.toArray } (.tup (vs.toArray.toList.map toV)))) = _
  rw [if_pos (beq_self_eq_true _)]
theorem hoOf_tup (vs : List Value) : hoOf { cls := .type "tuple", data := .seq vs.toArray } = some (.frz { cls := .type "tuple", data := .seq vs.toArray } (.tup (vs.map toV))) := by
  show (if (Value.type "tuple" == Value.type "list") = true then some (HO.frz { cls := .type "tuple", data := .seq vs.toArray } (.lst (vs.toArray.toList.map toV))) else some (HO.frz { cls := .type "tuple", data := .seq vs.toArray } (.tup (vs.toArray.toList.map toV)))) = _
  rw [if_neg (by decide)]
section
variable {P : Program} {w : World} {K : PySem.W.Frag} {h : Heap} {A : List Addr}
theorem argH_at {b : Addr} {o : Obj} (hb : b ∈ A) (hk : K.lookup b = none) (e : h.get? b = some o) : argH K h A b = hoOf o := by
  unfold argH
  rw [if_pos hb, hk, if_pos (show (none : Option Obj).isNone = true from rfl), e] <;> rfl
theorem of_argH {b : Addr} {u : HO} (q : argH K h A b = some u) : b ∈ A /\ K.lookup b = none := by
  unfold argH at q
  by_cases hb : b ∈ A
  · rw [if_pos hb] at q
    cases hk : K.lookup b with
    | none => exact ⟨hb, rfl⟩
    | some o =>
      rw [hk, if_neg (by simp)] at q
      cases q
  · rw [if_neg hb] at q
    cases q
theorem argH_is (ar : ∀ a ∈ A, ArgOb h A a) {b : Addr} {u : HO} (q : argH K h A b = some u) : K.lookup b = none /\ ∃ vs : List Value, vs.length <= sizeLine /\ (∀ u ∈ vs, OkU A u) /\
    ((h.get? b = some { cls := .type "list", data := .seq vs.toArray } /\ u = .frz { cls := .type "list", data := .seq vs.toArray } (.lst (vs.map toV))) ∨
     (h.get? b = some { cls := .type "tuple", data := .seq vs.toArray } /\ u = .frz { cls := .type "tuple", data := .seq vs.toArray } (.tup (vs.map toV)))) := by
  obtain ⟨hb, hk⟩ := of_argH q
  obtain ⟨vs, h1, h2, h3⟩ := ar b hb
  refine ⟨hk, vs, h1, h2, ?_⟩
  rcases h3 with e | e
  · rw [argH_at hb hk e, hoOf_lst] at q
    exact .inl ⟨e, (Option.some.inj q).symm⟩
  · rw [argH_at hb hk e, hoOf_tup] at q
    exact .inr ⟨e, (Option.some.inj q).symm⟩
theorem argH_only (ar : ∀ a ∈ A, ArgOb h A a) : OnlyF (argH K h A) := fun b => by
  cases q : argH K h A b with
  | none => exact .inl rfl
  | some u =>
    obtain ⟨_, vs, _, _, ⟨_, e⟩ | ⟨_, e⟩⟩ := argH_is ar q
    · exact .inr ⟨_, _, by rw [e]⟩
    · exact .inr ⟨_, _, by rw [e]⟩
theorem argH_ok (ar : ∀ a ∈ A, ArgOb h A a) : HOk P w (argH K h A) h := fun b u q => by
  obtain ⟨_, vs, h1, h2, ⟨e, rfl⟩ | ⟨e, rfl⟩⟩ := argH_is ar q
  · exact ⟨e, by rw [List.length_map]; exact h1, vs, _, vals_toV h2, e⟩
  · exact ⟨e, by rw [List.length_map]; exact h1, vs, vals_toV h2, _, e, rfl, _, rfl⟩
theorem seq_inj {c c' : Value} {vs us : List Value} (e : (some { cls := c, data := .seq vs.toArray } : Option Obj) = some { cls := c', data := .seq us.toArray }) : c = c' /\ vs = us := by
  have e1 := Option.some.inj e
  have e2 : c = c' := congrArg Obj.cls e1
  have e3 : Data.seq vs.toArray = Data.seq us.toArray := congrArg Obj.data e1
  injection e3 with e4
  refine ⟨e2, ?_⟩
  have e5 := congrArg Array.toList e4
  simpa using e5
theorem argL (KX : K.In h) (ar : ∀ a ∈ A, ArgOb h A a) {a : Addr} {vs : List Value} (ha : a ∈ A) (e : h.get? a = some { cls := .type "list", data := .seq vs.toArray }) : (∀ u ∈ vs, OkU A u) /\ qZ K (argH K h A) a (vs.map toV) := by
  obtain ⟨us, h1, h2, h3⟩ := ar a ha
  have hu : us = vs := by
    rcases h3 with q | q
    · rw [e] at q
      exact (seq_inj q).2.symm
    · rw [e] at q
      exact absurd (Value.type.inj (seq_inj q).1) (by decide)
  subst hu
  refine ⟨h2, ?_⟩
  cases hk : K.lookup a with
  | none => exact .inl (.inr ⟨_, by rw [argH_at ha hk e, hoOf_lst]⟩)
  | some o =>
    have e2 := KX a o hk
    rw [e] at e2
    obtain rfl := Option.some.inj e2
    exact .inr ⟨_, us.toArray, _, hk, rfl, rfl, rfl, by rw [List.size_toArray]; exact h1, by simpa using vals_toV h2⟩
theorem argT (KX : K.In h) (ar : ∀ a ∈ A, ArgOb h A a) {a : Addr} {vs : List Value} (ha : a ∈ A) (e : h.get? a = some { cls := .type "tuple", data := .seq vs.toArray }) : (∀ u ∈ vs, OkU A u) /\ SqT K (argH K h A) a (vs.map toV) := by
  obtain ⟨us, h1, h2, h3⟩ := ar a ha
  have hu : us = vs := by
    rcases h3 with q | q
    · rw [e] at q
      exact absurd (Value.type.inj (seq_inj q).1) (by decide)
    · rw [e] at q
      exact (seq_inj q).2.symm
  subst hu
  refine ⟨h2, ?_⟩
  cases hk : K.lookup a with
  | none => exact .inl (.inr ⟨_, by rw [argH_at ha hk e, hoOf_tup]⟩)
  | some o =>
    have e2 := KX a o hk
    rw [e] at e2
    obtain rfl := Option.some.inj e2
    exact .inr ⟨_, us.toArray, _, hk, rfl, rfl, by rw [List.size_toArray]; exact h1, by simpa using vals_toV h2⟩
mutual
theorem dw_one {Pm : Params} (KX : K.In h) (ar : ∀ a ∈ A, ArgOb h A a) : ∀ (d : WData) (v : Value), Well Pm h v d -> plW d = true -> OkU A v -> Dw K (argH K h A) (toV v) d
  | .none, _, x, _, _ => by
    cases x
    exact .non
  | .bool b, _, x, _, _ => by
    cases x
    exact .bl b
  | .int i, _, x, _, _ => by
    cases x
    exact .int i
  | .str s, _, x, _, _ => by
    cases x
    exact .str s
  | .bytes b, _, x, _, _ => by
    cases x
    have z := Dw.byt (K := K) (H := argH K h A) b.toArray
    exact z
  | .list ds, _, x, p, hu => by
    obtain ⟨a, vs, rfl, ho, hall⟩ := well_list x
    obtain ⟨h2, hs⟩ := argL KX ar hu ho
    exact .lst hs (dw_all KX ar ds _ hall p h2)
  | .tuple ds, _, x, p, hu => by
    obtain ⟨a, vs, rfl, ho, hall⟩ := well_tuple x
    obtain ⟨h2, hs⟩ := argT KX ar hu ho
    exact .tup hs (dw_all KX ar ds _ hall p h2)
  | .float _, _, _, p, _ => Bool.noConfusion (show false = true from p)
  | .dict _, _, _, p, _ => Bool.noConfusion (show false = true from p)
  | .bytearray _, _, _, p, _ => Bool.noConfusion (show false = true from p)
  | .set _, _, _, p, _ => Bool.noConfusion (show false = true from p)
  | .frozenset _, _, _, p, _ => Bool.noConfusion (show false = true from p)
  | .obj _ _, _, _, p, _ => Bool.noConfusion (show false = true from p)
theorem dw_all {Pm : Params} (KX : K.In h) (ar : ∀ a ∈ A, ArgOb h A a) : ∀ (ds : List WData) (vs : List Value), WellAll Pm h vs ds -> plWs ds = true -> (∀ u ∈ vs, OkU A u) -> DwAll K (argH K h A) (vs.map toV) ds
  | [], _, x, _, _ => by
    cases x
    exact .nil
  | d :: ds, _, x, p, hu => by
    obtain ⟨v, vs, rfl, x1, x2⟩ := well_cons x
    have q : plW d = true /\ plWs ds = true := Bool.and_eq_true_iff.mp p
    exact .cons (dw_one KX ar d v x1 q.1 (hu _ (List.mem_cons_self ..))) (dw_all KX ar ds vs x2 q.2 fun u m => hu u (List.mem_cons_of_mem _ m))
end
end
theorem spec_call {P : Program} {w : World} {K : PySem.W.Frag} {mg mb : Str -> Option Value} {CX : CXT} {k : Nat} {fa : Addr} {fd : FuncData} {ps : List Str} {sp : Sp} {s₁ : Shared} {vals : List Value} {ds : List WData} {R : PySem.W.WRecords} {cl : Str -> Option Addr} {d0 : WData}
    (KX : K.In s₁.heap) (hns : s₁.heap.Ns mainGlobals mg) (hb : s₁.heap.Ns builtinsNs mb) (hbb : ∀ x : Str, x ≠ "__name__" -> mb x = bootBuiltins x) (hlim : s₁.heap.NoLimit) (hg : s₁.gens = #[])
    (hwl : WellAll w.params s₁.heap vals ds) (hpl : plWs ds = true) (hwt : ∀ d ∈ ds, d.weight <= 1048576) (hr : Room k callerA)
    (F : ∀ base : Heap, K.In base -> base.Ns mainGlobals mg -> FnOk P w K mg base CX k fa fd ps sp) (hbind : ∀ (s : Shared) (us : List Value), us.length = ps.length -> BindsTo s fd ⟨us, []⟩ (ps.zip us)) (hlen : ds.length = ps.length)
    (hsp : ∀ (H : Hp) (xs : List V), OnlyF H -> DwAll K H xs ds -> sp xs H (fun v H' => Dw K H' v d0) fun _ _ _ => False)
    (hCX : ∀ H e s', CX [] H s₁ (fun _ _ _ => False) e s' -> False) :
    codeAny (model P w) callerA (.call (.ref fa) ⟨vals, []⟩) (fun r s' => ∃ u as, r = .ok (.ret u) /\ ReadsW R cl s'.heap u d0 as /\ OldK s₁.heap s'.heap /\ s'.os = s₁.os /\ AllBare s'.gens) s₁ := by
  obtain ⟨A, ho, ar⟩ := area_all ds vals hwl hpl hwt
  have hO : OnlyF (argH K s₁.heap A) := argH_only ar
  have hok : HOk P w (argH K s₁.heap A) s₁.heap := argH_ok ar
  have hS := dw_all KX ar ds vals hwl hpl ho
  have hV := vals_toV ho
  have hK : ∀ b u, argH K s₁.heap A b = some u -> K.lookup b = none := fun b u q => (argH_is ar q).1
  have noA : ∀ {b : Addr} {o : Obj} {es : Array DictEntry} {ep : Nat}, s₁.heap.get? b = some o -> o.data = .dict es ep -> argH K s₁.heap A b = none := fun {b o es ep} e d => by
    cases q : argH K s₁.heap A b with
    | none => rfl
    | some u =>
      obtain ⟨_, vs, _, _, ⟨e2, _⟩ | ⟨e2, _⟩⟩ := argH_is ar q
      · rw [e2] at e
        cases e
        have d' : Data.seq vs.toArray _ = Data.dict es ep := d
        cases d'
      · rw [e2] at e
        cases e
        have d' : Data.seq vs.toArray _ = Data.dict es ep := d
        cases d'
  generalize argH K s₁.heap A = H at hO hok hS hK noA
  have base_of : ∀ {b : Addr} {o : Obj}, s₁.heap.get? b = some o -> H b = none -> (hidT s₁.heap H).get? b = some o := fun e n => hidT_get e n
  have nsK : ∀ {b : Addr} {m : Str -> Option Value}, s₁.heap.Ns b m -> (hidT s₁.heap H).Ns b m := fun {b m} ⟨o, es, ep, e, d, r⟩ => ⟨o, es, ep, base_of e (noA e d), d, r⟩
  have nK : ∀ b o, K.lookup b = some o -> H b = none := fun b o e => by
    cases q : H b with
    | none => rfl
    | some u =>
      rw [hK b u q] at e
      cases e
  have hKb : K.In (hidT s₁.heap H) := fun b o e => base_of (KX b o e) (nK b o e)
  have hM : Mod K mg (hidT s₁.heap H) := ⟨hKb, nsK hns, ⟨mb, nsK hb, hbb⟩, let ⟨mc, h1, h2⟩ := hlim; ⟨mc, nsK h1, h2⟩⟩
  have e0 : Env0 P w K mg (hidT s₁.heap H) callerA [] s₁ H := ⟨rfl, hM, fun b o e => of_hidT e, Nat.le_of_eq (hidT_size _ _), trivial, fun b hb => absurd (show b ∈ ([] : List Addr) from hb) (by simp), hok, .of_eq hg⟩
  have hl : vals.length = ps.length := by rw [wellAll_len hwl]; exact hlen
  refine codeAny_mono ((F _ hKb (nsK hns)).run callerA [] s₁ H ⟨vals, []⟩ vals (vals.map toV) _ _ hr e0 (hbind s₁ vals hl) hV (hsp H _ hO hS)) fun r s' x => ?_
  cases r with
  | error e => exact (hCX H e s' x).elim
  | ok fl =>
    cases fl with
    | next => exact False.elim x
    | brk => exact False.elim x
    | cont => exact False.elim x
    | ret u =>
      obtain ⟨v, H', os, bare, un, hok', r', q⟩ := x
      have kept : ∀ b o, s₁.heap.get? b = some o -> s'.heap.get? b = some o := fun b o e => by
        cases q2 : H b with
        | none => exact un.keep b o e q2 (by intro z; exact absurd (show b ∈ ([] : List Addr) from z) (by simp)) (by simp)
        | some u2 =>
          rcases hO b with z | ⟨ob, u3, z⟩
          · rw [q2] at z
            cases z
          · have z2 := un.frzs b ob _ z
            obtain ⟨e1, _⟩ := hok b _ z
            obtain ⟨e2, _⟩ := hok' b _ z2
            rw [e] at e1
            cases e1
            exact e2
      have KX' : K.In s'.heap := fun b o e => kept b o (KX b o e)
      obtain ⟨as, hrd⟩ := Dw.reads (R := R) (cl := cl) hok' KX' d0 v u q r'
      exact ⟨u, as, rfl, hrd, OldK.of_keep kept, os, bare⟩
theorem layable_weight {ds : List WData} (h : WData.layableAll ds = true) : ∀ d ∈ ds, d.weight <= 1048576 := fun d hd =>
  (PySem.W.layableW_iff.mp (List.all_eq_true.mp h d hd)).2.2
theorem encAll_len : ∀ (cs : List Codec) (a : Codec.denoteAll cs), (Codec.encAll cs a).length = cs.length
  | [], _ => rfl
  | c :: cs, a => by
    show (Codec.encAll cs a.2).length + 1 = cs.length + 1
    rw [encAll_len cs a.2]
theorem walk_spec {r : OpenSpec} {k : Nat} {q : Program} {loose : List Str} {XP : (Str -> Option Value) -> Heap -> Prop} {YP : World -> Heap -> Prop} {d : DefRec} {K : Params -> PySem.W.Frag} {CX : World -> CXT} {ps : List Str} {sp : World -> Sp}
    (hwell : r.wellSaid = true) (hdf : d.params.defaults = []) (hlen : r.args.length = ps.length) (hr : Room k callerA)
    (hY : ∀ (w : World) (h : Heap), YP w h -> (K w.params).In h)
    (F : ∀ (w : World) (mg : Str -> Option Value) (fa : Addr) (h : Heap), YP w h -> (K w.params).In h -> h.Ns mainGlobals mg -> mg d.name = some (.ref fa) ->
      ∃ fd : FuncData, (∀ (s : Shared) (us : List Value), us.length = ps.length -> BindsTo s fd ⟨us, []⟩ (ps.zip us)) /\
        ∀ base : Heap, (K w.params).In base -> base.Ns mainGlobals mg -> FnOk r.prog w (K w.params) mg base (CX w) k fa fd ps (sp w))
    (hsp : ∀ (w : World) (H : Hp) (xs : List V) (a : Codec.denoteAll r.args), OnlyF H -> Codec.withinAll r.args a = true -> Codec.app r.args r.asked a = true -> DwAll (K w.params) H xs (Codec.encAll r.args a) ->
      sp w xs H (fun v H' => Dw (K w.params) H' v (r.ret.enc (Codec.app r.args r.f a))) fun _ _ _ => False)
    (hCX : ∀ (w : World) (H : Hp) (s : Shared) (e : Value) (s' : Shared), CX w [] H s (fun _ _ _ => False) e s' -> False) :
    PySem.W.WalkOS q loose XP YP r d [] (fun f vs => PySem.call f vs) := by
  intro w s_0 s₁ mg mb G Y fa o pm cd doc dV kV ho hd hcd hD hmg hg args vals as hpre hlay hrd hwl hlo
  obtain ⟨a, e1, e2⟩ := PySem.W.os_pre_some hpre
  obtain ⟨e3, hwi⟩ := Codec.encAll_of_decAll r.args args a e1
  subst e3
  have KX := hY w _ Y
  obtain ⟨fd, hb, hF⟩ := F w mg fa _ Y KX G.T.g hmg
  refine PySem.W.enter_call (codeAny_mono (spec_call (R := []) (cl := classAt s_0.heap) (d0 := r.ret.enc (Codec.app r.args r.f a)) KX G.T.g G.T.b G.T.builtins G.T.nolimit hg hwl (pl_encAll _ _) (layable_weight hlay) hr hF hb (by rw [encAll_len]; exact hlen)
    (fun H xs hO hS => hsp w H xs a hO hwi e2 hS) fun H e s' => hCX w H s₁ e s') fun r' s' hq => ?_)
  obtain ⟨u, as', rfl, h1, h2, h3, h4⟩ := hq
  exact ⟨.inl ⟨u, _, as', rfl, fun _ => rfl, h1, (OpenSpec.post_iff hwell hwi _ _).mpr rfl, fun z => Bool.noConfusion (show false = true from z)⟩, h2, h3, h4⟩
end L2
end
end
section
set_option Elab.async false
namespace SM
open Kp110
theorem lex_more : ∀ (n f g at_ : Nat) (l : Bytes), l.length <= n -> l.length < f -> l.length < g -> lex f at_ l = lex g at_ l
 | n, 0, _, _, l, _, h, _ => absurd h (Nat.not_lt_zero _)
 | n, _ + 1, 0, _, l, _, _, h => absurd h (Nat.not_lt_zero _)
 | n, f + 1, g + 1, at_, [], _, _, _ => rfl
 | 0, f + 1, g + 1, at_, c :: r, h, _, _ => absurd h (by simp)
 | n + 1, f + 1, g + 1, at_, c :: r, h, hf, hg => by
  have hr : r.length <= n := by simpa using h
  have hf' : r.length < f := by simpa using hf
  have hg' : r.length < g := by simpa using hg
  have ih : ∀ (k a : Nat), lex f a (r.drop k) = lex g a (r.drop k) := fun k a =>
   lex_more n f g a (r.drop k) (by rw [List.length_drop]; omega) (by rw [List.length_drop]; omega) (by rw [List.length_drop]; omega)
  have ih0 : ∀ a : Nat, lex f a r = lex g a r := fun a => lex_more n f g a r hr hf' hg'
  simp only [lex, ih, ih0]
def lexF (at_ : Nat) (l : Bytes) : Option (List Tok) := lex (l.length + 1) at_ l
theorem lex_F {f at_ : Nat} {l : Bytes} (h : l.length < f) : lex f at_ l = lexF at_ l := lex_more l.length f (l.length + 1) at_ l (Nat.le_refl _) h (Nat.lt_succ_self _)
theorem lexF_nil (a : Nat) : lexF a [] = some [] := rfl
theorem lexF_drop (r : Bytes) (k a : Nat) : lex (r.length + 1) a (r.drop k) = lexF a (r.drop k) := lex_F (by rw [List.length_drop]; omega)
theorem lexF_cons (a c : Nat) (r : Bytes) : lexF a (c :: r) =
  if c = 32 ∨ c = 10 then lexF (a + 1) r
  else if c = 35 then lexF (a + 1 + (r.takeWhile (· != 10)).length) (r.drop (r.takeWhile (· != 10)).length)
  else if small c then
   (if 16 < (c :: r.takeWhile inName).length then none else (lexF (a + (c :: r.takeWhile inName).length) (r.drop (r.takeWhile inName).length)).map fun l => ⟨if words.contains (c :: r.takeWhile inName) then 2 else 0, c :: r.takeWhile inName, a⟩ :: l)
  else if digit c then
   (if 18 < (c :: r.takeWhile digit).length ∨ (c = 48 /\ 1 < (c :: r.takeWhile digit).length) then none else (lexF (a + (c :: r.takeWhile digit).length) (r.drop (r.takeWhile digit).length)).map fun l => ⟨1, c :: r.takeWhile digit, a⟩ :: l)
  else if c = 61 /\ r.head? = some 61 then (lexF (a + 2) (r.drop 1)).map fun l => ⟨2, [61, 61], a⟩ :: l
  else if signs.contains c then (lexF (a + 1) r).map fun l => ⟨2, [c], a⟩ :: l
  else none := by
 show lex (r.length + 1 + 1) a (c :: r) = _
 simp only [lex, lexF_drop, lex_F (Nat.lt_succ_self r.length), List.length_cons, Nat.add_sub_cancel]
end SM
end
section
set_option Elab.async false
namespace SM
open Kp110
def qI : Bytes -> Nat
 | [] => 0
 | c :: r => if small c then ((c :: r).takeWhile inName).length else if digit c then ((c :: r).takeWhile digit).length else if (c :: r).take 2 = [61, 61] then 2 else 1
def mkTok (a : Nat) : Bytes -> Option Tok
 | [] => none
 | c :: r => if small c then (if 16 < (c :: r).length then none else some ⟨if words.contains (c :: r) then 2 else 0, c :: r, a⟩)
  else if digit c then (if 18 < (c :: r).length ∨ (c = 48 /\ 1 < (c :: r).length) then none else some ⟨1, c :: r, a⟩)
  else if (c :: r).length = 2 then some ⟨2, [61, 61], a⟩
  else if signs.contains c then some ⟨2, [c], a⟩ else none
theorem take_tw {α : Type} (p : α -> Bool) : ∀ l : List α, l.take (l.takeWhile p).length = l.takeWhile p
 | [] => rfl
 | c :: r => by
  rw [List.takeWhile_cons]
  cases h : p c with
  | true => simp [take_tw p r]
  | false => simp
theorem small_name {c : Nat} (h : small c = true) : inName c = true := by
 unfold inName; rw [h]; rfl
theorem take_two {c : Nat} {r : Bytes} : (c :: r).take 2 = [61, 61] ↔ c = 61 /\ r.head? = some 61 := by
 cases r with
 | nil => simp
 | cons d r => simp
theorem not_small_61 : small 61 = false := by decide
theorem not_digit_61 : digit 61 = false := by decide
theorem lexF_tok {a c : Nat} {r : Bytes} (h1 : ¬ (c = 32 ∨ c = 10)) (h2 : ¬ c = 35) : lexF a (c :: r) =
  match mkTok a ((c :: r).take (qI (c :: r))) with
  | none => none
  | some t => (lexF (a + qI (c :: r)) ((c :: r).drop (qI (c :: r)))).map fun l => t :: l := by
 rw [lexF_cons, if_neg h1, if_neg h2]
 by_cases hs : small c = true
 ·have e : qI (c :: r) = (r.takeWhile inName).length + 1 := by
   simp only [qI, hs, if_true, List.takeWhile_cons, small_name hs, List.length_cons]
  rw [e, if_pos hs]
  simp only [List.take_succ_cons, List.drop_succ_cons, take_tw, mkTok, hs, if_true, List.length_cons]
  by_cases h : 16 < (r.takeWhile inName).length + 1
  ·rw [if_pos h, if_pos h]
  ·rw [if_neg h, if_neg h]
 ·rw [if_neg hs]
  have hs' : small c = false := by simpa using hs
  by_cases hd : digit c = true
  ·have e : qI (c :: r) = (r.takeWhile digit).length + 1 := by
    simp only [qI, hs', hd, if_true, List.takeWhile_cons, List.length_cons]
    simp
   rw [e, if_pos hd]
   simp only [List.take_succ_cons, List.drop_succ_cons, take_tw, mkTok, hs', hd, if_true, List.length_cons, Bool.false_eq_true, if_false]
   by_cases h : 18 < (r.takeWhile digit).length + 1 ∨ (c = 48 /\ 1 < (r.takeWhile digit).length + 1)
   ·rw [if_pos h, if_pos h]
   ·rw [if_neg h, if_neg h]
  ·rw [if_neg hd]
   have hd' : digit c = false := by simpa using hd
   by_cases hq : c = 61 /\ r.head? = some 61
   ·have e : qI (c :: r) = 2 := by
     simp only [qI, hs', hd']
     simp [take_two.mpr hq]
    rw [e, if_pos hq]
    obtain ⟨rfl, hq⟩ := hq
    cases r with
    | nil => cases hq
    | cons d r =>
     have : d = 61 := by simpa using hq
     subst this
     simp [mkTok, not_small_61, not_digit_61]
   ·have e : qI (c :: r) = 1 := by
     have : ¬ (c :: r).take 2 = [61, 61] := fun z => hq (take_two.mp z)
     simp only [qI, hs', hd', this]
     simp
    rw [e, if_neg hq]
    simp only [List.take_succ_cons, List.take_zero, List.drop_succ_cons, List.drop_zero, mkTok, hs', hd']
    by_cases hc : signs.contains c = true
    ·rw [if_pos hc]
     simp only [hc]
     simp
    ·rw [if_neg hc]
     simp only [hc]
     simp
theorem runLen_cons (c : Nat) (r : Bytes) : qI (c :: r) = if small c then ((c :: r).takeWhile inName).length else if digit c then ((c :: r).takeWhile digit).length else if (c :: r).take 2 = [61, 61] then 2 else 1 := rfl
theorem mkTok_cons (a c : Nat) (r : Bytes) : mkTok a (c :: r) = if small c then (if 16 < (c :: r).length then none else some ⟨if words.contains (c :: r) then 2 else 0, c :: r, a⟩)
  else if digit c then (if 18 < (c :: r).length ∨ (c = 48 /\ 1 < (c :: r).length) then none else some ⟨1, c :: r, a⟩)
  else if (c :: r).length = 2 then some ⟨2, [61, 61], a⟩
  else if signs.contains c then some ⟨2, [c], a⟩ else none := rfl
theorem runLen_pos (c : Nat) (r : Bytes) : 0 < qI (c :: r) := by
 rw [runLen_cons]
 split
 ·rename_i h
  rw [List.takeWhile_cons, small_name h]
  simp
 ·split
  ·rename_i h
   rw [List.takeWhile_cons, h]
   simp
  ·split <;> decide
theorem runLen_le (c : Nat) (r : Bytes) : qI (c :: r) <= (c :: r).length := by
 rw [runLen_cons]
 split
 ·exact (List.takeWhile_sublist _).length_le
 ·split
  ·exact (List.takeWhile_sublist _).length_le
  ·split
   ·rename_i h
    have := congrArg List.length h
    rw [List.length_take] at this
    simp at this ⊢
    omega
   ·simp
def OkTok (t : Tok) : Prop := (t.kind = 0 /\ words.contains t.text = false) ∨ t.kind = 1 ∨ (t.kind = 2 /\ (words.contains t.text = true ∨ t.text = [61, 61] ∨ ∃ c, signs.contains c = true /\ t.text = [c]))
theorem mkTok_ok {a : Nat} {p : Bytes} {t : Tok} (h : mkTok a p = some t) : OkTok t /\ t.text.length <= 18 := by
 cases p with
 | nil => cases h
 | cons c r =>
  rw [mkTok_cons] at h
  split at h
  ·split at h
   ·cases h
   ·rename_i hl
    have h := Option.some.inj h
    subst h
    have e : (c :: r).length <= 18 := by omega
    cases hw : words.contains (c :: r) with
    | true => exact ⟨.inr (.inr ⟨by simp, .inl hw⟩), e⟩
    | false => exact ⟨.inl ⟨by simp, hw⟩, e⟩
  ·split at h
   ·split at h
    ·cases h
    ·rename_i hl
     have h := Option.some.inj h
     subst h
     have e : (c :: r).length <= 18 := by omega
     exact ⟨.inr (.inl rfl), e⟩
   ·split at h
    ·have h := Option.some.inj h
     subst h
     exact ⟨.inr (.inr ⟨rfl, .inr (.inl rfl)⟩), by show (2 : Nat) <= 18; decide⟩
    ·split at h
     ·rename_i hc
      have h := Option.some.inj h
      subst h
      exact ⟨.inr (.inr ⟨rfl, .inr (.inr ⟨c, hc, rfl⟩)⟩), by show (1 : Nat) <= 18; decide⟩
     ·cases h
end SM
end
section
set_option Elab.async false
namespace SM
open Kp110
def Suf (m i : Nat) (ts : List Tok) (r : Nat × List Tok) : Prop := ∃ k, m <= k /\ k <= ts.length /\ r.1 = i + k /\ r.2 = ts.drop k
theorem Suf.len {m i : Nat} {ts : List Tok} {r : Nat × List Tok} (h : Suf m i ts r) : r.2.length + m <= ts.length := by
 obtain ⟨k, h1, h2, _, e⟩ := h
 rw [e, List.length_drop]; omega
theorem Suf.trans {m n i : Nat} {ts : List Tok} {r q : Nat × List Tok} (h : Suf m i ts r) (h' : Suf n r.1 r.2 q) : Suf (m + n) i ts q := by
 obtain ⟨k, h1, h2, e1, e2⟩ := h
 obtain ⟨l, g1, g2, f1, f2⟩ := h'
 rw [e2, List.length_drop] at g2
 exact ⟨k + l, by omega, by omega, by rw [f1, e1]; omega, by rw [f2, e2, List.drop_drop]⟩
theorem Suf.mono {m n i : Nat} {ts : List Tok} {r : Nat × List Tok} (h : Suf m i ts r) (hm : n <= m) : Suf n i ts r := by
 obtain ⟨k, h1, h2, e1, e2⟩ := h
 exact ⟨k, by omega, h2, e1, e2⟩
theorem Suf.refl (i : Nat) (ts : List Tok) : Suf 0 i ts (i, ts) := ⟨0, Nat.le_refl _, Nat.zero_le _, rfl, rfl⟩
theorem Suf.one {i : Nat} {t : Tok} {r : List Tok} : Suf 1 i (t :: r) (i + 1, r) := ⟨1, Nat.le_refl _, by simp, rfl, rfl⟩
theorem isTok_cons {w : String} {ts : List Tok} (h : isTok w ts = true) : ∃ t r, ts = t :: r := by
 cases ts with
 | nil => cases h
 | cons t r => exact ⟨t, r, rfl⟩
theorem eat_some {w : String} {i : Nat} {ts : List Tok} {z : Nat × List Tok} (h : eat w i ts = some z) : isTok w ts = true /\ z = (i + 1, ts.drop 1) := by
 unfold eat at h
 split at h
 ·rename_i q
  exact ⟨q, (Option.some.inj h).symm⟩
 ·cases h
theorem zV {w : String} {i : Nat} {ts : List Tok} {z : Nat × List Tok} (h : eat w i ts = some z) : Suf 1 i ts z := by
 obtain ⟨h1, rfl⟩ := eat_some h
 obtain ⟨t, r, rfl⟩ := isTok_cons h1
 exact Suf.one
theorem opOf_cons {l : List (String × Nat)} {ts : List Tok} {op : Nat} (h : opOf l ts = some op) : ∃ t r, ts = t :: r := by
 unfold opOf at h
 cases q : l.find? fun x => isTok x.1 ts with
 | none => rw [q] at h; cases h
 | some x =>
  have q' : isTok x.1 ts = true := by simpa using List.find?_some q
  exact isTok_cons q'
theorem nameAt_cons {ts : List Tok} {x : Bytes} (h : nameAt ts = some x) : ∃ t r, ts = t :: r /\ t.kind = 0 /\ t.text = x := by
 cases ts with
 | nil => cases h
 | cons t r =>
  have h : (if t.kind = 0 then some t.text else none) = some x := h
  split at h
  ·rename_i q
   exact ⟨t, r, rfl, q, Option.some.inj h⟩
  ·cases h
theorem zI {α β : Type} {o : Option α} {f : α -> Option β} {b : β} (h : (o >>= f) = some b) : ∃ a, o = some a /\ f a = some b := by
 cases o with
 | none => cases h
 | some a => exact ⟨a, rfl, h⟩
structure SufE (f : Nat) : Prop where
 expr : ∀ {d i ts r}, pExpr f d i ts = some r -> Suf 1 i ts r.2
 sum : ∀ {d i ts r}, pSum f d i ts = some r -> Suf 1 i ts r.2
 sumR : ∀ {d i a j ts r}, pSumRest f d i a j ts = some r -> Suf 0 j ts r.2
 term : ∀ {d i ts r}, pTerm f d i ts = some r -> Suf 1 i ts r.2
 termR : ∀ {d i a j ts r}, pTermRest f d i a j ts = some r -> Suf 0 j ts r.2
 fac : ∀ {d i ts r}, pFactor f d i ts = some r -> Suf 1 i ts r.2
 args : ∀ {d i ts r}, pArgs f d i ts = some r -> Suf 1 i ts r.2
 more : ∀ {d i ts r}, pMore f d i ts = some r -> Suf 1 i ts r.2
theorem drop_suf {n : Nat} {i : Nat} {ts : List Tok} {q : Nat × List Tok} {m : Nat} (hn : n <= ts.length) (h : Suf m (i + n) (ts.drop n) q) : Suf (n + m) i ts q :=
 Suf.trans (r := (i + n, ts.drop n)) ⟨n, Nat.le_refl _, hn, rfl, rfl⟩ h
theorem sufE : ∀ f, SufE f
 | 0 => by
  refine ⟨?_, ?_, ?_, ?_, ?_, ?_, ?_, ?_⟩ <;> intros <;> rename_i h <;> simp [pExpr, pSum, pSumRest, pTerm, pTermRest, pFactor, pArgs, pMore] at h
 | f + 1 => by
  have ih := sufE f
  refine ⟨?_, ?_, ?_, ?_, ?_, ?_, ?_, ?_⟩
  ·intro d i ts r h
   rw [pExpr] at h
   obtain ⟨a, ha, h⟩ := zI h
   have s1 := ih.sum ha
   split at h
   ·rename_i op ho
    obtain ⟨t, q, e⟩ := opOf_cons ho
    obtain ⟨b, hb, h⟩ := zI h
    have s2 := ih.sum hb
    cases h
    rw [e] at s2
    have := s1.trans (drop_suf (n := 1) (i := a.2.1) (ts := a.2.2) (by rw [e]; simp) (by rw [e]; exact s2))
    exact this.mono (by omega)
   ·cases h
    exact s1
  ·intro d i ts r h
   rw [pSum] at h
   obtain ⟨a, ha, h⟩ := zI h
   exact ((ih.term ha).trans (ih.sumR h)).mono (by omega)
  ·intro d i a j ts r h
   rw [pSumRest] at h
   split at h
   ·rename_i op ho
    obtain ⟨t, q, e⟩ := opOf_cons ho
    obtain ⟨b, hb, h⟩ := zI h
    exact ((drop_suf (n := 1) (by rw [e]; simp) (ih.term hb)).trans (ih.sumR h)).mono (by omega)
   ·cases h
    exact Suf.refl _ _
  ·intro d i ts r h
   rw [pTerm] at h
   obtain ⟨a, ha, h⟩ := zI h
   exact ((ih.fac ha).trans (ih.termR h)).mono (by omega)
  ·intro d i a j ts r h
   rw [pTermRest] at h
   split at h
   ·rename_i op ho
    obtain ⟨t, q, e⟩ := opOf_cons ho
    obtain ⟨b, hb, h⟩ := zI h
    exact ((drop_suf (n := 1) (by rw [e]; simp) (ih.fac hb)).trans (ih.termR h)).mono (by omega)
   ·cases h
    exact Suf.refl _ _
  ·intro d i ts r h
   cases ts with
   | nil => rw [pFactor.eq_def] at h; cases h
   | cons t q =>
    rw [pFactor.eq_def] at h
    dsimp only at h
    split at h
    ·cases h; exact Suf.one
    ·split at h
     ·split at h
      ·rename_i hp
       obtain ⟨t2, q2, e2⟩ := isTok_cons hp
       split at h
       ·cases h
       ·obtain ⟨l, hl, h⟩ := zI h
        cases h
        subst e2
        exact (drop_suf (n := 2) (i := i) (ts := t :: t2 :: q2) (by simp) (ih.args hl)).mono (by omega)
      ·cases h; exact Suf.one
     ·split at h
      ·cases h; exact Suf.one
      ·split at h
       ·split at h
        ·cases h
        ·obtain ⟨l, hl, h⟩ := zI h
         cases h
         exact (drop_suf (n := 1) (i := i) (ts := t :: q) (by simp) (ih.fac hl)).mono (by omega)
       ·split at h
        ·cases h
        ·obtain ⟨e, he, h⟩ := zI h
         obtain ⟨z, hz, h⟩ := zI h
         cases h
         exact ((drop_suf (n := 1) (i := i) (ts := t :: q) (by simp) (ih.expr he)).trans (zV hz)).mono (by omega)
  ·intro d i ts r h
   rw [pArgs] at h
   split at h
   ·rename_i z hz
    cases h
    exact zV hz
   ·exact ih.more h
  ·intro d i ts r h
   rw [pMore] at h
   obtain ⟨e, he, h⟩ := zI h
   split at h
   ·rename_i z hz
    cases h
    exact ((ih.expr he).trans (zV hz)).mono (by omega)
   ·obtain ⟨c, hc, h⟩ := zI h
    obtain ⟨l, hl, h⟩ := zI h
    cases h
    exact (((ih.expr he).trans (zV hc)).trans (ih.more hl)).mono (by omega)
end SM
end
section
set_option Elab.async false
namespace SM
open Kp110
structure FuelE (f : Nat) : Prop where
 expr : ∀ {g d i ts}, f <= g -> 10 * ts.length + 4 <= f -> pExpr f d i ts = pExpr g d i ts
 sum : ∀ {g d i ts}, f <= g -> 10 * ts.length + 3 <= f -> pSum f d i ts = pSum g d i ts
 sumR : ∀ {g d i a j ts}, f <= g -> 10 * ts.length + 1 <= f -> pSumRest f d i a j ts = pSumRest g d i a j ts
 term : ∀ {g d i ts}, f <= g -> 10 * ts.length + 2 <= f -> pTerm f d i ts = pTerm g d i ts
 termR : ∀ {g d i a j ts}, f <= g -> 10 * ts.length + 1 <= f -> pTermRest f d i a j ts = pTermRest g d i a j ts
 fac : ∀ {g d i ts}, f <= g -> 10 * ts.length + 1 <= f -> pFactor f d i ts = pFactor g d i ts
 args : ∀ {g d i ts}, f <= g -> 10 * ts.length + 6 <= f -> pArgs f d i ts = pArgs g d i ts
 more : ∀ {g d i ts}, f <= g -> 10 * ts.length + 5 <= f -> pMore f d i ts = pMore g d i ts
theorem zP {α β : Type} {o o' : Option α} {k k' : α -> Option β} (e : o = o') (h : ∀ a, o' = some a -> k a = k' a) : (o >>= k) = (o' >>= k') := by
 subst e
 cases o with
 | none => rfl
 | some a => exact h a rfl
theorem drop1_len {ts : List Tok} {l : List (String × Nat)} {op : Nat} (h : opOf l ts = some op) : (ts.drop 1).length + 1 = ts.length := by
 obtain ⟨t, r, rfl⟩ := opOf_cons h
 simp
theorem fuelE : ∀ f, FuelE f
 | 0 => by
  refine ⟨?_, ?_, ?_, ?_, ?_, ?_, ?_, ?_⟩ <;> intros <;> omega
 | f + 1 => by
  have ih := fuelE f
  refine ⟨?_, ?_, ?_, ?_, ?_, ?_, ?_, ?_⟩
  ·intro g d i ts hg hn
   obtain ⟨g, rfl⟩ : ∃ g', g = g' + 1 := ⟨g - 1, by omega⟩
   have hg : f <= g := by omega
   rw [pExpr, pExpr]
   refine zP (ih.sum hg (by omega)) fun a ha => ?_
   have s1 := ((sufE g).sum ha).len
   cases ho : opOf [("<", 60), ("==", 61)] a.2.2 with
   | none => rfl
   | some op =>
    have := drop1_len ho
    exact zP (ih.sum hg (by omega)) fun b hb => rfl
  ·intro g d i ts hg hn
   obtain ⟨g, rfl⟩ : ∃ g', g = g' + 1 := ⟨g - 1, by omega⟩
   have hg : f <= g := by omega
   rw [pSum, pSum]
   refine zP (ih.term hg (by omega)) fun a ha => ?_
   have s1 := ((sufE g).term ha).len
   exact ih.sumR hg (by omega)
  ·intro g d i a j ts hg hn
   obtain ⟨g, rfl⟩ : ∃ g', g = g' + 1 := ⟨g - 1, by omega⟩
   have hg : f <= g := by omega
   rw [pSumRest, pSumRest]
   cases ho : opOf [("+", 43), ("-", 45)] ts with
   | none => rfl
   | some op =>
    have := drop1_len ho
    refine zP (ih.term hg (by omega)) fun b hb => ?_
    have s1 := ((sufE g).term hb).len
    exact ih.sumR hg (by omega)
  ·intro g d i ts hg hn
   obtain ⟨g, rfl⟩ : ∃ g', g = g' + 1 := ⟨g - 1, by omega⟩
   have hg : f <= g := by omega
   rw [pTerm, pTerm]
   refine zP (ih.fac hg (by omega)) fun a ha => ?_
   have s1 := ((sufE g).fac ha).len
   exact ih.termR hg (by omega)
  ·intro g d i a j ts hg hn
   obtain ⟨g, rfl⟩ : ∃ g', g = g' + 1 := ⟨g - 1, by omega⟩
   have hg : f <= g := by omega
   rw [pTermRest, pTermRest]
   cases ho : opOf [("*", 42), ("/", 47), ("%", 37)] ts with
   | none => rfl
   | some op =>
    have := drop1_len ho
    refine zP (ih.fac hg (by omega)) fun b hb => ?_
    have s1 := ((sufE g).fac hb).len
    exact ih.termR hg (by omega)
  ·intro g d i ts hg hn
   obtain ⟨g, rfl⟩ : ∃ g', g = g' + 1 := ⟨g - 1, by omega⟩
   have hg : f <= g := by omega
   cases ts with
   | nil => rw [pFactor.eq_def, pFactor.eq_def]
   | cons t r =>
    have hl : (t :: r).length = r.length + 1 := rfl
    have e1 : pArgs f (d + 1) (i + 2) (r.drop 1) = pArgs g (d + 1) (i + 2) (r.drop 1) := ih.args hg (by rw [List.length_drop]; omega)
    have e2 : pFactor f (d + 1) (i + 1) r = pFactor g (d + 1) (i + 1) r := ih.fac hg (by omega)
    have e3 : pExpr f (d + 1) (i + 1) r = pExpr g (d + 1) (i + 1) r := ih.expr hg (by omega)
    rw [pFactor.eq_def, pFactor.eq_def]
    dsimp only
    rw [e1, e2, e3]
  ·intro g d i ts hg hn
   obtain ⟨g, rfl⟩ : ∃ g', g = g' + 1 := ⟨g - 1, by omega⟩
   have hg : f <= g := by omega
   rw [pArgs, pArgs, ih.more hg (by omega)]
  ·intro g d i ts hg hn
   obtain ⟨g, rfl⟩ : ∃ g', g = g' + 1 := ⟨g - 1, by omega⟩
   have hg : f <= g := by omega
   rw [pMore, pMore]
   refine zP (ih.expr hg (by omega)) fun e he => ?_
   have s1 := ((sufE g).expr he).len
   cases ho : eat ")" e.2.1 e.2.2 with
   | some z => rfl
   | none =>
    refine zP rfl fun c hc => ?_
    have s2 := (zV hc).len
    exact zP (ih.more hg (by omega)) fun l hl => rfl
def yH (d i : Nat) (ts : List Tok) := pExpr (10 * ts.length + 4) d i ts
def xSum (d i : Nat) (ts : List Tok) := pSum (10 * ts.length + 3) d i ts
def xSumR (d i : Nat) (a : E) (j : Nat) (ts : List Tok) := pSumRest (10 * ts.length + 1) d i a j ts
def xTerm (d i : Nat) (ts : List Tok) := pTerm (10 * ts.length + 2) d i ts
def xTermR (d i : Nat) (a : E) (j : Nat) (ts : List Tok) := pTermRest (10 * ts.length + 1) d i a j ts
def xFac (d i : Nat) (ts : List Tok) := pFactor (10 * ts.length + 1) d i ts
def xArgs (d i : Nat) (ts : List Tok) := pArgs (10 * ts.length + 6) d i ts
def xMore (d i : Nat) (ts : List Tok) := pMore (10 * ts.length + 5) d i ts
theorem expr_x {f d i : Nat} {ts : List Tok} (h : 10 * ts.length + 4 <= f) : pExpr f d i ts = yH d i ts := ((fuelE _).expr h (Nat.le_refl _)).symm
theorem sum_x {f d i : Nat} {ts : List Tok} (h : 10 * ts.length + 3 <= f) : pSum f d i ts = xSum d i ts := ((fuelE _).sum h (Nat.le_refl _)).symm
theorem sumR_x {f d i j : Nat} {a : E} {ts : List Tok} (h : 10 * ts.length + 1 <= f) : pSumRest f d i a j ts = xSumR d i a j ts := ((fuelE _).sumR h (Nat.le_refl _)).symm
theorem term_x {f d i : Nat} {ts : List Tok} (h : 10 * ts.length + 2 <= f) : pTerm f d i ts = xTerm d i ts := ((fuelE _).term h (Nat.le_refl _)).symm
theorem termR_x {f d i j : Nat} {a : E} {ts : List Tok} (h : 10 * ts.length + 1 <= f) : pTermRest f d i a j ts = xTermR d i a j ts := ((fuelE _).termR h (Nat.le_refl _)).symm
theorem fac_x {f d i : Nat} {ts : List Tok} (h : 10 * ts.length + 1 <= f) : pFactor f d i ts = xFac d i ts := ((fuelE _).fac h (Nat.le_refl _)).symm
theorem args_x {f d i : Nat} {ts : List Tok} (h : 10 * ts.length + 6 <= f) : pArgs f d i ts = xArgs d i ts := ((fuelE _).args h (Nat.le_refl _)).symm
theorem more_x {f d i : Nat} {ts : List Tok} (h : 10 * ts.length + 5 <= f) : pMore f d i ts = xMore d i ts := ((fuelE _).more h (Nat.le_refl _)).symm
theorem xExpr_suf {d i : Nat} {ts : List Tok} {r : E × Nat × List Tok} (h : yH d i ts = some r) : Suf 1 i ts r.2 := (sufE _).expr h
theorem xSum_suf {d i : Nat} {ts : List Tok} {r : E × Nat × List Tok} (h : xSum d i ts = some r) : Suf 1 i ts r.2 := (sufE _).sum h
theorem xTerm_suf {d i : Nat} {ts : List Tok} {r : E × Nat × List Tok} (h : xTerm d i ts = some r) : Suf 1 i ts r.2 := (sufE _).term h
theorem xFac_suf {d i : Nat} {ts : List Tok} {r : E × Nat × List Tok} (h : xFac d i ts = some r) : Suf 1 i ts r.2 := (sufE _).fac h
theorem xExpr_eq (d i : Nat) (ts : List Tok) : yH d i ts = (do
  let a <- xSum d i ts
  match opOf [("<", 60), ("==", 61)] a.2.2 with
  | some op =>
   let b <- xSum d (a.2.1 + 1) (a.2.2.drop 1)
   return (.bin i b.2.1 op a.1 b.1, b.2)
  | none => return a) := by
 show pExpr (10 * ts.length + 3 + 1) d i ts = _
 rw [pExpr]
 refine zP rfl fun a ha => ?_
 have s1 := (xSum_suf ha).len
 cases ho : opOf [("<", 60), ("==", 61)] a.2.2 with
 | none => rfl
 | some op =>
  have := drop1_len ho
  exact zP (sum_x (by omega)) fun b hb => rfl
theorem xSum_eq (d i : Nat) (ts : List Tok) : xSum d i ts = (do
  let a <- xTerm d i ts
  xSumR d i a.1 a.2.1 a.2.2) := by
 show pSum (10 * ts.length + 2 + 1) d i ts = _
 rw [pSum]
 refine zP rfl fun a ha => ?_
 have s1 := (xTerm_suf ha).len
 exact sumR_x (by omega)
theorem xTerm_eq (d i : Nat) (ts : List Tok) : xTerm d i ts = (do
  let a <- xFac d i ts
  xTermR d i a.1 a.2.1 a.2.2) := by
 show pTerm (10 * ts.length + 1 + 1) d i ts = _
 rw [pTerm]
 refine zP rfl fun a ha => ?_
 have s1 := (xFac_suf ha).len
 exact termR_x (by omega)
theorem xSumR_eq (d i : Nat) (a : E) (j : Nat) (ts : List Tok) : xSumR d i a j ts = (match opOf [("+", 43), ("-", 45)] ts with
  | some op => do
   let b <- xTerm d (j + 1) (ts.drop 1)
   xSumR d i (.bin i b.2.1 op a b.1) b.2.1 b.2.2
  | none => some (a, j, ts)) := by
 show pSumRest (10 * ts.length + 0 + 1) d i a j ts = _
 rw [pSumRest]
 cases ho : opOf [("+", 43), ("-", 45)] ts with
 | none => rfl
 | some op =>
  have := drop1_len ho
  refine zP (term_x (by omega)) fun b hb => ?_
  have s1 := (xTerm_suf hb).len
  exact sumR_x (by omega)
theorem xTermR_eq (d i : Nat) (a : E) (j : Nat) (ts : List Tok) : xTermR d i a j ts = (match opOf [("*", 42), ("/", 47), ("%", 37)] ts with
  | some op => do
   let b <- xFac d (j + 1) (ts.drop 1)
   xTermR d i (.bin i b.2.1 op a b.1) b.2.1 b.2.2
  | none => some (a, j, ts)) := by
 show pTermRest (10 * ts.length + 0 + 1) d i a j ts = _
 rw [pTermRest]
 cases ho : opOf [("*", 42), ("/", 47), ("%", 37)] ts with
 | none => rfl
 | some op =>
  have := drop1_len ho
  refine zP (fac_x (by omega)) fun b hb => ?_
  have s1 := (xFac_suf hb).len
  exact termR_x (by omega)
theorem xFac_nil (d i : Nat) : xFac d i [] = none := by
 show pFactor (0 + 1) d i [] = none
 rw [pFactor.eq_def]
theorem xFac_cons (d i : Nat) (t : Tok) (r : List Tok) : xFac d i (t :: r) =
  (if t.kind = 1 then some (.num i (number t.text), i + 1, r)
   else if t.kind = 0 then (if isTok "(" r then (if DEEP <= d then none else do
     let l <- xArgs (d + 1) (i + 2) (r.drop 1)
     return (.call i l.2.1 t.text l.1, l.2)) else some (.var i t.text, i + 1, r))
   else if isTok "get" (t :: r) then some (.get i, i + 1, r)
   else match opOf [("-", 45), ("!", 33)] (t :: r) with
    | some op => if DEEP <= d then none else do
     let e <- xFac (d + 1) (i + 1) r
     return (.un i e.2.1 op e.1, e.2)
    | none => if isTok "(" (t :: r) = false ∨ DEEP <= d then none else do
     let e <- yH (d + 1) (i + 1) r
     let z <- eat ")" e.2.1 e.2.2
     return (.par i z.1 e.1, z)) := by
 show pFactor (10 * (t :: r).length + 0 + 1) d i (t :: r) = _
 have hl : (t :: r).length = r.length + 1 := rfl
 rw [pFactor.eq_def]
 dsimp only
 rw [args_x (by rw [List.length_drop]; omega), fac_x (by omega), expr_x (by omega)]
 rfl
theorem xArgs_eq (d i : Nat) (ts : List Tok) : xArgs d i ts = (match eat ")" i ts with
  | some z => some (.nil, z)
  | none => xMore d i ts) := by
 show pArgs (10 * ts.length + 5 + 1) d i ts = _
 rw [pArgs]
 rfl
theorem xMore_eq (d i : Nat) (ts : List Tok) : xMore d i ts = (do
  let e <- yH d i ts
  match eat ")" e.2.1 e.2.2 with
  | some z => return (.cons e.1 .nil, z)
  | none =>
   let c <- eat "," e.2.1 e.2.2
   let l <- xMore d c.1 c.2
   return (.cons e.1 l.1, l.2)) := by
 show pMore (10 * ts.length + 4 + 1) d i ts = _
 rw [pMore]
 refine zP rfl fun e he => ?_
 have s1 := (xExpr_suf he).len
 cases ho : eat ")" e.2.1 e.2.2 with
 | some z => rfl
 | none =>
  refine zP rfl fun c hc => ?_
  have s2 := (zV hc).len
  exact zP (more_x (by omega)) fun l hl => rfl
end SM
end
section
set_option Elab.async false
namespace SM
open Kp110
def pFin (f d : Nat) (k : E -> Nat -> S) (j : Nat) (r : List Tok) : Option (S × Nat × List Tok) := do
 let e <- pExpr f d j r
 let z <- eat ";" e.2.1 e.2.2
 return (k e.1 z.1, z)
theorem pFin_suf {f d : Nat} {k : E -> Nat -> S} {j : Nat} {r : List Tok} {q : S × Nat × List Tok} (h : pFin f d k j r = some q) : Suf 2 j r q.2 := by
 unfold pFin at h
 obtain ⟨e, he, h⟩ := zI h
 obtain ⟨z, hz, h⟩ := zI h
 cases h
 exact ((sufE _).expr he).trans (zV hz)
theorem pStmt_eq (f d i : Nat) (ts : List Tok) : pStmt (f + 1) d i ts =
  (if isTok "let" ts then do
   let x <- nameAt (ts.drop 1)
   let q <- eat "=" (i + 2) (ts.drop 2)
   pFin f d (fun e j => .let_ i j x e) q.1 q.2
  else if isTok "return" ts then pFin f d (fun e j => .ret i j e) (i + 1) (ts.drop 1)
  else if isTok "put" ts then pFin f d (fun e j => .put i j e) (i + 1) (ts.drop 1)
  else if isTok "while" ts then do
   let c <- pExpr f d (i + 1) (ts.drop 1)
   let o <- eat "{" c.2.1 c.2.2
   let b <- pBlock f (d + 1) o.1 o.2
   return (.while_ i b.2.1 c.1 b.1, b.2)
  else if isTok "if" ts then do
   let c <- pExpr f d (i + 1) (ts.drop 1)
   let o <- eat "{" c.2.1 c.2.2
   let a <- pBlock f (d + 1) o.1 o.2
   if isTok "else" a.2.2 then do
    let q <- eat "{" (a.2.1 + 1) (a.2.2.drop 1)
    let b <- pBlock f (d + 1) q.1 q.2
    return (.if_ i b.2.1 c.1 a.1 b.1, b.2)
   else return (.if_ i a.2.1 c.1 a.1 .nil, a.2)
  else do
   let x <- nameAt ts
   if isTok "(" (ts.drop 1) then (if DEEP <= d then none else do
    let l <- pArgs f (d + 1) (i + 2) (ts.drop 2)
    let z <- eat ";" l.2.1 l.2.2
    return (.call i z.1 x l.1, z))
   else do
    let q <- eat "=" (i + 1) (ts.drop 1)
    pFin f d (fun e j => .set i j x e) q.1 q.2) := by
 rw [pStmt]
 rfl
structure SufS (f : Nat) : Prop where
 block : ∀ {d i ts r}, pBlock f d i ts = some r -> Suf 1 i ts r.2
 stmt : ∀ {d i ts r}, pStmt f d i ts = some r -> Suf 2 i ts r.2
theorem tok_drop {w : String} {i : Nat} {ts : List Tok} {q : Nat × List Tok} {m : Nat} (h : isTok w ts = true) (s : Suf m (i + 1) (ts.drop 1) q) : Suf (1 + m) i ts q := by
 obtain ⟨t, r, rfl⟩ := isTok_cons h
 exact drop_suf (n := 1) (by simp) s
theorem name_drop {i : Nat} {ts : List Tok} {q : Nat × List Tok} {m : Nat} {x : Bytes} (h : nameAt ts = some x) (s : Suf m (i + 1) (ts.drop 1) q) : Suf (1 + m) i ts q := by
 obtain ⟨t, r, rfl, _⟩ := nameAt_cons h
 exact drop_suf (n := 1) (by simp) s
theorem sufS : ∀ f, SufS f
 | 0 => by
  refine ⟨?_, ?_⟩ <;> intros <;> rename_i h <;> simp [pBlock, pStmt] at h
 | f + 1 => by
  have ih := sufS f
  refine ⟨?_, ?_⟩
  ·intro d i ts r h
   rw [pBlock] at h
   split at h
   ·cases h
   ·split at h
    ·rename_i z hz
     cases h
     exact zV hz
    ·obtain ⟨s, hs, h⟩ := zI h
     obtain ⟨l, hl, h⟩ := zI h
     cases h
     exact ((ih.stmt hs).trans (ih.block hl)).mono (by omega)
  ·intro d i ts r h
   rw [pStmt_eq] at h
   split at h
   ·rename_i hw
    obtain ⟨x, hx, h⟩ := zI h
    obtain ⟨q, hq, h⟩ := zI h
    have s2 : Suf 3 (i + 2) (ts.drop 2) r.2 := ((zV hq).trans (pFin_suf h)).mono (by omega)
    have s1 : Suf 4 (i + 1) (ts.drop 1) r.2 := (name_drop (i := i + 1) hx (m := 3) (by rw [List.drop_drop]; exact s2)).mono (by omega)
    exact (tok_drop hw s1).mono (by omega)
   ·split at h
    ·rename_i hw
     exact (tok_drop hw (pFin_suf h)).mono (by omega)
    ·split at h
     ·rename_i hw
      exact (tok_drop hw (pFin_suf h)).mono (by omega)
     ·split at h
      ·rename_i hw
       obtain ⟨c, hc, h⟩ := zI h
       obtain ⟨o, ho, h⟩ := zI h
       obtain ⟨b, hb, h⟩ := zI h
       cases h
       exact (tok_drop hw ((((sufE _).expr hc).trans (zV ho)).trans (ih.block hb))).mono (by omega)
      ·split at h
       ·rename_i hw
        obtain ⟨c, hc, h⟩ := zI h
        obtain ⟨o, ho, h⟩ := zI h
        obtain ⟨a, ha, h⟩ := zI h
        have s1 := (((sufE _).expr hc).trans (zV ho)).trans (ih.block ha)
        split at h
        ·rename_i he
         obtain ⟨q, hq, h⟩ := zI h
         obtain ⟨b, hb, h⟩ := zI h
         cases h
         exact (tok_drop hw (s1.trans (tok_drop he ((zV hq).trans (ih.block hb))))).mono (by omega)
        ·cases h
         exact (tok_drop hw s1).mono (by omega)
       ·obtain ⟨x, hx, h⟩ := zI h
        split at h
        ·rename_i hp
         split at h
         ·cases h
         ·obtain ⟨l, hl, h⟩ := zI h
          obtain ⟨z, hz, h⟩ := zI h
          cases h
          have s2 := ((sufE _).args hl).trans (zV hz)
          have s1 : Suf (1 + 2) (i + 1) (ts.drop 1) z := tok_drop hp (m := 2) (by rw [List.drop_drop]; exact s2)
          exact (name_drop hx s1).mono (by omega)
        ·obtain ⟨q, hq, h⟩ := zI h
         exact (name_drop hx ((zV hq).trans (pFin_suf h))).mono (by omega)
structure FuelS (f : Nat) : Prop where
 block : ∀ {g d i ts}, f <= g -> 10 * ts.length + 8 <= f -> pBlock f d i ts = pBlock g d i ts
 stmt : ∀ {g d i ts}, f <= g -> 10 * ts.length + 7 <= f -> pStmt f d i ts = pStmt g d i ts
theorem pFin_fuel {f g d : Nat} {k : E -> Nat -> S} {j : Nat} {r : List Tok} (hg : f <= g) (h : 10 * r.length + 4 <= f) : pFin f d k j r = pFin g d k j r := by
 unfold pFin
 rw [(fuelE f).expr hg h]
theorem yK {w : String} {ts : List Tok} (h : isTok w ts = true) : (ts.drop 1).length + 1 = ts.length := by
 obtain ⟨t, r, rfl⟩ := isTok_cons h
 simp
theorem name_len {ts : List Tok} {x : Bytes} (h : nameAt ts = some x) : (ts.drop 1).length + 1 = ts.length := by
 obtain ⟨t, r, rfl, _⟩ := nameAt_cons h
 simp
theorem drop2_len (ts : List Tok) : (ts.drop 2).length <= (ts.drop 1).length := by
 rw [List.length_drop, List.length_drop]; omega
theorem fuelS : ∀ f, FuelS f
 | 0 => by
  refine ⟨?_, ?_⟩ <;> intros <;> omega
 | f + 1 => by
  have ih := fuelS f
  refine ⟨?_, ?_⟩
  ·intro g d i ts hg hn
   obtain ⟨g, rfl⟩ : ∃ g', g = g' + 1 := ⟨g - 1, by omega⟩
   have hg : f <= g := by omega
   rw [pBlock, pBlock]
   split
   ·rfl
   ·cases he : eat "}" i ts with
    | some z => rfl
    | none =>
     refine zP (ih.stmt hg (by omega)) fun s hs => ?_
     have s1 := ((sufS g).stmt hs).len
     exact zP (ih.block hg (by omega)) fun l hl => rfl
  ·intro g d i ts hg hn
   obtain ⟨g, rfl⟩ : ∃ g', g = g' + 1 := ⟨g - 1, by omega⟩
   have hg : f <= g := by omega
   have d2 := drop2_len ts
   rw [pStmt_eq, pStmt_eq]
   split
   ·rename_i hw
    have l1 := yK hw
    refine zP rfl fun x hx => zP rfl fun q hq => ?_
    have s1 := (zV hq).len
    exact pFin_fuel hg (by omega)
   ·split
    ·rename_i hw
     have l1 := yK hw
     exact pFin_fuel hg (by omega)
    ·split
     ·rename_i hw
      have l1 := yK hw
      exact pFin_fuel hg (by omega)
     ·split
      ·rename_i hw
       have l1 := yK hw
       refine zP ((fuelE f).expr hg (by omega)) fun c hc => zP rfl fun o ho => ?_
       have s1 := ((sufE g).expr hc).len
       have s2 := (zV ho).len
       exact zP (ih.block hg (by omega)) fun b hb => rfl
      ·split
       ·rename_i hw
        have l1 := yK hw
        refine zP ((fuelE f).expr hg (by omega)) fun c hc => zP rfl fun o ho => ?_
        have s1 := ((sufE g).expr hc).len
        have s2 := (zV ho).len
        refine zP (ih.block hg (by omega)) fun a ha => ?_
        have s3 := ((sufS g).block ha).len
        split
        ·rename_i he
         have l2 := yK he
         refine zP rfl fun q hq => ?_
         have s4 := (zV hq).len
         exact zP (ih.block hg (by omega)) fun b hb => rfl
        ·rfl
       ·refine zP rfl fun x hx => ?_
        have l1 := name_len hx
        split
        ·split
         ·rfl
         ·exact zP ((fuelE f).args hg (by omega)) fun l hl => rfl
        ·refine zP rfl fun q hq => ?_
         have s1 := (zV hq).len
         exact pFin_fuel hg (by omega)
def yV (d i : Nat) (ts : List Tok) := pBlock (10 * ts.length + 8) d i ts
def xStmt (d i : Nat) (ts : List Tok) := pStmt (10 * ts.length + 7) d i ts
def xFin (d : Nat) (k : E -> Nat -> S) (j : Nat) (r : List Tok) : Option (S × Nat × List Tok) := do
 let e <- yH d j r
 let z <- eat ";" e.2.1 e.2.2
 return (k e.1 z.1, z)
theorem block_x {f d i : Nat} {ts : List Tok} (h : 10 * ts.length + 8 <= f) : pBlock f d i ts = yV d i ts := ((fuelS _).block h (Nat.le_refl _)).symm
theorem fin_x {f d j : Nat} {k : E -> Nat -> S} {r : List Tok} (h : 10 * r.length + 4 <= f) : pFin f d k j r = xFin d k j r := by
 unfold pFin xFin
 rw [expr_x h]
theorem xBlock_suf {d i : Nat} {ts : List Tok} {r : Ss × Nat × List Tok} (h : yV d i ts = some r) : Suf 1 i ts r.2 := (sufS _).block h
theorem xStmt_suf {d i : Nat} {ts : List Tok} {r : S × Nat × List Tok} (h : xStmt d i ts = some r) : Suf 2 i ts r.2 := (sufS _).stmt h
theorem xBlock_eq (d i : Nat) (ts : List Tok) : yV d i ts = (if DEEP < d then none else match eat "}" i ts with
  | some z => some (.nil, z)
  | none => do
   let s <- xStmt d i ts
   let l <- yV d s.2.1 s.2.2
   return (.cons s.1 l.1, l.2)) := by
 show pBlock (10 * ts.length + 7 + 1) d i ts = _
 rw [pBlock]
 split
 ·rfl
 ·cases he : eat "}" i ts with
  | some z => rfl
  | none =>
   refine zP rfl fun s hs => ?_
   have s1 := (xStmt_suf hs).len
   exact zP (block_x (by omega)) fun l hl => rfl
theorem xStmt_eq (d i : Nat) (ts : List Tok) : xStmt d i ts =
  (if isTok "let" ts then do
   let x <- nameAt (ts.drop 1)
   let q <- eat "=" (i + 2) (ts.drop 2)
   xFin d (fun e j => .let_ i j x e) q.1 q.2
  else if isTok "return" ts then xFin d (fun e j => .ret i j e) (i + 1) (ts.drop 1)
  else if isTok "put" ts then xFin d (fun e j => .put i j e) (i + 1) (ts.drop 1)
  else if isTok "while" ts then do
   let c <- yH d (i + 1) (ts.drop 1)
   let o <- eat "{" c.2.1 c.2.2
   let b <- yV (d + 1) o.1 o.2
   return (.while_ i b.2.1 c.1 b.1, b.2)
  else if isTok "if" ts then do
   let c <- yH d (i + 1) (ts.drop 1)
   let o <- eat "{" c.2.1 c.2.2
   let a <- yV (d + 1) o.1 o.2
   if isTok "else" a.2.2 then do
    let q <- eat "{" (a.2.1 + 1) (a.2.2.drop 1)
    let b <- yV (d + 1) q.1 q.2
    return (.if_ i b.2.1 c.1 a.1 b.1, b.2)
   else return (.if_ i a.2.1 c.1 a.1 .nil, a.2)
  else do
   let x <- nameAt ts
   if isTok "(" (ts.drop 1) then (if DEEP <= d then none else do
    let l <- xArgs (d + 1) (i + 2) (ts.drop 2)
    let z <- eat ";" l.2.1 l.2.2
    return (.call i z.1 x l.1, z))
   else do
    let q <- eat "=" (i + 1) (ts.drop 1)
    xFin d (fun e j => .set i j x e) q.1 q.2) := by
 have d2 := drop2_len ts
 show pStmt (10 * ts.length + 6 + 1) d i ts = _
 rw [pStmt_eq]
 split
 ·rename_i hw
  have l1 := yK hw
  refine zP rfl fun x hx => zP rfl fun q hq => ?_
  have s1 := (zV hq).len
  exact fin_x (by omega)
 ·split
  ·rename_i hw
   have l1 := yK hw
   exact fin_x (by omega)
  ·split
   ·rename_i hw
    have l1 := yK hw
    exact fin_x (by omega)
   ·split
    ·rename_i hw
     have l1 := yK hw
     refine zP (expr_x (by omega)) fun c hc => zP rfl fun o ho => ?_
     have s1 := (xExpr_suf hc).len
     have s2 := (zV ho).len
     exact zP (block_x (by omega)) fun b hb => rfl
    ·split
     ·rename_i hw
      have l1 := yK hw
      refine zP (expr_x (by omega)) fun c hc => zP rfl fun o ho => ?_
      have s1 := (xExpr_suf hc).len
      have s2 := (zV ho).len
      refine zP (block_x (by omega)) fun a ha => ?_
      have s3 := (xBlock_suf ha).len
      split
      ·rename_i he
       have l2 := yK he
       refine zP rfl fun q hq => ?_
       have s4 := (zV hq).len
       exact zP (block_x (by omega)) fun b hb => rfl
      ·rfl
     ·refine zP rfl fun x hx => ?_
      have l1 := name_len hx
      split
      ·split
       ·rfl
       ·exact zP (args_x (by omega)) fun l hl => rfl
      ·refine zP rfl fun q hq => ?_
       have s1 := (zV hq).len
       exact fin_x (by omega)
end SM
end
section
set_option Elab.async false
namespace SM
open Kp110
theorem params_suf : ∀ (f : Nat) {i : Nat} {ts : List Tok} {r : List (Bytes × Nat) × Nat × List Tok}, pParams f i ts = some r -> Suf 2 i ts r.2
 | 0, _, _, _, h => by simp [pParams] at h
 | f + 1, i, ts, r, h => by
  rw [pParams] at h
  obtain ⟨x, hx, h⟩ := zI h
  split at h
  ·rename_i z hz
   cases h
   exact name_drop hx (zV hz)
  ·obtain ⟨c, hc, h⟩ := zI h
   obtain ⟨l, hl, h⟩ := zI h
   cases h
   exact (name_drop hx ((zV hc).trans (params_suf f hl))).mono (by omega)
theorem params_fuel : ∀ (f : Nat) {g i : Nat} {ts : List Tok}, f <= g -> ts.length + 1 <= f -> pParams f i ts = pParams g i ts
 | 0, _, _, _, _, h => by omega
 | f + 1, g, i, ts, hg, hn => by
  obtain ⟨g, rfl⟩ : ∃ g', g = g' + 1 := ⟨g - 1, by omega⟩
  have hg : f <= g := by omega
  rw [pParams, pParams]
  refine zP rfl fun x hx => ?_
  have l1 := name_len hx
  cases he : eat ")" (i + 1) (ts.drop 1) with
  | some z => rfl
  | none =>
   refine zP rfl fun c hc => ?_
   have s1 := (zV hc).len
   exact zP (params_fuel f hg (by omega)) fun l hl => rfl
def xParams (i : Nat) (ts : List Tok) := pParams (ts.length + 1) i ts
theorem params_x {f i : Nat} {ts : List Tok} (h : ts.length + 1 <= f) : pParams f i ts = xParams i ts := (params_fuel _ h (Nat.le_refl _)).symm
theorem xParams_suf {i : Nat} {ts : List Tok} {r : List (Bytes × Nat) × Nat × List Tok} (h : xParams i ts = some r) : Suf 2 i ts r.2 := params_suf _ h
theorem xParams_eq (i : Nat) (ts : List Tok) : xParams i ts = (do
  let x <- nameAt ts
  match eat ")" (i + 1) (ts.drop 1) with
  | some z => return ([(x, i)], z)
  | none =>
   let c <- eat "," (i + 1) (ts.drop 1)
   let l <- xParams c.1 c.2
   return ((x, i) :: l.1, l.2)) := by
 show pParams (ts.length + 1) i ts = _
 rw [pParams]
 refine zP rfl fun x hx => ?_
 have l1 := name_len hx
 cases he : eat ")" (i + 1) (ts.drop 1) with
 | some z => rfl
 | none =>
  refine zP rfl fun c hc => ?_
  have s1 := (zV hc).len
  exact zP (params_x (by omega)) fun l hl => rfl
def xFn (i : Nat) (ts : List Tok) : Option (Fn × Nat × List Tok) := do
 let k <- eat "fn" i ts
 let x <- nameAt k.2
 let o <- eat "(" (k.1 + 1) (k.2.drop 1)
 let ps <- (match eat ")" o.1 o.2 with
  | some z => some ([], z)
  | none => xParams o.1 o.2)
 let q <- eat "{" ps.2.1 ps.2.2
 let b <- yV 1 q.1 q.2
 if 4 < ps.1.length then none else return (⟨i, b.2.1, x, ps.1, b.1⟩, b.2)
theorem fn_x {f i : Nat} {ts : List Tok} (h : 10 * ts.length + 8 <= f) : pFn f i ts = xFn i ts := by
 unfold pFn xFn
 refine zP rfl fun k hk => zP rfl fun x hx => zP rfl fun o ho => ?_
 have s1 := (zV hk).len
 have l1 := name_len hx
 have s2 := (zV ho).len
 have e : (match eat ")" o.1 o.2 with | some z => some ([], z) | none => pParams f o.1 o.2) = (match eat ")" o.1 o.2 with | some z => some ([], z) | none => xParams o.1 o.2) := by
  rw [params_x (by omega)]
 refine zP e fun ps hps => zP rfl fun q hq => ?_
 have s3 : ps.2.2.length <= o.2.length := by
  cases he : eat ")" o.1 o.2 with
  | some z =>
   rw [he] at hps
   cases hps
   have := (zV he).len
   show z.2.length <= _
   omega
  | none =>
   rw [he] at hps
   have := (xParams_suf hps).len
   omega
 have s4 := (zV hq).len
 exact zP (block_x (by omega)) fun b hb => rfl
theorem xFn_suf {i : Nat} {ts : List Tok} {r : Fn × Nat × List Tok} (h : xFn i ts = some r) : Suf 1 i ts r.2 := by
 unfold xFn at h
 obtain ⟨k, hk, h⟩ := zI h
 obtain ⟨x, hx, h⟩ := zI h
 obtain ⟨o, ho, h⟩ := zI h
 obtain ⟨ps, hps, h⟩ := zI h
 obtain ⟨q, hq, h⟩ := zI h
 obtain ⟨b, hb, h⟩ := zI h
 split at h
 ·cases h
 ·cases h
  have s3 : Suf 1 o.1 o.2 ps.2 := by
   cases he : eat ")" o.1 o.2 with
   | some z =>
    rw [he] at hps
    cases hps
    exact zV he
   | none =>
    rw [he] at hps
    exact (xParams_suf hps).mono (by omega)
  have s2 : Suf 1 (k.1 + 1) (k.2.drop 1) b.2 := (((zV ho).trans s3).trans ((zV hq).trans (xBlock_suf hb))).mono (by omega)
  exact ((zV hk).trans (name_drop hx s2)).mono (by omega)
theorem fns_fuel : ∀ (n : Nat) {f g m i : Nat} {ts : List Tok}, 10 * ts.length + 8 <= f -> 10 * ts.length + 8 <= g -> ts.length < n -> ts.length < m -> pFns f n i ts = pFns g m i ts
 | 0, _, _, _, _, _, _, _, h, _ => by omega
 | n + 1, f, g, 0, i, ts, _, _, _, h => by omega
 | n + 1, f, g, m + 1, i, [], _, _, _, _ => rfl
 | n + 1, f, g, m + 1, i, t :: r, hf, hg, hn, hm => by
  rw [pFns, pFns, fn_x hf, fn_x hg]
  refine zP rfl fun x hx => ?_
  have s1 := (xFn_suf hx).len
  exact zP (fns_fuel n (by omega) (by omega) (by omega) (by omega)) fun l hl => rfl
def xFns (i : Nat) (ts : List Tok) := pFns (10 * ts.length + 40) (ts.length + 1) i ts
theorem fns_x {f n i : Nat} {ts : List Tok} (hf : 10 * ts.length + 8 <= f) (hn : ts.length < n) : pFns f n i ts = xFns i ts := fns_fuel n hf (by omega) hn (Nat.lt_succ_self _)
theorem xFns_nil (i : Nat) : xFns i [] = some [] := rfl
theorem xFns_cons (i : Nat) (t : Tok) (r : List Tok) : xFns i (t :: r) = (do
  let x <- xFn i (t :: r)
  let l <- xFns x.2.1 x.2.2
  return x.1 :: l) := by
 show pFns (10 * (t :: r).length + 40) ((t :: r).length + 1) i (t :: r) = _
 rw [pFns, fn_x (by omega)]
 refine zP rfl fun x hx => ?_
 have s1 := (xFn_suf hx).len
 have hl : (t :: r).length = r.length + 1 := rfl
 exact zP (fns_x (by omega) (by omega)) fun l hl => rfl
end SM
end
section
set_option Elab.async false
namespace SM
open Kp110
mutual
def szE : E -> Nat
 | .num _ _ => 1
 | .var _ _ => 1
 | .get _ => 1
 | .un _ _ _ e => 1 + szE e
 | .bin _ _ _ a b => 1 + szE a + szE b
 | .par _ _ e => 1 + szE e
 | .call _ _ _ l => 1 + szEs l
def szEs : Es -> Nat
 | .nil => 1
 | .cons e l => 1 + szE e + szEs l
end
mutual
def szS : S -> Nat
 | .let_ _ _ _ e => 1 + szE e
 | .set _ _ _ e => 1 + szE e
 | .if_ _ _ c a b => 1 + szE c + szSs a + szSs b
 | .while_ _ _ c a => 1 + szE c + szSs a
 | .ret _ _ e => 1 + szE e
 | .put _ _ e => 1 + szE e
 | .call _ _ _ l => 1 + szEs l
def szSs : Ss -> Nat
 | .nil => 1
 | .cons s l => 1 + szS s + szSs l
end
theorem szEs_pos (l : Es) : 1 <= szEs l := by cases l <;> simp [szEs] <;> omega
def Thru {α : Type} (L : Nat) : R α -> Prop
 | .ok _ s => s.left <= L
 | .halt_ _ _ => True
 | .more _ => False
theorem Thru.then_ {α β : Type} {L : Nat} {r : R α} {k : α -> St -> R β} (h : Thru L r) (hk : ∀ a s, s.left <= L -> Thru L (k a s)) : Thru L (r.then_ k) := by
 cases r with
 | ok a s => exact hk a s h
 | halt_ c s => trivial
 | more s => exact h.elim
theorem Thru.mono {α : Type} {L L' : Nat} {r : R α} (h : Thru L r) (hl : L <= L') : Thru L' r := by
 cases r with
 | ok a s => exact Nat.le_trans h hl
 | halt_ c s => trivial
 | more s => exact h.elim
theorem thru_val {z : Int} {s : St} {L : Nat} (h : s.left <= L) : Thru L (val z s) := by
 unfold val
 split
 ·exact h
 ·trivial
theorem thru_op {op : Nat} {a b : Int} {s : St} {L : Nat} (h : s.left <= L) : Thru L (opBin op a b s) := by
 unfold opBin
 repeat (first | exact thru_val h | exact h | trivial | split)
structure ThruAt (x : Ctx) (W L0 n : Nat) : Prop where
 e : ∀ d v e s, d <= 64 -> szE e + (64 - d) * W <= n -> s.left <= L0 -> Thru s.left (evE x n d v e s)
 es : ∀ d v l s, d <= 64 -> szEs l + (64 - d) * W <= n -> s.left <= L0 -> Thru s.left (evEs x n d v l s)
 c : ∀ d f as s, d <= 64 -> (64 - d) * W + 1 <= n -> s.left <= L0 -> Thru s.left (callF x n d f as s)
 ss : ∀ d v l s, d <= 64 -> szSs l + s.left + (64 - d) * W <= n -> s.left <= L0 -> Thru s.left (exSs x n d v l s)
 s : ∀ d v a s, d <= 64 -> szS a + s.left + (64 - d) * W <= n -> s.left <= L0 -> Thru s.left (exS x n d v a s)
theorem thruAt {x : Ctx} {M W L0 : Nat} (hlim : x.lim = true) (hM : ∀ f y, fnOf x.fns f = some y -> szSs y.body <= M) (hW : M + L0 <= W) : ∀ n, ThruAt x W L0 n
 | 0 => by
  refine ⟨?_, ?_, ?_, ?_, ?_⟩
  ·intro d v e s hd h; exfalso; cases e <;> simp [szE] at h
  ·intro d v l s hd h; have := szEs_pos l; omega
  ·intro d f as s hd h; omega
  ·intro d v l s hd h; exfalso; cases l <;> simp [szSs] at h
  ·intro d v a s hd h; exfalso; cases a <;> simp [szS] at h
 | n + 1 => by
  have ih := thruAt hlim hM hW n
  refine ⟨?_, ?_, ?_, ?_, ?_⟩
  ·intro d v e s hd h hs
   cases e with
   | num i k => simp only [evE]; exact Nat.le_refl _
   | var i y => simp only [evE]; exact Nat.le_refl _
   | get i => simp only [evE]; exact Nat.le_refl _
   | un i j op e =>
    simp only [szE] at h
    simp only [evE]
    refine (ih.e d v e s hd (by omega) hs).then_ fun a s1 h1 => ?_
    split
    ·exact h1
    ·exact thru_val h1
   | bin i j op a b =>
    simp only [szE] at h
    simp only [evE]
    refine (ih.e d v a s hd (by omega) hs).then_ fun a1 s1 h1 => ?_
    refine ((ih.e d v b s1 hd (by omega) (by omega)).mono h1).then_ fun b1 s2 h2 => thru_op h2
   | par i j e =>
    simp only [szE] at h
    simp only [evE]
    exact ih.e d v e s hd (by omega) hs
   | call i j f l =>
    simp only [szE] at h
    simp only [evE]
    have := szEs_pos l
    refine (ih.es d v l s hd (by omega) hs).then_ fun as s1 h1 => ?_
    exact (ih.c d f as s1 hd (by omega) (by omega)).mono h1
  ·intro d v l s hd h hs
   cases l with
   | nil => simp only [evEs]; exact Nat.le_refl _
   | cons e m =>
    simp only [szEs] at h
    simp only [evEs]
    refine (ih.e d v e s hd (by omega) hs).then_ fun a s1 h1 => ?_
    refine ((ih.es d v m s1 hd (by omega) (by omega)).mono h1).then_ fun as s2 h2 => h2
  ·intro d f as s hd h hs
   simp only [callF]
   split
   ·trivial
   ·rename_i hc
    have hd' : d < 64 := Nat.lt_of_not_le fun z => hc ⟨hlim, z⟩
    cases hf : fnOf x.fns f with
    | none => trivial
    | some y =>
     have hy := hM f y hf
     have e1 : (64 - d) * W = (64 - (d + 1)) * W + W := by
      have : 64 - d = (64 - (d + 1)) + 1 := by omega
      rw [this, Nat.add_mul, Nat.one_mul]
     refine (ih.ss (d + 1) _ y.body s (by omega) (by omega) hs).then_ fun r s1 h1 => h1
  ·intro d v l s hd h hs
   cases l with
   | nil => simp only [exSs]; exact Nat.le_refl _
   | cons a m =>
    simp only [szSs] at h
    simp only [exSs]
    refine (ih.s d v a s hd (by omega) hs).then_ fun r s1 h1 => ?_
    split
    ·exact h1
    ·exact (ih.ss d r.1 m s1 hd (by omega) (by omega)).mono h1
  ·intro d v a s hd h hs
   rw [exS]
   split
   ·trivial
   ·rename_i hc
    have hl : 1 <= s.left := by
     rcases Nat.eq_zero_or_pos s.left with z | z
     ·exact absurd ⟨hlim, z⟩ hc
     ·exact z
    have up : ∀ {α : Type} {r : R α}, Thru (s.left - 1) r -> Thru s.left r := fun h => h.mono (by omega)
    refine up ?_
    dsimp only
    cases a with
    | let_ i j y e =>
     simp only [szS] at h
     exact (ih.e d v e { s with left := s.left - 1 } hd (by omega) (by show s.left - 1 <= L0; omega)).then_ fun z s1 h1 => h1
    | set i j y e =>
     simp only [szS] at h
     exact (ih.e d v e { s with left := s.left - 1 } hd (by omega) (by show s.left - 1 <= L0; omega)).then_ fun z s1 h1 => h1
    | if_ i j c a b =>
     simp only [szS] at h
     refine (ih.e d v c { s with left := s.left - 1 } hd (by omega) (by show s.left - 1 <= L0; omega)).then_ fun z s1 h1 => ?_
     have h1 : s1.left <= s.left - 1 := h1
     refine ((ih.ss d v (if z = 0 then b else a) s1 hd ?_ (by omega)).mono h1).then_ fun r s2 h2 => h2
     split <;> omega
    | while_ i j c a =>
     simp only [szS] at h
     refine (ih.e d v c { s with left := s.left - 1 } hd (by omega) (by show s.left - 1 <= L0; omega)).then_ fun z s1 h1 => ?_
     have h1 : s1.left <= s.left - 1 := h1
     split
     ·exact h1
     ·refine ((ih.ss d v a s1 hd (by omega) (by omega)).mono h1).then_ fun r s2 h2 => ?_
      have h2 : s2.left <= s.left - 1 := h2
      split
      ·exact h2
      ·refine (ih.s d (r.1.take v.length) (.while_ i j c a) s2 hd ?_ (by omega)).mono h2
       simp only [szS]
       omega
    | ret i j e =>
     simp only [szS] at h
     exact (ih.e d v e { s with left := s.left - 1 } hd (by omega) (by show s.left - 1 <= L0; omega)).then_ fun z s1 h1 => h1
    | put i j e =>
     simp only [szS] at h
     exact (ih.e d v e { s with left := s.left - 1 } hd (by omega) (by show s.left - 1 <= L0; omega)).then_ fun z s1 h1 => h1
    | call i j f l =>
     simp only [szS] at h
     refine (ih.es d v l { s with left := s.left - 1 } hd (by omega) (by show s.left - 1 <= L0; omega)).then_ fun as s1 h1 => ?_
     have h1 : s1.left <= s.left - 1 := h1
     refine ((ih.c d f as s1 hd (by omega) (by omega)).mono h1).then_ fun z s2 h2 => h2
theorem run_thru {l : List Fn} {g : Nat -> Int} {steps N M : Nat} (hM : ∀ f y, fnOf l f = some y -> szSs y.body <= M) (hN : 64 * (M + steps) + 1 <= N) : Thru steps (run l g true steps N) :=
 (thruAt (x := ⟨l, g, true⟩) (W := M + steps) (L0 := steps) rfl hM (Nat.le_refl _) N).c 0 main [] ⟨[], 0, steps⟩ (by omega) (by omega) (Nat.le_refl _)
end SM
end
section
set_option Elab.async false
namespace SM
open Kp110
structure SzAtE (f : Nat) : Prop where
 expr : ∀ {d i ts r}, pExpr f d i ts = some r -> szE r.1 + 1 + 2 * r.2.2.length <= 2 * ts.length
 sum : ∀ {d i ts r}, pSum f d i ts = some r -> szE r.1 + 1 + 2 * r.2.2.length <= 2 * ts.length
 sumR : ∀ {d i a j ts r}, pSumRest f d i a j ts = some r -> szE r.1 + 2 * r.2.2.length <= szE a + 2 * ts.length
 term : ∀ {d i ts r}, pTerm f d i ts = some r -> szE r.1 + 1 + 2 * r.2.2.length <= 2 * ts.length
 termR : ∀ {d i a j ts r}, pTermRest f d i a j ts = some r -> szE r.1 + 2 * r.2.2.length <= szE a + 2 * ts.length
 fac : ∀ {d i ts r}, pFactor f d i ts = some r -> szE r.1 + 1 + 2 * r.2.2.length <= 2 * ts.length
 args : ∀ {d i ts r}, pArgs f d i ts = some r -> szEs r.1 + 1 + 2 * r.2.2.length <= 2 * ts.length
 more : ∀ {d i ts r}, pMore f d i ts = some r -> szEs r.1 + 1 + 2 * r.2.2.length <= 2 * ts.length
theorem szAtE : ∀ f, SzAtE f
 | 0 => by
  refine ⟨?_, ?_, ?_, ?_, ?_, ?_, ?_, ?_⟩ <;> intros <;> rename_i h <;> simp [pExpr, pSum, pSumRest, pTerm, pTermRest, pFactor, pArgs, pMore] at h
 | f + 1 => by
  have ih := szAtE f
  refine ⟨?_, ?_, ?_, ?_, ?_, ?_, ?_, ?_⟩
  ·intro d i ts r h
   rw [pExpr] at h
   obtain ⟨a, ha, h⟩ := zI h
   have s1 := ih.sum ha
   split at h
   ·rename_i op ho
    have l1 := drop1_len ho
    obtain ⟨b, hb, h⟩ := zI h
    have s2 := ih.sum hb
    cases h
    simp only [szE]
    omega
   ·cases h
    exact s1
  ·intro d i ts r h
   rw [pSum] at h
   obtain ⟨a, ha, h⟩ := zI h
   have s1 := ih.term ha
   have s2 := ih.sumR h
   omega
  ·intro d i a j ts r h
   rw [pSumRest] at h
   split at h
   ·rename_i op ho
    have l1 := drop1_len ho
    obtain ⟨b, hb, h⟩ := zI h
    have s1 := ih.term hb
    have s2 := ih.sumR h
    simp only [szE] at s2
    omega
   ·cases h
    exact Nat.le_refl _
  ·intro d i ts r h
   rw [pTerm] at h
   obtain ⟨a, ha, h⟩ := zI h
   have s1 := ih.fac ha
   have s2 := ih.termR h
   omega
  ·intro d i a j ts r h
   rw [pTermRest] at h
   split at h
   ·rename_i op ho
    have l1 := drop1_len ho
    obtain ⟨b, hb, h⟩ := zI h
    have s1 := ih.fac hb
    have s2 := ih.termR h
    simp only [szE] at s2
    omega
   ·cases h
    exact Nat.le_refl _
  ·intro d i ts r h
   cases ts with
   | nil => rw [pFactor.eq_def] at h; cases h
   | cons t q =>
    have hl : (t :: q).length = q.length + 1 := rfl
    rw [pFactor.eq_def] at h
    dsimp only at h
    split at h
    ·cases h; simp only [szE]; omega
    ·split at h
     ·split at h
      ·rename_i hp
       have l1 := yK hp
       split at h
       ·cases h
       ·obtain ⟨l, hl', h⟩ := zI h
        have s1 := ih.args hl'
        cases h
        simp only [szE]
        omega
      ·cases h; simp only [szE]; omega
     ·split at h
      ·cases h; simp only [szE]; omega
      ·split at h
       ·split at h
        ·cases h
        ·obtain ⟨l, hl', h⟩ := zI h
         have s1 := ih.fac hl'
         cases h
         simp only [szE]
         omega
       ·split at h
        ·cases h
        ·obtain ⟨e, he, h⟩ := zI h
         obtain ⟨z, hz, h⟩ := zI h
         have s1 := ih.expr he
         have s2 := (zV hz).len
         cases h
         simp only [szE]
         omega
  ·intro d i ts r h
   rw [pArgs] at h
   split at h
   ·rename_i z hz
    have s2 := (zV hz).len
    cases h
    simp only [szEs]
    omega
   ·exact ih.more h
  ·intro d i ts r h
   rw [pMore] at h
   obtain ⟨e, he, h⟩ := zI h
   have s1 := ih.expr he
   split at h
   ·rename_i z hz
    have s2 := (zV hz).len
    cases h
    simp only [szEs]
    omega
   ·obtain ⟨c, hc, h⟩ := zI h
    obtain ⟨l, hl, h⟩ := zI h
    have s2 := (zV hc).len
    have s3 := ih.more hl
    cases h
    simp only [szEs]
    omega
structure SzAtS (f : Nat) : Prop where
 block : ∀ {d i ts r}, pBlock f d i ts = some r -> szSs r.1 + 1 + 2 * r.2.2.length <= 2 * ts.length
 stmt : ∀ {d i ts r}, pStmt f d i ts = some r -> szS r.1 + 1 + 2 * r.2.2.length <= 2 * ts.length
theorem pFin_sz {f d : Nat} {k : E -> Nat -> S} {j : Nat} {r : List Tok} {q : S × Nat × List Tok} (hk : ∀ e j, szS (k e j) = 1 + szE e) (h : pFin f d k j r = some q) : szS q.1 + 1 + 2 * q.2.2.length <= 2 * r.length := by
 unfold pFin at h
 obtain ⟨e, he, h⟩ := zI h
 obtain ⟨z, hz, h⟩ := zI h
 have s1 := (szAtE _).expr he
 have s2 := (zV hz).len
 cases h
 rw [hk]
 show 1 + szE e.1 + 1 + 2 * z.2.length <= _
 omega
theorem szAtS : ∀ f, SzAtS f
 | 0 => by
  refine ⟨?_, ?_⟩ <;> intros <;> rename_i h <;> simp [pBlock, pStmt] at h
 | f + 1 => by
  have ih := szAtS f
  refine ⟨?_, ?_⟩
  ·intro d i ts r h
   rw [pBlock] at h
   split at h
   ·cases h
   ·split at h
    ·rename_i z hz
     have s2 := (zV hz).len
     cases h
     simp only [szSs]
     omega
    ·obtain ⟨s, hs, h⟩ := zI h
     obtain ⟨l, hl, h⟩ := zI h
     have s1 := ih.stmt hs
     have s2 := ih.block hl
     cases h
     simp only [szSs]
     omega
  ·intro d i ts r h
   have d2 := drop2_len ts
   have d1 : (ts.drop 1).length <= ts.length := by rw [List.length_drop]; omega
   rw [pStmt_eq] at h
   split at h
   ·rename_i hw
    obtain ⟨x, hx, h⟩ := zI h
    obtain ⟨q, hq, h⟩ := zI h
    have s2 := (zV hq).len
    have s3 := pFin_sz (fun e j => by simp only [szS]) h
    omega
   ·split at h
    ·have s3 := pFin_sz (fun e j => by simp only [szS]) h
     omega
    ·split at h
     ·have s3 := pFin_sz (fun e j => by simp only [szS]) h
      omega
     ·split at h
      ·rename_i hw
       have l1 := yK hw
       obtain ⟨c, hc, h⟩ := zI h
       obtain ⟨o, ho, h⟩ := zI h
       obtain ⟨b, hb, h⟩ := zI h
       have s1 := (szAtE _).expr hc
       have s2 := (zV ho).len
       have s3 := ih.block hb
       cases h
       simp only [szS]
       omega
      ·split at h
       ·rename_i hw
        have l1 := yK hw
        obtain ⟨c, hc, h⟩ := zI h
        obtain ⟨o, ho, h⟩ := zI h
        obtain ⟨a, ha, h⟩ := zI h
        have s1 := (szAtE _).expr hc
        have s2 := (zV ho).len
        have s3 := ih.block ha
        split at h
        ·rename_i he
         have l2 := yK he
         obtain ⟨q, hq, h⟩ := zI h
         obtain ⟨b, hb, h⟩ := zI h
         have s4 := (zV hq).len
         have s5 := ih.block hb
         cases h
         simp only [szS]
         omega
        ·cases h
         simp only [szS, szSs]
         omega
       ·obtain ⟨x, hx, h⟩ := zI h
        have l1 := name_len hx
        split at h
        ·split at h
         ·cases h
         ·obtain ⟨l, hl, h⟩ := zI h
          obtain ⟨z, hz, h⟩ := zI h
          have s1 := (szAtE _).args hl
          have s2 := (zV hz).len
          cases h
          simp only [szS]
          omega
        ·obtain ⟨q, hq, h⟩ := zI h
         have s2 := (zV hq).len
         have s3 := pFin_sz (fun e j => by simp only [szS]) h
         omega
theorem xFn_sz {i : Nat} {ts : List Tok} {r : Fn × Nat × List Tok} (h : xFn i ts = some r) : szSs r.1.body <= 2 * ts.length := by
 have s0 := xFn_suf h
 unfold xFn at h
 obtain ⟨k, hk, h⟩ := zI h
 obtain ⟨x, hx, h⟩ := zI h
 obtain ⟨o, ho, h⟩ := zI h
 obtain ⟨ps, hps, h⟩ := zI h
 obtain ⟨q, hq, h⟩ := zI h
 obtain ⟨b, hb, h⟩ := zI h
 have s1 := (zV hk).len
 have l1 := name_len hx
 have s2 := (zV ho).len
 have s3 : ps.2.2.length <= o.2.length := by
  cases he : eat ")" o.1 o.2 with
  | some z =>
   rw [he] at hps
   cases hps
   have := (zV he).len
   show z.2.length <= _
   omega
  | none =>
   rw [he] at hps
   have := (xParams_suf hps).len
   omega
 have s4 := (zV hq).len
 have s5 := (szAtS _).block hb
 split at h
 ·cases h
 ·cases h
  show szSs b.1 <= _
  omega
theorem xFns_sz : ∀ (n : Nat) {i : Nat} {ts : List Tok} {l : List Fn}, ts.length <= n -> xFns i ts = some l -> ∀ y ∈ l, szSs y.body <= 2 * n
 | n, i, [], l, _, h => by
  rw [xFns_nil] at h
  cases h
  intro y hy
  cases hy
 | 0, i, t :: r, l, hn, h => by simp at hn
 | n + 1, i, t :: r, l, hn, h => by
  rw [xFns_cons] at h
  obtain ⟨x, hx, h⟩ := zI h
  obtain ⟨m, hm, h⟩ := zI h
  cases h
  have s1 := (xFn_suf hx).len
  have s2 := xFn_sz hx
  have ih := xFns_sz n (by omega) hm
  intro y hy
  rcases List.mem_cons.mp hy with rfl | hy
  ·omega
  ·have := ih y hy
   omega
end SM
end
section
set_option Elab.async false
set_option linter.all false
namespace SM
open Kp110
def names (v : Env) : List Bytes := v.map Prod.fst
theorem names_length (v : Env) : (names v).length = v.length := by simp [names]
theorem names_append (v w : Env) : names (v ++ w) = names v ++ names w := by simp [names]
theorem names_take (v : Env) (k : Nat) : names (v.take k) = (names v).take k := by simp [names, List.map_take]
theorem names_put (v : Env) (x : Bytes) (a : Int) : names (put v x a) = names v := by
 unfold names put
 rw [List.map_map]
 apply List.map_congr_left
 intro z _
 show (if z.1 = x then (x, a) else z).1 = z.1
 split
 ·rename_i h; exact h.symm
 ·rfl
theorem yU (z : Bytes × Int) (v : Env) (x : Bytes) : look (z :: v) x = if z.1 = x then z.2 else look v x := by
 unfold look
 by_cases h : z.1 = x
 ·simp [h]
 ·have : (z.1 == x) = false := by simpa using h
  simp [List.find?_cons, this, h]
theorem look_put_same : ∀ {v : Env} {x : Bytes} {a : Int}, x ∈ names v -> look (put v x a) x = a
 | [], x, a, h => absurd h (by simp [names])
 | z :: v, x, a, h => by
  have e : put (z :: v) x a = (if z.1 = x then (x, a) else z) :: put v x a := rfl
  rw [e, yU]
  by_cases q : z.1 = x
  ·simp [q]
  ·simp only [q, if_false]
   refine look_put_same ?_
   simp only [names, List.map_cons, List.mem_cons] at h
   rcases h with h | h
   ·exact absurd h.symm q
   ·exact h
theorem look_put_other : ∀ {v : Env} {x y : Bytes} {a : Int}, y ≠ x -> look (put v x a) y = look v y
 | [], x, y, a, h => rfl
 | z :: v, x, y, a, h => by
  have e : put (z :: v) x a = (if z.1 = x then (x, a) else z) :: put v x a := rfl
  rw [e, yU, yU]
  by_cases q : z.1 = x
  ·have : ¬ x = y := fun e => h e.symm
   simp only [q, if_true, this, if_false]
   exact look_put_other h
  ·simp only [q, if_false]
   by_cases r : z.1 = y
   ·simp [r]
   ·simp only [r, if_false]; exact look_put_other h
theorem look_append_in : ∀ {v w : Env} {x : Bytes}, x ∈ names v -> look (v ++ w) x = look v x
 | [], w, x, h => absurd h (by simp [names])
 | z :: v, w, x, h => by
  rw [List.cons_append, yU, yU]
  by_cases q : z.1 = x
  ·simp [q]
  ·simp only [q, if_false]
   refine look_append_in ?_
   simp only [names, List.map_cons, List.mem_cons] at h
   rcases h with h | h
   ·exact absurd h.symm q
   ·exact h
theorem look_append_out : ∀ {v w : Env} {x : Bytes}, x ∉ names v -> look (v ++ w) x = look w x
 | [], w, x, h => rfl
 | z :: v, w, x, h => by
  simp only [names, List.map_cons, List.mem_cons, not_or] at h
  rw [List.cons_append, yU]
  have q : ¬ z.1 = x := fun e => h.1 e.symm
  simp only [q, if_false]
  exact look_append_out h.2
theorem look_let_same {v : Env} {x : Bytes} {a : Int} (h : x ∉ names v) : look (v ++ [(x, a)]) x = a := by
 rw [look_append_out h, yU]; simp
theorem look_let_other {v : Env} {x y : Bytes} {a : Int} (h : y ≠ x) : look (v ++ [(x, a)]) y = look v y := by
 by_cases q : y ∈ names v
 ·exact look_append_in q
 ·rw [look_append_out q, yU]
  have : ¬ x = y := fun e => h e.symm
  simp only [this, if_false]
  have : ∀ (v : Env), y ∉ names v -> look v y = 0 := by
   intro v
   induction v with
   | nil => intro _; rfl
   | cons z v ih =>
    intro h
    simp only [names, List.map_cons, List.mem_cons, not_or] at h
    rw [yU, if_neg fun e => h.1 e.symm]
    exact ih h.2
  rw [this v q]; rfl
theorem look_take {v : Env} {k : Nat} {x : Bytes} (h : x ∈ names (v.take k)) : look (v.take k) x = look v x := by
 have := look_append_in (w := v.drop k) h
 rw [List.take_append_drop] at this
 exact this.symm
def scopeS (vs : List Bytes) : S -> List Bytes
 | .let_ _ _ x _ => vs ++ [x]
 | _ => vs
def Kept (vs : List Bytes) (r : Env × Option Int) : Prop := (names r.1).take vs.length = vs
theorem R.ok_then {α β : Type} {r : R α} {k : α -> St -> R β} {b : β} {t : St} (h : r.then_ k = .ok b t) : ∃ a s, r = .ok a s /\ k a s = .ok b t := by
 cases r with
 | ok a s => exact ⟨a, s, rfl, h⟩
 | halt_ c s => exact nomatch h
 | more s => exact nomatch h
theorem Kept.take {vs : List Bytes} {v : Env} {z z' : Option Int} (h : Kept vs (v, z)) : names (v.take vs.length) = vs := by
 rw [names_take]; exact h
theorem Kept.of {vs : List Bytes} {v : Env} {z : Option Int} (h : names v = vs) : Kept vs (v, z) := by
 unfold Kept; rw [h, List.take_length]
theorem Kept.snoc {vs : List Bytes} {x : Bytes} {r : Env × Option Int} (h : Kept (vs ++ [x]) r) : Kept vs r := by
 unfold Kept at *
 have := congrArg (List.take vs.length) h
 rw [List.take_take, List.take_left'] at this
 ·rw [List.length_append, Nat.min_eq_left (Nat.le_add_right _ _)] at this; exact this
 ·rfl
theorem Kept.scope {vs : List Bytes} {a : S} {r : Env × Option Int} (h : Kept (scopeS vs a) r) : Kept vs r := by
 cases a <;> first | exact h | exact h.snoc
structure ScopAt (x : Ctx) (n : Nat) : Prop where
 ss : ∀ d v l s r t, exSs x n d v l s = .ok r t -> Kept (names v) r
 s : ∀ d v a s r t, exS x n d v a s = .ok r t -> Kept (names v) r /\ (r.2 = none -> names r.1 = scopeS (names v) a)
theorem scopAt (x : Ctx) : ∀ n, ScopAt x n
 | 0 => by
  refine ⟨fun d v l s r t h => ?_, fun d v a s r t h => ?_⟩
  ·simp only [exSs] at h; exact nomatch h
  ·simp only [exS] at h; exact nomatch h
 | n + 1 => by
  have ih := scopAt x n
  refine ⟨?_, ?_⟩
  ·intro d v l s r t h
   cases l with
   | nil =>
    simp only [exSs] at h
    cases h
    exact .of rfl
   | cons a m =>
    simp only [exSs] at h
    obtain ⟨q, s1, h1, h2⟩ := R.ok_then h
    have z := ih.s d v a s q s1 h1
    cases e : q.2 with
    | some z' =>
     rw [e] at h2
     cases h2
     exact z.1
    | none =>
     rw [e] at h2
     have y := ih.ss d q.1 m s1 r t h2
     rw [z.2 e] at y
     exact y.scope
  ·intro d v a s r t h
   rw [exS] at h
   split at h
   ·exact nomatch h
   ·dsimp only at h
    cases a with
    | let_ i j y e =>
     obtain ⟨q, s1, h1, h2⟩ := R.ok_then h
     cases h2
     refine ⟨?_, fun _ => ?_⟩
     ·unfold Kept; rw [names_append]; exact List.take_left' rfl
     ·rw [names_append]; rfl
    | set i j y e =>
     obtain ⟨q, s1, h1, h2⟩ := R.ok_then h
     cases h2
     exact ⟨.of (names_put _ _ _), fun _ => names_put _ _ _⟩
    | if_ i j c a b =>
     obtain ⟨q, s1, h1, h2⟩ := R.ok_then h
     obtain ⟨q2, s2, h3, h4⟩ := R.ok_then h2
     cases h4
     have y := ih.ss _ _ _ _ _ _ h3
     have e : names (q2.1.take v.length) = names v := by
      rw [<- names_length v]; exact Kept.take (z := q2.2) (z' := none) y
     exact ⟨.of e, fun _ => e⟩
    | while_ i j c a =>
     obtain ⟨q, s1, h1, h2⟩ := R.ok_then h
     split at h2
     ·cases h2; exact ⟨.of rfl, fun _ => rfl⟩
     ·obtain ⟨q2, s2, h3, h4⟩ := R.ok_then h2
      have y := ih.ss _ _ _ _ _ _ h3
      have e : names (q2.1.take v.length) = names v := by
       rw [<- names_length v]; exact Kept.take (z := q2.2) (z' := none) y
      cases e2 : q2.2 with
      | some z =>
       rw [e2] at h4
       cases h4
       exact ⟨.of e, fun _ => e⟩
      | none =>
       rw [e2] at h4
       have w := ih.s _ _ _ _ _ _ h4
       rw [e] at w
       exact w
    | ret i j e =>
     obtain ⟨q, s1, h1, h2⟩ := R.ok_then h
     cases h2
     exact ⟨.of rfl, fun h => nomatch h⟩
    | put i j e =>
     obtain ⟨q, s1, h1, h2⟩ := R.ok_then h
     cases h2
     exact ⟨.of rfl, fun _ => rfl⟩
    | call i j f l =>
     obtain ⟨q, s1, h1, h2⟩ := R.ok_then h
     obtain ⟨q2, s2, h3, h4⟩ := R.ok_then h2
     cases h4
     exact ⟨.of rfl, fun _ => rfl⟩
theorem exS_names {x : Ctx} {n d : Nat} {v : Env} {a : S} {s t : St} {w : Env} (h : exS x n d v a s = .ok (w, none) t) : names w = scopeS (names v) a := ((scopAt x n).s _ _ _ _ _ _ h).2 rfl
theorem exSs_kept {x : Ctx} {n d : Nat} {v : Env} {a : Ss} {s t : St} {r : Env × Option Int} (h : exSs x n d v a s = .ok r t) : names (r.1.take v.length) = names v := by
 have := (scopAt x n).ss _ _ _ _ _ _ h
 rw [<- names_length v]; exact Kept.take (z := r.2) (z' := none) this
theorem okSs_consR {l : List Fn} {vs : List Bytes} {a : S} {m : Ss} (h : okSs l vs (.cons a m) = true) : okS l vs a = true /\ okSs l (scopeS vs a) m = true := by
 simp only [okSs, Bool.and_eq_true] at h
 refine ⟨h.1, ?_⟩
 have := h.2
 cases a <;> exact this
theorem okE_call {l : List Fn} {v : List Bytes} {i j : Nat} {f : Bytes} {as : Es} (h : okE l v (.call i j f as) = true) : ∃ y, fnOf l f = some y /\ y.params.length = as.list.length /\ okEs l v as = true := by
 simp only [okE, Bool.and_eq_true] at h
 obtain ⟨h1, h2⟩ := h
 cases e : fnOf l f with
 | none => rw [e] at h1; exact nomatch h1
 | some y =>
  rw [e] at h1
  exact ⟨y, rfl, by simpa using h1, h2⟩
theorem okS_call {l : List Fn} {v : List Bytes} {i j : Nat} {f : Bytes} {as : Es} (h : okS l v (.call i j f as) = true) : ∃ y, fnOf l f = some y /\ y.params.length = as.list.length /\ okEs l v as = true := by
 simp only [okS, Bool.and_eq_true] at h
 obtain ⟨h1, h2⟩ := h
 cases e : fnOf l f with
 | none => rw [e] at h1; exact nomatch h1
 | some y =>
  rw [e] at h1
  exact ⟨y, rfl, by simpa using h1, h2⟩
theorem evEs_length {x : Ctx} : ∀ {n d : Nat} {v : Env} {l : Es} {s t : St} {as : List Int}, evEs x n d v l s = .ok as t -> as.length = l.list.length
 | 0, d, v, l, s, t, as, h => by simp only [evEs] at h; exact nomatch h
 | n + 1, d, v, l, s, t, as, h => by
  cases l with
  | nil => simp only [evEs] at h; cases h; rfl
  | cons e m =>
   simp only [evEs] at h
   obtain ⟨a, s1, h1, h2⟩ := R.ok_then h
   obtain ⟨bs, s2, h3, h4⟩ := R.ok_then h2
   cases h4
   show bs.length + 1 = m.list.length + 1
   rw [evEs_length h3]
theorem names_zip {ps : List Bytes} {as : List Int} (h : ps.length = as.length) : names (ps.zip as) = ps := by
 unfold names
 rw [List.map_fst_zip]
 exact Nat.le_of_eq h
theorem distinct_nodup {l : List Bytes} (h : distinct l = true) : l.Nodup := by
 unfold distinct at h
 rw [List.all_eq_true] at h
 rw [List.nodup_iff_pairwise_ne, List.pairwise_iff_getElem]
 intro i j hi hj hij e
 have z := h i (List.mem_range.mpr hi)
 simp only [Bool.not_eq_true', List.contains_eq_mem, decide_eq_false_iff_not] at z
 apply z
 have e1 : l.getD i [] = l[j] := by rw [List.getD_eq_getElem?_getD, List.getElem?_eq_getElem hi]; exact e
 rw [e1, List.mem_iff_getElem]
 exact ⟨j - (i + 1), by rw [List.length_drop]; omega, by rw [List.getElem_drop]; congr 1; omega⟩
structure Right (l : List Fn) : Prop where
 nodup : (l.map Fn.name).Nodup
 main : ∃ y, fnOf l Kp110.main = some y /\ y.params = []
 fns : ∀ y ∈ l, (y.params.map Prod.fst).Nodup /\ okSs l (y.params.map Prod.fst) y.body = true
theorem right_of {l : List Fn} (h : okProg l = true) : Right l := by
 unfold okProg at h
 simp only [Bool.and_eq_true] at h
 obtain ⟨⟨h1, h2⟩, h3⟩ := h
 refine ⟨distinct_nodup h1, ?_, fun y hy => ?_⟩
 ·cases e : fnOf l Kp110.main with
  | none => rw [e] at h2; exact nomatch h2
  | some y =>
   rw [e] at h2
   exact ⟨y, rfl, List.isEmpty_iff.mp h2⟩
 ·have z := List.all_eq_true.mp h3 y hy
  simp only [Bool.and_eq_true] at z
  exact ⟨distinct_nodup z.1, z.2⟩
theorem fnOf_in {l : List Fn} {f : Bytes} {y : Fn} (h : fnOf l f = some y) : y ∈ l /\ y.name = f := by
 unfold fnOf at h
 exact ⟨List.mem_of_find?_eq_some h, by simpa using List.find?_some h⟩
end SM
end
section
set_option Elab.async false
set_option linter.all false
namespace SM
open Kp110
inductive Mn where
 | beg | fin | step
 | let_ (x : Bytes) | set (x : Bytes) | use (x : Bytes)
 | num (v : Nat) | get
 | one (op : Nat) | two (op : Nat)
 | call (x : Bytes) (n : Nat)
 | forget | put | ret
 | unless (p : Nat) | go (p : Nat)
 deriving DecidableEq
mutual
def cE : E -> List Mn
 | .num _ v => [.num v]
 | .var _ x => [.use x]
 | .get _ => [.get]
 | .un _ _ op e => cE e ++ [.one op]
 | .bin _ _ op a b => cE a ++ (cE b ++ [.two op])
 | .par _ _ e => cE e
 | .call _ _ f l => cEs l ++ [.call f l.list.length]
def cEs : Es -> List Mn
 | .nil => []
 | .cons e l => cE e ++ cEs l
end
mutual
inductive CS : Nat -> S -> List Mn -> Prop
 | let_ {p i j : Nat} {x : Bytes} {e : E} : CS p (.let_ i j x e) (.step :: (cE e ++ [.let_ x]))
 | set {p i j : Nat} {x : Bytes} {e : E} : CS p (.set i j x e) (.step :: (cE e ++ [.set x]))
 | ret {p i j : Nat} {e : E} : CS p (.ret i j e) (.step :: (cE e ++ [.ret]))
 | put {p i j : Nat} {e : E} : CS p (.put i j e) (.step :: (cE e ++ [.put]))
 | call {p i j : Nat} {f : Bytes} {l : Es} : CS p (.call i j f l) (.step :: (cEs l ++ [.call f l.list.length, .forget]))
 | while_ {p i j : Nat} {c : E} {a : Ss} {A : List Mn} {q : Nat} (hq : q = p + (cE c).length + A.length + 5) (ha : CSs (p + (cE c).length + 3) a A) :
   CS p (.while_ i j c a) (.step :: (cE c ++ (.unless q :: (.beg :: (A ++ [.fin, .go p])))))
 | if_ {p i j : Nat} {c : E} {a : Ss} {A : List Mn} {q : Nat} (hq : q = p + (cE c).length + A.length + 4) (ha : CSs (p + (cE c).length + 3) a A) :
   CS p (.if_ i j c a .nil) (.step :: (cE c ++ (.unless q :: (.beg :: (A ++ [.fin])))))
 | ife {p i j : Nat} {c : E} {a b : Ss} {A B : List Mn} {q r : Nat} (hq : q = p + (cE c).length + A.length + 5) (hr : r = p + (cE c).length + A.length + B.length + 7)
   (ha : CSs (p + (cE c).length + 3) a A) (hb : CSs (p + (cE c).length + A.length + 6) b B) :
   CS p (.if_ i j c a b) (.step :: (cE c ++ (.unless q :: (.beg :: (A ++ (.fin :: (.go r :: (.beg :: (B ++ [.fin])))))))))
inductive CSs : Nat -> Ss -> List Mn -> Prop
 | nil {p : Nat} : CSs p .nil []
 | cons {p : Nat} {s : S} {m : Ss} {A B : List Mn} (ha : CS p s A) (hb : CSs (p + A.length) m B) : CSs p (.cons s m) (A ++ B)
end
def CB (p : Nat) (a : Ss) (ns : List Mn) : Prop := ∃ A, CSs (p + 1) a A /\ ns = .beg :: (A ++ [.fin])
def CFn (a : Ss) (ns : List Mn) : Prop := ∃ B, CB 0 a B /\ ns = B ++ [.num 0, .ret]
def fnOk (l : List Fn) (f : Bytes) (n : Nat) : Bool := match fnOf l f with
 | some y => y.params.length == n
 | none => false
abbrev Cst := List Bytes × List Nat
def chk1 (l : List Fn) : Mn -> List Bytes -> List Nat -> Option Cst
 | .beg, v, st => some (v, v.length :: st)
 | .fin, v, n :: st => some (v.take n, st)
 | .fin, _, [] => none
 | .let_ x, v, st => if !v.contains x && decide (v.length < 32) then some (v ++ [x], st) else none
 | .use x, v, st => if v.contains x then some (v, st) else none
 | .set x, v, st => if v.contains x then some (v, st) else none
 | .call f n, v, st => if fnOk l f n then some (v, st) else none
 | _, v, st => some (v, st)
def chk (l : List Fn) : List Mn -> List Bytes -> List Nat -> Option Cst
 | [], v, st => some (v, st)
 | n :: r, v, st => (chk1 l n v st).bind fun q => chk l r q.1 q.2
theorem chk_app (l : List Fn) : ∀ (a b : List Mn) (v : List Bytes) (st : List Nat), chk l (a ++ b) v st = (chk l a v st).bind fun r => chk l b r.1 r.2
 | [], b, v, st => rfl
 | n :: r, b, v, st => by
  show (chk1 l n v st).bind (fun q => chk l (r ++ b) q.1 q.2) = ((chk1 l n v st).bind fun q => chk l r q.1 q.2).bind _
  cases chk1 l n v st with
  | none => rfl
  | some q => exact chk_app l r b q.1 q.2
theorem chk_one (l : List Fn) (n : Mn) (v : List Bytes) (st : List Nat) : chk l [n] v st = chk1 l n v st := by
 show (chk1 l n v st).bind (fun q => some (q.1, q.2)) = _
 cases chk1 l n v st <;> rfl
theorem chk_cons {l : List Fn} {n : Mn} {r : List Mn} {v v' : List Bytes} {st st' : List Nat} (h : chk1 l n v st = some (v', st')) : chk l (n :: r) v st = chk l r v' st' := by
 show (chk1 l n v st).bind _ = _
 rw [h]; rfl
theorem yL {l : List Fn} {a b : List Mn} {v : List Bytes} {st : List Nat} {k : Bool} {q : Cst} (h : chk l a v st = if k then some q else none) : chk l (a ++ b) v st = if k then chk l b q.1 q.2 else none := by
 rw [chk_app, h]
 cases k <;> rfl
mutual
theorem chk_E (l : List Fn) : ∀ (e : E) (v : List Bytes) (st : List Nat), chk l (cE e) v st = if okE l v e then some (v, st) else none
 | .num _ _, v, st => by rw [okE, cE]; rfl
 | .get _, v, st => by rw [okE, cE]; rfl
 | .var _ x, v, st => by rw [okE, cE, chk_one]; rfl
 | .un _ _ op e, v, st => by
  rw [okE, cE, yL (chk_E l e v st), chk_one]; rfl
 | .par _ _ e, v, st => by rw [okE, cE, chk_E l e v st]
 | .bin _ _ op a b, v, st => by
  rw [okE, cE, yL (chk_E l a v st)]
  cases okE l v a with
  | false => rfl
  | true =>
   rw [if_pos rfl, yL (chk_E l b v st), chk_one, Bool.true_and]
   rfl
 | .call _ _ f as, v, st => by
  rw [okE, cE, yL (chk_Es l as v st), chk_one]
  cases okEs l v as with
  | false => rw [Bool.and_false]; rfl
  | true => rw [Bool.and_true]; rfl
theorem chk_Es (l : List Fn) : ∀ (e : Es) (v : List Bytes) (st : List Nat), chk l (cEs e) v st = if okEs l v e then some (v, st) else none
 | .nil, v, st => by rw [okEs, cEs]; rfl
 | .cons e m, v, st => by
  rw [okEs, cEs, yL (chk_E l e v st)]
  cases okE l v e with
  | false => rfl
  | true => rw [if_pos rfl, chk_Es l m v st, Bool.true_and]
end
def letOf : S -> List Bytes
 | .let_ _ _ x _ => [x]
 | _ => []
def lets : Ss -> List Bytes
 | .nil => []
 | .cons s m => letOf s ++ lets m
theorem okSs_cons (l : List Fn) (v : List Bytes) (s : S) (m : Ss) : okSs l v (.cons s m) = (okS l v s && okSs l (v ++ letOf s) m) := by
 cases s <;> first | (rw [okSs]; rfl; done) | (rw [okSs]; (show (_ && okSs l v m) = (_ && okSs l (v ++ []) m); rw [List.append_nil]); intro _ _ _ _ z; cases z)
theorem yT {l : List Fn} {n : Mn} {r : List Mn} {v : List Bytes} {st : List Nat} (h : chk1 l n v st = some (v, st)) : chk l (n :: r) v st = chk l r v st := chk_cons h
theorem chk_blk {l : List Fn} {a : Ss} {A r : List Mn} {v : List Bytes} {st : List Nat} (h : ∀ st, chk l A v st = if okSs l v a then some (v ++ lets a, st) else none) : chk l (.beg :: (A ++ (.fin :: r))) v st = if okSs l v a then chk l r v st else none := by
 rw [chk_cons (v' := v) (st' := v.length :: st) rfl, yL (h _)]
 cases okSs l v a with
 | false => rfl
 | true =>
  rw [if_pos rfl, if_pos rfl]
  show chk l r ((v ++ lets a).take v.length) st = _
  rw [List.take_left']
  rfl
mutual
theorem chk_S (l : List Fn) : ∀ (s : S) (p : Nat) (ns : List Mn) (v : List Bytes) (st : List Nat), CS p s ns -> chk l ns v st = if okS l v s then some (v ++ letOf s, st) else none
 | .let_ _ _ x e, p, ns, v, st, h => by
  cases h
  rw [okS, yT rfl, yL (chk_E l e v st), chk_one]
  cases okE l v e with
  | false => rfl
  | true => rw [if_pos rfl, Bool.true_and]; rfl
 | .set _ _ x e, p, ns, v, st, h => by
  cases h
  rw [okS, yT rfl, yL (chk_E l e v st), chk_one]
  cases okE l v e with
  | false => rw [Bool.and_false]; rfl
  | true =>
   rw [if_pos rfl, Bool.and_true]
   show (if v.contains x then some (v, st) else none) = if v.contains x then some (v ++ [], st) else none
   rw [List.append_nil]
 | .ret _ _ e, p, ns, v, st, h => by
  cases h
  rw [okS, yT rfl, yL (chk_E l e v st), chk_one]
  show (if okE l v e then some (v, st) else none) = if okE l v e then some (v ++ [], st) else none
  rw [List.append_nil]
 | .put _ _ e, p, ns, v, st, h => by
  cases h
  rw [okS, yT rfl, yL (chk_E l e v st), chk_one]
  show (if okE l v e then some (v, st) else none) = if okE l v e then some (v ++ [], st) else none
  rw [List.append_nil]
 | .call _ _ f as, p, ns, v, st, h => by
  cases h
  rw [okS, yT rfl, yL (chk_Es l as v st)]
  cases okEs l v as with
  | false => rw [Bool.and_false]; rfl
  | true =>
   rw [if_pos rfl, Bool.and_true]
   show ((chk1 l (.call f as.list.length) v st).bind fun q => chk l [.forget] q.1 q.2) = if fnOk l f as.list.length then some (v ++ [], st) else none
   rw [List.append_nil]
   show (if fnOk l f as.list.length then some (v, st) else none).bind _ = _
   cases fnOk l f as.list.length <;> rfl
 | .while_ _ _ c a, p, ns, v, st, h => by
  cases h with
  | while_ hq ha =>
   rw [okS, yT rfl, yL (chk_E l c v st)]
   cases okE l v c with
   | false => rfl
   | true =>
    rw [if_pos rfl, Bool.true_and, yT rfl, chk_blk (fun st => chk_Ss l a _ _ v st ha)]
    show (if okSs l v a then some (v, st) else none) = if okSs l v a then some (v ++ [], st) else none
    rw [List.append_nil]
 | .if_ _ _ c a b, p, ns, v, st, h => by
  cases h with
  | if_ hq ha =>
   rw [okS, yT rfl, yL (chk_E l c v st)]
   cases okE l v c with
   | false => rfl
   | true =>
    rw [if_pos rfl, Bool.true_and, yT rfl, chk_blk (fun st => chk_Ss l a _ _ v st ha)]
    show (if okSs l v a then some (v, st) else none) = if okSs l v a && okSs l v .nil then some (v ++ [], st) else none
    rw [List.append_nil, okSs, Bool.and_true]
  | ife hq hr ha hb =>
   rw [okS, yT rfl, yL (chk_E l c v st)]
   cases okE l v c with
   | false => rfl
   | true =>
    rw [if_pos rfl, Bool.true_and, yT rfl, chk_blk (fun st => chk_Ss l a _ _ v st ha)]
    cases okSs l v a with
    | false => rfl
    | true =>
     rw [if_pos rfl, Bool.true_and, yT rfl, chk_blk (fun st => chk_Ss l b _ _ v st hb)]
     show (if okSs l v b then some (v, st) else none) = if okSs l v b then some (v ++ [], st) else none
     rw [List.append_nil]
theorem chk_Ss (l : List Fn) : ∀ (a : Ss) (p : Nat) (ns : List Mn) (v : List Bytes) (st : List Nat), CSs p a ns -> chk l ns v st = if okSs l v a then some (v ++ lets a, st) else none
 | .nil, p, ns, v, st, h => by
  cases h
  rw [okSs]
  show some (v, st) = some (v ++ [], st)
  rw [List.append_nil]
 | .cons s m, p, ns, v, st, h => by
  cases h with
  | cons ha hb =>
   rw [okSs_cons, yL (chk_S l s p _ v st ha)]
   cases okS l v s with
   | false => rfl
   | true =>
    rw [if_pos rfl, chk_Ss l m _ _ (v ++ letOf s) st hb, List.append_assoc, Bool.true_and]
    rfl
end
theorem chk_B {l : List Fn} {a : Ss} {p : Nat} {ns : List Mn} (h : CB p a ns) (v : List Bytes) (st : List Nat) : chk l ns v st = if okSs l v a then some (v, st) else none := by
 obtain ⟨A, hA, rfl⟩ := h
 exact chk_blk (r := []) fun st => chk_Ss l a _ _ v st hA
theorem chk_Fn {l : List Fn} {a : Ss} {ns : List Mn} (h : CFn a ns) (v : List Bytes) (st : List Nat) : chk l ns v st = if okSs l v a then some (v, st) else none := by
 obtain ⟨B, hB, rfl⟩ := h
 rw [yL (chk_B hB v st)]
 rfl
def bal : List Mn -> Nat -> Bool
 | [], _ => true
 | .beg :: r, d => bal r (d + 1)
 | .fin :: r, d + 1 => bal r d
 | .fin :: _, 0 => false
 | .step :: r, d => bal r d
 | .let_ _ :: r, d => bal r d
 | .set _ :: r, d => bal r d
 | .use _ :: r, d => bal r d
 | .num _ :: r, d => bal r d
 | .get :: r, d => bal r d
 | .one _ :: r, d => bal r d
 | .two _ :: r, d => bal r d
 | .call _ _ :: r, d => bal r d
 | .forget :: r, d => bal r d
 | .put :: r, d => bal r d
 | .ret :: r, d => bal r d
 | .unless _ :: r, d => bal r d
 | .go _ :: r, d => bal r d
mutual
theorem bal_E : ∀ (e : E) (r : List Mn) (d : Nat), bal (cE e ++ r) d = bal r d
 | .num _ _, r, d => by rw [cE]; rfl
 | .get _, r, d => by rw [cE]; rfl
 | .var _ x, r, d => by rw [cE]; rfl
 | .un _ _ op e, r, d => by rw [cE, List.append_assoc, bal_E e]; rfl
 | .par _ _ e, r, d => by rw [cE, bal_E e]
 | .bin _ _ op a b, r, d => by rw [cE, List.append_assoc, List.append_assoc, bal_E a, bal_E b]; rfl
 | .call _ _ f as, r, d => by rw [cE, List.append_assoc, bal_Es as]; rfl
theorem bal_Es : ∀ (e : Es) (r : List Mn) (d : Nat), bal (cEs e ++ r) d = bal r d
 | .nil, r, d => by rw [cEs]; rfl
 | .cons e m, r, d => by rw [cEs, List.append_assoc, bal_E e, bal_Es m]
end
mutual
theorem bal_S : ∀ (s : S) (p : Nat) (ns r : List Mn) (d : Nat), CS p s ns -> bal (ns ++ r) d = bal r d
 | .let_ _ _ x e, p, ns, r, d, h => by
  cases h
  show bal ((cE e ++ _) ++ r) d = _
  rw [List.append_assoc, bal_E e]; rfl
 | .set _ _ x e, p, ns, r, d, h => by
  cases h
  show bal ((cE e ++ _) ++ r) d = _
  rw [List.append_assoc, bal_E e]; rfl
 | .ret _ _ e, p, ns, r, d, h => by
  cases h
  show bal ((cE e ++ _) ++ r) d = _
  rw [List.append_assoc, bal_E e]; rfl
 | .put _ _ e, p, ns, r, d, h => by
  cases h
  show bal ((cE e ++ _) ++ r) d = _
  rw [List.append_assoc, bal_E e]; rfl
 | .call _ _ f as, p, ns, r, d, h => by
  cases h
  show bal ((cEs as ++ _) ++ r) d = _
  rw [List.append_assoc, bal_Es as]; rfl
 | .while_ _ _ c a, p, ns, r, d, h => by
  cases h with
  | while_ hq ha =>
   show bal ((cE c ++ _) ++ r) d = _
   rw [List.append_assoc, bal_E c]
   show bal ((_ ++ _) ++ r) (d + 1) = _
   rw [List.append_assoc, bal_Ss a _ _ _ _ ha]; rfl
 | .if_ _ _ c a b, p, ns, r, d, h => by
  cases h with
  | if_ hq ha =>
   show bal ((cE c ++ _) ++ r) d = _
   rw [List.append_assoc, bal_E c]
   show bal ((_ ++ _) ++ r) (d + 1) = _
   rw [List.append_assoc, bal_Ss a _ _ _ _ ha]; rfl
  | ife hq hr ha hb =>
   show bal ((cE c ++ _) ++ r) d = _
   rw [List.append_assoc, bal_E c]
   show bal ((_ ++ _) ++ r) (d + 1) = _
   rw [List.append_assoc, bal_Ss a _ _ _ _ ha]
   show bal ((_ ++ _) ++ r) (d + 1) = _
   rw [List.append_assoc, bal_Ss b _ _ _ _ hb]; rfl
theorem bal_Ss : ∀ (a : Ss) (p : Nat) (ns r : List Mn) (d : Nat), CSs p a ns -> bal (ns ++ r) d = bal r d
 | .nil, p, ns, r, d, h => by cases h; rfl
 | .cons s m, p, ns, r, d, h => by
  cases h with
  | cons ha hb => rw [List.append_assoc, bal_S s _ _ _ _ ha, bal_Ss m _ _ _ _ hb]
end
theorem bal_Fn {a : Ss} {ns : List Mn} (h : CFn a ns) (d : Nat) : bal ns d = true := by
 obtain ⟨B, ⟨A, hA, rfl⟩, rfl⟩ := h
 show bal ((A ++ [.fin]) ++ _) (d + 1) = _
 rw [List.append_assoc, bal_Ss a _ _ _ _ hA]; rfl
end SM
end
section
set_option Elab.async false
set_option linter.all false
namespace SM
open Kp110
abbrev Vs := Bytes -> Option Int
def setv (v : Vs) (x : Bytes) (a : Int) : Vs := fun y => if y = x then some a else v y
def bindP : List Bytes -> List Int -> Vs
 | p :: ps, a :: as => setv (bindP ps as) p a
 | _, _ => fun _ => none
structure Fr where
 code : List Mn
 at_ : Nat
 vars : Vs
 nv : Nat
structure MS where
 frs : List Fr
 ws : List Int
 st : St
abbrev Tab := Bytes -> Option (List Bytes × List Mn)
inductive Res where
 | ok (z : Int) (evs : List Ev)
 | halt (c : Int) (evs : List Ev)
def Res.evs : Res -> List Ev
 | .ok _ e => e
 | .halt _ e => e
def unR (op : Nat) (a : Int) (s : St) : R Int := if op = 33 then .ok (bool (decide (a = 0))) s else val (-a) s
section
variable (tab : Tab) (g : Nat -> Int)
inductive Beg (f : Bytes) : MS -> MS -> Prop
 | mk {fs : List Fr} {ws : List Int} {s : St} {ps : List Bytes} {as : List Int} {code : List Mn} (ht : tab f = some (ps, code)) (hl : ps.length = as.length) (hd : fs.length ≠ 64) :
   Beg f ⟨fs, as.reverse ++ ws, s⟩ ⟨⟨code, 0, bindP ps as, ps.length⟩ :: fs, ws, s⟩
inductive Work : Mn -> MS -> MS -> Prop
 | beg {m : MS} : Work .beg m m
 | fin {m : MS} : Work .fin m m
 | step {fs : List Fr} {ws : List Int} {s : St} (h : s.left ≠ 0) : Work .step ⟨fs, ws, s⟩ ⟨fs, ws, { s with left := s.left - 1 }⟩
 | let_ {c : List Mn} {p n : Nat} {v : Vs} {fs : List Fr} {ws : List Int} {s : St} {x : Bytes} {z : Int} : Work (.let_ x) ⟨⟨c, p, v, n⟩ :: fs, z :: ws, s⟩ ⟨⟨c, p, setv v x z, n + 1⟩ :: fs, ws, s⟩
 | set {c : List Mn} {p n : Nat} {v : Vs} {fs : List Fr} {ws : List Int} {s : St} {x : Bytes} {z : Int} : Work (.set x) ⟨⟨c, p, v, n⟩ :: fs, z :: ws, s⟩ ⟨⟨c, p, setv v x z, n + 1⟩ :: fs, ws, s⟩
 | use {c : List Mn} {p n : Nat} {v : Vs} {fs : List Fr} {ws : List Int} {s : St} {x : Bytes} {z : Int} (h : v x = some z) : Work (.use x) ⟨⟨c, p, v, n⟩ :: fs, ws, s⟩ ⟨⟨c, p, v, n⟩ :: fs, z :: ws, s⟩
 | num {fs : List Fr} {ws : List Int} {s : St} {k : Nat} : Work (.num k) ⟨fs, ws, s⟩ ⟨fs, (k : Int) :: ws, s⟩
 | get {fs : List Fr} {ws : List Int} {s : St} : Work .get ⟨fs, ws, s⟩ ⟨fs, g s.got :: ws, { s with evs := s.evs ++ [.get (g s.got)], got := s.got + 1 }⟩
 | one {fs : List Fr} {ws : List Int} {s : St} {op : Nat} {a z : Int} (h : unR op a s = .ok z s) : Work (.one op) ⟨fs, a :: ws, s⟩ ⟨fs, z :: ws, s⟩
 | two {fs : List Fr} {ws : List Int} {s : St} {op : Nat} {a b z : Int} (h : opBin op a b s = .ok z s) : Work (.two op) ⟨fs, b :: a :: ws, s⟩ ⟨fs, z :: ws, s⟩
 | call {m m' : MS} {f : Bytes} {k : Nat} (h : Beg tab f m m') : Work (.call f k) m m'
 | forget {fs : List Fr} {ws : List Int} {s : St} {z : Int} : Work .forget ⟨fs, z :: ws, s⟩ ⟨fs, ws, s⟩
 | put {fs : List Fr} {ws : List Int} {s : St} {z : Int} : Work .put ⟨fs, z :: ws, s⟩ ⟨fs, ws, { s with evs := s.evs ++ [.put z] }⟩
 | ret {f : Fr} {fs : List Fr} {ws : List Int} {s : St} : Work .ret ⟨f :: fs, ws, s⟩ ⟨fs, ws, s⟩
 | unless0 {c : List Mn} {p n q : Nat} {v : Vs} {fs : List Fr} {ws : List Int} {s : St} : Work (.unless q) ⟨⟨c, p, v, n⟩ :: fs, 0 :: ws, s⟩ ⟨⟨c, q, v, n⟩ :: fs, ws, s⟩
 | unless1 {fs : List Fr} {ws : List Int} {s : St} {q : Nat} {z : Int} (h : z ≠ 0) : Work (.unless q) ⟨fs, z :: ws, s⟩ ⟨fs, ws, s⟩
 | go {c : List Mn} {p n q : Nat} {v : Vs} {fs : List Fr} {ws : List Int} {s : St} : Work (.go q) ⟨⟨c, p, v, n⟩ :: fs, ws, s⟩ ⟨⟨c, q, v, n⟩ :: fs, ws, s⟩
inductive Stop : Mn -> MS -> Int -> Prop
 | step {fs : List Fr} {ws : List Int} {s : St} (h : s.left = 0) : Stop .step ⟨fs, ws, s⟩ (-62)
 | one {fs : List Fr} {ws : List Int} {s : St} {op : Nat} {a c : Int} (h : unR op a s = .halt_ c s) : Stop (.one op) ⟨fs, a :: ws, s⟩ c
 | two {fs : List Fr} {ws : List Int} {s : St} {op : Nat} {a b c : Int} (h : opBin op a b s = .halt_ c s) : Stop (.two op) ⟨fs, b :: a :: ws, s⟩ c
 | call {fs : List Fr} {ws : List Int} {s : St} {f : Bytes} {k : Nat} (h : fs.length = 64) : Stop (.call f k) ⟨fs, ws, s⟩ (-40)
inductive Ends : Nat -> MS -> Res -> Prop
 | fin {z : Int} {ws : List Int} {s : St} : Ends 0 ⟨[], z :: ws, s⟩ (.ok z s.evs)
 | stop {code : List Mn} {p n : Nat} {v : Vs} {fs : List Fr} {ws : List Int} {s : St} {o : Mn} {c : Int} (h : code[p]? = some o) (hs : Stop o ⟨⟨code, p + 1, v, n⟩ :: fs, ws, s⟩ c) : Ends 0 ⟨⟨code, p, v, n⟩ :: fs, ws, s⟩ (.halt c s.evs)
 | go {code : List Mn} {p n k : Nat} {v : Vs} {fs : List Fr} {ws : List Int} {s : St} {o : Mn} {m : MS} {r : Res} (h : code[p]? = some o) (hw : Work tab g o ⟨⟨code, p + 1, v, n⟩ :: fs, ws, s⟩ m)
   (h1 : ws.length <= 1000000) (h2 : n <= 1000000) (hk : Ends k m r) : Ends (k + 1) ⟨⟨code, p, v, n⟩ :: fs, ws, s⟩ r
def Ex (m : MS) (r : Res) : Prop := ∃ k, Ends tab g k m r
def Starts (F : List Fr) (f : Bytes) (ws : List Int) (s : St) (r : Res) : Prop := (F.length = 64 /\ r = .halt (-40) s.evs) ∨ ∃ m, Beg tab f ⟨F, ws, s⟩ m /\ Ex tab g m r
end
def Go {α : Type} (r : R α) (A : α -> St -> Res -> Prop) (B : Res -> Prop) : Prop := match r with
 | .ok a s => ∀ q, A a s q -> B q
 | .halt_ c s => B (.halt c s.evs)
 | .more _ => True
theorem Go.then_ {α β : Type} {r : R α} {k : α -> St -> R β} {A : α -> St -> Res -> Prop} {A' : β -> St -> Res -> Prop} {B : Res -> Prop} (h : Go r A B) (hk : ∀ a s, r = .ok a s -> Go (k a s) A' (A a s)) : Go (r.then_ k) A' B := by
 cases r with
 | ok a s =>
  have z := hk a s rfl
  show Go (k a s) A' B
  cases e : k a s with
  | ok b t => rw [e] at z; exact fun q hq => h q (z q hq)
  | halt_ c t => rw [e] at z; exact h _ z
  | more t => trivial
 | halt_ c s => exact h
 | more s => trivial
theorem Go.pre {α : Type} {r : R α} {A : α -> St -> Res -> Prop} {B B' : Res -> Prop} (h : Go r A B) (hb : ∀ q, B q -> B' q) : Go r A B' := by
 cases r with
 | ok a s => exact fun q hq => hb q (h q hq)
 | halt_ c s => exact hb _ h
 | more s => trivial
def Sits (code : List Mn) (p : Nat) (xs : List Mn) : Prop := ∃ post, code.drop p = xs ++ post
theorem Sits.left {code : List Mn} {p : Nat} {a b : List Mn} (h : Sits code p (a ++ b)) : Sits code p a := by
 obtain ⟨t, e⟩ := h
 exact ⟨b ++ t, by rw [e, List.append_assoc]⟩
theorem Sits.right {code : List Mn} {p : Nat} {a b : List Mn} (h : Sits code p (a ++ b)) : Sits code (p + a.length) b := by
 obtain ⟨t, e⟩ := h
 refine ⟨t, ?_⟩
 rw [<- List.drop_drop, e, List.append_assoc, List.drop_left']
 rfl
theorem Sits.head {code : List Mn} {p : Nat} {o : Mn} {b : List Mn} (h : Sits code p (o :: b)) : code[p]? = some o := by
 obtain ⟨t, e⟩ := h
 have z := congrArg (fun l => l[0]?) e
 simpa using z
theorem Sits.tail {code : List Mn} {p : Nat} {o : Mn} {b : List Mn} (h : Sits code p (o :: b)) : Sits code (p + 1) b := Sits.right (a := [o]) h
theorem Sits.zero (code : List Mn) : Sits code 0 code := ⟨[], by simp⟩
def Agree (v : Env) (vars : Vs) : Prop := ∀ x, x ∈ names v -> vars x = some (look v x)
theorem setv_same {v : Vs} {x : Bytes} {a : Int} : setv v x a x = some a := by unfold setv; rw [if_pos rfl]
theorem setv_ne {v : Vs} {x y : Bytes} {a : Int} (h : y ≠ x) : setv v x a y = v y := by unfold setv; rw [if_neg h]
theorem Agree.let_ {v : Env} {vars : Vs} {y : Bytes} {z : Int} (h : Agree v vars) (hy : y ∉ names v) : Agree (v ++ [(y, z)]) (setv vars y z) := by
 intro x hx
 by_cases e : x = y
 ·subst e; rw [setv_same, look_let_same hy]
 ·rw [setv_ne e, look_let_other e]
  refine h x ?_
  rw [names_append, List.mem_append] at hx
  rcases hx with hx | hx
  ·exact hx
  ·exact absurd (by simpa [names] using hx) e
theorem Agree.set {v : Env} {vars : Vs} {y : Bytes} {z : Int} (h : Agree v vars) (hy : y ∈ names v) : Agree (put v y z) (setv vars y z) := by
 intro x hx
 rw [names_put] at hx
 by_cases e : x = y
 ·subst e; rw [setv_same, look_put_same hy]
 ·rw [setv_ne e, look_put_other e]
  exact h x hx
theorem Agree.take {v : Env} {vars : Vs} (h : Agree v vars) (k : Nat) : Agree (v.take k) vars := fun x hx => by
 rw [look_take hx]
 refine h x ?_
 rw [names_take] at hx
 exact List.mem_of_mem_take hx
theorem Agree.bind : ∀ {ps : List Bytes} {as : List Int}, ps.length = as.length -> Agree (ps.zip as) (bindP ps as)
 | [], as, h => fun x hx => by simp [names] at hx
 | p :: ps, [], h => by simp at h
 | p :: ps, a :: as, h => by
  intro x hx
  show setv (bindP ps as) p a x = some (look ((p, a) :: ps.zip as) x)
  rw [yU]
  by_cases e : p = x
  ·subst e; rw [setv_same, if_pos rfl]
  ·have e' : x ≠ p := fun z => e z.symm
   rw [setv_ne e', if_neg e]
   refine Agree.bind (by simpa using h) x ?_
   have : x ∈ p :: names (ps.zip as) := hx
   rcases List.mem_cons.mp this with z | z
   ·exact absurd z e'
   ·exact z
theorem list_le_sz : ∀ (l : Es), l.list.length <= szEs l
 | .nil => by simp [Es.list, szEs]
 | .cons e l => by
  have := list_le_sz l
  simp only [Es.list, szEs, List.length_cons]
  omega
def Bd {α : Type} (W L B : Nat) : R α -> Prop
 | .ok _ s => s.left <= L /\ s.evs.length + W * s.left <= B
 | .halt_ _ s => s.evs.length <= B
 | .more _ => True
theorem Bd.then_ {α β : Type} {W L B B' : Nat} {r : R α} {k : α -> St -> R β} (h : Bd W L B r) (hb : B <= B') (hk : ∀ a s, s.left <= L -> s.evs.length + W * s.left <= B -> Bd W L B' (k a s)) : Bd W L B' (r.then_ k) := by
 cases r with
 | ok a s => exact hk a s h.1 h.2
 | halt_ c s => exact Nat.le_trans h hb
 | more s => trivial
theorem Bd.mono {α : Type} {W L L' B B' : Nat} {r : R α} (h : Bd W L B r) (hl : L <= L') (hb : B <= B') : Bd W L' B' r := by
 cases r with
 | ok a s => exact ⟨Nat.le_trans h.1 hl, Nat.le_trans h.2 hb⟩
 | halt_ c s => exact Nat.le_trans h hb
 | more s => trivial
theorem bd_val {W L B : Nat} {z : Int} {s : St} (hl : s.left <= L) (h : s.evs.length + W * s.left <= B) : Bd W L B (val z s) := by
 unfold val
 split
 ·exact ⟨hl, h⟩
 ·exact Nat.le_trans (Nat.le_add_right _ _) h
theorem bd_op {W L B op : Nat} {a b : Int} {s : St} (hl : s.left <= L) (h : s.evs.length + W * s.left <= B) : Bd W L B (opBin op a b s) := by
 have h' : s.evs.length <= B := Nat.le_trans (Nat.le_add_right _ _) h
 unfold opBin
 repeat (first | exact bd_val hl h | exact ⟨hl, h⟩ | exact h' | split)
structure BdAt (x : Ctx) (W n : Nat) : Prop where
 e : ∀ d v e s B, s.evs.length + szE e + W * s.left <= B -> Bd W s.left B (evE x n d v e s)
 es : ∀ d v l s B, s.evs.length + szEs l + W * s.left <= B -> Bd W s.left B (evEs x n d v l s)
 c : ∀ d f as s B, s.evs.length + W * s.left <= B -> Bd W s.left B (callF x n d f as s)
 ss : ∀ d v l s B, szSs l <= W -> s.evs.length + W * s.left <= B -> Bd W s.left B (exSs x n d v l s)
 s : ∀ d v a s B, szS a <= W -> s.evs.length + W * s.left <= B -> Bd W s.left B (exS x n d v a s)
theorem bdAt {x : Ctx} {W : Nat} (hlim : x.lim = true) (hW : ∀ f y, fnOf x.fns f = some y -> szSs y.body <= W) : ∀ n, BdAt x W n
 | 0 => by
  refine ⟨?_, ?_, ?_, ?_, ?_⟩
  ·intro d v e s B h; simp only [evE]; trivial
  ·intro d v l s B h; simp only [evEs]; trivial
  ·intro d f as s B h; simp only [callF]; trivial
  ·intro d v l s B hz h; simp only [exSs]; trivial
  ·intro d v a s B hz h; simp only [exS]; trivial
 | n + 1 => by
  have ih := bdAt hlim hW n
  refine ⟨?_, ?_, ?_, ?_, ?_⟩
  ·intro d v e s B h
   cases e with
   | num i k => simp only [evE]; exact ⟨Nat.le_refl _, by omega⟩
   | var i y => simp only [evE]; exact ⟨Nat.le_refl _, by omega⟩
   | get i =>
    simp only [evE, szE] at *
    refine ⟨Nat.le_refl _, ?_⟩
    simp only [List.length_append, List.length_cons, List.length_nil]
    omega
   | un i j op e =>
    simp only [szE] at h
    simp only [evE]
    refine (ih.e d v e s (B - 1) (by omega)).then_ (by omega) fun a s1 h1 h2 => ?_
    split
    ·exact ⟨h1, by omega⟩
    ·exact bd_val h1 (by omega)
   | bin i j op a b =>
    simp only [szE] at h
    simp only [evE]
    refine (ih.e d v a s (B - szE b) (by omega)).then_ (by omega) fun a1 s1 h1 h2 => ?_
    refine ((ih.e d v b s1 B (by omega)).mono h1 (Nat.le_refl _)).then_ (by omega) fun b1 s2 h3 h4 => bd_op h3 h4
   | par i j e =>
    simp only [szE] at h
    simp only [evE]
    exact ih.e d v e s B (by omega)
   | call i j f l =>
    simp only [szE] at h
    simp only [evE]
    refine (ih.es d v l s B (by omega)).then_ (by omega) fun as s1 h1 h2 => ?_
    exact (ih.c d f as s1 B (by omega)).mono h1 (Nat.le_refl _)
  ·intro d v l s B h
   cases l with
   | nil => simp only [evEs]; exact ⟨Nat.le_refl _, by omega⟩
   | cons e m =>
    simp only [szEs] at h
    simp only [evEs]
    refine (ih.e d v e s (B - szEs m) (by omega)).then_ (by omega) fun a s1 h1 h2 => ?_
    refine ((ih.es d v m s1 B (by omega)).mono h1 (Nat.le_refl _)).then_ (by omega) fun as s2 h3 h4 => ⟨h3, h4⟩
  ·intro d f as s B h
   simp only [callF]
   split
   ·show s.evs.length <= B; omega
   ·cases hf : fnOf x.fns f with
    | none => show s.evs.length <= B; omega
    | some y => exact (ih.ss (d + 1) _ y.body s B (hW f y hf) h).then_ (by omega) fun r s1 h1 h2 => ⟨h1, h2⟩
  ·intro d v l s B hz h
   cases l with
   | nil => simp only [exSs]; exact ⟨Nat.le_refl _, h⟩
   | cons a m =>
    simp only [szSs] at hz
    simp only [exSs]
    refine (ih.s d v a s B (by omega) h).then_ (by omega) fun r s1 h1 h2 => ?_
    split
    ·exact ⟨h1, h2⟩
    ·exact (ih.ss d r.1 m s1 B (by omega) h2).mono h1 (Nat.le_refl _)
  ·intro d v a s B hz h
   rw [exS]
   split
   ·show s.evs.length <= B; omega
   ·rename_i hc
    have hl : 1 <= s.left := by
     rcases Nat.eq_zero_or_pos s.left with z | z
     ·exact absurd ⟨hlim, z⟩ hc
     ·exact z
    have e1 : W * s.left = W * (s.left - 1) + W := by
     have : s.left = (s.left - 1) + 1 := by omega
     rw [this, Nat.mul_add, Nat.mul_one]; rfl
    have up : ∀ {α : Type} {r : R α}, Bd W (s.left - 1) B r -> Bd W s.left B r := fun h => h.mono (by omega) (Nat.le_refl _)
    refine up ?_
    dsimp only
    have E : ∀ e, 1 + szE e <= W -> Bd W (s.left - 1) (B - 1) (evE x n d v e { s with left := s.left - 1 }) := fun e he => ih.e d v e { s with left := s.left - 1 } (B - 1) (by show s.evs.length + szE e + W * (s.left - 1) <= _; omega)
    cases a with
    | let_ i j y e =>
     simp only [szS] at hz
     exact (E e hz).then_ (by omega) fun z s1 h1 h2 => ⟨h1, by omega⟩
    | set i j y e =>
     simp only [szS] at hz
     exact (E e hz).then_ (by omega) fun z s1 h1 h2 => ⟨h1, by omega⟩
    | if_ i j c a b =>
     simp only [szS] at hz
     refine (E c (by omega)).then_ (by omega) fun z s1 h1 h2 => ?_
     refine ((ih.ss d v (if z = 0 then b else a) s1 B ?_ (by omega)).mono h1 (Nat.le_refl _)).then_ (by omega) fun r s2 h3 h4 => ⟨h3, h4⟩
     split <;> omega
    | while_ i j c a =>
     have hz' := hz
     simp only [szS] at hz
     refine (E c (by omega)).then_ (by omega) fun z s1 h1 h2 => ?_
     split
     ·exact ⟨h1, by omega⟩
     ·refine ((ih.ss d v a s1 B (by omega) (by omega)).mono h1 (Nat.le_refl _)).then_ (by omega) fun r s2 h3 h4 => ?_
      split
      ·exact ⟨h3, h4⟩
      ·exact (ih.s d (r.1.take v.length) (.while_ i j c a) s2 B hz' h4).mono h3 (Nat.le_refl _)
    | ret i j e =>
     simp only [szS] at hz
     exact (E e hz).then_ (by omega) fun z s1 h1 h2 => ⟨h1, by omega⟩
    | put i j e =>
     simp only [szS] at hz
     refine (E e hz).then_ (by omega) fun z s1 h1 h2 => ⟨h1, ?_⟩
     simp only [List.length_append, List.length_cons, List.length_nil]
     omega
    | call i j f l =>
     simp only [szS] at hz
     refine (ih.es d v l { s with left := s.left - 1 } B (by show s.evs.length + szEs l + W * (s.left - 1) <= B; omega)).then_ (by omega) fun as s1 h1 h2 => ?_
     exact ((ih.c d f as s1 B h2).mono h1 (Nat.le_refl _)).then_ (by omega) fun z s2 h3 h4 => ⟨h3, h4⟩
theorem Bd.left {α : Type} {W L B : Nat} {r : R α} {a : α} {s : St} (h : Bd W L B r) (e : r = .ok a s) : s.left <= L := by subst e; exact h.1
end SM
end
section
set_option Elab.async false
set_option linter.all false
namespace SM
open Kp110
section
variable {tab : Tab} {g : Nat -> Int}
theorem yE {code : List Mn} {p n : Nat} {v : Vs} {fs : List Fr} {ws : List Int} {s : St} {o : Mn} {m : MS} {r : Res} (h : code[p]? = some o) (h1 : ws.length <= 1000000) (h2 : n <= 1000000) (hw : Work tab g o ⟨⟨code, p + 1, v, n⟩ :: fs, ws, s⟩ m)
  (hk : Ex tab g m r) : Ex tab g ⟨⟨code, p, v, n⟩ :: fs, ws, s⟩ r := by
 obtain ⟨k, hk⟩ := hk
 exact ⟨k + 1, .go h hw h1 h2 hk⟩
theorem ex_stop {code : List Mn} {p n : Nat} {v : Vs} {fs : List Fr} {ws : List Int} {s : St} {o : Mn} {c : Int} (h : code[p]? = some o) (hs : Stop o ⟨⟨code, p + 1, v, n⟩ :: fs, ws, s⟩ c) : Ex tab g ⟨⟨code, p, v, n⟩ :: fs, ws, s⟩ (.halt c s.evs) := ⟨0, .stop h hs⟩
theorem val_st {z a : Int} {s t : St} (h : val z s = .ok a t) : t = s := by
 unfold val at h
 split at h
 ·cases h; rfl
 ·exact nomatch h
theorem val_sth {z c : Int} {s t : St} (h : val z s = .halt_ c t) : t = s := by
 unfold val at h
 split at h
 ·exact nomatch h
 ·cases h; rfl
theorem unR_st {op : Nat} {a z : Int} {s t : St} (h : unR op a s = .ok z t) : t = s := by
 unfold unR at h
 split at h
 ·cases h; rfl
 ·exact val_st h
theorem unR_sth {op : Nat} {a z : Int} {s t : St} (h : unR op a s = .halt_ z t) : t = s := by
 unfold unR at h
 split at h
 ·exact nomatch h
 ·exact val_sth h
theorem opBin_st {op : Nat} {a b z : Int} {s t : St} (h : opBin op a b s = .ok z t) : t = s := by
 unfold opBin at h
 repeat (first | exact val_st h | (cases h <;> rfl) | split at h)
theorem opBin_sth {op : Nat} {a b z : Int} {s t : St} (h : opBin op a b s = .halt_ z t) : t = s := by
 unfold opBin at h
 repeat (first | exact val_sth h | (cases h <;> rfl) | split at h)
theorem opBin_more {op : Nat} {a b : Int} {s t : St} (h : opBin op a b s = .more t) : False := by
 unfold opBin val at h
 repeat (first | (cases h <;> rfl) | split at h)
theorem unR_more {op : Nat} {a : Int} {s t : St} (h : unR op a s = .more t) : False := by
 unfold unR val at h
 repeat (first | (cases h <;> rfl) | split at h)
theorem go_two {code : List Mn} {p n op : Nat} {v : Vs} {fs : List Fr} {ws : List Int} {s : St} {a b : Int} (h : code[p]? = some (.two op)) (h1 : ws.length + 2 <= 1000000) (h2 : n <= 1000000) :
  Go (opBin op a b s) (fun z s' => Ex tab g ⟨⟨code, p + 1, v, n⟩ :: fs, z :: ws, s'⟩) (Ex tab g ⟨⟨code, p, v, n⟩ :: fs, b :: a :: ws, s⟩) := by
 cases e : opBin op a b s with
 | ok z t =>
  have := opBin_st e; subst this
  exact fun q hq => yE h h1 h2 (.two e) hq
 | halt_ c t =>
  have := opBin_sth e; subst this
  exact ex_stop h (.two e)
 | more t => exact (opBin_more e).elim
theorem go_one {code : List Mn} {p n op : Nat} {v : Vs} {fs : List Fr} {ws : List Int} {s : St} {a : Int} (h : code[p]? = some (.one op)) (h1 : ws.length + 1 <= 1000000) (h2 : n <= 1000000) :
  Go (unR op a s) (fun z s' => Ex tab g ⟨⟨code, p + 1, v, n⟩ :: fs, z :: ws, s'⟩) (Ex tab g ⟨⟨code, p, v, n⟩ :: fs, a :: ws, s⟩) := by
 cases e : unR op a s with
 | ok z t =>
  have := unR_st e; subst this
  exact fun q hq => yE h h1 h2 (.one e) hq
 | halt_ c t =>
  have := unR_sth e; subst this
  exact ex_stop h (.one e)
 | more t => exact (unR_more e).elim
theorem ex_call {code : List Mn} {p n k : Nat} {v : Vs} {fs : List Fr} {ws : List Int} {s : St} {f : Bytes} {q : Res} (h : code[p]? = some (.call f k)) (h1 : ws.length <= 1000000) (h2 : n <= 1000000)
  (hs : Starts tab g (⟨code, p + 1, v, n⟩ :: fs) f ws s q) : Ex tab g ⟨⟨code, p, v, n⟩ :: fs, ws, s⟩ q := by
 rcases hs with ⟨hl, rfl⟩ | ⟨m, hb, hm⟩
 ·exact ex_stop h (.call hl)
 ·exact yE h h1 h2 (.call hb) hm
end
def Aft (tab : Tab) (g : Nat -> Int) (code : List Mn) (p : Nat) (fs : List Fr) (ws : List Int) (r : Env × Option Int) (s : St) (q : Res) : Prop := match r.2 with
 | some z => Ex tab g ⟨fs, z :: ws, s⟩ q
 | none => ∀ vars nv, Agree r.1 vars -> nv + s.left <= 100000 -> Ex tab g ⟨⟨code, p, vars, nv⟩ :: fs, ws, s⟩ q
theorem Aft.same {tab : Tab} {g : Nat -> Int} {code : List Mn} {p k : Nat} {fs : List Fr} {ws : List Int} {v : Env} {z : Option Int} {s : St} {q : Res} (h : Aft tab g code p fs ws (v.take k, z) s q) : Aft tab g code p fs ws (v, z) s q := by
 cases z with
 | some z => exact h
 | none => exact fun vars nv ha hn => h vars nv (ha.take k) hn
section
variable (x : Ctx) (tab : Tab) (W : Nat)
structure SimAt (n : Nat) : Prop where
 e : ∀ {d : Nat} {v : Env} {e : E} {s : St} {code : List Mn} {p : Nat} {vars : Vs} {nv : Nat} {fs : List Fr} {ws : List Int}, okE x.fns (names v) e = true -> Sits code p (cE e) -> Agree v vars -> d = fs.length + 1 -> d <= 64 -> ws.length + szE e <= W * d -> szE e <= W -> nv <= 1000000 -> s.left <= 1000 ->
  Go (evE x n d v e s) (fun z s' => Ex tab x.g ⟨⟨code, p + (cE e).length, vars, nv⟩ :: fs, z :: ws, s'⟩) (Ex tab x.g ⟨⟨code, p, vars, nv⟩ :: fs, ws, s⟩)
 es : ∀ {d : Nat} {v : Env} {l : Es} {s : St} {code : List Mn} {p : Nat} {vars : Vs} {nv : Nat} {fs : List Fr} {ws : List Int}, okEs x.fns (names v) l = true -> Sits code p (cEs l) -> Agree v vars -> d = fs.length + 1 -> d <= 64 -> ws.length + szEs l <= W * d -> szEs l <= W -> nv <= 1000000 -> s.left <= 1000 ->
  Go (evEs x n d v l s) (fun as s' => Ex tab x.g ⟨⟨code, p + (cEs l).length, vars, nv⟩ :: fs, as.reverse ++ ws, s'⟩) (Ex tab x.g ⟨⟨code, p, vars, nv⟩ :: fs, ws, s⟩)
 c : ∀ {d : Nat} {f : Bytes} {as : List Int} {s : St} {F : List Fr} {ws : List Int} {y : Fn}, fnOf x.fns f = some y -> y.params.length = as.length -> as.length <= W -> d = F.length -> d <= 64 -> ws.length <= W * d -> s.left <= 1000 ->
  Go (callF x n d f as s) (fun z s' => Ex tab x.g ⟨F, z :: ws, s'⟩) (Starts tab x.g F f (as.reverse ++ ws) s)
 ss : ∀ {d : Nat} {v : Env} {a : Ss} {s : St} {code : List Mn} {p : Nat} {A : List Mn} {vars : Vs} {nv : Nat} {fs : List Fr} {ws : List Int}, okSs x.fns (names v) a = true -> CSs p a A -> Sits code p A -> Agree v vars -> d = fs.length + 1 -> d <= 64 -> ws.length + szSs a <= W * d -> szSs a <= W ->
  nv + s.left <= 100000 -> s.left <= 1000 -> Go (exSs x n d v a s) (Aft tab x.g code (p + A.length) fs ws) (Ex tab x.g ⟨⟨code, p, vars, nv⟩ :: fs, ws, s⟩)
 s : ∀ {d : Nat} {v : Env} {a : S} {s : St} {code : List Mn} {p : Nat} {A : List Mn} {vars : Vs} {nv : Nat} {fs : List Fr} {ws : List Int}, okS x.fns (names v) a = true -> CS p a A -> Sits code p A -> Agree v vars -> d = fs.length + 1 -> d <= 64 -> ws.length + szS a <= W * d -> szS a <= W ->
  nv + s.left <= 100000 -> s.left <= 1000 -> Go (exS x n d v a s) (Aft tab x.g code (p + A.length) fs ws) (Ex tab x.g ⟨⟨code, p, vars, nv⟩ :: fs, ws, s⟩)
end
section
variable {x : Ctx} {tab : Tab} {W : Nat}
theorem wd_le {W d a b : Nat} (hW : W <= 10000) (hd : d <= 64) (h : a + b <= W * d) : a + b <= 640000 := by
 have : W * d <= 10000 * 64 := Nat.mul_le_mul hW hd
 omega
theorem simAt (hlim : x.lim = true) (hT : ∀ f y, fnOf x.fns f = some y -> ∃ code, tab f = some (y.params.map Prod.fst, code) /\ CFn y.body code) (hS : ∀ f y, fnOf x.fns f = some y -> szSs y.body <= W)
  (hR : ∀ f y, fnOf x.fns f = some y -> okSs x.fns (y.params.map Prod.fst) y.body = true) (hW : W <= 10000) : ∀ n, SimAt x tab W n
 | 0 => by
  refine ⟨?_, ?_, ?_, ?_, ?_⟩
  ·intros; simp only [evE]; trivial
  ·intros; simp only [evEs]; trivial
  ·intros; simp only [callF]; trivial
  ·intros; simp only [exSs]; trivial
  ·intros; simp only [exS]; trivial
 | n + 1 => by
  have ih := simAt hlim hT hS hR hW n
  have bd := bdAt hlim hS n
  refine ⟨?_, ?_, ?_, ?_, ?_⟩
  ·intro d v e s code p vars nv fs ws ok st ag hd hd6 hw hz hn hl
   have hws := wd_le hW hd6 hw
   cases e with
   | num i k =>
    simp only [evE]
    exact fun q hq => yE st.head (by omega) hn .num hq
   | var i y =>
    simp only [evE]
    simp only [okE, List.contains_eq_mem, decide_eq_true_eq] at ok
    exact fun q hq => yE st.head (by omega) hn (.use (ag y ok)) hq
   | get i =>
    simp only [evE]
    exact fun q hq => yE st.head (by omega) hn .get hq
   | un i j op e =>
    simp only [szE] at hw hz hws
    simp only [okE] at ok
    rw [cE] at st
    simp only [evE]
    have e1 : p + (cE (.un i j op e)).length = p + (cE e).length + 1 := by rw [cE, List.length_append]; rfl
    rw [e1]
    refine (ih.e ok st.left ag hd hd6 (by omega) (by omega) hn hl).then_ fun a s1 h1 => ?_
    exact go_one st.right.head (by omega) hn
   | bin i j op a b =>
    simp only [szE] at hw hz hws
    simp only [okE, Bool.and_eq_true] at ok
    rw [cE] at st
    simp only [evE]
    have e1 : p + (cE (.bin i j op a b)).length = p + (cE a).length + (cE b).length + 1 := by rw [cE, List.length_append, List.length_append]; simp; omega
    rw [e1]
    refine (ih.e ok.1 st.left ag hd hd6 (by omega) (by omega) hn hl).then_ fun a1 s1 h1 => ?_
    have l1 := (bd.e d v a s _ (Nat.le_refl _)).left h1
    refine (ih.e (ws := a1 :: ws) ok.2 st.right.left ag hd hd6 (by simp only [List.length_cons]; omega) (by omega) hn (by omega)).then_ fun b1 s2 h2 => ?_
    exact go_two st.right.right.head (by omega) hn
   | par i j e =>
    simp only [szE] at hw hz hws
    simp only [okE] at ok
    rw [cE] at st
    simp only [evE]
    rw [cE]
    exact ih.e ok st ag hd hd6 (by omega) (by omega) hn hl
   | call i j f l =>
    simp only [szE] at hw hz hws
    obtain ⟨y, hy, hyl, ok2⟩ := okE_call ok
    rw [cE] at st
    simp only [evE]
    have e1 : p + (cE (.call i j f l)).length = p + (cEs l).length + 1 := by rw [cE, List.length_append]; rfl
    rw [e1]
    have hll := list_le_sz l
    refine (ih.es ok2 st.left ag hd hd6 (by omega) (by omega) hn hl).then_ fun as s1 h1 => ?_
    have l1 := (bd.es d v l s _ (Nat.le_refl _)).left h1
    have e2 := evEs_length h1
    refine (ih.c (F := ⟨code, p + (cEs l).length + 1, vars, nv⟩ :: fs) hy (by omega) (by omega) (by rw [hd]; rfl) hd6 (by omega) (by omega)).pre fun q hq => ?_
    exact ex_call st.right.head (by rw [List.length_append, List.length_reverse]; omega) hn hq
  ·intro d v l s code p vars nv fs ws ok st ag hd hd6 hw hz hn hl
   have hws := wd_le hW hd6 hw
   cases l with
   | nil =>
    simp only [evEs]
    exact fun q hq => hq
   | cons e m =>
    simp only [szEs] at hw hz hws
    simp only [okEs, Bool.and_eq_true] at ok
    rw [cEs] at st
    simp only [evEs]
    have e1 : p + (cEs (.cons e m)).length = p + (cE e).length + (cEs m).length := by rw [cEs, List.length_append]; omega
    rw [e1]
    refine (ih.e ok.1 st.left ag hd hd6 (by omega) (by omega) hn hl).then_ fun a s1 h1 => ?_
    have l1 := (bd.e d v e s _ (Nat.le_refl _)).left h1
    refine (ih.es (ws := a :: ws) ok.2 st.right ag hd hd6 (by simp only [List.length_cons]; omega) (by omega) hn (by omega)).then_ fun as s2 h2 => ?_
    intro q hq
    rw [List.reverse_cons, List.append_assoc] at hq
    exact hq
  ·intro d f as s F ws y hy hyl hal hd hd6 hw hl
   simp only [callF]
   split
   ·rename_i hc
    exact .inl ⟨by omega, rfl⟩
   ·rename_i hc
    have hd' : d < 64 := Nat.lt_of_not_le fun z => hc ⟨hlim, z⟩
    rw [hy]
    dsimp only
    obtain ⟨code, ht, B, ⟨A, hA, rfl⟩, rfl⟩ := hT f y hy
    have hsz := hS f y hy
    have hlen : (y.params.map Prod.fst).length = as.length := by rw [List.length_map, hyl]
    have hwd : W * (d + 1) = W * d + W := by rw [Nat.mul_add, Nat.mul_one]
    have hws := wd_le (b := 0) hW hd6 hw
    have st : Sits (.beg :: (A ++ [.fin]) ++ [.num 0, .ret]) 1 (A ++ ([.fin] ++ [.num 0, .ret])) := by
     have : Sits (.beg :: (A ++ [.fin]) ++ [.num 0, .ret]) 1 ((A ++ [.fin]) ++ [.num 0, .ret]) := (Sits.zero (.beg :: (A ++ [.fin]) ++ [.num 0, .ret])).tail
     rw [List.append_assoc A] at this
     exact this
    have h0 := ih.ss (d := d + 1) (v := (y.params.map Prod.fst).zip as) (s := s) (vars := bindP (y.params.map Prod.fst) as) (nv := (y.params.map Prod.fst).length) (fs := F) (ws := ws) (by rw [names_zip hlen]; exact hR f y hy) hA st.left (.bind hlen) (by omega) (by omega) (by omega) hsz (by omega) hl
    refine Go.then_ (h0.pre fun q hq => .inr ⟨_, .mk ht hlen (by omega), ?_⟩) fun r s1 h1 => ?_
    ·exact yE (Sits.zero (.beg :: (A ++ [.fin]) ++ [.num 0, .ret])).head (by omega) (by omega) .beg hq
    ·intro q hq
     unfold Aft
     cases e : r.2 with
     | some z => rw [e] at hq; exact hq
     | none =>
      rw [e] at hq
      intro vars' nv' _ hn'
      refine yE st.right.head (by omega) (by omega) .fin ?_
      refine yE st.right.tail.head (by omega) (by omega) .num ?_
      exact yE st.right.tail.tail.head (by simp only [List.length_cons]; omega) (by omega) .ret hq
  ·intro d v a s code p A vars nv fs ws ok cs st ag hd hd6 hw hz hn hl
   have hws := wd_le hW hd6 hw
   cases cs with
   | nil =>
    simp only [exSs]
    exact fun q hq => hq vars nv ag hn
   | cons ha hb =>
    rename_i a m A B
    simp only [szSs] at hw hz hws
    obtain ⟨ok1, ok2⟩ := okSs_consR ok
    simp only [exSs]
    refine (ih.s ok1 ha st.left ag hd hd6 (by omega) (by omega) hn hl).then_ fun r s1 h1 => ?_
    have l1 := (bd.s d v a s _ (by omega) (Nat.le_refl _)).left h1
    have e1 : p + (A ++ B).length = p + A.length + B.length := by rw [List.length_append]; omega
    rw [e1]
    cases e : r.2 with
    | some z =>
     intro q hq
     unfold Aft at hq ⊢
     rw [e]
     exact hq
    | none =>
     have enm : names r.1 = scopeS (names v) a := by
      have : r = (r.1, none) := by rw [<- e]
      rw [this] at h1
      exact exS_names h1
     unfold Aft
     rw [e]
     show Go (exSs x n d r.1 m s1) _ _
     have K : ∀ vars' nv', Agree r.1 vars' -> nv' + s1.left <= 100000 -> Go (exSs x n d r.1 m s1) (Aft tab x.g code (p + A.length + B.length) fs ws) (Ex tab x.g ⟨⟨code, p + A.length, vars', nv'⟩ :: fs, ws, s1⟩) := fun vars' nv' ag' hn' =>
      ih.ss (by rw [enm]; exact ok2) hb st.right ag' hd hd6 (by omega) (by omega) hn' (by omega)
     cases e2 : exSs x n d r.1 m s1 with
     | ok r2 s2 =>
      intro q hq vars' nv' ag' hn'
      have z := K vars' nv' ag' hn'
      rw [e2] at z
      exact z q hq
     | halt_ c s2 =>
      intro vars' nv' ag' hn'
      have z := K vars' nv' ag' hn'
      rw [e2] at z
      exact z
     | more s2 => trivial
  ·intro d v a s code p A vars nv fs ws ok cs st ag hd hd6 hw hz hn hl
   have hws := wd_le hW hd6 hw
   have nm6 : nv <= 1000000 := by omega
   rw [exS]
   split
   ·rename_i hc
    have hh : code[p]? = some .step := by cases cs <;> exact st.head
    exact ex_stop hh (.step hc.2)
   ·rename_i hc
    have hl1 : s.left ≠ 0 := fun z => hc ⟨hlim, z⟩
    have E : ∀ e, okE x.fns (names v) e = true -> 1 + szE e <= szS a -> Sits code (p + 1) (cE e) ->
      Go (evE x n d v e { s with left := s.left - 1 }) (fun z s' => Ex tab x.g ⟨⟨code, p + 1 + (cE e).length, vars, nv⟩ :: fs, z :: ws, s'⟩) (Ex tab x.g ⟨⟨code, p + 1, vars, nv⟩ :: fs, ws, { s with left := s.left - 1 }⟩) := fun e he hs hst =>
     ih.e he hst ag hd hd6 (by omega) (by omega) nm6 (by show s.left - 1 <= 1000; omega)
    have L : ∀ {e z s1}, evE x n d v e { s with left := s.left - 1 } = .ok z s1 -> s1.left + 1 <= s.left := fun {e z s1} h => by
     have := (bd.e d v e { s with left := s.left - 1 } _ (Nat.le_refl _)).left h
     have : s1.left <= s.left - 1 := this
     omega
    dsimp only
    have P : ∀ {q}, code[p]? = some .step -> Ex tab x.g ⟨⟨code, p + 1, vars, nv⟩ :: fs, ws, { s with left := s.left - 1 }⟩ q -> Ex tab x.g ⟨⟨code, p, vars, nv⟩ :: fs, ws, s⟩ q := fun {q} h1 h2 => yE h1 (by omega) nm6 (.step hl1) h2
    cases cs with
    | let_ =>
     rename_i i j y e
     simp only [okS, Bool.and_eq_true] at ok
     have st1 := st.tail
     have hy : y ∉ names v := by
      have := ok.1.2
      simp at this
      exact this
     refine ((E e ok.1.1 (by simp only [szS]; omega) st1.left).pre fun q hq => P st.head hq).then_ fun z s1 h1 => ?_
     have := L h1
     intro q hq
     have hq := hq (setv vars y z) (nv + 1) (ag.let_ hy) (by omega)
     have e1 : p + (Mn.step :: (cE e ++ [.let_ y])).length = p + 1 + (cE e).length + 1 := by simp only [List.length_cons, List.length_append, List.length_nil]; omega
     rw [e1] at hq
     exact yE st1.right.head (by simp only [List.length_cons]; omega) nm6 .let_ hq
    | set =>
     rename_i i j y e
     simp only [okS, Bool.and_eq_true] at ok
     have st1 := st.tail
     have hy : y ∈ names v := by
      have := ok.1
      simp at this
      exact this
     refine ((E e ok.2 (by simp only [szS]; omega) st1.left).pre fun q hq => P st.head hq).then_ fun z s1 h1 => ?_
     have := L h1
     intro q hq
     have hq := hq (setv vars y z) (nv + 1) (ag.set hy) (by omega)
     have e1 : p + (Mn.step :: (cE e ++ [.set y])).length = p + 1 + (cE e).length + 1 := by simp only [List.length_cons, List.length_append, List.length_nil]; omega
     rw [e1] at hq
     exact yE st1.right.head (by simp only [List.length_cons]; omega) nm6 .set hq
    | ret =>
     rename_i i j e
     simp only [okS] at ok
     have st1 := st.tail
     refine ((E e ok (by simp only [szS]; omega) st1.left).pre fun q hq => P st.head hq).then_ fun z s1 h1 => ?_
     intro q hq
     exact yE st1.right.head (by simp only [List.length_cons]; omega) nm6 .ret hq
    | put =>
     rename_i i j e
     simp only [okS] at ok
     have st1 := st.tail
     refine ((E e ok (by simp only [szS]; omega) st1.left).pre fun q hq => P st.head hq).then_ fun z s1 h1 => ?_
     have := L h1
     intro q hq
     have hq := hq vars nv ag (by show nv + s1.left <= _; omega)
     have e1 : p + (Mn.step :: (cE e ++ [.put])).length = p + 1 + (cE e).length + 1 := by simp only [List.length_cons, List.length_append, List.length_nil]; omega
     rw [e1] at hq
     exact yE st1.right.head (by simp only [List.length_cons]; omega) nm6 .put hq
    | call =>
     rename_i i j f l
     simp only [szS] at hw hz hws
     obtain ⟨y, hy, hyl, ok2⟩ := okS_call ok
     have st1 := st.tail
     have hll := list_le_sz l
     refine ((ih.es ok2 st1.left ag hd hd6 (by omega) (by omega) nm6 (by show s.left - 1 <= 1000; omega)).pre fun q hq => P st.head hq).then_ fun as s1 h1 => ?_
     have l1 : s1.left <= s.left - 1 := (bd.es d v l { s with left := s.left - 1 } _ (Nat.le_refl _)).left h1
     have e2 := evEs_length h1
     refine ((ih.c (F := ⟨code, p + 1 + (cEs l).length + 1, vars, nv⟩ :: fs) (ws := ws) hy (by omega) (by omega) (by rw [hd]; rfl) hd6 (by omega) (by omega)).pre fun q hq => ?_).then_ fun z s2 h2 => ?_
     ·exact ex_call st1.right.head (by rw [List.length_append, List.length_reverse]; omega) nm6 hq
     ·have l2 := (bd.c d f as s1 _ (Nat.le_refl _)).left h2
      intro q hq
      have hq := hq vars nv ag (by show nv + s2.left <= _; omega)
      have e1 : p + (Mn.step :: (cEs l ++ [.call f l.list.length, .forget])).length = p + 1 + (cEs l).length + 1 + 1 := by simp only [List.length_cons, List.length_append, List.length_nil]; omega
      rw [e1] at hq
      exact yE st1.right.tail.head (by simp only [List.length_cons]; omega) nm6 .forget hq
    | while_ hq0 ha =>
     rename_i i j c a A qq
     simp only [szS] at hw hz hws
     have ok' := ok
     simp only [okS, Bool.and_eq_true] at ok
     have st1 := st.tail
     have st2 := st1.right
     have hlen : p + (Mn.step :: (cE c ++ (.unless qq :: (.beg :: (A ++ [.fin, .go p]))))).length = qq := by simp only [List.length_cons, List.length_append, List.length_nil]; omega
     rw [hlen]
     refine ((E c ok.1 (by simp only [szS]; omega) st1.left).pre fun q hq => P st.head hq).then_ fun z s1 h1 => ?_
     have hL := L h1
     split
     ·rename_i hz0
      subst hz0
      intro q hq
      exact yE st2.head (by simp only [List.length_cons]; omega) nm6 .unless0 (hq vars nv ag (by omega))
     ·rename_i hz0
      have st3 : Sits code (p + (cE c).length + 3) (A ++ [.fin, .go p]) := by
       have := st2.tail.tail
       have e1 : p + 1 + (cE c).length + 1 + 1 = p + (cE c).length + 3 := by omega
       rw [e1] at this
       exact this
      refine ((ih.ss (ws := ws) (nv := nv) ok.2 ha st3.left ag hd hd6 (by omega) (by omega) (by omega) (by omega)).pre fun q hq => ?_).then_ fun r s2 h2 => ?_
      ·refine yE st2.head (by simp only [List.length_cons]; omega) nm6 (.unless1 hz0) ?_
       refine yE st2.tail.head (by omega) nm6 .beg ?_
       have e1 : p + 1 + (cE c).length + 1 + 1 = p + (cE c).length + 3 := by omega
       rw [e1]
       exact hq
      ·have l2 := (bd.ss d v a s1 _ (by omega) (Nat.le_refl _)).left h2
       have enm := exSs_kept h2
       cases e : r.2 with
       | some z =>
        intro q hq
        unfold Aft at hq ⊢
        rw [e]
        exact hq
       | none =>
        unfold Aft
        rw [e]
        show Go (exS x n d (r.1.take v.length) (.while_ i j c a) s2) _ _
        have K : ∀ vars' nv', Agree r.1 vars' -> nv' + s2.left <= 100000 -> Go (exS x n d (r.1.take v.length) (.while_ i j c a) s2) (Aft tab x.g code qq fs ws) (Ex tab x.g ⟨⟨code, p, vars', nv'⟩ :: fs, ws, s2⟩) := fun vars' nv' ag' hn' => by
         have := ih.s (a := .while_ i j c a) (s := s2) (nv := nv') (by rw [enm]; exact ok') (.while_ hq0 ha) st (ag'.take v.length) hd hd6 (by simp only [szS]; omega) (by simp only [szS]; omega) hn' (by omega)
         rw [hlen] at this
         exact this
        have back : ∀ vars' nv' q, nv' + s2.left <= 100000 -> Ex tab x.g ⟨⟨code, p, vars', nv'⟩ :: fs, ws, s2⟩ q -> Ex tab x.g ⟨⟨code, p + (cE c).length + 3 + A.length, vars', nv'⟩ :: fs, ws, s2⟩ q := fun vars' nv' q hn' hq => by
         refine yE st3.right.head (by omega) (by omega) .fin ?_
         exact yE st3.right.tail.head (by omega) (by omega) .go hq
        cases e2 : exS x n d (r.1.take v.length) (.while_ i j c a) s2 with
        | ok r2 s3 =>
         intro q hq vars' nv' ag' hn'
         have z := K vars' nv' ag' hn'
         rw [e2] at z
         exact back vars' nv' q hn' (z q hq)
        | halt_ c s3 =>
         intro vars' nv' ag' hn'
         have z := K vars' nv' ag' hn'
         rw [e2] at z
         exact back vars' nv' _ hn' z
        | more s3 => trivial
    | if_ hq0 ha =>
     rename_i i j c a A qq
     simp only [szS] at hw hz hws
     simp only [okS, Bool.and_eq_true] at ok
     have st1 := st.tail
     have st2 := st1.right
     have hlen : p + (Mn.step :: (cE c ++ (.unless qq :: (.beg :: (A ++ [.fin]))))).length = qq := by simp only [List.length_cons, List.length_append, List.length_nil]; omega
     rw [hlen]
     refine ((E c ok.1.1 (by simp only [szS]; omega) st1.left).pre fun q hq => P st.head hq).then_ fun z s1 h1 => ?_
     have hL := L h1
     by_cases hz0 : z = 0
     ·subst hz0
      rw [if_pos rfl]
      have e0 : exSs x n d v .nil s1 = .ok (v, none) s1 ∨ exSs x n d v .nil s1 = .more s1 := by
       cases n with
       | zero => right; simp only [exSs]
       | succ n => left; simp only [exSs]
      rcases e0 with e0 | e0
      ·rw [e0]
       intro q hq
       have hq : Aft tab x.g code qq fs ws (v.take v.length, none) s1 q := hq
       refine yE st2.head (by simp only [List.length_cons]; omega) nm6 .unless0 ?_
       rw [List.take_length] at hq
       exact hq vars nv ag (by omega)
      ·rw [e0]; trivial
     ·rw [if_neg hz0]
      have st3 : Sits code (p + (cE c).length + 3) (A ++ [.fin]) := by
       have := st2.tail.tail
       have e1 : p + 1 + (cE c).length + 1 + 1 = p + (cE c).length + 3 := by omega
       rw [e1] at this
       exact this
      refine ((ih.ss (ws := ws) (nv := nv) ok.1.2 ha st3.left ag hd hd6 (by omega) (by omega) (by omega) (by omega)).pre fun q hq => ?_).then_ fun r s2 h2 => ?_
      ·refine yE st2.head (by simp only [List.length_cons]; omega) nm6 (.unless1 hz0) ?_
       refine yE st2.tail.head (by omega) nm6 .beg ?_
       have e1 : p + 1 + (cE c).length + 1 + 1 = p + (cE c).length + 3 := by omega
       rw [e1]
       exact hq
      ·intro q hq
       have hq := hq.same
       unfold Aft at hq ⊢
       cases e : r.2 with
       | some z => rw [e] at hq; exact hq
       | none =>
        rw [e] at hq
        intro vars' nv' ag' hn'
        refine yE st3.right.head (by omega) (by omega) .fin ?_
        have e1 : p + (cE c).length + 3 + A.length + 1 = qq := by omega
        rw [e1]
        exact hq vars' nv' ag' hn'
    | ife hq0 hr0 ha hb =>
     rename_i i j c a b A B qq rr
     simp only [szS] at hw hz hws
     simp only [okS, Bool.and_eq_true] at ok
     have st1 := st.tail
     have st2 := st1.right
     have hlen : p + (Mn.step :: (cE c ++ (.unless qq :: (.beg :: (A ++ (.fin :: (.go rr :: (.beg :: (B ++ [.fin]))))))))).length = rr := by simp only [List.length_cons, List.length_append, List.length_nil]; omega
     rw [hlen]
     have st3 : Sits code (p + (cE c).length + 3) (A ++ (.fin :: (.go rr :: (.beg :: (B ++ [.fin]))))) := by
      have := st2.tail.tail
      have e1 : p + 1 + (cE c).length + 1 + 1 = p + (cE c).length + 3 := by omega
      rw [e1] at this
      exact this
     have st4 : Sits code qq (.beg :: (B ++ [.fin])) := by
      have := st3.right.tail.tail
      have e1 : p + (cE c).length + 3 + A.length + 1 + 1 = qq := by omega
      rw [e1] at this
      exact this
     have st5 : Sits code (p + (cE c).length + A.length + 6) (B ++ [.fin]) := by
      have := st4.tail
      have e1 : qq + 1 = p + (cE c).length + A.length + 6 := by omega
      rw [e1] at this
      exact this
     refine ((E c ok.1.1 (by simp only [szS]; omega) st1.left).pre fun q hq => P st.head hq).then_ fun z s1 h1 => ?_
     have hL := L h1
     by_cases hz0 : z = 0
     ·subst hz0
      rw [if_pos rfl]
      refine ((ih.ss (ws := ws) (nv := nv) ok.2 hb st5.left ag hd hd6 (by omega) (by omega) (by omega) (by omega)).pre fun q hq => ?_).then_ fun r s2 h2 => ?_
      ·refine yE st2.head (by simp only [List.length_cons]; omega) nm6 .unless0 ?_
       refine yE st4.head (by omega) nm6 .beg ?_
       have e1 : qq + 1 = p + (cE c).length + A.length + 6 := by omega
       rw [e1]
       exact hq
      ·intro q hq
       have hq := hq.same
       unfold Aft at hq ⊢
       cases e : r.2 with
       | some z => rw [e] at hq; exact hq
       | none =>
        rw [e] at hq
        intro vars' nv' ag' hn'
        refine yE st5.right.head (by omega) (by omega) .fin ?_
        have e1 : p + (cE c).length + A.length + 6 + B.length + 1 = rr := by omega
        rw [e1]
        exact hq vars' nv' ag' hn'
     ·rw [if_neg hz0]
      refine ((ih.ss (ws := ws) (nv := nv) ok.1.2 ha st3.left ag hd hd6 (by omega) (by omega) (by omega) (by omega)).pre fun q hq => ?_).then_ fun r s2 h2 => ?_
      ·refine yE st2.head (by simp only [List.length_cons]; omega) nm6 (.unless1 hz0) ?_
       refine yE st2.tail.head (by omega) nm6 .beg ?_
       have e1 : p + 1 + (cE c).length + 1 + 1 = p + (cE c).length + 3 := by omega
       rw [e1]
       exact hq
      ·intro q hq
       have hq := hq.same
       unfold Aft at hq ⊢
       cases e : r.2 with
       | some z => rw [e] at hq; exact hq
       | none =>
        rw [e] at hq
        intro vars' nv' ag' hn'
        refine yE st3.right.head (by omega) (by omega) .fin ?_
        exact yE st3.right.tail.head (by omega) (by omega) .go (hq vars' nv' ag' hn')
end
end SM
end
section
set_option Elab.async false
set_option linter.all false
namespace SM
open Kp110
def resOf : R Int -> Res
 | .ok z s => .ok z s.evs
 | .halt_ c s => .halt c s.evs
 | .more s => .halt 0 s.evs
theorem run_sim {l : List Fn} {g : Nat -> Int} {tab : Tab} {W steps N : Nat} (ok : okProg l = true) (hS : ∀ y ∈ l, szSs y.body <= W) (hW : W <= 10000) (hst : steps <= 1000) (hN : 64 * (W + steps) + 1 <= N)
  (hT : ∀ f y, fnOf l f = some y -> ∃ code, tab f = some (y.params.map Prod.fst, code) /\ CFn y.body code) :
  Starts tab g [] main [] ⟨[], 0, steps⟩ (resOf (run l g true steps N)) /\ (resOf (run l g true steps N)).evs.length <= W * steps /\ (∀ s, run l g true steps N ≠ .more s) := by
 have R := right_of ok
 have hS' : ∀ f y, fnOf l f = some y -> szSs y.body <= W := fun f y h => hS y (fnOf_in h).1
 obtain ⟨y, hy, hp⟩ := R.main
 have h1 := (simAt (x := ⟨l, g, true⟩) (tab := tab) (W := W) rfl hT hS' (fun f y h => (R.fns y (fnOf_in h).1).2) hW N).c (d := 0) (f := main) (as := []) (s := ⟨[], 0, steps⟩) (F := []) (ws := []) hy (by rw [hp]; rfl) (Nat.zero_le _) rfl (by omega) (Nat.zero_le _) hst
 have h2 := (bdAt (x := ⟨l, g, true⟩) (W := W) rfl hS' N).c 0 main [] ⟨[], 0, steps⟩ _ (Nat.le_refl _)
 have h3 := run_thru (l := l) (g := g) (steps := steps) (N := N) (M := W) hS' hN
 have e : run l g true steps N = callF ⟨l, g, true⟩ N 0 main [] ⟨[], 0, steps⟩ := rfl
 rw [<- e] at h1 h2
 cases q : run l g true steps N with
 | ok z s =>
  rw [q] at h1 h2
  refine ⟨h1 _ ⟨0, .fin⟩, ?_, fun s' z => nomatch z⟩
  have := h2.2
  simp only [List.length_nil, Nat.zero_add] at this
  show s.evs.length <= _
  omega
 | halt_ c s =>
  rw [q] at h1 h2
  refine ⟨h1, ?_, fun s' z => nomatch z⟩
  have : s.evs.length <= [].length + W * steps := h2
  show s.evs.length <= _
  simpa using this
 | more s => rw [q] at h3; exact h3.elim
theorem Work.evs {tab : Tab} {g : Nat -> Int} {o : Mn} {m m' : MS} (h : Work tab g o m m') : m.st.evs.length <= m'.st.evs.length := by
 cases h with
 | call hb => cases hb; exact Nat.le_refl _
 | get => simp
 | put => simp
 | _ => exact Nat.le_refl _
theorem Ends.evs {tab : Tab} {g : Nat -> Int} : ∀ {k : Nat} {m : MS} {r : Res}, Ends tab g k m r -> m.st.evs.length <= r.evs.length
 | _, _, _, .fin => Nat.le_refl _
 | _, _, _, .stop _ _ => Nat.le_refl _
 | _, _, _, .go _ hw _ _ hk => Nat.le_trans hw.evs hk.evs
def In64 (z : Int) : Prop := -9223372036854775808 <= z /\ z <= 9223372036854775807
theorem val_in {z a : Int} {s t : St} (h : val z s = .ok a t) : In64 a := by
 unfold val at h
 split at h
 ·rename_i q
  cases h
  exact ⟨by omega, by omega⟩
 ·exact nomatch h
theorem bool_in (b : Bool) : In64 (bool b) := by cases b <;> exact ⟨by decide, by decide⟩
theorem unR_in {op : Nat} {a z : Int} {s t : St} (h : unR op a s = .ok z t) : In64 z := by
 unfold unR at h
 split at h
 ·cases h; exact bool_in _
 ·exact val_in h
theorem tmod_in {a b : Int} (hb : In64 b) (h0 : b ≠ 0) : In64 (Int.tmod a b) := by
 obtain ⟨h1, h2⟩ := hb
 have e : (Int.tmod a b).natAbs = a.natAbs % b.natAbs := Int.natAbs_tmod a b
 have : a.natAbs % b.natAbs < b.natAbs := Nat.mod_lt _ (by omega)
 exact ⟨by omega, by omega⟩
theorem opBin_in {op : Nat} {a b z : Int} {s t : St} (hb : In64 b) (h : opBin op a b s = .ok z t) : In64 z := by
 unfold opBin at h
 split at h
 ·exact val_in h
 split at h
 ·exact val_in h
 split at h
 ·exact val_in h
 split at h
 ·cases h; exact bool_in _
 split at h
 ·cases h; exact bool_in _
 split at h
 ·exact nomatch h
 split at h
 ·exact val_in h
 ·rename_i h0 _
  cases h
  exact tmod_in hb h0
def okM : Mn -> Prop
 | .num k => k <= 9223372036854775807
 | .one op => op = 45 ∨ op = 33
 | .two op => op = 43 ∨ op = 45 ∨ op = 42 ∨ op = 47 ∨ op = 37 ∨ op = 60 ∨ op = 61
 | _ => True
def smallC (ns : List Mn) : Prop := ∀ n ∈ ns, okM n
structure Fine (m : MS) : Prop where
 ws : ∀ z ∈ m.ws, In64 z
 vars : ∀ f ∈ m.frs, ∀ x z, f.vars x = some z -> In64 z
 code : ∀ f ∈ m.frs, smallC f.code
theorem setv_in {v : Vs} {x y : Bytes} {a z : Int} (h : setv v x a y = some z) : z = a ∨ v y = some z := by
 unfold setv at h
 split at h
 ·cases h; exact .inl rfl
 ·exact .inr h
theorem bindP_in : ∀ {ps : List Bytes} {as : List Int} {x : Bytes} {z : Int}, bindP ps as x = some z -> z ∈ as
 | [], as, x, z, h => by cases as <;> exact nomatch h
 | p :: ps, [], x, z, h => nomatch h
 | p :: ps, a :: as, x, z, h => by
  rcases setv_in h with e | e
  ·exact e ▸ List.mem_cons_self
  ·exact List.mem_cons_of_mem _ (bindP_in e)
section
variable {tab : Tab} {g : Nat -> Int}
theorem Beg.fine {f : Bytes} {m m' : MS} (hT : ∀ f ps code, tab f = some (ps, code) -> smallC code) (F : Fine m) (h : Beg tab f m m') : Fine m' := by
 cases h with
 | mk ht hl hd =>
  refine ⟨fun z hz => F.ws z (List.mem_append_right _ hz), fun fr hf x z hx => ?_, fun fr hf => ?_⟩
  ·rcases List.mem_cons.mp hf with rfl | hf
   ·exact F.ws z (List.mem_append_left _ (List.mem_reverse.mpr (bindP_in hx)))
   ·exact F.vars fr hf x z hx
  ·rcases List.mem_cons.mp hf with rfl | hf
   ·exact hT _ _ _ ht
   ·exact F.code fr hf
theorem Work.fine {o : Mn} {m m' : MS} (hT : ∀ f ps code, tab f = some (ps, code) -> smallC code) (hg : ∀ n, In64 (g n)) (ho : smallC [o]) (F : Fine m) (h : Work tab g o m m') : Fine m' := by
 have top : ∀ {c : List Mn} {p p' n n' : Nat} {v v' : Vs} {fs : List Fr} {ws ws' : List Int} {s s' : St}, Fine ⟨⟨c, p, v, n⟩ :: fs, ws, s⟩ -> (∀ z ∈ ws', In64 z) -> (∀ x z, v' x = some z -> In64 z) -> Fine ⟨⟨c, p', v', n'⟩ :: fs, ws', s'⟩ := fun {c p p' n n' v v' fs ws ws' s s'} F h1 h2 =>
  ⟨h1, fun fr hf x z hx => by
   rcases List.mem_cons.mp hf with rfl | hf
   ·exact h2 x z hx
   ·exact F.vars fr (List.mem_cons_of_mem _ hf) x z hx, fun fr hf => by
   rcases List.mem_cons.mp hf with rfl | hf
   ·exact F.code ⟨c, p, v, n⟩ List.mem_cons_self
   ·exact F.code fr (List.mem_cons_of_mem _ hf)⟩
 have on : ∀ {fs : List Fr} {ws ws' : List Int} {s s' : St}, Fine ⟨fs, ws, s⟩ -> (∀ z ∈ ws', In64 z) -> Fine ⟨fs, ws', s'⟩ := fun F h1 => ⟨h1, F.vars, F.code⟩
 have tl : ∀ {a : Int} {ws : List Int}, (∀ z ∈ a :: ws, In64 z) -> ∀ z ∈ ws, In64 z := fun h z hz => h z (List.mem_cons_of_mem _ hz)
 have cn : ∀ {a : Int} {ws : List Int}, In64 a -> (∀ z ∈ ws, In64 z) -> ∀ z ∈ a :: ws, In64 z := fun ha h z hz => by
  rcases List.mem_cons.mp hz with rfl | hz
  ·exact ha
  ·exact h z hz
 cases h with
 | beg => exact F
 | fin => exact F
 | step h => exact on F F.ws
 | let_ =>
  refine top F (tl F.ws) fun x z hx => ?_
  rcases setv_in hx with e | hx
  ·exact e ▸ F.ws _ List.mem_cons_self
  ·exact F.vars _ List.mem_cons_self x z hx
 | set =>
  refine top F (tl F.ws) fun x z hx => ?_
  rcases setv_in hx with e | hx
  ·exact e ▸ F.ws _ List.mem_cons_self
  ·exact F.vars _ List.mem_cons_self x z hx
 | use h => exact top F (cn (F.vars _ List.mem_cons_self _ _ h) F.ws) (F.vars _ List.mem_cons_self)
 | num =>
  rename_i fs ws s k
  have : k <= 9223372036854775807 := ho (.num k) List.mem_cons_self
  exact on F (cn ⟨by omega, by omega⟩ F.ws)
 | get => exact on F (cn (hg _) F.ws)
 | one h => exact on F (cn (unR_in h) (tl F.ws))
 | two h => exact on F (cn (opBin_in (F.ws _ List.mem_cons_self) h) (tl (tl F.ws)))
 | call h => exact h.fine hT F
 | forget => exact on F (tl F.ws)
 | put => exact on F (tl F.ws)
 | ret => exact ⟨F.ws, fun fr hf => F.vars fr (List.mem_cons_of_mem _ hf), fun fr hf => F.code fr (List.mem_cons_of_mem _ hf)⟩
 | unless0 => exact top F (tl F.ws) (F.vars _ List.mem_cons_self)
 | unless1 h => exact on F (tl F.ws)
 | go => exact top F F.ws (F.vars _ List.mem_cons_self)
end
end SM
end
section
set_option Elab.async false
set_option linter.all false
set_option maxRecDepth 100000
set_option maxHeartbeats 2000000
namespace L2
open PySem PySem.Spec PyProof.Rows
theorem yZ.there {P : Program} {w : World} {H : Hp} {h : Heap} {a : Addr} {o : HO} (x : yZ P w H h a o) : ∃ ob, h.get? a = some ob := by
 cases o with
 | lst xs => obtain ⟨_, _, _, _, e⟩ := x; exact ⟨_, e⟩
 | tup xs => obtain ⟨_, _, _, ob, e, _⟩ := x; exact ⟨_, e⟩
 | dK kvs => obtain ⟨_, _, _, _, o, _, _, e, _⟩ := x; exact ⟨_, e⟩
 | dT kvs => obtain ⟨_, _, _, _, o, _, _, e, _⟩ := x; exact ⟨_, e⟩
 | set S n => obtain ⟨o, _, _, _, e, _⟩ := x; exact ⟨_, e⟩
 | ins C dx fs => obtain ⟨_, _, _, e, _⟩ := x; exact ⟨_, e⟩
 | own y => exact x
 | xd fs => obtain ⟨_, ⟨_, _, _, e, _⟩, _⟩ := x; exact ⟨_, e⟩
 | rng lo hi => obtain ⟨_, _, _, e⟩ := x; exact ⟨_, e⟩
 | frz ob u => obtain ⟨e, _⟩ := x; exact ⟨_, e⟩
 | tbl ps => exact ⟨_, (show h.get? a = some _ from x)⟩
 | met f y => exact ⟨_, (show h.get? a = some _ from x)⟩
 | ext φ => obtain ⟨_, e, _⟩ := x; exact e
def Cov (B : Heap) (fs : List Addr) (H' : Hp) (h : Heap) : Prop := ∀ b, b ∉ fs -> (H' b ≠ none ∨ h.get? b ≠ none) -> B.get? b ≠ none
section
variable {P : Program} {w : World} {fs : List Addr} {H H' : Hp} {h h1 h2 B : Heap}
theorem Cov.get (cov : Cov B fs H' h) (k1 : B.StaysIn h1) (k2 : B.StaysIn h2) {b : Addr} {o : Obj} (hb : b ∉ fs) (hc : H' b ≠ none ∨ h.get? b ≠ none) (e : h1.get? b = some o) : h2.get? b = some o := by
 cases q : B.get? b with
 | none => exact absurd q (cov b hb hc)
 | some o' =>
  have e2 := k1 b o' q
  rw [e] at e2
  cases e2
  exact k2 b _ q
theorem Un.fly (u : Un fs [] H H' h h1) (hf : ∀ b ∈ fs, H b = none /\ ∃ o, h.get? b = some o /\ ∀ vs, o.data ≠ .fields vs) (k1 : B.StaysIn h1) (k2 : B.StaysIn h2) (cov : Cov B fs H' h) (sl : h1.UpToSlots h2) : Un fs [] H H' h h2 := by
 have frm : ∀ b o, b ∈ fs -> h.get? b = some o -> ∃ s, h2.get? b = some { o with slots := s } := fun b o hb e => by
  obtain ⟨n, o', e', nf⟩ := hf b hb
  rw [e] at e'
  cases e'
  obtain ⟨s1, e1⟩ := u.slot b o e n hb (by simp)
  obtain ⟨s2, e2⟩ := sl b _ e1 nf
  exact ⟨s2, e2⟩
 refine ⟨fun b o e n hb hx => cov.get k1 k2 hb (.inr (by rw [e]; simp)) (u.keep b o e n hb hx), fun b o e n hb _ => frm b o hb e, u.free, fun b o e hx => ?_, u.tups, u.frzs, u.tbls⟩
 by_cases hb : b ∈ fs
 ·obtain ⟨s, e2⟩ := frm b o hb e
  exact ⟨_, e2⟩
 ·obtain ⟨o', e1⟩ := u.there b o e hx
  exact ⟨o', cov.get k1 k2 hb (.inr (by rw [e]; simp)) e1⟩
theorem HOk.fly (x : HOk P w H' h1) (hfs : ∀ b ∈ fs, H' b = none) (k1 : B.StaysIn h1) (k2 : B.StaysIn h2) (cov : Cov B fs H' h) : HOk P w H' h2 := fun a o e =>
 (x a o e).stay (fun b v hb q => by
  have ht : H' b ≠ none := by
   rcases hb with z | z
   ·rw [z, e]; simp
   ·rw [z]; simp
  exact cov.get k1 k2 (fun m => ht (hfs b m)) (.inl ht) q) (fun _ q => q) fun _ _ q => q
end
def CXW (P : Program) (w : World) : CXT := fun outer H s E e s' =>
 ∃ (a C : Addr) (a0 : Value) (H' : Hp) (B : Heap), e = .ref a /\ E (.ref C) none H' /\ s'.os = s.os /\ AllBare s'.gens /\ Un (frs outer) [] H H' s.heap s'.heap /\ HOk P w H' s'.heap /\
  Heap.FlyingW B outer a (.ref C) a0 s'.heap /\ Cov B (frs outer) H' s.heap
def Makes (X : Cx) (E : XK) : Prop := ∀ (pins : List (Addr × Obj)) (σ : St) (H : Hp) (s : Shared) (C e : Addr) (h' : Heap), Inv X pins σ H s -> Heap.MadeExcOf s.heap h' e (.ref C) [] -> E (.ref C) none H -> X.xe (.ref e) { s with heap := h' }
section
variable {X : Cx} {pins : List (Addr × Obj)} {σ : St} {H1 H2 : Hp} {s1 s2 : Shared} {h2 h' B : Heap}
theorem Inv.frF (I : Inv X pins σ H1 s1) : ∀ b ∈ frs X.stack, H1 b = none /\ ∃ o, s1.heap.get? b = some o /\ ∀ vs, o.data ≠ .fields vs := fun b hb => ⟨I.stkFree b hb, (I.stack.mem hb).2⟩
theorem Inv.frN (I : Inv X pins σ H1 s1) (u : Un (frs X.stack) [] H1 H2 s1.heap h2) : ∀ b ∈ frs X.stack, H2 b = none := fun b hb => by
 obtain ⟨n, o, e, _⟩ := I.frF b hb
 exact u.free b o e n (by simp)
theorem Inv.fly (I : Inv X pins σ H1 s1) (os : s2.os = s1.os) (bare : AllBare s2.gens) (u : Un (frs X.stack) [] H1 H2 s1.heap s2.heap) (hok : HOk X.prog X.w H2 s2.heap) (k1 : B.StaysIn s2.heap) (k2 : B.StaysIn h') (cov : Cov B (frs X.stack) H2 s1.heap)
  (sl : s2.heap.UpToSlots h') : Inv X pins σ H2 { s2 with heap := h' } :=
 I.call' (s' := { s2 with heap := h' }) (ch := []) os (u.fly I.frF k1 k2 cov sl) (hok.fly (I.frN u) k1 k2 cov) bare fun b z => absurd z (by simp)
theorem Inv.cov (I : Inv X pins σ H1 s1) (hex : X.ex = []) (I2 : Inv X pins σ H2 s2) (cov : Cov B (frs X.stack) H2 s1.heap) : Cov B X.fs H2 X.s_0.heap := fun b hb hc => by
 refine cov b (fun m => ?_) ?_
 ·rcases List.mem_cons.mp (I.stkSub b m) with e | e
  ·subst e
   rcases hc with hc | hc
   ·exact hc I2.free
   ·exact hc (Heap.get?_none_of_le I.ok.above)
  ·exact hb e
 ·rcases hc with hc | hc
  ·exact .inl hc
  ·refine .inr fun q => ?_
   cases e : X.s_0.heap.get? b with
   | none => exact hc e
   | some o =>
    obtain ⟨o', e'⟩ := I.base.there b o e (by rw [hex]; simp)
    rw [q] at e'
    cases e'
end
section
variable {P : Program} {w : World} {K : PySem.W.Frag} {mg : Str -> Option Value} {base : Heap} {N : List Str} {qual : Str} {scope : Scope} {f : Addr} {cd : Value} {A : Around} {outer : List Env} {s : Shared} {H : Hp} {E : XK}
theorem zT : Passes (CXW P w) (cxOf (CXW P w) P w K mg base N qual scope f cd A outer s H E) E := by
 intro pins σ H1 s1 e s2 I hcx
 obtain ⟨a, C, a0, H2, B, rfl, hE, os, bare, un, hok, fl, cov⟩ := hcx
 show wpAny (model P w) (A.deeper (envOfC qual scope s.heap.objs.size f cd)) (leaving (envOfC qual scope s.heap.objs.size f cd) (.ref a)) _ _ s2
 refine wpAny_leaves_onW (L := s.heap.objs.size) I.ok.frames rfl fl fun h' x1 x2 => ?_
 have I' := I.fly os bare un hok fl.1 x1.1 cov x2
 exact ⟨a, C, a0, H2, B, rfl, hE, I'.os, bare, I'.base, I'.hok, x1, I.cov rfl I' cov⟩
theorem makeW : Makes (cxOf (CXW P w) P w K mg base N qual scope f cd A outer s H E) E := by
 intro pins σ H1 s1 C e h1 I hx hE
 show wpAny (model P w) (A.deeper (envOfC qual scope s.heap.objs.size f cd)) (leaving (envOfC qual scope s.heap.objs.size f cd) (.ref e)) _ _ _
 have hin : ∀ env ∈ (envOfC qual scope s.heap.objs.size f cd :: outer), ∀ b, env.frame = some b -> b ∈ frs (envOfC qual scope s.heap.objs.size f cd :: outer) := fun env he b hb => List.mem_filterMap.mpr ⟨env, he, hb⟩
 have kB : (PySem.W.hideAll s1.heap (frs (envOfC qual scope s.heap.objs.size f cd :: outer))).StaysIn s1.heap := fun b o q => PySem.W.of_hideAll _ q
 have cov : Cov (PySem.W.hideAll s1.heap (frs (envOfC qual scope s.heap.objs.size f cd :: outer))) (frs (envOfC qual scope s.heap.objs.size f cd :: outer)) H1 s1.heap := fun b hb hc q => by
  have there : ∃ o, s1.heap.get? b = some o := by
   rcases hc with hc | hc
   ·cases e : H1 b with
    | none => exact absurd e hc
    | some u => exact (I.hok b u e).there
   ·cases e : s1.heap.get? b with
    | none => exact absurd e hc
    | some o => exact ⟨o, rfl⟩
  obtain ⟨o, e⟩ := there
  rw [PySem.W.hideAll_get _ e hb] at q
  cases q
 refine wpAny_leaves_madeW (base := PySem.W.hideAll s1.heap (frs (envOfC qual scope s.heap.objs.size f cd :: outer))) (h := s1.heap) (L := s.heap.objs.size) I.ok.frames rfl kB (PySem.W.funFrames_hide I.stack hin) hx fun h' t x1 x2 x3 x4 => ?_
 have I' := I.fly (s2 := { s1 with heap := h1 }) rfl I.bare (Un.kept hx.keeps) (I.hok.kept hx.keeps) (fun b o q => hx.keeps b o (kB b o q)) x1.1 cov x4
 exact ⟨e, C, .ref t, H1, _, rfl, hE, I'.os, I.bare, I'.base, I'.hok, x1, I.cov rfl I' cov⟩
theorem ownW : PassesOwn (model P w) (cxOf (CXW P w) P w K mg base N qual scope f cd A outer s H E).A (cxOf (CXW P w) P w K mg base N qual scope f cd A outer s H E).env (cxOf (CXW P w) P w K mg base N qual scope f cd A outer s H E).xe := PassesOwn.leaving
theorem Fun.okW {x qual : Str} {st : Stmt} {f : Addr} {fd : FuncData} {N ps : List Str} {k : Nat} {sp : Sp} (F : Fun K x qual st f fd) (S : FnScope N ps (zJ st)) (len : ∀ vs H Q E, sp vs H Q E -> vs.length = ps.length)
  (hbody : ∀ (cdv : Value) (A : Around) (outer : List Env) (s : Shared) (H : Hp) (vs : List V) (Q : VK) (E : XK), Room k (A.deeper (envOfC qual (zJ st) s.heap.objs.size f cdv)) -> sp vs H Q E ->
   ∃ t, PSs (cxOf (CXW P w) P w K mg base N qual (zJ st) f cdv A outer s H E) (defBody st) t /\ t { nx := fun _ H' => Q .non H', rt := Q } (start N vs) H) : FnOk P w K mg base (CXW P w) (k + 1) f fd ps sp := by
 obtain ⟨oc, od, kV, doc, pm, an, cdv, ct, osl, rfl, lk, hcd⟩ := F.ex
 exact fn_of lk hcd S len fun A outer s H vs Q E hr hsp => hbody cdv A outer s H vs Q E hr hsp
end
abbrev excB : List Value := [.type "Exception", .type "BaseException", .type "object"]
def excD (K : PySem.W.Frag) (C : Addr) : Bool := match K.lookup C with
 | some ⟨.type "type", _, .cls cd, sl⟩ => (match cd.mro, sl.toList with
  | .ref C' :: bm, [_, _, _, _, some (.builtin n), _] => C' == C && n == "Exception.__new__" && !cd.hasDel && bm == excB && PySem.W.nsOkIn K cd.ns && PySem.W.nsIn K cd.ns "__init__" == some none
  | _, _ => false)
 | _ => false
theorem excD_at {K : PySem.W.Frag} {h : Heap} {C : Addr} (X : K.In h) (q : excD K C = true) : ∃ N nm qn bs hdct sn sub ab col dd k0 k1 k2 k3 k5 mN,
  h.get? C = some (excClassObj nm qn C N bs excB hdct sn sub ab col dd k0 k1 k2 k3 k5 "Exception.__new__") /\ h.Ns N mN /\ mN "__init__" = none := by
 unfold excD at q
 split at q
 ·rename_i dd cd sl ho
  split at q
  ·rename_i C' bm k0 k1 k2 k3 n k5 hm hs
   simp only [Bool.and_eq_true, beq_iff_eq, Bool.not_eq_true'] at q
   obtain ⟨⟨⟨⟨⟨rfl, rfl⟩, hdel⟩, rfl⟩, hok⟩, hni⟩ := q
   obtain ⟨nm, bs, mro, ns, qn, hd, sn, sub, ab, col, del⟩ := cd
   dsimp only at hm hdel hok hni
   subst hm hdel
   have hsl : sl = #[k0, k1, k2, k3, some (.builtin "Exception.__new__"), k5] := by
    obtain ⟨l⟩ := sl
    simp only at hs
    rw [hs]
   subst hsl
   exact ⟨ns, nm, qn, bs, hd, sn, sub, ab, col, dd, k0, k1, k2, k3, k5, _, X _ _ ho, .of_isNs (PySem.W.isNs_of_in X hok), PySem.W.nsMap_none_of_in X hok hni⟩
  ·cases q
 ·cases q
section
variable {X : Cx} {E : XK}
def tRaise (E : XK) (C : Addr) : TS := fun _ _ H => E (.ref C) none H
theorem qF {x : Str} {C : Addr} {np cpos pos : Pos} (hM : Makes X E) (hc : X.calm = true) (hg : Gl X x) (hm : X.mg x = some (.ref C)) (hq : excD X.K C = true) (hd : (x == ("__debug__" : Str)) = false := by decide) :
  PS X (.Raise (some (.Call (.Name x np) [] [] cpos)) none pos) (tRaise E C) := by
 intro pins s σ H D I h
 obtain ⟨N, nm, qn, bs, hdct, sn, sub, ab, col, dd, k0, k1, k2, k3, k5, mN, hC, hN, hni⟩ := excD_at I.kIn hq
 refine wpAny_Raise_call_subT (C := C) (nm := nm) (q := qn) (N := N) (bs := bs) (bm := excB) (hdct := hdct) (sn := sn) (sub := sub) (ab := ab) (col := col) (dd := dd) (k0 := k0) (k1 := k1) (k2 := k2) (k3 := k3) (k5 := k5)
  PySem.F.excBase_Exception (mN := mN) (by decide +kernel) (I.ok.hd hc) rfl hni (ld_glob I hg hm ⟨rfl, ?_⟩ hd)
 exact evalArgs_empty ⟨rfl, Nat.zero_le _, hC, hN, .base, fun h' e hx => hM pins σ H s C e h' I hx h⟩
end
end L2
end
section
set_option Elab.async false
set_option linter.all false
set_option maxRecDepth 100000
set_option maxHeartbeats 2000000
namespace L2
open PySem PySem.Spec PyProof.Rows
structure Fly (X : Cx) (pins : List (Addr × Obj)) (σ : St) (H1 : Hp) (s1 : Shared) (a0 : Value) (B : Heap) (H2 : Hp) (a C : Addr) (s : Shared) : Prop where
 inv : Inv X pins σ H1 s1
 os : s.os = s1.os
 bare : AllBare s.gens
 un : Un (frs X.stack) [] H1 H2 s1.heap s.heap
 hok : HOk X.prog X.w H2 s.heap
 fl : Heap.FlyingW B X.stack a (.ref C) a0 s.heap
 cov : Cov B (frs X.stack) H2 s1.heap
section
variable {X : Cx} {pins : List (Addr × Obj)} {σ : St} {H H1 H2 : Hp} {s s1 : Shared} {a0 : Value} {B : Heap} {a C : Addr}
theorem Fly.now (F : Fly X pins σ H1 s1 a0 B H2 a C s) : Inv X pins σ H2 s := F.inv.call' (ch := []) F.os F.un F.hok F.bare fun b z => absurd z (by simp)
theorem Fly.on {h' : Heap} (F : Fly X pins σ H1 s1 a0 B H2 a C s) (fl' : Heap.FlyingW B X.stack a (.ref C) a0 h') (sl : s.heap.UpToSlots h') : Fly X pins σ H1 s1 a0 B H2 a C { s with heap := h' } :=
 ⟨F.inv, F.os, F.bare, F.un.fly F.inv.frF F.fl.1 fl'.1 F.cov sl, F.hok.fly (F.inv.frN F.un) F.fl.1 fl'.1 F.cov, fl', F.cov⟩
abbrev Cx.caught (X : Cx) (a : Addr) : Cx := { X with A := X.A.mark (some (.ref a)), calm := false, xe := fun _ _ => False }
theorem Inv.caught (I : Inv X pins σ H s) (a : Addr) : Inv (X.caught a) pins σ H s :=
 ⟨⟨I.ok.mod, I.ok.kind, I.ok.glob, I.ok.blt, I.ok.above, I.ok.inj, I.ok.has, I.ok.cab, fun z => (nomatch z), I.ok.frames, I.ok.stk, I.ok.exf, I.ok.bs, I.ok.bsz, I.ok.noex, I.ok.exfs, I.ok.funs, I.ok.frf⟩, I.os, I.bare, I.base, I.loc, I.cell, I.free, I.freeC, I.pin, I.hok, I.len⟩
theorem Inv.uncaught (ok : X.Ok) (I : Inv (X.caught a) pins σ H s) : Inv X pins σ H s := ⟨ok, I.os, I.bare, I.base, I.loc, I.cell, I.free, I.freeC, I.pin, I.hok, I.len⟩
theorem SP.uncaught {D : Ends} {f : Flow} {s' : Shared} (ok : X.Ok) (h : SP (X.caught a) pins D f s') : SP X pins D f s' := by
 cases f with
 | next => obtain ⟨σ', H', I, q⟩ := h; exact ⟨σ', H', I.uncaught ok, q⟩
 | brk => obtain ⟨σ', H', I, q⟩ := h; exact ⟨σ', H', I.uncaught ok, q⟩
 | cont => obtain ⟨σ', H', I, q⟩ := h; exact ⟨σ', H', I.uncaught ok, q⟩
 | ret u => obtain ⟨v, σ', H', I, r, q⟩ := h; exact ⟨v, σ', H', I.uncaught ok, r, q⟩
def PH (X : Cx) (hs : List ExceptHandler) (th : Addr -> TS) : Prop :=
 ∀ (pins : List (Addr × Obj)) (D : Ends) (σ : St) (H1 : Hp) (s1 : Shared) (a0 : Value) (B : Heap) (H2 : Hp) (a C : Addr) (s : Shared), Fly X pins σ H1 s1 a0 B H2 a C s -> th C D σ H2 -> wpAny (model X.prog X.w) X.A (handleBy (.ref a) X.env hs) (SP X pins D) X.xe s
theorem ph_nil : PH X [] (fun _ => tNever) := fun _ _ _ _ _ _ _ _ _ _ _ _ h => h.elim
end
section
variable {M : Model} {A : Around} {E : Value -> Shared -> Prop}
variable {nm q : Str} {C N : Addr} {bs bm : List Value} {hdct : Bool} {sn : List Str} {sub : List Value} {ab : Bool} {col : Option Bool} {dd : Option Addr} {k0 k1 k2 k3 k5 : Option Value} {newId : String}
variable {nm' q' : Str} {C' N' : Addr} {bs' bm' : List Value} {hdct' : Bool} {sn' : List Str} {sub' : List Value} {ab' : Bool} {col' : Option Bool} {dd' : Option Addr} {k0' k1' k2' k3' k5' : Option Value} {newId' : String}
theorem excMatches_other {h : Heap} {g : Array GenState} {d : Drawn} {t : Nat} {os : OsState} {e : Addr} {oe : Obj} {Q : Bool -> Shared -> Prop}
  (hC : h.get? C = some (excClassObj nm q C N bs bm hdct sn sub ab col dd k0 k1 k2 k3 k5 newId)) (hC' : h.get? C' = some (excClassObj nm' q' C' N' bs' bm' hdct' sn' sub' ab' col' dd' k0' k1' k2' k3' k5' newId')) (he : h.get? e = some oe) (hcls : oe.cls = .ref C)
  (hbase : bm'.contains (.type "BaseException") = true) (hno : (Value.ref C :: bm).contains (.ref C') = false)
  (hq : Q false ⟨h, g, d, t, os⟩) : wpAny M A (excMatches (.ref e) (.ref C')) Q E ⟨h, g, d, t, os⟩ := by
 have hcB : (Value.ref C' :: bm').contains (.type "BaseException") = true := by rw [List.contains_cons, hbase, Bool.or_true]
 have f := tc_notTuple
 unfold excMatches
 repeat (first | (with_reducible refine wpAny_loadPart_at he ?_; rw [hcls]) | with_reducible refine wpAny_loadPart_at hC' ?_ | (with_reducible refine wpAny_isSubtype_exc hC' ?_; rw [hcB]) | (with_reducible refine wpAny_isSubtype_exc hC ?_; rw [hno]) | wp_step)
 exact hq
end
section
variable {X : Cx} {th : Addr -> TS} {ts : TS} {x : Str} {C' : Addr} {np pos : Pos} {b0 : Stmt} {suite : List Stmt} {rest : List ExceptHandler}
def tExc (K : PySem.W.Frag) (C' : Addr) (ts : TS) (th : Addr -> TS) : Addr -> TS := fun C D σ H => (C = C' /\ ts D σ H) ∨ (C ≠ C' /\ excD K C = true /\ th C D σ H)
theorem ph_cons (hg : Gl X x) (hm : X.mg x = some (.ref C')) (hq : excD X.K C' = true) (hs : ∀ a, PSs (X.caught a) (b0 :: suite) ts) (hr : PH X rest th) (hd : (x == ("__debug__" : Str)) = false := by decide) :
  PH X (.ExceptHandler (some (.Name x np)) none (b0 :: suite) pos :: rest) (tExc X.K C' ts th) := by
 intro pins D σ H1 s1 a0 B H2 a C s F h
 have I := F.now
 obtain ⟨N', nm', qn', bs', hdct', sn', sub', ab', col', dd', k0', k1', k2', k3', k5', mN', hC', hN', hni'⟩ := excD_at I.kIn hq
 obtain ⟨ob, hob, hobc⟩ := F.fl.there
 refine wpAny_handleBy_cons (codeAny_handlers_test (ld_glob (X := X.caught a) (I.caught a) hg hm ?_ hd)) (by intro q; cases q)
 obtain ⟨hh, gg, dr, tk, os⟩ := s
 rcases h with ⟨rfl, h⟩ | ⟨hne, hqC, h⟩
 ·refine wpAny_excMatches_sub_self hC' hob hobc (by decide +kernel) (codeAny_handlers_suite ?_)
  refine lands_againW F.fl fun h6 fl6 sl6 => ?_
  have F6 := F.on fl6 sl6
  exact wpAny_mono (hs a pins _ σ H2 D (F6.now.caught a) h) (fun f s' q => q.uncaught F6.now.ok) fun _ _ z => False.elim z
 ·obtain ⟨N, nm, qn, bs, hdct, sn, sub, ab, col, dd, k0, k1, k2, k3, k5, mN, hC, hN, hni⟩ := excD_at I.kIn hqC
  refine excMatches_other hC hC' hob hobc (by decide +kernel) ?_ (hr pins D σ H1 s1 a0 B H2 a C _ F h)
  have e1 : (Value.ref C == Value.ref C') = false := beq_eq_false_iff_ne.mpr fun z => hne (Value.ref.inj z)
  have e1' : (Value.ref C' == Value.ref C) = false := beq_eq_false_iff_ne.mpr fun z => hne (Value.ref.inj z).symm
  rw [List.contains_cons]
  first
   | (rw [e1']; rfl)
   | (rw [e1]; rfl)
end
section
variable {X : Cx} {th : Addr -> TS} {tb : XK -> TS} {body : List Stmt} {h0 : ExceptHandler} {hs : List ExceptHandler} {pos : Pos}
abbrev Cx.tried (X : Cx) (xe : Value -> Shared -> Prop) (pn : List (Addr × Obj)) : Cx := { X with xe := xe, pn := pn }
def tTry (tb : XK -> TS) (th : Addr -> TS) : TS := fun D σ H => tb (fun c _ H' => ∀ C, c = .ref C -> ∀ σ', th C D σ' H') D σ H
theorem ps_try (hst : X.stack = X.env :: X.outer /\ X.env.frame = some X.env.locals) (hb : ∀ (xe : Value -> Shared -> Prop) (pn : List (Addr × Obj)) (E : XK), Passes (CXW X.prog X.w) (X.tried xe pn) E -> PSs (X.tried xe pn) body (tb E)) (hh : PH X (h0 :: hs) th) :
  PS X (.Try body (h0 :: hs) [] [] pos) (tTry tb th) := by
 intro pins s σ H D I h
 have up : ∀ {xe : Value -> Shared -> Prop} {pins' : List (Addr × Obj)} {σ' : St} {H' : Hp} {s' : Shared}, Inv (X.tried xe (X.pn ++ pins)) pins' σ' H' s' -> Inv X pins σ' H' s' := fun {xe pins' σ' H' s'} J =>
  ⟨I.ok, J.os, J.bare, J.base, J.loc, J.cell, J.free, J.freeC, fun p hp => J.pin p (List.mem_append_left _ hp), J.hok, J.len⟩
 have down : ∀ (xe : Value -> Shared -> Prop), Inv (X.tried xe (X.pn ++ pins)) [] σ H s := fun xe =>
  ⟨⟨I.ok.mod, I.ok.kind, I.ok.glob, I.ok.blt, I.ok.above, I.ok.inj, I.ok.has, I.ok.cab, I.ok.hd, I.ok.frames, I.ok.stk, I.ok.exf, I.ok.bs, I.ok.bsz, I.ok.noex, I.ok.exfs, I.ok.funs, I.ok.frf⟩, I.os, I.bare, I.base, I.loc, I.cell, I.free, I.freeC,
   fun p hp => I.pin p (by rw [List.append_nil] at hp; exact hp), I.hok, I.len⟩
 refine wpAny_Try_except ?_
 refine wpAny_mono (hb (fun e s₁ => wpAny (model X.prog X.w) X.A (noteFrame e X.env) (fun _ s₂ => wpAny (model X.prog X.w) X.A (setFlight e none) (fun _ s₃ => wpAny (model X.prog X.w) X.A (handleBy e X.env (h0 :: hs)) (SP X pins D) X.xe s₃) X.xe s₂) X.xe s₁) (X.pn ++ pins)
  (fun c _ H' => ∀ C, c = .ref C -> ∀ σ', th C D σ' H') ?_ [] s σ H D (down _) h) (fun f s1 q => ?_) fun _ _ z => z
 ·intro pins' σ' H1 s1 e s2 I1 hcx
  obtain ⟨a, C, a0, H2, B, rfl, hE, os, bare, un, hok, fl, cov⟩ := hcx
  have F : Fly X pins σ' H1 s1 a0 B H2 a C s2 := ⟨up I1, os, bare, un, hok, fl, cov⟩
  show wpAny (model X.prog X.w) X.A (noteFrame (.ref a) X.env) _ X.xe s2
  refine wpAny_looks_onW (env := X.env) (outer := X.outer) (L := X.env.locals) (by rw [I.ok.frames, hst.1]) hst.2 (by rw [<- hst.1]; exact fl) fun h4 held4 sl4 => ?_
  refine wpAny_landsW held4 fun h5 fl5 sl5 => ?_
  exact hh pins D σ' H1 s1 a0 B H2 a C _ (F.on (h' := h5) (by rw [hst.1]; exact fl5) (sl4.trans sl5)) (hE C rfl σ')
 ·cases f with
  | next =>
   obtain ⟨σ', H', J, q⟩ := q
   exact wpAny_execs_nil ⟨σ', H', up J, q⟩
  | brk =>
   obtain ⟨σ', H', J, q⟩ := q
   exact ⟨σ', H', up J, q⟩
  | cont =>
   obtain ⟨σ', H', J, q⟩ := q
   exact ⟨σ', H', up J, q⟩
  | ret u =>
   obtain ⟨v, σ', H', J, r, q⟩ := q
   exact ⟨v, σ', H', up J, r, q⟩
end
end L2
end
section
set_option Elab.async false
set_option linter.all false
set_option maxRecDepth 100000
set_option maxHeartbeats 2000000
namespace SM
open PySem PySem.Spec PyProof.Rows L2
theorem scK {N P : List Str} {sc : Scope} (h1 : sc.kind = .function := by rfl) (h2 : sc.isCoroutine = false := by rfl) (h3 : sc.isGenerator = false := by rfl) (h4 : N.Nodup := by decide +kernel) (h5 : N.take P.length = P := by rfl) (h6 : ∀ x ∈ P, sc.names.lookup x = some .local ∨ sc.names.lookup x = some .cell := by decide +kernel) (h7 : ∀ y ∈ sc.names, y.2 ≠ .free := by decide +kernel) : FnScope N P sc := ⟨h1, h2, h3, h4, h5, h6, h7⟩
def GI (mg : Str -> Option Value) (x : Str) (n : Int) : Prop := ∃ t, mg x = some (.int n t)
def GS (mg : Str -> Option Value) (x : Str) (z : Str) : Prop := ∃ t, mg x = some (.str z t)
section
variable {X : Cx}
theorem qL {x : Str} {n : Int} {pos : Pos} (h : GI X.mg x n) (hg : Gl X x := by rfl) (hd : (x == ("__debug__" : Str)) = false := by decide) : PE X (.Name x pos) (tC (.int n)) := by
 obtain ⟨t, e⟩ := h
 exact pe_glob hg e ⟨t, rfl⟩ hd
theorem pg_str {x : Str} {z : Str} {pos : Pos} (h : GS X.mg x z) (hg : Gl X x := by rfl) (hd : (x == ("__debug__" : Str)) = false := by decide) : PE X (.Name x pos) (tC (.str z)) := by
 obtain ⟨t, e⟩ := h
 exact pe_glob hg e ⟨t, rfl⟩ hd
theorem pg_ref {x : Str} {a : Addr} {pos : Pos} (h : X.mg x = some (.ref a)) (hg : Gl X x := by rfl) (hd : (x == ("__debug__" : Str)) = false := by decide) : PE X (.Name x pos) (tC (.ref a)) :=
 pe_glob hg h rfl hd
theorem qC {P : Program} {w : World} : Passes (CXW P w) X E0 := by
 intro pins σ H s e s' I h
 obtain ⟨a, C, a0, H', B, _, hE, _⟩ := h
 exact hE.elim
theorem yD {e : Expr} {te : TE} {pos np : Pos} (hm : X.mg "len" = none) (he : PE X e te) (hg : Gl X "len" := by rfl) (hs : starEach [e] X.env = (false, eval e X.env) :: starEach [] X.env := by rfl) :
  PE X (.Call (.Name "len" np) [e] [] pos) (tCB (fun xs H Q => ∃ p ys, xs = [.ref p] /\ (qZ X.K H p ys ∨ SqT X.K H p ys) /\ Q (.int ys.length) H) (qH te tNil)) :=
 pe_callB call_len_seq hg hm PySem.boot_len (zA he zE hs) (he := hs)
end
structure Dn (K : PySem.W.Frag) (mg : Str -> Option Value) (x : Str) (st : Stmt) (ps : List Str) (f : Addr) (fd : FuncData) : Prop where
 fn : Fun K x x st f fd
 mgf : mg x = some (.ref f)
 bi : Binds K fd ps []
end SM
end
section
set_option Elab.async false
set_option linter.all false
set_option maxRecDepth 100000
set_option maxHeartbeats 2000000
namespace SM
open PySem PySem.Spec PyProof.Rows L2
def top (i : Nat) : Stmt := PySem.Challenge.pw_smalltongue_s02_pr_run.main.body.getD i (.Pass ⟨0, 0, 0, 0⟩)
abbrev sLetter : Stmt := top 72
abbrev sDigit : Stmt := top 73
abbrev sNameB : Stmt := top 74
abbrev sCommentE : Stmt := top 75
abbrev sNameE : Stmt := top 76
abbrev sNumberE : Stmt := top 77
def bv (bs : List Nat) : List V := bs.map fun (b : Nat) => V.int (b : Int)
theorem bv_len (bs : List Nat) : (bv bs).length = bs.length := by
 unfold bv
 rw [List.length_map]
theorem bv_at {bs : List Nat} {k c : Nat} (h : bs[k]? = some c) : (bv bs)[k]? = some (V.int (c : Int)) := by
 unfold bv
 rw [List.getElem?_map, h]
 rfl
theorem tw_step {α : Type} {p : α -> Bool} {l : List α} {k : Nat} {c : α} (h : l[k]? = some c) (hp : p c = true) : ((l.drop k).takeWhile p).length = ((l.drop (k + 1)).takeWhile p).length + 1 := by
 obtain ⟨hk, e⟩ := List.getElem?_eq_some_iff.mp h
 rw [List.drop_eq_getElem_cons hk, e, List.takeWhile_cons, hp]
 simp
theorem tw_stop {α : Type} {p : α -> Bool} {l : List α} {k : Nat} {c : α} (h : l[k]? = some c) (hp : p c = false) : ((l.drop k).takeWhile p).length = 0 := by
 obtain ⟨hk, e⟩ := List.getElem?_eq_some_iff.mp h
 rw [List.drop_eq_getElem_cons hk, e, List.takeWhile_cons, hp]
 simp
theorem tw_end {α : Type} {p : α -> Bool} {l : List α} {k : Nat} (h : l.length <= k) : ((l.drop k).takeWhile p).length = 0 := by
 rw [List.drop_eq_nil_iff.mpr h]
 simp
def spTest (p : Nat -> Bool) : Sp := fun vs H Q _ => ∃ b : Nat, vs = [.int b] /\ Q (.bl (p b)) H
def spEnd (K : PySem.W.Frag) (p : Nat -> Bool) : Sp := fun vs H Q _ => ∃ (a : Addr) (bs : List Nat) (k : Nat), vs = [.ref a, .int k] /\ qZ K H a (bv bs) /\ k <= bs.length /\ Q (.int ((k + ((bs.drop k).takeWhile p).length : Nat))) H
structure Gs (mg : Str -> Option Value) : Prop where
 len : mg "len" = none
 smallA : GI mg "SMALL_A" 97
 smallZ : GI mg "SMALL_Z" 122
 zero : GI mg "ZERO" 48
 nine : GI mg "NINE" 57
 under : GI mg "UNDERSCORE" 95
 newline : GI mg "NEWLINE" 10
 space : GI mg "SPACE" 32
 hash : GI mg "HASH" 35
 equals : GI mg "EQUALS" 61
 longName : GI mg "LONGEST_NAME" 16
 longNumber : GI mg "LONGEST_NUMBER" 18
 letters : GS mg "SMALL_LETTERS" "abcdefghijklmnopqrstuvwxyz"
 digits : GS mg "DIGITS" "0123456789"
section
variable {P : Program} {w : World} {K : PySem.W.Frag} {mg : Str -> Option Value} {base : Heap}
theorem scLetter : FnScope ["byte"] ["byte"] (zJ sLetter) := scK
theorem ok_letter {f : Addr} {fd : FuncData} (D : Dn K mg "is_letter" sLetter ["byte"] f fd) (G : Gs mg) : FnOk P w K mg base (CXW P w) 1 f fd ["byte"] (spTest Kp110.small) := by
 refine D.fn.okW scLetter (fun vs H Q E h => ?_) (fun cdv A outer s H vs Q E hr h => ?_)
 ·obtain ⟨b, rfl, _⟩ := h
  rfl
 ·obtain ⟨b, rfl, k⟩ := h
  refine ⟨_, zC (zW (pe_and (pe_cmpR op_le (qL G.smallA) (pv 0) (nomark _)) (pe_one (pe_cmpR op_le (pv 0) (qL G.smallZ) (nomark _))))), ?_⟩
  refine ⟨_, rfl, _, _, rfl, rfl, _, rfl, ?_⟩
  refine qG (fun h1 => ?_) (fun h1 => ?_)
  ·have h1 : (97 : Int) <= b := of_decide_eq_true h1
   refine ⟨_, rfl, _, _, rfl, rfl, ?_⟩
   have e : decide ((b : Int) <= 122) = Kp110.small b := by
    unfold Kp110.small
    rw [decide_eq_true (show 97 <= b by omega), Bool.true_and]
    exact decide_eq_decide.mpr (by omega)
   show Q (.bl (decide _)) H
   rw [e]
   exact k
  ·have h1 : ¬ (97 : Int) <= b := fun z => h1 (decide_eq_true z)
   have e : false = Kp110.small b := by
    unfold Kp110.small
    rw [decide_eq_false (show ¬ 97 <= b by omega), Bool.false_and]
   rw [e]
   exact k
theorem scDigit : FnScope ["byte"] ["byte"] (zJ sDigit) := scK
theorem ok_digit {f : Addr} {fd : FuncData} (D : Dn K mg "is_digit" sDigit ["byte"] f fd) (G : Gs mg) : FnOk P w K mg base (CXW P w) 1 f fd ["byte"] (spTest Kp110.digit) := by
 refine D.fn.okW scDigit (fun vs H Q E h => ?_) (fun cdv A outer s H vs Q E hr h => ?_)
 ·obtain ⟨b, rfl, _⟩ := h
  rfl
 ·obtain ⟨b, rfl, k⟩ := h
  refine ⟨_, zC (zW (pe_and (pe_cmpR op_le (qL G.zero) (pv 0) (nomark _)) (pe_one (pe_cmpR op_le (pv 0) (qL G.nine) (nomark _))))), ?_⟩
  refine ⟨_, rfl, _, _, rfl, rfl, _, rfl, ?_⟩
  refine qG (fun h1 => ?_) (fun h1 => ?_)
  ·have h1 : (48 : Int) <= b := of_decide_eq_true h1
   refine ⟨_, rfl, _, _, rfl, rfl, ?_⟩
   have e : decide ((b : Int) <= 57) = Kp110.digit b := by
    unfold Kp110.digit
    rw [decide_eq_true (show 48 <= b by omega), Bool.true_and]
    exact decide_eq_decide.mpr (by omega)
   show Q (.bl (decide _)) H
   rw [e]
   exact k
  ·have h1 : ¬ (48 : Int) <= b := fun z => h1 (decide_eq_true z)
   have e : false = Kp110.digit b := by
    unfold Kp110.digit
    rw [decide_eq_false (show ¬ 48 <= b by omega), Bool.false_and]
   rw [e]
   exact k
theorem scNameB : FnScope ["byte"] ["byte"] (zJ sNameB) := scK
theorem ok_nameB {f fL fD : Addr} {fd fdL fdD : FuncData} (D : Dn K mg "is_name_byte" sNameB ["byte"] f fd) (G : Gs mg) (DL : Dn K mg "is_letter" sLetter ["byte"] fL fdL) (DD : Dn K mg "is_digit" sDigit ["byte"] fD fdD) :
  FnOk P w K mg base (CXW P w) 2 f fd ["byte"] (spTest Kp110.inName) := by
 have GL : FnOk P w K mg base (CXW P w) 1 fL fdL ["byte"] (spTest Kp110.small) := ok_letter DL G
 have GD : FnOk P w K mg base (CXW P w) 1 fD fdD ["byte"] (spTest Kp110.digit) := ok_digit DD G
 refine D.fn.okW scNameB (fun vs H Q E h => ?_) (fun cdv A outer s H vs Q E hr h => ?_)
 ·obtain ⟨b, rfl, _⟩ := h
  rfl
 ·obtain ⟨b, rfl, k⟩ := h
  refine ⟨_, zC (zW (pe_or (zO GL hr rfl DL.mgf DL.fn.kp DL.bi .nil qC (zA (pv 0) zE)) (pe_or (zO GD hr rfl DD.mgf DD.fn.kp DD.bi .nil qC (zA (pv 0) zE))
   (pe_one (pe_cmpR qE (pv 0) (qL G.under) (nomark _)))))), ?_⟩
  refine ⟨_, rfl, b, rfl, _, rfl, ?_⟩
  refine qG (fun h1 => ?_) (fun h1 => ?_)
  ·have e : true = Kp110.inName b := by unfold Kp110.inName; rw [h1]; rfl
   rw [e]
   exact k
  ·refine ⟨_, rfl, b, rfl, _, rfl, ?_⟩
   refine qG (fun h2 => ?_) (fun h2 => ?_)
   ·have e : true = Kp110.inName b := by unfold Kp110.inName; rw [h2, Bool.or_true]; rfl
    rw [e]
    exact k
   ·refine ⟨_, rfl, rfl, ?_⟩
    have e : decide (V.int (b : Int) = V.int 95) = Kp110.inName b := by
     unfold Kp110.inName
     rw [Bool.eq_false_iff.mpr h1, Bool.eq_false_iff.mpr h2, Bool.false_or, Bool.false_or, dec_int]
     by_cases hb : b = 95
     ·subst hb; rfl
     ·rw [beq_eq_false_iff_ne.mpr hb]
      exact beq_eq_false_iff_ne.mpr (by omega)
    rw [e]
    exact k
end
end SM
end
section
set_option Elab.async false
set_option linter.all false
set_option maxRecDepth 100000
set_option maxHeartbeats 2000000
namespace SM
open PySem PySem.Spec PyProof.Rows L2
def RunW (bs : List Nat) (p : Nat -> Bool) (a : Addr) (s0 : Nat) (H : Hp) : Nat -> List (Option V) -> Hp -> Prop := fun m σ H' =>
 ∃ k : Nat, σ = [some (V.ref a), some (V.int (s0 : Int)), some (V.int (k : Int))] /\ H' = H /\ k <= bs.length /\ k + ((bs.drop k).takeWhile p).length = s0 + ((bs.drop s0).takeWhile p).length /\ m = bs.length - k
theorem at_lt {bs : List Nat} {k : Nat} (h : decide ((k : Int) < ((bv bs).length : Int)) = true) : ∃ c, bs[k]? = some c /\ k < bs.length := by
 have h1 := of_decide_eq_true h
 rw [bv_len] at h1
 have h2 : k < bs.length := by omega
 exact ⟨_, List.getElem?_eq_getElem h2, h2⟩
theorem not_lt {bs : List Nat} {k : Nat} (h : ¬ decide ((k : Int) < ((bv bs).length : Int)) = true) : bs.length <= k := by
 have h1 : ¬ (k : Int) < ((bv bs).length : Int) := fun z => h (decide_eq_true z)
 rw [bv_len] at h1
 omega
section
variable {P : Program} {w : World} {K : PySem.W.Frag} {mg : Str -> Option Value} {base : Heap}
theorem scCommentE : FnScope ["t", "start", "end"] ["t", "start"] (zJ sCommentE) := scK
theorem ok_commentE {f : Addr} {fd : FuncData} (D : Dn K mg "comment_end" sCommentE ["t", "start"] f fd) (G : Gs mg) : FnOk P w K mg base (CXW P w) 1 f fd ["t", "start"] (spEnd K (· != 10)) := by
 refine D.fn.okW scCommentE (fun vs H Q E h => ?_) (fun cdv A outer s H vs Q E hr h => ?_)
 ·obtain ⟨a, bs, k, rfl, _⟩ := h
  rfl
 ·obtain ⟨a, bs, s0, rfl, hS, hs0, kk⟩ := h
  refine ⟨_, zB (qB (i := 2) scCommentE.nd rfl (Or.inl rfl) (pv 1)) (zB (ps_while ownW (PW.pt (pw_and (zM op_lt (pv 2) (yD G.len (pv 0)) (nomark _))
   (pw_and1 (zM op_ne (qV yB (pv 0) (pv 2) (fun _ _ => rfl)) (qL G.newline) (nomark _))))) (zC (ps_aug (i := 2) scCommentE.nd rfl (Or.inl rfl) zQ ip_add))) (zC (zW (pv 2)))), ?_⟩
  refine ⟨_, rfl, RunW bs (· != 10) a s0 H, ⟨bs.length - s0, s0, rfl, rfl, hs0, rfl, rfl⟩, ?_⟩
  rintro m σ H' ⟨k, rfl, rfl, hk, hrun, rfl⟩
  refine ⟨_, rfl, _, rfl, a, _, rfl, .inl hS, _, _, rfl, rfl, _, rfl, ?_⟩
  have fin : ((bs.drop k).takeWhile (· != 10)).length = 0 -> Q (.int (k : Int)) H' := fun e => by
   have e2 : k = s0 + ((bs.drop s0).takeWhile (· != 10)).length := by omega
   rw [e2]
   exact kk
  refine qG (fun h1 => ?_) (fun h1 => ?_)
  ·obtain ⟨c, hc, hlt⟩ := at_lt h1
   refine ⟨_, rfl, _, rfl, a, _, _, _, rfl, rfl, hS, zU (bv_at hc), rfl, _, rfl, ?_⟩
   refine qG (fun h2 => ?_) (fun h2 => ?_)
   ·have hp : (c != 10) = true := by
     rw [dec_int] at h2
     have h3 : ¬ (c : Int) = 10 := by simpa using h2
     exact bne_iff_ne.mpr (by omega)
    have e1 := tw_step (p := (· != 10)) hc hp
    refine ⟨fun σ' H2 => σ' = [some (V.ref a), some (V.int (s0 : Int)), some (V.int ((k : Int) + 1))] /\ H2 = H', ?_, ?_⟩
    ·rintro σ' H2 ⟨rfl, rfl⟩
     exact ⟨_, (show bs.length - (k + 1) < bs.length - k by omega), k + 1, rfl, rfl, hlt, by omega, rfl⟩
    ·exact ⟨_, rfl, _, _, rfl, rfl, rfl, rfl⟩
   ·have hp : (c != 10) = false := by
     rw [dec_int] at h2
     have h3 : (c : Int) = 10 := by simpa using h2
     have h4 : c = 10 := by omega
     subst h4
     rfl
    exact ⟨_, rfl, fin (tw_stop hc hp)⟩
  ·exact ⟨_, rfl, fin (tw_end (not_lt h1))⟩
theorem scNameE : FnScope ["t", "start", "end"] ["t", "start"] (zJ sNameE) := scK
theorem ok_nameE {f fN : Addr} {fd fdN : FuncData} (D : Dn K mg "name_end" sNameE ["t", "start"] f fd) (G : Gs mg) (DN : Dn K mg "is_name_byte" sNameB ["byte"] fN fdN)
  (GN : FnOk P w K mg base (CXW P w) 2 fN fdN ["byte"] (spTest Kp110.inName)) : FnOk P w K mg base (CXW P w) 3 f fd ["t", "start"] (spEnd K Kp110.inName) := by
 refine D.fn.okW scNameE (fun vs H Q E h => ?_) (fun cdv A outer s H vs Q E hr h => ?_)
 ·obtain ⟨a, bs, k, rfl, _⟩ := h
  rfl
 ·obtain ⟨a, bs, s0, rfl, hS, hs0, kk⟩ := h
  refine ⟨_, zB (qB (i := 2) scNameE.nd rfl (Or.inl rfl) (pv 1)) (zB (ps_while ownW (PW.pt (pw_and (zM op_lt (pv 2) (yD G.len (pv 0)) (nomark _))
   (pw_and1 (pt_val (zO GN hr rfl DN.mgf DN.fn.kp DN.bi .nil qC (zA (qV yB (pv 0) (pv 2) (fun _ _ => rfl)) zE)))))) (zC (ps_aug (i := 2) scNameE.nd rfl (Or.inl rfl) zQ ip_add))) (zC (zW (pv 2)))), ?_⟩
  refine ⟨_, rfl, RunW bs Kp110.inName a s0 H, ⟨bs.length - s0, s0, rfl, rfl, hs0, rfl, rfl⟩, ?_⟩
  rintro m σ H' ⟨k, rfl, rfl, hk, hrun, rfl⟩
  refine ⟨_, rfl, _, rfl, a, _, rfl, .inl hS, _, _, rfl, rfl, _, rfl, ?_⟩
  have fin : ((bs.drop k).takeWhile Kp110.inName).length = 0 -> Q (.int (k : Int)) H' := fun e => by
   have e2 : k = s0 + ((bs.drop s0).takeWhile Kp110.inName).length := by omega
   rw [e2]
   exact kk
  refine qG (fun h1 => ?_) (fun h1 => ?_)
  ·obtain ⟨c, hc, hlt⟩ := at_lt h1
   refine ⟨_, rfl, _, rfl, a, _, _, _, rfl, rfl, hS, zU (bv_at hc), c, rfl, _, rfl, ?_⟩
   refine qG (fun hp => ?_) (fun hp => ?_)
   ·have e1 := tw_step (p := Kp110.inName) hc hp
    refine ⟨fun σ' H2 => σ' = [some (V.ref a), some (V.int (s0 : Int)), some (V.int ((k : Int) + 1))] /\ H2 = H', ?_, ?_⟩
    ·rintro σ' H2 ⟨rfl, rfl⟩
     exact ⟨_, (show bs.length - (k + 1) < bs.length - k by omega), k + 1, rfl, rfl, hlt, by omega, rfl⟩
    ·exact ⟨_, rfl, _, _, rfl, rfl, rfl, rfl⟩
   ·exact ⟨_, rfl, fin (tw_stop hc (Bool.eq_false_iff.mpr hp))⟩
  ·exact ⟨_, rfl, fin (tw_end (not_lt h1))⟩
theorem scNumberE : FnScope ["t", "start", "end"] ["t", "start"] (zJ sNumberE) := scK
theorem ok_numberE {f fN : Addr} {fd fdN : FuncData} (D : Dn K mg "number_end" sNumberE ["t", "start"] f fd) (G : Gs mg) (DN : Dn K mg "is_digit" sDigit ["byte"] fN fdN)
  (GN : FnOk P w K mg base (CXW P w) 1 fN fdN ["byte"] (spTest Kp110.digit)) : FnOk P w K mg base (CXW P w) 2 f fd ["t", "start"] (spEnd K Kp110.digit) := by
 refine D.fn.okW scNumberE (fun vs H Q E h => ?_) (fun cdv A outer s H vs Q E hr h => ?_)
 ·obtain ⟨a, bs, k, rfl, _⟩ := h
  rfl
 ·obtain ⟨a, bs, s0, rfl, hS, hs0, kk⟩ := h
  refine ⟨_, zB (qB (i := 2) scNumberE.nd rfl (Or.inl rfl) (pv 1)) (zB (ps_while ownW (PW.pt (pw_and (zM op_lt (pv 2) (yD G.len (pv 0)) (nomark _))
   (pw_and1 (pt_val (zO GN hr rfl DN.mgf DN.fn.kp DN.bi .nil qC (zA (qV yB (pv 0) (pv 2) (fun _ _ => rfl)) zE)))))) (zC (ps_aug (i := 2) scNumberE.nd rfl (Or.inl rfl) zQ ip_add))) (zC (zW (pv 2)))), ?_⟩
  refine ⟨_, rfl, RunW bs Kp110.digit a s0 H, ⟨bs.length - s0, s0, rfl, rfl, hs0, rfl, rfl⟩, ?_⟩
  rintro m σ H' ⟨k, rfl, rfl, hk, hrun, rfl⟩
  refine ⟨_, rfl, _, rfl, a, _, rfl, .inl hS, _, _, rfl, rfl, _, rfl, ?_⟩
  have fin : ((bs.drop k).takeWhile Kp110.digit).length = 0 -> Q (.int (k : Int)) H' := fun e => by
   have e2 : k = s0 + ((bs.drop s0).takeWhile Kp110.digit).length := by omega
   rw [e2]
   exact kk
  refine qG (fun h1 => ?_) (fun h1 => ?_)
  ·obtain ⟨c, hc, hlt⟩ := at_lt h1
   refine ⟨_, rfl, _, rfl, a, _, _, _, rfl, rfl, hS, zU (bv_at hc), c, rfl, _, rfl, ?_⟩
   refine qG (fun hp => ?_) (fun hp => ?_)
   ·have e1 := tw_step (p := Kp110.digit) hc hp
    refine ⟨fun σ' H2 => σ' = [some (V.ref a), some (V.int (s0 : Int)), some (V.int ((k : Int) + 1))] /\ H2 = H', ?_, ?_⟩
    ·rintro σ' H2 ⟨rfl, rfl⟩
     exact ⟨_, (show bs.length - (k + 1) < bs.length - k by omega), k + 1, rfl, rfl, hlt, by omega, rfl⟩
    ·exact ⟨_, rfl, _, _, rfl, rfl, rfl, rfl⟩
   ·exact ⟨_, rfl, fin (tw_stop hc (Bool.eq_false_iff.mpr hp))⟩
  ·exact ⟨_, rfl, fin (tw_end (not_lt h1))⟩
end
end SM
end
section
set_option Elab.async false
set_option linter.all false
set_option maxRecDepth 100000
set_option maxHeartbeats 2000000
namespace SM
open PySem PySem.Spec PyProof.Rows L2
abbrev sSignE : Stmt := top 78
abbrev sTokenE : Stmt := top 79
abbrev sLetterOf : Stmt := top 80
abbrev sSpell : Stmt := top 81
theorem cut_nat {xs : List V} {i j : Nat} (hi : i <= xs.length) : cutV xs (some (i : Int)) (some (j : Int)) = (xs.drop i).take (j - i) := by
 unfold cutV
 rw [HT.sIx_nat, HT.sIx_nat, Nat.min_eq_left hi]
 by_cases hj : j <= xs.length
 ·rw [Nat.min_eq_left hj]
 ·rw [Nat.min_eq_right (by omega), List.take_of_length_le (by rw [List.length_drop]; omega), List.take_of_length_le (by rw [List.length_drop]; omega)]
theorem bv_cut (bs : List Nat) (i n : Nat) : ((bv bs).drop i).take n = bv ((bs.drop i).take n) := by
 unfold bv
 rw [<- List.map_drop, <- List.map_take]
theorem upd_sm {H : Hp} {p : Addr} {o : HO} (h : H p = none) : Same H (upd H p o) := fun b u e => by
 rw [zF (zH e h)]
 exact e
def spSignE (K : PySem.W.Frag) : Sp := fun vs H Q _ => ∃ (a : Addr) (bs : List Nat) (k : Nat), vs = [.ref a, .int k] /\ qZ K H a (bv bs) /\ k < bs.length /\ ∀ H', Same H H' -> Q (.int ((k + (if (bs.drop k).take 2 = [61, 61] then 2 else 1) : Nat))) H'
def spTokenE (K : PySem.W.Frag) : Sp := fun vs H Q _ => ∃ (a : Addr) (bs : List Nat) (k : Nat), vs = [.ref a, .int k] /\ qZ K H a (bv bs) /\ k < bs.length /\ ∀ H', Same H H' -> Q (.int ((k + qI (bs.drop k) : Nat))) H'
def qA (bs : List Nat) : Str := ⟨bs.toArray⟩
def spLetterOf : Sp := fun vs H Q _ => ∃ b : Nat, vs = [.int b] /\ Kp110.inName b = true /\ Q (.str (qA [b])) H
def spSpell (K : PySem.W.Frag) : Sp := fun vs H Q _ => ∃ (a : Addr) (bs : List Nat), vs = [.ref a] /\ qZ K H a (bv bs) /\ bs.length <= 18 /\ (∀ b ∈ bs, Kp110.inName b = true) /\ ∀ H', Same H H' -> Q (.str (qA bs)) H'
def di (b : Nat) : PyData := .int (b : Int)
theorem dp_bytes {K : PySem.W.Frag} {H : Hp} : ∀ bs : List Nat, DpAll K H (bv bs) (bs.map di)
 | [] => .nil
 | b :: r => .cons (.int _) (dp_bytes r)
theorem eqv_bytes : ∀ bs cs : List Nat, PyData.eqvAll (bs.map di) (cs.map di) = decide (bs = cs)
 | [], [] => by simp [PyData.eqvAll]
 | [], _ :: _ => by simp [PyData.eqvAll]
 | _ :: _, [] => by simp [PyData.eqvAll]
 | b :: r, c :: q => by
  simp only [List.map_cons, PyData.eqvAll, di, PyData.eqv]
  rw [eqv_bytes r q]
  by_cases e : b = c
  ·subst e
   simp
  ·have e2 : ¬ (b : Int) = (c : Int) := by omega
   simp [e, e2]
section
variable {P : Program} {w : World} {K : PySem.W.Frag} {mg : Str -> Option Value} {base : Heap}
theorem scSignE : FnScope ["t", "start"] ["t", "start"] (zJ sSignE) := scK
theorem shaped_two (bs : List Nat) (h : bs.length <= 2) : SeqAt.shaped (.list (bs.map di)) = true := by
 match bs, h with
 | [], _ => rfl
 | [_], _ => rfl
 | [_, _], _ => rfl
 | _ :: _ :: _ :: _, h => simp at h
theorem ok_signE {f : Addr} {fd : FuncData} (D : Dn K mg "sign_end" sSignE ["t", "start"] f fd) (G : Gs mg) : FnOk P w K mg base (CXW P w) 1 f fd ["t", "start"] (spSignE K) := by
 refine D.fn.okW scSignE (fun vs H Q E h => ?_) (fun cdv A outer s H vs Q E hr h => ?_)
 ·obtain ⟨a, bs, k, rfl, _⟩ := h
  rfl
 ·obtain ⟨a, bs, k, rfl, hS, hk, kk⟩ := h
  refine ⟨_, zB (zZ (zM (op_eqD hr.units) (pe_slice sl_list (pv 0) (po_some (pv 1)) (po_some (pe_op op_add (pv 1) zQ))) (yC (zA (qL G.equals) (zA (qL G.equals) zE))) (nomark _))
   (zC (zW (pe_op op_add (pv 1) zQ))) zY) (zC (zW (pe_op op_add (pv 1) zQ))), ?_⟩
  refine ⟨_, rfl, _, rfl, _, rfl, _, rfl, _, _, rfl, rfl, _, rfl, a, _, rfl, hS, fun p hp => ?_⟩
  refine ⟨(by show 2 <= sizeLine; decide), fun q hq => ?_⟩
  have hcut : cutV (bv bs) (some (k : Int)) (some ((k : Int) + 2)) = bv ((bs.drop k).take 2) := by
   have := cut_nat (xs := bv bs) (i := k) (j := k + 2) (by rw [bv_len]; omega)
   rw [show ((k + 2 : Nat) : Int) = (k : Int) + 2 by omega] at this
   rw [this, show k + 2 - k = 2 by omega, bv_cut]
  have npq : p ≠ q := zH (o := .lst (cutV (bv bs) (some (k : Int)) (some ((k : Int) + 2)))) (zG) hq
  have s1 : Same H (upd (upd H p (.lst (cutV (bv bs) (some (k : Int)) (some ((k : Int) + 2))))) q (.lst [.int 61, .int 61])) := (upd_sm hp).trans (upd_sm hq)
  refine ⟨.list (((bs.drop k).take 2).map di), .list (([61, 61] : List Nat).map di), .lst (qZ.of (xs := bv ((bs.drop k).take 2)) ?_) (dp_bytes _), .lst (qZ.of (xs := bv [61, 61]) zG) (dp_bytes [61, 61]),
   shaped_two _ (by rw [List.length_take]; exact Nat.min_le_left _ _), rfl, _, rfl, ?_⟩
  ·rw [zF npq, zG, hcut]
  ·have e : PyData.eqv (.list (((bs.drop k).take 2).map di)) (.list (([61, 61] : List Nat).map di)) = decide ((bs.drop k).take 2 = [61, 61]) := by
    rw [PyData.eqv]
    exact eqv_bytes _ _
   rw [e]
   refine qG (fun h1 => ?_) (fun h1 => ?_)
   ·refine ⟨_, rfl, _, _, rfl, rfl, ?_⟩
    have := kk _ s1
    rw [if_pos (of_decide_eq_true h1)] at this
    exact this
   ·refine ⟨_, rfl, _, _, rfl, rfl, ?_⟩
    have := kk _ s1
    rw [if_neg (fun z => h1 (decide_eq_true z))] at this
    exact this
theorem scTokenE : FnScope ["t", "start"] ["t", "start"] (zJ sTokenE) := scK
theorem ok_tokenE {f fL fD fN fU fS : Addr} {fd fdL fdD fdN fdU fdS : FuncData} (D : Dn K mg "token_end" sTokenE ["t", "start"] f fd)
  (DL : Dn K mg "is_letter" sLetter ["byte"] fL fdL) (DD : Dn K mg "is_digit" sDigit ["byte"] fD fdD) (DN : Dn K mg "name_end" sNameE ["t", "start"] fN fdN) (DU : Dn K mg "number_end" sNumberE ["t", "start"] fU fdU) (DS : Dn K mg "sign_end" sSignE ["t", "start"] fS fdS)
  (GL : FnOk P w K mg base (CXW P w) 1 fL fdL ["byte"] (spTest Kp110.small)) (GD : FnOk P w K mg base (CXW P w) 1 fD fdD ["byte"] (spTest Kp110.digit)) (GN : FnOk P w K mg base (CXW P w) 3 fN fdN ["t", "start"] (spEnd K Kp110.inName))
  (GU : FnOk P w K mg base (CXW P w) 2 fU fdU ["t", "start"] (spEnd K Kp110.digit)) (GS : FnOk P w K mg base (CXW P w) 1 fS fdS ["t", "start"] (spSignE K)) : FnOk P w K mg base (CXW P w) 4 f fd ["t", "start"] (spTokenE K) := by
 refine D.fn.okW scTokenE (fun vs H Q E h => ?_) (fun cdv A outer s H vs Q E hr h => ?_)
 ·obtain ⟨a, bs, k, rfl, _⟩ := h
  rfl
 ·obtain ⟨a, bs, k, rfl, hS, hk, kk⟩ := h
  have hr1 : Room 1 _ := hr.mono (by decide)
  have hr2 : Room 2 _ := hr.mono (by decide)
  refine ⟨_, zB (zZ (pt_val (zO GL hr1 rfl DL.mgf DL.fn.kp DL.bi .nil qC (zA (qV yB (pv 0) (pv 1) (fun _ _ => rfl)) zE))) (zC (zW (zO GN hr rfl DN.mgf DN.fn.kp DN.bi .nil qC (zA (pv 0) (zA (pv 1) zE))))) zY)
   (zB (zZ (pt_val (zO GD hr1 rfl DD.mgf DD.fn.kp DD.bi .nil qC (zA (qV yB (pv 0) (pv 1) (fun _ _ => rfl)) zE))) (zC (zW (zO GU hr2 rfl DU.mgf DU.fn.kp DU.bi .nil qC (zA (pv 0) (zA (pv 1) zE))))) zY)
   (zC (zW (zO GS hr1 rfl DS.mgf DS.fn.kp DS.bi .nil qC (zA (pv 0) (zA (pv 1) zE)))))), ?_⟩
  obtain ⟨c, r, er⟩ : ∃ c r, bs.drop k = c :: r := by
   rw [List.drop_eq_getElem_cons hk]
   exact ⟨_, _, rfl⟩
  have hc : bs[k]? = some c := by
   have := congrArg List.head? er
   rw [List.head?_drop] at this
   exact this
  have kk' := kk H (Same.refl H)
  rw [er, runLen_cons] at kk'
  refine ⟨_, rfl, _, rfl, a, _, _, _, rfl, rfl, hS, zU (bv_at hc), c, rfl, _, rfl, ?_⟩
  refine qG (fun h1 => ?_) (fun h1 => ?_)
  ·rw [if_pos h1, <- er] at kk'
   exact ⟨_, rfl, _, rfl, a, bs, k, rfl, hS, Nat.le_of_lt hk, kk'⟩
  ·rw [if_neg h1] at kk'
   refine ⟨_, rfl, _, rfl, a, _, _, _, rfl, rfl, hS, zU (bv_at hc), c, rfl, _, rfl, ?_⟩
   refine qG (fun h2 => ?_) (fun h2 => ?_)
   ·rw [if_pos h2, <- er] at kk'
    exact ⟨_, rfl, _, rfl, a, bs, k, rfl, hS, Nat.le_of_lt hk, kk'⟩
   ·refine ⟨_, rfl, _, rfl, a, bs, k, rfl, hS, hk, fun H' s1 => ?_⟩
    have := kk H' s1
    rw [er, runLen_cons, if_neg h1, if_neg h2, <- er] at this
    exact this
theorem scLetterOf : FnScope ["byte"] ["byte"] (zJ sLetterOf) := scK
theorem letters_at : ∀ i : Fin 26, ("abcdefghijklmnopqrstuvwxyz" : Str).cps.toList[i.1]? = some (97 + i.1) := by decide +kernel
theorem digits_at : ∀ i : Fin 10, ("0123456789" : Str).cps.toList[i.1]? = some (48 + i.1) := by decide +kernel
theorem ok_letterOf {f fL fD : Addr} {fd fdL fdD : FuncData} (D : Dn K mg "letter_of" sLetterOf ["byte"] f fd) (G : Gs mg)
  (DL : Dn K mg "is_letter" sLetter ["byte"] fL fdL) (DD : Dn K mg "is_digit" sDigit ["byte"] fD fdD)
  (GL : FnOk P w K mg base (CXW P w) 1 fL fdL ["byte"] (spTest Kp110.small)) (GD : FnOk P w K mg base (CXW P w) 1 fD fdD ["byte"] (spTest Kp110.digit)) : FnOk P w K mg base (CXW P w) 2 f fd ["byte"] spLetterOf := by
 refine D.fn.okW scLetterOf (fun vs H Q E h => ?_) (fun cdv A outer s H vs Q E hr h => ?_)
 ·obtain ⟨b, rfl, _⟩ := h
  rfl
 ·obtain ⟨b, rfl, hb, kk⟩ := h
  refine ⟨_, zB (zZ (pt_val (zO GL hr rfl DL.mgf DL.fn.kp DL.bi .nil qC (zA (pv 0) zE))) (zC (zW (qV ix_str (pg_str G.letters) (pe_op op_sub (pv 0) (qL G.smallA)) (fun _ _ => rfl)))) zY)
   (zB (zZ (pt_val (zO GD hr rfl DD.mgf DD.fn.kp DD.bi .nil qC (zA (pv 0) zE))) (zC (zW (qV ix_str (pg_str G.digits) (pe_op op_sub (pv 0) (qL G.zero)) (fun _ _ => rfl)))) zY)
   (zC (zW zK))), ?_⟩
  refine ⟨_, rfl, b, rfl, _, rfl, ?_⟩
  refine qG (fun h1 => ?_) (fun h1 => ?_)
  ·unfold Kp110.small at h1
   obtain ⟨l1, l2⟩ := Bool.and_eq_true_iff.mp h1
   have l1 := of_decide_eq_true l1
   have l2 := of_decide_eq_true l2
   have e1 := letters_at ⟨b - 97, by omega⟩
   have e2 : 97 + (b - 97) = b := by omega
   rw [e2] at e1
   refine ⟨_, rfl, _, _, rfl, rfl, _, _, b, rfl, rfl, (by show (26 : Nat) <= sizeLine; decide), ?_, kk⟩
   rw [show ((b : Int) - 97) = ((b - 97 : Nat) : Int) by omega]
   exact zU e1
  ·refine ⟨_, rfl, b, rfl, _, rfl, ?_⟩
   refine qG (fun h2 => ?_) (fun h2 => ?_)
   ·unfold Kp110.digit at h2
    obtain ⟨l1, l2⟩ := Bool.and_eq_true_iff.mp h2
    have l1 := of_decide_eq_true l1
    have l2 := of_decide_eq_true l2
    have e1 := digits_at ⟨b - 48, by omega⟩
    have e2 : 48 + (b - 48) = b := by omega
    rw [e2] at e1
    refine ⟨_, rfl, _, _, rfl, rfl, _, _, b, rfl, rfl, (by show (10 : Nat) <= sizeLine; decide), ?_, kk⟩
    rw [show ((b : Int) - 48) = ((b - 48 : Nat) : Int) by omega]
    exact zU e1
   ·have e : b = 95 := by
     unfold Kp110.inName at hb
     rw [Bool.eq_false_iff.mpr h1, Bool.eq_false_iff.mpr h2, Bool.false_or, Bool.false_or] at hb
     exact eq_of_beq hb
    subst e
    exact kk
theorem joinL_one : ∀ bs : List Nat, TL.joinL [] (bs.map fun b => [b]) = bs
 | [] => rfl
 | [b] => rfl
 | b :: c :: r => by
  show [b] ++ ([] ++ TL.joinL [] (([c] :: r.map fun b => [b]))) = _
  have := joinL_one (c :: r)
  rw [List.map_cons] at this
  rw [this]
  rfl
theorem join_letters (bs : List Nat) : Txt.join "" (bs.map fun b => qA [b]) = qA bs := by
 refine TL.ext_tl ?_
 rw [TL.join_eq, TL.tl_join, List.map_map]
 exact joinL_one bs
theorem sum_ones (bs : List Nat) : ((bs.map fun b => qA [b]).map (·.length)).sum = bs.length := by
 induction bs with
 | nil => rfl
 | cons b r ih =>
  simp only [List.map_cons, List.sum_cons, List.length_cons] at ih ⊢
  rw [ih]
  show 1 + r.length = _
  omega
theorem take_more {α : Type} {l : List α} {i : Nat} {x : α} (h : l[i]? = some x) : l.take (i + 1) = l.take i ++ [x] := by
 obtain ⟨hi, e⟩ := List.getElem?_eq_some_iff.mp h
 rw [List.take_succ, h]
 rfl
theorem scSpell : FnScope ["piece", "byte"] ["piece"] (zJ sSpell) := scK
theorem ok_spell {f fO : Addr} {fd fdO : FuncData} (D : Dn K mg "spell" sSpell ["piece"] f fd) (DO : Dn K mg "letter_of" sLetterOf ["byte"] fO fdO) (GO : FnOk P w K mg base (CXW P w) 2 fO fdO ["byte"] spLetterOf) :
  FnOk P w K mg base (CXW P w) 3 f fd ["piece"] (spSpell K) := by
 refine D.fn.okW scSpell (fun vs H Q E h => ?_) (fun cdv A outer s H vs Q E hr h => ?_)
 ·obtain ⟨a, bs, rfl, _⟩ := h
  rfl
 ·obtain ⟨a, bs, rfl, hS, hlen, hall, kk⟩ := h
  refine ⟨_, zC (zW (pe_join zK (pe_lc (own := [("byte", 1)]) rfl scSpell.nd (pi_list (pv 0)) (show BlkOk ["piece", "byte"] (zJ sSpell) _ [("byte", 1)] from ⟨rfl, by decide +kernel, by decide +kernel, by decide +kernel, by decide +kernel⟩)
   (fun _ _ _ _ _ => pg_name (i := 1) scSpell.nd rfl (Or.inl rfl)) (fun _ _ _ _ _ => pts_nil) (fun _ _ _ _ _ => zO GO hr rfl DO.mgf DO.fn.kp DO.bi .nil qC (zA (pv 1) zE))))), ?_⟩
  refine ⟨⟨_, rfl⟩, _, rfl, a, rfl, ⟨_, hS⟩, fun l hl => lc_list (K := K) (a := a) (xs := bv bs) (fun i H' => H' l = some (.lst ((bs.take i).map fun b => V.str (qA [b]))) /\ Same H H') ⟨zG, upd_sm hl⟩ (fun i H' _ h => h.2.seq hS) ?_ ?_⟩
  ·rintro i x H' hx ⟨h1, h2⟩
   obtain ⟨b, hb, rfl⟩ : ∃ b, bs[i]? = some b /\ x = V.int (b : Int) := by
    unfold bv at hx
    rw [List.getElem?_map] at hx
    cases e : bs[i]? with
    | none => rw [e] at hx; cases hx
    | some b =>
     rw [e] at hx
     exact ⟨b, rfl, (Option.some.inj hx).symm⟩
   refine ⟨rfl, ?_⟩
   unfold tYes
   dsimp only
   rw [if_pos rfl]
   refine ⟨_, rfl, b, rfl, hall b (List.mem_of_getElem? hb), _, h1, ?_, ?_, ?_⟩
   ·rw [List.length_map, List.length_take]
    exact small1000 (by omega)
   ·rw [zG, take_more hb, List.map_append]
    rfl
   ·exact fun c o e => by
     rw [zF (zH e hl)]
     exact h2 c o e
  ·rintro H' ⟨h1, h2⟩
   rw [bv_len, List.take_length] at h1
   refine ⟨_, l, bs.map fun b => qA [b], rfl, rfl, .inl (qZ.of ?_), ?_, ?_⟩
   ·rw [h1, List.map_map]
    rfl
   ·rw [sum_ones]
    show bs.length + (bs.map fun b => qA [b]).length * 0 <= 16777216
    omega
   ·rw [join_letters]
    exact kk H' h2
end
end SM
end
section
set_option Elab.async false
set_option linter.all false
set_option maxRecDepth 100000
set_option maxHeartbeats 2000000
namespace SM
open PySem PySem.Spec PyProof.Rows L2
open Kp110 (Bytes words small digit inName bytesOf)
abbrev sNameT : Stmt := top 82
abbrev sNumberT : Stmt := top 83
abbrev sSignT : Stmt := top 84
abbrev sTokenOf : Stmt := top 85
def KD (K : PySem.W.Frag) (a : Addr) (kvs : List (Key × V)) : Prop := (a == sysModules) = false /\ ∀ (P : Program) (w : World) (h : Heap), K.In h -> ∃ vs, KV kvs vs /\ h.DictOf (yF P w) a vs
section
variable {X : Cx} {o i : Expr} {td ty : TE} {pos : Pos}
def tKGet (K : PySem.W.Frag) (td ty : TE) : TE := fun σ H Q => td σ H fun x H1 => ty σ H1 fun y H2 => ∃ a kvs k v, x = .ref a /\ KD K a kvs /\ y = kV k /\ valV kvs k = some v /\ Q v H2
theorem pe_kget (hu : X.A.units + 1 < cLine) (ho : PE X o td) (hi : PE X i ty) (hs : NoSl i) : PE X (.Subscript o i pos) (tKGet X.K td ty) := by
 intro pins s σ H Q I h
 refine subD_of PySem.F.slot_dict_getitem.lookup hs (thn (ho pins s σ H _ I h) fun u s1 ⟨x, H1, I1, rx, q1⟩ => thn (hi pins s1 σ H1 _ I1 q1) fun iv s2 ⟨y, H2, I2, ry, a, kvs, k, v, ex, g, ey, l, q2⟩ => ?_)
 subst ex ey
 obtain rfl : u = Value.ref a := rx
 obtain ⟨vs, rel, dd⟩ := g.2 X.prog X.w s2.heap I2.kIn
 obtain ⟨w', hw, rw'⟩ := RelO.some_of (v := v) (o := valueAt vs k) (by rw [<- l]; exact rel.val k)
 exact ⟨dd.typeIs, wpAny_getItem_of (kV_is ry) dd.mapOf hw ⟨v, H2, I2.tok _, rw', q2⟩⟩
def tKNotIn (K : PySem.W.Frag) (ty td : TE) : TE := fun σ H Q => ty σ H fun y H1 => td σ H1 fun x H2 => ∃ a kvs k, x = .ref a /\ KD K a kvs /\ y = kV k /\ Q (.bl (!(valV kvs k).isSome)) H2
theorem pc_knotin (hu : X.A.units + 1 < cLine) (hi : PE X i ty) (ho : PE X o td) : PC X .NotIn i o (tKNotIn X.K ty td) := by
 intro pins s σ H Q I h
 refine thn (hi pins s σ H _ I h) fun iv s1 ⟨y, H1, I1, ry, q1⟩ => thn (ho pins s1 σ H1 _ I1 q1) fun u s2 ⟨x, H2, I2, rx, a, kvs, k, ex, g, ey, q2⟩ => ?_
 subst ex ey
 obtain rfl : u = Value.ref a := rx
 obtain ⟨vs, rel, dd⟩ := g.2 X.prog X.w s2.heap I2.kIn
 refine wpAny_notIn_of (kV_is ry) g.1 dd.mapOf ?_
 refine ⟨.bl (!(valV kvs k).isSome), H2, I2.tok _, ?_, q2⟩
 show Value.bool _ = Value.bool _
 rw [(rel.val k).isSome_eq]
end
def signS (b : Bytes) : Str := if b = [37] then "rest" else qA b
def qW (t : Kp110.Tok) : Str := if t.kind = 0 then "name" else if t.kind = 1 then "number" else signS t.text
def yQ (t : Kp110.Tok) : Str := if t.kind = 2 then signS t.text else qA t.text
def TokAt (H : Hp) (p : Addr) (t : Kp110.Tok) : Prop := H p = some (.tup [.str (qW t), .str (yQ t)])
def wordsV : List V := [.str "fn", .str "let", .str "if", .str "else", .str "while", .str "return", .str "put", .str "get"]
def signsKV : List (Key × V) := [(.inl 33, .str "!"), (.inl 37, .str "rest"), (.inl 40, .str "("), (.inl 41, .str ")"), (.inl 42, .str "*"), (.inl 43, .str "+"), (.inl 44, .str ","), (.inl 45, .str "-"), (.inl 47, .str "/"),
 (.inl 59, .str ";"), (.inl 60, .str "<"), (.inl 61, .str "="), (.inl 123, .str "{"), (.inl 125, .str "}")]
theorem wordsV_eq : wordsV = words.map fun b => V.str (qA b) := by decide +kernel
theorem strOf_beq (a b : Bytes) : (qA a == qA b) = (a == b) := by
 by_cases e : a = b
 ·subst e
  rw [beq_self_eq_true, beq_self_eq_true]
 ·have e2 : ¬ qA a = qA b := fun z => e (by
   have := congrArg (fun x : Str => x.cps.toList) z
   exact this)
  rw [beq_eq_false_iff_ne.mpr e, beq_eq_false_iff_ne.mpr e2]
theorem in_texts (b : Bytes) : ∀ ws : List Bytes, inV (.str (qA b)) (ws.map fun b => V.str (qA b)) = ws.contains b
 | [] => rfl
 | a :: r => by
  have ih := in_texts b r
  unfold inV at ih ⊢
  rw [List.map_cons, List.any_cons, ih, List.contains_cons]
  show ((qA a == qA b) || _) = _
  rw [strOf_beq, Bool.beq_comm]
theorem in_words (b : Bytes) : inV (.str (qA b)) wordsV = words.contains b := by
 rw [wordsV_eq]
 exact in_texts b words
theorem signs_at (c : Nat) : valV signsKV (Sum.inl (c : Int)) = if Kp110.signs.contains c then some (.str (signS [c])) else none := by
 by_cases h : c < 126
 ·have := (show ∀ i : Fin 126, valV signsKV (Sum.inl ((i.1 : Nat) : Int)) = if Kp110.signs.contains i.1 then some (.str (signS [i.1])) else none from by decide +kernel) ⟨c, h⟩
  exact this
 ·have h1 : Kp110.signs.contains c = false := by
   rw [Bool.eq_false_iff]
   intro z
   have z : c ∈ Kp110.signs := by simpa using z
   have : ∀ x ∈ Kp110.signs, x < 126 := by decide +kernel
   exact h (this c z)
  rw [h1]
  cases q : valV signsKV (Sum.inl (c : Int)) with
  | none => rfl
  | some v =>
   have z := valV_in q
   have : ∀ k ∈ signsKV.map (·.1), ∃ n : Nat, n < 126 /\ k = Sum.inl (n : Int) := by
    intro k hk
    have hk : k ∈ ([Sum.inl 33, Sum.inl 37, Sum.inl 40, Sum.inl 41, Sum.inl 42, Sum.inl 43, Sum.inl 44, Sum.inl 45, Sum.inl 47, Sum.inl 59, Sum.inl 60, Sum.inl 61, Sum.inl 123, Sum.inl 125] : List Key) := hk
    simp only [List.mem_cons, List.not_mem_nil, or_false] at hk
    rcases hk with rfl | rfl | rfl | rfl | rfl | rfl | rfl | rfl | rfl | rfl | rfl | rfl | rfl | rfl
    ·exact ⟨33, by decide, rfl⟩
    ·exact ⟨37, by decide, rfl⟩
    ·exact ⟨40, by decide, rfl⟩
    ·exact ⟨41, by decide, rfl⟩
    ·exact ⟨42, by decide, rfl⟩
    ·exact ⟨43, by decide, rfl⟩
    ·exact ⟨44, by decide, rfl⟩
    ·exact ⟨45, by decide, rfl⟩
    ·exact ⟨47, by decide, rfl⟩
    ·exact ⟨59, by decide, rfl⟩
    ·exact ⟨60, by decide, rfl⟩
    ·exact ⟨61, by decide, rfl⟩
    ·exact ⟨123, by decide, rfl⟩
    ·exact ⟨125, by decide, rfl⟩
   obtain ⟨n, hn, e⟩ := this _ z
   have := Sum.inl.inj e
   omega
structure Tb (K : PySem.W.Frag) (mg : Str -> Option Value) (cNP aW aS : Addr) : Prop where
 np : mg "NoProgram" = some (.ref cNP)
 npD : excD K cNP = true
 words : mg "WORDS" = some (.ref aW)
 wordsT : ∀ H, SqT K H aW wordsV
 signs : mg "SIGNS" = some (.ref aS)
 signsD : KD K aS signsKV
def spTok (K : PySem.W.Frag) (cNP : Addr) (pre : Bytes -> Prop) : Sp := fun vs H Q E => ∃ (a : Addr) (bs : List Nat), vs = [.ref a] /\ qZ K H a (bv bs) /\ pre bs /\
 (mkTok 0 bs = none -> ∀ H', E (.ref cNP) none H') /\ ∀ t, mkTok 0 bs = some t -> ∀ H' p, Same H H' -> TokAt H' p t -> Q (.ref p) H'
def preName (bs : Bytes) : Prop := ∃ c r, bs = c :: r /\ small c = true /\ ∀ b ∈ bs, inName b = true
def preNumber (bs : Bytes) : Prop := ∃ c r, bs = c :: r /\ small c = false /\ digit c = true /\ ∀ b ∈ bs, digit b = true
def preSign (bs : Bytes) : Prop := ∃ c r, bs = c :: r /\ small c = false /\ digit c = false /\ (r = [] ∨ bs = [61, 61])
def preTok (bs : Bytes) : Prop := preName bs ∨ preNumber bs ∨ preSign bs
theorem digit_name {b : Nat} (h : digit b = true) : inName b = true := by
 unfold Kp110.inName
 rw [h, Bool.or_true]
 rfl
section
variable {P : Program} {w : World} {K : PySem.W.Frag} {mg : Str -> Option Value} {base : Heap}
theorem scNameT : FnScope ["piece", "spelled"] ["piece"] (zJ sNameT) := scK
theorem ok_nameT {f fS cNP aW aS : Addr} {fd fdS : FuncData} (D : Dn K mg "name_token" sNameT ["piece"] f fd) (G : Gs mg) (T : Tb K mg cNP aW aS) (DS : Dn K mg "spell" sSpell ["piece"] fS fdS) (GS : FnOk P w K mg base (CXW P w) 3 fS fdS ["piece"] (spSpell K)) :
  FnOk P w K mg base (CXW P w) 4 f fd ["piece"] (spTok K cNP preName) := by
 refine D.fn.okW scNameT (fun vs H Q E h => ?_) (fun cdv A outer s H vs Q E hr h => ?_)
 ·obtain ⟨a, bs, rfl, _⟩ := h
  rfl
 ·obtain ⟨a, bs, rfl, hS, ⟨c, r, hbs, hc, hall⟩, kE, kk⟩ := h
  refine ⟨_, zB (zZ (zM op_gt (yD G.len (pv 0)) (qL G.longName) (nomark _)) (zC (qF makeW rfl rfl T.np T.npD)) zY)
   (zB (qB (i := 1) scNameT.nd rfl (Or.inl rfl) (zO GS hr rfl DS.mgf DS.fn.kp DS.bi .nil qC (zA (pv 0) zE)))
   (zB (zZ (zM op_in_seq (pv 1) (pg_ref T.words) rfl) (zC (zW (pe_tup (zA (pv 1) (zA (pv 1) zE))))) zY)
   (zC (zW (pe_tup (zA zK (zA (pv 1) zE))))))), ?_⟩
  refine ⟨_, rfl, a, _, rfl, .inl hS, _, _, rfl, rfl, _, rfl, ?_⟩
  refine qG (fun h1 => ?_) (fun h1 => ?_)
  ·have h1 := of_decide_eq_true h1
   rw [bv_len] at h1
   refine kE ?_ H
   subst hbs
   rw [mkTok_cons, if_pos hc, if_pos (by omega)]
  ·have h1 : ¬ ((16 : Int) < ((bv bs).length : Int)) := fun z => h1 (decide_eq_true z)
   rw [bv_len] at h1
   have hmk : mkTok 0 bs = some ⟨if words.contains bs then 2 else 0, bs, 0⟩ := by
    subst hbs
    rw [mkTok_cons, if_pos hc, if_neg (by omega)]
   refine ⟨_, rfl, a, bs, rfl, hS, by omega, hall, fun H1 s1 => ?_⟩
   refine ⟨_, rfl, aW, wordsV, rfl, .inr (T.wordsT _), rfl, (by decide +kernel), _, rfl, ?_⟩
   rw [if_neg Bool.false_ne_true, in_words]
   refine qG (fun h2 => ?_) (fun h2 => ?_)
   ·refine ⟨_, rfl, _, rfl, (by show 2 <= sizeLine; decide), fun p hp => kk _ hmk _ p (s1.trans (upd_sm hp)) ?_⟩
    have ne : bs ≠ [37] := fun z => by
     rw [hbs] at z
     cases z
     exact absurd hc (by decide)
    unfold TokAt
    rw [zG]
    simp only [qW, yQ, signS, h2, if_true, ne, if_false]
    rfl
   ·refine ⟨_, rfl, (by show 2 <= sizeLine; decide), fun p hp => kk _ hmk _ p (s1.trans (upd_sm hp)) ?_⟩
    unfold TokAt
    rw [zG]
    simp only [qW, yQ, h2]
    rfl
theorem scNumberT : FnScope ["piece"] ["piece"] (zJ sNumberT) := scK
theorem ok_numberT {f fS cNP aW aS : Addr} {fd fdS : FuncData} (D : Dn K mg "number_token" sNumberT ["piece"] f fd) (G : Gs mg) (T : Tb K mg cNP aW aS) (DS : Dn K mg "spell" sSpell ["piece"] fS fdS) (GS : FnOk P w K mg base (CXW P w) 3 fS fdS ["piece"] (spSpell K)) :
  FnOk P w K mg base (CXW P w) 4 f fd ["piece"] (spTok K cNP preNumber) := by
 refine D.fn.okW scNumberT (fun vs H Q E h => ?_) (fun cdv A outer s H vs Q E hr h => ?_)
 ·obtain ⟨a, bs, rfl, _⟩ := h
  rfl
 ·obtain ⟨a, bs, rfl, hS, ⟨c, r, hbs, hc, hd, hall⟩, kE, kk⟩ := h
  have hmk : mkTok 0 bs = if 18 < bs.length ∨ (c = 48 /\ 1 < bs.length) then none else some ⟨1, bs, 0⟩ := by
   subst hbs
   rw [mkTok_cons, hc, hd]
   rfl
  have hat : bs[0]? = some c := by rw [hbs]; rfl
  refine ⟨_, zB (zZ (zM op_gt (yD G.len (pv 0)) (qL G.longNumber) (nomark _)) (zC (qF makeW rfl rfl T.np T.npD)) zY)
   (zB (zZ (PW.pt (pw_and (zM qE (qV yB (pv 0) zQ (fun _ _ => rfl)) (qL G.zero) (nomark _)) (pw_and1 (zM op_gt (yD G.len (pv 0)) zQ (nomark _))))) (zC (qF makeW rfl rfl T.np T.npD)) zY)
   (zC (zW (pe_tup (zA zK (zA (zO GS hr rfl DS.mgf DS.fn.kp DS.bi .nil qC (zA (pv 0) zE)) zE)))))), ?_⟩
  refine ⟨_, rfl, a, _, rfl, .inl hS, _, _, rfl, rfl, _, rfl, ?_⟩
  refine qG (fun h1 => ?_) (fun h1 => ?_)
  ·have h1 := of_decide_eq_true h1
   rw [bv_len] at h1
   refine kE ?_ H
   rw [hmk, if_pos (.inl (by omega))]
  ·have h1 : ¬ ((18 : Int) < ((bv bs).length : Int)) := fun z => h1 (decide_eq_true z)
   rw [bv_len] at h1
   have fin : ¬ (c = 48 /\ 1 < bs.length) -> spSpell K [.ref a] H (fun v H1 => ([V.str "number", v] : List V).length <= sizeLine /\ ∀ p, H1 p = none -> Q (.ref p) (upd H1 p (.tup [V.str "number", v]))) E0 := fun hz =>
    ⟨a, bs, rfl, hS, by omega, fun b hb => digit_name (hall b hb), fun H1 s1 => ⟨(by show 2 <= sizeLine; decide), fun p hp => kk ⟨1, bs, 0⟩ (by rw [hmk, if_neg (by omega)]) _ p (s1.trans (upd_sm hp)) (by unfold TokAt; rw [zG]; rfl)⟩⟩
   refine ⟨_, rfl, a, _, _, _, rfl, rfl, hS, zU (j := 0) (bv_at hat), rfl, _, rfl, ?_⟩
   refine qG (fun h2 => ?_) (fun h2 => ?_)
   ·have h2 : c = 48 := by
     have := of_decide_eq_true h2
     have := V.int.inj this
     omega
    refine ⟨_, rfl, a, _, rfl, .inl hS, _, _, rfl, rfl, _, rfl, ?_⟩
    refine qG (fun h3 => ?_) (fun h3 => ?_)
    ·have h3 := of_decide_eq_true h3
     rw [bv_len] at h3
     refine kE ?_ H
     rw [hmk, if_pos (.inr ⟨h2, by omega⟩)]
    ·have h3 : ¬ ((1 : Int) < ((bv bs).length : Int)) := fun z => h3 (decide_eq_true z)
     rw [bv_len] at h3
     exact ⟨_, rfl, fin fun z => h3 (by omega)⟩
   ·dsimp only
    rw [if_neg Bool.false_ne_true]
    have h2 : ¬ c = 48 := fun z => h2 (decide_eq_true (by rw [z]; rfl))
    exact ⟨_, rfl, fin fun z => h2 z.1⟩
theorem scSignT : FnScope ["piece", "sign"] ["piece"] (zJ sSignT) := scK
theorem ok_signT {f cNP aW aS : Addr} {fd : FuncData} (D : Dn K mg "sign_token" sSignT ["piece"] f fd) (G : Gs mg) (T : Tb K mg cNP aW aS) : FnOk P w K mg base (CXW P w) 1 f fd ["piece"] (spTok K cNP preSign) := by
 refine D.fn.okW scSignT (fun vs H Q E h => ?_) (fun cdv A outer s H vs Q E hr h => ?_)
 ·obtain ⟨a, bs, rfl, _⟩ := h
  rfl
 ·obtain ⟨a, bs, rfl, hS, ⟨c, r, hbs, hc, hd, hp⟩, kE, kk⟩ := h
  have hu := hu_of hr
  have hat : bs[0]? = some c := by rw [hbs]; rfl
  refine ⟨_, zB (zZ (zM qE (yD G.len (pv 0)) zQ (nomark _)) (zC (zW (pe_tup (zA zK (zA zK zE))))) zY)
   (zB (zZ (pt_cmp (pc_knotin hu (qV yB (pv 0) zQ (fun _ _ => rfl)) (pg_ref T.signs))) (zC (qF makeW rfl rfl T.np T.npD)) zY)
   (zB (qB (i := 1) scSignT.nd rfl (Or.inl rfl) (pe_kget hu (pg_ref T.signs) (qV yB (pv 0) zQ (fun _ _ => rfl)) (fun _ _ => rfl)))
   (zC (zW (pe_tup (zA (pv 1) (zA (pv 1) zE))))))), ?_⟩
  refine ⟨_, rfl, a, _, rfl, .inl hS, rfl, _, rfl, ?_⟩
  refine qG (fun h1 => ?_) (fun h1 => ?_)
  ·have h1 : bs.length = 2 := by
    have := V.int.inj (of_decide_eq_true h1)
    rw [bv_len] at this
    omega
   have e : bs = [61, 61] := by
    rcases hp with rfl | e
    ·rw [hbs] at h1; simp at h1
    ·exact e
   subst e
   exact ⟨(by show 2 <= sizeLine; decide), fun p hp => kk ⟨2, [61, 61], 0⟩ rfl _ p (upd_sm hp) (by unfold TokAt; rw [zG]; rfl)⟩
  ·have h1 : ¬ bs.length = 2 := fun z => h1 (decide_eq_true (by rw [bv_len, z]; rfl))
   obtain rfl : r = [] := by
    rcases hp with e | e
    ·exact e
    ·rw [e] at h1; exact absurd rfl h1
   subst hbs
   have hmk : mkTok 0 [c] = if Kp110.signs.contains c then some ⟨2, [c], 0⟩ else none := by
    rw [mkTok_cons, hc, hd]
    rfl
   refine ⟨_, rfl, a, _, _, _, rfl, rfl, hS, zU (j := 0) (bv_at hat), aS, signsKV, Sum.inl (c : Int), rfl, T.signsD, rfl, _, rfl, ?_⟩
   rw [signs_at]
   cases hs : Kp110.signs.contains c with
   | false =>
    rw [hs] at hmk
    exact yJ (kE hmk H)
   | true =>
    rw [hs] at hmk
    refine zN ?_
    refine ⟨_, rfl, a, _, _, _, rfl, rfl, hS, zU (j := 0) (bv_at hat), aS, signsKV, Sum.inl (c : Int), .str (signS [c]), rfl, T.signsD, rfl, (by rw [signs_at, hs]; rfl), ?_⟩
    exact ⟨_, rfl, _, rfl, (by show 2 <= sizeLine; decide), fun p hp => kk ⟨2, [c], 0⟩ hmk _ p (upd_sm hp) (by unfold TokAt; rw [zG]; rfl)⟩
end
end SM
end
section
set_option Elab.async false
set_option linter.all false
set_option maxRecDepth 100000
set_option maxHeartbeats 2000000
namespace SM
open PySem PySem.Spec PyProof.Rows L2
open Kp110 (Bytes words small digit inName bytesOf)
abbrev sPart : Stmt := top 86
theorem mkTok_at (a : Nat) (p : Bytes) : mkTok a p = (mkTok 0 p).map fun t => { t with at_ := a } := by
 cases p with
 | nil => rfl
 | cons c r =>
  rw [mkTok_cons, mkTok_cons]
  split
  ·split <;> rfl
  ·split
   ·split <;> rfl
   ·split
    ·rfl
    ·split <;> rfl
theorem pre_run (c : Nat) (r : Bytes) : preTok ((c :: r).take (qI (c :: r))) := by
 rw [runLen_cons]
 by_cases hs : small c = true
 ·rw [if_pos hs, take_tw]
  refine .inl ⟨c, r.takeWhile inName, ?_, hs, fun b hb => ?_⟩
  ·rw [List.takeWhile_cons, small_name hs]
   rfl
  ·have := List.all_takeWhile (p := inName) (l := c :: r)
   exact List.all_eq_true.mp this b hb
 ·rw [if_neg hs]
  have hs' : small c = false := Bool.eq_false_iff.mpr hs
  by_cases hd : digit c = true
  ·rw [if_pos hd, take_tw]
   refine .inr (.inl ⟨c, r.takeWhile digit, ?_, hs', hd, fun b hb => ?_⟩)
   ·rw [List.takeWhile_cons, hd]
    rfl
   ·have := List.all_takeWhile (p := digit) (l := c :: r)
    exact List.all_eq_true.mp this b hb
  ·rw [if_neg hd]
   have hd' : digit c = false := Bool.eq_false_iff.mpr hd
   by_cases h2 : (c :: r).take 2 = [61, 61]
   ·rw [if_pos h2, h2]
    exact .inr (.inr ⟨61, [61], rfl, by decide, by decide, .inr rfl⟩)
   ·rw [if_neg h2]
    exact .inr (.inr ⟨c, [], rfl, hs', hd', .inl rfl⟩)
def TokL (H : Hp) : List Addr -> List Kp110.Tok -> Prop := Paired (fun p t => TokAt H p t)
theorem TokL.mono {H H' : Hp} (h : ∀ p t, TokAt H p t -> TokAt H' p t) {ps : List Addr} {ts : List Kp110.Tok} (x : TokL H ps ts) : TokL H' ps ts := Paired.mapP x h
theorem paired_snoc {α β : Type} {F : α -> β -> Prop} {a : α} {b : β} (h : F a b) : ∀ {l : List α} {m : List β}, Paired F l m -> Paired F (l ++ [a]) (m ++ [b])
 | _, _, .nil => .cons h .nil
 | _, _, .cons r t => .cons r (paired_snoc h t)
theorem TokL.len {H : Hp} {ps : List Addr} {ts : List Kp110.Tok} (x : TokL H ps ts) : ps.length = ts.length := Paired.length x
section
variable {P : Program} {w : World} {K : PySem.W.Frag} {mg : Str -> Option Value} {base : Heap}
theorem scTokenOf : FnScope ["piece"] ["piece"] (zJ sTokenOf) := scK
theorem ok_tokenOf {f fL fD fN fU fS cNP : Addr} {fd fdL fdD fdN fdU fdS : FuncData} (D : Dn K mg "token_of" sTokenOf ["piece"] f fd)
  (DL : Dn K mg "is_letter" sLetter ["byte"] fL fdL) (DD : Dn K mg "is_digit" sDigit ["byte"] fD fdD) (DN : Dn K mg "name_token" sNameT ["piece"] fN fdN) (DU : Dn K mg "number_token" sNumberT ["piece"] fU fdU) (DS : Dn K mg "sign_token" sSignT ["piece"] fS fdS)
  (GL : FnOk P w K mg base (CXW P w) 1 fL fdL ["byte"] (spTest Kp110.small)) (GD : FnOk P w K mg base (CXW P w) 1 fD fdD ["byte"] (spTest Kp110.digit)) (GN : FnOk P w K mg base (CXW P w) 4 fN fdN ["piece"] (spTok K cNP preName))
  (GU : FnOk P w K mg base (CXW P w) 4 fU fdU ["piece"] (spTok K cNP preNumber)) (GS : FnOk P w K mg base (CXW P w) 1 fS fdS ["piece"] (spTok K cNP preSign)) : FnOk P w K mg base (CXW P w) 5 f fd ["piece"] (spTok K cNP preTok) := by
 refine D.fn.okW scTokenOf (fun vs H Q E h => ?_) (fun cdv A outer s H vs Q E hr h => ?_)
 ·obtain ⟨a, bs, rfl, _⟩ := h
  rfl
 ·obtain ⟨a, bs, rfl, hS, hp, kE, kk⟩ := h
  have hr1 : Room 1 _ := hr.mono (by decide)
  refine ⟨_, zB (zZ (pt_val (zO GL hr1 rfl DL.mgf DL.fn.kp DL.bi .nil qC (zA (qV yB (pv 0) zQ (fun _ _ => rfl)) zE))) (zC (zW (zO GN hr rfl DN.mgf DN.fn.kp DN.bi .nil zT (zA (pv 0) zE)))) zY)
   (zB (zZ (pt_val (zO GD hr1 rfl DD.mgf DD.fn.kp DD.bi .nil qC (zA (qV yB (pv 0) zQ (fun _ _ => rfl)) zE))) (zC (zW (zO GU hr rfl DU.mgf DU.fn.kp DU.bi .nil zT (zA (pv 0) zE)))) zY)
   (zC (zW (zO GS hr1 rfl DS.mgf DS.fn.kp DS.bi .nil zT (zA (pv 0) zE))))), ?_⟩
  obtain ⟨c, r, hbs⟩ : ∃ c r, bs = c :: r := by
   rcases hp with ⟨c, r, e, _⟩ | ⟨c, r, e, _⟩ | ⟨c, r, e, _⟩ <;> exact ⟨c, r, e⟩
  have hat : bs[0]? = some c := by rw [hbs]; rfl
  refine ⟨_, rfl, a, _, _, _, rfl, rfl, hS, zU (j := 0) (bv_at hat), c, rfl, _, rfl, ?_⟩
  refine qG (fun h1 => ?_) (fun h1 => ?_)
  ·refine ⟨_, rfl, a, bs, rfl, hS, ?_, kE, kk⟩
   rcases hp with h | ⟨c', r', e, z, _⟩ | ⟨c', r', e, z, _⟩
   ·exact h
   ·rw [hbs] at e; cases e; rw [h1] at z; cases z
   ·rw [hbs] at e; cases e; rw [h1] at z; cases z
  ·refine ⟨_, rfl, a, _, _, _, rfl, rfl, hS, zU (j := 0) (bv_at hat), c, rfl, _, rfl, ?_⟩
   refine qG (fun h2 => ?_) (fun h2 => ?_)
   ·refine ⟨_, rfl, a, bs, rfl, hS, ?_, kE, kk⟩
    rcases hp with ⟨c', r', e, z, _⟩ | h | ⟨c', r', e, z, z2, _⟩
    ·rw [hbs] at e; cases e; exact absurd z h1
    ·exact h
    ·rw [hbs] at e; cases e; rw [h2] at z2; cases z2
   ·refine ⟨_, rfl, a, bs, rfl, hS, ?_, kE, kk⟩
    rcases hp with ⟨c', r', e, z, _⟩ | ⟨c', r', e, z, z2, _⟩ | h
    ·rw [hbs] at e; cases e; exact absurd z h1
    ·rw [hbs] at e; cases e; exact absurd z2 h2
    ·exact h
def spPart (K : PySem.W.Frag) (cNP : Addr) : Sp := fun vs H Q E => ∃ (a : Addr) (bs : List Nat), vs = [.ref a] /\ qZ K H a (bv bs) /\ bs.length <= 8192 /\
 (lexF 0 bs = none -> ∀ H', E (.ref cNP) none H') /\ ∀ ts, lexF 0 bs = some ts -> ∀ H' l ps, Same H H' -> H' l = some (.lst (ps.map V.ref)) -> TokL H' ps ts -> Q (.ref l) H'
structure PartW (bs : List Nat) (H : Hp) (a l : Addr) (m : Nat) (σ : L2.St) (H' : Hp) : Prop where
 ex : ∃ (k : Nat) (v : Option V) (ps : List Addr) (ts : List Kp110.Tok), σ = [some (V.ref a), some (V.ref l), some (V.int (k : Int)), v] /\ k <= bs.length /\ Same H H' /\ H' l = some (.lst (ps.map V.ref)) /\ TokL H' ps ts /\
  lexF 0 bs = (lexF k (bs.drop k)).map (fun x => ts ++ x) /\ ts.length <= k /\ m = bs.length - k
theorem scPart : FnScope ["t", "tokens", "at", "end"] ["t"] (zJ sPart) := scK
theorem ok_part {f fC fE fT cNP : Addr} {fd fdC fdE fdT : FuncData} (D : Dn K mg "part" sPart ["t"] f fd) (G : Gs mg)
  (DC : Dn K mg "comment_end" sCommentE ["t", "start"] fC fdC) (DE : Dn K mg "token_end" sTokenE ["t", "start"] fE fdE) (DT : Dn K mg "token_of" sTokenOf ["piece"] fT fdT)
  (GC : FnOk P w K mg base (CXW P w) 1 fC fdC ["t", "start"] (spEnd K (· != 10))) (GE : FnOk P w K mg base (CXW P w) 4 fE fdE ["t", "start"] (spTokenE K)) (GT : FnOk P w K mg base (CXW P w) 5 fT fdT ["piece"] (spTok K cNP preTok)) :
  FnOk P w K mg base (CXW P w) 6 f fd ["t"] (spPart K cNP) := by
 refine D.fn.okW scPart (fun vs H Q E h => ?_) (fun cdv A outer s H vs Q E hr h => ?_)
 ·obtain ⟨a, bs, rfl, _⟩ := h
  rfl
 ·obtain ⟨a, bs, rfl, hS, hlen, kE, kk⟩ := h
  have hr1 : Room 1 _ := hr.mono (by decide)
  have hr4 : Room 4 _ := hr.mono (by decide)
  refine ⟨_, zB (qB (i := 1) scPart.nd rfl (Or.inl rfl) (yC zE)) (zB (qB (i := 2) scPart.nd rfl (Or.inl rfl) zQ)
   (zB (ps_while ownW (zM op_lt (pv 2) (yD G.len (pv 0)) (nomark _))
    (zC (zZ (PW.pt (pw_or (zM qE (qV yB (pv 0) (pv 2) (fun _ _ => rfl)) (qL G.space) (nomark _)) (pw_or1 (zM qE (qV yB (pv 0) (pv 2) (fun _ _ => rfl)) (qL G.newline) (nomark _)))))
     (zC (ps_aug (i := 2) scPart.nd rfl (Or.inl rfl) zQ ip_add))
     (zC (zZ (zM qE (qV yB (pv 0) (pv 2) (fun _ _ => rfl)) (qL G.hash) (nomark _))
      (zC (qB (i := 2) scPart.nd rfl (Or.inl rfl) (zO GC hr1 rfl DC.mgf DC.fn.kp DC.bi .nil qC (zA (pv 0) (zA (pv 2) zE)))))
      (zB (qB (i := 3) scPart.nd rfl (Or.inl rfl) (zO GE hr4 rfl DE.mgf DE.fn.kp DE.bi .nil qC (zA (pv 0) (zA (pv 2) zE))))
      (zB (zL (pe_bm PySem.F.plainAttrs_list PySem.F.slot_list_append PySem.F.type_list_append yO (pv 1) (zA (zO GT hr rfl DT.mgf DT.fn.kp DT.bi .nil zT (zA (pe_slice sl_list (pv 0) (po_some (pv 2)) (po_some (pv 3))) zE)) zE)))
      (zC (qB (i := 2) scPart.nd rfl (Or.inl rfl) (pv 3))))))))))
   (zC (zW (pv 1))))), ?_⟩
  refine ⟨Nat.zero_le _, fun l hl => ?_⟩
  refine ⟨PartW bs H a l, ⟨_, ⟨0, none, [], [], rfl, Nat.zero_le _, upd_sm hl, zG, .nil, ?_, Nat.le_refl _, rfl⟩⟩, ?_⟩
  ·rw [List.drop_zero]
   cases lexF 0 bs <;> rfl
  rintro m σ H' ⟨k, v, ps, ts, rfl, hk, s1, hl', hT, hlex, htl, rfl⟩
  have hS' := s1.seq hS
  refine ⟨_, rfl, _, rfl, a, _, rfl, .inl hS', _, _, rfl, rfl, _, rfl, ?_⟩
  refine qG (fun h1 => ?_) (fun h1 => ?_)
  ·obtain ⟨c, hc, hlt⟩ := at_lt h1
   have hdrop : bs.drop k = c :: bs.drop (k + 1) := by
    obtain ⟨hh, e⟩ := List.getElem?_eq_some_iff.mp hc
    rw [List.drop_eq_getElem_cons hh, e]
   refine ⟨fun σ' H2 => ∃ m', m' < bs.length - k /\ PartW bs H a l m' σ' H2, fun σ' H2 x => x, ?_⟩
   have ceq : ∀ n : Nat, decide (V.int (c : Int) = V.int (n : Int)) = true -> c = n := fun n z => by
    have := V.int.inj (of_decide_eq_true z)
    omega
   have cne : ∀ n : Nat, ¬ decide (V.int (c : Int) = V.int (n : Int)) = true -> ¬ c = n := fun n z e => z (decide_eq_true (by rw [e]))
   have blank : c = 32 ∨ c = 10 -> ∃ m', m' < bs.length - k /\ PartW bs H a l m' [some (V.ref a), some (V.ref l), some (V.int ((k : Int) + 1)), v] H' := fun hb =>
    ⟨bs.length - (k + 1), by omega, ⟨k + 1, v, ps, ts, rfl, hlt, s1, hl', hT, by rw [hlex, hdrop, lexF_cons, if_pos hb], by omega, rfl⟩⟩
   refine ⟨_, rfl, _, rfl, a, _, _, _, rfl, rfl, hS', zU (bv_at hc), rfl, _, rfl, ?_⟩
   refine qG (fun h2 => ?_) (fun h2 => ?_)
   ·exact yJ ⟨_, rfl, _, _, rfl, rfl, blank (.inl (ceq 32 h2))⟩
   refine ⟨_, rfl, _, rfl, a, _, _, _, rfl, rfl, hS', zU (bv_at hc), rfl, _, rfl, ?_⟩
   refine qG (fun h3 => ?_) (fun h3 => ?_)
   ·exact ⟨_, rfl, _, _, rfl, rfl, blank (.inr (ceq 10 h3))⟩
   have nb : ¬ (c = 32 ∨ c = 10) := fun z => z.elim (cne 32 h2) (cne 10 h3)
   refine ⟨_, rfl, _, rfl, a, _, _, _, rfl, rfl, hS', zU (bv_at hc), rfl, _, rfl, ?_⟩
   refine qG (fun h4 => ?_) (fun h4 => ?_)
   ·have h4 := ceq 35 h4
    subst h4
    refine ⟨_, rfl, _, rfl, a, bs, k, rfl, hS', hk, ?_⟩
    have e1 : ((bs.drop k).takeWhile (· != 10)).length = ((bs.drop (k + 1)).takeWhile (· != 10)).length + 1 := tw_step (p := (· != 10)) hc (by decide)
    have e2 : ((bs.drop (k + 1)).takeWhile (· != 10)).length <= bs.length - (k + 1) := by
     have := (List.takeWhile_sublist (· != 10) (l := bs.drop (k + 1))).length_le
     rw [List.length_drop] at this
     exact this
    refine ⟨bs.length - (k + ((bs.drop k).takeWhile (· != 10)).length), by omega, ⟨k + ((bs.drop k).takeWhile (· != 10)).length, v, ps, ts, rfl, by omega, s1, hl', hT, ?_, by omega, rfl⟩⟩
    rw [hlex, hdrop, lexF_cons, if_neg nb, if_pos rfl, <- hdrop, e1, List.drop_drop]
    rw [show k + 1 + ((bs.drop (k + 1)).takeWhile (· != 10)).length = k + (((bs.drop (k + 1)).takeWhile (· != 10)).length + 1) by omega]
   have h4 := cne 35 h4
   have hrun0 := runLen_pos c (bs.drop (k + 1))
   have hrun1 := runLen_le c (bs.drop (k + 1))
   rw [<- hdrop] at hrun0 hrun1
   rw [List.length_drop] at hrun1
   refine ⟨_, rfl, _, rfl, a, bs, k, rfl, hS', hlt, fun H1 s2 => ?_⟩
   have hcut : cutV (bv bs) (some (k : Int)) (some ((k + qI (bs.drop k) : Nat) : Int)) = bv ((bs.drop k).take (qI (bs.drop k))) := by
    rw [cut_nat (by rw [bv_len]; omega), bv_cut, show k + qI (bs.drop k) - k = qI (bs.drop k) by omega]
   have hl1 := s2 _ _ hl'
   refine ⟨_, rfl, .inl ⟨rfl, _, qZ.of hl1⟩, _, rfl, _, rfl, _, rfl, _, rfl, _, rfl, a, _, rfl, s2.seq hS', fun p hp => ?_⟩
   have hlexT := lexF_tok (a := k) (c := c) (r := bs.drop (k + 1)) nb h4
   rw [<- hdrop, mkTok_at] at hlexT
   refine ⟨p, (bs.drop k).take (qI (bs.drop k)), rfl, qZ.of (by rw [zG, hcut]), (by rw [hdrop]; exact pre_run c _), fun hm H2 => kE ?_ H2, fun t ht H2 q s3 htok => ?_⟩
   ·rw [hlex, hlexT, hm]
    rfl
   ·rw [ht] at hlexT
    have s13 : Same H1 H2 := (upd_sm hp).trans s3
    have hl2 := s13 _ _ hl1
    refine ⟨l, ps.map V.ref, .ref q, rfl, rfl, hl2, ?_, ?_⟩
    ·rw [List.length_map, hT.len]
     exact Nat.lt_of_le_of_lt (show ts.length <= 8192 by omega) (by decide)
    ·have keep : ∀ b u, H' b = some u -> b ≠ l -> upd H2 l (.lst (ps.map V.ref ++ [.ref q])) b = some u := fun b u e hb => by
      rw [zF hb]
      exact s13 _ _ (s2 _ _ e)
     have tne : ∀ b t', TokAt H2 b t' -> b ≠ l := fun b t' e => qD e hl2 (by intro z; cases z)
     refine ⟨_, rfl, bs.length - (k + qI (bs.drop k)), by omega, ⟨k + qI (bs.drop k), _, ps ++ [q], ts ++ [{ t with at_ := k }], rfl, by omega, fun b u e => ?_, ?_, ?_, ?_, ?_, rfl⟩⟩
     ·rw [zF (zH e hl)]
      exact s13 _ _ (s2 _ _ (s1 _ _ e))
     ·rw [zG, List.map_append]
      rfl
     ·refine paired_snoc (F := fun p t => TokAt _ p t) ?_ (TokL.mono (fun b t' e => ?_) hT)
      ·show upd _ l _ q = _
       rw [zF (tne q t htok)]
       exact htok
      ·show upd _ l _ b = _
       rw [zF (qD e hl' (by intro z; cases z))]
       exact s13 _ _ (s2 _ _ e)
     ·rw [hlex, hlexT]
      show ((lexF _ _).map _).map _ = _
      rw [Option.map_map, List.drop_drop]
      congr 1
      funext x
      show ts ++ ({ t with at_ := k } :: x) = _
      rw [List.append_assoc]
      rfl
     ·rw [List.length_append]
      show ts.length + 1 <= _
      omega
  ·have hke : k = bs.length := by
    have := not_lt h1
    omega
   refine ⟨_, rfl, kk ts ?_ H' l ps s1 hl' hT⟩
   rw [hlex, hke, List.drop_length, lexF_nil]
   show some (ts ++ []) = _
   rw [List.append_nil]
end
end SM
end
section
set_option Elab.async false
set_option linter.all false
set_option maxRecDepth 100000
set_option maxHeartbeats 2000000
namespace SM
open PySem PySem.Spec PyProof.Rows L2
open Kp110 (Bytes words small digit inName bytesOf)
abbrev sRInit : Stmt := yS (top 12) 0
abbrev sRKind : Stmt := yS (top 12) 1
abbrev sRTake : Stmt := yS (top 12) 2
abbrev sRMention : Stmt := yS (top 12) 3
abbrev sRJump : Stmt := yS (top 12) 4
abbrev sRLand : Stmt := yS (top 12) 5
abbrev sDeeper : Stmt := top 13
def opS (op : Nat) : Str := if op = 43 then "+" else if op = 45 then "-" else if op = 42 then "*" else if op = 47 then "/" else if op = 37 then "rest" else if op = 60 then "<" else if op = 61 then "==" else "!"
def Mn.vals : Mn -> List V
 | .beg => [.str "begin", .str "", .int 0]
 | .fin => [.str "end", .str "", .int 0]
 | .step => [.str "step", .str "", .int 0]
 | .let_ x => [.str "let", .str (qA x), .int 0]
 | .set x => [.str "set", .str (qA x), .int 0]
 | .use x => [.str "use", .str (qA x), .int 0]
 | .num v => [.str "number", .str "", .int (v : Int)]
 | .get => [.str "get", .str "", .int 0]
 | .one op => [.str "one", .str (opS op), .int 0]
 | .two op => [.str "two", .str (opS op), .int 0]
 | .call x n => [.str "call", .str (qA x), .int (n : Int)]
 | .forget => [.str "forget", .str "", .int 0]
 | .put => [.str "put", .str "", .int 0]
 | .ret => [.str "return", .str "", .int 0]
 | .unless p => [.str "unless", .str "", .int (p : Int)]
 | .go p => [.str "go", .str "", .int (p : Int)]
def MnAt (H : Hp) (p : Addr) (n : Mn) : Prop := H p = some (.tup n.vals)
def MnL (H : Hp) : List Addr -> List Mn -> Prop := Paired (fun p n => MnAt H p n)
theorem MnL.mono {H H' : Hp} (h : ∀ p n, MnAt H p n -> MnAt H' p n) {ps : List Addr} {ns : List Mn} (x : MnL H ps ns) : MnL H' ps ns := Paired.mapP x h
theorem MnL.len {H : Hp} {ps : List Addr} {ns : List Mn} (x : MnL H ps ns) : ps.length = ns.length := Paired.length x
def rf (tl : Addr) (i : Int) (m : Addr) : List (Str × V) := [("tokens", .ref tl), ("at", .int i), ("orders", .ref m)]
theorem ne_at_tok : (("at" : Str) == "tokens") = false := by decide +kernel
theorem ne_men_tok : (("orders" : Str) == "tokens") = false := by decide +kernel
theorem ne_men_at : (("orders" : Str) == "at") = false := by decide +kernel
theorem rf_tok (tl : Addr) (i : Int) (m : Addr) : (rf tl i m).lookup ("tokens" : Str) = some (V.ref tl) := by
 unfold rf
 rw [List.lookup_cons, beq_self_eq_true]
theorem rf_at (tl : Addr) (i : Int) (m : Addr) : (rf tl i m).lookup ("at" : Str) = some (V.int i) := by
 unfold rf
 rw [List.lookup_cons, ne_at_tok]
 show List.lookup _ _ = _
 rw [List.lookup_cons, beq_self_eq_true]
theorem rf_men (tl : Addr) (i : Int) (m : Addr) : (rf tl i m).lookup ("orders" : Str) = some (V.ref m) := by
 unfold rf
 rw [List.lookup_cons, ne_men_tok]
 show List.lookup _ _ = _
 rw [List.lookup_cons, ne_men_at]
 show List.lookup _ _ = _
 rw [List.lookup_cons, beq_self_eq_true]
theorem rf_no (tl : Addr) (i : Int) (m : Addr) {x : Str} (h1 : (x == ("tokens" : Str)) = false) (h2 : (x == ("at" : Str)) = false) (h3 : (x == ("orders" : Str)) = false) : (rf tl i m).lookup x = none := by
 unfold rf
 rw [List.lookup_cons, h1]
 show List.lookup _ _ = _
 rw [List.lookup_cons, h2]
 show List.lookup _ _ = _
 rw [List.lookup_cons, h3]
 rfl
theorem put_at (tl : Addr) (i j : Int) (m : Addr) : qK "at" (.int j) (rf tl i m) = rf tl j m := by
 unfold rf
 rw [qK, if_neg (by decide +kernel), qK, if_pos rfl]
theorem put_men (tl : Addr) (i : Int) (m n : Addr) : qK "orders" (.ref n) (rf tl i m) = rf tl i n := by
 unfold rf
 rw [qK, if_neg (by decide +kernel), qK, if_neg (by decide +kernel), qK, if_pos rfl]
structure RdAt (cR : Addr) (H : Hp) (r tl m : Addr) (ts : List Kp110.Tok) (i : Nat) (ns : List Mn) : Prop where
 ins : ∃ dx, H r = some (.ins cR dx (rf tl (i : Int) m))
 toks : ∃ ps : List Addr, H tl = some (.lst (ps.map V.ref)) /\ TokL H ps ts
 men : ∃ qs : List Addr, H m = some (.lst (qs.map V.ref)) /\ MnL H qs ns
 ne : tl ≠ m
 sm : smallC ns
def Keep (r m : Addr) (H H' : Hp) : Prop := ∀ b o, H b = some o -> b ≠ r -> b ≠ m -> H' b = some o
theorem Keep.trans {r m : Addr} {H H1 H2 : Hp} (a : Keep r m H H1) (b : Keep r m H1 H2) : Keep r m H H2 := fun c o e h1 h2 => b c o (a c o e h1 h2) h1 h2
theorem Same.keep {r m : Addr} {H H1 : Hp} (a : Same H H1) : Keep r m H H1 := fun c o e _ _ => a c o e
def zS (ts : List Kp110.Tok) (i : Nat) : Str := match ts[i]? with
 | some t => qW t
 | none => "nothing"
structure RC (K : PySem.W.Frag) (cR fK fT fM : Addr) (fdK fdT fdM : FuncData) : Prop where
 cl : Cls K cR
 nTok : qS K cR "tokens"
 nAt : qS K cR "at"
 nMen : qS K cR "orders"
 mK : Meth K cR "kind" fK
 mT : Meth K cR "take" fT
 mM : Meth K cR "order" fM
 fK : Fun K "kind" "Reader.kind" sRKind fK fdK
 fT : Fun K "take" "Reader.take" sRTake fT fdT
 fM : Fun K "order" "Reader.order" sRMention fM fdM
 bK : Binds K fdK ["self"] []
 bT : Binds K fdT ["self", "kind"] []
 bM : Binds K fdM ["self", "how", "name", "number"] []
structure RC2 (K : PySem.W.Frag) (cR fJ fL : Addr) (fdJ fdL : FuncData) : Prop where
 mJ : Meth K cR "order_jump" fJ
 mL : Meth K cR "land_here" fL
 fJ : Fun K "order_jump" "Reader.order_jump" sRJump fJ fdJ
 fL : Fun K "land_here" "Reader.land_here" sRLand fL fdL
 bJ : Binds K fdJ ["self", "how"] []
 bL : Binds K fdL ["self", "place"] []
def spKind (cR : Addr) : Sp := fun vs H Q _ => ∃ r tl m ts i ns, vs = [V.ref r] /\ RdAt cR H r tl m ts i ns /\ Q (.str (zS ts i)) H
def yG (cR cNP : Addr) : Sp := fun vs H Q E => ∃ r tl m ts i ns k, vs = [V.ref r, V.str k] /\ RdAt cR H r tl m ts i ns /\ k ≠ "nothing" /\ (zS ts i ≠ k -> ∀ H', E (.ref cNP) none H') /\
 ∀ t, ts[i]? = some t -> qW t = k -> ∀ H', RdAt cR H' r tl m ts (i + 1) ns -> Keep r m H H' -> Q (.str (yQ t)) H'
def qJ (cR : Addr) : Sp := fun vs H Q _ => ∃ r tl m ts i ns n, vs = V.ref r :: Mn.vals n /\ RdAt cR H r tl m ts i ns /\ ns.length < 100000 /\ smallC [n] /\ ∀ H', RdAt cR H' r tl m ts i (ns ++ [n]) -> Keep r m H H' -> Q .non H'
def spDeeper (cNP : Addr) : Sp := fun vs H Q E => ∃ d : Nat, vs = [V.int d] /\ (d = 32 -> ∀ H', E (.ref cNP) none H') /\ (d ≠ 32 -> Q (.int ((d + 1 : Nat) : Int)) H)
theorem paired_get {α β : Type} {F : α -> β -> Prop} : ∀ {l : List α} {m : List β} {i : Nat} {b : β}, Paired F l m -> m[i]? = some b -> ∃ a, l[i]? = some a /\ F a b
 | _, _, i, _, .nil, h => by simp at h
 | _, _, 0, b, .cons (a := a) r t, h => by
  have e : _ = b := Option.some.inj h
  subst e
  exact ⟨_, rfl, r⟩
 | _, _, i + 1, b, .cons r t, h => by
  obtain ⟨a, h1, h2⟩ := paired_get (i := i) t (by simpa using h)
  exact ⟨a, by simpa using h1, h2⟩
section
variable {P : Program} {w : World} {K : PySem.W.Frag} {mg : Str -> Option Value} {base : Heap} {cR cNP fK fT fM aW aS : Addr} {fdK fdT fdM : FuncData}
theorem scRKind : FnScope ["self"] ["self"] (zJ sRKind) := scK
theorem yX (T : RC K cR fK fT fM fdK fdT fdM) (G : Gs mg) : FnOk P w K mg base (CXW P w) 1 fK fdK ["self"] (spKind cR) := by
 refine T.fK.okW scRKind (fun vs H Q E h => ?_) (fun cdv A outer s H vs Q E hr h => ?_)
 ·obtain ⟨r, tl, m, ts, i, ns, rfl, _⟩ := h
  rfl
 ·obtain ⟨r, tl, m, ts, i, ns, rfl, R, kk⟩ := h
  obtain ⟨⟨dx, hi⟩, ⟨ps, hl, ht⟩, _, _, _⟩ := R
  refine ⟨_, zB (zZ (zM op_lt (zX (pv 0) rfl) (yD G.len (zX (pv 0) rfl)) (nomark _))
   (zC (zW (qV ix_tup (qV yB (zX (pv 0) rfl) (zX (pv 0) rfl) (fun _ _ => rfl)) zQ (fun _ _ => rfl)))) zY) (zC (zW zK)), ?_⟩
  refine ⟨_, rfl, r, cR, dx, _, _, rfl, hi, T.cl, T.nAt, rf_at .., _, rfl, r, cR, dx, _, _, rfl, hi, T.cl, T.nTok, rf_tok .., tl, _, rfl, .inl (qZ.of hl), _, _, rfl, rfl, _, rfl, ?_⟩
  refine qG (fun h1 => ?_) (fun h1 => ?_)
  ·have h1 := of_decide_eq_true h1
   rw [List.length_map, ht.len] at h1
   have h2 : i < ts.length := by omega
   have e : ts[i]? = some ts[i] := List.getElem?_eq_getElem h2
   obtain ⟨p, hp, htok⟩ := paired_get ht e
   have hk : zS ts i = qW ts[i] := by
    unfold zS
    rw [e]
   rw [hk] at kk
   refine ⟨_, rfl, r, cR, dx, _, _, rfl, hi, T.cl, T.nTok, rf_tok .., _, rfl, r, cR, dx, _, _, rfl, hi, T.cl, T.nAt, rf_at .., tl, _, _, _, rfl, rfl, qZ.of hl, zU (by rw [List.getElem?_map, hp]; rfl), ?_⟩
   exact ⟨p, _, _, _, rfl, rfl, SqT.of htok, zU (j := 0) rfl, kk⟩
  ·have h1 : ¬ ((i : Int) < ((ps.map V.ref).length : Int)) := fun z => h1 (decide_eq_true z)
   rw [List.length_map, ht.len] at h1
   have hk : zS ts i = "nothing" := by
    unfold zS
    rw [List.getElem?_eq_none (by omega)]
   rw [hk] at kk
   exact kk
theorem RdAt.step {H H' : Hp} {r tl m : Addr} {ts : List Kp110.Tok} {i j : Nat} {ns : List Mn} {dx : Addr} (R : RdAt cR H r tl m ts i ns) (e : H' r = some (.ins cR dx (rf tl (j : Int) m))) (k : ∀ b o, H b = some o -> b ≠ r -> H' b = some o) : RdAt cR H' r tl m ts j ns := by
 obtain ⟨⟨dx0, hi⟩, ⟨ps, hl, ht⟩, ⟨qs, hm, hq⟩, ne, sm⟩ := R
 refine ⟨⟨dx, e⟩, ⟨ps, k _ _ hl (qD hl hi (by intro z; cases z)), ht.mono fun p t z => k _ _ z (qD z hi (by intro z; cases z))⟩, ⟨qs, k _ _ hm (qD hm hi (by intro z; cases z)), hq.mono fun p t z => k _ _ z (qD z hi (by intro z; cases z))⟩, ne, sm⟩
theorem RdAt.same {H H' : Hp} {r tl m : Addr} {ts : List Kp110.Tok} {i : Nat} {ns : List Mn} (R : RdAt cR H r tl m ts i ns) (k : Same H H') : RdAt cR H' r tl m ts i ns := by
 obtain ⟨⟨dx0, hi⟩, ⟨ps, hl, ht⟩, ⟨qs, hm, hq⟩, ne, sm⟩ := R
 exact ⟨⟨dx0, k _ _ hi⟩, ⟨ps, k _ _ hl, ht.mono fun p t z => k _ _ z⟩, ⟨qs, k _ _ hm, hq.mono fun p t z => k _ _ z⟩, ne, sm⟩
theorem RdAt.keep {H H' : Hp} {r tl m r2 m2 : Addr} {ts : List Kp110.Tok} {i : Nat} {ns : List Mn} (R : RdAt cR H r tl m ts i ns) (k : ∀ b o, H b = some o -> b = r ∨ b = tl ∨ b = m ∨ (∃ xs, o = .tup xs) -> H' b = some o) : RdAt cR H' r tl m ts i ns := by
 obtain ⟨⟨dx0, hi⟩, ⟨ps, hl, ht⟩, ⟨qs, hm, hq⟩, ne, sm⟩ := R
 exact ⟨⟨dx0, k _ _ hi (.inl rfl)⟩, ⟨ps, k _ _ hl (.inr (.inl rfl)), ht.mono fun p t z => k _ _ z (.inr (.inr (.inr ⟨_, rfl⟩)))⟩, ⟨qs, k _ _ hm (.inr (.inr (.inl rfl))), hq.mono fun p t z => k _ _ z (.inr (.inr (.inr ⟨_, rfl⟩)))⟩, ne, sm⟩
theorem scRTake : FnScope ["self", "kind", "spelled"] ["self", "kind"] (zJ sRTake) := scK
theorem ok_take (T : RC K cR fK fT fM fdK fdT fdM) (G : Gs mg) (B : Tb K mg cNP aW aS) : FnOk P w K mg base (CXW P w) 2 fT fdT ["self", "kind"] (yG cR cNP) := by
 have GK : FnOk P w K mg base (CXW P w) 1 fK fdK ["self"] (spKind cR) := yX T G
 refine T.fT.okW scRTake (fun vs H Q E h => ?_) (fun cdv A outer s H vs Q E hr h => ?_)
 ·obtain ⟨r, tl, m, ts, i, ns, k, rfl, _⟩ := h
  rfl
 ·obtain ⟨r, tl, m, ts, i, ns, k, rfl, R, hk, kE, kk⟩ := h
  obtain ⟨⟨dx, hi⟩, ⟨ps, hl, ht⟩, _, _, _⟩ := id R
  refine ⟨_, zB (zZ (zM op_ne (qO (pv 0) T.cl T.mK GK hr T.bK .nil qC) (pv 1) (nomark _)) (zC (qF makeW rfl rfl B.np B.npD)) zY)
   (zB (qB (i := 2) scRTake.nd rfl (Or.inl rfl) (qV ix_tup (qV yB (zX (pv 0) rfl) (zX (pv 0) rfl) (fun _ _ => rfl)) zQ (fun _ _ => rfl)))
   (zB (ps_fldaug (pv 0) zQ in_add) (zC (zW (pv 2))))), ?_⟩
  refine ⟨_, rfl, r, dx, _, rfl, hi, rf_no _ _ _ (by decide +kernel) (by decide +kernel) (by decide +kernel), r, tl, m, ts, i, ns, rfl, R, _, rfl, rfl, _, rfl, ?_⟩
  refine qG (fun h1 => ?_) (fun h1 => ?_)
  ·refine kE (fun z => ?_) H
   rw [z] at h1
   simp at h1
  ·have h1 : zS ts i = k := by
    have h2 : V.str (zS ts i) = V.str k := Decidable.byContradiction fun z => h1 (by rw [decide_eq_false z]; rfl)
    exact V.str.inj h2
   cases e : ts[i]? with
   | none =>
    unfold zS at h1
    rw [e] at h1
    exact absurd h1.symm hk
   | some t =>
    have hkt : qW t = k := by
     unfold zS at h1
     rw [e] at h1
     exact h1
    obtain ⟨p, hp, htok⟩ := paired_get ht e
    refine ⟨_, rfl, r, cR, dx, _, _, rfl, hi, T.cl, T.nTok, rf_tok .., _, rfl, r, cR, dx, _, _, rfl, hi, T.cl, T.nAt, rf_at .., tl, _, _, _, rfl, rfl, qZ.of hl, zU (by rw [List.getElem?_map, hp]; rfl), ?_⟩
    refine ⟨p, _, _, _, rfl, rfl, SqT.of htok, zU (j := 1) rfl, ?_⟩
    refine ⟨_, rfl, r, cR, dx, _, _, rfl, hi, T.cl, T.nAt, rf_at .., _, _, rfl, rfl, dx, _, hi, (by show 3 < 1000; decide), _, rfl, ?_⟩
    refine kk t e hkt _ (R.step (j := i + 1) (dx := dx) ?_ (fun b o z hb => by rw [zF hb]; exact z)) (fun b o z h1 _ => by rw [zF h1]; exact z)
    rw [zG, put_at]
    rfl
theorem smallC_app {a b : List Mn} (ha : smallC a) (hb : smallC b) : smallC (a ++ b) := fun k hk => by
 rcases List.mem_append.mp hk with h | h
 ·exact ha k h
 ·exact hb k h
theorem vals3 (n : Mn) : ∃ a b c, n.vals = [a, b, c] := by cases n <;> exact ⟨_, _, _, rfl⟩
theorem scRMention : FnScope ["self", "how", "name", "number"] ["self", "how", "name", "number"] (zJ sRMention) := scK
theorem qU (T : RC K cR fK fT fM fdK fdT fdM) : FnOk P w K mg base (CXW P w) 1 fM fdM ["self", "how", "name", "number"] (qJ cR) := by
 refine T.fM.okW scRMention (fun vs H Q E h => ?_) (fun cdv A outer s H vs Q E hr h => ?_)
 ·obtain ⟨r, tl, m, ts, i, ns, n, rfl, _⟩ := h
  obtain ⟨a, b, c, e⟩ := vals3 n
  rw [e]
  rfl
 ·obtain ⟨r, tl, m, ts, i, ns, n, rfl, R, hn, hsm, kk⟩ := h
  obtain ⟨a, b, c, e⟩ := vals3 n
  obtain ⟨⟨dx, hi⟩, ⟨ps, hl, ht⟩, ⟨qs, hm, hq⟩, ne, sm⟩ := id R
  refine ⟨_, zC (zL (pe_bm PySem.F.plainAttrs_list PySem.F.slot_list_append PySem.F.type_list_append yO (zX (pv 0) rfl) (zA (pe_tup (zA (pv 1) (zA (pv 2) (zA (pv 3) zE)))) zE))), ?_⟩
  rw [e]
  refine ⟨_, rfl, r, cR, dx, _, _, rfl, hi, T.cl, T.nMen, rf_men .., .inl ⟨rfl, _, qZ.of hm⟩, _, rfl, _, rfl, _, rfl, (by show 3 <= sizeLine; decide), fun p hp => ?_⟩
  have nmp : m ≠ p := zH hm hp
  refine ⟨m, qs.map V.ref, .ref p, rfl, rfl, by rw [zF nmp]; exact hm, ?_, ?_⟩
  ·rw [List.length_map, hq.len]
   exact Nat.lt_of_lt_of_le hn (by decide)
  ·have k1 : ∀ b' o, H b' = some o -> b' ≠ m -> upd (upd H p (.tup [a, b, c])) m (.lst (qs.map V.ref ++ [.ref p])) b' = some o := fun b' o z h1 => by
    rw [zF h1, zF (zH z hp)]
    exact z
   have mt : ∀ b' xs, H b' = some (.tup xs) -> b' ≠ m := fun b' xs z => qD z hm (by intro z; cases z)
   refine kk _ ⟨⟨dx, k1 _ _ hi (qD hi hm (by intro z; cases z))⟩, ⟨ps, k1 _ _ hl ne, ht.mono fun q t z => k1 _ _ z (mt _ _ z)⟩, ⟨qs ++ [p], ?_, paired_snoc ?_ (hq.mono fun q t z => k1 _ _ z (mt _ _ z))⟩, ne, smallC_app sm hsm⟩ (fun b' o z _ h2 => k1 b' o z h2)
   ·rw [zG, List.map_append]
    rfl
   ·show upd _ m _ p = _
    rw [zF nmp.symm, zG, e]
inductive Jmp : Mn -> Mn -> Nat -> Str -> Prop
 | un {k q : Nat} : Jmp (.unless k) (.unless q) q "unless"
 | go {k q : Nat} : Jmp (.go k) (.go q) q "go"
theorem Jmp.vals {a b : Mn} {q : Nat} {h : Str} (j : Jmp a b q h) : b.vals = [.str h, .str "", .int (q : Int)] := by cases j <;> rfl
theorem Jmp.vals0 {a b : Mn} {q : Nat} {h : Str} (j : Jmp a b q h) : ∃ k : Int, a.vals = [.str h, .str "", .int k] := by cases j <;> exact ⟨_, rfl⟩
theorem Jmp.small {a b : Mn} {q : Nat} {h : Str} (j : Jmp a b q h) : smallC [b] := by
 cases j <;> (intro k hk; rcases List.mem_cons.mp hk with e | e <;> cases e; trivial)
def spJump (cR : Addr) : Sp := fun vs H Q _ => ∃ r tl m ts i ns a n how, vs = [V.ref r, V.str how] /\ Jmp a n 0 how /\ RdAt cR H r tl m ts i ns /\ ns.length < 100000 /\ ∀ H', RdAt cR H' r tl m ts i (ns ++ [n]) -> Keep r m H H' -> Q (.int (ns.length : Int)) H'
def spLand (cR : Addr) : Sp := fun vs H Q _ => ∃ r tl m ts i ns ms a b how, vs = [V.ref r, V.int ((ns.length : Nat) : Int)] /\ Jmp a b (ns.length + (ms.length + 1)) how /\ RdAt cR H r tl m ts i (ns ++ (a :: ms)) /\ ∀ H', RdAt cR H' r tl m ts i (ns ++ (b :: ms)) -> Keep r m H H' -> Q .non H'
theorem scRJump : FnScope ["self", "how"] ["self", "how"] (zJ sRJump) := scK
theorem ok_jump {fJ fL : Addr} {fdJ fdL : FuncData} (T : RC K cR fK fT fM fdK fdT fdM) (T2 : RC2 K cR fJ fL fdJ fdL) (G : Gs mg) : FnOk P w K mg base (CXW P w) 2 fJ fdJ ["self", "how"] (spJump cR) := by
 have GM : FnOk P w K mg base (CXW P w) 1 fM fdM ["self", "how", "name", "number"] (qJ cR) := qU T
 refine T2.fJ.okW scRJump (fun vs H Q E h => ?_) (fun cdv A outer s H vs Q E hr h => ?_)
 ·obtain ⟨r, tl, m, ts, i, ns, a, n, how, rfl, _⟩ := h
  rfl
 ·obtain ⟨r, tl, m, ts, i, ns, a, n, how, rfl, J, R, hn, kk⟩ := h
  refine ⟨_, zB (zL (zR (pv 0) T.cl T.mM GM hr T.bM .nil qC (zA (pv 1) (zA zK (zA zQ zE))))) (zC (zW (pe_op op_sub (yD G.len (zX (pv 0) rfl)) zQ))), ?_⟩
  obtain ⟨dx, hi⟩ := R.ins
  have ev := J.vals
  refine ⟨_, rfl, r, dx, _, rfl, hi, rf_no _ _ _ (by decide +kernel) (by decide +kernel) (by decide +kernel), _, rfl, ?_⟩
  refine ⟨r, tl, m, ts, i, ns, n, by rw [ev]; rfl, R, hn, J.small, fun H1 R1 K1 => ?_⟩
  obtain ⟨⟨dx1, hi1⟩, _, ⟨qs, hm, hq⟩, _, _⟩ := id R1
  refine ⟨_, rfl, r, cR, dx1, _, _, rfl, hi1, T.cl, T.nMen, rf_men .., m, _, rfl, .inl (qZ.of hm), _, _, rfl, rfl, ?_⟩
  rw [List.length_map, hq.len, List.length_append]
  have e : (((ns.length + [n].length : Nat) : Int) - 1) = (ns.length : Int) := by show (((ns.length + 1 : Nat) : Int) - 1) = _; omega
  show Q (V.int (((ns.length + [n].length : Nat) : Int) - 1)) H1
  rw [e]
  exact kk H1 R1 K1
theorem paired_set {α β : Type} {F : α -> β -> Prop} : ∀ {l : List α} {m n : List β} {a : α} {b b' : β}, Paired F l (m ++ (b :: n)) -> (F' : F a b') -> Paired F (l.set m.length a) (m ++ (b' :: n))
 | _, [], n, a, b, b', .cons r t, f => .cons f t
 | _, c :: m, n, a, b, b', .cons r t, f => .cons r (paired_set t f)
theorem scRLand : FnScope ["self", "place"] ["self", "place"] (zJ sRLand) := scK
theorem ok_land {fJ fL : Addr} {fdJ fdL : FuncData} (T : RC K cR fK fT fM fdK fdT fdM) (T2 : RC2 K cR fJ fL fdJ fdL) (G : Gs mg) : FnOk P w K mg base (CXW P w) 1 fL fdL ["self", "place"] (spLand cR) := by
 refine T2.fL.okW scRLand (fun vs H Q E h => ?_) (fun cdv A outer s H vs Q E hr h => ?_)
 ·obtain ⟨r, tl, m, ts, i, ns, ms, a, b, how, rfl, _⟩ := h
  rfl
 ·obtain ⟨r, tl, m, ts, i, ns, ms, a, b, how, rfl, J, R, kk⟩ := h
  refine ⟨_, zC (ps_asg (pe_tup (zA (qV ix_tup (qV yB (zX (pv 0) rfl) (pv 1) (fun _ _ => rfl)) zQ (fun _ _ => rfl)) (zA zK (zA (yD G.len (zX (pv 0) rfl)) zE)))) (pg_sub (zX (pv 0) rfl) (pv 1) set_list)), ?_⟩
  obtain ⟨⟨dx, hi⟩, ⟨ps, hl, ht⟩, ⟨qs, hm, hq⟩, ne, sm⟩ := id R
  obtain ⟨k, ev0⟩ := J.vals0
  have ev := J.vals
  obtain ⟨q, hq1, hq2⟩ := paired_get (i := ns.length) hq (by rw [List.getElem?_append_right (Nat.le_refl _), Nat.sub_self]; rfl)
  have hq2 : H q = some (.tup a.vals) := hq2
  rw [ev0] at hq2
  have hlen : (qs.map V.ref).length = ns.length + (ms.length + 1) := by rw [List.length_map, hq.len, List.length_append]; rfl
  refine ⟨_, rfl, r, cR, dx, _, _, rfl, hi, T.cl, T.nMen, rf_men .., _, rfl, m, _, _, _, rfl, rfl, qZ.of hm, zU (by rw [List.getElem?_map, hq1]; rfl), ?_⟩
  refine ⟨q, _, _, _, rfl, rfl, SqT.of hq2, zU (j := 0) rfl, ?_⟩
  refine ⟨_, rfl, r, cR, dx, _, _, rfl, hi, T.cl, T.nMen, rf_men .., m, _, rfl, .inl (qZ.of hm), (by show 3 <= sizeLine; decide), fun p hp => ?_⟩
  have nmp : m ≠ p := zH hm hp
  have hi' : upd H p (.tup [V.str how, V.str "", V.int ((qs.map V.ref).length : Int)]) r = some (.ins cR dx (rf tl (i : Int) m)) := by rw [zF (zH hi hp)]; exact hi
  refine ⟨_, rfl, r, cR, dx, _, _, rfl, hi', T.cl, T.nMen, rf_men .., _, rfl, m, _, _, ns.length, rfl, rfl, by rw [zF nmp]; exact hm, ?_, ?_⟩
  ·rw [hlen]
   unfold ixN
   rw [if_pos (by omega), if_pos (by omega)]
   rfl
  ·have k1 : ∀ b' o, H b' = some o -> b' ≠ m -> upd (upd H p (.tup [V.str how, V.str "", V.int ((qs.map V.ref).length : Int)])) m (.lst ((qs.map V.ref).set ns.length (.ref p))) b' = some o := fun b' o z h1 => by
    rw [zF h1, zF (zH z hp)]
    exact z
   have mt : ∀ b' xs, H b' = some (.tup xs) -> b' ≠ m := fun b' xs z => qD z hm (by intro z; cases z)
   refine kk _ ⟨⟨dx, k1 _ _ hi (qD hi hm (by intro z; cases z))⟩, ⟨ps, k1 _ _ hl ne, ht.mono fun q t z => k1 _ _ z (mt _ _ z)⟩, ⟨qs.set ns.length p, ?_, paired_set (b := a) (hq.mono fun q t z => k1 _ _ z (mt _ _ z)) ?_⟩, ne, ?_⟩ (fun b' o z _ h2 => k1 b' o z h2)
   ·rw [zG, List.map_set]
   ·show upd _ m _ p = _
    rw [zF nmp.symm, zG, ev, hlen]
   ·intro k hk
    rcases List.mem_append.mp hk with h | h
    ·exact sm k (List.mem_append_left _ h)
    ·rcases List.mem_cons.mp h with h | h
     ·exact J.small k (by rw [h]; exact List.mem_cons_self)
     ·exact sm k (List.mem_append_right _ (List.mem_cons_of_mem _ h))
structure Gs2 (mg : Str -> Option Value) : Prop where
 deepest : GI mg "DEEPEST" 32
 mostParams : GI mg "MOST_PARAMETERS" 4
 mostVars : GI mg "MOST_VARIABLES" 32
 int : mg "int" = none
theorem boot_i : bootBuiltins "int" = some (.type "int") := by decide +kernel
theorem scDeeper : FnScope ["deep"] ["deep"] (zJ sDeeper) := scK
theorem ok_deeper {f : Addr} {fd : FuncData} (D : Dn K mg "deeper" sDeeper ["deep"] f fd) (G : Gs2 mg) (B : Tb K mg cNP aW aS) : FnOk P w K mg base (CXW P w) 1 f fd ["deep"] (spDeeper cNP) := by
 refine D.fn.okW scDeeper (fun vs H Q E h => ?_) (fun cdv A outer s H vs Q E hr h => ?_)
 ·obtain ⟨d, rfl, _⟩ := h
  rfl
 ·obtain ⟨d, rfl, kE, kk⟩ := h
  refine ⟨_, zB (zZ (zM qE (pv 0) (qL G.deepest) (nomark _)) (zC (qF makeW rfl rfl B.np B.npD)) zY) (zC (zW (pe_op op_add (pv 0) zQ))), ?_⟩
  refine ⟨_, rfl, rfl, _, rfl, ?_⟩
  refine qG (fun h1 => ?_) (fun h1 => ?_)
  ·refine kE ?_ H
   have := V.int.inj (of_decide_eq_true h1)
   omega
  ·refine ⟨_, rfl, _, _, rfl, rfl, kk fun z => h1 (decide_eq_true (by rw [z]; rfl))⟩
end
end SM
end
section
set_option Elab.async false
set_option linter.all false
set_option maxRecDepth 100000
set_option maxHeartbeats 2000000
namespace SM
open PySem PySem.Spec PyProof.Rows L2
open Kp110 (Bytes words small digit inName bytesOf isTok opOf eat nameAt)
def allTexts : List Bytes := words ++ ([61, 61] :: Kp110.signs.map fun c => [c])
theorem ok_two {t : Kp110.Tok} (ok : OkTok t) (h : t.kind = 2) : t.text ∈ allTexts := by
 rcases ok with ⟨z, _⟩ | z | ⟨_, z | z | ⟨c, hc, z⟩⟩
 ·rw [z] at h; cases h
 ·rw [z] at h; cases h
 ·exact List.mem_append_left _ (by simpa using z)
 ·rw [z]; exact List.mem_append_right _ List.mem_cons_self
 ·rw [z]; exact List.mem_append_right _ (List.mem_cons_of_mem _ (List.mem_map_of_mem (by simpa using hc)))
theorem ok_kinds {t : Kp110.Tok} (ok : OkTok t) : t.kind = 0 ∨ t.kind = 1 ∨ t.kind = 2 := by
 rcases ok with ⟨z, _⟩ | z | ⟨z, _⟩
 ·exact .inl z
 ·exact .inr (.inl z)
 ·exact .inr (.inr z)
def wOk (w : String) (ws : Str) : Bool := (!decide (ws = "name")) && (!decide (ws = "number")) && (!decide (ws = "nothing")) && allTexts.all fun x => decide (signS x = ws) == (x == bytesOf w)
theorem kind_tok {w : String} {ws : Str} (h : wOk w ws = true) {t : Kp110.Tok} (ok : OkTok t) (r : List Kp110.Tok) : qW t = ws ↔ isTok w (t :: r) = true := by
 unfold wOk at h
 simp only [Bool.and_eq_true, Bool.not_eq_true', decide_eq_false_iff_not, List.all_eq_true] at h
 obtain ⟨⟨⟨h1, h2⟩, h3⟩, h4⟩ := h
 show _ ↔ (t.kind == 2 && t.text == bytesOf w) = true
 rcases ok_kinds ok with z | z | z
 ·simp only [qW, z, if_true]
  constructor
  ·intro e; exact absurd e.symm h1
  ·intro e; cases e
 ·simp only [qW, z]
  constructor
  ·intro e; exact absurd e.symm h2
  ·intro e; cases e
 ·have q := h4 t.text (ok_two ok z)
  have e : qW t = signS t.text := by
   simp only [qW, z]
   rfl
  rw [e, z]
  have q := eq_of_beq q
  constructor
  ·intro e2
   rw [<- q, decide_eq_true e2]
   rfl
  ·intro e2
   have e3 : (t.text == bytesOf w) = true := e2
   rw [e3] at q
   exact of_decide_eq_true q
theorem kindS0 {t : Kp110.Tok} (h : t.kind = 0) : qW t = "name" := by
 unfold qW
 rw [if_pos h]
theorem kindS1 {t : Kp110.Tok} (h : t.kind = 1) : qW t = "number" := by
 unfold qW
 rw [if_neg (by omega), if_pos h]
theorem name_number : ¬ ("name" : Str) = "number" := by decide +kernel
theorem kind_name {t : Kp110.Tok} (ok : OkTok t) : qW t = "name" ↔ t.kind = 0 := by
 rcases ok_kinds ok with z | z | z
 ·exact ⟨fun _ => z, fun _ => kindS0 z⟩
 ·rw [kindS1 z, z]
  exact ⟨fun e => absurd e.symm name_number, fun e => by cases e⟩
 ·have e : qW t = signS t.text := by
   simp only [qW, z]
   rfl
  rw [e, z]
  constructor
  ·intro e2
   exact absurd e2 ((show ∀ x ∈ allTexts, ¬ signS x = "name" by decide +kernel) _ (ok_two ok z))
  ·intro e; cases e
theorem kind_number {t : Kp110.Tok} (ok : OkTok t) : qW t = "number" ↔ t.kind = 1 := by
 rcases ok_kinds ok with z | z | z
 ·rw [kindS0 z, z]
  exact ⟨fun e => absurd e name_number, fun e => by cases e⟩
 ·exact ⟨fun _ => z, fun _ => kindS1 z⟩
 ·have e : qW t = signS t.text := by
   simp only [qW, z]
   rfl
  rw [e, z]
  constructor
  ·intro e2
   exact absurd e2 ((show ∀ x ∈ allTexts, ¬ signS x = "number" by decide +kernel) _ (ok_two ok z))
  ·intro e; cases e
theorem kind_nothing {t : Kp110.Tok} (ok : OkTok t) : qW t ≠ "nothing" := by
 rcases ok_kinds ok with z | z | z
 ·rw [kindS0 z]
  decide +kernel
 ·rw [kindS1 z]
  decide +kernel
 ·have e : qW t = signS t.text := by
   simp only [qW, z]
   rfl
  rw [e]
  exact (show ∀ x ∈ allTexts, ¬ signS x = "nothing" by decide +kernel) _ (ok_two ok z)
def NumOk (b : Bytes) : Prop := b ≠ [] /\ b.length <= 18 /\ ∀ c ∈ b, 48 <= c /\ c <= 57
structure Tks (c : Nat) (ts : List Kp110.Tok) (i : Nat) (ns : List Mn) : Prop where
 le : i <= ts.length
 most : ts.length <= 2048
 ok : ∀ t ∈ ts, OkTok t
 num : ∀ t ∈ ts, t.kind = 1 -> NumOk t.text
 few : ns.length + c <= 8 * i
theorem drop_at {ts : List Kp110.Tok} {i : Nat} {t : Kp110.Tok} (h : ts[i]? = some t) : ts.drop i = t :: ts.drop (i + 1) := by
 obtain ⟨hi, e⟩ := List.getElem?_eq_some_iff.mp h
 rw [List.drop_eq_getElem_cons hi, e]
theorem drop_no {ts : List Kp110.Tok} {i : Nat} (h : ts[i]? = none) : ts.drop i = [] := List.drop_eq_nil_iff.mpr (List.getElem?_eq_none_iff.mp h)
theorem Tks.at {ts : List Kp110.Tok} {i : Nat} {ns : List Mn} {c : Nat} (T : Tks c ts i ns) {t : Kp110.Tok} (h : ts[i]? = some t) : OkTok t := T.ok t (List.mem_of_getElem? h)
theorem Tks.tok {ts : List Kp110.Tok} {i : Nat} {ns : List Mn} {c : Nat} (T : Tks c ts i ns) {w : String} {ws : Str} (h : wOk w ws = true) : zS ts i = ws ↔ isTok w (ts.drop i) = true := by
 cases e : ts[i]? with
 | none =>
  rw [drop_no e]
  unfold zS
  rw [e]
  constructor
  ·intro z
   unfold wOk at h
   simp only [Bool.and_eq_true, Bool.not_eq_true', decide_eq_false_iff_not] at h
   exact absurd z.symm h.1.2
  ·intro z; cases z
 | some t =>
  rw [drop_at e]
  unfold zS
  rw [e]
  exact kind_tok h (T.at e) _
theorem Tks.kind {ts : List Kp110.Tok} {i : Nat} {k : Str} (h : zS ts i = k) (hk : k ≠ "nothing") : ∃ t, ts[i]? = some t /\ qW t = k := by
 unfold zS at h
 cases e : ts[i]? with
 | none =>
  rw [e] at h
  exact absurd h.symm hk
 | some t =>
  rw [e] at h
  exact ⟨t, rfl, h⟩
theorem Tks.next8 {ts : List Kp110.Tok} {i : Nat} {ns : List Mn} {c : Nat} (T : Tks c ts i ns) {t : Kp110.Tok} (h : ts[i]? = some t) : Tks (c + 8) ts (i + 1) ns := by
 obtain ⟨hi, _⟩ := List.getElem?_eq_some_iff.mp h
 exact ⟨hi, T.most, T.ok, T.num, by have := T.few; omega⟩
theorem Tks.down {ts : List Kp110.Tok} {i : Nat} {ns : List Mn} {c d : Nat} (T : Tks c ts i ns) (h : d <= c) : Tks d ts i ns := ⟨T.le, T.most, T.ok, T.num, by have := T.few; omega⟩
theorem Tks.next {ts : List Kp110.Tok} {i : Nat} {ns : List Mn} {c : Nat} (T : Tks c ts i ns) {t : Kp110.Tok} (h : ts[i]? = some t) : Tks c ts (i + 1) ns := (T.next8 h).down (by omega)
theorem Tks.snoc {ts : List Kp110.Tok} {i : Nat} {ns : List Mn} {c : Nat} (T : Tks (c + 1) ts i ns) (n : Mn) : Tks c ts i (ns ++ [n]) := ⟨T.le, T.most, T.ok, T.num, by have := T.few; rw [List.length_append]; show ns.length + 1 + c <= _; omega⟩
theorem Tks.few' {ts : List Kp110.Tok} {j : Nat} {ns : List Mn} {c : Nat} (T : Tks c ts j ns) : ns.length < 100000 := by
 have := T.few; have := T.le; have := T.most; omega
theorem suf_drop {m i j : Nat} {ts rest : List Kp110.Tok} (hi : i <= ts.length) (h : Suf m i (ts.drop i) (j, rest)) : rest = ts.drop j /\ i + m <= j /\ j <= ts.length := by
 obtain ⟨k, h1, h2, e1, e2⟩ := h
 have e1 : j = i + k := e1
 have e2 : rest = (ts.drop i).drop k := e2
 rw [List.length_drop] at h2
 rw [List.drop_drop] at e2
 exact ⟨by rw [e2, e1], by omega, by omega⟩
section
variable {cR cNP r tl m : Addr} {ts : List Kp110.Tok} {i : Nat} {ns : List Mn} {H : Hp} {σ : L2.St} {Q : VK} {E : XK} {k : Str}
theorem yY (R : RdAt cR H r tl m ts i ns) (h0 : σ[0]? = some (some (V.ref r))) (h : Q (.str (zS ts i)) H) : tMeth cR "kind" (spKind cR) [] E0 (qT 0) tNil σ H Q := by
 obtain ⟨dx, hi⟩ := R.ins
 exact ⟨_, h0, r, dx, _, rfl, hi, rf_no _ _ _ (by decide +kernel) (by decide +kernel) (by decide +kernel), r, tl, m, ts, i, ns, rfl, R, h⟩
theorem tk_any (R : RdAt cR H r tl m ts i ns) (hk : k ≠ "nothing") (hE : zS ts i ≠ k -> ∀ H', E (.ref cNP) none H')
  (h : ∀ t, ts[i]? = some t -> qW t = k -> ∀ H', RdAt cR H' r tl m ts (i + 1) ns -> Keep r m H H' -> Q (.str (yQ t)) H') : yG cR cNP [V.ref r, V.str k] H Q E := ⟨r, tl, m, ts, i, ns, k, rfl, R, hk, hE, h⟩
theorem qX (R : RdAt cR H r tl m ts i ns) (h0 : σ[0]? = some (some (V.ref r))) (hk : k ≠ "nothing") (hE : zS ts i ≠ k -> ∀ H', E (.ref cNP) none H')
  (h : ∀ t, ts[i]? = some t -> qW t = k -> ∀ H', RdAt cR H' r tl m ts (i + 1) ns -> Keep r m H H' -> Q (.str (yQ t)) H') : tMeth cR "take" (yG cR cNP) [] E (qT 0) (qH (tC (.str k)) tNil) σ H Q := by
 obtain ⟨dx, hi⟩ := R.ins
 exact ⟨_, h0, r, dx, _, rfl, hi, rf_no _ _ _ (by decide +kernel) (by decide +kernel) (by decide +kernel), tk_any R hk hE h⟩
theorem tk_same (R : RdAt cR H r tl m ts i ns) (h0 : σ[0]? = some (some (V.ref r))) {t : Kp110.Tok} (ht : ts[i]? = some t) (ok : OkTok t)
  (h : ∀ H', RdAt cR H' r tl m ts (i + 1) ns -> Keep r m H H' -> Q (.str (yQ t)) H') : tMeth cR "take" (yG cR cNP) [] E (qT 0) (qH (tMeth cR "kind" (spKind cR) [] E0 (qT 0) tNil) tNil) σ H Q := by
 obtain ⟨dx, hi⟩ := R.ins
 have e : zS ts i = qW t := by unfold zS; rw [ht]
 refine ⟨_, h0, r, dx, _, rfl, hi, rf_no _ _ _ (by decide +kernel) (by decide +kernel) (by decide +kernel), yY R h0 ?_⟩
 rw [e]
 exact tk_any R (kind_nothing ok) (fun z => absurd e z) fun t' ht' _ H' R' K' => by
  rw [ht] at ht'
  cases ht'
  exact h H' R' K'
end
def spRd {α : Type} (cR cNP : Addr) (n : Nat) (X : Nat -> Nat -> List Kp110.Tok -> Option (α × Nat × List Kp110.Tok)) (Men : Nat -> α -> List Mn -> Prop) : Sp := fun vs H Q E =>
 ∃ (r tl m : Addr) (ts : List Kp110.Tok) (i : Nat) (ns : List Mn) (d c : Nat), vs = [V.ref r, V.int d] /\ (d <= 32 /\ 33 <= d + n) /\ RdAt cR H r tl m ts i ns /\ Tks c ts i ns /\ (X d i (ts.drop i) = none -> ∀ H', E (.ref cNP) none H') /\
  ∀ e j, X d i (ts.drop i) = some (e, j, ts.drop j) -> ∀ H' ns', Men ns.length e ns' -> Tks c ts j (ns ++ ns') -> RdAt cR H' r tl m ts j (ns ++ ns') -> Keep r m H H' -> Q .non H'
theorem rd_read {α : Type} {cR cNP : Addr} {n : Nat} {X : Nat -> Nat -> List Kp110.Tok -> Option (α × Nat × List Kp110.Tok)} {Men : Nat -> α -> List Mn -> Prop} {r tl m : Addr} {ts : List Kp110.Tok} {i d c : Nat} {ns : List Mn} {H : Hp} {σ : L2.St} {Q : VK} {E : XK}
  (R : RdAt cR H r tl m ts i ns) (h0 : σ[0]? = some (some (V.ref r))) (h1 : σ[1]? = some (some (V.int d))) (hd : d <= 32 /\ 33 <= d + n) (T : Tks c ts i ns) (hE : X d i (ts.drop i) = none -> ∀ H', E (.ref cNP) none H')
  (h : ∀ e j, X d i (ts.drop i) = some (e, j, ts.drop j) -> ∀ H' ns', Men ns.length e ns' -> Tks c ts j (ns ++ ns') -> RdAt cR H' r tl m ts j (ns ++ ns') -> Keep r m H H' -> Q .non H') : tCall (spRd cR cNP n X Men) [] E (qH (qT 0) (qH (qT 1) tNil)) σ H Q :=
 ⟨_, h0, _, h1, r, tl, m, ts, i, ns, d, c, rfl, hd, R, T, hE, h⟩
theorem rd_zero {P : Program} {w : World} {K : PySem.W.Frag} {mg : Str -> Option Value} {base : Heap} {α : Type} {cR cNP f : Addr} {fd : FuncData} {k : Nat} {X : Nat -> Nat -> List Kp110.Tok -> Option (α × Nat × List Kp110.Tok)} {Men : Nat -> α -> List Mn -> Prop} :
  FnOk P w K mg base (CXW P w) k f fd ["reader", "deep"] (spRd cR cNP 0 X Men) :=
 ⟨fun vs H Q E h => by obtain ⟨r, tl, m, ts, i, ns, d, c, rfl, _⟩ := h; rfl, fun A outer s H args us vs Q E _ _ _ _ h => by
  obtain ⟨r, tl, m, ts, i, ns, d, c, _, hd, _⟩ := h
  omega⟩
def MenE : Nat -> Kp110.E -> List Mn -> Prop := fun _ e ns => ns = cE e
theorem mn_any {cR r tl m : Addr} {ts : List Kp110.Tok} {i c : Nat} {ns : List Mn} {H : Hp} {Q : VK} {E : XK} (n : Mn) (R : RdAt cR H r tl m ts i ns) (T : Tks c ts i ns) (hn : smallC [n]) (h : ∀ H', RdAt cR H' r tl m ts i (ns ++ [n]) -> Keep r m H H' -> Q .non H') :
  qJ cR (V.ref r :: n.vals) H Q E := ⟨r, tl, m, ts, i, ns, n, rfl, R, T.few', hn, h⟩
theorem yW {n : Mn} (h : okM n) : smallC [n] := fun k hk => by
 rcases List.mem_cons.mp hk with e | e
 ·rw [e]; exact h
 ·cases e
theorem op_mem {l : List (String × Nat)} {ts : List Kp110.Tok} {op : Nat} (h : opOf l ts = some op) : op ∈ l.map Prod.snd := by
 unfold Kp110.opOf at h
 cases e : l.find? (fun x => isTok x.1 ts) with
 | none => rw [e] at h; cases h
 | some x =>
  rw [e] at h
  have h : x.2 = op := Option.some.inj h
  rw [<- h]
  exact List.mem_map_of_mem (List.mem_of_find?_eq_some e)
theorem yR {cR r tl m : Addr} {ts : List Kp110.Tok} {i c : Nat} {ns : List Mn} {H : Hp} {σ : L2.St} {Q : VK} {ta tb tc : TE} (n : Mn) (R : RdAt cR H r tl m ts i ns) (T : Tks c ts i ns) (hn : smallC [n]) (h0 : σ[0]? = some (some (V.ref r)))
  (hv : ∀ P : List V -> Hp -> Prop, P n.vals H -> qH ta (qH tb (qH tc tNil)) σ H P) (h : ∀ H', RdAt cR H' r tl m ts i (ns ++ [n]) -> Keep r m H H' -> Q .non H') : tMeth cR "order" (qJ cR) [] E0 (qT 0) (qH ta (qH tb (qH tc tNil))) σ H Q := by
 obtain ⟨dx, hi⟩ := R.ins
 exact ⟨_, h0, r, dx, _, rfl, hi, rf_no _ _ _ (by decide +kernel) (by decide +kernel) (by decide +kernel), hv _ (by show qJ cR (V.ref r :: (n.vals ++ [])) H Q E0; rw [List.append_nil]; exact mn_any n R T hn h)⟩
end SM
end
section
set_option Elab.async false
set_option linter.all false
set_option maxRecDepth 100000
set_option maxHeartbeats 2000000
namespace SM
open PySem PySem.Spec PyProof.Rows L2
open Kp110 (Bytes words small digit inName bytesOf isTok opOf eat nameAt)
abbrev sExpr : Stmt := top 24
abbrev sSum : Stmt := top 25
abbrev sTerm : Stmt := top 26
theorem op_in {ts : List Kp110.Tok} {j c : Nat} {ns : List Mn} (T : Tks c ts j ns) : ∀ (l : List ((String × Nat) × Str)), (∀ x ∈ l, wOk x.1.1 x.2 = true) ->
  inV (.str (zS ts j)) (l.map fun x => V.str x.2) = (opOf (l.map (·.1)) (ts.drop j)).isSome
 | [], _ => rfl
 | x :: l, h => by
  have ih := op_in T l fun y hy => h y (List.mem_cons_of_mem _ hy)
  have hx := T.tok (h x List.mem_cons_self)
  unfold inV at ih ⊢
  rw [List.map_cons, List.any_cons, ih]
  unfold opOf
  rw [List.map_cons, List.find?_cons]
  by_cases e : isTok x.1.1 (ts.drop j) = true
  ·rw [e]
   have e2 := hx.mpr e
   show ((x.2 == zS ts j) || _) = true
   rw [e2, beq_self_eq_true]
   rfl
  ·have e3 : isTok x.1.1 (ts.drop j) = false := Bool.eq_false_iff.mpr e
   rw [e3]
   show ((x.2 == zS ts j) || _) = _
   rw [beq_eq_false_iff_ne.mpr fun z => e (hx.mp z.symm), Bool.false_or]
theorem op_at {ts : List Kp110.Tok} {j op : Nat} {l : List (String × Nat)} (h : opOf l (ts.drop j) = some op) : ∃ t, ts[j]? = some t := by
 obtain ⟨t, r, e⟩ := opOf_cons h
 cases q : ts[j]? with
 | none =>
  rw [drop_no q] at e
  cases e
 | some t => exact ⟨t, rfl⟩
theorem op_spell {l : List (String × Nat)} (hl : ∀ x ∈ l, signS (bytesOf x.1) = opS x.2) {ts : List Kp110.Tok} {j op : Nat} {t : Kp110.Tok} (h : opOf l (ts.drop j) = some op) (ht : ts[j]? = some t) : yQ t = opS op := by
 unfold Kp110.opOf at h
 cases e : l.find? (fun x => isTok x.1 (ts.drop j)) with
 | none => rw [e] at h; cases h
 | some x =>
  rw [e] at h
  have h : x.2 = op := Option.some.inj h
  have hm := List.mem_of_find?_eq_some e
  have hi := List.find?_some e
  rw [drop_at ht] at hi
  have hi : (t.kind == 2 && t.text == bytesOf x.1) = true := hi
  rw [Bool.and_eq_true, beq_iff_eq, beq_iff_eq] at hi
  unfold yQ
  rw [if_pos hi.1, hi.2, <- h]
  exact hl x hm
section
variable {P : Program} {w : World} {K : PySem.W.Frag} {mg : Str -> Option Value} {base : Heap} {cR cNP fK fT fM aW aS : Addr} {fdK fdT fdM : FuncData}
theorem scTerm : FnScope ["reader", "deep", "sign"] ["reader", "deep"] (zJ sTerm) := scK
theorem ok_term {f fF : Addr} {fd fdF : FuncData} {n : Nat} (T : RC K cR fK fT fM fdK fdT fdM) (G : Gs mg) (B : Tb K mg cNP aW aS) (D : Dn K mg "read_term" sTerm ["reader", "deep"] f fd) (DF : Dn K mg "read_factor" (top 27) ["reader", "deep"] fF fdF)
  (GF : FnOk P w K mg base (CXW P w) (6 * (n + 1)) fF fdF ["reader", "deep"] (spRd cR cNP (n + 1) xFac MenE)) : FnOk P w K mg base (CXW P w) (6 * (n + 1) + 1) f fd ["reader", "deep"] (spRd cR cNP (n + 1) xTerm MenE) := by
 have GK : FnOk P w K mg base (CXW P w) 1 fK fdK ["self"] (spKind cR) := yX T G
 have GT : FnOk P w K mg base (CXW P w) 2 fT fdT ["self", "kind"] (yG cR cNP) := ok_take T G B
 have GM : FnOk P w K mg base (CXW P w) 1 fM fdM ["self", "how", "name", "number"] (qJ cR) := qU T
 refine D.fn.okW scTerm (fun vs H Q E h => ?_) (fun cdv A outer s H vs Q E hr h => ?_)
 ·obtain ⟨r, tl, m, ts, i, ns, d, c, rfl, _⟩ := h
  rfl
 ·obtain ⟨r, tl, m, ts, i, ns, d, c, rfl, hd, R, Tk, kE, kk⟩ := h
  have hr1 : Room 1 _ := hr.mono (by omega)
  have hr2 : Room 2 _ := hr.mono (by omega)
  refine ⟨_, zB (zL (zO GF hr rfl DF.mgf DF.fn.kp DF.bi .nil zT (zA (pv 0) (zA (pv 1) zE)))) (zC (ps_while ownW (zM op_in_seq (qO (pv 0) T.cl T.mK GK hr1 T.bK .nil qC) (pe_tup (zA zK (zA zK (zA zK zE)))) rfl) (zB (qB (i := 2) scTerm.nd rfl (Or.inl rfl) (zR (pv 0) T.cl T.mT GT hr2 T.bT .nil zT (zA (qO (pv 0) T.cl T.mK GK hr1 T.bK .nil qC) zE))) (zB (zL (zO GF hr rfl DF.mgf DF.fn.kp DF.bi .nil zT (zA (pv 0) (zA (pv 1) zE)))) (zC (zL (zR (pv 0) T.cl T.mM GM hr1 T.bM .nil qC (zA zK (zA (pv 2) (zA zQ zE)))))))))), ?_⟩
  refine rd_read R rfl rfl hd Tk (fun hn H' => kE (by rw [xTerm_eq, hn]; rfl) H') (fun a j ha H1 n1 hM T1 R1 K1 => ?_)
  have hM : n1 = cE a := hM
  subst hM
  refine ⟨fun mm σ H' => ∃ a j sg, σ = [some (V.ref r), some (V.int (d : Int)), sg] /\ mm = ts.length - j /\ Tks c ts j (ns ++ cE a) /\ RdAt cR H' r tl m ts j (ns ++ cE a) /\ Keep r m H H' /\ xTerm d i (ts.drop i) = xTermR d i a j (ts.drop j),
   ⟨ts.length - j, a, j, _, rfl, rfl, T1, R1, K1, by rw [xTerm_eq, ha]; rfl⟩, ?_⟩
  clear hM T1 R1 K1 ha
  clear a j H1
  rintro mm σ H' ⟨a, j, sg, rfl, rfl, T1, R1, K1, hx⟩
  refine yY R1 rfl ⟨(by show 3 <= sizeLine; decide), fun p hp => ⟨p, _, rfl, .inr (SqT.of zG), rfl, rfl, _, rfl, ?_⟩⟩
  have s1 : Same H' (upd H' p (.tup [.str "*", .str "/", .str "rest"])) := upd_sm hp
  have hop := op_in T1 [(("*", 42), "*"), (("/", 47), "/"), (("%", 37), "rest")] (by decide +kernel)
  dsimp only
  rw [if_neg Bool.false_ne_true]
  refine qG (fun h1 => ?_) (fun h1 => ?_)
  ·have h1 : (opOf [("*", 42), ("/", 47), ("%", 37)] (ts.drop j)).isSome = true := hop.symm.trans h1
   obtain ⟨op, ho⟩ := Option.isSome_iff_exists.mp h1
   obtain ⟨t, ht⟩ := op_at ho
   refine ⟨fun σ' H'' => ∃ mm', mm' < ts.length - j /\ ∃ a j sg, σ' = [some (V.ref r), some (V.int (d : Int)), sg] /\ mm' = ts.length - j /\ Tks c ts j (ns ++ cE a) /\ RdAt cR H'' r tl m ts j (ns ++ cE a) /\ Keep r m H H'' /\ xTerm d i (ts.drop i) = xTermR d i a j (ts.drop j),
    fun _ _ x => x, ?_⟩
   rw [xTermR_eq, ho] at hx
   dsimp only at hx
   rw [List.drop_drop] at hx
   refine tk_same (R1.same s1) rfl ht (T1.at ht) (fun H3 R3 K3 => ?_)
   have T3 := T1.next8 ht
   refine rd_read R3 rfl rfl hd T3 (fun hn H'' => kE (by rw [hx, hn]; rfl) H'') (fun b j2 hb H4 n2 hM2 T4 R4 K4 => ?_)
   have hM2 : n2 = cE b := hM2
   subst hM2
   have q : j + 1 + 1 <= j2 /\ j2 <= ts.length := (suf_drop T3.le (xFac_suf hb)).2
   have sp := op_spell (by decide +kernel) ho ht
   refine yR (.two op) R4 T4 (yW (by have := op_mem ho; simp only [List.map_cons, List.map_nil, List.mem_cons, List.not_mem_nil, or_false] at this; show _ ∨ _; omega)) rfl (fun P hP => ⟨_, rfl, by rw [sp]; exact hP⟩) (fun H5 R5 K5 => ?_)
   have T5 := (T4.snoc (.two op)).down (d := c) (by omega)
   have e : ((ns ++ cE a) ++ cE b) ++ [.two op] = ns ++ cE (.bin i j2 op a b) := by rw [cE]; simp only [List.append_assoc]
   rw [e] at T5 R5
   refine ⟨ts.length - j2, ?_, _, j2, _, rfl, rfl, T5, R5, (((K1.trans (Same.keep s1)).trans K3).trans K4).trans K5, ?_⟩
   ·have := T1.le
    obtain ⟨z, _⟩ := List.getElem?_eq_some_iff.mp ht
    omega
   ·rw [hx, hb]
    rfl
  ·have h1 : opOf [("*", 42), ("/", 47), ("%", 37)] (ts.drop j) = none := by
    cases ho : opOf [("*", 42), ("/", 47), ("%", 37)] (ts.drop j) with
    | none => rfl
    | some op =>
     have h2 : (opOf [("*", 42), ("/", 47), ("%", 37)] (ts.drop j)).isSome = true := by rw [ho]; rfl
     exact absurd (hop.trans h2) h1
   rw [xTermR_eq, h1] at hx
   exact kk a j hx _ _ rfl T1 (R1.same s1) (K1.trans (Same.keep s1))
theorem scSum : FnScope ["reader", "deep", "sign"] ["reader", "deep"] (zJ sSum) := scK
theorem ok_sum {f fF : Addr} {fd fdF : FuncData} {n : Nat} (T : RC K cR fK fT fM fdK fdT fdM) (G : Gs mg) (B : Tb K mg cNP aW aS) (D : Dn K mg "read_sum" sSum ["reader", "deep"] f fd) (DF : Dn K mg "read_term" sTerm ["reader", "deep"] fF fdF)
  (GF : FnOk P w K mg base (CXW P w) (6 * (n + 1) + 1) fF fdF ["reader", "deep"] (spRd cR cNP (n + 1) xTerm MenE)) : FnOk P w K mg base (CXW P w) (6 * (n + 1) + 2) f fd ["reader", "deep"] (spRd cR cNP (n + 1) xSum MenE) := by
 have GK : FnOk P w K mg base (CXW P w) 1 fK fdK ["self"] (spKind cR) := yX T G
 have GT : FnOk P w K mg base (CXW P w) 2 fT fdT ["self", "kind"] (yG cR cNP) := ok_take T G B
 have GM : FnOk P w K mg base (CXW P w) 1 fM fdM ["self", "how", "name", "number"] (qJ cR) := qU T
 refine D.fn.okW scSum (fun vs H Q E h => ?_) (fun cdv A outer s H vs Q E hr h => ?_)
 ·obtain ⟨r, tl, m, ts, i, ns, d, c, rfl, _⟩ := h
  rfl
 ·obtain ⟨r, tl, m, ts, i, ns, d, c, rfl, hd, R, Tk, kE, kk⟩ := h
  have hr1 : Room 1 _ := hr.mono (by omega)
  have hr2 : Room 2 _ := hr.mono (by omega)
  refine ⟨_, zB (zL (zO GF hr rfl DF.mgf DF.fn.kp DF.bi .nil zT (zA (pv 0) (zA (pv 1) zE)))) (zC (ps_while ownW (zM op_in_seq (qO (pv 0) T.cl T.mK GK hr1 T.bK .nil qC) (pe_tup (zA zK (zA zK zE))) rfl) (zB (qB (i := 2) scSum.nd rfl (Or.inl rfl) (zR (pv 0) T.cl T.mT GT hr2 T.bT .nil zT (zA (qO (pv 0) T.cl T.mK GK hr1 T.bK .nil qC) zE))) (zB (zL (zO GF hr rfl DF.mgf DF.fn.kp DF.bi .nil zT (zA (pv 0) (zA (pv 1) zE)))) (zC (zL (zR (pv 0) T.cl T.mM GM hr1 T.bM .nil qC (zA zK (zA (pv 2) (zA zQ zE)))))))))), ?_⟩
  refine rd_read R rfl rfl hd Tk (fun hn H' => kE (by rw [xSum_eq, hn]; rfl) H') (fun a j ha H1 n1 hM T1 R1 K1 => ?_)
  have hM : n1 = cE a := hM
  subst hM
  refine ⟨fun mm σ H' => ∃ a j sg, σ = [some (V.ref r), some (V.int (d : Int)), sg] /\ mm = ts.length - j /\ Tks c ts j (ns ++ cE a) /\ RdAt cR H' r tl m ts j (ns ++ cE a) /\ Keep r m H H' /\ xSum d i (ts.drop i) = xSumR d i a j (ts.drop j),
   ⟨ts.length - j, a, j, _, rfl, rfl, T1, R1, K1, by rw [xSum_eq, ha]; rfl⟩, ?_⟩
  clear hM T1 R1 K1 ha
  clear a j H1
  rintro mm σ H' ⟨a, j, sg, rfl, rfl, T1, R1, K1, hx⟩
  refine yY R1 rfl ⟨(by show 2 <= sizeLine; decide), fun p hp => ⟨p, _, rfl, .inr (SqT.of zG), rfl, rfl, _, rfl, ?_⟩⟩
  have s1 : Same H' (upd H' p (.tup [.str "+", .str "-"])) := upd_sm hp
  have hop := op_in T1 [(("+", 43), "+"), (("-", 45), "-")] (by decide +kernel)
  dsimp only
  rw [if_neg Bool.false_ne_true]
  refine qG (fun h1 => ?_) (fun h1 => ?_)
  ·have h1 : (opOf [("+", 43), ("-", 45)] (ts.drop j)).isSome = true := hop.symm.trans h1
   obtain ⟨op, ho⟩ := Option.isSome_iff_exists.mp h1
   obtain ⟨t, ht⟩ := op_at ho
   refine ⟨fun σ' H'' => ∃ mm', mm' < ts.length - j /\ ∃ a j sg, σ' = [some (V.ref r), some (V.int (d : Int)), sg] /\ mm' = ts.length - j /\ Tks c ts j (ns ++ cE a) /\ RdAt cR H'' r tl m ts j (ns ++ cE a) /\ Keep r m H H'' /\ xSum d i (ts.drop i) = xSumR d i a j (ts.drop j),
    fun _ _ x => x, ?_⟩
   rw [xSumR_eq, ho] at hx
   dsimp only at hx
   rw [List.drop_drop] at hx
   refine tk_same (R1.same s1) rfl ht (T1.at ht) (fun H3 R3 K3 => ?_)
   have T3 := T1.next8 ht
   refine rd_read R3 rfl rfl hd T3 (fun hn H'' => kE (by rw [hx, hn]; rfl) H'') (fun b j2 hb H4 n2 hM2 T4 R4 K4 => ?_)
   have hM2 : n2 = cE b := hM2
   subst hM2
   have q : j + 1 + 1 <= j2 /\ j2 <= ts.length := (suf_drop T3.le (xTerm_suf hb)).2
   have sp := op_spell (by decide +kernel) ho ht
   refine yR (.two op) R4 T4 (yW (by have := op_mem ho; simp only [List.map_cons, List.map_nil, List.mem_cons, List.not_mem_nil, or_false] at this; show _ ∨ _; omega)) rfl (fun P hP => ⟨_, rfl, by rw [sp]; exact hP⟩) (fun H5 R5 K5 => ?_)
   have T5 := (T4.snoc (.two op)).down (d := c) (by omega)
   have e : ((ns ++ cE a) ++ cE b) ++ [.two op] = ns ++ cE (.bin i j2 op a b) := by rw [cE]; simp only [List.append_assoc]
   rw [e] at T5 R5
   refine ⟨ts.length - j2, ?_, _, j2, _, rfl, rfl, T5, R5, (((K1.trans (Same.keep s1)).trans K3).trans K4).trans K5, ?_⟩
   ·have := T1.le
    obtain ⟨z, _⟩ := List.getElem?_eq_some_iff.mp ht
    omega
   ·rw [hx, hb]
    rfl
  ·have h1 : opOf [("+", 43), ("-", 45)] (ts.drop j) = none := by
    cases ho : opOf [("+", 43), ("-", 45)] (ts.drop j) with
    | none => rfl
    | some op =>
     have h2 : (opOf [("+", 43), ("-", 45)] (ts.drop j)).isSome = true := by rw [ho]; rfl
     exact absurd (hop.trans h2) h1
   rw [xSumR_eq, h1] at hx
   exact kk a j hx _ _ rfl T1 (R1.same s1) (K1.trans (Same.keep s1))
theorem scExpr : FnScope ["reader", "deep", "sign"] ["reader", "deep"] (zJ sExpr) := scK
theorem ok_expr {f fF : Addr} {fd fdF : FuncData} {n : Nat} (T : RC K cR fK fT fM fdK fdT fdM) (G : Gs mg) (B : Tb K mg cNP aW aS) (D : Dn K mg "read_expr" sExpr ["reader", "deep"] f fd) (DF : Dn K mg "read_sum" sSum ["reader", "deep"] fF fdF)
  (GF : FnOk P w K mg base (CXW P w) (6 * (n + 1) + 2) fF fdF ["reader", "deep"] (spRd cR cNP (n + 1) xSum MenE)) : FnOk P w K mg base (CXW P w) (6 * (n + 1) + 3) f fd ["reader", "deep"] (spRd cR cNP (n + 1) yH MenE) := by
 have GK : FnOk P w K mg base (CXW P w) 1 fK fdK ["self"] (spKind cR) := yX T G
 have GT : FnOk P w K mg base (CXW P w) 2 fT fdT ["self", "kind"] (yG cR cNP) := ok_take T G B
 have GM : FnOk P w K mg base (CXW P w) 1 fM fdM ["self", "how", "name", "number"] (qJ cR) := qU T
 refine D.fn.okW scExpr (fun vs H Q E h => ?_) (fun cdv A outer s H vs Q E hr h => ?_)
 ·obtain ⟨r, tl, m, ts, i, ns, d, c, rfl, _⟩ := h
  rfl
 ·obtain ⟨r, tl, m, ts, i, ns, d, c, rfl, hd, R, Tk, kE, kk⟩ := h
  have hr1 : Room 1 _ := hr.mono (by omega)
  have hr2 : Room 2 _ := hr.mono (by omega)
  refine ⟨_, zB (zL (zO GF hr rfl DF.mgf DF.fn.kp DF.bi .nil zT (zA (pv 0) (zA (pv 1) zE)))) (zC (zZ (zM op_in_seq (qO (pv 0) T.cl T.mK GK hr1 T.bK .nil qC) (pe_tup (zA zK (zA zK zE))) rfl) (zB (qB (i := 2) scExpr.nd rfl (Or.inl rfl) (zR (pv 0) T.cl T.mT GT hr2 T.bT .nil zT (zA (qO (pv 0) T.cl T.mK GK hr1 T.bK .nil qC) zE))) (zB (zL (zO GF hr rfl DF.mgf DF.fn.kp DF.bi .nil zT (zA (pv 0) (zA (pv 1) zE)))) (zC (zL (zR (pv 0) T.cl T.mM GM hr1 T.bM .nil qC (zA zK (zA (pv 2) (zA zQ zE)))))))) zY)), ?_⟩
  refine rd_read R rfl rfl hd Tk (fun hn H' => kE (by rw [xExpr_eq, hn]; rfl) H') (fun a j ha H1 n1 hM T1 R1 K1 => ?_)
  have hM : n1 = cE a := hM
  subst hM
  have hx : yH d i (ts.drop i) = (match opOf [("<", 60), ("==", 61)] (ts.drop j) with
    | some op => (xSum d (j + 1) ((ts.drop j).drop 1)) >>= fun b => some (.bin i b.2.1 op a b.1, b.2)
    | none => some (a, j, ts.drop j)) := by rw [xExpr_eq, ha]; rfl
  refine yY R1 rfl ⟨(by show 2 <= sizeLine; decide), fun p hp => ⟨p, _, rfl, .inr (SqT.of zG), rfl, rfl, _, rfl, ?_⟩⟩
  have s1 : Same H1 (upd H1 p (.tup [.str "<", .str "=="])) := upd_sm hp
  have hop := op_in T1 [(("<", 60), "<"), (("==", 61), "==")] (by decide +kernel)
  dsimp only
  rw [if_neg Bool.false_ne_true]
  refine qG (fun h1 => ?_) (fun h1 => ?_)
  ·have h1 : (opOf [("<", 60), ("==", 61)] (ts.drop j)).isSome = true := hop.symm.trans h1
   obtain ⟨op, ho⟩ := Option.isSome_iff_exists.mp h1
   obtain ⟨t, ht⟩ := op_at ho
   rw [ho] at hx
   dsimp only at hx
   rw [List.drop_drop] at hx
   refine tk_same (R1.same s1) rfl ht (T1.at ht) (fun H3 R3 K3 => ?_)
   have T3 := T1.next8 ht
   refine rd_read R3 rfl rfl hd T3 (fun hn H'' => kE (by rw [hx, hn]; rfl) H'') (fun b j2 hb H4 n2 hM2 T4 R4 K4 => ?_)
   have hM2 : n2 = cE b := hM2
   subst hM2
   have sp := op_spell (by decide +kernel) ho ht
   refine yR (.two op) R4 T4 (yW (by have := op_mem ho; simp only [List.map_cons, List.map_nil, List.mem_cons, List.not_mem_nil, or_false] at this; show _ ∨ _; omega)) rfl (fun P hP => ⟨_, rfl, by rw [sp]; exact hP⟩) (fun H5 R5 K5 => ?_)
   have T5 := (T4.snoc (.two op)).down (d := c) (by omega)
   have e : ((ns ++ cE a) ++ cE b) ++ [.two op] = ns ++ cE (.bin i j2 op a b) := by rw [cE]; simp only [List.append_assoc]
   rw [e] at T5 R5
   exact kk _ j2 (by rw [hx, hb]; rfl) _ _ rfl T5 R5 ((((K1.trans (Same.keep s1)).trans K3).trans K4).trans K5)
  ·have h1 : opOf [("<", 60), ("==", 61)] (ts.drop j) = none := by
    cases ho : opOf [("<", 60), ("==", 61)] (ts.drop j) with
    | none => rfl
    | some op =>
     have h2 : (opOf [("<", 60), ("==", 61)] (ts.drop j)).isSome = true := by rw [ho]; rfl
     exact absurd (hop.trans h2) h1
   rw [h1] at hx
   exact kk a j hx _ _ rfl T1 (R1.same s1) (K1.trans (Same.keep s1))
end
end SM
end
section
set_option Elab.async false
set_option linter.all false
set_option maxRecDepth 100000
set_option maxHeartbeats 2000000
namespace SM
open PySem PySem.Spec PyProof.Rows L2
open Kp110 (Bytes words small digit inName bytesOf isTok opOf eat nameAt)
abbrev sCall : Stmt := top 23
abbrev sFactor : Stmt := top 27
abbrev sName : Stmt := top 28
def xTail (d j : Nat) (ts : List Kp110.Tok) : Option (Kp110.Es × Nat × List Kp110.Tok) := match eat ")" j ts with
 | some z => some (.nil, z)
 | none => (eat "," j ts) >>= fun c => xMore d c.1 c.2
theorem xMore_tail (d i : Nat) (ts : List Kp110.Tok) : xMore d i ts = (yH d i ts) >>= fun e => (xTail d e.2.1 e.2.2) >>= fun l => some (.cons e.1 l.1, l.2) := by
 rw [xMore_eq]
 refine zP rfl fun e he => ?_
 unfold xTail
 cases eat ")" e.2.1 e.2.2 with
 | some z => rfl
 | none =>
  cases eat "," e.2.1 e.2.2 with
  | none => rfl
  | some c =>
   rfl
def appE : Kp110.Es -> Kp110.Es -> Kp110.Es
 | .nil, b => b
 | .cons e l, b => .cons e (appE l b)
theorem appE_nil : ∀ a, appE a .nil = a
 | .nil => rfl
 | .cons e l => by rw [appE, appE_nil l]
theorem appE_one (e : Kp110.E) (b : Kp110.Es) : ∀ a, appE (appE a (.cons e .nil)) b = appE a (.cons e b)
 | .nil => rfl
 | .cons x l => by rw [appE, appE, appE_one e b l, appE]
theorem appE_len (b : Kp110.Es) : ∀ a, (appE a b).list.length = a.list.length + b.list.length
 | .nil => by rw [appE]; show _ = 0 + _; omega
 | .cons x l => by
  rw [appE]
  show (appE l b).list.length + 1 = l.list.length + 1 + _
  rw [appE_len b l]
  omega
theorem cEs_app (b : Kp110.Es) : ∀ a, cEs (appE a b) = cEs a ++ cEs b
 | .nil => by rw [appE, cEs]; rfl
 | .cons e l => by rw [appE, cEs, cEs, cEs_app b l, List.append_assoc]
theorem cEs_one (e : Kp110.E) : cEs (.cons e .nil) = cE e := by rw [cEs, cEs, List.append_nil]
section
variable {ts : List Kp110.Tok} {j c : Nat} {ns : List Mn} {wd : String} {ws : Str}
theorem Tks.eat_yes (T : Tks c ts j ns) (h : wOk wd ws = true) (e : zS ts j = ws) : eat wd j (ts.drop j) = some (j + 1, ts.drop (j + 1)) := by
 unfold Kp110.eat
 rw [if_pos ((T.tok h).mp e), List.drop_drop]
theorem Tks.eat_no (T : Tks c ts j ns) (h : wOk wd ws = true) (e : ¬ zS ts j = ws) : eat wd j (ts.drop j) = none := by
 unfold Kp110.eat
 rw [if_neg fun z => e ((T.tok h).mpr z)]
end
theorem str_ne_no {a b : Str} (h : (!decide (V.str a = V.str b)) = true) : ¬ a = b := fun z => by
 rw [z] at h
 simp at h
theorem str_ne_yes {a b : Str} (h : ¬ (!decide (V.str a = V.str b)) = true) : a = b :=
 Decidable.byContradiction fun z => h (by rw [decide_eq_false fun e => z (V.str.inj e)]; rfl)
theorem qM {a b : Str} (h : decide (V.str a = V.str b) = true) : a = b := V.str.inj (of_decide_eq_true h)
theorem qQ {a b : Str} (h : ¬ decide (V.str a = V.str b) = true) : ¬ a = b := fun z => h (decide_eq_true (by rw [z]))
def spCallR (cR cNP : Addr) (n : Nat) : Sp := fun vs H Q E =>
 ∃ (r tl m : Addr) (ts : List Kp110.Tok) (i : Nat) (ns : List Mn) (d c : Nat) (x : Bytes), vs = [V.ref r, V.str (qA x), V.int d] /\ (d <= 32 /\ 33 <= d + n) /\ RdAt cR H r tl m ts i ns /\ Tks c ts i ns /\ zS ts i = "(" /\
  ((32 <= d ∨ xArgs (d + 1) (i + 1) (ts.drop (i + 1)) = none) -> ∀ H', E (.ref cNP) none H') /\
  ∀ e j, ¬ 32 <= d -> xArgs (d + 1) (i + 1) (ts.drop (i + 1)) = some (e, j, ts.drop j) -> ∀ H', Tks c ts j (ns ++ (cEs e ++ [.call x e.list.length])) -> RdAt cR H' r tl m ts j (ns ++ (cEs e ++ [.call x e.list.length])) -> Keep r m H H' -> Q .non H'
section
variable {P : Program} {w : World} {K : PySem.W.Frag} {mg : Str -> Option Value} {base : Heap} {cR cNP fK fT fM aW aS : Addr} {fdK fdT fdM : FuncData}
theorem scCall : FnScope ["reader", "name", "deep", "inner", "count"] ["reader", "name", "deep"] (zJ sCall) := scK
theorem ok_callR {f fE fD : Addr} {fd fdE fdD : FuncData} {n : Nat} (T : RC K cR fK fT fM fdK fdT fdM) (G : Gs mg) (G2 : Gs2 mg) (B : Tb K mg cNP aW aS) (D : Dn K mg "read_call" sCall ["reader", "name", "deep"] f fd) (DE : Dn K mg "read_expr" sExpr ["reader", "deep"] fE fdE)
  (DD : Dn K mg "deeper" sDeeper ["deep"] fD fdD) (GE : FnOk P w K mg base (CXW P w) (6 * n + 3) fE fdE ["reader", "deep"] (spRd cR cNP n yH MenE)) : FnOk P w K mg base (CXW P w) (6 * n + 4) f fd ["reader", "name", "deep"] (spCallR cR cNP (n + 1)) := by
 have GK : FnOk P w K mg base (CXW P w) 1 fK fdK ["self"] (spKind cR) := yX T G
 have GT : FnOk P w K mg base (CXW P w) 2 fT fdT ["self", "kind"] (yG cR cNP) := ok_take T G B
 have GM : FnOk P w K mg base (CXW P w) 1 fM fdM ["self", "how", "name", "number"] (qJ cR) := qU T
 have GD : FnOk P w K mg base (CXW P w) 1 fD fdD ["deep"] (spDeeper cNP) := ok_deeper DD G2 B
 refine D.fn.okW scCall (fun vs H Q E h => ?_) (fun cdv A outer s H vs Q E hr h => ?_)
 ·obtain ⟨r, tl, m, ts, i, ns, d, c, x, rfl, _⟩ := h
  rfl
 ·obtain ⟨r, tl, m, ts, i, ns, d, c, x, rfl, hd, R, Tk, hk, kE, kk⟩ := h
  have hr1 : Room 1 _ := hr.mono (by omega)
  have hr2 : Room 2 _ := hr.mono (by omega)
  refine ⟨_, zB (qB (i := 3) scCall.nd rfl (Or.inl rfl) (zO GD hr1 rfl DD.mgf DD.fn.kp DD.bi .nil zT (zA (pv 2) zE)))
   (zB (qB (i := 4) scCall.nd rfl (Or.inl rfl) zQ)
   (zB (zL (zR (pv 0) T.cl T.mT GT hr2 T.bT .nil zT (zA zK zE)))
   (zB (zZ (zM op_ne (qO (pv 0) T.cl T.mK GK hr1 T.bK .nil qC) zK (nomark _))
    (zB (zL (zO GE hr rfl DE.mgf DE.fn.kp DE.bi .nil zT (zA (pv 0) (zA (pv 3) zE))))
    (zB (qB (i := 4) scCall.nd rfl (Or.inl rfl) zQ)
    (zC (ps_while ownW (zM qE (qO (pv 0) T.cl T.mK GK hr1 T.bK .nil qC) zK (nomark _))
     (zB (zL (zR (pv 0) T.cl T.mT GT hr2 T.bT .nil zT (zA zK zE)))
     (zB (zL (zO GE hr rfl DE.mgf DE.fn.kp DE.bi .nil zT (zA (pv 0) (zA (pv 3) zE))))
     (zC (ps_aug (i := 4) scCall.nd rfl (Or.inl rfl) zQ ip_add)))))))) zY)
   (zB (zL (zR (pv 0) T.cl T.mT GT hr2 T.bT .nil zT (zA zK zE)))
   (zC (zL (zR (pv 0) T.cl T.mM GM hr1 T.bM .nil qC (zA zK (zA (pv 1) (zA (pv 4) zE)))))))))), ?_⟩
  refine ⟨_, rfl, d, rfl, fun z H' => kE (.inl (by omega)) H', fun z => ?_⟩
  have hd32 : ¬ 32 <= d := by omega
  have hd1 : d + 1 <= 32 /\ 33 <= d + 1 + n := by omega
  refine qX R rfl (by decide +kernel) (fun z => absurd hk z) (fun t0 ht0 _ H1 R1 K1 => ?_)
  have T1 := Tk.next8 ht0
  have hx := xArgs_eq (d + 1) (i + 1) (ts.drop (i + 1))
  have fin : ∀ (es : Kp110.Es) (j : Nat) (H' : Hp) (v : Nat), v = es.list.length -> Tks (c + 8) ts j (ns ++ cEs es) -> RdAt cR H' r tl m ts j (ns ++ cEs es) -> Keep r m H H' ->
    (zS ts j ≠ ")" -> xArgs (d + 1) (i + 1) (ts.drop (i + 1)) = none) -> (zS ts j = ")" -> xArgs (d + 1) (i + 1) (ts.drop (i + 1)) = some (es, j + 1, ts.drop (j + 1))) ->
    tMeth cR "take" (yG cR cNP) [] E (qT 0) (qH (tC (.str ")")) tNil) [some (V.ref r), some (V.str (qA x)), some (V.int (d : Int)), some (V.int ((d + 1 : Nat) : Int)), some (V.int (v : Int))] H' (fun _ H2 =>
     tMeth cR "order" (qJ cR) [] E0 (qT 0) (qH (tC (.str "call")) (qH (qT 1) (qH (qT 4) tNil))) [some (V.ref r), some (V.str (qA x)), some (V.int (d : Int)), some (V.int ((d + 1 : Nat) : Int)), some (V.int (v : Int))] H2 (fun _ H3 => Q .non H3)) := by
   intro es j H' v hv T2 R2 K2 hno hyes
   refine qX R2 rfl (by decide +kernel) (fun z H'' => kE (.inr (hno z)) H'') (fun t ht hkt H2 R3 K3 => ?_)
   have hk2 : zS ts j = ")" := by unfold zS; rw [ht]; exact hkt
   have T3 := T2.next ht
   obtain ⟨dx, hi⟩ := R3.ins
   refine ⟨_, rfl, r, dx, _, rfl, hi, rf_no _ _ _ (by decide +kernel) (by decide +kernel) (by decide +kernel), _, rfl, _, rfl, ?_⟩
   subst hv
   refine mn_any (E := E0) (.call x es.list.length) R3 T3 (yW trivial) (fun H3 R4 K4 => ?_)
   have T4 := (T3.snoc (.call x es.list.length)).down (d := c) (by omega)
   rw [List.append_assoc] at R4 T4
   exact kk es (j + 1) hd32 (hyes hk2) H3 T4 R4 ((K2.trans K3).trans K4)
  refine yY R1 rfl ⟨rfl, _, rfl, ?_⟩
  refine qG (fun h1 => ?_) (fun h1 => ?_)
  ·have h1 := str_ne_no h1
   rw [T1.eat_no (wd := ")") (by decide +kernel) h1] at hx
   have hx : xArgs (d + 1) (i + 1) (ts.drop (i + 1)) = xMore (d + 1) (i + 1) (ts.drop (i + 1)) := hx
   rw [xMore_tail] at hx
   refine ⟨_, rfl, _, rfl, r, tl, m, ts, i + 1, ns, d + 1, c + 8, rfl, hd1, R1, T1, fun hn H' => kE (.inr (by rw [hx, hn]; rfl)) H', fun e j he H2 n1 hM T2 R2 K2 => ?_⟩
   obtain rfl : n1 = cE e := hM
   rw [he] at hx
   have hx2 : xArgs (d + 1) (i + 1) (ts.drop (i + 1)) = (xTail (d + 1) j (ts.drop j)) >>= fun l => some (.cons e l.1, l.2) := hx
   refine ⟨fun mm σ H' => ∃ (es : Kp110.Es) (j : Nat), σ = [some (V.ref r), some (V.str (qA x)), some (V.int (d : Int)), some (V.int ((d + 1 : Nat) : Int)), some (V.int ((es.list.length : Nat) : Int))] /\ mm = ts.length - j /\ Tks (c + 8) ts j (ns ++ cEs es) /\ RdAt cR H' r tl m ts j (ns ++ cEs es) /\ Keep r m H H' /\
     xArgs (d + 1) (i + 1) (ts.drop (i + 1)) = (xTail (d + 1) j (ts.drop j)) >>= fun l => some (appE es l.1, l.2),
    ⟨ts.length - j, .cons e .nil, j, rfl, rfl, by rw [cEs_one]; exact T2, by rw [cEs_one]; exact R2, K1.trans K2, by rw [hx2]; rfl⟩, ?_⟩
   clear hx2 hx he T2 R2 K2
   clear e j H2
   rintro mm σ H' ⟨es, j, rfl, rfl, T2, R2, K2, hx⟩
   refine yY R2 rfl ⟨rfl, _, rfl, ?_⟩
   refine qG (fun h2 => ?_) (fun h2 => ?_)
   ·have h2 := qM h2
    have h3 : ¬ zS ts j = ")" := fun z => absurd (h2.symm.trans z) (by decide +kernel)
    unfold xTail at hx
    rw [T2.eat_no (wd := ")") (by decide +kernel) h3, T2.eat_yes (wd := ",") (by decide +kernel) h2] at hx
    have hx : xArgs (d + 1) (i + 1) (ts.drop (i + 1)) = (xMore (d + 1) (j + 1) (ts.drop (j + 1))) >>= fun l => some (appE es l.1, l.2) := hx
    rw [xMore_tail] at hx
    refine ⟨fun σ' H'' => ∃ mm', mm' < ts.length - j /\ ∃ (es : Kp110.Es) (j : Nat), σ' = [some (V.ref r), some (V.str (qA x)), some (V.int (d : Int)), some (V.int ((d + 1 : Nat) : Int)), some (V.int ((es.list.length : Nat) : Int))] /\ mm' = ts.length - j /\ Tks (c + 8) ts j (ns ++ cEs es) /\ RdAt cR H'' r tl m ts j (ns ++ cEs es) /\ Keep r m H H'' /\
     xArgs (d + 1) (i + 1) (ts.drop (i + 1)) = (xTail (d + 1) j (ts.drop j)) >>= fun l => some (appE es l.1, l.2), fun _ _ z => z, ?_⟩
    refine qX R2 rfl (by decide +kernel) (fun z => absurd h2 z) (fun t ht _ H3 R3 K3 => ?_)
    have T3 := T2.next ht
    refine ⟨_, rfl, _, rfl, r, tl, m, ts, j + 1, ns ++ cEs es, d + 1, c + 8, rfl, hd1, R3, T3, fun hn H'' => kE (.inr (by rw [hx, hn]; rfl)) H'', fun e j2 he H4 n2 hM2 T4 R4 K4 => ?_⟩
    obtain rfl : n2 = cE e := hM2
    have q : j + 1 + 1 <= j2 /\ j2 <= ts.length := (suf_drop T3.le (xExpr_suf he)).2
    have e4 : (ns ++ cEs es) ++ cE e = ns ++ cEs (appE es (.cons e .nil)) := by rw [cEs_app, cEs_one, List.append_assoc]
    rw [e4] at T4 R4
    rw [he] at hx
    refine ⟨_, rfl, _, _, rfl, rfl, ts.length - j2, ?_, appE es (.cons e .nil), j2, ?_, rfl, T4, R4, (K2.trans K3).trans K4, ?_⟩
    ·obtain ⟨z, _⟩ := List.getElem?_eq_some_iff.mp ht
     omega
    ·rw [appE_len]
     rfl
    ·rw [hx]
     show (((xTail (d + 1) j2 (ts.drop j2)) >>= fun l => some (.cons e l.1, l.2)) >>= fun l => some (appE es l.1, l.2)) = _
     cases xTail (d + 1) j2 (ts.drop j2) with
     | none => rfl
     | some l =>
      show some (appE es (.cons e l.1), l.2) = some (appE (appE es (.cons e .nil)) l.1, l.2)
      rw [appE_one]
   ·have h2 := qQ h2
    refine fin es j H' es.list.length rfl T2 R2 K2 (fun z => ?_) (fun z => ?_)
    ·rw [hx]
     unfold xTail
     rw [T2.eat_no (wd := ")") (by decide +kernel) z, T2.eat_no (wd := ",") (by decide +kernel) h2]
     rfl
    ·rw [hx]
     unfold xTail
     rw [T2.eat_yes (wd := ")") (by decide +kernel) z]
     show some (appE es .nil, _) = _
     rw [appE_nil]
  ·have h1 := str_ne_yes h1
   rw [T1.eat_yes (wd := ")") (by decide +kernel) h1] at hx
   refine fin .nil (i + 1) H1 0 rfl (by rw [cEs, List.append_nil]; exact T1) (by rw [cEs, List.append_nil]; exact R1) K1 (fun z => absurd h1 z) (fun _ => hx)
end
end SM
end
section
set_option Elab.async false
set_option linter.all false
set_option maxRecDepth 100000
set_option maxHeartbeats 2000000
namespace SM
open PySem PySem.Spec PyProof.Rows L2
open Kp110 (Bytes words small digit inName bytesOf isTok opOf eat nameAt)
theorem tk_var {cR cNP r tl m : Addr} {ts : List Kp110.Tok} {i v : Nat} {ns : List Mn} {H : Hp} {σ : L2.St} {Q : VK} {E : XK} {k : Str} (R : RdAt cR H r tl m ts i ns) (h0 : σ[0]? = some (some (V.ref r))) (h2 : σ[v]? = some (some (V.str k))) (hk : k ≠ "nothing")
  (hE : zS ts i ≠ k -> ∀ H', E (.ref cNP) none H') (h : ∀ t, ts[i]? = some t -> qW t = k -> ∀ H', RdAt cR H' r tl m ts (i + 1) ns -> Keep r m H H' -> Q (.str (yQ t)) H') :
  tMeth cR "take" (yG cR cNP) [] E (qT 0) (qH (qT v) tNil) σ H Q := by
 obtain ⟨dx, hi⟩ := R.ins
 exact ⟨_, h0, r, dx, _, rfl, hi, rf_no _ _ _ (by decide +kernel) (by decide +kernel) (by decide +kernel), _, h2, tk_any R hk hE h⟩
theorem spell_name {t : Kp110.Tok} (h : t.kind = 0) : yQ t = qA t.text := by
 unfold yQ
 rw [if_neg (by omega)]
def spNameR (cR cNP : Addr) (n : Nat) : Sp := fun vs H Q E =>
 ∃ (r tl m : Addr) (ts : List Kp110.Tok) (i : Nat) (ns : List Mn) (d c : Nat), vs = [V.ref r, V.int d] /\ (d <= 32 /\ 33 <= d + n) /\ RdAt cR H r tl m ts i ns /\ Tks c ts i ns /\ zS ts i = "name" /\ (xFac d i (ts.drop i) = none -> ∀ H', E (.ref cNP) none H') /\
  ∀ e j, xFac d i (ts.drop i) = some (e, j, ts.drop j) -> ∀ H' ns', MenE ns.length e ns' -> Tks c ts j (ns ++ ns') -> RdAt cR H' r tl m ts j (ns ++ ns') -> Keep r m H H' -> Q .non H'
section
variable {P : Program} {w : World} {K : PySem.W.Frag} {mg : Str -> Option Value} {base : Heap} {cR cNP fK fT fM aW aS : Addr} {fdK fdT fdM : FuncData}
theorem scName : FnScope ["reader", "deep", "name"] ["reader", "deep"] (zJ sName) := scK
theorem ok_nameR {f fC : Addr} {fd fdC : FuncData} {n : Nat} (T : RC K cR fK fT fM fdK fdT fdM) (G : Gs mg) (B : Tb K mg cNP aW aS) (D : Dn K mg "read_name" sName ["reader", "deep"] f fd) (DC : Dn K mg "read_call" sCall ["reader", "name", "deep"] fC fdC)
  (GC : FnOk P w K mg base (CXW P w) (6 * n + 4) fC fdC ["reader", "name", "deep"] (spCallR cR cNP (n + 1))) : FnOk P w K mg base (CXW P w) (6 * n + 5) f fd ["reader", "deep"] (spNameR cR cNP (n + 1)) := by
 have GK : FnOk P w K mg base (CXW P w) 1 fK fdK ["self"] (spKind cR) := yX T G
 have GT : FnOk P w K mg base (CXW P w) 2 fT fdT ["self", "kind"] (yG cR cNP) := ok_take T G B
 have GM : FnOk P w K mg base (CXW P w) 1 fM fdM ["self", "how", "name", "number"] (qJ cR) := qU T
 refine D.fn.okW scName (fun vs H Q E h => ?_) (fun cdv A outer s H vs Q E hr h => ?_)
 ·obtain ⟨r, tl, m, ts, i, ns, d, c, rfl, _⟩ := h
  rfl
 ·obtain ⟨r, tl, m, ts, i, ns, d, c, rfl, hd, R, Tk, hk, kE, kk⟩ := h
  have hr1 : Room 1 _ := hr.mono (by omega)
  have hr2 : Room 2 _ := hr.mono (by omega)
  refine ⟨_, zB (qB (i := 2) scName.nd rfl (Or.inl rfl) (zR (pv 0) T.cl T.mT GT hr2 T.bT .nil zT (zA zK zE)))
   (zC (zZ (zM qE (qO (pv 0) T.cl T.mK GK hr1 T.bK .nil qC) zK (nomark _))
    (zC (zL (zO GC hr rfl DC.mgf DC.fn.kp DC.bi .nil zT (zA (pv 0) (zA (pv 2) (zA (pv 1) zE))))))
    (zC (zL (zR (pv 0) T.cl T.mM GM hr1 T.bM .nil qC (zA zK (zA (pv 2) (zA zQ zE)))))))), ?_⟩
  refine qX R rfl (by decide +kernel) (fun z => absurd hk z) (fun t ht hkt H1 R1 K1 => ?_)
  have T1 := Tk.next8 ht
  have h0 : t.kind = 0 := (kind_name (Tk.at ht)).mp hkt
  have hx : xFac d i (ts.drop i) = (if isTok "(" (ts.drop (i + 1)) then (if 32 <= d then none else (xArgs (d + 1) (i + 1 + 1) (ts.drop (i + 1 + 1))) >>= fun l => some (.call i l.2.1 t.text l.1, l.2)) else some (.var i t.text, i + 1, ts.drop (i + 1))) := by
   rw [drop_at ht, xFac_cons, if_neg (by omega), if_pos h0, List.drop_drop]
   rfl
  rw [spell_name h0]
  refine yY R1 rfl ⟨rfl, _, rfl, ?_⟩
  refine qG (fun h1 => ?_) (fun h1 => ?_)
  ·have h1 := qM h1
   rw [if_pos ((T1.tok (w := "(") (by decide +kernel)).mp h1)] at hx
   refine ⟨_, rfl, _, rfl, _, rfl, r, tl, m, ts, i + 1, ns, d, c, t.text, rfl, hd, R1, T1.down (by omega), h1, fun z H' => kE ?_ H', fun e j hd32 he H' T2 R2 K2 => ?_⟩
   ·rcases z with z | z
    ·rw [hx, if_pos z]
    ·rw [hx]
     split
     ·rfl
     ·rw [z]; rfl
   ·exact kk (.call i j t.text e) j (by rw [hx, if_neg hd32, he]; rfl) H' _ rfl (by rw [cE]; exact T2) (by rw [cE]; exact R2) (K1.trans K2)
  ·have h1 := qQ h1
   rw [if_neg fun z => h1 ((T1.tok (w := "(") (by decide +kernel)).mpr z)] at hx
   obtain ⟨dx, hi⟩ := R1.ins
   refine ⟨_, rfl, r, dx, _, rfl, hi, rf_no _ _ _ (by decide +kernel) (by decide +kernel) (by decide +kernel), _, rfl, ?_⟩
   refine mn_any (E := E0) (.use t.text) R1 T1 (yW trivial) (fun H3 R4 K4 => ?_)
   exact kk _ (i + 1) hx H3 [.use t.text] (by show _ = cE _; rw [cE]) ((T1.snoc _).down (by omega)) R4 (K1.trans K4)
theorem num_text {b : Bytes} (h : NumOk b) : PySem.intText? (qA b) = some ((Kp110.number b : Nat) : Int) /\ (qA b).length <= 640 /\ Kp110.number b <= 9223372036854775807 := by
 obtain ⟨h1, h2, h3⟩ := h
 have e1 : (qA b).cps.toList = b := rfl
 have hl : (qA b).length = b.length := rfl
 have hv : NumText.digitsVal b = Kp110.number b := by
  unfold NumText.digitsVal Kp110.number
  congr 1
  funext a c
  rw [Nat.mul_comm]
 have hb : ∀ (l : List Nat) (a k : Nat), (∀ c ∈ l, 48 <= c /\ c <= 57) -> a < 10 ^ k -> l.foldl (fun v c => 10 * v + (c - 48)) a < 10 ^ (k + l.length) := by
  intro l
  induction l with
  | nil => intro a k _ ha; exact ha
  | cons c l ih =>
   intro a k hc ha
   have hc0 := hc c List.mem_cons_self
   have := ih (10 * a + (c - 48)) (k + 1) (fun d hd => hc d (List.mem_cons_of_mem _ hd)) (by rw [Nat.pow_succ]; omega)
   rw [List.foldl_cons, List.length_cons, show k + (l.length + 1) = k + 1 + l.length by omega]
   exact this
 refine ⟨?_, by rw [hl]; omega, ?_⟩
 ·have := PySem.intText_digits (x := qA b) (by rw [e1]; exact h3) (by rw [e1]; exact h1) (by rw [hl]; omega)
  rw [e1, hv] at this
  exact this
 ·have z := hb b 0 0 h3 (by decide)
  have z2 : (10 : Nat) ^ (0 + b.length) <= 10 ^ 18 := Nat.pow_le_pow_right (by decide) (by omega)
  have z3 : Kp110.number b < 10 ^ 18 := Nat.lt_of_lt_of_le z z2
  omega
theorem scFactor : FnScope ["reader", "deep", "kind"] ["reader", "deep"] (zJ sFactor) := scK
theorem ok_factor {f fN fE fD : Addr} {fd fdN fdE fdD : FuncData} {n : Nat} (T : RC K cR fK fT fM fdK fdT fdM) (G : Gs mg) (G2 : Gs2 mg) (B : Tb K mg cNP aW aS) (D : Dn K mg "read_factor" sFactor ["reader", "deep"] f fd) (DN : Dn K mg "read_name" sName ["reader", "deep"] fN fdN)
  (DE : Dn K mg "read_expr" sExpr ["reader", "deep"] fE fdE) (DD : Dn K mg "deeper" sDeeper ["deep"] fD fdD)
  (GN : FnOk P w K mg base (CXW P w) (6 * n + 5) fN fdN ["reader", "deep"] (spNameR cR cNP (n + 1))) (GE : FnOk P w K mg base (CXW P w) (6 * n + 3) fE fdE ["reader", "deep"] (spRd cR cNP n yH MenE))
  (GF : FnOk P w K mg base (CXW P w) (6 * n) f fd ["reader", "deep"] (spRd cR cNP n xFac MenE)) : FnOk P w K mg base (CXW P w) (6 * n + 6) f fd ["reader", "deep"] (spRd cR cNP (n + 1) xFac MenE) := by
 have GK : FnOk P w K mg base (CXW P w) 1 fK fdK ["self"] (spKind cR) := yX T G
 have GT : FnOk P w K mg base (CXW P w) 2 fT fdT ["self", "kind"] (yG cR cNP) := ok_take T G B
 have GM : FnOk P w K mg base (CXW P w) 1 fM fdM ["self", "how", "name", "number"] (qJ cR) := qU T
 have GD : FnOk P w K mg base (CXW P w) 1 fD fdD ["deep"] (spDeeper cNP) := ok_deeper DD G2 B
 refine D.fn.okW scFactor (fun vs H Q E h => ?_) (fun cdv A outer s H vs Q E hr h => ?_)
 ·obtain ⟨r, tl, m, ts, i, ns, d, c, rfl, _⟩ := h
  rfl
 ·obtain ⟨r, tl, m, ts, i, ns, d, c, rfl, hd, R, Tk, kE, kk⟩ := h
  have hr1 : Room 1 _ := hr.mono (by omega)
  have hr2 : Room 2 _ := hr.mono (by omega)
  have hr3 : Room (6 * n + 3) _ := hr.mono (by omega)
  have hr0 : Room (6 * n) _ := hr.mono (by omega)
  refine ⟨_, zB (qB (i := 2) scFactor.nd rfl (Or.inl rfl) (qO (pv 0) T.cl T.mK GK hr1 T.bK .nil qC)) (zC (zZ (zM qE (pv 2) zK (nomark _)) (zC (zL (zR (pv 0) T.cl T.mM GM hr1 T.bM .nil qC (zA zK (zA zK (zA (pe_callTy call_int_str (by rfl) G2.int boot_i (zA (zR (pv 0) T.cl T.mT GT hr2 T.bT .nil zT (zA zK zE)) zE)) zE)))))) (zC (zZ (zM qE (pv 2) zK (nomark _)) (zB (zL (zR (pv 0) T.cl T.mT GT hr2 T.bT .nil zT (zA zK zE))) (zC (zL (zR (pv 0) T.cl T.mM GM hr1 T.bM .nil qC (zA zK (zA zK (zA zQ zE))))))) (zC (zZ (zM qE (pv 2) zK (nomark _)) (zC (zL (zO GN hr rfl DN.mgf DN.fn.kp DN.bi .nil zT (zA (pv 0) (zA (pv 1) zE))))) (zC (zZ (PW.pt (pw_or (zM qE (pv 2) zK (nomark _)) (pw_or1 (zM qE (pv 2) zK (nomark _))))) (zB (zL (zR (pv 0) T.cl T.mT GT hr2 T.bT .nil zT (zA (pv 2) zE))) (zB (zL (zO GF hr0 rfl D.mgf D.fn.kp D.bi .nil zT (zA (pv 0) (zA (zO GD hr1 rfl DD.mgf DD.fn.kp DD.bi .nil zT (zA (pv 1) zE)) zE)))) (zC (zL (zR (pv 0) T.cl T.mM GM hr1 T.bM .nil qC (zA zK (zA (pv 2) (zA zQ zE)))))))) (zB (zL (zR (pv 0) T.cl T.mT GT hr2 T.bT .nil zT (zA zK zE))) (zB (zL (zO GE hr3 rfl DE.mgf DE.fn.kp DE.bi .nil zT (zA (pv 0) (zA (zO GD hr1 rfl DD.mgf DD.fn.kp DD.bi .nil zT (zA (pv 1) zE)) zE)))) (zC (zL (zR (pv 0) T.cl T.mT GT hr2 T.bT .nil zT (zA zK zE)))))))))))))), ?_⟩
  refine yY R rfl ?_
  refine ⟨_, rfl, rfl, _, rfl, ?_⟩
  refine qG (fun h1 => ?_) (fun h1 => ?_)
  ·have h1 := qM h1
   obtain ⟨dx, hi⟩ := R.ins
   refine ⟨_, rfl, r, dx, _, rfl, hi, rf_no _ _ _ (by decide +kernel) (by decide +kernel) (by decide +kernel), ?_⟩
   refine qX R rfl (by decide +kernel) (fun z => absurd h1 z) (fun t ht hkt H1 R1 K1 => ?_)
   have T1 := Tk.next8 ht
   have k1 := (kind_number (Tk.at ht)).mp hkt
   obtain ⟨q1, q2, q3⟩ := num_text (Tk.num t (List.mem_of_getElem? ht) k1)
   have sp : yQ t = qA t.text := by unfold yQ; rw [if_neg (by omega)]
   refine ⟨_, _, rfl, by rw [sp]; exact q1, by rw [sp]; exact q2, ?_⟩
   refine mn_any (E := E0) (.num (Kp110.number t.text)) R1 T1 ?_ (fun H3 R4 K4 => ?_)
   ·exact yW q3
   ·exact kk (.num i (Kp110.number t.text)) (i + 1) (by rw [drop_at ht, xFac_cons, if_pos k1]) H3 [.num (Kp110.number t.text)] (by show _ = cE _; rw [cE]) ((T1.snoc _).down (by omega)) R4 (K1.trans K4)
  have n1 := qQ h1
  clear h1
  refine ⟨_, rfl, rfl, _, rfl, ?_⟩
  refine qG (fun h1 => ?_) (fun h1 => ?_)
  ·have h1 := qM h1
   refine qX R rfl (by decide +kernel) (fun z => absurd h1 z) (fun t ht hkt H1 R1 K1 => ?_)
   have T1 := Tk.next8 ht
   have k1 : ¬ t.kind = 1 := fun z => n1 (by unfold zS; rw [ht]; exact kindS1 z)
   have k0 : ¬ t.kind = 0 := fun z => absurd ((kindS0 z).symm.trans hkt) (by decide +kernel)
   refine yR .get R1 T1 (yW trivial) rfl (fun P hP => hP) (fun H3 R4 K4 => ?_)
   exact kk (.get i) (i + 1) (by rw [drop_at ht, xFac_cons, if_neg k1, if_neg k0, if_pos ((kind_tok (w := "get") (by decide +kernel) (Tk.at ht) _).mp hkt)]) H3 [.get] (by show _ = cE _; rw [cE]) ((T1.snoc _).down (by omega)) R4 (K1.trans K4)
  have n2 := qQ h1
  clear h1
  refine ⟨_, rfl, rfl, _, rfl, ?_⟩
  refine qG (fun h1 => ?_) (fun h1 => ?_)
  ·have h1 := qM h1
   exact ⟨_, rfl, _, rfl, r, tl, m, ts, i, ns, d, c, rfl, hd, R, Tk, h1, kE, kk⟩
  have n3 := qQ h1
  clear h1
  have hkinds : ∀ t, ts[i]? = some t -> xFac d i (ts.drop i) = (match opOf [("-", 45), ("!", 33)] (ts.drop i) with
    | some op => if 32 <= d then none else (xFac (d + 1) (i + 1) (ts.drop (i + 1))) >>= fun e => some (.un i e.2.1 op e.1, e.2)
    | none => if isTok "(" (ts.drop i) = false ∨ 32 <= d then none else (yH (d + 1) (i + 1) (ts.drop (i + 1))) >>= fun e => (eat ")" e.2.1 e.2.2) >>= fun z => some (.par i z.1 e.1, z)) := fun t ht => by
   have k1 : ¬ t.kind = 1 := fun z => n1 (by unfold zS; rw [ht]; exact kindS1 z)
   have k0 : ¬ t.kind = 0 := fun z => n3 (by unfold zS; rw [ht]; exact kindS0 z)
   have kg : ¬ isTok "get" (t :: ts.drop (i + 1)) = true := fun z => n2 (by unfold zS; rw [ht]; exact (kind_tok (w := "get") (by decide +kernel) (Tk.at ht) _).mpr z)
   rw [drop_at ht, xFac_cons, if_neg k1, if_neg k0, if_neg kg]
   rfl
  have hop := op_in Tk [(("-", 45), "-"), (("!", 33), "!")] (by decide +kernel)
  have unary : (opOf [("-", 45), ("!", 33)] (ts.drop i)).isSome = true ->
    tMeth cR "take" (yG cR cNP) [] E (qT 0) (qH (qT 2) tNil) [some (V.ref r), some (V.int (d : Int)), some (V.str (zS ts i))] H (fun _ H1 =>
     tCall (spRd cR cNP n xFac MenE) [] E (qH (qT 0) (qH (tCall (spDeeper cNP) [] E (qH (qT 1) tNil)) tNil)) [some (V.ref r), some (V.int (d : Int)), some (V.str (zS ts i))] H1 fun _ H2 => tMeth cR "order" (qJ cR) [] E0 (qT 0) (qH (tC (.str "one")) (qH (qT 2) (qH (tC (.int 0)) tNil))) [some (V.ref r), some (V.int (d : Int)), some (V.str (zS ts i))] H2 fun _ H3 => Q .non H3) := fun h1 => by
   obtain ⟨op, ho⟩ := Option.isSome_iff_exists.mp h1
   obtain ⟨t, ht⟩ := op_at ho
   have hx := hkinds t ht
   rw [ho] at hx
   dsimp only at hx
   have e : zS ts i = qW t := by unfold zS; rw [ht]
   refine tk_var R rfl rfl (by rw [e]; exact kind_nothing (Tk.at ht)) (fun z => absurd rfl z) (fun t' ht' hkt H1 R1 K1 => ?_)
   have T1 := Tk.next8 ht
   refine ⟨_, rfl, _, rfl, d, rfl, fun z H' => kE (by rw [hx, if_pos (by omega)]) H', fun z => ?_⟩
   have hd32 : ¬ 32 <= d := by omega
   rw [if_neg hd32] at hx
   refine ⟨r, tl, m, ts, i + 1, ns, d + 1, c + 8, rfl, by omega, R1, T1, fun hn H' => kE (by rw [hx, hn]; rfl) H', fun e' j he H2 ns' hM T2 R2 K2 => ?_⟩
   obtain rfl : ns' = cE e' := hM
   have sp : zS ts i = opS op := by
    rw [e, <- op_spell (by decide +kernel) ho ht]
    obtain ⟨t2, r2, e2⟩ := opOf_cons ho
    have k2 : t.kind = 2 := by
     rcases ok_kinds (Tk.at ht) with z | z | z
     ·exact absurd (e.trans (kindS0 z)) n3
     ·exact absurd (e.trans (kindS1 z)) n1
     ·exact z
    unfold qW yQ
    rw [if_neg (by omega), if_neg (by omega), if_pos k2]
   refine yR (.one op) R2 T2 (yW (by have := op_mem ho; simp only [List.map_cons, List.map_nil, List.mem_cons, List.not_mem_nil, or_false] at this; show _ ∨ _; omega)) rfl (fun P hP => ⟨_, rfl, by rw [sp]; exact hP⟩) (fun H5 R5 K5 => ?_)
   have T5 := (T2.snoc (.one op)).down (d := c) (by omega)
   rw [List.append_assoc] at T5 R5
   exact kk (.un i j op e') j (by rw [hx, he]; rfl) H5 (cE e' ++ [.one op]) (by show _ = cE _; rw [cE]) T5 R5 ((K1.trans K2).trans K5)
  refine ⟨_, rfl, rfl, _, rfl, ?_⟩
  refine qG (fun h1 => ?_) (fun h1 => ?_)
  ·have h1 := qM h1
   dsimp only
   rw [if_pos rfl]
   refine unary (hop.symm.trans ?_)
   rw [h1]
   rfl
  have n4 := qQ h1
  clear h1
  refine ⟨_, rfl, rfl, _, rfl, ?_⟩
  refine qG (fun h1 => ?_) (fun h1 => ?_)
  ·have h1 := qM h1
   refine unary (hop.symm.trans ?_)
   rw [h1]
   rfl
  have n5 := qQ h1
  clear h1
  have hno : opOf [("-", 45), ("!", 33)] (ts.drop i) = none := by
   cases ho : opOf [("-", 45), ("!", 33)] (ts.drop i) with
   | none => rfl
   | some op =>
    have h2 : (opOf [("-", 45), ("!", 33)] (ts.drop i)).isSome = true := by rw [ho]; rfl
    have h3 := hop.trans h2
    unfold inV at h3
    simp only [List.map_cons, List.map_nil, List.any_cons, List.any_nil, Bool.or_false, Bool.or_eq_true] at h3
    rcases h3 with h3 | h3
    ·exact absurd (eq_of_beq h3).symm n4
    ·exact absurd (eq_of_beq h3).symm n5
  refine qX R rfl (by decide +kernel) (fun z H' => kE ?_ H') (fun t ht hkt H1 R1 K1 => ?_)
  ·cases ht : ts[i]? with
   | none =>
    rw [drop_no ht]
    exact xFac_nil d i
   | some t =>
    rw [hkinds t ht, hno]
    dsimp only
    rw [if_pos (.inl (Bool.eq_false_iff.mpr fun q => z ((Tk.tok (w := "(") (by decide +kernel)).mpr q)))]
  ·have hk : zS ts i = "(" := by unfold zS; rw [ht]; exact hkt
   have T1 := Tk.next ht
   have hx := hkinds t ht
   rw [hno] at hx
   dsimp only at hx
   have hp : ¬ isTok "(" (ts.drop i) = false := fun z => by
    rw [(Tk.tok (w := "(") (by decide +kernel)).mp hk] at z
    cases z
   refine ⟨_, rfl, _, rfl, d, rfl, fun z H' => kE (by rw [hx, if_pos (.inr (by omega))]) H', fun z => ?_⟩
   have hd32 : ¬ 32 <= d := by omega
   rw [if_neg (by intro q; rcases q with q | q <;> contradiction)] at hx
   refine ⟨r, tl, m, ts, i + 1, ns, d + 1, c, rfl, by omega, R1, T1, fun hn H' => kE (by rw [hx, hn]; rfl) H', fun e j he H2 ns' hM T2 R2 K2 => ?_⟩
   obtain rfl : ns' = cE e := hM
   rw [he] at hx
   refine qX R2 rfl (by decide +kernel) (fun z H' => kE ?_ H') (fun t2 ht2 hkt2 H3 R3 K3 => ?_)
   ·rw [hx]
    show ((eat ")" j (ts.drop j)) >>= _) = _
    rw [T2.eat_no (by decide +kernel) z]
    rfl
   ·have hk2 : zS ts j = ")" := by unfold zS; rw [ht2]; exact hkt2
    refine kk (.par i (j + 1) e) (j + 1) ?_ H3 (cE e) (by show _ = cE _; rw [cE]) (T2.next ht2) R3 ((K1.trans K2).trans K3)
    rw [hx]
    show ((eat ")" j (ts.drop j)) >>= _) = _
    rw [T2.eat_yes (by decide +kernel) hk2]
    rfl
end
end SM
end
section
set_option Elab.async false
set_option linter.all false
set_option maxRecDepth 100000
set_option maxHeartbeats 2000000
namespace SM
open PySem PySem.Spec PyProof.Rows L2
open Kp110 (Bytes words small digit inName bytesOf isTok opOf eat nameAt)
abbrev sBlock : Stmt := top 17
abbrev sStmt : Stmt := top 18
abbrev sLet : Stmt := top 19
abbrev sNamed : Stmt := top 20
abbrev sIf : Stmt := top 21
abbrev sWhile : Stmt := top 22
def xB (d i : Nat) (ts : List Kp110.Tok) : Option (Kp110.Ss × Nat × List Kp110.Tok) := (eat "{" i ts) >>= fun o => yV d o.1 o.2
theorem xB_deep {i : Nat} {ts : List Kp110.Tok} : xB 33 i ts = none := by
 unfold xB
 cases eat "{" i ts with
 | none => rfl
 | some o =>
  show yV 33 o.1 o.2 = none
  rw [xBlock_eq]
  rfl
section
variable {ts : List Kp110.Tok} {j c : Nat} {ns : List Mn}
theorem Tks.name_yes (T : Tks c ts j ns) {t : Kp110.Tok} (h : ts[j]? = some t) (hk : qW t = "name") : nameAt (ts.drop j) = some t.text /\ yQ t = qA t.text := by
 have h0 := (kind_name (T.at h)).mp hk
 rw [drop_at h]
 refine ⟨?_, spell_name h0⟩
 show (if t.kind = 0 then some t.text else none) = _
 rw [if_pos h0]
theorem Tks.name_no (T : Tks c ts j ns) (h : ¬ zS ts j = "name") : nameAt (ts.drop j) = none := by
 cases e : ts[j]? with
 | none => rw [drop_no e]; rfl
 | some t =>
  rw [drop_at e]
  show (if t.kind = 0 then some t.text else none) = _
  rw [if_neg fun z => h (by unfold zS; rw [e]; exact kindS0 z)]
theorem kind_of {t : Kp110.Tok} {k : Str} (h : ts[j]? = some t) (hk : qW t = k) : zS ts j = k := by unfold zS; rw [h]; exact hk
theorem Tks.is_yes (T : Tks c ts j ns) {wd : String} {ws : Str} (h : wOk wd ws = true) (e : zS ts j = ws) : isTok wd (ts.drop j) = true := (T.tok h).mp e
theorem Tks.is_no (T : Tks c ts j ns) {wd : String} {ws : Str} (h : wOk wd ws = true) (e : ¬ zS ts j = ws) : ¬ isTok wd (ts.drop j) = true := fun z => e ((T.tok h).mpr z)
end
theorem kne {a b : Str} {k : Str} (h : k = a) (n : ¬ a = b) : ¬ k = b := fun z => n (h.symm.trans z)
def spSt (cR cNP : Addr) (n : Nat) (k : Str) (tail : Nat -> List V) : Sp := fun vs H Q E =>
 ∃ (r tl m : Addr) (ts : List Kp110.Tok) (i : Nat) (ns : List Mn) (d c : Nat), vs = V.ref r :: V.int d :: tail ns.length /\ (d <= 32 /\ 33 <= d + n) /\ RdAt cR H r tl m ts i (ns ++ [.step]) /\ Tks c ts i ns /\ zS ts i = k /\ (xStmt d i (ts.drop i) = none -> ∀ H', E (.ref cNP) none H') /\
  ∀ e j, xStmt d i (ts.drop i) = some (e, j, ts.drop j) -> ∀ H' ns', CS ns.length e ns' -> Tks c ts j (ns ++ ns') -> RdAt cR H' r tl m ts j (ns ++ ns') -> Keep r m H H' -> Q .non H'
def noV : Nat -> List V := fun _ => []
def startV : Nat -> List V := fun p => [V.int (p : Int)]
theorem jump_read {cR r tl m : Addr} {ts : List Kp110.Tok} {i c : Nat} {ns : List Mn} {H : Hp} {σ : L2.St} {Q : VK} {a n : Mn} {how : Str} (J : Jmp a n 0 how) (R : RdAt cR H r tl m ts i ns) (T : Tks c ts i ns) (h0 : σ[0]? = some (some (V.ref r)))
  (h : ∀ H', RdAt cR H' r tl m ts i (ns ++ [n]) -> Keep r m H H' -> Q (.int (ns.length : Int)) H') : tMeth cR "order_jump" (spJump cR) [] E0 (qT 0) (qH (tC (.str how)) tNil) σ H Q := by
 obtain ⟨dx, hi⟩ := R.ins
 exact ⟨_, h0, r, dx, _, rfl, hi, rf_no _ _ _ (by decide +kernel) (by decide +kernel) (by decide +kernel), r, tl, m, ts, i, ns, a, n, how, rfl, J, R, T.few', h⟩
theorem land_read {cR r tl m : Addr} {ts : List Kp110.Tok} {i v : Nat} {ns ms : List Mn} {H : Hp} {σ : L2.St} {Q : VK} {a b : Mn} {how : Str} (J : Jmp a b (ns.length + (ms.length + 1)) how) (R : RdAt cR H r tl m ts i (ns ++ (a :: ms))) (h0 : σ[0]? = some (some (V.ref r))) (hv : σ[v]? = some (some (V.int (ns.length : Int))))
  (h : ∀ H', RdAt cR H' r tl m ts i (ns ++ (b :: ms)) -> Keep r m H H' -> Q .non H') : tMeth cR "land_here" (spLand cR) [] E0 (qT 0) (qH (qT v) tNil) σ H Q := by
 obtain ⟨dx, hi⟩ := R.ins
 exact ⟨_, h0, r, dx, _, rfl, hi, rf_no _ _ _ (by decide +kernel) (by decide +kernel) (by decide +kernel), _, hv, r, tl, m, ts, i, ns, ms, a, b, how, rfl, J, R, h⟩
theorem Tks.len {c c' i : Nat} {ts : List Kp110.Tok} {ns ns' : List Mn} (T : Tks c ts i ns) (h : ns'.length + c' <= ns.length + c) : Tks c' ts i ns' := ⟨T.le, T.most, T.ok, T.num, by have := T.few; omega⟩
section
variable {P : Program} {w : World} {K : PySem.W.Frag} {mg : Str -> Option Value} {base : Heap} {cR cNP fK fT fM aW aS : Addr} {fdK fdT fdM : FuncData}
theorem scLet : FnScope ["reader", "deep", "name"] ["reader", "deep"] (zJ sLet) := scK
theorem ok_let {f fE : Addr} {fd fdE : FuncData} {n : Nat} (T : RC K cR fK fT fM fdK fdT fdM) (G : Gs mg) (B : Tb K mg cNP aW aS) (D : Dn K mg "read_let" sLet ["reader", "deep"] f fd) (DE : Dn K mg "read_expr" sExpr ["reader", "deep"] fE fdE)
  (GE : FnOk P w K mg base (CXW P w) (6 * (n + 1) + 3) fE fdE ["reader", "deep"] (spRd cR cNP (n + 1) yH MenE)) : FnOk P w K mg base (CXW P w) (6 * (n + 1) + 4) f fd ["reader", "deep"] (spSt cR cNP (n + 1) "let" noV) := by
 have GT : FnOk P w K mg base (CXW P w) 2 fT fdT ["self", "kind"] (yG cR cNP) := ok_take T G B
 have GM : FnOk P w K mg base (CXW P w) 1 fM fdM ["self", "how", "name", "number"] (qJ cR) := qU T
 refine D.fn.okW scLet (fun vs H Q E h => ?_) (fun cdv A outer s H vs Q E hr h => ?_)
 ·obtain ⟨r, tl, m, ts, i, ns, d, c, rfl, _⟩ := h
  rfl
 ·obtain ⟨r, tl, m, ts, i, ns, d, c, rfl, hd, R, Tk, hk, kE, kk⟩ := h
  have hr1 : Room 1 _ := hr.mono (by omega)
  have hr2 : Room 2 _ := hr.mono (by omega)
  refine ⟨_, zB (zL (zR (pv 0) T.cl T.mT GT hr2 T.bT .nil zT (zA zK zE))) (zB (qB (i := 2) scLet.nd rfl (Or.inl rfl) (zR (pv 0) T.cl T.mT GT hr2 T.bT .nil zT (zA zK zE))) (zB (zL (zR (pv 0) T.cl T.mT GT hr2 T.bT .nil zT (zA zK zE))) (zB (zL (zO GE hr rfl DE.mgf DE.fn.kp DE.bi .nil zT (zA (pv 0) (zA (pv 1) zE)))) (zB (zL (zR (pv 0) T.cl T.mT GT hr2 T.bT .nil zT (zA zK zE))) (zC (zL (zR (pv 0) T.cl T.mM GM hr1 T.bM .nil qC (zA zK (zA (pv 2) (zA zQ zE)))))))))), ?_⟩
  have hx := xStmt_eq d i (ts.drop i)
  rw [if_pos (Tk.is_yes (wd := "let") (by decide +kernel) hk), List.drop_drop, List.drop_drop] at hx
  refine qX R rfl (by decide +kernel) (fun z => absurd hk z) (fun t0 ht0 _ H1 R1 K1 => ?_)
  have T1 : Tks (c + 7) ts (i + 1) (ns ++ [.step]) := (Tk.next8 ht0).snoc .step
  refine qX R1 rfl (by decide +kernel) (fun z H' => kE (by rw [hx, T1.name_no z]; rfl) H') (fun t1 ht1 hk1 H2 R2 K2 => ?_)
  have T2 := T1.next ht1
  obtain ⟨nm, sp⟩ := T1.name_yes ht1 hk1
  rw [nm] at hx
  rw [sp]
  refine qX R2 rfl (by decide +kernel) (fun z H' => kE (by rw [hx]; show ((eat "=" (i + 1 + 1) (ts.drop (i + 1 + 1))) >>= _) = _; rw [T2.eat_no (by decide +kernel) z]; rfl) H') (fun t2 ht2 hk2 H3 R3 K3 => ?_)
  have T3 := T2.next ht2
  have hx3 : xStmt d i (ts.drop i) = (yH d (i + 1 + 1 + 1) (ts.drop (i + 1 + 1 + 1))) >>= fun e => (eat ";" e.2.1 e.2.2) >>= fun z => some (.let_ i z.1 t1.text e.1, z) := by
   rw [hx]
   show ((eat "=" (i + 1 + 1) (ts.drop (i + 1 + 1))) >>= _) = _
   rw [T2.eat_yes (by decide +kernel) (kind_of ht2 hk2)]
   rfl
  refine rd_read R3 rfl rfl hd T3 (fun hn H' => kE (by rw [hx3, hn]; rfl) H') (fun e j he H4 n1 hM T4 R4 K4 => ?_)
  obtain rfl : n1 = cE e := hM
  rw [he] at hx3
  refine qX R4 rfl (by decide +kernel) (fun z H' => kE (by rw [hx3]; show ((eat ";" j (ts.drop j)) >>= _) = _; rw [T4.eat_no (by decide +kernel) z]; rfl) H') (fun t5 ht5 hk5 H5 R5 K5 => ?_)
  have T5 := T4.next ht5
  refine yR (.let_ t1.text) R5 T5 (yW trivial) rfl (fun P hP => ⟨_, rfl, hP⟩) (fun H6 R6 K6 => ?_)
  have T6 := (T5.snoc (.let_ t1.text)).down (d := c) (by omega)
  have e6 : ((ns ++ [.step]) ++ cE e) ++ [.let_ t1.text] = ns ++ (.step :: (cE e ++ [.let_ t1.text])) := by simp
  rw [e6] at R6 T6
  refine kk (.let_ i (j + 1) t1.text e) (j + 1) ?_ H6 _ .let_ T6 R6 (((((K1.trans K2).trans K3).trans K4).trans K5).trans K6)
  rw [hx3]
  show ((eat ";" j (ts.drop j)) >>= _) = _
  rw [T4.eat_yes (by decide +kernel) (kind_of ht5 hk5)]
  rfl
theorem scNamed : FnScope ["reader", "deep", "name"] ["reader", "deep"] (zJ sNamed) := scK
theorem ok_named {f fE fC : Addr} {fd fdE fdC : FuncData} {n : Nat} (T : RC K cR fK fT fM fdK fdT fdM) (G : Gs mg) (B : Tb K mg cNP aW aS) (D : Dn K mg "read_named" sNamed ["reader", "deep"] f fd) (DE : Dn K mg "read_expr" sExpr ["reader", "deep"] fE fdE)
  (DC : Dn K mg "read_call" sCall ["reader", "name", "deep"] fC fdC) (GC : FnOk P w K mg base (CXW P w) (6 * n + 4) fC fdC ["reader", "name", "deep"] (spCallR cR cNP (n + 1)))
  (GE : FnOk P w K mg base (CXW P w) (6 * (n + 1) + 3) fE fdE ["reader", "deep"] (spRd cR cNP (n + 1) yH MenE)) : FnOk P w K mg base (CXW P w) (6 * (n + 1) + 4) f fd ["reader", "deep"] (spSt cR cNP (n + 1) "name" noV) := by
 have GK : FnOk P w K mg base (CXW P w) 1 fK fdK ["self"] (spKind cR) := yX T G
 have GT : FnOk P w K mg base (CXW P w) 2 fT fdT ["self", "kind"] (yG cR cNP) := ok_take T G B
 have GM : FnOk P w K mg base (CXW P w) 1 fM fdM ["self", "how", "name", "number"] (qJ cR) := qU T
 refine D.fn.okW scNamed (fun vs H Q E h => ?_) (fun cdv A outer s H vs Q E hr h => ?_)
 ·obtain ⟨r, tl, m, ts, i, ns, d, c, rfl, _⟩ := h
  rfl
 ·obtain ⟨r, tl, m, ts, i, ns, d, c, rfl, hd, R, Tk, hk, kE, kk⟩ := h
  have hr1 : Room 1 _ := hr.mono (by omega)
  have hr2 : Room 2 _ := hr.mono (by omega)
  have hr4 : Room (6 * n + 4) _ := hr.mono (by omega)
  refine ⟨_, zB (qB (i := 2) scNamed.nd rfl (Or.inl rfl) (zR (pv 0) T.cl T.mT GT hr2 T.bT .nil zT (zA zK zE))) (zB (zZ (zM qE (qO (pv 0) T.cl T.mK GK hr1 T.bK .nil qC) zK (nomark _)) (zB (zL (zO GC hr4 rfl DC.mgf DC.fn.kp DC.bi .nil zT (zA (pv 0) (zA (pv 2) (zA (pv 1) zE))))) (zC (zL (zR (pv 0) T.cl T.mM GM hr1 T.bM .nil qC (zA zK (zA zK (zA zQ zE))))))) (zB (zL (zR (pv 0) T.cl T.mT GT hr2 T.bT .nil zT (zA zK zE))) (zB (zL (zO GE hr rfl DE.mgf DE.fn.kp DE.bi .nil zT (zA (pv 0) (zA (pv 1) zE)))) (zC (zL (zR (pv 0) T.cl T.mM GM hr1 T.bM .nil qC (zA zK (zA (pv 2) (zA zQ zE))))))))) (zC (zL (zR (pv 0) T.cl T.mT GT hr2 T.bT .nil zT (zA zK zE))))), ?_⟩
  refine qX R rfl (by decide +kernel) (fun z => absurd hk z) (fun t0 ht0 hk0 H1 R1 K1 => ?_)
  have T1 : Tks (c + 7) ts (i + 1) (ns ++ [.step]) := (Tk.next8 ht0).snoc .step
  obtain ⟨nm, sp⟩ := Tk.name_yes ht0 hk0
  rw [sp]
  have hx := xStmt_eq d i (ts.drop i)
  rw [if_neg (Tk.is_no (wd := "let") (ws := "let") (by decide +kernel) (kne hk (by decide +kernel))), if_neg (Tk.is_no (wd := "return") (ws := "return") (by decide +kernel) (kne hk (by decide +kernel))), if_neg (Tk.is_no (wd := "put") (ws := "put") (by decide +kernel) (kne hk (by decide +kernel))),
   if_neg (Tk.is_no (wd := "while") (ws := "while") (by decide +kernel) (kne hk (by decide +kernel))), if_neg (Tk.is_no (wd := "if") (ws := "if") (by decide +kernel) (kne hk (by decide +kernel))), nm, List.drop_drop, List.drop_drop] at hx
  have hx : xStmt d i (ts.drop i) = (if isTok "(" (ts.drop (i + 1)) then (if 32 <= d then none else (xArgs (d + 1) (i + 1 + 1) (ts.drop (i + 1 + 1))) >>= fun l => (eat ";" l.2.1 l.2.2) >>= fun z => some (.call i z.1 t0.text l.1, z))
    else (eat "=" (i + 1) (ts.drop (i + 1))) >>= fun q => (yH d q.1 q.2) >>= fun e => (eat ";" e.2.1 e.2.2) >>= fun z => some (.set i z.1 t0.text e.1, z)) := hx
  have fin : ∀ (st : Nat -> Kp110.S) (j : Nat) (n1 : List Mn) (H' : Hp), (xStmt d i (ts.drop i) = (eat ";" j (ts.drop j)) >>= fun z => some (st z.1, z)) -> (∀ z, CS ns.length (st z) n1) -> Tks c ts j (ns ++ n1) -> RdAt cR H' r tl m ts j (ns ++ n1) -> Keep r m H H' ->
    tMeth cR "take" (yG cR cNP) [] E (qT 0) (qH (tC (.str ";")) tNil) [some (V.ref r), some (V.int (d : Int)), some (V.str (qA t0.text))] H' (fun _ H2 => Q .non H2) := by
   intro st j n1 H' hxx hM T2 R2 K2
   refine qX R2 rfl (by decide +kernel) (fun z H'' => kE (by rw [hxx, T2.eat_no (by decide +kernel) z]; rfl) H'') (fun t ht hkt H2 R3 K3 => ?_)
   exact kk _ (j + 1) (by rw [hxx, T2.eat_yes (by decide +kernel) (kind_of ht hkt)]; rfl) H2 n1 (hM _) (T2.next ht) R3 (K2.trans K3)
  refine yY R1 rfl ⟨rfl, _, rfl, ?_⟩
  refine qG (fun h1 => ?_) (fun h1 => ?_)
  ·have h1 := qM h1
   rw [if_pos (T1.is_yes (wd := "(") (by decide +kernel) h1)] at hx
   refine ⟨_, rfl, _, rfl, _, rfl, r, tl, m, ts, i + 1, ns ++ [.step], d, c + 7, t0.text, rfl, hd, R1, T1, h1, fun z H' => kE ?_ H', fun e j hd32 he H' T2 R2 K2 => ?_⟩
   ·rcases z with z | z
    ·rw [hx, if_pos z]
    ·rw [hx]
     split
     ·rfl
     ·rw [z]; rfl
   ·rw [if_neg hd32, he] at hx
    refine yR .forget R2 T2 (yW trivial) rfl (fun P hP => hP) (fun H6 R6 K6 => ?_)
    have T6 := (T2.snoc .forget).down (d := c) (by omega)
    have e6 : ((ns ++ [.step]) ++ (cEs e ++ [.call t0.text e.list.length])) ++ [.forget] = ns ++ (.step :: (cEs e ++ [.call t0.text e.list.length, .forget])) := by simp
    rw [e6] at R6 T6
    exact fin (fun z => .call i z t0.text e) j _ H6 hx (fun z => .call) T6 R6 ((K1.trans K2).trans K6)
  ·have h1 := qQ h1
   rw [if_neg (T1.is_no (wd := "(") (by decide +kernel) h1)] at hx
   refine qX R1 rfl (by decide +kernel) (fun z H' => kE (by rw [hx, T1.eat_no (by decide +kernel) z]; rfl) H') (fun t2 ht2 hk2 H3 R3 K3 => ?_)
   have T3 := T1.next ht2
   rw [T1.eat_yes (by decide +kernel) (kind_of ht2 hk2)] at hx
   have hx3 : xStmt d i (ts.drop i) = (yH d (i + 1 + 1) (ts.drop (i + 1 + 1))) >>= fun e => (eat ";" e.2.1 e.2.2) >>= fun z => some (.set i z.1 t0.text e.1, z) := hx
   refine rd_read R3 rfl rfl hd T3 (fun hn H' => kE (by rw [hx3, hn]; rfl) H') (fun e j he H4 n1 hM T4 R4 K4 => ?_)
   obtain rfl : n1 = cE e := hM
   rw [he] at hx3
   refine yR (.set t0.text) R4 T4 (yW trivial) rfl (fun P hP => ⟨_, rfl, hP⟩) (fun H6 R6 K6 => ?_)
   have T6 := (T4.snoc (.set t0.text)).down (d := c) (by omega)
   have e6 : ((ns ++ [.step]) ++ cE e) ++ [.set t0.text] = ns ++ (.step :: (cE e ++ [.set t0.text])) := by simp
   rw [e6] at R6 T6
   exact fin (fun z => .set i z t0.text e) j _ H6 hx3 (fun z => .set) T6 R6 (((K1.trans K3).trans K4).trans K6)
end
end SM
end
section
set_option Elab.async false
set_option linter.all false
set_option maxRecDepth 100000
set_option maxHeartbeats 2000000
namespace SM
open PySem PySem.Spec PyProof.Rows L2
open Kp110 (Bytes words small digit inName bytesOf isTok opOf eat nameAt)
theorem obind {α β γ : Type} (o : Option α) (f : α -> Option β) (g : β -> Option γ) : ((o >>= f) >>= g) = (o >>= fun a => f a >>= g) := by cases o <;> rfl
section
variable {ts : List Kp110.Tok} {i c : Nat} {ns : List Mn}
theorem xStmt_if (T : Tks c ts i ns) (d : Nat) (hk : zS ts i = "if") : xStmt d i (ts.drop i) = (yH d (i + 1) (ts.drop (i + 1))) >>= fun c => (xB (d + 1) c.2.1 c.2.2) >>= fun a =>
  if isTok "else" a.2.2 then (xB (d + 1) (a.2.1 + 1) (a.2.2.drop 1)) >>= fun b => some (.if_ i b.2.1 c.1 a.1 b.1, b.2) else some (.if_ i a.2.1 c.1 a.1 .nil, a.2) := by
 rw [xStmt_eq, if_neg (T.is_no (wd := "let") (ws := "let") (by decide +kernel) (kne hk (by decide +kernel))), if_neg (T.is_no (wd := "return") (ws := "return") (by decide +kernel) (kne hk (by decide +kernel))), if_neg (T.is_no (wd := "put") (ws := "put") (by decide +kernel) (kne hk (by decide +kernel))),
   if_neg (T.is_no (wd := "while") (ws := "while") (by decide +kernel) (kne hk (by decide +kernel))), if_pos (T.is_yes (wd := "if") (by decide +kernel) hk), List.drop_drop]
 refine zP rfl fun c hc => ?_
 unfold xB
 rw [obind]
 refine zP rfl fun o ho => zP rfl fun a ha => ?_
 split
 ·rw [obind]
  rfl
 ·rfl
theorem xStmt_while (T : Tks c ts i ns) (d : Nat) (hk : zS ts i = "while") : xStmt d i (ts.drop i) = (yH d (i + 1) (ts.drop (i + 1))) >>= fun c => (xB (d + 1) c.2.1 c.2.2) >>= fun b => some (.while_ i b.2.1 c.1 b.1, b.2) := by
 rw [xStmt_eq, if_neg (T.is_no (wd := "let") (ws := "let") (by decide +kernel) (kne hk (by decide +kernel))), if_neg (T.is_no (wd := "return") (ws := "return") (by decide +kernel) (kne hk (by decide +kernel))), if_neg (T.is_no (wd := "put") (ws := "put") (by decide +kernel) (kne hk (by decide +kernel))),
   if_pos (T.is_yes (wd := "while") (by decide +kernel) hk), List.drop_drop]
 refine zP rfl fun c hc => ?_
 unfold xB
 rw [obind]
 rfl
theorem xStmt_ret (T : Tks c ts i ns) (d : Nat) (hk : zS ts i = "return") : xStmt d i (ts.drop i) = (yH d (i + 1) (ts.drop (i + 1))) >>= fun e => (eat ";" e.2.1 e.2.2) >>= fun z => some (.ret i z.1 e.1, z) := by
 rw [xStmt_eq, if_neg (T.is_no (wd := "let") (ws := "let") (by decide +kernel) (kne hk (by decide +kernel))), if_pos (T.is_yes (wd := "return") (by decide +kernel) hk), List.drop_drop]
 rfl
theorem xStmt_put (T : Tks c ts i ns) (d : Nat) (hk : zS ts i = "put") : xStmt d i (ts.drop i) = (yH d (i + 1) (ts.drop (i + 1))) >>= fun e => (eat ";" e.2.1 e.2.2) >>= fun z => some (.put i z.1 e.1, z) := by
 rw [xStmt_eq, if_neg (T.is_no (wd := "let") (ws := "let") (by decide +kernel) (kne hk (by decide +kernel))), if_neg (T.is_no (wd := "return") (ws := "return") (by decide +kernel) (kne hk (by decide +kernel))), if_pos (T.is_yes (wd := "put") (by decide +kernel) hk), List.drop_drop]
 rfl
theorem xStmt_none (T : Tks c ts i ns) (d : Nat) (h1 : ¬ zS ts i = "let") (h2 : ¬ zS ts i = "return") (h3 : ¬ zS ts i = "put") (h4 : ¬ zS ts i = "while") (h5 : ¬ zS ts i = "if") (h6 : ¬ zS ts i = "name") : xStmt d i (ts.drop i) = none := by
 rw [xStmt_eq, if_neg (T.is_no (wd := "let") (by decide +kernel) h1), if_neg (T.is_no (wd := "return") (by decide +kernel) h2), if_neg (T.is_no (wd := "put") (by decide +kernel) h3), if_neg (T.is_no (wd := "while") (by decide +kernel) h4), if_neg (T.is_no (wd := "if") (by decide +kernel) h5), T.name_no h6]
 rfl
end
def appS : Kp110.Ss -> Kp110.Ss -> Kp110.Ss
 | .nil, b => b
 | .cons e l, b => .cons e (appS l b)
theorem appS_nil : ∀ a, appS a .nil = a
 | .nil => rfl
 | .cons e l => by rw [appS, appS_nil l]
theorem appS_one (e : Kp110.S) (b : Kp110.Ss) : ∀ a, appS (appS a (.cons e .nil)) b = appS a (.cons e b)
 | .nil => rfl
 | .cons x l => by rw [appS, appS, appS_one e b l, appS]
theorem css_app {b : Kp110.Ss} {B : List Mn} : ∀ {a : Kp110.Ss} {p : Nat} {A : List Mn}, CSs p a A -> CSs (p + A.length) b B -> CSs p (appS a b) (A ++ B)
 | .nil, p, A, ha, hb => by
  cases ha
  exact hb
 | .cons s m, p, A, ha, hb => by
  cases ha with
  | cons h1 h2 =>
   rw [List.append_assoc]
   refine .cons h1 (css_app h2 ?_)
   rw [List.length_append, <- Nat.add_assoc] at hb
   exact hb
theorem css_one {p : Nat} {s : Kp110.S} {A : List Mn} (h : CS p s A) : CSs p (.cons s .nil) A := by
 have := CSs.cons h (CSs.nil (p := p + A.length))
 rw [List.append_nil] at this
 exact this
section
variable {P : Program} {w : World} {K : PySem.W.Frag} {mg : Str -> Option Value} {base : Heap} {cR cNP fK fT fM fJ fL aW aS : Addr} {fdK fdT fdM fdJ fdL : FuncData}
theorem scIf : FnScope ["reader", "deep", "past_first", "past_second"] ["reader", "deep"] (zJ sIf) := scK
theorem ok_if {f fE fB fD : Addr} {fd fdE fdB fdD : FuncData} {n : Nat} (T : RC K cR fK fT fM fdK fdT fdM) (T2 : RC2 K cR fJ fL fdJ fdL) (G : Gs mg) (G2 : Gs2 mg) (B : Tb K mg cNP aW aS) (D : Dn K mg "read_if" sIf ["reader", "deep"] f fd) (DE : Dn K mg "read_expr" sExpr ["reader", "deep"] fE fdE)
  (DB : Dn K mg "read_block" sBlock ["reader", "deep"] fB fdB) (DD : Dn K mg "deeper" sDeeper ["deep"] fD fdD) (GB : FnOk P w K mg base (CXW P w) (6 * n + 6) fB fdB ["reader", "deep"] (spRd cR cNP n xB CB))
  (GE : FnOk P w K mg base (CXW P w) (6 * (n + 1) + 3) fE fdE ["reader", "deep"] (spRd cR cNP (n + 1) yH MenE)) : FnOk P w K mg base (CXW P w) (6 * (n + 1) + 4) f fd ["reader", "deep"] (spSt cR cNP (n + 1) "if" noV) := by
 have GK : FnOk P w K mg base (CXW P w) 1 fK fdK ["self"] (spKind cR) := yX T G
 have GT : FnOk P w K mg base (CXW P w) 2 fT fdT ["self", "kind"] (yG cR cNP) := ok_take T G B
 have GJ : FnOk P w K mg base (CXW P w) 2 fJ fdJ ["self", "how"] (spJump cR) := ok_jump T T2 G
 have GL : FnOk P w K mg base (CXW P w) 1 fL fdL ["self", "place"] (spLand cR) := ok_land T T2 G
 have GD : FnOk P w K mg base (CXW P w) 1 fD fdD ["deep"] (spDeeper cNP) := ok_deeper DD G2 B
 refine D.fn.okW scIf (fun vs H Q E h => ?_) (fun cdv A outer s H vs Q E hr h => ?_)
 ·obtain ⟨r, tl, m, ts, i, ns, d, c, rfl, _⟩ := h
  rfl
 ·obtain ⟨r, tl, m, ts, i, ns, d, c, rfl, hd, R, Tk, hk, kE, kk⟩ := h
  have hr1 : Room 1 _ := hr.mono (by omega)
  have hr2 : Room 2 _ := hr.mono (by omega)
  have hrB : Room (6 * n + 6) _ := hr.mono (by omega)
  refine ⟨_, zB (zL (zR (pv 0) T.cl T.mT GT hr2 T.bT .nil zT (zA zK zE))) (zB (zL (zO GE hr rfl DE.mgf DE.fn.kp DE.bi .nil zT (zA (pv 0) (zA (pv 1) zE)))) (zB (qB (i := 2) scIf.nd rfl (Or.inl rfl) (zR (pv 0) T.cl T2.mJ GJ hr2 T2.bJ .nil qC (zA zK zE))) (zB (zL (zO GB hrB rfl DB.mgf DB.fn.kp DB.bi .nil zT (zA (pv 0) (zA (zO GD hr1 rfl DD.mgf DD.fn.kp DD.bi .nil zT (zA (pv 1) zE)) zE)))) (zC (zZ (zM qE (qO (pv 0) T.cl T.mK GK hr1 T.bK .nil qC) zK (nomark _)) (zB (zL (zR (pv 0) T.cl T.mT GT hr2 T.bT .nil zT (zA zK zE))) (zB (qB (i := 3) scIf.nd rfl (Or.inl rfl) (zR (pv 0) T.cl T2.mJ GJ hr2 T2.bJ .nil qC (zA zK zE))) (zB (zL (zR (pv 0) T.cl T2.mL GL hr1 T2.bL .nil qC (zA (pv 2) zE))) (zB (zL (zO GB hrB rfl DB.mgf DB.fn.kp DB.bi .nil zT (zA (pv 0) (zA (zO GD hr1 rfl DD.mgf DD.fn.kp DD.bi .nil zT (zA (pv 1) zE)) zE)))) (zC (zL (zR (pv 0) T.cl T2.mL GL hr1 T2.bL .nil qC (zA (pv 3) zE)))))))) (zC (zL (zR (pv 0) T.cl T2.mL GL hr1 T2.bL .nil qC (zA (pv 2) zE))))))))), ?_⟩
  have hx := xStmt_if Tk d hk
  refine qX R rfl (by decide +kernel) (fun z => absurd hk z) (fun t0 ht0 _ H1 R1 K1 => ?_)
  have T1 : Tks (c + 7) ts (i + 1) (ns ++ [.step]) := (Tk.next8 ht0).snoc .step
  refine rd_read R1 rfl rfl hd T1 (fun hn H' => kE (by rw [hx, hn]; rfl) H') (fun e j hc H2 nc hMc T2' R2 K2 => ?_)
  obtain rfl : nc = cE e := hMc
  rw [hc] at hx
  have hx1 : xStmt d i (ts.drop i) = (xB (d + 1) j (ts.drop j)) >>= fun a => if isTok "else" a.2.2 then (xB (d + 1) (a.2.1 + 1) (a.2.2.drop 1)) >>= fun b => some (.if_ i b.2.1 e a.1 b.1, b.2) else some (.if_ i a.2.1 e a.1 .nil, a.2) := hx
  refine jump_read (a := .unless 0) .un R2 T2' rfl (fun H3 R3 K3 => ?_)
  have T3 : Tks (c + 6) ts j (((ns ++ [.step]) ++ cE e) ++ [.unless 0]) := T2'.snoc _
  refine ⟨_, rfl, _, rfl, d, rfl, fun z H' => kE (by rw [hx1, z, xB_deep]; rfl) H', fun z => ?_⟩
  refine ⟨r, tl, m, ts, j, _, d + 1, c + 6, rfl, by omega, R3, T3, fun hn H' => kE (by rw [hx1, hn]; rfl) H', fun a ja ha H4 nB hMB T4 R4 K4 => ?_⟩
  obtain ⟨A, hA, rfl⟩ := hMB
  rw [ha] at hx1
  have hx2 : xStmt d i (ts.drop i) = if isTok "else" (ts.drop ja) then (xB (d + 1) (ja + 1) (ts.drop (ja + 1))) >>= fun b => some (.if_ i b.2.1 e a b.1, b.2) else some (.if_ i ja e a .nil, ja, ts.drop ja) := by
   rw [hx1]
   show (if isTok "else" (ts.drop ja) then (xB (d + 1) (ja + 1) ((ts.drop ja).drop 1)) >>= _ else _) = _
   rw [List.drop_drop]
  have eA : (((ns ++ [Mn.step]) ++ cE e) ++ [Mn.unless 0]).length + 1 = ns.length + (cE e).length + 3 := by simp only [List.length_append, List.length_cons, List.length_nil]; omega
  rw [eA] at hA
  refine yY R4 rfl ⟨rfl, _, rfl, ?_⟩
  refine qG (fun h1 => ?_) (fun h1 => ?_)
  ·have h1 := qM h1
   rw [if_pos (T4.is_yes (wd := "else") (by decide +kernel) h1)] at hx2
   refine qX R4 rfl (by decide +kernel) (fun z => absurd h1 z) (fun t5 ht5 _ H5 R5 K5 => ?_)
   have T5 := T4.next ht5
   refine jump_read (a := .go 0) .go R5 T5 rfl (fun H6 R6 K6 => ?_)
   have T6 := T5.snoc (.go 0)
   have e6 : ((((ns ++ [Mn.step]) ++ cE e) ++ [Mn.unless 0]) ++ (Mn.beg :: (A ++ [Mn.fin]))) ++ [Mn.go 0] = ((ns ++ [Mn.step]) ++ cE e) ++ (Mn.unless 0 :: ((Mn.beg :: (A ++ [Mn.fin])) ++ [Mn.go 0])) := by simp
   rw [e6] at R6
   refine land_read (v := 2) .un R6 rfl rfl (fun H7 R7 K7 => ?_)
   have T7 : Tks (c + 5) ts (ja + 1) (((ns ++ [Mn.step]) ++ cE e) ++ (Mn.unless (((ns ++ [Mn.step]) ++ cE e).length + (((Mn.beg :: (A ++ [Mn.fin])) ++ [Mn.go 0]).length + 1)) :: ((Mn.beg :: (A ++ [Mn.fin])) ++ [Mn.go 0]))) := T6.len (by simp only [List.length_append, List.length_cons, List.length_nil]; omega)
   refine ⟨_, rfl, _, rfl, d, rfl, fun z H' => absurd z ‹d ≠ 32›, fun z => ?_⟩
   refine ⟨r, tl, m, ts, ja + 1, _, d + 1, c + 5, rfl, by omega, R7, T7, fun hn H' => kE (by rw [hx2, hn]; rfl) H', fun b jb hb H8 nB2 hMB2 T8 R8 K8 => ?_⟩
   obtain ⟨A2, hA2, rfl⟩ := hMB2
   rw [hb] at hx2
   have eA2 : (((ns ++ [Mn.step]) ++ cE e) ++ (Mn.unless (((ns ++ [Mn.step]) ++ cE e).length + (((Mn.beg :: (A ++ [Mn.fin])) ++ [Mn.go 0]).length + 1)) :: ((Mn.beg :: (A ++ [Mn.fin])) ++ [Mn.go 0]))).length + 1 = ns.length + (cE e).length + A.length + 6 := by simp only [List.length_append, List.length_cons, List.length_nil]; omega
   rw [eA2] at hA2
   have e8 : (((ns ++ [Mn.step]) ++ cE e) ++ (Mn.unless (((ns ++ [Mn.step]) ++ cE e).length + (((Mn.beg :: (A ++ [Mn.fin])) ++ [Mn.go 0]).length + 1)) :: ((Mn.beg :: (A ++ [Mn.fin])) ++ [Mn.go 0]))) ++ (Mn.beg :: (A2 ++ [Mn.fin]))
     = (((ns ++ [Mn.step]) ++ cE e) ++ (Mn.unless (((ns ++ [Mn.step]) ++ cE e).length + (((Mn.beg :: (A ++ [Mn.fin])) ++ [Mn.go 0]).length + 1)) :: (Mn.beg :: (A ++ [Mn.fin])))) ++ (Mn.go 0 :: (Mn.beg :: (A2 ++ [Mn.fin]))) := by simp
   rw [e8] at R8
   refine land_read (v := 3) (b := .go ((((ns ++ [Mn.step]) ++ cE e) ++ (Mn.unless (((ns ++ [Mn.step]) ++ cE e).length + (((Mn.beg :: (A ++ [Mn.fin])) ++ [Mn.go 0]).length + 1)) :: (Mn.beg :: (A ++ [Mn.fin])))).length + ((Mn.beg :: (A2 ++ [Mn.fin])).length + 1))) .go R8 rfl (by
    show some (some (V.int _)) = some (some (V.int _))
    have qq : ((((ns ++ [Mn.step]) ++ cE e) ++ [Mn.unless 0]) ++ (Mn.beg :: (A ++ [Mn.fin]))).length = (((ns ++ [Mn.step]) ++ cE e) ++ (Mn.unless (((ns ++ [Mn.step]) ++ cE e).length + (((Mn.beg :: (A ++ [Mn.fin])) ++ [Mn.go 0]).length + 1)) :: (Mn.beg :: (A ++ [Mn.fin])))).length := by simp only [List.length_append, List.length_cons, List.length_nil]; omega
    rw [qq]) (fun H9 R9 K9 => ?_)
   have e9 : (((ns ++ [Mn.step]) ++ cE e) ++ (Mn.unless (((ns ++ [Mn.step]) ++ cE e).length + (((Mn.beg :: (A ++ [Mn.fin])) ++ [Mn.go 0]).length + 1)) :: (Mn.beg :: (A ++ [Mn.fin])))) ++ (Mn.go ((((ns ++ [Mn.step]) ++ cE e) ++ (Mn.unless (((ns ++ [Mn.step]) ++ cE e).length + (((Mn.beg :: (A ++ [Mn.fin])) ++ [Mn.go 0]).length + 1)) :: (Mn.beg :: (A ++ [Mn.fin])))).length + ((Mn.beg :: (A2 ++ [Mn.fin])).length + 1)) :: (Mn.beg :: (A2 ++ [Mn.fin])))
     = ns ++ (Mn.step :: (cE e ++ (Mn.unless (ns.length + (cE e).length + A.length + 5) :: (Mn.beg :: (A ++ (Mn.fin :: (Mn.go (ns.length + (cE e).length + A.length + A2.length + 7) :: (Mn.beg :: (A2 ++ [Mn.fin]))))))))) := by
    have q1 : ((ns ++ [Mn.step]) ++ cE e).length + (((Mn.beg :: (A ++ [Mn.fin])) ++ [Mn.go 0]).length + 1) = ns.length + (cE e).length + A.length + 5 := by simp only [List.length_append, List.length_cons, List.length_nil]; omega
    have q2 : (((ns ++ [Mn.step]) ++ cE e) ++ (Mn.unless (ns.length + (cE e).length + A.length + 5) :: (Mn.beg :: (A ++ [Mn.fin])))).length + ((Mn.beg :: (A2 ++ [Mn.fin])).length + 1) = ns.length + (cE e).length + A.length + A2.length + 7 := by simp only [List.length_append, List.length_cons, List.length_nil]; omega
    rw [q1, q2]
    simp
   rw [e9] at R9
   have T9 : Tks c ts jb (ns ++ (Mn.step :: (cE e ++ (Mn.unless (ns.length + (cE e).length + A.length + 5) :: (Mn.beg :: (A ++ (Mn.fin :: (Mn.go (ns.length + (cE e).length + A.length + A2.length + 7) :: (Mn.beg :: (A2 ++ [Mn.fin])))))))))) := T8.len (by simp only [List.length_append, List.length_cons, List.length_nil]; omega)
   exact kk _ jb hx2 H9 _ (.ife rfl rfl hA hA2) T9 R9 ((((((((K1.trans K2).trans K3).trans K4).trans K5).trans K6).trans K7).trans K8).trans K9)
  ·have h1 := qQ h1
   rw [if_neg (T4.is_no (wd := "else") (by decide +kernel) h1)] at hx2
   have e4 : (((ns ++ [Mn.step]) ++ cE e) ++ [Mn.unless 0]) ++ (Mn.beg :: (A ++ [Mn.fin])) = ((ns ++ [Mn.step]) ++ cE e) ++ (Mn.unless 0 :: (Mn.beg :: (A ++ [Mn.fin]))) := by simp
   rw [e4] at R4
   refine land_read (v := 2) .un R4 rfl rfl (fun H7 R7 K7 => ?_)
   have e7 : ((ns ++ [Mn.step]) ++ cE e) ++ (Mn.unless (((ns ++ [Mn.step]) ++ cE e).length + ((Mn.beg :: (A ++ [Mn.fin])).length + 1)) :: (Mn.beg :: (A ++ [Mn.fin]))) = ns ++ (Mn.step :: (cE e ++ (Mn.unless (ns.length + (cE e).length + A.length + 4) :: (Mn.beg :: (A ++ [Mn.fin]))))) := by
    have q1 : ((ns ++ [Mn.step]) ++ cE e).length + ((Mn.beg :: (A ++ [Mn.fin])).length + 1) = ns.length + (cE e).length + A.length + 4 := by simp only [List.length_append, List.length_cons, List.length_nil]; omega
    rw [q1]
    simp
   rw [e7] at R7
   have T7 : Tks c ts ja (ns ++ (Mn.step :: (cE e ++ (Mn.unless (ns.length + (cE e).length + A.length + 4) :: (Mn.beg :: (A ++ [Mn.fin])))))) := T4.len (by simp only [List.length_append, List.length_cons, List.length_nil]; omega)
   exact kk _ ja hx2 H7 _ (.if_ rfl hA) T7 R7 ((((K1.trans K2).trans K3).trans K4).trans K7)
theorem scWhile : FnScope ["reader", "deep", "start", "past"] ["reader", "deep", "start"] (zJ sWhile) := scK
theorem ok_while {f fE fB fD : Addr} {fd fdE fdB fdD : FuncData} {n : Nat} (T : RC K cR fK fT fM fdK fdT fdM) (T2 : RC2 K cR fJ fL fdJ fdL) (G : Gs mg) (G2 : Gs2 mg) (B : Tb K mg cNP aW aS) (D : Dn K mg "read_while" sWhile ["reader", "deep", "start"] f fd) (DE : Dn K mg "read_expr" sExpr ["reader", "deep"] fE fdE)
  (DB : Dn K mg "read_block" sBlock ["reader", "deep"] fB fdB) (DD : Dn K mg "deeper" sDeeper ["deep"] fD fdD) (GB : FnOk P w K mg base (CXW P w) (6 * n + 6) fB fdB ["reader", "deep"] (spRd cR cNP n xB CB))
  (GE : FnOk P w K mg base (CXW P w) (6 * (n + 1) + 3) fE fdE ["reader", "deep"] (spRd cR cNP (n + 1) yH MenE)) : FnOk P w K mg base (CXW P w) (6 * (n + 1) + 4) f fd ["reader", "deep", "start"] (spSt cR cNP (n + 1) "while" startV) := by
 have GT : FnOk P w K mg base (CXW P w) 2 fT fdT ["self", "kind"] (yG cR cNP) := ok_take T G B
 have GM : FnOk P w K mg base (CXW P w) 1 fM fdM ["self", "how", "name", "number"] (qJ cR) := qU T
 have GJ : FnOk P w K mg base (CXW P w) 2 fJ fdJ ["self", "how"] (spJump cR) := ok_jump T T2 G
 have GL : FnOk P w K mg base (CXW P w) 1 fL fdL ["self", "place"] (spLand cR) := ok_land T T2 G
 have GD : FnOk P w K mg base (CXW P w) 1 fD fdD ["deep"] (spDeeper cNP) := ok_deeper DD G2 B
 refine D.fn.okW scWhile (fun vs H Q E h => ?_) (fun cdv A outer s H vs Q E hr h => ?_)
 ·obtain ⟨r, tl, m, ts, i, ns, d, c, rfl, _⟩ := h
  rfl
 ·obtain ⟨r, tl, m, ts, i, ns, d, c, rfl, hd, R, Tk, hk, kE, kk⟩ := h
  have hr1 : Room 1 _ := hr.mono (by omega)
  have hr2 : Room 2 _ := hr.mono (by omega)
  have hrB : Room (6 * n + 6) _ := hr.mono (by omega)
  refine ⟨_, zB (zL (zR (pv 0) T.cl T.mT GT hr2 T.bT .nil zT (zA zK zE))) (zB (zL (zO GE hr rfl DE.mgf DE.fn.kp DE.bi .nil zT (zA (pv 0) (zA (pv 1) zE)))) (zB (qB (i := 3) scWhile.nd rfl (Or.inl rfl) (zR (pv 0) T.cl T2.mJ GJ hr2 T2.bJ .nil qC (zA zK zE))) (zB (zL (zO GB hrB rfl DB.mgf DB.fn.kp DB.bi .nil zT (zA (pv 0) (zA (zO GD hr1 rfl DD.mgf DD.fn.kp DD.bi .nil zT (zA (pv 1) zE)) zE)))) (zB (zL (zR (pv 0) T.cl T.mM GM hr1 T.bM .nil qC (zA zK (zA zK (zA (pv 2) zE))))) (zC (zL (zR (pv 0) T.cl T2.mL GL hr1 T2.bL .nil qC (zA (pv 3) zE)))))))), ?_⟩
  have hx := xStmt_while Tk d hk
  refine qX R rfl (by decide +kernel) (fun z => absurd hk z) (fun t0 ht0 _ H1 R1 K1 => ?_)
  have T1 : Tks (c + 7) ts (i + 1) (ns ++ [.step]) := (Tk.next8 ht0).snoc .step
  refine rd_read R1 rfl rfl hd T1 (fun hn H' => kE (by rw [hx, hn]; rfl) H') (fun e j hc H2 nc hMc T2' R2 K2 => ?_)
  obtain rfl : nc = cE e := hMc
  rw [hc] at hx
  have hx1 : xStmt d i (ts.drop i) = (xB (d + 1) j (ts.drop j)) >>= fun b => some (.while_ i b.2.1 e b.1, b.2) := hx
  refine jump_read (a := .unless 0) .un R2 T2' rfl (fun H3 R3 K3 => ?_)
  have T3 : Tks (c + 6) ts j (((ns ++ [.step]) ++ cE e) ++ [.unless 0]) := T2'.snoc _
  refine ⟨_, rfl, _, rfl, d, rfl, fun z H' => kE (by rw [hx1, z, xB_deep]; rfl) H', fun z => ?_⟩
  refine ⟨r, tl, m, ts, j, _, d + 1, c + 6, rfl, by omega, R3, T3, fun hn H' => kE (by rw [hx1, hn]; rfl) H', fun a ja ha H4 nB hMB T4 R4 K4 => ?_⟩
  obtain ⟨A, hA, rfl⟩ := hMB
  rw [ha] at hx1
  have eA : (((ns ++ [Mn.step]) ++ cE e) ++ [Mn.unless 0]).length + 1 = ns.length + (cE e).length + 3 := by simp only [List.length_append, List.length_cons, List.length_nil]; omega
  rw [eA] at hA
  refine yR (.go ns.length) R4 T4 (yW trivial) rfl (fun P hP => ⟨_, rfl, hP⟩) (fun H6 R6 K6 => ?_)
  have e6 : ((((ns ++ [Mn.step]) ++ cE e) ++ [Mn.unless 0]) ++ (Mn.beg :: (A ++ [Mn.fin]))) ++ [Mn.go ns.length] = ((ns ++ [Mn.step]) ++ cE e) ++ (Mn.unless 0 :: ((Mn.beg :: (A ++ [Mn.fin])) ++ [Mn.go ns.length])) := by simp
  rw [e6] at R6
  refine land_read (v := 3) .un R6 rfl rfl (fun H7 R7 K7 => ?_)
  have e7 : ((ns ++ [Mn.step]) ++ cE e) ++ (Mn.unless (((ns ++ [Mn.step]) ++ cE e).length + (((Mn.beg :: (A ++ [Mn.fin])) ++ [Mn.go ns.length]).length + 1)) :: ((Mn.beg :: (A ++ [Mn.fin])) ++ [Mn.go ns.length])) = ns ++ (Mn.step :: (cE e ++ (Mn.unless (ns.length + (cE e).length + A.length + 5) :: (Mn.beg :: (A ++ [Mn.fin, Mn.go ns.length]))))) := by
   have q1 : ((ns ++ [Mn.step]) ++ cE e).length + (((Mn.beg :: (A ++ [Mn.fin])) ++ [Mn.go ns.length]).length + 1) = ns.length + (cE e).length + A.length + 5 := by simp only [List.length_append, List.length_cons, List.length_nil]; omega
   rw [q1]
   simp
  rw [e7] at R7
  have T7 : Tks c ts ja (ns ++ (Mn.step :: (cE e ++ (Mn.unless (ns.length + (cE e).length + A.length + 5) :: (Mn.beg :: (A ++ [Mn.fin, Mn.go ns.length])))))) := T4.len (by simp only [List.length_append, List.length_cons, List.length_nil]; omega)
  exact kk _ ja hx1 H7 _ (.while_ rfl hA) T7 R7 (((((K1.trans K2).trans K3).trans K4).trans K6).trans K7)
theorem scStmt : FnScope ["reader", "deep", "start", "kind"] ["reader", "deep"] (zJ sStmt) := scK
theorem ok_stmt {f fE fL fN fI fW : Addr} {fd fdE fdL fdN fdI fdW : FuncData} {n : Nat} (T : RC K cR fK fT fM fdK fdT fdM) (G : Gs mg) (B : Tb K mg cNP aW aS) (D : Dn K mg "read_statement" sStmt ["reader", "deep"] f fd) (DE : Dn K mg "read_expr" sExpr ["reader", "deep"] fE fdE)
  (DL : Dn K mg "read_let" sLet ["reader", "deep"] fL fdL) (DN : Dn K mg "read_named" sNamed ["reader", "deep"] fN fdN) (DI : Dn K mg "read_if" sIf ["reader", "deep"] fI fdI) (DW : Dn K mg "read_while" sWhile ["reader", "deep", "start"] fW fdW)
  (GE : FnOk P w K mg base (CXW P w) (6 * (n + 1) + 3) fE fdE ["reader", "deep"] (spRd cR cNP (n + 1) yH MenE))
  (GL : FnOk P w K mg base (CXW P w) (6 * (n + 1) + 4) fL fdL ["reader", "deep"] (spSt cR cNP (n + 1) "let" noV)) (GN : FnOk P w K mg base (CXW P w) (6 * (n + 1) + 4) fN fdN ["reader", "deep"] (spSt cR cNP (n + 1) "name" noV))
  (GI : FnOk P w K mg base (CXW P w) (6 * (n + 1) + 4) fI fdI ["reader", "deep"] (spSt cR cNP (n + 1) "if" noV)) (GW : FnOk P w K mg base (CXW P w) (6 * (n + 1) + 4) fW fdW ["reader", "deep", "start"] (spSt cR cNP (n + 1) "while" startV)) : FnOk P w K mg base (CXW P w) (6 * (n + 1) + 5) f fd ["reader", "deep"] (spRd cR cNP (n + 1) xStmt CS) := by
 have GK : FnOk P w K mg base (CXW P w) 1 fK fdK ["self"] (spKind cR) := yX T G
 have GT : FnOk P w K mg base (CXW P w) 2 fT fdT ["self", "kind"] (yG cR cNP) := ok_take T G B
 have GM : FnOk P w K mg base (CXW P w) 1 fM fdM ["self", "how", "name", "number"] (qJ cR) := qU T
 refine D.fn.okW scStmt (fun vs H Q E h => ?_) (fun cdv A outer s H vs Q E hr h => ?_)
 ·obtain ⟨r, tl, m, ts, i, ns, d, c, rfl, _⟩ := h
  rfl
 ·obtain ⟨r, tl, m, ts, i, ns, d, c, rfl, hd, R, Tk, kE, kk⟩ := h
  have hr1 : Room 1 _ := hr.mono (by omega)
  have hr2 : Room 2 _ := hr.mono (by omega)
  have hrE : Room (6 * (n + 1) + 3) _ := hr.mono (by omega)
  refine ⟨_, zB (qB (i := 2) scStmt.nd rfl (Or.inl rfl) (yD G.len (zX (pv 0) rfl))) (zB (zL (zR (pv 0) T.cl T.mM GM hr1 T.bM .nil qC (zA zK (zA zK (zA zQ zE))))) (zB (qB (i := 3) scStmt.nd rfl (Or.inl rfl) (qO (pv 0) T.cl T.mK GK hr1 T.bK .nil qC)) (zC (zZ (zM qE (pv 3) zK (nomark _)) (zC (zL (zO GL hr rfl DL.mgf DL.fn.kp DL.bi .nil zT (zA (pv 0) (zA (pv 1) zE))))) (zC (zZ (zM qE (pv 3) zK (nomark _)) (zC (zL (zO GN hr rfl DN.mgf DN.fn.kp DN.bi .nil zT (zA (pv 0) (zA (pv 1) zE))))) (zC (zZ (PW.pt (pw_or (zM qE (pv 3) zK (nomark _)) (pw_or1 (zM qE (pv 3) zK (nomark _))))) (zB (zL (zR (pv 0) T.cl T.mT GT hr2 T.bT .nil zT (zA (pv 3) zE))) (zB (zL (zO GE hrE rfl DE.mgf DE.fn.kp DE.bi .nil zT (zA (pv 0) (zA (pv 1) zE)))) (zB (zL (zR (pv 0) T.cl T.mT GT hr2 T.bT .nil zT (zA zK zE))) (zC (zL (zR (pv 0) T.cl T.mM GM hr1 T.bM .nil qC (zA (pv 3) (zA zK (zA zQ zE))))))))) (zC (zZ (zM qE (pv 3) zK (nomark _)) (zC (zL (zO GI hr rfl DI.mgf DI.fn.kp DI.bi .nil zT (zA (pv 0) (zA (pv 1) zE))))) (zC (zZ (zM qE (pv 3) zK (nomark _)) (zC (zL (zO GW hr rfl DW.mgf DW.fn.kp DW.bi .nil zT (zA (pv 0) (zA (pv 1) (zA (pv 2) zE)))))) (zC (qF makeW rfl rfl B.np B.npD)))))))))))))), ?_⟩
  obtain ⟨⟨dx0, hi0⟩, _, ⟨qs0, hm0, hq0⟩, _, _⟩ := id R
  refine ⟨_, rfl, r, cR, dx0, _, _, rfl, hi0, T.cl, T.nMen, rf_men .., m, _, rfl, .inl (qZ.of hm0), ?_⟩
  have hlen : (qs0.map V.ref).length = ns.length := by rw [List.length_map, hq0.len]
  rw [hlen]
  refine yR .step R Tk (yW trivial) rfl (fun P hP => hP) (fun H0 R0 K0 => ?_)
  refine yY R0 rfl ?_
  refine ⟨_, rfl, rfl, _, rfl, ?_⟩
  refine qG (fun h1 => ?_) (fun h1 => ?_)
  ·exact ⟨_, rfl, _, rfl, r, tl, m, ts, i, ns, d, c, rfl, hd, R0, Tk, qM h1, kE, fun e j he H' ns' hc T' R' K' => kk e j he H' ns' hc T' R' (K0.trans K')⟩
  have n1 := qQ h1
  clear h1
  refine ⟨_, rfl, rfl, _, rfl, ?_⟩
  refine qG (fun h1 => ?_) (fun h1 => ?_)
  ·exact ⟨_, rfl, _, rfl, r, tl, m, ts, i, ns, d, c, rfl, hd, R0, Tk, qM h1, kE, fun e j he H' ns' hc T' R' K' => kk e j he H' ns' hc T' R' (K0.trans K')⟩
  have n2 := qQ h1
  clear h1
  have fin : ∀ (st : Nat -> Kp110.E -> Kp110.S) (o : Mn), zS ts i ≠ "nothing" -> o.vals = [.str (zS ts i), .str "", .int 0] -> okM o -> (∀ z e, CS ns.length (st z e) (.step :: (cE e ++ [o]))) -> (xStmt d i (ts.drop i) = (yH d (i + 1) (ts.drop (i + 1))) >>= fun e => (eat ";" e.2.1 e.2.2) >>= fun z => some (st z.1 e.1, z)) ->
    tMeth cR "take" (yG cR cNP) [] E (qT 0) (qH (qT 3) tNil) [some (V.ref r), some (V.int (d : Int)), some (V.int (ns.length : Int)), some (V.str (zS ts i))] H0 (fun _ H1 =>
     tCall (spRd cR cNP (n + 1) yH MenE) [] E (qH (qT 0) (qH (qT 1) tNil)) [some (V.ref r), some (V.int (d : Int)), some (V.int (ns.length : Int)), some (V.str (zS ts i))] H1 fun _ H2 =>
      tMeth cR "take" (yG cR cNP) [] E (qT 0) (qH (tC (.str ";")) tNil) [some (V.ref r), some (V.int (d : Int)), some (V.int (ns.length : Int)), some (V.str (zS ts i))] H2 fun _ H3 =>
       tMeth cR "order" (qJ cR) [] E0 (qT 0) (qH (qT 3) (qH (tC (.str "")) (qH (tC (.int 0)) tNil))) [some (V.ref r), some (V.int (d : Int)), some (V.int (ns.length : Int)), some (V.str (zS ts i))] H3 fun _ H4 => Q .non H4) := by
   intro st o hn hv hno hM hx
   refine tk_var R0 rfl rfl hn (fun z => absurd rfl z) (fun t ht hkt H1 R1 K1 => ?_)
   have T1 : Tks (c + 7) ts (i + 1) (ns ++ [.step]) := (Tk.next8 ht).snoc .step
   refine rd_read R1 rfl rfl hd T1 (fun hn H' => kE (by rw [hx, hn]; rfl) H') (fun e j he H2 ne hMe T2 R2 K2 => ?_)
   obtain rfl : ne = cE e := hMe
   rw [he] at hx
   have hx1 : xStmt d i (ts.drop i) = (eat ";" j (ts.drop j)) >>= fun z => some (st z.1 e, z) := hx
   refine qX R2 rfl (by decide +kernel) (fun z H' => kE (by rw [hx1, T2.eat_no (by decide +kernel) z]; rfl) H') (fun t3 ht3 hk3 H3 R3 K3 => ?_)
   have T3 := T2.next ht3
   refine yR o R3 T3 (yW hno) rfl (fun P hP => ⟨_, rfl, by rw [hv] at hP; exact hP⟩) (fun H6 R6 K6 => ?_)
   have T6 := (T3.snoc o).down (d := c) (by omega)
   have e6 : ((ns ++ [.step]) ++ cE e) ++ [o] = ns ++ (.step :: (cE e ++ [o])) := by simp
   rw [e6] at R6 T6
   exact kk _ (j + 1) (by rw [hx1, T2.eat_yes (by decide +kernel) (kind_of ht3 hk3)]; rfl) H6 _ (hM _ _) T6 R6 ((((K0.trans K1).trans K2).trans K3).trans K6)
  refine ⟨_, rfl, rfl, _, rfl, ?_⟩
  refine qG (fun h1 => ?_) (fun h1 => ?_)
  ·have h1 := qM h1
   dsimp only
   rw [if_pos rfl]
   exact fin (fun z e => .ret i z e) .ret (by rw [h1]; decide +kernel) (by rw [h1]; rfl) trivial (fun z e => .ret) (xStmt_ret Tk d h1)
  have n3 := qQ h1
  clear h1
  refine ⟨_, rfl, rfl, _, rfl, ?_⟩
  refine qG (fun h1 => ?_) (fun h1 => ?_)
  ·have h1 := qM h1
   exact fin (fun z e => .put i z e) .put (by rw [h1]; decide +kernel) (by rw [h1]; rfl) trivial (fun z e => .put) (xStmt_put Tk d h1)
  have n4 := qQ h1
  clear h1
  refine ⟨_, rfl, rfl, _, rfl, ?_⟩
  refine qG (fun h1 => ?_) (fun h1 => ?_)
  ·exact ⟨_, rfl, _, rfl, r, tl, m, ts, i, ns, d, c, rfl, hd, R0, Tk, qM h1, kE, fun e j he H' ns' hc T' R' K' => kk e j he H' ns' hc T' R' (K0.trans K')⟩
  have n5 := qQ h1
  clear h1
  refine ⟨_, rfl, rfl, _, rfl, ?_⟩
  refine qG (fun h1 => ?_) (fun h1 => ?_)
  ·exact ⟨_, rfl, _, rfl, _, rfl, r, tl, m, ts, i, ns, d, c, rfl, hd, R0, Tk, qM h1, kE, fun e j he H' ns' hc T' R' K' => kk e j he H' ns' hc T' R' (K0.trans K')⟩
  have n6 := qQ h1
  clear h1
  exact kE (xStmt_none Tk d n1 n3 n4 n6 n5 n2) H0
theorem scBlock : FnScope ["reader", "deep"] ["reader", "deep"] (zJ sBlock) := scK
theorem ok_block {f fS : Addr} {fd fdS : FuncData} {n : Nat} (T : RC K cR fK fT fM fdK fdT fdM) (G : Gs mg) (B : Tb K mg cNP aW aS) (D : Dn K mg "read_block" sBlock ["reader", "deep"] f fd) (DS : Dn K mg "read_statement" sStmt ["reader", "deep"] fS fdS)
  (GS : FnOk P w K mg base (CXW P w) (6 * (n + 1) + 5) fS fdS ["reader", "deep"] (spRd cR cNP (n + 1) xStmt CS)) : FnOk P w K mg base (CXW P w) (6 * (n + 1) + 6) f fd ["reader", "deep"] (spRd cR cNP (n + 1) xB CB) := by
 have GK : FnOk P w K mg base (CXW P w) 1 fK fdK ["self"] (spKind cR) := yX T G
 have GT : FnOk P w K mg base (CXW P w) 2 fT fdT ["self", "kind"] (yG cR cNP) := ok_take T G B
 have GM : FnOk P w K mg base (CXW P w) 1 fM fdM ["self", "how", "name", "number"] (qJ cR) := qU T
 refine D.fn.okW scBlock (fun vs H Q E h => ?_) (fun cdv A outer s H vs Q E hr h => ?_)
 ·obtain ⟨r, tl, m, ts, i, ns, d, c, rfl, _⟩ := h
  rfl
 ·obtain ⟨r, tl, m, ts, i, ns, d, c, rfl, hd, R, Tk, kE, kk⟩ := h
  have hr1 : Room 1 _ := hr.mono (by omega)
  have hr2 : Room 2 _ := hr.mono (by omega)
  refine ⟨_, zB (zL (zR (pv 0) T.cl T.mT GT hr2 T.bT .nil zT (zA zK zE))) (zB (zL (zR (pv 0) T.cl T.mM GM hr1 T.bM .nil qC (zA zK (zA zK (zA zQ zE))))) (zB (ps_while ownW (zM op_ne (qO (pv 0) T.cl T.mK GK hr1 T.bK .nil qC) zK (nomark _)) (zC (zL (zO GS hr rfl DS.mgf DS.fn.kp DS.bi .nil zT (zA (pv 0) (zA (pv 1) zE)))))) (zB (zL (zR (pv 0) T.cl T.mT GT hr2 T.bT .nil zT (zA zK zE))) (zC (zL (zR (pv 0) T.cl T.mM GM hr1 T.bM .nil qC (zA zK (zA zK (zA zQ zE))))))))), ?_⟩
  have hxB : xB d i (ts.drop i) = (eat "{" i (ts.drop i)) >>= fun o => yV d o.1 o.2 := rfl
  refine qX R rfl (by decide +kernel) (fun z H' => kE (by rw [hxB, Tk.eat_no (by decide +kernel) z]; rfl) H') (fun t0 ht0 hk0 H1 R1 K1 => ?_)
  have T1 := Tk.next8 ht0
  rw [Tk.eat_yes (by decide +kernel) (kind_of ht0 hk0)] at hxB
  have hx0 : xB d i (ts.drop i) = yV d (i + 1) (ts.drop (i + 1)) := hxB
  refine yR .beg R1 T1 (yW trivial) rfl (fun P hP => hP) (fun H2 R2 K2 => ?_)
  have T2 : Tks (c + 7) ts (i + 1) (ns ++ [.beg]) := T1.snoc .beg
  have hd' : ¬ Kp110.DEEP < d := by show ¬ 32 < d; omega
  refine ⟨fun mm σ H' => ∃ (ss : Kp110.Ss) (j : Nat) (n1 : List Mn), σ = [some (V.ref r), some (V.int (d : Int))] /\ mm = ts.length - j /\ CSs (ns.length + 1) ss n1 /\ Tks (c + 7) ts j (ns ++ (.beg :: n1)) /\ RdAt cR H' r tl m ts j (ns ++ (.beg :: n1)) /\ Keep r m H H' /\
    xB d i (ts.drop i) = (yV d j (ts.drop j)) >>= fun l => some (appS ss l.1, l.2),
   ⟨ts.length - (i + 1), .nil, i + 1, [], rfl, rfl, .nil, T2, R2, K1.trans K2, by rw [hx0]; cases yV d (i + 1) (ts.drop (i + 1)) <;> rfl⟩, ?_⟩
  rintro mm σ H' ⟨ss, j, n1, rfl, rfl, hM, T3, R3, K3, hx⟩
  rw [xBlock_eq, if_neg hd'] at hx
  refine yY R3 rfl ⟨rfl, _, rfl, ?_⟩
  refine qG (fun h1 => ?_) (fun h1 => ?_)
  ·have h1 := str_ne_no h1
   rw [T3.eat_no (wd := "}") (by decide +kernel) h1] at hx
   have hx1 : xB d i (ts.drop i) = ((xStmt d j (ts.drop j)) >>= fun s => (yV d s.2.1 s.2.2) >>= fun l => some (.cons s.1 l.1, l.2)) >>= fun l => some (appS ss l.1, l.2) := hx
   refine ⟨fun σ' H'' => ∃ mm', mm' < ts.length - j /\ ∃ (ss : Kp110.Ss) (j : Nat) (n1 : List Mn), σ' = [some (V.ref r), some (V.int (d : Int))] /\ mm' = ts.length - j /\ CSs (ns.length + 1) ss n1 /\ Tks (c + 7) ts j (ns ++ (.beg :: n1)) /\ RdAt cR H'' r tl m ts j (ns ++ (.beg :: n1)) /\ Keep r m H H'' /\
    xB d i (ts.drop i) = (yV d j (ts.drop j)) >>= fun l => some (appS ss l.1, l.2), fun _ _ z => z, ?_⟩
   refine rd_read R3 rfl rfl hd T3 (fun hn H'' => kE (by rw [hx1, hn]; rfl) H'') (fun s1 j2 hs H4 n2 hM2 T4 R4 K4 => ?_)
   have q : j + 2 <= j2 /\ j2 <= ts.length := (suf_drop T3.le (xStmt_suf hs)).2
   rw [hs] at hx1
   rw [List.append_assoc] at T4 R4
   have eL : (ns ++ (Mn.beg :: n1)).length = ns.length + 1 + n1.length := by simp only [List.length_append, List.length_cons]; omega
   rw [eL] at hM2
   refine ⟨ts.length - j2, by omega, appS ss (.cons s1 .nil), j2, n1 ++ n2, rfl, rfl, css_app hM (css_one hM2), T4, R4, K3.trans K4, ?_⟩
   rw [hx1]
   show (((yV d j2 (ts.drop j2)) >>= fun l => some (.cons s1 l.1, l.2)) >>= fun l => some (appS ss l.1, l.2)) = _
   cases yV d j2 (ts.drop j2) with
   | none => rfl
   | some l =>
    show some (appS ss (.cons s1 l.1), l.2) = some (appS (appS ss (.cons s1 .nil)) l.1, l.2)
    rw [appS_one]
  ·have h1 := str_ne_yes h1
   rw [T3.eat_yes (wd := "}") (by decide +kernel) h1] at hx
   have hx1 : xB d i (ts.drop i) = some (ss, j + 1, ts.drop (j + 1)) := by
    rw [hx]
    show some (appS ss .nil, _) = _
    rw [appS_nil]
   refine qX R3 rfl (by decide +kernel) (fun z => absurd h1 z) (fun t5 ht5 hk5 H5 R5 K5 => ?_)
   have T5 := T3.next ht5
   refine yR .fin R5 T5 (yW trivial) rfl (fun P hP => hP) (fun H6 R6 K6 => ?_)
   have T6 := (T5.snoc .fin).down (d := c) (by omega)
   rw [List.append_assoc] at R6 T6
   exact kk ss (j + 1) hx1 H6 (Mn.beg :: (n1 ++ [Mn.fin])) ⟨n1, hM, rfl⟩ T6 R6 ((K3.trans K5).trans K6)
end
end SM
end
section
set_option Elab.async false
set_option linter.all false
set_option maxRecDepth 100000
set_option maxHeartbeats 2000000
namespace SM
open PySem PySem.Spec PyProof.Rows L2
open Kp110 (Bytes words small digit inName bytesOf isTok opOf eat nameAt)
structure Pr (K : PySem.W.Frag) (mg : Str -> Option Value) where
 fDeeper : Addr
 fdDeeper : FuncData
 deeper : Dn K mg "deeper" sDeeper ["deep"] fDeeper fdDeeper
 fBlock : Addr
 fdBlock : FuncData
 block : Dn K mg "read_block" sBlock ["reader", "deep"] fBlock fdBlock
 fStmt : Addr
 fdStmt : FuncData
 stmt : Dn K mg "read_statement" sStmt ["reader", "deep"] fStmt fdStmt
 fLet : Addr
 fdLet : FuncData
 let_ : Dn K mg "read_let" sLet ["reader", "deep"] fLet fdLet
 fNamed : Addr
 fdNamed : FuncData
 named : Dn K mg "read_named" sNamed ["reader", "deep"] fNamed fdNamed
 fIf : Addr
 fdIf : FuncData
 if_ : Dn K mg "read_if" sIf ["reader", "deep"] fIf fdIf
 fWhile : Addr
 fdWhile : FuncData
 while_ : Dn K mg "read_while" sWhile ["reader", "deep", "start"] fWhile fdWhile
 fCall : Addr
 fdCall : FuncData
 call : Dn K mg "read_call" sCall ["reader", "name", "deep"] fCall fdCall
 fExpr : Addr
 fdExpr : FuncData
 expr : Dn K mg "read_expr" sExpr ["reader", "deep"] fExpr fdExpr
 fSum : Addr
 fdSum : FuncData
 sum : Dn K mg "read_sum" sSum ["reader", "deep"] fSum fdSum
 fTerm : Addr
 fdTerm : FuncData
 term : Dn K mg "read_term" sTerm ["reader", "deep"] fTerm fdTerm
 fFactor : Addr
 fdFactor : FuncData
 factor : Dn K mg "read_factor" sFactor ["reader", "deep"] fFactor fdFactor
 fName : Addr
 fdName : FuncData
 name : Dn K mg "read_name" sName ["reader", "deep"] fName fdName
section
variable {P : Program} {w : World} {K : PySem.W.Frag} {mg : Str -> Option Value} {base : Heap} {cR cNP fK fT fM fJ fL aW aS : Addr} {fdK fdT fdM fdJ fdL : FuncData}
theorem ok_all (T : RC K cR fK fT fM fdK fdT fdM) (T2 : RC2 K cR fJ fL fdJ fdL) (G : Gs mg) (G2 : Gs2 mg) (B : Tb K mg cNP aW aS) (p : Pr K mg) : ∀ n,
  FnOk P w K mg base (CXW P w) (6 * n) p.fFactor p.fdFactor ["reader", "deep"] (spRd cR cNP n xFac MenE) /\ FnOk P w K mg base (CXW P w) (6 * n + 3) p.fExpr p.fdExpr ["reader", "deep"] (spRd cR cNP n yH MenE) /\
   FnOk P w K mg base (CXW P w) (6 * n + 6) p.fBlock p.fdBlock ["reader", "deep"] (spRd cR cNP n xB CB)
 | 0 => ⟨rd_zero, rd_zero, rd_zero⟩
 | n + 1 => by
  obtain ⟨gF, gE, gB⟩ := ok_all T T2 G G2 B p n
  have gC := ok_callR T G G2 B p.call p.expr p.deeper gE
  have gN := ok_nameR T G B p.name p.call gC
  have gF1 := ok_factor T G G2 B p.factor p.name p.expr p.deeper gN gE gF
  have gT1 := ok_term (n := n) T G B p.term p.factor gF1
  have gS1 := ok_sum T G B p.sum p.term gT1
  have gE1 := ok_expr T G B p.expr p.sum gS1
  have gL1 := ok_let T G B p.let_ p.expr gE1
  have gD1 := ok_named T G B p.named p.expr p.call gC gE1
  have gI1 := ok_if T T2 G G2 B p.if_ p.expr p.block p.deeper gB gE1
  have gW1 := ok_while T T2 G G2 B p.while_ p.expr p.block p.deeper gB gE1
  have gSt := ok_stmt T G B p.stmt p.expr p.let_ p.named p.if_ p.while_ gE1 gL1 gD1 gI1 gW1
  exact ⟨gF1, gE1, ok_block T G B p.block p.stmt gSt⟩
def Keep1 (r : Addr) (H H' : Hp) : Prop := ∀ b o, H b = some o -> b ≠ r -> H' b = some o
theorem Keep1.trans {r : Addr} {H H1 H2 : Hp} (a : Keep1 r H H1) (b : Keep1 r H1 H2) : Keep1 r H H2 := fun c o e h => b c o (a c o e h) h
theorem Same.keep1 {r : Addr} {H H1 : Hp} (a : Same H H1) : Keep1 r H H1 := fun c o e _ => a c o e
def spTake1 (cR cNP : Addr) : Sp := fun vs H Q E => ∃ r tl m ts i ns k, vs = [V.ref r, V.str k] /\ RdAt cR H r tl m ts i ns /\ k ≠ "nothing" /\ (zS ts i ≠ k -> ∀ H', E (.ref cNP) none H') /\
 ∀ t, ts[i]? = some t -> qW t = k -> ∀ H', RdAt cR H' r tl m ts (i + 1) ns -> Keep1 r H H' -> Q (.str (yQ t)) H'
theorem ok_take1 (T : RC K cR fK fT fM fdK fdT fdM) (G : Gs mg) (B : Tb K mg cNP aW aS) : FnOk P w K mg base (CXW P w) 2 fT fdT ["self", "kind"] (spTake1 cR cNP) := by
 have GK : FnOk P w K mg base (CXW P w) 1 fK fdK ["self"] (spKind cR) := yX T G
 refine T.fT.okW scRTake (fun vs H Q E h => ?_) (fun cdv A outer s H vs Q E hr h => ?_)
 ·obtain ⟨r, tl, m, ts, i, ns, k, rfl, _⟩ := h
  rfl
 ·obtain ⟨r, tl, m, ts, i, ns, k, rfl, R, hk, kE, kk⟩ := h
  obtain ⟨⟨dx, hi⟩, ⟨ps, hl, ht⟩, _, _, _⟩ := id R
  refine ⟨_, zB (zZ (zM op_ne (qO (pv 0) T.cl T.mK GK hr T.bK .nil qC) (pv 1) (nomark _)) (zC (qF makeW rfl rfl B.np B.npD)) zY)
   (zB (qB (i := 2) scRTake.nd rfl (Or.inl rfl) (qV ix_tup (qV yB (zX (pv 0) rfl) (zX (pv 0) rfl) (fun _ _ => rfl)) zQ (fun _ _ => rfl)))
   (zB (ps_fldaug (pv 0) zQ in_add) (zC (zW (pv 2))))), ?_⟩
  refine ⟨_, rfl, r, dx, _, rfl, hi, rf_no _ _ _ (by decide +kernel) (by decide +kernel) (by decide +kernel), r, tl, m, ts, i, ns, rfl, R, _, rfl, rfl, _, rfl, ?_⟩
  refine qG (fun h1 => ?_) (fun h1 => ?_)
  ·exact kE (str_ne_no h1) H
  ·obtain ⟨t, e, hkt⟩ := Tks.kind (str_ne_yes h1) hk
   obtain ⟨p, hp, htok⟩ := paired_get ht e
   refine ⟨_, rfl, r, cR, dx, _, _, rfl, hi, T.cl, T.nTok, rf_tok .., _, rfl, r, cR, dx, _, _, rfl, hi, T.cl, T.nAt, rf_at .., tl, _, _, _, rfl, rfl, qZ.of hl, zU (by rw [List.getElem?_map, hp]; rfl), ?_⟩
   refine ⟨p, _, _, _, rfl, rfl, SqT.of htok, zU (j := 1) rfl, ?_⟩
   refine ⟨_, rfl, r, cR, dx, _, _, rfl, hi, T.cl, T.nAt, rf_at .., _, _, rfl, rfl, dx, _, hi, (by show 3 < 1000; decide), _, rfl, ?_⟩
   refine kk t e hkt _ (R.step (j := i + 1) (dx := dx) ?_ (fun b o z hb => by rw [zF hb]; exact z)) (fun b o z h1 => by rw [zF h1]; exact z)
   rw [zG, put_at]
   rfl
theorem tk1_read {r tl m : Addr} {ts : List Kp110.Tok} {i : Nat} {ns : List Mn} {H : Hp} {σ : L2.St} {Q : VK} {E : XK} {k : Str} (R : RdAt cR H r tl m ts i ns) (h0 : σ[0]? = some (some (V.ref r))) (hk : k ≠ "nothing") (hE : zS ts i ≠ k -> ∀ H', E (.ref cNP) none H')
  (h : ∀ t, ts[i]? = some t -> qW t = k -> ∀ H', RdAt cR H' r tl m ts (i + 1) ns -> Keep1 r H H' -> Q (.str (yQ t)) H') : tMeth cR "take" (spTake1 cR cNP) [] E (qT 0) (qH (tC (.str k)) tNil) σ H Q := by
 obtain ⟨dx, hi⟩ := R.ins
 exact ⟨_, h0, r, dx, _, rfl, hi, rf_no _ _ _ (by decide +kernel) (by decide +kernel) (by decide +kernel), r, tl, m, ts, i, ns, k, rfl, R, hk, hE, h⟩
end
end SM
end
section
set_option Elab.async false
set_option linter.all false
set_option maxRecDepth 100000
set_option maxHeartbeats 2000000
namespace SM
open PySem PySem.Spec PyProof.Rows L2
open Kp110 (Bytes words small digit inName bytesOf isTok opOf eat nameAt)
abbrev sPar : Stmt := top 16
def xPT (j : Nat) (ts : List Kp110.Tok) : Option (List (Bytes × Nat) × Nat × List Kp110.Tok) := match eat ")" j ts with
 | some z => some ([], z)
 | none => (eat "," j ts) >>= fun c => xParams c.1 c.2
def xP (i : Nat) (ts : List Kp110.Tok) : Option (List (Bytes × Nat) × Nat × List Kp110.Tok) := (eat "(" i ts) >>= fun o => match eat ")" o.1 o.2 with
 | some z => some ([], z)
 | none => xParams o.1 o.2
theorem xParams_tail (i : Nat) (ts : List Kp110.Tok) : xParams i ts = (nameAt ts) >>= fun x => (xPT (i + 1) (ts.drop 1)) >>= fun l => some ((x, i) :: l.1, l.2) := by
 rw [xParams_eq]
 refine zP rfl fun x hx => ?_
 unfold xPT
 cases eat ")" (i + 1) (ts.drop 1) with
 | some z => rfl
 | none =>
  cases eat "," (i + 1) (ts.drop 1) with
  | none => rfl
  | some c => rfl
def pvs (ps : List (Bytes × Nat)) : List V := ps.map fun x => V.str (qA x.1)
def spPar (cR cNP : Addr) : Sp := fun vs H Q E => ∃ r tl m ts i ns, vs = [V.ref r] /\ RdAt cR H r tl m ts i ns /\ Tks 0 ts i ns /\ (xP i (ts.drop i) = none -> ∀ H', E (.ref cNP) none H') /\
 ∀ ps j, xP i (ts.drop i) = some (ps, j, ts.drop j) -> (4 < ps.length -> ∀ H', E (.ref cNP) none H') /\ (¬ 4 < ps.length -> ∀ H' a, Tks 0 ts j ns -> RdAt cR H' r tl m ts j ns -> Keep1 r H H' -> H a = none -> H' a = some (.lst (pvs ps)) -> Q (.ref a) H')
section
variable {P : Program} {w : World} {K : PySem.W.Frag} {mg : Str -> Option Value} {base : Heap} {cR cNP fK fT fM aW aS : Addr} {fdK fdT fdM : FuncData}
theorem scPar : FnScope ["reader", "parameters"] ["reader"] (zJ sPar) := scK
theorem ok_par {f : Addr} {fd : FuncData} (T : RC K cR fK fT fM fdK fdT fdM) (G : Gs mg) (G2 : Gs2 mg) (B : Tb K mg cNP aW aS) (D : Dn K mg "read_parameters" sPar ["reader"] f fd) : FnOk P w K mg base (CXW P w) 3 f fd ["reader"] (spPar cR cNP) := by
 have GK : FnOk P w K mg base (CXW P w) 1 fK fdK ["self"] (spKind cR) := yX T G
 have GT : FnOk P w K mg base (CXW P w) 2 fT fdT ["self", "kind"] (spTake1 cR cNP) := ok_take1 T G B
 refine D.fn.okW scPar (fun vs H Q E h => ?_) (fun cdv A outer s H vs Q E hr h => ?_)
 ·obtain ⟨r, tl, m, ts, i, ns, rfl, _⟩ := h
  rfl
 ·obtain ⟨r, tl, m, ts, i, ns, rfl, R, Tk, kE, kk⟩ := h
  have hr1 : Room 1 _ := hr.mono (by omega)
  have hr2 : Room 2 _ := hr
  refine ⟨_, zB (qB (i := 1) scPar.nd rfl (Or.inl rfl) (yC zE)) (zB (zL (zR (pv 0) T.cl T.mT GT hr2 T.bT .nil zT (zA zK zE))) (zB (zZ (zM op_ne (qO (pv 0) T.cl T.mK GK hr1 T.bK .nil qC) zK (nomark _)) (zB (zL (pe_bm PySem.F.plainAttrs_list PySem.F.slot_list_append PySem.F.type_list_append yO (pv 1) (zA (zR (pv 0) T.cl T.mT GT hr2 T.bT .nil zT (zA zK zE)) zE))) (zC (ps_while ownW (zM qE (qO (pv 0) T.cl T.mK GK hr1 T.bK .nil qC) zK (nomark _)) (zB (zL (zR (pv 0) T.cl T.mT GT hr2 T.bT .nil zT (zA zK zE))) (zC (zL (pe_bm PySem.F.plainAttrs_list PySem.F.slot_list_append PySem.F.type_list_append yO (pv 1) (zA (zR (pv 0) T.cl T.mT GT hr2 T.bT .nil zT (zA zK zE)) zE)))))))) zY) (zB (zL (zR (pv 0) T.cl T.mT GT hr2 T.bT .nil zT (zA zK zE))) (zB (zZ (zM op_gt (yD G.len (pv 1)) (qL G2.mostParams) (nomark _)) (zC (qF makeW rfl rfl B.np B.npD)) zY) (zC (zW (pv 1))))))), ?_⟩
  refine ⟨Nat.zero_le _, fun a ha => ?_⟩
  have s0 : Same H (upd H a (.lst [])) := upd_sm ha
  have hxP : xP i (ts.drop i) = (eat "(" i (ts.drop i)) >>= fun o => match eat ")" o.1 o.2 with
   | some z => some ([], z)
   | none => xParams o.1 o.2 := rfl
  refine tk1_read (R.same s0) rfl (by decide +kernel) (fun z H' => kE (by rw [hxP, Tk.eat_no (by decide +kernel) z]; rfl) H') (fun t0 ht0 hk0 H1 R1 K1 => ?_)
  have T1 := Tk.next ht0
  rw [Tk.eat_yes (by decide +kernel) (kind_of ht0 hk0)] at hxP
  have hx0 : xP i (ts.drop i) = match eat ")" (i + 1) (ts.drop (i + 1)) with
   | some z => some ([], z)
   | none => xParams (i + 1) (ts.drop (i + 1)) := hxP
  obtain ⟨dx, hi0⟩ := id R.ins
  have nar : a ≠ r := (zH hi0 ha).symm
  have hl1 : H1 a = some (.lst (pvs [])) := K1 _ _ zG nar
  have k1 : Keep1 r H H1 := (Same.keep1 s0).trans K1
  have fin : ∀ (ps : List (Bytes × Nat)) (j : Nat) (H' : Hp), Tks 0 ts j ns -> RdAt cR H' r tl m ts j ns -> Keep1 r H H' -> H' a = some (.lst (pvs ps)) ->
    (zS ts j ≠ ")" -> xP i (ts.drop i) = none) -> (zS ts j = ")" -> xP i (ts.drop i) = some (ps, j + 1, ts.drop (j + 1))) ->
    tMeth cR "take" (spTake1 cR cNP) [] E (qT 0) (qH (tC (.str ")")) tNil) [some (V.ref r), some (V.ref a)] H' (fun _ H2 =>
     tIfS (tTest (tOp (rI0 fun i j => .bl (decide (j < i))) (tCB (fun xs H Q => ∃ p ys, xs = [.ref p] /\ (qZ K H p ys ∨ SqT K H p ys) /\ Q (.int ys.length) H) (qH (qT 1) tNil)) (tC (.int 4)))) (tRaise E cNP) tNext
      ⟨fun σ' H3 => tRet (qT 1) ⟨fun _ H' => Q .non H', Q, fun _ _ => False, fun _ _ => False⟩ σ' H3, Q, fun _ _ => False, fun _ _ => False⟩ [some (V.ref r), some (V.ref a)] H2) := by
   intro ps j H' T2 R2 K2 hl hno hyes
   refine tk1_read R2 rfl (by decide +kernel) (fun z H'' => kE (hno z) H'') (fun t ht hkt H2 R3 K3 => ?_)
   have T3 := T2.next ht
   have hl3 := K3 _ _ hl nar
   obtain ⟨k4, k5⟩ := kk ps (j + 1) (hyes (kind_of ht hkt))
   refine ⟨_, rfl, a, _, rfl, .inl (qZ.of hl3), _, _, rfl, rfl, _, rfl, ?_⟩
   refine qG (fun h1 => ?_) (fun h1 => ?_)
   ·have h1 := of_decide_eq_true h1
    refine k4 ?_ H2
    unfold pvs at h1
    rw [List.length_map] at h1
    omega
   ·refine ⟨_, rfl, k5 (fun z => h1 (decide_eq_true ?_)) H2 a T3 R3 (K2.trans K3) ha hl3⟩
    unfold pvs
    rw [List.length_map]
    omega
  refine yY R1 rfl ⟨rfl, _, rfl, ?_⟩
  refine qG (fun h1 => ?_) (fun h1 => ?_)
  ·have h1 := str_ne_no h1
   rw [T1.eat_no (wd := ")") (by decide +kernel) h1] at hx0
   have hx1 : xP i (ts.drop i) = xParams (i + 1) (ts.drop (i + 1)) := hx0
   rw [xParams_tail] at hx1
   refine ⟨_, rfl, .inl ⟨rfl, _, qZ.of hl1⟩, ?_⟩
   refine tk1_read R1 rfl (by decide +kernel) (fun z H' => kE (by rw [hx1, T1.name_no z]; rfl) H') (fun t2 ht2 hk2 H2 R2 K2 => ?_)
   have T2 := T1.next ht2
   obtain ⟨nm, sp⟩ := T1.name_yes ht2 hk2
   rw [nm, List.drop_drop] at hx1
   have hx2 : xP i (ts.drop i) = (xPT (i + 1 + 1) (ts.drop (i + 1 + 1))) >>= fun l => some ((t2.text, i + 1) :: l.1, l.2) := hx1
   have hl2 := K2 _ _ hl1 nar
   refine ⟨a, _, _, rfl, rfl, hl2, (by show (0 : Nat) < sizeLine; decide), ?_⟩
   have nma : ∀ {H' : Hp} {v : List V}, RdAt cR H' r tl m ts (i + 1) ns -> True := fun _ => trivial
   obtain ⟨_, ⟨ps0, hlt, _⟩, ⟨qs0, hlm, _⟩, _, _⟩ := id R
   have nat : a ≠ tl := (zH hlt ha).symm
   have nam : a ≠ m := (zH hlm ha).symm
   have app : ∀ {H' : Hp} {j : Nat} {v : List V}, RdAt cR H' r tl m ts j ns -> (∃ xs, H' a = some (.lst xs)) -> RdAt cR (upd H' a (.lst v)) r tl m ts j ns := fun R' ⟨xs, hxs⟩ => by
    refine R'.keep (r2 := r) (m2 := m) (fun b o e hb => ?_)
    rw [zF]
    ·exact e
    ·rintro rfl
     rcases hb with z | z | z | ⟨xs', z⟩
     ·exact nar z
     ·exact nat z
     ·exact nam z
     ·rw [hxs] at e; rw [z] at e; cases e
   have K2a : Keep1 r H (upd H2 a (.lst (pvs [] ++ [.str (yQ t2)]))) := fun b o e hb => by
    rw [zF (zH e ha)]
    exact K2 _ _ (k1 _ _ e hb) hb
   rw [sp] at K2a ⊢
   refine ⟨fun mm σ H' => ∃ (ps : List (Bytes × Nat)) (j : Nat), σ = [some (V.ref r), some (V.ref a)] /\ mm = ts.length - j /\ Tks 0 ts j ns /\ RdAt cR H' r tl m ts j ns /\ Keep1 r H H' /\ H' a = some (.lst (pvs ps)) /\ ps.length <= j /\
     xP i (ts.drop i) = (xPT j (ts.drop j)) >>= fun l => some (ps ++ l.1, l.2),
    ⟨ts.length - (i + 1 + 1), [(t2.text, i + 1)], i + 1 + 1, rfl, rfl, T2, app R2 ⟨_, hl2⟩, K2a, zG, by show 1 <= _; omega, hx2⟩, ?_⟩
   rintro mm σ H' ⟨ps, j, rfl, rfl, T3, R3, K3, hl3, hpl, hx⟩
   refine yY R3 rfl ⟨rfl, _, rfl, ?_⟩
   refine qG (fun h2 => ?_) (fun h2 => ?_)
   ·have h2 := qM h2
    have h3 : ¬ zS ts j = ")" := kne h2 (by decide +kernel)
    unfold xPT at hx
    rw [T3.eat_no (wd := ")") (by decide +kernel) h3, T3.eat_yes (wd := ",") (by decide +kernel) h2] at hx
    have hx : xP i (ts.drop i) = (xParams (j + 1) (ts.drop (j + 1))) >>= fun l => some (ps ++ l.1, l.2) := hx
    rw [xParams_tail] at hx
    refine ⟨fun σ' H'' => ∃ mm', mm' < ts.length - j /\ ∃ (ps : List (Bytes × Nat)) (j : Nat), σ' = [some (V.ref r), some (V.ref a)] /\ mm' = ts.length - j /\ Tks 0 ts j ns /\ RdAt cR H'' r tl m ts j ns /\ Keep1 r H H'' /\ H'' a = some (.lst (pvs ps)) /\ ps.length <= j /\
     xP i (ts.drop i) = (xPT j (ts.drop j)) >>= fun l => some (ps ++ l.1, l.2), fun _ _ z => z, ?_⟩
    refine tk1_read R3 rfl (by decide +kernel) (fun z => absurd h2 z) (fun t4 ht4 _ H4 R4 K4 => ?_)
    have T4 := T3.next ht4
    have hl4 := K4 _ _ hl3 nar
    refine ⟨_, rfl, .inl ⟨rfl, _, qZ.of hl4⟩, ?_⟩
    refine tk1_read R4 rfl (by decide +kernel) (fun z H'' => kE (by rw [hx, T4.name_no z]; rfl) H'') (fun t5 ht5 hk5 H5 R5 K5 => ?_)
    have T5 := T4.next ht5
    obtain ⟨nm5, sp5⟩ := T4.name_yes ht5 hk5
    rw [nm5, List.drop_drop] at hx
    have hl5 := K5 _ _ hl4 nar
    have hj := T5.le
    have hmost := T5.most
    refine ⟨a, _, _, rfl, rfl, hl5, ?_, ?_⟩
    ·unfold pvs
     rw [List.length_map]
     exact Nat.lt_of_le_of_lt (show ps.length <= 2048 by omega) (by decide)
    ·rw [sp5]
     refine ⟨ts.length - (j + 1 + 1), by omega, ps ++ [(t5.text, j + 1)], j + 1 + 1, rfl, rfl, T5, app R5 ⟨_, hl5⟩, fun b o e hb => ?_, ?_, by rw [List.length_append]; show ps.length + 1 <= _; omega, ?_⟩
     ·rw [zF (zH e ha)]
      exact K5 _ _ (K4 _ _ (K3 _ _ e hb) hb) hb
     ·rw [zG]
      unfold pvs
      rw [List.map_append]
      rfl
     ·rw [hx]
      show (((xPT (j + 1 + 1) (ts.drop (j + 1 + 1))) >>= fun l => some ((t5.text, j + 1) :: l.1, l.2)) >>= fun l => some (ps ++ l.1, l.2)) = _
      cases xPT (j + 1 + 1) (ts.drop (j + 1 + 1)) with
      | none => rfl
      | some l =>
       show some (ps ++ ((t5.text, j + 1) :: l.1), l.2) = some ((ps ++ [(t5.text, j + 1)]) ++ l.1, l.2)
       rw [List.append_assoc]
       rfl
   ·have h2 := qQ h2
    refine fin ps j H' T3 R3 K3 hl3 (fun z => ?_) (fun z => ?_)
    ·rw [hx]
     unfold xPT
     rw [T3.eat_no (wd := ")") (by decide +kernel) z, T3.eat_no (wd := ",") (by decide +kernel) h2]
     rfl
    ·rw [hx]
     unfold xPT
     rw [T3.eat_yes (wd := ")") (by decide +kernel) z]
     show some (ps ++ [], _) = _
     rw [List.append_nil]
  ·have h1 := str_ne_yes h1
   rw [T1.eat_yes (wd := ")") (by decide +kernel) h1] at hx0
   exact fin [] (i + 1) H1 T1 R1 k1 hl1 (fun z => absurd h1 z) (fun _ => hx0)
end
end SM
end
section
set_option Elab.async false
set_option linter.all false
set_option maxRecDepth 100000
set_option maxHeartbeats 2000000
namespace SM
open PySem PySem.Spec PyProof.Rows L2
open Kp110 (Bytes words small digit inName bytesOf isTok opOf eat nameAt)
abbrev sFInit : Stmt := yS (top 11) 0
abbrev sProg : Stmt := top 14
abbrev sFun : Stmt := top 15
def ff (a b c : V) : List (Str × V) := [("name", a), ("parameters", b), ("orders", c)]
theorem ne_par_name : (("parameters" : Str) == "name") = false := by decide +kernel
theorem ne_men_name : (("orders" : Str) == "name") = false := by decide +kernel
theorem ne_men_par : (("orders" : Str) == "parameters") = false := by decide +kernel
theorem ff_name (a b c : V) : (ff a b c).lookup ("name" : Str) = some a := by
 unfold ff
 rw [List.lookup_cons, beq_self_eq_true]
theorem ff_par (a b c : V) : (ff a b c).lookup ("parameters" : Str) = some b := by
 unfold ff
 rw [List.lookup_cons, ne_par_name]
 show List.lookup _ _ = _
 rw [List.lookup_cons, beq_self_eq_true]
theorem ff_men (a b c : V) : (ff a b c).lookup ("orders" : Str) = some c := by
 unfold ff
 rw [List.lookup_cons, ne_men_name]
 show List.lookup _ _ = _
 rw [List.lookup_cons, ne_men_par]
 show List.lookup _ _ = _
 rw [List.lookup_cons, beq_self_eq_true]
theorem ff_made (a b c : V) : qK "orders" c (qK "parameters" b (qK "name" a [])) = ff a b c := by
 have h1 : qK "name" a [] = [(("name" : Str), a)] := rfl
 have h2 : qK "parameters" b [(("name" : Str), a)] = [(("name" : Str), a), ("parameters", b)] := by
  rw [qK, if_neg (by decide +kernel)]
  rfl
 rw [h1, h2, qK, if_neg (by decide +kernel), qK, if_neg (by decide +kernel)]
 rfl
theorem rf_made (a : Addr) (b : Int) (c : Addr) : qK "orders" (.ref c) (qK "at" (.int b) (qK "tokens" (.ref a) [])) = rf a b c := by
 have h1 : qK "tokens" (V.ref a) [] = [(("tokens" : Str), V.ref a)] := rfl
 have h2 : qK "at" (V.int b) [(("tokens" : Str), V.ref a)] = [(("tokens" : Str), V.ref a), ("at", V.int b)] := by
  rw [qK, if_neg (by decide +kernel)]
  rfl
 rw [h1, h2, qK, if_neg (by decide +kernel), qK, if_neg (by decide +kernel)]
 rfl
structure CI (K : PySem.W.Frag) (mg : Str -> Option Value) (C fI : Addr) (fdI : FuncData) (x qual : Str) (st : Stmt) (ps : List Str) : Prop where
 mgC : mg x = some (.ref C)
 mkC : Mk K C fI
 fI : Fun K "__init__" qual st fI fdI
 bI : Binds K fdI ps []
structure FC (K : PySem.W.Frag) (cF : Addr) : Prop where
 cl : Cls K cF
 nName : qS K cF "name"
 nPar : qS K cF "parameters"
 nMen : qS K cF "orders"
def spFInit (cF : Addr) : Sp := fun vs H Q _ => ∃ (x dx : Addr) (a b c : V), vs = [.ref x, a, b, c] /\ H x = some (.ins cF dx []) /\ ∀ H', H' x = some (.ins cF dx (ff a b c)) -> (∀ b o, H b = some o -> b ≠ x -> H' b = some o) -> Q .non H'
def spRInit (cR : Addr) : Sp := fun vs H Q _ => ∃ (x dx tl : Addr), vs = [.ref x, .ref tl] /\ H x = some (.ins cR dx []) /\ ∀ H' m, H m = none -> m ≠ x -> H' x = some (.ins cR dx (rf tl 0 m)) -> H' m = some (.lst []) -> (∀ b o, H b = some o -> b ≠ x -> H' b = some o) -> Q .non H'
structure FnAt (cF : Addr) (H : Hp) (fo : Addr) (y : Kp110.Fn) : Prop where
 ex : ∃ (dx p m : Addr) (qs : List Addr) (ns : List Mn), H fo = some (.ins cF dx (ff (.str (qA y.name)) (.ref p) (.ref m))) /\ H p = some (.lst (pvs y.params)) /\ H m = some (.lst (qs.map V.ref)) /\ MnL H qs ns /\ CFn y.body ns /\ smallC ns /\ ns.length <= 20000 /\ y.params.length <= 4
def FnL (cF : Addr) (H : Hp) : List Addr -> List Kp110.Fn -> Prop := Paired fun fo y => FnAt cF H fo y
theorem FnAt.mono {cF : Addr} {H H' : Hp} {fo : Addr} {y : Kp110.Fn} (x : FnAt cF H fo y) (k : ∀ b o, H b = some o -> (∀ i dx fs, o = .ins i dx fs -> i = cF /\ ∃ a b c, fs = ff a b c) -> H' b = some o) : FnAt cF H' fo y := by
 obtain ⟨dx, p, m, qs, ns, h1, h2, h3, h4, h5, h6⟩ := x.ex
 exact ⟨dx, p, m, qs, ns, k _ _ h1 (fun i dx fs e => by cases e; exact ⟨rfl, _, _, _, rfl⟩), k _ _ h2 (fun _ _ _ e => by cases e), k _ _ h3 (fun _ _ _ e => by cases e), h4.mono fun q n z => k _ _ z (fun _ _ _ e => by cases e), h5, h6⟩
theorem rf_ne_ff {a : Addr} {i : Int} {m : Addr} {x y z : V} : rf a i m ≠ ff x y z := fun e => by
 unfold rf ff at e
 have := congrArg (fun l : List (Str × V) => (l.map (·.1)).head?) e
 have e2 : ("tokens" : Str) = "name" := Option.some.inj this
 exact absurd e2 (by decide +kernel)
theorem FnAt.keep1 {cF cR : Addr} {H H' : Hp} {fo r tl m : Addr} {i : Int} {dx : Addr} {y : Kp110.Fn} (x : FnAt cF H fo y) (hr : H r = some (.ins cR dx (rf tl i m))) (k : Keep1 r H H') : FnAt cF H' fo y :=
 x.mono fun b o e h => k b o e fun z => by
  subst z
  rw [hr] at e
  obtain ⟨_, a, b, c, q⟩ := h _ _ _ (Option.some.inj e).symm
  exact rf_ne_ff q
section
variable {P : Program} {w : World} {K : PySem.W.Frag} {mg : Str -> Option Value} {base : Heap} {cR cF cNP fK fT fM fJ fL aW aS : Addr} {fdK fdT fdM fdJ fdL : FuncData}
theorem scFInit : FnScope ["self", "name", "parameters", "orders"] ["self", "name", "parameters", "orders"] (zJ sFInit) := scK
theorem ok_fInit {f : Addr} {fd : FuncData} (F : Fun K "__init__" "Function.__init__" sFInit f fd) (C : FC K cF) : FnOk P w K mg base (CXW P w) 1 f fd ["self", "name", "parameters", "orders"] (spFInit cF) := by
 refine F.okW scFInit (fun vs H Q E h => ?_) (fun cdv A outer s H vs Q E hr h => ?_)
 ·obtain ⟨x, dx, a, b, c, rfl, _⟩ := h
  rfl
 ·obtain ⟨x, dx, a, b, c, rfl, hx, kk⟩ := h
  refine ⟨_, zB (qR (pv 0) (pv 1) rfl) (zB (qR (pv 0) (pv 2) rfl) (zC (qR (pv 0) (pv 3) rfl))), ?_⟩
  refine ⟨_, rfl, _, rfl, x, cF, dx, _, rfl, hx, C.cl, C.nName, (by show 0 < 1000; decide), ?_⟩
  refine ⟨_, rfl, _, rfl, x, cF, dx, _, rfl, zG, C.cl, C.nPar, (by show 1 < 1000; decide), ?_⟩
  rw [upd_upd]
  refine ⟨_, rfl, _, rfl, x, cF, dx, _, rfl, zG, C.cl, C.nMen, (by have := yP "parameters" b (qK "name" a []); exact Nat.lt_of_le_of_lt this (by show 2 < 1000; decide)), ?_⟩
  rw [upd_upd, ff_made]
  exact kk _ zG fun b o e hb => by rw [zF hb]; exact e
theorem scRInit : FnScope ["self", "tokens"] ["self", "tokens"] (zJ sRInit) := scK
theorem ok_rInit {f : Addr} {fd : FuncData} (F : Fun K "__init__" "Reader.__init__" sRInit f fd) (T : RC K cR fK fT fM fdK fdT fdM) : FnOk P w K mg base (CXW P w) 1 f fd ["self", "tokens"] (spRInit cR) := by
 refine F.okW scRInit (fun vs H Q E h => ?_) (fun cdv A outer s H vs Q E hr h => ?_)
 ·obtain ⟨x, dx, tl, rfl, _⟩ := h
  rfl
 ·obtain ⟨x, dx, tl, rfl, hx, kk⟩ := h
  refine ⟨_, zB (qR (pv 0) (pv 1) rfl) (zB (qR (pv 0) zQ rfl) (zC (qR (pv 0) (yC zE) rfl))), ?_⟩
  refine ⟨_, rfl, _, rfl, x, cR, dx, _, rfl, hx, T.cl, T.nTok, (by show 0 < 1000; decide), ?_⟩
  refine ⟨_, rfl, x, cR, dx, _, rfl, zG, T.cl, T.nAt, (by show 1 < 1000; decide), ?_⟩
  rw [upd_upd]
  refine ⟨Nat.zero_le _, fun m hm => ?_⟩
  have nmx : m ≠ x := fun z => by
   subst z
   rw [zG] at hm
   cases hm
  have hm0 : H m = none := by
   rw [zF nmx] at hm
   exact hm
  refine ⟨_, rfl, x, cR, dx, _, rfl, (by rw [zF nmx.symm]; exact zG), T.cl, T.nMen, (by have := yP "at" (.int 0) (qK "tokens" (.ref tl) []); exact Nat.lt_of_le_of_lt this (by show 2 < 1000; decide)), ?_⟩
  rw [rf_made]
  refine kk _ m hm0 nmx zG (by rw [zF nmx]; exact zG) fun b o e hb => ?_
  rw [zF hb, zF (zH e hm0), zF hb]
  exact e
def spFun (cR cF cNP : Addr) : Sp := fun vs H Q E => ∃ r tl m ts i ns, vs = [V.ref r] /\ RdAt cR H r tl m ts i ns /\ Tks 0 ts i ns /\ (xFn i (ts.drop i) = none -> ∀ H', E (.ref cNP) none H') /\
 ∀ y j, xFn i (ts.drop i) = some (y, j, ts.drop j) -> ∀ H' m' ns' fo, Tks 0 ts j ns' -> RdAt cR H' r tl m' ts j ns' -> Keep1 r H H' -> FnAt cF H' fo y -> Q (.ref fo) H'
theorem xFn_eq (i : Nat) (ts : List Kp110.Tok) : xFn i ts = (eat "fn" i ts) >>= fun k => (nameAt k.2) >>= fun x => (xP (k.1 + 1) (k.2.drop 1)) >>= fun ps => (xB 1 ps.2.1 ps.2.2) >>= fun b =>
  if 4 < ps.1.length then none else some (⟨i, b.2.1, x, ps.1, b.1⟩, b.2) := by
 unfold xFn
 refine zP rfl fun k hk => zP rfl fun x hx => ?_
 unfold xP
 rw [obind]
 refine zP rfl fun o ho => zP rfl fun ps hps => ?_
 unfold xB
 rw [obind]
 rfl
theorem xP_suf {i : Nat} {ts : List Kp110.Tok} {r : List (Bytes × Nat) × Nat × List Kp110.Tok} (h : xP i ts = some r) : Suf 1 i ts r.2 := by
 obtain ⟨o, ho, h⟩ := zI h
 have h1 := zV ho
 cases e : eat ")" o.1 o.2 with
 | some z =>
  rw [e] at h
  cases h
  exact (h1.trans (zV e)).mono (by omega)
 | none =>
  rw [e] at h
  exact (h1.trans (xParams_suf h)).mono (by omega)
theorem scFun : FnScope ["reader", "name", "parameters"] ["reader"] (zJ sFun) := scK
theorem ok_fun {f fP fFI : Addr} {fd fdP fdFI : FuncData} (T : RC K cR fK fT fM fdK fdT fdM) (T2 : RC2 K cR fJ fL fdJ fdL) (G : Gs mg) (G2 : Gs2 mg) (B : Tb K mg cNP aW aS) (p : Pr K mg) (D : Dn K mg "read_function" sFun ["reader"] f fd) (DP : Dn K mg "read_parameters" sPar ["reader"] fP fdP)
  (C : FC K cF) (CF : CI K mg cF fFI fdFI "Function" "Function.__init__" sFInit ["self", "name", "parameters", "orders"]) : FnOk P w K mg base (CXW P w) 199 f fd ["reader"] (spFun cR cF cNP) := by
 have GT : FnOk P w K mg base (CXW P w) 2 fT fdT ["self", "kind"] (spTake1 cR cNP) := ok_take1 T G B
 have GP : FnOk P w K mg base (CXW P w) 3 fP fdP ["reader"] (spPar cR cNP) := ok_par T G G2 B DP
 have GB : FnOk P w K mg base (CXW P w) 198 p.fBlock p.fdBlock ["reader", "deep"] (spRd cR cNP 32 xB CB) := (ok_all T T2 G G2 B p 32).2.2
 have GFI : FnOk P w K mg base (CXW P w) 1 fFI fdFI ["self", "name", "parameters", "orders"] (spFInit cF) := ok_fInit CF.fI C
 have GM : FnOk P w K mg base (CXW P w) 1 fM fdM ["self", "how", "name", "number"] (qJ cR) := qU T
 have MF := CF.mkC
 have DB := p.block
 refine D.fn.okW scFun (fun vs H Q E h => ?_) (fun cdv A outer s H vs Q E hr h => ?_)
 ·obtain ⟨r, tl, m, ts, i, ns, rfl, _⟩ := h
  rfl
 ·obtain ⟨r, tl, m, ts, i, ns, rfl, R, Tk, kE, kk⟩ := h
  have hr2 : Room 2 _ := hr.mono (by omega)
  have hr3 : Room 3 _ := hr.mono (by omega)
  have hr1 : Room 1 _ := hr.mono (by omega)
  refine ⟨_, zB (zL (zR (pv 0) T.cl T.mT GT hr2 T.bT .nil zT (zA zK zE))) (zB (qB (i := 1) scFun.nd rfl (Or.inl rfl) (zR (pv 0) T.cl T.mT GT hr2 T.bT .nil zT (zA zK zE))) (zB (qB (i := 2) scFun.nd rfl (Or.inl rfl) (zO GP hr3 rfl DP.mgf DP.fn.kp DP.bi .nil zT (zA (pv 0) zE))) (zB (qR (pv 0) (yC (zE)) rfl) (zB (zL (zO GB hr rfl DB.mgf DB.fn.kp DB.bi .nil zT (zA (pv 0) (zA zQ zE)))) (zB (zL (zR (pv 0) T.cl T.mM GM hr1 T.bM .nil qC (zA zK (zA zK (zA zQ zE))))) (zB (zL (zR (pv 0) T.cl T.mM GM hr1 T.bM .nil qC (zA zK (zA zK (zA zQ zE))))) (zC (zW (pe_make MF GFI hr2 rfl CF.mgC CF.bI .nil qC (zA (pv 1) (zA (pv 2) (zA (zX (pv 0) rfl) zE)))))))))))), ?_⟩
  have hx := xFn_eq i (ts.drop i)
  refine tk1_read R rfl (by decide +kernel) (fun z H' => kE (by rw [hx, Tk.eat_no (by decide +kernel) z]; rfl) H') (fun t0 ht0 hk0 H1 R1 K1 => ?_)
  have T1 := Tk.next ht0
  rw [Tk.eat_yes (by decide +kernel) (kind_of ht0 hk0)] at hx
  have hx1 : xFn i (ts.drop i) = (nameAt (ts.drop (i + 1))) >>= fun x => (xP (i + 1 + 1) ((ts.drop (i + 1)).drop 1)) >>= fun ps => (xB 1 ps.2.1 ps.2.2) >>= fun b => if 4 < ps.1.length then none else some (⟨i, b.2.1, x, ps.1, b.1⟩, b.2) := hx
  rw [List.drop_drop] at hx1
  refine tk1_read R1 rfl (by decide +kernel) (fun z H' => kE (by rw [hx1, T1.name_no z]; rfl) H') (fun t1 ht1 hk1 H2 R2 K2 => ?_)
  have T2 := T1.next ht1
  obtain ⟨nm, sp⟩ := T1.name_yes ht1 hk1
  rw [nm] at hx1
  rw [sp]
  have hx2 : xFn i (ts.drop i) = (xP (i + 1 + 1) (ts.drop (i + 1 + 1))) >>= fun ps => (xB 1 ps.2.1 ps.2.2) >>= fun b => if 4 < ps.1.length then none else some (⟨i, b.2.1, t1.text, ps.1, b.1⟩, b.2) := hx1
  refine ⟨_, rfl, r, tl, m, ts, i + 1 + 1, ns, rfl, R2, T2, fun hn H' => kE (by rw [hx2, hn]; rfl) H', fun ps j hps => ?_⟩
  rw [hps] at hx2
  have hx3 : xFn i (ts.drop i) = (xB 1 j (ts.drop j)) >>= fun b => if 4 < ps.length then none else some (⟨i, b.2.1, t1.text, ps, b.1⟩, b.2) := hx2
  refine ⟨fun h4 H' => kE (by rw [hx3]; cases xB 1 j (ts.drop j) with | none => rfl | some b => (show (if 4 < ps.length then none else _) = none); rw [if_pos h4]) H', fun h4 H3 a T3 R3 K3 ha hla => ?_⟩
  refine ⟨Nat.zero_le _, fun m' hm' => ?_⟩
  obtain ⟨dx, hi3⟩ := R3.ins
  have nrm : r ≠ m' := zH hi3 hm'
  refine ⟨_, rfl, r, cR, dx, _, rfl, (by rw [zF nrm]; exact hi3), T.cl, T.nMen, (by show 3 < 1000; decide), ?_⟩
  rw [put_men]
  obtain ⟨_, ⟨pt, hlt, htt⟩, _, _, _⟩ := id R3
  have k4 : Keep1 r H3 (upd (upd H3 m' (.lst [])) r (.ins cR dx (rf tl (j : Int) m'))) := fun b o e hb => by
   rw [zF hb, zF (zH e hm')]
   exact e
  have R4 : RdAt cR (upd (upd H3 m' (.lst [])) r (.ins cR dx (rf tl (j : Int) m'))) r tl m' ts j [] := by
   refine ⟨⟨dx, zG⟩, ⟨pt, k4 _ _ hlt (qD hlt hi3 (by intro z; cases z)), htt.mono fun q t z => k4 _ _ z (qD z hi3 (by intro z; cases z))⟩, ⟨[], ?_, .nil⟩, zH hlt hm', fun k hk => by cases hk⟩
   rw [zF nrm.symm, zG]
   rfl
  have T4 : Tks 8 ts j [] := ⟨T3.le, T3.most, T3.ok, T3.num, by have := (suf_drop T2.le (xP_suf hps)).2; dsimp only at this; show 0 + 8 <= 8 * j; omega⟩
  refine ⟨_, rfl, r, tl, m', ts, j, [], 1, 8, rfl, ⟨by decide, by decide⟩, R4, T4, fun hn H' => kE (by rw [hx3, hn]; rfl) H', fun b jb hb H5a n5a hM5 T5a R5a K5a => ?_⟩
  rw [hb] at hx3
  have hx4 : xFn i (ts.drop i) = some (⟨i, jb, t1.text, ps, b⟩, jb, ts.drop jb) := by
   rw [hx3]
   show (if 4 < ps.length then none else _) = _
   rw [if_neg h4]
  rw [List.nil_append] at R5a T5a
  refine yR (.num 0) R5a T5a (yW (by show (0 : Nat) <= _; omega)) rfl (fun P hP => hP) (fun H5b R5b K5b => ?_)
  have T5b := T5a.snoc (.num 0)
  refine yR .ret R5b T5b (yW trivial) rfl (fun P hP => hP) (fun H5 R5 K5c => ?_)
  have T5 := (T5b.snoc .ret).down (d := 0) (by omega)
  have e5 : (n5a ++ [Mn.num 0]) ++ [Mn.ret] = n5a ++ [Mn.num 0, Mn.ret] := by simp
  rw [e5] at R5 T5
  have K5 := (K5a.trans K5b).trans K5c
  obtain ⟨⟨dx5, hi5⟩, ⟨pt5, hlt5, htt5⟩, ⟨qs5, hm5, hmn5⟩, ne5, sm5⟩ := id R5
  refine ⟨_, rfl, _, rfl, _, rfl, r, cR, dx5, _, _, rfl, hi5, T.cl, T.nMen, rf_men .., fun x dxx hx0 hdx0 nxx => ?_⟩
  have s6 : Same H5 (upd (upd H5 dxx (.own x)) x (.ins cF dxx [])) := fun c o e => by
   rw [zF (zH e hx0), zF (zH e hdx0)]
   exact e
  refine ⟨x, dxx, _, _, _, rfl, zG, fun H6 hx6 k6 => ⟨rfl, ?_⟩⟩
  have s7 : Same H5 H6 := fun c o e => k6 c o (s6 c o e) (zH e hx0)
  have nam' : a ≠ m' := zH hla hm'
  have nar : a ≠ r := qD hla hi3 (by intro z; cases z)
  have hla5 : H5 a = some (.lst (pvs ps)) := K5 _ _ (k4 _ _ hla nar) nar nam'
  have K15 : Keep1 r H H5 := fun c o e hc => by
   have e3 := K3 _ _ (K2 _ _ (K1 _ _ e hc) hc) hc
   exact K5 _ _ (k4 _ _ e3 hc) hc (zH e3 hm')
  refine kk _ jb hx4 H6 m' _ x T5 (R5.same s7) (fun c o e hc => s7 _ _ (K15 c o e hc)) ⟨dxx, a, m', qs5, _, hx6, s7 _ _ hla5, s7 _ _ hm5, hmn5.mono fun q n z => s7 _ _ z, ⟨n5a, hM5, rfl⟩, sm5, ?_, (by show ps.length <= 4; omega)⟩
  have := T5.few
  have := T5.le
  have := T5.most
  omega
end
end SM
end
section
set_option Elab.async false
set_option linter.all false
set_option maxRecDepth 100000
set_option maxHeartbeats 2000000
namespace SM
open PySem PySem.Spec PyProof.Rows L2
open Kp110 (Bytes words small digit inName bytesOf isTok opOf eat nameAt)
def spProg (cF cNP : Addr) : Sp := fun vs H Q E => ∃ (tl : Addr) (ps : List Addr) (ts : List Kp110.Tok), vs = [V.ref tl] /\ H tl = some (.lst (ps.map V.ref)) /\ TokL H ps ts /\ Tks 0 ts 0 [] /\ ((xFns 0 ts = none ∨ xFns 0 ts = some []) -> ∀ H', E (.ref cNP) none H') /\
 ∀ l, xFns 0 ts = some l -> l ≠ [] -> ∀ H' a fos, Same H H' -> H' a = some (.lst (fos.map V.ref)) -> FnL cF H' fos l -> Q (.ref a) H'
theorem xFns_bind {i : Nat} {ts : List Kp110.Tok} (h : ts ≠ []) : xFns i ts = (xFn i ts) >>= fun x => (xFns x.2.1 x.2.2) >>= fun l => some (x.1 :: l) := by
 cases ts with
 | nil => exact absurd rfl h
 | cons t q => rw [xFns_cons]; rfl
theorem list_ne {cF : Addr} {H : Hp} {a m : Addr} {fos qs : List Addr} {l : List Kp110.Fn} {ns : List Mn} (ha : H a = some (.lst (fos.map V.ref))) (F : FnL cF H fos l) (hne : l ≠ []) (hm : H m = some (.lst (qs.map V.ref))) (M : MnL H qs ns) : a ≠ m := by
 rintro rfl
 rw [ha] at hm
 have e : fos.map V.ref = qs.map V.ref := by
  have := Option.some.inj hm
  exact HO.lst.inj this
 cases F with
 | nil => exact hne rfl
 | cons f t =>
  cases M with
  | nil => simp at e
  | cons g u =>
   simp only [List.map_cons, List.cons.injEq, V.ref.injEq] at e
   obtain ⟨dx, p, mm, qs', ns', h1, _⟩ := f.ex
   have g := (show H _ = some (.tup _) from g)
   rw [e.1, g] at h1
   cases h1
theorem FnL.mono {cF : Addr} {H H' : Hp} {fos : List Addr} {l : List Kp110.Fn} (x : FnL cF H fos l) (k : ∀ fo y, FnAt cF H fo y -> FnAt cF H' fo y) : FnL cF H' fos l := Paired.mapP x k
theorem FnL.len {cF : Addr} {H : Hp} {fos : List Addr} {l : List Kp110.Fn} (x : FnL cF H fos l) : fos.length = l.length := Paired.length x
section
variable {P : Program} {w : World} {K : PySem.W.Frag} {mg : Str -> Option Value} {base : Heap} {cR cF cNP fK fT fM aW aS : Addr} {fdK fdT fdM : FuncData}
theorem scProg : FnScope ["tokens", "reader", "functions"] ["tokens"] (zJ sProg) := scK
theorem ok_prog {f fF fRI : Addr} {fd fdF fdRI : FuncData} (T : RC K cR fK fT fM fdK fdT fdM) (G : Gs mg) (D : Dn K mg "read_program" sProg ["tokens"] f fd) (DF : Dn K mg "read_function" sFun ["reader"] fF fdF)
  (CR : CI K mg cR fRI fdRI "Reader" "Reader.__init__" sRInit ["self", "tokens"]) (GF : FnOk P w K mg base (CXW P w) 199 fF fdF ["reader"] (spFun cR cF cNP)) : FnOk P w K mg base (CXW P w) 200 f fd ["tokens"] (spProg cF cNP) := by
 have GK : FnOk P w K mg base (CXW P w) 1 fK fdK ["self"] (spKind cR) := yX T G
 have GRI : FnOk P w K mg base (CXW P w) 1 fRI fdRI ["self", "tokens"] (spRInit cR) := ok_rInit CR.fI T
 have MR := CR.mkC
 refine D.fn.okW scProg (fun vs H Q E h => ?_) (fun cdv A outer s H vs Q E hr h => ?_)
 ·obtain ⟨tl, ps, ts, rfl, _⟩ := h
  rfl
 ·obtain ⟨tl, ps, ts, rfl, hl, ht, T0, kE, kk⟩ := h
  have hr1 : Room 1 _ := hr.mono (by omega)
  have hr2 : Room 2 _ := hr.mono (by omega)
  refine ⟨_, zB (qB (i := 1) scProg.nd rfl (Or.inl rfl) (pe_make MR GRI hr2 rfl CR.mgC CR.bI .nil qC (zA (pv 0) zE))) (zB (qB (i := 2) scProg.nd rfl (Or.inl rfl) (yC (zA (zO GF hr rfl DF.mgf DF.fn.kp DF.bi .nil zT (zA (pv 1) zE)) zE))) (zB (ps_while ownW (zM op_ne (qO (pv 1) T.cl T.mK GK hr1 T.bK .nil qC) zK (nomark _)) (zC (zL (pe_bm PySem.F.plainAttrs_list PySem.F.slot_list_append PySem.F.type_list_append yO (pv 2) (zA (zO GF hr rfl DF.mgf DF.fn.kp DF.bi .nil zT (zA (pv 1) zE)) zE))))) (zC (zW (pv 2))))), ?_⟩
  refine ⟨_, rfl, fun r dx hr0 hdx0 nxx => ?_⟩
  have s0 : Same H (upd (upd H dx (.own r)) r (.ins cR dx [])) := fun c o e => by
   rw [zF (zH e hr0), zF (zH e hdx0)]
   exact e
  refine ⟨r, dx, tl, rfl, zG, fun H1 m hm nmr hi1 hm1 k1 => ⟨rfl, ?_⟩⟩
  have s1 : Same H H1 := fun c o e => k1 c o (s0 c o e) (zH e hr0)
  have hl1 := s1 _ _ hl
  have ntm : tl ≠ m := zH (s0 _ _ hl) hm
  have R1 : RdAt cR H1 r tl m ts 0 [] := ⟨⟨dx, hi1⟩, ⟨ps, hl1, ht.mono fun p t z => s1 _ _ z⟩, ⟨[], hm1, .nil⟩, ntm, fun k hk => by cases hk⟩
  have hd0 : ts.drop 0 = ts := rfl
  refine ⟨_, rfl, r, tl, m, ts, 0, [], rfl, R1, T0, fun hn H' => kE ?_ H', fun y j hy H2 m2 n2 fo T2 R2 K2 F2 => ?_⟩
  ·rw [hd0] at hn
   by_cases hts : ts = []
   ·exact .inr (by rw [hts]; rfl)
   ·exact .inl (by rw [xFns_bind hts, hn]; rfl)
  rw [hd0] at hy
  have hx1 : xFns 0 ts = (xFns j (ts.drop j)) >>= fun l => some ([y] ++ l) := by
   by_cases hts : ts = []
   ·have := xFn_suf hy
    obtain ⟨k, h1, h2, _⟩ := this
    rw [hts] at h2
    simp at h2
    omega
   ·rw [xFns_bind hts, hy]
    rfl
  have qj : 0 + 1 <= j /\ j <= ts.length := (suf_drop (i := 0) (Nat.zero_le _) (by rw [hd0]; exact xFn_suf hy)).2
  refine ⟨(by show 1 <= sizeLine; decide), fun a ha => ?_⟩
  have s2 : Same H2 (upd H2 a (.lst [.ref fo])) := upd_sm ha
  have hnr : H r = none := hr0
  have sH2 : Same H H2 := fun c o e => K2 _ _ (s1 _ _ e) (zH e hr0)
  have ha0 : H a = none := sH2.free ha
  refine ⟨fun mm σ H' => ∃ (j : Nat) (m : Addr) (ns : List Mn) (fos : List Addr) (l : List Kp110.Fn), σ = [some (V.ref tl), some (V.ref r), some (V.ref a)] /\ mm = ts.length - j /\ Tks 0 ts j ns /\ RdAt cR H' r tl m ts j ns /\ Same H H' /\ H' a = some (.lst (fos.map V.ref)) /\ FnL cF H' fos l /\ l ≠ [] /\ l.length <= j /\
    xFns 0 ts = (xFns j (ts.drop j)) >>= fun l' => some (l ++ l'),
   ⟨ts.length - j, j, m2, n2, [fo], [y], rfl, rfl, T2, R2.same s2, sH2.trans s2, zG, .cons (F2.mono fun b o e _ => s2 _ _ e) .nil, by simp, by show 1 <= j; omega, hx1⟩, ?_⟩
  clear hx1 hy F2 R2 T2 K2 s2 sH2 qj ha
  rintro mm σ H' ⟨j, m, ns, fos, l, rfl, rfl, T3, R3, s3, ha3, F3, hne, hlen, hx⟩
  obtain ⟨dx3, hi3⟩ := R3.ins
  refine ⟨_, rfl, r, dx3, _, rfl, hi3, rf_no _ _ _ (by decide +kernel) (by decide +kernel) (by decide +kernel), r, tl, m, ts, j, ns, rfl, R3, rfl, _, rfl, ?_⟩
  refine qG (fun h1 => ?_) (fun h1 => ?_)
  ·have h1 := str_ne_no h1
   obtain ⟨t, ht3⟩ : ∃ t, ts[j]? = some t := by
    cases e : ts[j]? with
    | none => exact absurd (by unfold zS; rw [e]) h1
    | some t => exact ⟨t, rfl⟩
   rw [drop_at ht3, xFns_cons, <- drop_at ht3] at hx
   have hx2 : xFns 0 ts = ((xFn j (ts.drop j)) >>= fun x => (xFns x.2.1 x.2.2) >>= fun l => some (x.1 :: l)) >>= fun l' => some (l ++ l') := hx
   refine ⟨fun σ' H'' => ∃ mm', mm' < ts.length - j /\ ∃ (j : Nat) (m : Addr) (ns : List Mn) (fos : List Addr) (l : List Kp110.Fn), σ' = [some (V.ref tl), some (V.ref r), some (V.ref a)] /\ mm' = ts.length - j /\ Tks 0 ts j ns /\ RdAt cR H'' r tl m ts j ns /\ Same H H'' /\ H'' a = some (.lst (fos.map V.ref)) /\ FnL cF H'' fos l /\ l ≠ [] /\ l.length <= j /\
    xFns 0 ts = (xFns j (ts.drop j)) >>= fun l' => some (l ++ l'), fun _ _ z => z, ?_⟩
   have nar : a ≠ r := qD ha3 hi3 (by intro z; cases z)
   refine ⟨_, rfl, .inl ⟨rfl, _, qZ.of ha3⟩, _, rfl, r, tl, m, ts, j, ns, rfl, R3, T3, fun hn H'' => kE (.inl (by rw [hx2, hn]; rfl)) H'', fun y j2 hy H4 m4 n4 fo T4 R4 K4 F4 => ?_⟩
   have q : j + 1 <= j2 /\ j2 <= ts.length := (suf_drop T3.le (xFn_suf hy)).2
   rw [hy] at hx2
   have ha4 := K4 _ _ ha3 nar
   have hmost := T3.most
   have hlj := T3.le
   have F34 := FnL.mono F3 fun fo y z => z.keep1 hi3 K4
   refine ⟨a, _, _, rfl, rfl, ha4, ?_, ?_⟩
   ·rw [List.length_map, F3.len]
    exact Nat.lt_of_le_of_lt (show l.length <= 2048 by omega) (by decide)
   ·obtain ⟨⟨dx4, hi4⟩, ⟨pt4, hlt4, htt4⟩, ⟨qs4, hm4, hmn4⟩, ne4, _⟩ := id R4
    have nam4 : a ≠ m4 := list_ne ha4 F34 hne hm4 hmn4
    have nat : a ≠ tl := (zH hl ha0).symm
    have keepF : ∀ {fo y}, FnAt cF H4 fo y -> FnAt cF (upd H4 a (.lst (fos.map V.ref ++ [V.ref fo]))) fo y -> True := fun _ _ => trivial
    have kF : ∀ fo' y', FnAt cF H4 fo' y' -> FnAt cF (upd H4 a (.lst (fos.map V.ref ++ [V.ref fo]))) fo' y' := fun fo' y' z => by
     obtain ⟨dx', p', m', qs', ns', g1, g2, g3, g4, g5, g6⟩ := z.ex
     have np : a ≠ p' := fun e => by
      subst e
      rw [ha4] at g2
      have e2 : fos.map V.ref = pvs y'.params := HO.lst.inj (Option.some.inj g2)
      cases F34 with
      | nil => exact hne rfl
      | cons _ _ =>
       unfold pvs at e2
       cases hp : y'.params with
       | nil => rw [hp] at e2; cases e2
       | cons _ _ => rw [hp] at e2; cases e2
     have nm : a ≠ m' := list_ne ha4 F34 hne g3 g4
     refine ⟨dx', p', m', qs', ns', ?_, ?_, ?_, g4.mono fun q n z => ?_, g5, g6⟩
     ·rw [zF (qD g1 ha4 (by intro z; cases z))]; exact g1
     ·rw [zF np.symm]; exact g2
     ·rw [zF nm.symm]; exact g3
     ·show upd _ a _ q = _
      rw [zF (qD z ha4 (by intro z; cases z))]
      exact z
    refine ⟨ts.length - j2, by omega, j2, m4, n4, fos ++ [fo], l ++ [y], rfl, rfl, T4, ?_, ?_, ?_, ?_, by simp, ?_, ?_⟩
    ·refine R4.keep (r2 := r) (m2 := m) (fun b o e hb => ?_)
     rw [zF]
     ·exact e
     ·rintro rfl
      rcases hb with z | z | z | ⟨xs', z⟩
      ·exact nar z
      ·exact nat z
      ·exact nam4 z
      ·rw [ha4] at e; rw [z] at e; cases e
    ·exact fun c o e => by
      rw [zF (zH e ha0)]
      exact K4 _ _ (s3 _ _ e) (zH e hr0)
    ·rw [zG, List.map_append]
     rfl
    ·exact paired_snoc (F := fun fo y => FnAt cF _ fo y) (kF _ _ F4) (Paired.mapP F34 kF)
    ·rw [List.length_append]
     show l.length + 1 <= j2
     omega
    ·rw [hx2]
     show (((xFns j2 (ts.drop j2)) >>= fun l => some (y :: l)) >>= fun l' => some (l ++ l')) = _
     cases xFns j2 (ts.drop j2) with
     | none => rfl
     | some l' =>
      show some (l ++ (y :: l')) = some ((l ++ [y]) ++ l')
      rw [List.append_assoc]
      rfl
  ·have h1 := str_ne_yes h1
   have e : ts[j]? = none := by
    cases e : ts[j]? with
    | none => rfl
    | some t =>
     unfold zS at h1
     rw [e] at h1
     exact absurd h1 (kind_nothing (T3.at e))
   rw [drop_no e, xFns_nil] at hx
   refine ⟨_, rfl, kk l ?_ hne H' a fos s3 ha3 F3⟩
   rw [hx]
   show some (l ++ []) = _
   rw [List.append_nil]
end
end SM
end
section
set_option Elab.async false
set_option linter.all false
set_option maxRecDepth 100000
set_option maxHeartbeats 2000000
namespace SM
open PySem PySem.Spec PyProof.Rows L2
open Kp110 (Bytes)
abbrev sSInit : Stmt := yS (top 31) 0
abbrev sSBegin : Stmt := yS (top 31) 1
abbrev sSEnd : Stmt := yS (top 31) 2
abbrev sSTell : Stmt := yS (top 31) 3
abbrev sSUse : Stmt := yS (top 31) 4
abbrev sCCall : Stmt := top 35
structure NR (K : PySem.W.Frag) (mg : Str -> Option Value) (cNR : Addr) : Prop where
 nr : mg "NotRight" = some (.ref cNR)
 nrD : excD K cNR = true
def sf (a b : Addr) : List (Str × V) := [("names", .ref a), ("starts", .ref b)]
theorem ne_st_nm : (("starts" : Str) == "names") = false := by decide +kernel
theorem sf_names (a b : Addr) : (sf a b).lookup ("names" : Str) = some (V.ref a) := by
 unfold sf
 rw [List.lookup_cons, beq_self_eq_true]
theorem sf_starts (a b : Addr) : (sf a b).lookup ("starts" : Str) = some (V.ref b) := by
 unfold sf
 rw [List.lookup_cons, ne_st_nm]
 show List.lookup _ _ = _
 rw [List.lookup_cons, beq_self_eq_true]
theorem sf_no (a b : Addr) {x : Str} (h1 : (x == ("names" : Str)) = false) (h2 : (x == ("starts" : Str)) = false) : (sf a b).lookup x = none := by
 unfold sf
 rw [List.lookup_cons, h1]
 show List.lookup _ _ = _
 rw [List.lookup_cons, h2]
 rfl
theorem sf_made (a b : Addr) : qK "starts" (.ref b) (qK "names" (.ref a) []) = sf a b := by
 have h1 : qK "names" (V.ref a) [] = [(("names" : Str), V.ref a)] := rfl
 rw [h1, qK, if_neg (by decide +kernel)]
 rfl
theorem put_names (a b c : Addr) : qK "names" (.ref c) (sf a b) = sf c b := by
 unfold sf
 rw [qK, if_pos rfl]
def nvs (v : List Bytes) : List V := v.map fun x => V.str (qA x)
def ivs (st : List Nat) : List V := st.reverse.map fun (n : Nat) => V.int (n : Int)
structure ScAt (cS : Addr) (H : Hp) (s an ast : Addr) (v : List Bytes) (st : List Nat) : Prop where
 ins : ∃ dx, H s = some (.ins cS dx (sf an ast))
 names : H an = some (.lst (nvs v))
 starts : H ast = some (.lst (ivs st))
 ne : an ≠ ast
structure SC (K : PySem.W.Frag) (cS fB fE fT fU : Addr) (fdB fdE fdT fdU : FuncData) : Prop where
 cl : Cls K cS
 nN : qS K cS "names"
 nS : qS K cS "starts"
 mB : Meth K cS "begin_block" fB
 mE : Meth K cS "end_block" fE
 mT : Meth K cS "tell" fT
 mU : Meth K cS "use" fU
 fB : Fun K "begin_block" "Scope.begin_block" sSBegin fB fdB
 fE : Fun K "end_block" "Scope.end_block" sSEnd fE fdE
 fT : Fun K "tell" "Scope.tell" sSTell fT fdT
 fU : Fun K "use" "Scope.use" sSUse fU fdU
 bB : Binds K fdB ["self"] []
 bE : Binds K fdE ["self"] []
 bT : Binds K fdT ["self", "name"] []
 bU : Binds K fdU ["self", "name"] []
def KeepS (s an ast : Addr) (H H' : Hp) : Prop := ∀ b o, H b = some o -> b ≠ s -> b ≠ an -> b ≠ ast -> H' b = some o
def spSInit (cS : Addr) : Sp := fun vs H Q _ => ∃ (x dx : Addr), vs = [.ref x] /\ H x = some (.ins cS dx []) /\ ∀ H' an ast, H an = none -> H ast = none -> an ≠ x -> ast ≠ x -> ScAt cS H' x an ast [] [] -> (∀ b o, H b = some o -> b ≠ x -> H' b = some o) -> Q .non H'
def spBegin (cS : Addr) : Sp := fun vs H Q _ => ∃ s an ast v st, vs = [V.ref s] /\ ScAt cS H s an ast v st /\ st.length < 100000 /\ ∀ H', ScAt cS H' s an ast v (v.length :: st) -> KeepS s an ast H H' -> Q .non H'
def spEndB (cS : Addr) : Sp := fun vs H Q _ => ∃ s an ast v n st, vs = [V.ref s] /\ ScAt cS H s an ast v (n :: st) /\ ∀ H' an', H an' = none -> ScAt cS H' s an' ast (v.take n) st -> KeepS s an ast H H' -> Q .non H'
def spTell (cS cNR : Addr) : Sp := fun vs H Q E => ∃ s an ast v st x, vs = [V.ref s, V.str (qA x)] /\ ScAt cS H s an ast v st /\ v.length <= 32 /\ ((!v.contains x && decide (v.length < 32)) = false -> ∀ H', E (.ref cNR) none H') /\
 ((!v.contains x && decide (v.length < 32)) = true -> ∀ H', ScAt cS H' s an ast (v ++ [x]) st -> KeepS s an ast H H' -> Q .non H')
def spUse (cS cNR : Addr) : Sp := fun vs H Q E => ∃ s an ast v st x, vs = [V.ref s, V.str (qA x)] /\ ScAt cS H s an ast v st /\ (v.contains x = false -> ∀ H', E (.ref cNR) none H') /\ (v.contains x = true -> Q .non H)
def Cnt (l : List Kp110.Fn) (kvs : List (Key × V)) : Prop := ∀ f : Bytes, valV kvs (Sum.inr (qA f)) = (Kp110.fnOf l f).map fun y => V.int ((y.params.length : Nat) : Int)
def spCCall (cNR : Addr) (l : List Kp110.Fn) : Sp := fun vs H Q E => ∃ (x : Bytes) (n : Nat) (d : Addr) (kvs : List (Key × V)), vs = [V.str (qA x), V.int (n : Int), V.ref d] /\ H d = some (.dK kvs) /\ Cnt l kvs /\ (fnOk l x n = false -> ∀ H', E (.ref cNR) none H') /\ (fnOk l x n = true -> Q .non H)
theorem in_names (b : Bytes) (v : List Bytes) : inV (.str (qA b)) (nvs v) = v.contains b := in_texts b v
theorem flat_names (v : List Bytes) : (nvs v).all flatV = true := by
 unfold nvs
 rw [List.all_map, List.all_eq_true]
 intro x _
 rfl
section
variable {P : Program} {w : World} {K : PySem.W.Frag} {mg : Str -> Option Value} {base : Heap} {cS cNR fB fE fT fU : Addr} {fdB fdE fdT fdU : FuncData}
theorem scSInit : FnScope ["self"] ["self"] (zJ sSInit) := scK
theorem ok_sInit {f : Addr} {fd : FuncData} (F : Fun K "__init__" "Scope.__init__" sSInit f fd) (C : SC K cS fB fE fT fU fdB fdE fdT fdU) : FnOk P w K mg base (CXW P w) 1 f fd ["self"] (spSInit cS) := by
 refine F.okW scSInit (fun vs H Q E h => ?_) (fun cdv A outer s H vs Q E hr h => ?_)
 ·obtain ⟨x, dx, rfl, _⟩ := h
  rfl
 ·obtain ⟨x, dx, rfl, hx, kk⟩ := h
  refine ⟨_, zB (qR (pv 0) (yC zE) rfl) (zC (qR (pv 0) (yC zE) rfl)), ?_⟩
  refine ⟨Nat.zero_le _, fun an han => ?_⟩
  have n1 : an ≠ x := (zH hx han).symm
  refine ⟨_, rfl, x, cS, dx, _, rfl, (by rw [zF n1.symm]; exact hx), C.cl, C.nN, (by show 0 < 1000; decide), ?_⟩
  refine ⟨Nat.zero_le _, fun ast hast => ?_⟩
  have n2 : ast ≠ x := fun z => by
   subst z
   rw [zG] at hast
   cases hast
  have n3 : ast ≠ an := fun z => by
   subst z
   rw [zF n1, zG] at hast
   cases hast
  have hast0 : H ast = none := by
   rw [zF n2, zF n3] at hast
   exact hast
  refine ⟨_, rfl, x, cS, dx, _, rfl, (by rw [zF n2.symm]; exact zG), C.cl, C.nS, (by show 1 < 1000; decide), ?_⟩
  rw [sf_made]
  refine kk _ an ast han hast0 n1 n2 ⟨⟨dx, zG⟩, ?_, ?_, n3.symm⟩ fun b o e hb => ?_
  ·rw [zF n1, zF n3.symm, zF n1, zG]
   rfl
  ·rw [zF n2, zG]
   rfl
  ·rw [zF hb, zF (zH e hast0), zF hb, zF (zH e han)]
   exact e
theorem scSBegin : FnScope ["self"] ["self"] (zJ sSBegin) := scK
theorem ok_begin (C : SC K cS fB fE fT fU fdB fdE fdT fdU) (G : Gs mg) : FnOk P w K mg base (CXW P w) 1 fB fdB ["self"] (spBegin cS) := by
 refine C.fB.okW scSBegin (fun vs H Q E h => ?_) (fun cdv A outer s H vs Q E hr h => ?_)
 ·obtain ⟨s, an, ast, v, st, rfl, _⟩ := h
  rfl
 ·obtain ⟨sc, an, ast, v, st, rfl, S, hlen, kk⟩ := h
  obtain ⟨⟨dx, hi⟩, hn, hs, ne⟩ := id S
  refine ⟨_, zC (zL (pe_bm PySem.F.plainAttrs_list PySem.F.slot_list_append PySem.F.type_list_append yO (zX (pv 0) rfl) (zA (yD G.len (zX (pv 0) rfl)) zE))), ?_⟩
  refine ⟨_, rfl, sc, cS, dx, _, _, rfl, hi, C.cl, C.nS, sf_starts .., .inl ⟨rfl, _, qZ.of hs⟩, _, rfl, sc, cS, dx, _, _, rfl, hi, C.cl, C.nN, sf_names .., an, _, rfl, .inl (qZ.of hn), ast, _, _, rfl, rfl, hs, ?_, ?_⟩
  ·unfold ivs
   rw [List.length_map, List.length_reverse]
   exact Nat.lt_of_lt_of_le hlen (by decide)
  ·have k1 : ∀ b o, H b = some o -> b ≠ ast -> upd H ast (.lst (ivs st ++ [.int ((nvs v).length : Int)])) b = some o := fun b o e hb => by rw [zF hb]; exact e
   refine kk _ ⟨⟨dx, k1 _ _ hi (qD hi hs (by intro z; cases z))⟩, k1 _ _ hn ne, ?_, ne⟩ fun b o e _ _ h3 => k1 b o e h3
   rw [zG]
   unfold ivs nvs
   rw [List.length_map, List.reverse_cons, List.map_append]
   rfl
theorem scSEnd : FnScope ["self"] ["self"] (zJ sSEnd) := scK
theorem cut_to {xs : List V} {n : Nat} : cutV xs none (some (n : Int)) = xs.take n := by
 unfold cutV
 rw [HT.sIx_none, HT.sIx_nat, List.drop_zero, Nat.sub_zero]
 by_cases h : n <= xs.length
 ·rw [Nat.min_eq_left h]
 ·rw [Nat.min_eq_right (by omega), List.take_length, List.take_of_length_le (by omega)]
theorem ok_end (C : SC K cS fB fE fT fU fdB fdE fdT fdU) : FnOk P w K mg base (CXW P w) 1 fE fdE ["self"] (spEndB cS) := by
 refine C.fE.okW scSEnd (fun vs H Q E h => ?_) (fun cdv A outer s H vs Q E hr h => ?_)
 ·obtain ⟨s, an, ast, v, n, st, rfl, _⟩ := h
  rfl
 ·obtain ⟨sc, an, ast, v, n, st, rfl, S, kk⟩ := h
  obtain ⟨⟨dx, hi⟩, hn, hs, ne⟩ := id S
  refine ⟨_, zC (qR (pv 0) (pe_slice sl_list (zX (pv 0) rfl) po_none (po_some (pe_bm0 PySem.F.plainAttrs_list PySem.F.slot_list_pop PySem.F.type_list_pop mt_pop (zX (pv 0) rfl)))) rfl), ?_⟩
  have e1 : ivs (n :: st) = ivs st ++ [.int (n : Int)] := by
   unfold ivs
   rw [List.reverse_cons, List.map_append]
   rfl
  refine ⟨_, rfl, sc, cS, dx, _, _, rfl, hi, C.cl, C.nN, sf_names .., _, rfl, sc, cS, dx, _, _, rfl, hi, C.cl, C.nS, sf_starts .., .inl ⟨rfl, _, qZ.of hs⟩, ast, _, .int (n : Int), rfl, rfl, hs, ?_, _, rfl, an, nvs v, rfl, qZ.of ?_, fun p hp => ?_⟩
  ·rw [e1, List.length_append]
   show (ivs st ++ [V.int (n : Int)])[(ivs st).length + 1 - 1]? = _
   rw [Nat.add_sub_cancel, List.getElem?_append_right (Nat.le_refl _), Nat.sub_self]
   rfl
  ·rw [zF ne]
   exact hn
  ·have npa : p ≠ ast := fun z => by
    subst z
    rw [zG] at hp
    cases hp
   have hp0 : H p = none := by
    rw [zF npa] at hp
    exact hp
   have nsa : sc ≠ ast := qD hi hs (by intro z; cases z)
   have nsp : sc ≠ p := zH hi hp0
   refine ⟨_, rfl, sc, cS, dx, _, rfl, (by rw [zF nsp, zF nsa]; exact hi), C.cl, C.nN, (by show 2 < 1000; decide), ?_⟩
   rw [put_names, cut_to]
   refine kk _ p hp0 ⟨⟨dx, zG⟩, ?_, ?_, npa⟩ fun b o e h1 h2 h3 => ?_
   ·rw [zF nsp.symm, zG]
    unfold nvs
    rw [List.map_take]
   ·rw [zF nsa.symm, zF npa.symm, zG, e1, List.dropLast_concat]
   ·rw [zF h1, zF (zH e hp0), zF h3]
    exact e
theorem scSTell : FnScope ["self", "name"] ["self", "name"] (zJ sSTell) := scK
theorem ok_tell (C : SC K cS fB fE fT fU fdB fdE fdT fdU) (G : Gs mg) (G2 : Gs2 mg) (N : NR K mg cNR) : FnOk P w K mg base (CXW P w) 1 fT fdT ["self", "name"] (spTell cS cNR) := by
 refine C.fT.okW scSTell (fun vs H Q E h => ?_) (fun cdv A outer s H vs Q E hr h => ?_)
 ·obtain ⟨s, an, ast, v, st, x, rfl, _⟩ := h
  rfl
 ·obtain ⟨sc, an, ast, v, st, x, rfl, S, hlen, kE, kk⟩ := h
  obtain ⟨⟨dx, hi⟩, hn, hs, ne⟩ := id S
  refine ⟨_, zB (zZ (PW.pt (pw_or (zM op_in_seq (pv 1) (zX (pv 0) rfl) rfl) (pw_or1 (zM qE (yD G.len (zX (pv 0) rfl)) (qL G2.mostVars) (nomark _))))) (zC (qF makeW rfl rfl N.nr N.nrD)) zY) (zC (zL (pe_bm PySem.F.plainAttrs_list PySem.F.slot_list_append PySem.F.type_list_append yO (zX (pv 0) rfl) (zA (pv 1) zE)))), ?_⟩
  refine ⟨_, rfl, _, rfl, sc, cS, dx, _, _, rfl, hi, C.cl, C.nN, sf_names .., an, _, rfl, .inl (qZ.of hn), rfl, flat_names v, _, rfl, ?_⟩
  rw [if_neg Bool.false_ne_true, in_names]
  refine qG (fun h1 => ?_) (fun h1 => ?_)
  ·dsimp only
   rw [if_pos rfl]
   exact kE (by rw [h1]; rfl) H
  ·have h1 : v.contains x = false := Bool.eq_false_iff.mpr h1
   refine ⟨_, rfl, sc, cS, dx, _, _, rfl, hi, C.cl, C.nN, sf_names .., an, _, rfl, .inl (qZ.of hn), rfl, _, rfl, ?_⟩
   refine qG (fun h2 => ?_) (fun h2 => ?_)
   ·have h2 : v.length = 32 := by
     have := V.int.inj (of_decide_eq_true h2)
     unfold nvs at this
     rw [List.length_map] at this
     omega
    exact kE (by rw [h1, decide_eq_false (by omega)]; rfl) H
   ·have h2 : ¬ v.length = 32 := fun z => h2 (decide_eq_true (by unfold nvs; rw [List.length_map, z]; rfl))
    refine ⟨_, rfl, sc, cS, dx, _, _, rfl, hi, C.cl, C.nN, sf_names .., .inl ⟨rfl, _, qZ.of hn⟩, _, rfl, an, _, _, rfl, rfl, hn, ?_, ?_⟩
    ·unfold nvs
     rw [List.length_map]
     exact small1000 (by omega)
    ·have k1 : ∀ b o, H b = some o -> b ≠ an -> upd H an (.lst (nvs v ++ [.str (qA x)])) b = some o := fun b o e hb => by rw [zF hb]; exact e
     refine kk (by rw [h1, decide_eq_true (by omega)]; rfl) _ ⟨⟨dx, k1 _ _ hi (qD hi hn (by intro z; cases z))⟩, ?_, k1 _ _ hs ne.symm, ne⟩ fun b o e _ h2 _ => k1 b o e h2
     rw [zG]
     unfold nvs
     rw [List.map_append]
     rfl
theorem scSUse : FnScope ["self", "name"] ["self", "name"] (zJ sSUse) := scK
theorem ok_use (C : SC K cS fB fE fT fU fdB fdE fdT fdU) (N : NR K mg cNR) : FnOk P w K mg base (CXW P w) 1 fU fdU ["self", "name"] (spUse cS cNR) := by
 refine C.fU.okW scSUse (fun vs H Q E h => ?_) (fun cdv A outer s H vs Q E hr h => ?_)
 ·obtain ⟨s, an, ast, v, st, x, rfl, _⟩ := h
  rfl
 ·obtain ⟨sc, an, ast, v, st, x, rfl, S, kE, kk⟩ := h
  obtain ⟨⟨dx, hi⟩, hn, hs, ne⟩ := id S
  refine ⟨_, zC (zZ (zM op_notIn_seq (pv 1) (zX (pv 0) rfl) rfl) (zC (qF makeW rfl rfl N.nr N.nrD)) zY), ?_⟩
  refine ⟨_, rfl, _, rfl, sc, cS, dx, _, _, rfl, hi, C.cl, C.nN, sf_names .., an, _, rfl, .inl (qZ.of hn), rfl, flat_names v, _, rfl, ?_⟩
  rw [if_pos rfl, in_names]
  cases hc : v.contains x with
  | false => exact yJ (kE hc H)
  | true => exact zN (kk hc)
theorem scCCall : FnScope ["name", "count", "counts"] ["name", "count", "counts"] (zJ sCCall) := scK
theorem ok_ccall {f : Addr} {fd : FuncData} (D : Dn K mg "check_call" sCCall ["name", "count", "counts"] f fd) (N : NR K mg cNR) (l : List Kp110.Fn) : FnOk P w K mg base (CXW P w) 1 f fd ["name", "count", "counts"] (spCCall cNR l) := by
 refine D.fn.okW scCCall (fun vs H Q E h => ?_) (fun cdv A outer s H vs Q E hr h => ?_)
 ·obtain ⟨x, n, d, kvs, rfl, _⟩ := h
  rfl
 ·obtain ⟨x, n, d, kvs, rfl, hd, hC, kE, kk⟩ := h
  have hu := hu_of hr
  refine ⟨_, zC (zZ (PW.pt (pw_or (pt_cmp (pc_dnotin hu (pv 0) (pv 2))) (pw_or1 (zM op_ne (pe_dget hu (pv 2) (pv 0) (fun _ _ => rfl)) (pv 1) (nomark _))))) (zC (qF makeW rfl rfl N.nr N.nrD)) zY), ?_⟩
  refine ⟨_, rfl, _, rfl, d, _, rfl, DGet.k (k := Sum.inr (qA x)) hd, _, rfl, ?_⟩
  rw [hC x]
  unfold fnOk at kE kk
  cases hf : Kp110.fnOf l x with
  | none =>
   rw [hf] at kE
   refine yJ ?_
   dsimp only
   rw [if_pos rfl]
   exact kE rfl H
  | some y =>
   rw [hf] at kE kk
   refine zN ?_
   refine ⟨_, rfl, _, rfl, d, V.int ((y.params.length : Nat) : Int), rfl, (by have := DGet.k (k := Sum.inr (qA x)) hd; rw [hC x, hf] at this; exact this), _, rfl, rfl, _, rfl, ?_⟩
   refine qG (fun h1 => ?_) (fun h1 => ?_)
   ·refine kE (beq_eq_false_iff_ne.mpr fun z => ?_) H
    rw [z] at h1
    simp at h1
   ·refine kk (beq_iff_eq.mpr ?_)
    have h2 : V.int ((y.params.length : Nat) : Int) = V.int (n : Int) := Decidable.byContradiction fun z => h1 (by rw [decide_eq_false z]; rfl)
    have := V.int.inj h2
    omega
end
end SM
end
section
set_option Elab.async false
set_option linter.all false
set_option maxRecDepth 100000
set_option maxHeartbeats 2000000
namespace SM
open PySem PySem.Spec PyProof.Rows L2
open Kp110 (Bytes fnOf okSs okProg distinct)
abbrev sCR : Stmt := top 32
abbrev sPC : Stmt := top 33
abbrev sCF : Stmt := top 34
theorem distinct_cons (a : Bytes) (l : List Bytes) : distinct (a :: l) = (!l.contains a && distinct l) := by
 unfold Kp110.distinct
 rw [List.length_cons, List.range_succ_eq_map, List.all_cons, List.all_map]
 rfl
theorem distinct_iff : ∀ l : List Bytes, distinct l = true ↔ l.Nodup
 | [] => by simp [Kp110.distinct]
 | a :: l => by
  rw [distinct_cons, Bool.and_eq_true, distinct_iff l, List.nodup_cons]
  simp
theorem distinct_no {l : List Bytes} {i : Nat} {x : Bytes} (h : l[i]? = some x) (hx : x ∈ l.take i) : distinct l = false := by
 rw [Bool.eq_false_iff]
 intro z
 have nd := (distinct_iff l).mp z
 obtain ⟨hi, e⟩ := List.getElem?_eq_some_iff.mp h
 have e1 : l = l.take i ++ x :: l.drop (i + 1) := by
  rw [<- e, <- List.drop_eq_getElem_cons hi, List.take_append_drop]
 rw [e1] at nd
 exact (List.nodup_append.mp nd).2.2 x hx x List.mem_cons_self rfl
def kvOf (y : Kp110.Fn) : Key × V := (Sum.inr (qA y.name), V.int ((y.params.length : Nat) : Int))
theorem strOf_inj {a b : Bytes} (h : qA a = qA b) : a = b := by
 have := congrArg (fun x : Str => x.cps.toList) h
 exact this
theorem cnt_map : ∀ l : List Kp110.Fn, Cnt l (l.map kvOf)
 | [], f => rfl
 | y :: l, f => by
  have ih := cnt_map l f
  unfold Kp110.fnOf at ih ⊢
  rw [List.map_cons, List.find?_cons]
  by_cases e : y.name = f
  ·rw [yM (by show (Sum.inr (qA y.name) : Key) = _; rw [e]), beq_iff_eq.mpr e]
   rfl
  ·rw [beq_eq_false_iff_ne.mpr e]
   have n : ¬ (kvOf y).1 = (Sum.inr (qA f) : Key) := fun z => e (strOf_inj (Sum.inr.inj z))
   unfold valV
   rw [List.find?_cons, decide_eq_false n]
   exact ih
theorem fnOf_some {l : List Kp110.Fn} {f : Bytes} : (fnOf l f).isSome = true ↔ f ∈ l.map Kp110.Fn.name := by
 unfold Kp110.fnOf
 rw [List.find?_isSome, List.mem_map]
 constructor
 ·rintro ⟨y, hy, e⟩
  exact ⟨y, hy, by simpa using e⟩
 ·rintro ⟨y, hy, e⟩
  exact ⟨y, hy, by simpa using e⟩
def okF (l : List Kp110.Fn) (y : Kp110.Fn) : Bool := distinct (y.params.map Prod.fst) && okSs l (y.params.map Prod.fst) y.body
theorem okProg_eq (l : List Kp110.Fn) : okProg l = (distinct (l.map Kp110.Fn.name) && (match fnOf l Kp110.main with | some x => x.params.isEmpty | none => false) && l.all (okF l)) := rfl
theorem pvs_eq (ps : List (Bytes × Nat)) : pvs ps = nvs (ps.map Prod.fst) := by
 unfold pvs nvs
 rw [List.map_map]
 rfl
def spPC (cF cNR : Addr) : Sp := fun vs H Q E => ∃ (a : Addr) (fos : List Addr) (l : List Kp110.Fn), vs = [V.ref a] /\ H a = some (.lst (fos.map V.ref)) /\ FnL cF H fos l /\ l.length <= 32 /\ (distinct (l.map Kp110.Fn.name) = false -> ∀ H', E (.ref cNR) none H') /\
 (distinct (l.map Kp110.Fn.name) = true -> ∀ H' d, Same H H' -> H' d = some (.dK (l.map kvOf)) -> Q (.ref d) H')
def spCF (cF cNR : Addr) (l : List Kp110.Fn) : Sp := fun vs H Q E => ∃ (fo d : Addr) (y : Kp110.Fn) (kvs : List (Key × V)), vs = [V.ref fo, V.ref d] /\ FnAt cF H fo y /\ H d = some (.dK kvs) /\ Cnt l kvs /\ (okF l y = false -> ∀ H', E (.ref cNR) none H') /\ (okF l y = true -> ∀ H', Same H H' -> Q .non H')
def spCR (cF cNR : Addr) : Sp := fun vs H Q E => ∃ (a : Addr) (fos : List Addr) (l : List Kp110.Fn), vs = [V.ref a] /\ H a = some (.lst (fos.map V.ref)) /\ FnL cF H fos l /\ l.length <= 32 /\ (okProg l = false -> ∀ H', E (.ref cNR) none H') /\ (okProg l = true -> ∀ H', Same H H' -> Q .non H')
theorem FnL.same {cF : Addr} {H H' : Hp} {fos : List Addr} {l : List Kp110.Fn} (x : FnL cF H fos l) (s : Same H H') : FnL cF H' fos l := x.mono fun fo y z => z.mono fun b o e _ => s b o e
theorem paired_get' {α β : Type} {F : α -> β -> Prop} : ∀ {l : List α} {m : List β} {i : Nat} {a : α}, Paired F l m -> l[i]? = some a -> ∃ b, m[i]? = some b /\ F a b
 | _, _, i, _, .nil, h => by simp at h
 | _, _, 0, a, .cons r t, h => by
  have e : _ = a := Option.some.inj h
  subst e
  exact ⟨_, rfl, r⟩
 | _, _, i + 1, a, .cons r t, h => by
  obtain ⟨b, h1, h2⟩ := paired_get' (i := i) t (by simpa using h)
  exact ⟨b, by simpa using h1, h2⟩
theorem ref_at {fos : List Addr} {i : Nat} {x : V} (h : (fos.map V.ref)[i]? = some x) : ∃ fo, fos[i]? = some fo /\ x = V.ref fo := by
 rw [List.getElem?_map] at h
 cases e : fos[i]? with
 | none => rw [e] at h; cases h
 | some fo => rw [e] at h; exact ⟨fo, rfl, (Option.some.inj h).symm⟩
section
variable {P : Program} {w : World} {K : PySem.W.Frag} {mg : Str -> Option Value} {base : Heap} {cS cF cNR fB fE fT fU : Addr} {fdB fdE fdT fdU : FuncData}
theorem scPC : FnScope ["functions", "counts", "function"] ["functions"] (zJ sPC) := scK
theorem ok_pc {f : Addr} {fd : FuncData} (D : Dn K mg "parameter_counts" sPC ["functions"] f fd) (G : Gs mg) (N : NR K mg cNR) (F : FC K cF) : FnOk P w K mg base (CXW P w) 1 f fd ["functions"] (spPC cF cNR) := by
 refine D.fn.okW scPC (fun vs H Q E h => ?_) (fun cdv A outer s H vs Q E hr h => ?_)
 ·obtain ⟨a, fos, l, rfl, _⟩ := h
  rfl
 ·obtain ⟨a, fos, l, rfl, ha, hF, h32, kE, kk⟩ := h
  have hu := hu_of hr
  refine ⟨_, zB (qB (i := 1) scPC.nd rfl (Or.inl rfl) pe_dnewK) (zB (ps_for ownW rfl (pi_list (pv 0)) (pg_name (i := 2) scPC.nd rfl (Or.inl rfl)) (zB (zZ (pt_cmp (pc_din hu (zX (pv 2) rfl) (pv 1))) (zC (qF makeW rfl rfl N.nr N.nrD)) zY) (zC (ps_dput hu (pv 1) (zX (pv 2) rfl) (yD G.len (zX (pv 2) rfl)) rfl)))) (zC (zW (pv 1)))), ?_⟩
  intro d hd
  have s0 : Same H (upd H d (.dK [])) := upd_sm hd
  refine ⟨_, rfl, a, rfl, ⟨_, qZ.of (s0 _ _ ha)⟩, for_list (K := K) (a := a) (xs := fos.map V.ref) (fun i σ H' => ∃ v : Option V, σ = [some (V.ref a), some (V.ref d), v] /\ Same H H' /\ H' d = some (.dK ((l.take i).map kvOf)) /\ ((l.take i).map Kp110.Fn.name).Nodup)
   ⟨none, rfl, s0, zG, by simp⟩ (fun i σ H' _ ⟨_, _, s1, _⟩ => qZ.of (s1 _ _ ha)) ?_ ?_⟩
  ·rintro i x σ H' hx ⟨v, rfl, s1, hd1, nd⟩
   obtain ⟨fo, hfo, rfl⟩ := ref_at hx
   obtain ⟨y, hy, hA⟩ := paired_get' (hF.same s1) hfo
   obtain ⟨dx, p, m, qs, ns, h1, h2, h3, h4, h5, hsm, h6, h7⟩ := hA.ex
   have hc := cnt_map (l.take i) y.name
   have hyn : (l.map Kp110.Fn.name)[i]? = some y.name := by rw [List.getElem?_map, hy]; rfl
   refine ⟨_, rfl, fo, cF, dx, _, _, rfl, h1, F.cl, F.nName, ff_name .., _, rfl, d, _, rfl, DGet.k (k := Sum.inr (qA y.name)) hd1, _, rfl, ?_⟩
   rw [hc]
   cases hf : fnOf (l.take i) y.name with
   | some z =>
    refine yJ (kE (distinct_no hyn ?_) H')
    rw [<- List.map_take]
    exact fnOf_some.mp (by rw [hf]; rfl)
   | none =>
    refine zN ?_
    rw [hf] at hc
    have hmem : ¬ y.name ∈ (l.take i).map Kp110.Fn.name := fun z => by
     have := fnOf_some.mpr z
     rw [hf] at this
     cases this
    refine ⟨_, rfl, fo, cF, dx, _, _, rfl, h1, F.cl, F.nPar, ff_par .., p, _, rfl, .inl (qZ.of h2), _, rfl, _, rfl, fo, cF, dx, _, _, rfl, h1, F.cl, F.nName, ff_name .., d, _, rfl, DPut.k (k := Sum.inr (qA y.name)) hd1 ?_, ?_⟩
    ·rw [List.length_map, List.length_take]
     exact small1000 (by omega)
    ·refine ⟨_, rfl, fun b o e => ?_, ?_, ?_⟩
     ·rw [zF (zH e hd)]
      exact s1 _ _ e
     ·rw [zG, putK_new _ hc, take_more hy, List.map_append]
      unfold pvs
      rw [List.length_map]
      rfl
     ·rw [take_more hy, List.map_append]
      refine List.nodup_append.mpr ⟨nd, by simp, ?_⟩
      rintro a ha b hb rfl
      simp at hb
      subst hb
      exact hmem ha
  ·rintro σ H' ⟨v, rfl, s1, hd1, nd⟩
   rw [List.length_map, hF.len, List.take_length] at hd1 nd
   exact ⟨_, rfl, kk ((distinct_iff _).mpr nd) H' d s1 hd1⟩
theorem scCF : FnScope ["function", "counts", "scope", "name", "how", "count"] ["function", "counts"] (zJ sCF) := scK
theorem ok_cf {f fC fSI : Addr} {fd fdC fdSI : FuncData} (D : Dn K mg "check_function" sCF ["function", "counts"] f fd) (DC : Dn K mg "check_call" sCCall ["name", "count", "counts"] fC fdC) (G : Gs mg) (G2 : Gs2 mg) (N : NR K mg cNR) (F : FC K cF) (C : SC K cS fB fE fT fU fdB fdE fdT fdU)
  (CSc : CI K mg cS fSI fdSI "Scope" "Scope.__init__" sSInit ["self"]) (l : List Kp110.Fn) : FnOk P w K mg base (CXW P w) 3 f fd ["function", "counts"] (spCF cF cNR l) := by
 have GSI : FnOk P w K mg base (CXW P w) 1 fSI fdSI ["self"] (spSInit cS) := ok_sInit CSc.fI C
 have GB : FnOk P w K mg base (CXW P w) 1 fB fdB ["self"] (spBegin cS) := ok_begin C G
 have GE : FnOk P w K mg base (CXW P w) 1 fE fdE ["self"] (spEndB cS) := ok_end C
 have GT : FnOk P w K mg base (CXW P w) 1 fT fdT ["self", "name"] (spTell cS cNR) := ok_tell C G G2 N
 have GU : FnOk P w K mg base (CXW P w) 1 fU fdU ["self", "name"] (spUse cS cNR) := ok_use C N
 have GC : FnOk P w K mg base (CXW P w) 1 fC fdC ["name", "count", "counts"] (spCCall cNR l) := ok_ccall DC N l
 refine D.fn.okW scCF (fun vs H Q E h => ?_) (fun cdv A outer s H vs Q E hr h => ?_)
 ·obtain ⟨fo, d, y, kvs, rfl, _⟩ := h
  rfl
 ·obtain ⟨fo, d, y, kvs, rfl, hA, hd, hC, kE, kk⟩ := h
  have hr1 : Room 1 _ := hr.mono (by omega)
  have hr2 : Room 2 _ := hr
  obtain ⟨dxf, p, m, qs, ns, h1, h2, h3, h4, hCF, hsm, h6, h7⟩ := hA.ex
  refine ⟨_, zB (qB (i := 2) scCF.nd rfl (Or.inl rfl) (pe_make0 CSc.mkC GSI hr2 rfl CSc.mgC CSc.bI .nil qC)) (zB (ps_for ownW rfl (pi_list (zX (pv 0) rfl)) (pg_name (i := 3) scCF.nd rfl (Or.inl rfl)) (zC (zL (zR (pv 2) C.cl C.mT GT hr1 C.bT .nil zT (zA (pv 3) zE))))) (zC (ps_for ownW rfl (pi_list (zX (pv 0) rfl)) (pg_tup rfl (pgs_cons (pg_name (i := 4) scCF.nd rfl (Or.inl rfl)) (pgs_cons (pg_name (i := 3) scCF.nd rfl (Or.inl rfl)) (pgs_cons (pg_name (i := 5) scCF.nd rfl (Or.inl rfl)) pgs_nil)))) (zC (zZ (zM qE (pv 4) zK (nomark _)) (zC (zL (qO (pv 2) C.cl C.mB GB hr1 C.bB .nil qC))) (zC (zZ (zM qE (pv 4) zK (nomark _)) (zC (zL (qO (pv 2) C.cl C.mE GE hr1 C.bE .nil qC))) (zC (zZ (zM qE (pv 4) zK (nomark _)) (zC (zL (zR (pv 2) C.cl C.mT GT hr1 C.bT .nil zT (zA (pv 3) zE)))) (zC (zZ (PW.pt (pw_or (zM qE (pv 4) zK (nomark _)) (pw_or1 (zM qE (pv 4) zK (nomark _))))) (zC (zL (zR (pv 2) C.cl C.mU GU hr1 C.bU .nil zT (zA (pv 3) zE)))) (zC (zZ (zM qE (pv 4) zK (nomark _)) (zC (zL (zO GC hr1 rfl DC.mgf DC.fn.kp DC.bi .nil zT (zA (pv 3) (zA (pv 5) (zA (pv 1) zE)))))) zY))))))))))))), ?_⟩
  intro sc dxs hsc hdxs nxs
  have s0 : Same H (upd (upd H dxs (.own sc)) sc (.ins cS dxs [])) := fun c o e => by
   rw [zF (zH e hsc), zF (zH e hdxs)]
   exact e
  refine ⟨sc, dxs, rfl, zG, fun H1 an ast han hast n1 n2 S1 k1 => ⟨rfl, ?_⟩⟩
  have s1 : Same H H1 := fun c o e => k1 c o (s0 c o e) (zH e hsc)
  have han0 : H an = none := s0.free han
  have hast0 : H ast = none := s0.free hast
  have keepSame : ∀ {H' H'' : Hp} {an : Addr}, Same H H' -> H an = none -> KeepS sc an ast H' H'' -> Same H H'' := fun s k0 k b o e => k b o (s b o e) (zH e hsc) (zH e k0) (zH e hast0)
  rw [pvs_eq] at h2
  have hnl : (y.params.map Prod.fst).length <= 4 := by rw [List.length_map]; exact h7
  refine ⟨_, rfl, fo, cF, dxf, _, _, rfl, s1 _ _ h1, F.cl, F.nPar, ff_par .., p, rfl, ⟨_, qZ.of (s1 _ _ h2)⟩, for_list (K := K) (a := p) (xs := nvs (y.params.map Prod.fst))
   (fun i σ H' => ∃ v : Option V, σ = [some (V.ref fo), some (V.ref d), some (V.ref sc), v, none, none] /\ Same H H' /\ ScAt cS H' sc an ast ((y.params.map Prod.fst).take i) [] /\ ((y.params.map Prod.fst).take i).Nodup)
   ⟨none, rfl, s1, S1, by simp⟩ (fun i σ H' _ ⟨_, _, s2, _⟩ => qZ.of (s2 _ _ h2)) ?_ ?_⟩
  ·rintro i x σ H' hx ⟨v, rfl, s2, S2, nd⟩
   obtain ⟨b, hb, rfl⟩ : ∃ b, (y.params.map Prod.fst)[i]? = some b /\ x = V.str (qA b) := by
    unfold nvs at hx
    rw [List.getElem?_map] at hx
    cases e : (y.params.map Prod.fst)[i]? with
    | none => rw [e] at hx; cases hx
    | some b => rw [e] at hx; exact ⟨b, rfl, (Option.some.inj hx).symm⟩
   obtain ⟨dx2, hi2⟩ := S2.ins
   have ht : ((y.params.map Prod.fst).take i).length <= 4 := Nat.le_trans (by rw [List.length_take]; exact Nat.min_le_right _ _) hnl
   refine ⟨_, rfl, sc, dx2, _, rfl, hi2, sf_no _ _ (by decide +kernel) (by decide +kernel), _, rfl, sc, an, ast, _, [], b, rfl, S2, by omega, fun z H'' => kE ?_ H'', fun z H'' S3 K3 => ?_⟩
   ·rw [decide_eq_true (show ((y.params.map Prod.fst).take i).length < 32 by omega), Bool.and_true] at z
    have z : ((y.params.map Prod.fst).take i).contains b = true := by
     cases q : ((y.params.map Prod.fst).take i).contains b with
     | true => rfl
     | false => rw [q] at z; cases z
    unfold okF
    rw [distinct_no hb (by simpa using z)]
    rfl
   ·have z1 := (Bool.and_eq_true_iff.mp z).1
    have z2 : ¬ b ∈ (y.params.map Prod.fst).take i := fun q => by
     have : ((y.params.map Prod.fst).take i).contains b = true := by simpa using q
     rw [this] at z1
     cases z1
    refine ⟨_, rfl, keepSame s2 han0 K3, by rw [take_more hb]; exact S3, ?_⟩
    rw [take_more hb]
    refine List.nodup_append.mpr ⟨nd, by simp, ?_⟩
    rintro a' ha' b' hb' rfl
    simp at hb'
    subst hb'
    exact z2 ha'
  ·rintro σ H2 ⟨v, rfl, s2, S2, nd⟩
   have hlen2 : (nvs (y.params.map Prod.fst)).length = (y.params.map Prod.fst).length := by unfold nvs; rw [List.length_map]
   rw [hlen2, List.take_length] at S2 nd
   have hdis : distinct (y.params.map Prod.fst) = true := (distinct_iff _).mpr nd
   have hok : okF l y = okSs l (y.params.map Prod.fst) y.body := by
    unfold okF
    rw [hdis, Bool.true_and]
   have hchk : chk l ns (y.params.map Prod.fst) [] = if okF l y then some (y.params.map Prod.fst, []) else none := by
    rw [hok]
    exact chk_Fn hCF _ _
   have hbal : bal ns 0 = true := bal_Fn hCF 0
   refine ⟨_, rfl, fo, cF, dxf, _, _, rfl, s2 _ _ h1, F.cl, F.nMen, ff_men .., m, rfl, ⟨_, qZ.of (s2 _ _ h3)⟩, for_list (K := K) (a := m) (xs := qs.map V.ref)
    (fun i σ H' => ∃ (v3 v4 v5 : Option V) (an : Addr) (vv : List Bytes) (st : List Nat), σ = [some (V.ref fo), some (V.ref d), some (V.ref sc), v3, v4, v5] /\ Same H H' /\ H an = none /\ ScAt cS H' sc an ast vv st /\ vv.length <= 32 /\ st.length <= i /\ chk l ns (y.params.map Prod.fst) [] = chk l (ns.drop i) vv st /\ bal (ns.drop i) st.length = true)
    ⟨_, _, _, an, _, [], rfl, s2, han0, S2, by omega, Nat.le_refl _, rfl, hbal⟩ (fun i σ H' _ h => by obtain ⟨_, _, _, _, _, _, _, s3, _⟩ := h; exact qZ.of (s3 _ _ h3)) ?_ ?_⟩
   ·rintro i x σ H' hx ⟨v3, v4, v5, an, vv, st, rfl, s3, han, S3, hvv, hst, hck, hbl⟩
    obtain ⟨q, hq, rfl⟩ := ref_at hx
    obtain ⟨n, hn, hA4⟩ := paired_get' h4 hq
    have hi : i < ns.length := (List.getElem?_eq_some_iff.mp hn).1
    have hdrop : ns.drop i = n :: ns.drop (i + 1) := by
     obtain ⟨h, e⟩ := List.getElem?_eq_some_iff.mp hn
     rw [List.drop_eq_getElem_cons h, e]
    rw [hdrop] at hck hbl
    have hq3 := s3 _ _ hA4
    have hd3 := s3 _ _ hd
    obtain ⟨dx3, hi3⟩ := S3.ins
    have nol : ∀ {P : Prop}, chk l ns (y.params.map Prod.fst) [] = none -> (okF l y = false -> P) -> P := fun z k => k (by
     rw [hchk] at z
     cases ho : okF l y with
     | false => rfl
     | true => rw [ho] at z; cases z)
    refine ⟨q, n.vals, rfl, SqT.of hq3, by obtain ⟨a, b, c, e⟩ := vals3 n; rw [e]; rfl, ?_⟩
    cases n with
    | beg =>
     refine ⟨_, _, rfl, _, _, rfl, _, _, rfl, rfl, ?_⟩
     refine ⟨_, rfl, rfl, _, rfl, yJ ?_⟩
     refine ⟨_, rfl, sc, dx3, _, rfl, hi3, sf_no _ _ (by decide +kernel) (by decide +kernel), sc, an, ast, vv, st, rfl, S3, by omega, fun H4 S4 K4 => ?_⟩
     exact ⟨_, _, _, an, vv, _, rfl, keepSame s3 han K4, han, S4, hvv, by show st.length + 1 <= _; omega, hck, hbl⟩
    | fin =>
     refine ⟨_, _, rfl, _, _, rfl, _, _, rfl, rfl, ?_⟩
     refine ⟨_, rfl, rfl, _, rfl, zN ?_⟩
     refine ⟨_, rfl, rfl, _, rfl, yJ ?_⟩
     cases st with
     | nil => cases hbl
     | cons n0 st =>
      refine ⟨_, rfl, sc, dx3, _, rfl, hi3, sf_no _ _ (by decide +kernel) (by decide +kernel), sc, an, ast, vv, n0, st, rfl, S3, fun H4 an' han' S4 K4 => ?_⟩
      exact ⟨_, _, _, an', _, st, rfl, keepSame s3 han K4, s3.free han', S4, Nat.le_trans (by rw [List.length_take]; exact Nat.min_le_right _ _) hvv, by have : st.length + 1 <= i := hst; omega, hck, hbl⟩
    | let_ x =>
     refine ⟨_, _, rfl, _, _, rfl, _, _, rfl, rfl, ?_⟩
     refine ⟨_, rfl, rfl, _, rfl, zN ?_⟩
     refine ⟨_, rfl, rfl, _, rfl, zN ?_⟩
     refine ⟨_, rfl, rfl, _, rfl, yJ ?_⟩
     have hck2 : chk l ns (y.params.map Prod.fst) [] = if !vv.contains x && decide (vv.length < 32) then chk l (ns.drop (i + 1)) (vv ++ [x]) st else none := by
      rw [hck]
      show (if !vv.contains x && decide (vv.length < 32) then some _ else none).bind _ = _
      split <;> rfl
     refine ⟨_, rfl, sc, dx3, _, rfl, hi3, sf_no _ _ (by decide +kernel) (by decide +kernel), _, rfl, sc, an, ast, vv, st, x, rfl, S3, hvv, fun z H4 => nol (by rw [hck2, z]; rfl) fun z => kE z H4, fun z H4 S4 K4 => ?_⟩
     have hlt : vv.length < 32 := of_decide_eq_true (Bool.and_eq_true_iff.mp z).2
     exact ⟨_, _, _, an, _, st, rfl, keepSame s3 han K4, han, S4, by rw [List.length_append]; show vv.length + 1 <= 32; omega, by omega, by rw [hck2, z]; rfl, hbl⟩
    | use x =>
     refine ⟨_, _, rfl, _, _, rfl, _, _, rfl, rfl, ?_⟩
     refine ⟨_, rfl, rfl, _, rfl, zN ?_⟩
     refine ⟨_, rfl, rfl, _, rfl, zN ?_⟩
     refine ⟨_, rfl, rfl, _, rfl, zN ?_⟩
     refine ⟨_, rfl, rfl, _, rfl, yJ ?_⟩
     dsimp only
     rw [if_pos rfl]
     have hck2 : chk l ns (y.params.map Prod.fst) [] = if vv.contains x then chk l (ns.drop (i + 1)) vv st else none := by
      rw [hck]
      show (if vv.contains x then some _ else none).bind _ = _
      split <;> rfl
     refine ⟨_, rfl, sc, dx3, _, rfl, hi3, sf_no _ _ (by decide +kernel) (by decide +kernel), _, rfl, sc, an, ast, vv, st, x, rfl, S3, fun z H4 => nol (by rw [hck2, z]; rfl) fun z => kE z H4, fun z => ?_⟩
     exact ⟨_, _, _, an, _, st, rfl, s3, han, S3, hvv, by omega, by rw [hck2, z]; rfl, hbl⟩
    | set x =>
     refine ⟨_, _, rfl, _, _, rfl, _, _, rfl, rfl, ?_⟩
     refine ⟨_, rfl, rfl, _, rfl, zN ?_⟩
     refine ⟨_, rfl, rfl, _, rfl, zN ?_⟩
     refine ⟨_, rfl, rfl, _, rfl, zN ?_⟩
     refine ⟨_, rfl, rfl, _, rfl, zN ?_⟩
     refine ⟨_, rfl, rfl, _, rfl, yJ ?_⟩
     have hck2 : chk l ns (y.params.map Prod.fst) [] = if vv.contains x then chk l (ns.drop (i + 1)) vv st else none := by
      rw [hck]
      show (if vv.contains x then some _ else none).bind _ = _
      split <;> rfl
     refine ⟨_, rfl, sc, dx3, _, rfl, hi3, sf_no _ _ (by decide +kernel) (by decide +kernel), _, rfl, sc, an, ast, vv, st, x, rfl, S3, fun z H4 => nol (by rw [hck2, z]; rfl) fun z => kE z H4, fun z => ?_⟩
     exact ⟨_, _, _, an, _, st, rfl, s3, han, S3, hvv, by omega, by rw [hck2, z]; rfl, hbl⟩
    | call x n0 =>
     refine ⟨_, _, rfl, _, _, rfl, _, _, rfl, rfl, ?_⟩
     refine ⟨_, rfl, rfl, _, rfl, zN ?_⟩
     refine ⟨_, rfl, rfl, _, rfl, zN ?_⟩
     refine ⟨_, rfl, rfl, _, rfl, zN ?_⟩
     refine ⟨_, rfl, rfl, _, rfl, zN ?_⟩
     refine ⟨_, rfl, rfl, _, rfl, zN ?_⟩
     refine ⟨_, rfl, rfl, _, rfl, yJ ?_⟩
     have hck2 : chk l ns (y.params.map Prod.fst) [] = if fnOk l x n0 then chk l (ns.drop (i + 1)) vv st else none := by
      rw [hck]
      show (if fnOk l x n0 then some _ else none).bind _ = _
      split <;> rfl
     refine ⟨_, rfl, _, rfl, _, rfl, x, n0, d, kvs, rfl, hd3, hC, fun z H4 => nol (by rw [hck2, z]; rfl) fun z => kE z H4, fun z => ?_⟩
     exact ⟨_, _, _, an, _, st, rfl, s3, han, S3, hvv, by omega, by rw [hck2, z]; rfl, hbl⟩
    | step =>
     refine ⟨_, _, rfl, _, _, rfl, _, _, rfl, rfl, ?_⟩
     refine ⟨_, rfl, rfl, _, rfl, zN ?_⟩
     refine ⟨_, rfl, rfl, _, rfl, zN ?_⟩
     refine ⟨_, rfl, rfl, _, rfl, zN ?_⟩
     refine ⟨_, rfl, rfl, _, rfl, zN ?_⟩
     refine ⟨_, rfl, rfl, _, rfl, zN ?_⟩
     refine ⟨_, rfl, rfl, _, rfl, zN ?_⟩
     exact ⟨_, _, _, an, _, st, rfl, s3, han, S3, hvv, by omega, hck, hbl⟩
    | num k =>
     refine ⟨_, _, rfl, _, _, rfl, _, _, rfl, rfl, ?_⟩
     refine ⟨_, rfl, rfl, _, rfl, zN ?_⟩
     refine ⟨_, rfl, rfl, _, rfl, zN ?_⟩
     refine ⟨_, rfl, rfl, _, rfl, zN ?_⟩
     refine ⟨_, rfl, rfl, _, rfl, zN ?_⟩
     refine ⟨_, rfl, rfl, _, rfl, zN ?_⟩
     refine ⟨_, rfl, rfl, _, rfl, zN ?_⟩
     exact ⟨_, _, _, an, _, st, rfl, s3, han, S3, hvv, by omega, hck, hbl⟩
    | get =>
     refine ⟨_, _, rfl, _, _, rfl, _, _, rfl, rfl, ?_⟩
     refine ⟨_, rfl, rfl, _, rfl, zN ?_⟩
     refine ⟨_, rfl, rfl, _, rfl, zN ?_⟩
     refine ⟨_, rfl, rfl, _, rfl, zN ?_⟩
     refine ⟨_, rfl, rfl, _, rfl, zN ?_⟩
     refine ⟨_, rfl, rfl, _, rfl, zN ?_⟩
     refine ⟨_, rfl, rfl, _, rfl, zN ?_⟩
     exact ⟨_, _, _, an, _, st, rfl, s3, han, S3, hvv, by omega, hck, hbl⟩
    | one op =>
     refine ⟨_, _, rfl, _, _, rfl, _, _, rfl, rfl, ?_⟩
     refine ⟨_, rfl, rfl, _, rfl, zN ?_⟩
     refine ⟨_, rfl, rfl, _, rfl, zN ?_⟩
     refine ⟨_, rfl, rfl, _, rfl, zN ?_⟩
     refine ⟨_, rfl, rfl, _, rfl, zN ?_⟩
     refine ⟨_, rfl, rfl, _, rfl, zN ?_⟩
     refine ⟨_, rfl, rfl, _, rfl, zN ?_⟩
     exact ⟨_, _, _, an, _, st, rfl, s3, han, S3, hvv, by omega, hck, hbl⟩
    | two op =>
     refine ⟨_, _, rfl, _, _, rfl, _, _, rfl, rfl, ?_⟩
     refine ⟨_, rfl, rfl, _, rfl, zN ?_⟩
     refine ⟨_, rfl, rfl, _, rfl, zN ?_⟩
     refine ⟨_, rfl, rfl, _, rfl, zN ?_⟩
     refine ⟨_, rfl, rfl, _, rfl, zN ?_⟩
     refine ⟨_, rfl, rfl, _, rfl, zN ?_⟩
     refine ⟨_, rfl, rfl, _, rfl, zN ?_⟩
     exact ⟨_, _, _, an, _, st, rfl, s3, han, S3, hvv, by omega, hck, hbl⟩
    | forget =>
     refine ⟨_, _, rfl, _, _, rfl, _, _, rfl, rfl, ?_⟩
     refine ⟨_, rfl, rfl, _, rfl, zN ?_⟩
     refine ⟨_, rfl, rfl, _, rfl, zN ?_⟩
     refine ⟨_, rfl, rfl, _, rfl, zN ?_⟩
     refine ⟨_, rfl, rfl, _, rfl, zN ?_⟩
     refine ⟨_, rfl, rfl, _, rfl, zN ?_⟩
     refine ⟨_, rfl, rfl, _, rfl, zN ?_⟩
     exact ⟨_, _, _, an, _, st, rfl, s3, han, S3, hvv, by omega, hck, hbl⟩
    | put =>
     refine ⟨_, _, rfl, _, _, rfl, _, _, rfl, rfl, ?_⟩
     refine ⟨_, rfl, rfl, _, rfl, zN ?_⟩
     refine ⟨_, rfl, rfl, _, rfl, zN ?_⟩
     refine ⟨_, rfl, rfl, _, rfl, zN ?_⟩
     refine ⟨_, rfl, rfl, _, rfl, zN ?_⟩
     refine ⟨_, rfl, rfl, _, rfl, zN ?_⟩
     refine ⟨_, rfl, rfl, _, rfl, zN ?_⟩
     exact ⟨_, _, _, an, _, st, rfl, s3, han, S3, hvv, by omega, hck, hbl⟩
    | ret =>
     refine ⟨_, _, rfl, _, _, rfl, _, _, rfl, rfl, ?_⟩
     refine ⟨_, rfl, rfl, _, rfl, zN ?_⟩
     refine ⟨_, rfl, rfl, _, rfl, zN ?_⟩
     refine ⟨_, rfl, rfl, _, rfl, zN ?_⟩
     refine ⟨_, rfl, rfl, _, rfl, zN ?_⟩
     refine ⟨_, rfl, rfl, _, rfl, zN ?_⟩
     refine ⟨_, rfl, rfl, _, rfl, zN ?_⟩
     exact ⟨_, _, _, an, _, st, rfl, s3, han, S3, hvv, by omega, hck, hbl⟩
    | «unless» q0 =>
     refine ⟨_, _, rfl, _, _, rfl, _, _, rfl, rfl, ?_⟩
     refine ⟨_, rfl, rfl, _, rfl, zN ?_⟩
     refine ⟨_, rfl, rfl, _, rfl, zN ?_⟩
     refine ⟨_, rfl, rfl, _, rfl, zN ?_⟩
     refine ⟨_, rfl, rfl, _, rfl, zN ?_⟩
     refine ⟨_, rfl, rfl, _, rfl, zN ?_⟩
     refine ⟨_, rfl, rfl, _, rfl, zN ?_⟩
     exact ⟨_, _, _, an, _, st, rfl, s3, han, S3, hvv, by omega, hck, hbl⟩
    | go q0 =>
     refine ⟨_, _, rfl, _, _, rfl, _, _, rfl, rfl, ?_⟩
     refine ⟨_, rfl, rfl, _, rfl, zN ?_⟩
     refine ⟨_, rfl, rfl, _, rfl, zN ?_⟩
     refine ⟨_, rfl, rfl, _, rfl, zN ?_⟩
     refine ⟨_, rfl, rfl, _, rfl, zN ?_⟩
     refine ⟨_, rfl, rfl, _, rfl, zN ?_⟩
     refine ⟨_, rfl, rfl, _, rfl, zN ?_⟩
     exact ⟨_, _, _, an, _, st, rfl, s3, han, S3, hvv, by omega, hck, hbl⟩
   ·rintro σ H3 ⟨v3, v4, v5, an, vv, st, rfl, s3, han, S3, hvv, hst, hck, hbl⟩
    rw [List.length_map, h4.len, List.drop_length, hchk] at hck
    refine kk ?_ H3 s3
    cases ho : okF l y with
    | true => rfl
    | false => rw [ho] at hck; cases hck
theorem scCR : FnScope ["functions", "counts", "function"] ["functions"] (zJ sCR) := scK
theorem main_str : ("main" : Str) = qA Kp110.main := by decide +kernel
theorem ok_cr {f fP fC : Addr} {fd fdP fdC : FuncData} (D : Dn K mg "check_right" sCR ["functions"] f fd) (DP : Dn K mg "parameter_counts" sPC ["functions"] fP fdP) (DC : Dn K mg "check_function" sCF ["function", "counts"] fC fdC) (N : NR K mg cNR)
  (GP : FnOk P w K mg base (CXW P w) 1 fP fdP ["functions"] (spPC cF cNR)) (GCF : ∀ l, FnOk P w K mg base (CXW P w) 3 fC fdC ["function", "counts"] (spCF cF cNR l)) : FnOk P w K mg base (CXW P w) 4 f fd ["functions"] (spCR cF cNR) := by
 refine D.fn.okW scCR (fun vs H Q E h => ?_) (fun cdv A outer s H vs Q E hr h => ?_)
 ·obtain ⟨a, fos, l, rfl, _⟩ := h
  rfl
 ·obtain ⟨a, fos, l, rfl, ha, hF, h32, kE, kk⟩ := h
  have hu := hu_of hr
  have hr1 : Room 1 _ := hr.mono (by omega)
  have GC := GCF l
  rw [okProg_eq] at kE kk
  refine ⟨_, zB (qB (i := 1) scCR.nd rfl (Or.inl rfl) (zO GP hr1 rfl DP.mgf DP.fn.kp DP.bi .nil zT (zA (pv 0) zE))) (zB (zZ (PW.pt (pw_or (pt_cmp (pc_dnotin hu zK (pv 1))) (pw_or1 (zM op_ne (pe_dget hu (pv 1) zK (fun _ _ => rfl)) zQ (nomark _))))) (zC (qF makeW rfl rfl N.nr N.nrD)) zY) (zC (ps_for ownW rfl (pi_list (pv 0)) (pg_name (i := 2) scCR.nd rfl (Or.inl rfl)) (zC (zL (zO GC hr rfl DC.mgf DC.fn.kp DC.bi .nil zT (zA (pv 2) (zA (pv 1) zE)))))))), ?_⟩
  refine ⟨_, rfl, a, fos, l, rfl, ha, hF, h32, fun z H' => kE (by rw [z]; rfl) H', fun hdis H1 d s1 hd => ?_⟩
  rw [hdis, Bool.true_and] at kE kk
  have hc := cnt_map l Kp110.main
  have hg := DGet.k (k := Sum.inr (qA Kp110.main)) hd
  rw [hc] at hg
  refine ⟨_, rfl, d, _, rfl, (by rw [main_str]; exact hg), _, rfl, ?_⟩
  have fin : (match fnOf l Kp110.main with | some x => x.params.isEmpty | none => false) = true -> tFor (iList K (qT 0)) (gName 2) (tDrop (tCall (spCF cF cNR l) [] E (qH (qT 2) (qH (qT 1) tNil)))) { nx := fun _ H' => Q .non H', rt := Q } [some (V.ref a), some (V.ref d), none] H1 := fun hm => by
   rw [hm, Bool.true_and] at kE kk
   refine ⟨_, rfl, a, rfl, ⟨_, qZ.of (s1 _ _ ha)⟩, for_list (K := K) (a := a) (xs := fos.map V.ref) (fun i σ H' => ∃ v : Option V, σ = [some (V.ref a), some (V.ref d), v] /\ Same H1 H' /\ (l.take i).all (okF l) = true)
    ⟨none, rfl, Same.refl _, by simp⟩ (fun i σ H' _ ⟨_, _, s2, _⟩ => qZ.of (s2 _ _ (s1 _ _ ha))) ?_ ?_⟩
   ·rintro i x σ H' hx ⟨v, rfl, s2, hall⟩
    obtain ⟨fo, hfo, rfl⟩ := ref_at hx
    obtain ⟨y, hy, hA⟩ := paired_get' (hF.same (s1.trans s2)) hfo
    refine ⟨_, rfl, _, rfl, fo, d, y, _, rfl, hA, s2 _ _ hd, cnt_map l, fun z H'' => kE ?_ H'', fun z H'' s3 => ⟨_, rfl, s2.trans s3, ?_⟩⟩
    ·rw [List.all_eq_false]
     exact ⟨y, List.mem_of_getElem? hy, by rw [z]; simp⟩
    ·rw [take_more hy, List.all_append, hall]
     simp [z]
   ·rintro σ H' ⟨v, rfl, s2, hall⟩
    rw [List.length_map, hF.len, List.take_length] at hall
    exact kk hall H' (s1.trans s2)
  cases hf : fnOf l Kp110.main with
  | none =>
   rw [hf] at kE
   refine yJ ?_
   dsimp only
   rw [if_pos rfl]
   exact kE rfl H1
  | some y =>
   rw [hf] at kE fin hg
   refine zN ?_
   refine ⟨_, rfl, d, V.int ((y.params.length : Nat) : Int), rfl, (by rw [main_str]; exact hg), rfl, _, rfl, ?_⟩
   refine qG (fun h1 => ?_) (fun h1 => ?_)
   ·refine kE ?_ H1
    have : y.params.isEmpty = false := by
     cases hp : y.params with
     | nil => rw [hp] at h1; simp at h1
     | cons _ _ => rfl
    show (y.params.isEmpty && _) = false
    rw [this]
    rfl
   ·refine fin ?_
    have h2 : V.int ((y.params.length : Nat) : Int) = V.int 0 := Decidable.byContradiction fun z => h1 (by rw [decide_eq_false z]; rfl)
    have h3 := V.int.inj h2
    show y.params.isEmpty = true
    cases hp : y.params with
    | nil => rfl
    | cons _ _ => rw [hp] at h3; simp at h3; omega
end
end SM
end
section
set_option Elab.async false
set_option linter.all false
set_option maxRecDepth 100000
set_option maxHeartbeats 2000000
namespace L2
open PySem PySem.Spec PyProof.Rows
structure RoomH (k : Nat) (A : Around) : Prop where
 dp : A.depth + 3 * k + 5 < recursionLimit
 un : A.units + 16 * k + 200 < cLine
theorem Room.h {k : Nat} {A : Around} (r : Room k A) : RoomH k A := ⟨r.dp, r.un⟩
theorem RoomH.mark {k : Nat} {A : Around} (r : RoomH k A) (x : Option Value) : RoomH k (A.mark x) := ⟨r.dp, r.un⟩
theorem RoomH.make {k : Nat} {A : Around} (r : RoomH (k + 1) A) (C : Addr) (us : List Value) (kw : List (Str × Value)) : RoomH k (A.under (.builtin "type.__call__" ⟨.ref C :: us, kw⟩)) :=
 ⟨by have := r.dp; rw [make_depth]; omega, by have := r.un; rw [make_units]; omega⟩
structure FnOkH (P : Program) (w : World) (K : PySem.W.Frag) (mg : Str -> Option Value) (base : Heap) (k : Nat) (f : Addr) (fd : FuncData) (ps : List Str) (sp : Sp) : Prop where
 len : ∀ vs H Q E, sp vs H Q E -> vs.length = ps.length
 run : ∀ (A : Around) (outer : List Env) (s : Shared) (H : Hp) (args : Args) (us : List Value) (vs : List V) (Q : VK), RoomH k A -> Env0 P w K mg base A outer s H -> BindsTo s fd args (ps.zip us) -> Vals vs us -> sp vs H Q E0 ->
  codeAny (model P w) A (.call (.ref f) args) (CR (CXW P w) outer P w H s Q E0) s
abbrev cxH (P : Program) (w : World) (K : PySem.W.Frag) (mg : Str -> Option Value) (base : Heap) (N : List Str) (qual : Str) (scope : Scope) (f : Addr) (cd : Value) (A : Around) (outer : List Env) (s : Shared) (H : Hp) : Cx :=
 { cxOf (CXW P w) P w K mg base N qual scope f cd A outer s H E0 with calm := false }
section
variable {P : Program} {w : World} {K : PySem.W.Frag} {mg : Str -> Option Value} {base : Heap}
theorem Env0.free {A : Around} {outer : List Env} {s : Shared} {H : Hp} (e : Env0 P w K mg base A outer s H) : Env0 P w K mg base { A with handled := none } outer s H := ⟨e.frames, e.mod, e.bs, e.bsz, e.funs, e.frf, e.hok, e.bare⟩
theorem inv_startH {N ps : List Str} {qual : Str} {scope : Scope} {f : Addr} {cd : Value} {A : Around} {outer : List Env} {s s1 : Shared} {H : Hp} {us : List Value} {vs : List V}
  (S : FnScope N ps scope) (e0 : Env0 P w K mg base A outer s H) (hl : vs.length = ps.length) (r : Vals vs us)
  (x : InCallC s s.heap.objs.size (bindL (envOfC qual scope s.heap.objs.size f cd).kindOf (ps.zip us) fun _ => none) (cellsFrom (s.heap.objs.size + 1) scope.names []) (bindC (envOfC qual scope s.heap.objs.size f cd).kindOf (ps.zip us) fun _ => none) s1) :
  Inv (cxH P w K mg base N qual scope f cd A outer s H) [] (start N vs) H s1 := by
 have I := inv_start (CX := CXW P w) (E := E0) (A := { A with handled := none }) S rfl e0.free hl r x
 exact ⟨⟨I.ok.mod, I.ok.kind, I.ok.glob, I.ok.blt, I.ok.above, I.ok.inj, I.ok.has, I.ok.cab, fun z => (nomatch z), I.ok.frames, I.ok.stk, I.ok.exf, I.ok.bs, I.ok.bsz, I.ok.noex, I.ok.exfs, I.ok.funs, I.ok.frf⟩, I.os, I.bare, I.base, I.loc, I.cell, I.free, I.freeC, I.pin, I.hok, I.len⟩
theorem Fun.okH {x qual : Str} {st : Stmt} {f : Addr} {fd : FuncData} {N ps : List Str} {k : Nat} {sp : Sp} (F : Fun K x qual st f fd) (S : FnScope N ps (zJ st)) (len : ∀ vs H Q E, sp vs H Q E -> vs.length = ps.length)
  (hbody : ∀ (cdv : Value) (A : Around) (outer : List Env) (s : Shared) (H : Hp) (vs : List V) (Q : VK), sp vs H Q E0 ->
   ∃ t, PSs (cxH P w K mg base N qual (zJ st) f cdv A outer s H) (defBody st) t /\ t { nx := fun _ H' => Q .non H', rt := Q } (start N vs) H) : FnOkH P w K mg base (k + 1) f fd ps sp := by
 obtain ⟨oc, od, kV, doc, pm, an, cdv, ct, osl, rfl, lk, hcd⟩ := F.ex
 refine ⟨len, fun A outer s H args us vs Q hr e0 hb r hsp => ?_⟩
 have hl := len _ _ _ _ hsp
 have KX : K.In s.heap := e0.mod.kin.keeps fun b o e => (e0.bs b o e).1
 have lim : s.heap.NoLimit := e0.mod.nolimit.keeps fun b o e => (e0.bs b o e).1
 have hkind : ∀ y ∈ ps.zip us, (zJ st).names.lookup y.1 = some .local ∨ ((zJ st).names.lookup y.1 = some .cell /\ ((cellsFrom (s.heap.objs.size + 1) (zJ st).names []).lookup y.1).isSome = true) := fun ⟨n, v⟩ hy => by
  rcases S.par n (List.of_mem_zip hy).1 with q | q
  ·exact .inl q
  ·exact .inr ⟨q, PySem.W.cellsFrom_some _ _ _ (.inl q)⟩
 refine codeAny_call_function (by have := hr.dp; omega) (KX _ _ lk) rfl S.co S.gen rfl (PySem.W.codeRec_of KX hcd) (hb _ _ _ _ ?_)
 refine wpAny_newFunctionEnv_cells S.kind hkind fun env he s1 x => ?_
 subst he
 refine ⟨lim.keeps x.toInCall.keep, codeAny_func ?_⟩
 obtain ⟨t, ht, hq⟩ := hbody cdv A outer s H vs Q hsp
 have I : Inv (cxH P w K mg base N qual (zJ st) f cdv A outer s H) [] (start N vs) H s1 := inv_startH S e0 hl r x
 refine wpAny_mono (ht [] s1 (start N vs) H _ I hq) (fun fl s' hs => ?_) fun e s' hs => hs
 have fin : ∀ {σ' : St} {H' : Hp} {v : V} {u : Value}, Inv (cxH P w K mg base N qual (zJ st) f cdv A outer s H) [] σ' H' s' -> qN v u -> Q v H' -> CE outer P w H s Q u s' :=
  fun {σ' H' v u} J rv q => ⟨v, H', J.os, J.bare, J.base, J.hok, rv, q⟩
 cases fl with
 | ret u =>
  obtain ⟨v, σ', H', J, rv, q⟩ := hs
  exact fin J rv q
 | next =>
  obtain ⟨σ', H', J, q⟩ := hs
  exact fin (v := V.non) (u := Value.none) J rfl q
 | brk =>
  obtain ⟨_, _, _, q⟩ := hs
  exact False.elim q
 | cont =>
  obtain ⟨_, _, _, q⟩ := hs
  exact False.elim q
end
section
variable {X : Cx} {k : Nat} {f C : Addr} {fd : FuncData} {ps : List Str} {sp : Sp} {dvs : List V} {ds : List Value} {x : Str} {p pos : Pos} {e : Expr} {es : List Expr} {t : TA}
theorem run_makeH {pins : List (Addr × Obj)} {σ : St} {H : Hp} {s : Shared} {Q : VK} {us : List Value} {vs : List V} (M : Mk X.K C f) (F : FnOkH X.prog X.w X.K X.mg X.base k f fd ps sp) (hr : RoomH (k + 1) X.A) (hb : Binds X.K fd ps ds) (hd : Vals dvs ds)
  (I : Inv X pins σ H s) (r : Vals vs us)
  (h : ∀ x dx, H x = none -> H dx = none -> dx ≠ x -> sp (.ref x :: (vs ++ dvs)) (upd (upd H dx (.own x)) x (.ins C dx [])) (fun v H2 => v = .non /\ Q (.ref x) H2) E0) :
  wpAny (model X.prog X.w) X.A (call (.ref C) us) (EP X pins σ Q) X.xe s := by
 have hq := h (s.heap.objs.size + 1) s.heap.objs.size (I.hok.fresh (Nat.le_succ _)) (I.hok.fresh (Nat.le_refl _)) (Nat.ne_of_lt (Nat.lt_succ_self _))
 have I2 := Inv.made (C := C) I
 have r2 : Vals (V.ref (s.heap.objs.size + 1) :: (vs ++ dvs)) (Value.ref (s.heap.objs.size + 1) :: (us ++ ds)) := .cons rfl (r.append hd)
 have hl : (Value.ref (s.heap.objs.size + 1) :: us ++ ds).length = ps.length := by
  have e := r2.length
  rw [F.len _ _ _ _ hq] at e
  exact e.symm
 have hbb := hb _ (Value.ref (s.heap.objs.size + 1) :: us) I2.kIn hl
 refine wpAny_call (make_map (f := f) I.kIn M.makes M.init (beq_iff_eq.mp M.fn) (codeAny_mono (F.run _ X.stack _ _ ⟨Value.ref (s.heap.objs.size + 1) :: us, []⟩ (Value.ref (s.heap.objs.size + 1) :: us ++ ds) _ _ (hr.make C us [])
  (I2.env0.make C us []) hbb r2 hq) fun r s' hq' => ?_))
 cases r with
 | error e => exact SM.qC pins σ _ _ e s' I2 hq'
 | ok fl =>
  cases fl with
  | ret u =>
   obtain ⟨v, H', I3, rv, ev, q3⟩ := I2.after hq'
   subst ev
   exact ⟨rv, ⟨V.ref (s.heap.objs.size + 1), H', I3, rfl, q3⟩⟩
  | next => exact False.elim hq'
  | brk => exact False.elim hq'
  | cont => exact False.elim hq'
theorem pe_makeH (M : Mk X.K C f) (F : FnOkH X.prog X.w X.K X.mg X.base k f fd ps sp) (hr : RoomH (k + 1) X.A) (hg : Gl X x) (hm : X.mg x = some (.ref C)) (hb : Binds X.K fd ps ds) (hd : Vals dvs ds)
  (ha : PA X (e :: es) t) (hdb : (x == ("__debug__" : Str)) = false := by decide) (he : starEach (e :: es) X.env = (false, eval e X.env) :: starEach es X.env := by rfl) (hpl : (backTo pos (starEach es X.env)).any (·.1) = false := by rfl) :
  PE X (.Call (.Name x p) (e :: es) [] pos) (tMake C sp dvs E0 t) := by
 intro pins s σ H Q I h
 refine wpAny_Call_Name_kw (ld_glob I hg hm ?_ hdb)
 refine PySem.W.callWith_K (h₀ := X.base) I.ok.mod.kin M.kp (thn (ha pos pins s σ H _ I h) fun us s1 ⟨vs, H1, I1, r, q⟩ => ⟨I1.kIn, ?_⟩) he hpl
 exact run_makeH M F hr hb hd I1 r q
end
end L2
end
section
set_option Elab.async false
set_option linter.all false
set_option maxRecDepth 100000
set_option maxHeartbeats 2000000
namespace SM
open PySem PySem.Spec PyProof.Rows L2
open Kp110 (Bytes okProg)
abbrev sReading : Stmt := top 100
abbrev sRdInit : Stmt := yS (top 98) 0
abbrev sTok : Stmt := top 101
abbrev sFns : Stmt := top 102
def readM (bs : List Nat) : Int ⊕ Kp110.Prog := if 8192 < bs.length then .inl (-28) else match lexF 0 bs with
 | none => .inl (-71)
 | some ts => if 2048 < ts.length then .inl (-28) else match xFns 0 ts with
  | none => .inl (-71)
  | some l => if l = [] then .inl (-71) else if 32 < l.length then .inl (-28) else if okProg l then .inr ⟨ts, l⟩ else .inl (-22)
theorem read_x (b : Bytes) : Kp110.read b = (if 8192 < b.length then .inl (-28) else match lexF 0 b with
  | none => .inl (-71)
  | some ts => if 2048 < ts.length then .inl (-28) else match xFns 0 ts with
   | none => .inl (-71)
   | some l => if l.isEmpty then .inl (-71) else if 32 < l.length then .inl (-28) else if okProg l then .inr ⟨ts, l⟩ else .inl (-22)) := rfl
theorem read_eq (b : Bytes) : Kp110.read b = readM b := by
 rw [read_x]
 unfold readM
 by_cases h : 8192 < b.length
 ·rw [if_pos h, if_pos h]
 ·rw [if_neg h, if_neg h]
  cases lexF 0 b with
  | none => rfl
  | some ts =>
   dsimp only
   by_cases h2 : 2048 < ts.length
   ·rw [if_pos h2, if_pos h2]
   ·rw [if_neg h2, if_neg h2]
    cases xFns 0 ts with
    | none => rfl
    | some l =>
     dsimp only
     cases l with
     | nil => rfl
     | cons y l => rw [if_neg (show ¬ (y :: l).isEmpty = true by simp), if_neg (show ¬ (y :: l) = [] by simp)]
theorem readO_eq (t : List Int) : Kp110.readO (Kp110Neutral.textOf t) = readM (t.map Int.toNat) := by
 unfold Kp110Neutral.textOf
 by_cases h : t.length <= 8192
 ·rw [if_pos h]
  show Kp110.read (t.map Int.toNat) = _
  rw [read_eq]
 ·rw [if_neg h]
  unfold readM
  rw [List.length_map, if_pos (by omega)]
  rfl
theorem take_run_digits {c : Nat} {r : Bytes} (h : Kp110.digit c = true) (hs : Kp110.small c = false) : ∀ x ∈ (c :: r).take (qI (c :: r)), 48 <= x /\ x <= 57 := by
 have hd : ∀ x, Kp110.digit x = true -> 48 <= x /\ x <= 57 := fun x hx => by
  unfold Kp110.digit at hx
  rw [Bool.and_eq_true, decide_eq_true_eq, decide_eq_true_eq] at hx
  exact hx
 have e : qI (c :: r) = 1 + (r.takeWhile Kp110.digit).length := by
  unfold qI
  simp [h, hs, Nat.add_comm]
 rw [e, Nat.add_comm]
 show ∀ x ∈ c :: r.take (r.takeWhile Kp110.digit).length, _
 rw [take_tw]
 intro x hx
 rcases List.mem_cons.mp hx with rfl | hx
 ·exact hd _ h
 ·exact hd x (by
   have := List.all_takeWhile (p := Kp110.digit) (l := r)
   exact List.all_eq_true.mp this x hx)
theorem mkTok_num {a c : Nat} {r : Bytes} {t : Kp110.Tok} (h : mkTok a ((c :: r).take (qI (c :: r))) = some t) : t.kind = 1 -> NumOk t.text := by
 intro hk
 have hp := runLen_pos c r
 obtain ⟨n, hn⟩ : ∃ n, qI (c :: r) = n + 1 := ⟨qI (c :: r) - 1, by omega⟩
 have e : (c :: r).take (qI (c :: r)) = c :: r.take n := by rw [hn]; rfl
 have hall : Kp110.digit c = true -> Kp110.small c = false -> ∀ x ∈ c :: r.take n, 48 <= x /\ x <= 57 := fun h1 h2 => by
  rw [<- e]
  exact take_run_digits h1 h2
 rw [e, mkTok_cons] at h
 split at h
 ·split at h
  ·cases h
  ·have h := Option.some.inj h
   subst h
   dsimp only at hk
   split at hk <;> cases hk
 ·rename_i hs
  split at h
  ·rename_i hd
   split at h
   ·cases h
   ·rename_i hl
    have h := Option.some.inj h
    subst h
    exact ⟨by simp, by show (c :: r.take n).length <= 18; omega, hall hd (by simpa using hs)⟩
  ·split at h
   ·have h := Option.some.inj h
    subst h
    cases hk
   ·split at h
    ·have h := Option.some.inj h
     subst h
     cases hk
    ·cases h
theorem lexF_ok : ∀ (n : Nat) (a : Nat) (l : Bytes) (ts : List Kp110.Tok), l.length <= n -> lexF a l = some ts -> ∀ t ∈ ts, OkTok t
 | _, a, [], ts, _, h => by
  rw [lexF_nil] at h
  cases h
  intro t ht
  cases ht
 | 0, a, c :: r, ts, hn, h => by simp at hn
 | n + 1, a, c :: r, ts, hn, h => by
  have hr : r.length <= n := by simpa using hn
  by_cases h1 : c = 32 ∨ c = 10
  ·rw [lexF_cons, if_pos h1] at h
   exact lexF_ok n _ r ts hr h
  ·by_cases h2 : c = 35
   ·rw [lexF_cons, if_neg h1, if_pos h2] at h
    exact lexF_ok n _ _ ts (by rw [List.length_drop]; omega) h
   ·rw [lexF_tok h1 h2] at h
    cases hm : mkTok a ((c :: r).take (qI (c :: r))) with
    | none => rw [hm] at h; cases h
    | some t =>
     rw [hm] at h
     have hp := runLen_pos c r
     cases hl : lexF (a + qI (c :: r)) ((c :: r).drop (qI (c :: r))) with
     | none => rw [hl] at h; cases h
     | some q =>
      rw [hl] at h
      cases h
      have ih := lexF_ok n _ _ q (by rw [List.length_drop]; show (c :: r).length - _ <= n; have : (c :: r).length = r.length + 1 := rfl; omega) hl
      intro t' ht'
      rcases List.mem_cons.mp ht' with rfl | ht'
      ·exact (mkTok_ok hm).1
      ·exact ih t' ht'
theorem lexF_num : ∀ (n : Nat) (a : Nat) (l : Bytes) (ts : List Kp110.Tok), l.length <= n -> lexF a l = some ts -> ∀ t ∈ ts, t.kind = 1 -> NumOk t.text
 | _, a, [], ts, _, h => by
  rw [lexF_nil] at h
  cases h
  intro t ht
  cases ht
 | 0, a, c :: r, ts, hn, h => by simp at hn
 | n + 1, a, c :: r, ts, hn, h => by
  have hr : r.length <= n := by simpa using hn
  by_cases h1 : c = 32 ∨ c = 10
  ·rw [lexF_cons, if_pos h1] at h
   exact lexF_num n _ r ts hr h
  ·by_cases h2 : c = 35
   ·rw [lexF_cons, if_neg h1, if_pos h2] at h
    exact lexF_num n _ _ ts (by rw [List.length_drop]; omega) h
   ·rw [lexF_tok h1 h2] at h
    cases hm : mkTok a ((c :: r).take (qI (c :: r))) with
    | none => rw [hm] at h; cases h
    | some t =>
     rw [hm] at h
     have hp := runLen_pos c r
     cases hl : lexF (a + qI (c :: r)) ((c :: r).drop (qI (c :: r))) with
     | none => rw [hl] at h; cases h
     | some q =>
      rw [hl] at h
      cases h
      have ih := lexF_num n _ _ q (by rw [List.length_drop]; show (c :: r).length - _ <= n; have : (c :: r).length = r.length + 1 := rfl; omega) hl
      intro t' ht'
      rcases List.mem_cons.mp ht' with rfl | ht'
      ·exact mkTok_num hm
      ·exact ih t' ht'
structure Gs3 (mg : Str -> Option Value) : Prop where
 mostBytes : GI mg "MOST_BYTES" 8192
 mostTokens : GI mg "MOST_TOKENS" 2048
 mostFns : GI mg "MOST_FUNCTIONS" 32
 tooMuch : GI mg "TOO_MUCH" (-28)
 noProgram : GI mg "NO_PROGRAM" (-71)
 notRight : GI mg "NOT_RIGHT" (-22)
structure TM (K : PySem.W.Frag) (mg : Str -> Option Value) (cTM : Addr) : Prop where
 tm : mg "TooMuch" = some (.ref cTM)
 tmD : excD K cTM = true
def spTokens (K : PySem.W.Frag) (cTM cNP : Addr) : Sp := fun vs H Q E => ∃ (a : Addr) (bs : List Nat), vs = [V.ref a] /\ qZ K H a (bv bs) /\ (8192 < bs.length -> ∀ H', E (.ref cTM) none H') /\ (¬ 8192 < bs.length -> lexF 0 bs = none -> ∀ H', E (.ref cNP) none H') /\
 (¬ 8192 < bs.length -> ∀ ts, lexF 0 bs = some ts -> (2048 < ts.length -> ∀ H', E (.ref cTM) none H') /\ (¬ 2048 < ts.length -> ∀ (H' : Hp) (l : Addr) (ps : List Addr), Same H H' -> H' l = some (.lst (ps.map V.ref)) -> TokL H' ps ts -> Q (.ref l) H'))
def spFns (cF cTM cNP cNR : Addr) : Sp := fun vs H Q E => ∃ (tl : Addr) (ps : List Addr) (ts : List Kp110.Tok), vs = [V.ref tl] /\ H tl = some (.lst (ps.map V.ref)) /\ TokL H ps ts /\ Tks 0 ts 0 [] /\ ((xFns 0 ts = none ∨ xFns 0 ts = some []) -> ∀ H', E (.ref cNP) none H') /\
 ∀ l, xFns 0 ts = some l -> l ≠ [] -> (32 < l.length -> ∀ H', E (.ref cTM) none H') /\ (¬ 32 < l.length -> okProg l = false -> ∀ H', E (.ref cNR) none H') /\ (¬ 32 < l.length -> okProg l = true -> ∀ (H' : Hp) (a : Addr) (fos : List Addr), Same H H' -> H' a = some (.lst (fos.map V.ref)) -> FnL cF H' fos l -> Q (.ref a) H')
def rdf (a b c : V) : List (Str × V) := [("refusal", a), ("tokens", b), ("functions", c)]
theorem rdf_ref (a b c : V) : (rdf a b c).lookup ("refusal" : Str) = some a := by kernel_rfl
theorem rdf_fns (a b c : V) : (rdf a b c).lookup ("functions" : Str) = some c := by kernel_rfl
theorem rdf_made (a b c : V) : qK "functions" c (qK "tokens" b (qK "refusal" a [])) = rdf a b c := by kernel_rfl
structure DC (K : PySem.W.Frag) (cD : Addr) : Prop where
 cl : Cls K cD
 nRef : qS K cD "refusal"
 nTok : qS K cD "tokens"
 nFns : qS K cD "functions"
def spRdInit (cD : Addr) : Sp := fun vs H Q _ => ∃ (x dx : Addr) (a b c : V), vs = [.ref x, a, b, c] /\ H x = some (.ins cD dx []) /\ ∀ H', H' x = some (.ins cD dx (rdf a b c)) -> (∀ b o, H b = some o -> b ≠ x -> H' b = some o) -> Q .non H'
def spReading (K : PySem.W.Frag) (cD cF : Addr) : Sp := fun vs H Q _ => ∃ (a : Addr) (bs : List Nat), vs = [V.ref a] /\ qZ K H a (bv bs) /\
 (∀ v, readM bs = .inl v -> v ≠ 0 -> ∀ H' x dx b c, H' x = some (.ins cD dx (rdf (.int v) b c)) -> Q (.ref x) H') /\
 (∀ p, readM bs = .inr p -> ∀ (H' : Hp) (x dx tl fl : Addr) (ps fos : List Addr), H' x = some (.ins cD dx (rdf (.int 0) (.ref tl) (.ref fl))) -> H' tl = some (.lst (ps.map V.ref)) -> ps.length = p.toks.length -> H' fl = some (.lst (fos.map V.ref)) -> FnL cF H' fos p.fns -> Same H H' -> Q (.ref x) H')
section
variable {P : Program} {w : World} {K : PySem.W.Frag} {mg : Str -> Option Value} {base : Heap} {cD cF cTM cNP cNR aW aS : Addr}
theorem scTok : FnScope ["t", "tokens"] ["t"] (zJ sTok) := scK
theorem ok_tokens {f fP : Addr} {fd fdP : FuncData} (D : Dn K mg "tokens_of" sTok ["t"] f fd) (DP : Dn K mg "part" sPart ["t"] fP fdP) (G : Gs mg) (G3 : Gs3 mg) (M : TM K mg cTM) (GP : FnOk P w K mg base (CXW P w) 6 fP fdP ["t"] (spPart K cNP)) : FnOk P w K mg base (CXW P w) 7 f fd ["t"] (spTokens K cTM cNP) := by
 refine D.fn.okW scTok (fun vs H Q E h => ?_) (fun cdv A outer s H vs Q E hr h => ?_)
 ·obtain ⟨a, bs, rfl, _⟩ := h
  rfl
 ·obtain ⟨a, bs, rfl, hS, k1, k2, k3⟩ := h
  refine ⟨_, zB (zZ (zM op_gt (yD G.len (pv 0)) (qL G3.mostBytes) (nomark _)) (zC (qF makeW rfl rfl M.tm M.tmD)) zY) (zB (qB (i := 1) scTok.nd rfl (Or.inl rfl) (zO GP hr rfl DP.mgf DP.fn.kp DP.bi .nil zT (zA (pv 0) zE))) (zB (zZ (zM op_gt (yD G.len (pv 1)) (qL G3.mostTokens) (nomark _)) (zC (qF makeW rfl rfl M.tm M.tmD)) zY) (zC (zW (pv 1))))), ?_⟩
  refine ⟨_, rfl, a, _, rfl, .inl hS, _, _, rfl, rfl, _, rfl, ?_⟩
  refine qG (fun h1 => ?_) (fun h1 => ?_)
  ·have h1 := of_decide_eq_true h1
   rw [bv_len] at h1
   exact k1 (by omega) H
  ·have h1 : ¬ 8192 < bs.length := fun z => h1 (decide_eq_true (by rw [bv_len]; omega))
   refine ⟨_, rfl, a, bs, rfl, hS, by omega, k2 h1, fun ts hts H' l ps s1 hl hT => ?_⟩
   obtain ⟨k4, k5⟩ := k3 h1 ts hts
   refine ⟨_, rfl, l, _, rfl, .inl (qZ.of hl), _, _, rfl, rfl, _, rfl, ?_⟩
   refine qG (fun h2 => ?_) (fun h2 => ?_)
   ·have h2 := of_decide_eq_true h2
    rw [List.length_map, hT.len] at h2
    exact k4 (by omega) H'
   ·exact ⟨_, rfl, k5 (fun z => h2 (decide_eq_true (by rw [List.length_map, hT.len]; omega))) H' l ps s1 hl hT⟩
theorem scFns : FnScope ["tokens", "functions"] ["tokens"] (zJ sFns) := scK
theorem ok_fns {f fP fC : Addr} {fd fdP fdC : FuncData} (D : Dn K mg "functions_of" sFns ["tokens"] f fd) (DP : Dn K mg "read_program" sProg ["tokens"] fP fdP) (DC : Dn K mg "check_right" sCR ["functions"] fC fdC) (G : Gs mg) (G3 : Gs3 mg) (M : TM K mg cTM)
  (GP : FnOk P w K mg base (CXW P w) 200 fP fdP ["tokens"] (spProg cF cNP)) (GC : FnOk P w K mg base (CXW P w) 4 fC fdC ["functions"] (spCR cF cNR)) : FnOk P w K mg base (CXW P w) 201 f fd ["tokens"] (spFns cF cTM cNP cNR) := by
 refine D.fn.okW scFns (fun vs H Q E h => ?_) (fun cdv A outer s H vs Q E hr h => ?_)
 ·obtain ⟨tl, ps, ts, rfl, _⟩ := h
  rfl
 ·obtain ⟨tl, ps, ts, rfl, hl, hT, T0, kE, kk⟩ := h
  have hr4 : Room 4 _ := hr.mono (by omega)
  refine ⟨_, zB (qB (i := 1) scFns.nd rfl (Or.inl rfl) (zO GP hr rfl DP.mgf DP.fn.kp DP.bi .nil zT (zA (pv 0) zE))) (zB (zZ (zM op_gt (yD G.len (pv 1)) (qL G3.mostFns) (nomark _)) (zC (qF makeW rfl rfl M.tm M.tmD)) zY) (zB (zL (zO GC hr4 rfl DC.mgf DC.fn.kp DC.bi .nil zT (zA (pv 1) zE))) (zC (zW (pv 1))))), ?_⟩
  refine ⟨_, rfl, tl, ps, ts, rfl, hl, hT, T0, kE, fun l hx hne H1 a fos s1 ha hF => ?_⟩
  obtain ⟨k1, k2, k3⟩ := kk l hx hne
  refine ⟨_, rfl, a, _, rfl, .inl (qZ.of ha), _, _, rfl, rfl, _, rfl, ?_⟩
  refine qG (fun h1 => ?_) (fun h1 => ?_)
  ·have h1 := of_decide_eq_true h1
   rw [List.length_map, hF.len] at h1
   exact k1 (by omega) H1
  ·have h1 : ¬ 32 < l.length := fun z => h1 (decide_eq_true (by rw [List.length_map, hF.len]; omega))
   refine ⟨_, rfl, a, fos, l, rfl, ha, hF, by omega, k2 h1, fun hok H2 s2 => ?_⟩
   exact ⟨_, rfl, k3 h1 hok H2 a fos (s1.trans s2) (s2 _ _ ha) (hF.same s2)⟩
theorem scRdInit : FnScope ["self", "refusal", "tokens", "functions"] ["self", "refusal", "tokens", "functions"] (zJ sRdInit) := scK
theorem ok_rdInit {f : Addr} {fd : FuncData} (F : Fun K "__init__" "Reading.__init__" sRdInit f fd) (C : DC K cD) : FnOk P w K mg base (CXW P w) 1 f fd ["self", "refusal", "tokens", "functions"] (spRdInit cD) := by
 refine F.okW scRdInit (fun vs H Q E h => ?_) (fun cdv A outer s H vs Q E hr h => ?_)
 ·obtain ⟨x, dx, a, b, c, rfl, _⟩ := h
  rfl
 ·obtain ⟨x, dx, a, b, c, rfl, hx, kk⟩ := h
  refine ⟨_, zB (qR (pv 0) (pv 1) rfl) (zB (qR (pv 0) (pv 2) rfl) (zC (qR (pv 0) (pv 3) rfl))), ?_⟩
  refine ⟨_, rfl, _, rfl, x, cD, dx, _, rfl, hx, C.cl, C.nRef, (by show 0 < 1000; decide), ?_⟩
  refine ⟨_, rfl, _, rfl, x, cD, dx, _, rfl, zG, C.cl, C.nTok, (by show 1 < 1000; decide), ?_⟩
  rw [upd_upd]
  refine ⟨_, rfl, _, rfl, x, cD, dx, _, rfl, zG, C.cl, C.nFns, (by have := yP "tokens" b (qK "refusal" a []); exact Nat.lt_of_le_of_lt this (by show 2 < 1000; decide)), ?_⟩
  rw [upd_upd, rdf_made]
  exact kk _ zG fun b o e hb => by rw [zF hb]; exact e
theorem ok_rdInitH {f : Addr} {fd : FuncData} (F : Fun K "__init__" "Reading.__init__" sRdInit f fd) (C : DC K cD) : FnOkH P w K mg base 1 f fd ["self", "refusal", "tokens", "functions"] (spRdInit cD) := by
 refine F.okH scRdInit (fun vs H Q E h => ?_) (fun cdv A outer s H vs Q h => ?_)
 ·obtain ⟨x, dx, a, b, c, rfl, _⟩ := h
  rfl
 ·obtain ⟨x, dx, a, b, c, rfl, hx, kk⟩ := h
  refine ⟨_, zB (qR (pv 0) (pv 1) rfl) (zB (qR (pv 0) (pv 2) rfl) (zC (qR (pv 0) (pv 3) rfl))), ?_⟩
  refine ⟨_, rfl, _, rfl, x, cD, dx, _, rfl, hx, C.cl, C.nRef, (by show 0 < 1000; decide), ?_⟩
  refine ⟨_, rfl, _, rfl, x, cD, dx, _, rfl, zG, C.cl, C.nTok, (by show 1 < 1000; decide), ?_⟩
  rw [upd_upd]
  refine ⟨_, rfl, _, rfl, x, cD, dx, _, rfl, zG, C.cl, C.nFns, (by have := yP "tokens" b (qK "refusal" a []); exact Nat.lt_of_le_of_lt this (by show 2 < 1000; decide)), ?_⟩
  rw [upd_upd, rdf_made]
  exact kk _ zG fun b o e hb => by rw [zF hb]; exact e
theorem scReading : FnScope ["t", "tokens", "functions"] ["t"] (zJ sReading) := scK
theorem ok_reading {f fT fF fDI : Addr} {fd fdT fdF fdDI : FuncData} (D : Dn K mg "reading_of" sReading ["t"] f fd) (DT : Dn K mg "tokens_of" sTok ["t"] fT fdT) (DF : Dn K mg "functions_of" sFns ["tokens"] fF fdF) (C : DC K cD) (CD : CI K mg cD fDI fdDI "Reading" "Reading.__init__" sRdInit ["self", "refusal", "tokens", "functions"])
  (G : Gs mg) (G3 : Gs3 mg) (M : TM K mg cTM) (B : Tb K mg cNP aW aS) (N : NR K mg cNR) (n1 : cNP ≠ cTM) (n2 : cNR ≠ cTM) (n3 : cNR ≠ cNP)
  (GT : FnOk P w K mg base (CXW P w) 7 fT fdT ["t"] (spTokens K cTM cNP)) (GF : FnOk P w K mg base (CXW P w) 201 fF fdF ["tokens"] (spFns cF cTM cNP cNR)) : FnOk P w K mg base (CXW P w) 202 f fd ["t"] (spReading K cD cF) := by
 have GI : FnOk P w K mg base (CXW P w) 1 fDI fdDI ["self", "refusal", "tokens", "functions"] (spRdInit cD) := ok_rdInit CD.fI C
 have GIH : FnOkH P w K mg base 1 fDI fdDI ["self", "refusal", "tokens", "functions"] (spRdInit cD) := ok_rdInitH CD.fI C
 refine D.fn.okW scReading (fun vs H Q E h => ?_) (fun cdv A outer s H vs Q E hr h => ?_)
 ·obtain ⟨a, bs, rfl, _⟩ := h
  rfl
 ·obtain ⟨a, bs, rfl, hS, kI, kO⟩ := h
  have hr7 : Room 7 _ := hr.mono (by omega)
  have hr2 : Room 2 _ := hr.mono (by omega)
  have hrF : Room 201 _ := hr
  refine ⟨_, zB (ps_try ⟨rfl, rfl⟩ (fun xe pn E1 hp => zB (qB (i := 1) scReading.nd rfl (Or.inl rfl) (zO GT hr7 rfl DT.mgf DT.fn.kp DT.bi .nil hp (zA (pv 0) zE))) (zC (qB (i := 2) scReading.nd rfl (Or.inl rfl) (zO GF hrF rfl DF.mgf DF.fn.kp DF.bi .nil hp (zA (pv 1) zE))))) (ph_cons rfl M.tm M.tmD (fun a => zC (zW (pe_makeH CD.mkC GIH (hr2.h.mark _) rfl CD.mgC CD.bI .nil (zA (qL G3.tooMuch) (zA (yC zE) (zA (yC zE) zE)))))) (ph_cons rfl B.np B.npD (fun a => zC (zW (pe_makeH CD.mkC GIH (hr2.h.mark _) rfl CD.mgC CD.bI .nil (zA (qL G3.noProgram) (zA (yC zE) (zA (yC zE) zE)))))) (ph_cons rfl N.nr N.nrD (fun a => zC (zW (pe_makeH CD.mkC GIH (hr2.h.mark _) rfl CD.mgC CD.bI .nil (zA (qL G3.notRight) (zA (yC zE) (zA (yC zE) zE)))))) (ph_nil))))) (zC (zW (pe_make CD.mkC GI hr2 rfl CD.mgC CD.bI .nil qC (zA zQ (zA (pv 1) (zA (pv 2) zE)))))), ?_⟩
  have ans : ∀ (v : Int) (H' : Hp), readM bs = .inl v -> v ≠ 0 -> ([] : List V).length <= sizeLine /\ ∀ p, H' p = none -> ([] : List V).length <= sizeLine /\ ∀ q, upd H' p (.lst []) q = none -> ∀ x dx, upd (upd H' p (.lst [])) q (.lst []) x = none -> upd (upd H' p (.lst [])) q (.lst []) dx = none -> dx ≠ x ->
    spRdInit cD (.ref x :: ([.int v, .ref p, .ref q] ++ [])) (upd (upd (upd (upd H' p (.lst [])) q (.lst [])) dx (.own x)) x (.ins cD dx [])) (fun u H2 => u = .non /\ Q (.ref x) H2) E0 := fun v H' e hv =>
   ⟨Nat.zero_le _, fun p hp => ⟨Nat.zero_le _, fun q hq x dx hx hdx ne => ⟨x, dx, _, _, _, rfl, zG, fun H2 h2 _ => ⟨rfl, kI v e hv H2 x dx _ _ h2⟩⟩⟩⟩
  refine ⟨_, rfl, a, bs, rfl, hS, fun h1 H' C e σ' => ?_, fun h1 hn H' C e σ' => ?_, fun h1 ts hts => ⟨fun h2 H' C e σ' => ?_, fun h2 H1 l ps s1 hl hT => ?_⟩⟩
  ·cases e
   exact .inl ⟨rfl, ans (-28) H' (by unfold readM; rw [if_pos h1]) (by decide)⟩
  ·cases e
   exact .inr ⟨n1, B.npD, .inl ⟨rfl, ans (-71) H' (by unfold readM; rw [if_neg h1, hn]) (by decide)⟩⟩
  ·cases e
   exact .inl ⟨rfl, ans (-28) H' (by unfold readM; rw [if_neg h1, hts]; dsimp only; rw [if_pos h2]) (by decide)⟩
  ·have T0 : Tks 0 ts 0 [] := ⟨Nat.zero_le _, by omega, lexF_ok bs.length 0 bs ts (Nat.le_refl _) hts, lexF_num bs.length 0 bs ts (Nat.le_refl _) hts, Nat.le_refl _⟩
   have hM : readM bs = match xFns 0 ts with
    | none => .inl (-71)
    | some l => if l = [] then .inl (-71) else if 32 < l.length then .inl (-28) else if okProg l then .inr ⟨ts, l⟩ else .inl (-22) := by
    unfold readM
    rw [if_neg h1, hts]
    dsimp only
    rw [if_neg h2]
   refine ⟨_, rfl, l, ps, ts, rfl, hl, hT, T0, fun hn H' C e σ' => ?_, fun fl hx hne => ⟨fun h3 H' C e σ' => ?_, fun h3 hok H' C e σ' => ?_, fun h3 hok H2 a2 fos s2 ha2 hfl => ?_⟩⟩
   ·cases e
    refine .inr ⟨n1, B.npD, .inl ⟨rfl, ans (-71) H' ?_ (by decide)⟩⟩
    rcases hn with hn | hn
    ·rw [hM, hn]
    ·rw [hM, hn]
     rfl
   ·cases e
    refine .inl ⟨rfl, ans (-28) H' ?_ (by decide)⟩
    rw [hM, hx]
    dsimp only
    rw [if_neg hne, if_pos h3]
   ·cases e
    refine .inr ⟨n2, N.nrD, .inr ⟨n3, N.nrD, .inl ⟨rfl, ans (-22) H' ?_ (by decide)⟩⟩⟩
    rw [hM, hx]
    dsimp only
    rw [if_neg hne, if_neg h3, hok]
    rfl
   ·rw [hx] at hM
    dsimp only at hM
    rw [if_neg hne, if_neg h3, hok] at hM
    refine ⟨_, rfl, _, rfl, fun x dx hx0 hdx0 nxx => ?_⟩
    have s3 : Same H2 (upd (upd H2 dx (.own x)) x (.ins cD dx [])) := fun c o e => by
     rw [zF (zH e hx0), zF (zH e hdx0)]
     exact e
    refine ⟨x, dx, _, _, _, rfl, zG, fun H4 h4 k4 => ⟨rfl, ?_⟩⟩
    have s4 : Same H2 H4 := fun c o e => k4 c o (s3 c o e) (zH e hx0)
    exact kO ⟨ts, fl⟩ hM H4 x dx l a2 ps fos h4 (s4 _ _ (s2 _ _ hl)) hT.len (s4 _ _ ha2) (hfl.same s4) ((s1.trans s2).trans s4)
end
end SM
end
section
set_option Elab.async false
set_option linter.all false
set_option maxRecDepth 100000
set_option maxHeartbeats 2000000
namespace PySem.AutoSeq1
open PySem PyProof.Rows
theorem extend_tup (l b : Addr) (xs ys : Array Value) (k j : Nat) (dt : Option Addr) (sl : Array (Option Value)) (h0 : ¬(!xs.isEmpty && Builtin.List.listTooLong (xs.size + ys.size)) = true) (h1 : xs.size <= sizeLine) (h2 : xs.size + ys.size <= sizeLine + 1) :
  Meets (Builtin.«list.extend» ⟨[.ref l, .ref b], []⟩) (fun _ R s => s.heap.get? l = some { cls := .type "list", dict := none, data := .seq xs k, slots := #[] } /\ s.heap.get? b = some { cls := .type "tuple", dict := dt, data := .seq ys j, slots := sl } /\
   R (.ok (.ret Value.none)) { s with heap := s.heap.update l (Obj.mapSeq fun x => x ++ ys), toks := s.toks }) :=
 .of_wp fun prog w A R s hyp => by
  obtain ⟨hp, gg, dd, tk, os⟩ := s
  obtain ⟨eL, eB, hR⟩ := hyp
  have q1 := idx_int
  have q2 := sub_tuple_tuple
  have q3 := sub_list_list
  have q4 := sub_tuple_list
  have q5 := sub_list_tuple
  have hj : (xs ++ ys).size <= sizeLine + 1 := by
   rw [Array.size_append]
   exact h2
  wp_walk using (wpAny_updateSeq eL rfl (hz := h1) (_hz' := hj)), wpAny_loadPart' eL, wpAny_loadPart' eB
  exact ⟨_, rfl, hR⟩
end PySem.AutoSeq1
namespace L2
open PySem PySem.Spec PyProof.Rows
section
variable {X : Cx}
def rExtendT : V -> List V -> Hp -> VK -> Prop := fun x vs H Q => ∃ l b xs zs, x = .ref l /\ vs = [.ref b] /\ H l = some (.lst xs) /\ H b = some (.tup zs) /\ xs.length + zs.length <= sizeLine /\ Q .non (upd H l (.lst (xs ++ zs)))
theorem mt_extendT : MtM X "list.extend" rExtendT := by
 intro pins s σ H x vs v us Q I rx rv h
 obtain ⟨l, b, xs, zs, rfl, rfl, hH, hB, hz, q⟩ := h
 cases rx
 obtain ⟨u, rfl, ru⟩ := rv.one
 cases ru
 obtain ⟨z, its, n, r, hl, e⟩ := I.lstM hH
 obtain ⟨z2, its2, r2, ⟨ob, e2, hc, n2, hdt⟩⟩ : zs.length <= sizeLine /\ ∃ its : List Value, Vals zs its /\ IsTup s.heap b its.toArray := I.hok b _ hB
 obtain ⟨cl, dt, da, sl⟩ := ob
 dsimp only at hc hdt
 subst hc hdt
 have hl2 := r2.length
 have hsz : its.toArray.size + its2.toArray.size <= sizeLine := by rw [List.size_toArray, List.size_toArray]; omega
 have hlong : ¬ (!its.toArray.isEmpty && Builtin.List.listTooLong (its.toArray.size + its2.toArray.size)) = true := by
  rw [notLongL hsz, Bool.and_false]
  exact Bool.false_ne_true
 refine call_meets F.slot_list_extend ⟨_, e, rfl⟩ F.entry_list_extend (F.args_list_extend_2 _ _) (PySem.AutoSeq1.extend_tup l b its.toArray its2.toArray n n2 dt sl hlong (by rw [List.size_toArray]; omega) (by omega)) ⟨e, e2, ?_⟩
 refine ⟨.non, _, I.lset (its' := its ++ its2) hH e (by simp) (r.append r2) ?_, rfl, q⟩
 rw [List.length_append]
 omega
theorem op_fdiv64 : OpR X (binaryOp .FloorDiv) (rI (fun _ j => 0 < j /\ j <= 9223372036854775808) fun i j => .int (i / j)) := opI fun i j _ _ _ _ _ hc q => by
 have h1 : (0 : Int) < j := hc.1
 have h2 : j <= 9223372036854775808 := hc.2
 refine floordiv_int (by omega) (by rw [Int.fdiv_eq_ediv_of_nonneg i (by omega)]; exact q) (.inl (PyProof.noPylong_of_log2 ?_))
 have h3 : j.natAbs.log2 < 64 := (Nat.log2_lt (by omega)).mpr (by omega)
 omega
end
end L2
namespace SM
open PySem PySem.Spec PyProof.Rows L2
open Kp110 (Bytes opBin val)
abbrev sInside : Stmt := top 39
abbrev sQuot : Stmt := top 40
abbrev sOne : Stmt := top 41
abbrev sTwo : Stmt := top 42
theorem boot_a : bootBuiltins "abs" = some (.builtin "abs") := by decide +kernel
structure Gs5 (mg : Str -> Option Value) : Prop where
 least : GI mg "LEAST" (-9223372036854775808)
 most : GI mg "MOST" 9223372036854775807
 mostCalls : GI mg "MOST_CALLS" 64
 asked : GI mg "ASKED" 0
 told : GI mg "TOLD" 1
 abs : mg "abs" = none
 rev : mg "reversed" = none
structure XR (K : PySem.W.Frag) (mg : Str -> Option Value) (cZ cO cN cC : Addr) : Prop where
 z : mg "PartedByZero" = some (.ref cZ)
 zD : excD K cZ = true
 o : mg "Outside" = some (.ref cO)
 oD : excD K cO = true
 n : mg "NoStepsLeft" = some (.ref cN)
 nD : excD K cN = true
 c : mg "TooManyCalls" = some (.ref cC)
 cD : excD K cC = true
theorem val_ok {z : Int} (h : In64 z) (s : Kp110.St) : val z s = .ok z s := by
 unfold Kp110.val
 rw [if_pos ⟨by have := h.1; omega, by have := h.2; omega⟩]
theorem val_no {z : Int} (h : ¬ In64 z) (s : Kp110.St) : val z s = .halt_ (-34) s := by
 unfold Kp110.val
 rw [if_neg fun q => h ⟨by have := q.1; omega, by have := q.2; omega⟩]
def absI (a : Int) : Int := if a < 0 then -a else a
theorem tdiv_abs (a b : Int) : Int.tdiv a b = if (decide (a < 0)) = (decide (b < 0)) then absI a / absI b else -(absI a / absI b) := by
 unfold absI
 by_cases h1 : a < 0 <;> by_cases h2 : b < 0
 ·simp only [h1, h2, decide_true, if_true]
  rw [<- Int.neg_tdiv_neg, Int.tdiv_eq_ediv_of_nonneg (by omega)]
 ·simp only [h1, h2, decide_true, decide_false, if_true, if_false]
  rw [if_neg (by decide), <- Int.tdiv_eq_ediv_of_nonneg (by omega), Int.neg_tdiv, Int.neg_neg]
 ·simp only [h1, h2, decide_true, decide_false, if_true, if_false]
  rw [if_neg (by decide), <- Int.tdiv_eq_ediv_of_nonneg (by omega), Int.tdiv_neg, Int.neg_neg]
 ·simp only [h1, h2, decide_false, if_true, if_false]
  rw [Int.tdiv_eq_ediv_of_nonneg (by omega)]
def spInside (cO : Addr) : Sp := fun vs H Q E => ∃ z : Int, vs = [V.int z] /\ (In64 z -> Q (.int z) H) /\ (¬ In64 z -> E (.ref cO) none H)
def spQuot (cZ : Addr) : Sp := fun vs H Q E => ∃ a b : Int, vs = [V.int a, V.int b] /\ In64 b /\ (b = 0 -> E (.ref cZ) none H) /\ (b ≠ 0 -> Q (.int (Int.tdiv a b)) H)
def spOne (cO : Addr) : Sp := fun vs H Q E => ∃ (op : Nat) (a : Int) (s : Kp110.St), vs = [V.str (opS op), V.int a] /\ okM (.one op) /\ (∀ z, unR op a s = .ok z s -> Q (.int z) H) /\ (unR op a s = .halt_ (-34) s -> E (.ref cO) none H)
def spTwo (cZ cO : Addr) : Sp := fun vs H Q E => ∃ (op : Nat) (a b : Int) (s : Kp110.St), vs = [V.str (opS op), V.int a, V.int b] /\ okM (.two op) /\ In64 a /\ In64 b /\ (∀ z, opBin op a b s = .ok z s -> Q (.int z) H) /\ (opBin op a b s = .halt_ (-34) s -> E (.ref cO) none H) /\ (opBin op a b s = .halt_ (-33) s -> E (.ref cZ) none H)
section
variable {P : Program} {w : World} {K : PySem.W.Frag} {mg : Str -> Option Value} {base : Heap} {cZ cO cN cC : Addr}
theorem scInside : FnScope ["number"] ["number"] (zJ sInside) := scK
theorem ok_inside {f : Addr} {fd : FuncData} (D : Dn K mg "inside" sInside ["number"] f fd) (G5 : Gs5 mg) (X : XR K mg cZ cO cN cC) : FnOk P w K mg base (CXW P w) 1 f fd ["number"] (spInside cO) := by
 refine D.fn.okW scInside (fun vs H Q E h => ?_) (fun cdv A outer s H vs Q E hr h => ?_)
 ·obtain ⟨z, rfl, _⟩ := h
  rfl
 ·obtain ⟨z, rfl, k1, k2⟩ := h
  refine ⟨_, zB (zZ (PW.pt (pw_or (zM op_lt (pv 0) (qL G5.least) (nomark _)) (pw_or1 (zM op_gt (pv 0) (qL G5.most) (nomark _))))) (zC (qF makeW rfl rfl X.o X.oD)) zY) (zC (zW (pv 0))), ?_⟩
  refine ⟨_, rfl, _, _, rfl, rfl, _, rfl, ?_⟩
  refine qG (fun h1 => ?_) (fun h1 => ?_)
  ·dsimp only
   rw [if_pos rfl]
   exact k2 fun q => by have := of_decide_eq_true h1; have := q.1; omega
  ·have h1 : ¬ z < -9223372036854775808 := fun q => h1 (decide_eq_true q)
   refine ⟨_, rfl, _, _, rfl, rfl, _, rfl, ?_⟩
   refine qG (fun h2 => ?_) (fun h2 => ?_)
   ·exact k2 fun q => by have := of_decide_eq_true h2; have := q.2; omega
   ·have h2 : ¬ 9223372036854775807 < z := fun q => h2 (decide_eq_true q)
    exact ⟨_, rfl, k1 ⟨by omega, by omega⟩⟩
theorem scQuot : FnScope ["left", "right", "size"] ["left", "right"] (zJ sQuot) := scK
theorem ok_quot {f : Addr} {fd : FuncData} (D : Dn K mg "quotient" sQuot ["left", "right"] f fd) (G5 : Gs5 mg) (X : XR K mg cZ cO cN cC) : FnOk P w K mg base (CXW P w) 1 f fd ["left", "right"] (spQuot cZ) := by
 refine D.fn.okW scQuot (fun vs H Q E h => ?_) (fun cdv A outer s H vs Q E hr h => ?_)
 ·obtain ⟨a, b, rfl, _⟩ := h
  rfl
 ·obtain ⟨a, b, rfl, hb, k1, k2⟩ := h
  refine ⟨_, zB (zZ (zM qE (pv 1) zQ (nomark _)) (zC (qF makeW rfl rfl X.z X.zD)) zY) (zB (qB (i := 2) scQuot.nd rfl (Or.inl rfl) (pe_op op_fdiv64 (pe_callB call_abs (by rfl) G5.abs boot_a (zA (pv 0) zE)) (pe_callB call_abs (by rfl) G5.abs boot_a (zA (pv 1) zE)))) (zB (zZ (zM op_ne (pe_cmpR op_lt (pv 0) zQ (nomark _)) (pe_cmpR op_lt (pv 1) zQ (nomark _)) rfl) (zC (zW (pe_un un_neg (pv 2)))) zY) (zC (zW (pv 2))))), ?_⟩
  refine ⟨_, rfl, rfl, _, rfl, ?_⟩
  refine qG (fun h1 => ?_) (fun h1 => ?_)
  ·exact k1 (V.int.inj (of_decide_eq_true h1))
  ·have hb0 : b ≠ 0 := fun q => h1 (decide_eq_true (by rw [q]))
   have k2 := k2 hb0
   rw [tdiv_abs] at k2
   have hpos : 0 < absI b /\ absI b <= 9223372036854775808 := by
    obtain ⟨q1, q2⟩ := hb
    unfold absI
    split <;> omega
   refine ⟨_, rfl, _, rfl, _, rfl, _, rfl, _, _, rfl, rfl, hpos, ?_⟩
   refine ⟨_, rfl, _, _, rfl, rfl, _, rfl, _, _, rfl, rfl, rfl, _, rfl, ?_⟩
   refine qG (fun h2 => ?_) (fun h2 => ?_)
   ·have h2 : (!decide (V.bl (decide (a < 0)) = V.bl (decide (b < 0)))) = true := h2
    have h3 : ¬ decide (a < 0) = decide (b < 0) := fun q => by
     rw [q] at h2
     simp at h2
    rw [if_neg h3] at k2
    exact ⟨_, rfl, _, rfl, k2⟩
   ·have h3 : decide (a < 0) = decide (b < 0) := by
     have := Decidable.byContradiction (p := V.bl (decide (a < 0)) = V.bl (decide (b < 0))) fun q => h2 (by rw [decide_eq_false q]; rfl)
     exact V.bl.inj this
    rw [if_pos h3] at k2
    exact ⟨_, rfl, k2⟩
theorem scOne : FnScope ["sign", "number"] ["sign", "number"] (zJ sOne) := scK
theorem ok_oneR {f fI : Addr} {fd fdI : FuncData} (D : Dn K mg "reckon_one" sOne ["sign", "number"] f fd) (DI : Dn K mg "inside" sInside ["number"] fI fdI) (G5 : Gs5 mg) (X : XR K mg cZ cO cN cC) : FnOk P w K mg base (CXW P w) 2 f fd ["sign", "number"] (spOne cO) := by
 have GI : FnOk P w K mg base (CXW P w) 1 fI fdI ["number"] (spInside cO) := ok_inside DI G5 X
 refine D.fn.okW scOne (fun vs H Q E h => ?_) (fun cdv A outer s H vs Q E hr h => ?_)
 ·obtain ⟨op, a, st, rfl, _⟩ := h
  rfl
 ·obtain ⟨op, a, st, rfl, ho, k1, k2⟩ := h
  refine ⟨_, zB (zZ (zM qE (pv 0) zK (nomark _)) (zC (zW (zO GI hr rfl DI.mgf DI.fn.kp DI.bi .nil zT (zA (pe_un un_neg (pv 1)) zE)))) zY) (zC (zW (pe_ifExp (zM qE (pv 1) zQ (nomark _)) zQ zQ))), ?_⟩
  have ho : op = 45 ∨ op = 33 := ho
  rcases ho with rfl | rfl
  ·refine ⟨_, rfl, rfl, _, rfl, yJ ?_⟩
   have hu : unR 45 a st = val (-a) st := rfl
   rw [hu] at k1 k2
   exact ⟨_, rfl, _, rfl, _, rfl, fun h => k1 _ (val_ok h st), fun h => k2 (val_no h st)⟩
  ·refine ⟨_, rfl, rfl, _, rfl, zN ?_⟩
   have hu : unR 33 a st = .ok (Kp110.bool (decide (a = 0))) st := rfl
   have k1 := k1 _ hu
   refine ⟨_, rfl, rfl, _, rfl, ?_⟩
   refine qG (fun h1 => ?_) (fun h1 => ?_)
   ·have : a = 0 := V.int.inj (of_decide_eq_true h1)
    rw [decide_eq_true this] at k1
    exact k1
   ·have : ¬ a = 0 := fun q => h1 (decide_eq_true (by rw [q]))
    rw [decide_eq_false this] at k1
    exact k1
theorem scTwo : FnScope ["sign", "left", "right"] ["sign", "left", "right"] (zJ sTwo) := scK
theorem mul_fit {a : Int} (h : In64 a) : -(2 ^ 64) < a /\ a < 2 ^ 64 := ⟨by have := h.1; omega, by have := h.2; omega⟩
theorem ok_twoR {f fI fQ : Addr} {fd fdI fdQ : FuncData} (D : Dn K mg "reckon_two" sTwo ["sign", "left", "right"] f fd) (DI : Dn K mg "inside" sInside ["number"] fI fdI) (DQ : Dn K mg "quotient" sQuot ["left", "right"] fQ fdQ) (G5 : Gs5 mg) (X : XR K mg cZ cO cN cC) : FnOk P w K mg base (CXW P w) 2 f fd ["sign", "left", "right"] (spTwo cZ cO) := by
 have GI : FnOk P w K mg base (CXW P w) 1 fI fdI ["number"] (spInside cO) := ok_inside DI G5 X
 have GQ : FnOk P w K mg base (CXW P w) 1 fQ fdQ ["left", "right"] (spQuot cZ) := ok_quot DQ G5 X
 refine D.fn.okW scTwo (fun vs H Q E h => ?_) (fun cdv A outer s H vs Q E hr h => ?_)
 ·obtain ⟨op, a, b, st, rfl, _⟩ := h
  rfl
 ·obtain ⟨op, a, b, st, rfl, ho, ha, hb, k1, k2, k3⟩ := h
  have hr1 : Room 1 _ := hr
  refine ⟨_, zB (zZ (zM qE (pv 0) zK (nomark _)) (zC (zW (zO GI hr1 rfl DI.mgf DI.fn.kp DI.bi .nil zT (zA (pe_op op_add (pv 1) (pv 2)) zE)))) zY) (zB (zZ (zM qE (pv 0) zK (nomark _)) (zC (zW (zO GI hr1 rfl DI.mgf DI.fn.kp DI.bi .nil zT (zA (pe_op op_sub (pv 1) (pv 2)) zE)))) zY) (zB (zZ (zM qE (pv 0) zK (nomark _)) (zC (zW (zO GI hr1 rfl DI.mgf DI.fn.kp DI.bi .nil zT (zA (pe_op op_mul (pv 1) (pv 2)) zE)))) zY) (zB (zZ (zM qE (pv 0) zK (nomark _)) (zC (zW (zO GI hr1 rfl DI.mgf DI.fn.kp DI.bi .nil zT (zA (zO GQ hr1 rfl DQ.mgf DQ.fn.kp DQ.bi .nil zT (zA (pv 1) (zA (pv 2) zE))) zE)))) zY) (zB (zZ (zM qE (pv 0) zK (nomark _)) (zC (zW (pe_op op_sub (pv 1) (pe_op op_mul (pv 2) (zO GQ hr1 rfl DQ.mgf DQ.fn.kp DQ.bi .nil zT (zA (pv 1) (zA (pv 2) zE))))))) zY) (zB (zZ (zM qE (pv 0) zK (nomark _)) (zC (zW (pe_ifExp (zM op_lt (pv 1) (pv 2) (nomark _)) zQ zQ))) zY) (zC (zW (pe_ifExp (zM qE (pv 1) (pv 2) (nomark _)) zQ zQ)))))))), ?_⟩
  have ho : op = 43 ∨ op = 45 ∨ op = 42 ∨ op = 47 ∨ op = 37 ∨ op = 60 ∨ op = 61 := ho
  rcases ho with rfl | rfl | rfl | rfl | rfl | rfl | rfl
  ·refine ⟨_, rfl, rfl, _, rfl, yJ ?_⟩
   have hu : opBin 43 a b st = val (a + b) st := rfl
   rw [hu] at k1 k2
   exact ⟨_, rfl, _, rfl, _, _, rfl, rfl, _, rfl, fun h => k1 _ (val_ok h st), fun h => k2 (val_no h st)⟩
  ·refine ⟨_, rfl, rfl, _, rfl, zN ?_⟩
   refine ⟨_, rfl, rfl, _, rfl, yJ ?_⟩
   have hu : opBin 45 a b st = val (a - b) st := rfl
   rw [hu] at k1 k2
   exact ⟨_, rfl, _, rfl, _, _, rfl, rfl, _, rfl, fun h => k1 _ (val_ok h st), fun h => k2 (val_no h st)⟩
  ·refine ⟨_, rfl, rfl, _, rfl, zN ?_⟩
   refine ⟨_, rfl, rfl, _, rfl, zN ?_⟩
   refine ⟨_, rfl, rfl, _, rfl, yJ ?_⟩
   have hu : opBin 42 a b st = val (a * b) st := rfl
   rw [hu] at k1 k2
   exact ⟨_, rfl, _, rfl, _, _, rfl, rfl, .inl (mul_fit ha), _, rfl, fun h => k1 _ (val_ok h st), fun h => k2 (val_no h st)⟩
  ·refine ⟨_, rfl, rfl, _, rfl, zN ?_⟩
   refine ⟨_, rfl, rfl, _, rfl, zN ?_⟩
   refine ⟨_, rfl, rfl, _, rfl, zN ?_⟩
   refine ⟨_, rfl, rfl, _, rfl, yJ ?_⟩
   have hu : opBin 47 a b st = if b = 0 then .halt_ (-33) st else val (Int.tdiv a b) st := rfl
   rw [hu] at k1 k2 k3
   refine ⟨_, rfl, _, rfl, a, b, rfl, hb, fun h => k3 (by rw [if_pos h]), fun h => ?_⟩
   rw [if_neg h] at k1 k2
   exact ⟨_, rfl, fun q => k1 _ (val_ok q st), fun q => k2 (val_no q st)⟩
  ·refine ⟨_, rfl, rfl, _, rfl, zN ?_⟩
   refine ⟨_, rfl, rfl, _, rfl, zN ?_⟩
   refine ⟨_, rfl, rfl, _, rfl, zN ?_⟩
   refine ⟨_, rfl, rfl, _, rfl, zN ?_⟩
   refine ⟨_, rfl, rfl, _, rfl, yJ ?_⟩
   have hu : opBin 37 a b st = if b = 0 then .halt_ (-33) st else .ok (Int.tmod a b) st := rfl
   rw [hu] at k1 k3
   refine ⟨_, rfl, _, rfl, _, rfl, _, rfl, a, b, rfl, hb, fun h => k3 (by rw [if_pos h]), fun h => ?_⟩
   rw [if_neg h] at k1
   have k1 := k1 _ rfl
   rw [Int.tmod_def] at k1
   exact ⟨_, _, rfl, rfl, .inl (mul_fit hb), _, _, rfl, rfl, k1⟩
  ·refine ⟨_, rfl, rfl, _, rfl, zN ?_⟩
   refine ⟨_, rfl, rfl, _, rfl, zN ?_⟩
   refine ⟨_, rfl, rfl, _, rfl, zN ?_⟩
   refine ⟨_, rfl, rfl, _, rfl, zN ?_⟩
   refine ⟨_, rfl, rfl, _, rfl, zN ?_⟩
   refine ⟨_, rfl, rfl, _, rfl, yJ ?_⟩
   have k1 := k1 (Kp110.bool (decide (a < b))) rfl
   refine ⟨_, rfl, _, rfl, _, _, rfl, rfl, _, rfl, ?_⟩
   refine qG (fun h1 => ?_) (fun h1 => ?_)
   ·rw [decide_eq_true (of_decide_eq_true h1)] at k1
    exact k1
   ·rw [decide_eq_false (fun q => h1 (decide_eq_true q))] at k1
    exact k1
  ·refine ⟨_, rfl, rfl, _, rfl, zN ?_⟩
   refine ⟨_, rfl, rfl, _, rfl, zN ?_⟩
   refine ⟨_, rfl, rfl, _, rfl, zN ?_⟩
   refine ⟨_, rfl, rfl, _, rfl, zN ?_⟩
   refine ⟨_, rfl, rfl, _, rfl, zN ?_⟩
   refine ⟨_, rfl, rfl, _, rfl, zN ?_⟩
   have k1 := k1 (Kp110.bool (decide (a = b))) rfl
   refine ⟨_, rfl, _, rfl, rfl, _, rfl, ?_⟩
   refine qG (fun h1 => ?_) (fun h1 => ?_)
   ·rw [decide_eq_true (V.int.inj (of_decide_eq_true h1))] at k1
    exact k1
   ·rw [decide_eq_false (fun q => h1 (decide_eq_true (by rw [q])))] at k1
    exact k1
end
end SM
end
section
set_option Elab.async false
set_option linter.all false
set_option maxRecDepth 100000
set_option maxHeartbeats 2000000
namespace L2
open PySem PySem.Spec PyProof.Rows
theorem for_revL {K : PySem.W.Frag} {a : Addr} {xs : List V} {g : TG} {tb : TS} {D : Ends} {σ : St} {H : Hp} (Pv : Nat -> St -> Hp -> Prop) (h0 : Pv 0 σ H) (hl : ∀ i σ H, i <= xs.length -> Pv i σ H -> qZ K H a xs)
  (hs : ∀ i x σ H, i < xs.length -> xs[xs.length - 1 - i]? = some x -> Pv i σ H -> g x σ H fun σ2 H2 => tb { D with nx := Pv (i + 1), ct := Pv (i + 1), bk := D.nx } σ2 H2) (hd : ∀ σ H, Pv xs.length σ H -> D.nx σ H) :
  ∃ W : Nat -> Nat -> St -> Hp -> Prop, (∃ m, W 0 m σ H) /\ ∀ i m σ H, W i m σ H ->
   ((Itv K a xs.length).stop i H /\ D.nx σ H) ∨ ((Itv K a xs.length).go i H /\ ∃ N : St -> Hp -> Prop, (∀ σ' H', N σ' H' -> ∃ m', m' < m /\ W (i + 1) m' σ' H') /\ ∀ x H', (Itv K a xs.length).yld i H x H' -> g x σ H' fun σ2 H2 => tb { D with nx := N, ct := N, bk := D.nx } σ2 H2) := by
 refine ⟨fun i m σ H => m = xs.length - i /\ i <= xs.length /\ Pv i σ H, ⟨xs.length, by simp, Nat.zero_le _, h0⟩, ?_⟩
 rintro i m σ H ⟨rfl, hi, p⟩
 have q := hl i σ H hi p
 by_cases he : i = xs.length
 ·subst he
  exact .inl ⟨Nat.le_refl _, hd σ H p⟩
 ·have hlt : i < xs.length := by omega
  have hx : xs[xs.length - 1 - i]? = some xs[xs.length - 1 - i] := List.getElem?_eq_getElem (by omega)
  refine .inr ⟨⟨hlt, xs, _, q, hx⟩, Pv (i + 1), fun σ' H' p' => ⟨xs.length - (i + 1), by omega, rfl, hlt, p'⟩, fun x H' hy => ?_⟩
  obtain ⟨e, hy⟩ := hy
  subst e
  exact hs i x σ _ hlt (hy xs q) p
theorem qZ.same {K : PySem.W.Frag} {H H' : Hp} {a : Addr} {xs : List V} (h : qZ K H a xs) (s : ∀ b o, H b = some o -> H' b = some o) : qZ K H' a xs := by
 unfold qZ at h ⊢
 rcases h with h | h
 ·left
  rcases h with h | ⟨ob, h⟩
  ·exact .inl (s _ _ h)
  ·exact .inr ⟨ob, s _ _ h⟩
 ·exact .inr h
end L2
namespace SM
open PySem PySem.Spec PyProof.Rows L2
open Kp110 (Bytes Ev)
def rnf (fn st g gt re ca wa : V) : List (Str × V) := [("functions", fn), ("steps_left", st), ("g", g), ("gets", gt), ("record", re), ("calls", ca), ("waiting", wa)]
def clf (o a v : V) : List (Str × V) := [("orders", o), ("at", a), ("variables", v)]
section
variable (a b c d e f g h : V)
theorem rnf_fn : (rnf a b c d e f g).lookup ("functions" : Str) = some a := by kernel_rfl
theorem rnf_st : (rnf a b c d e f g).lookup ("steps_left" : Str) = some b := by kernel_rfl
theorem rnf_g : (rnf a b c d e f g).lookup ("g" : Str) = some c := by kernel_rfl
theorem rnf_gt : (rnf a b c d e f g).lookup ("gets" : Str) = some d := by kernel_rfl
theorem rnf_re : (rnf a b c d e f g).lookup ("record" : Str) = some e := by kernel_rfl
theorem rnf_ca : (rnf a b c d e f g).lookup ("calls" : Str) = some f := by kernel_rfl
theorem rnf_wa : (rnf a b c d e f g).lookup ("waiting" : Str) = some g := by kernel_rfl
theorem put_st : qK "steps_left" h (rnf a b c d e f g) = rnf a h c d e f g := by kernel_rfl
theorem put_gt : qK "gets" h (rnf a b c d e f g) = rnf a b c h e f g := by kernel_rfl
theorem rnf_made : qK "waiting" g (qK "calls" f (qK "record" e (qK "gets" d (qK "g" c (qK "steps_left" b (qK "functions" a [])))))) = rnf a b c d e f g := by kernel_rfl
theorem clf_o : (clf a b c).lookup ("orders" : Str) = some a := by kernel_rfl
theorem clf_a : (clf a b c).lookup ("at" : Str) = some b := by kernel_rfl
theorem clf_v : (clf a b c).lookup ("variables" : Str) = some c := by kernel_rfl
theorem put_cat : qK "at" h (clf a b c) = clf a h c := by kernel_rfl
theorem clf_made : qK "variables" c (qK "at" b (qK "orders" a [])) = clf a b c := by kernel_rfl
end
structure RunC (K : PySem.W.Frag) (cN : Addr) : Prop where
 cl : Cls K cN
 nFn : qS K cN "functions"
 nSt : qS K cN "steps_left"
 nG : qS K cN "g"
 nGt : qS K cN "gets"
 nRe : qS K cN "record"
 nCa : qS K cN "calls"
 nWa : qS K cN "waiting"
structure CallC (K : PySem.W.Frag) (cL : Addr) : Prop where
 cl : Cls K cL
 nO : qS K cL "orders"
 nA : qS K cL "at"
 nV : qS K cL "variables"
def evV : Ev -> List V
 | .get z => [.int 0, .int z]
 | .put z => [.int 1, .int z]
def Vars (kvs : List (Key × V)) (v : Vs) (n : Nat) : Prop := (∀ x : Bytes, valV kvs (Sum.inr (qA x)) = (v x).map V.int) /\ kvs.length <= n
def FrAt (cL : Addr) (H0 H : Hp) (q : Addr × Addr) (f : Fr) : Prop := ∃ (dx ol : Addr) (qs : List Addr) (kvs : List (Key × V)), H q.1 = some (.ins cL dx (clf (.ref ol) (.int (f.at_ : Int)) (.ref q.2))) /\ H0 ol = some (.lst (qs.map V.ref)) /\ MnL H0 qs f.code /\ H q.2 = some (.dK kvs) /\ Vars kvs f.vars f.nv
theorem FrAt.mono {cL : Addr} {H0 H H' : Hp} {q : Addr × Addr} {f : Fr} (x : FrAt cL H0 H q f) (k : ∀ b o, H b = some o -> b = q.1 ∨ b = q.2 -> H' b = some o) : FrAt cL H0 H' q f := by
 obtain ⟨dx, ol, qs, kvs, h1, h2, h3, h4, h5⟩ := x
 exact ⟨dx, ol, qs, kvs, k _ _ h1 (.inl rfl), h2, h3, k _ _ h4 (.inr rfl), h5⟩
def TabAt (cF : Addr) (H0 : Hp) (fd : Addr) (tab : Tab) : Prop := ∃ kvs : List (Key × V), H0 fd = some (.dK kvs) /\ ∀ f ps code, tab f = some (ps, code) -> ∃ (fo dx p ml : Addr) (qs : List Addr) (nm : V),
 valV kvs (Sum.inr (qA f)) = some (.ref fo) /\ H0 fo = some (.ins cF dx (ff nm (.ref p) (.ref ml))) /\ H0 p = some (.lst (nvs ps)) /\ H0 ml = some (.lst (qs.map V.ref)) /\ MnL H0 qs code /\ smallC code /\ ps.length <= 4
structure RA where
 run : Addr
 rl : Addr
 cl : Addr
 wl : Addr
 fd : Addr
 gl : Addr
def Rec (H : Hp) (rl : Addr) (evs : List Ev) : Prop := ∃ es : List Addr, H rl = some (.lst (es.map V.ref)) /\ Paired (fun p ev => H p = some (.tup (evV ev))) es evs
structure RunAt (cN cL : Addr) (H0 H : Hp) (a : RA) (cs : List (Addr × Addr)) (m : MS) : Prop where
 ins : ∃ dx, H a.run = some (.ins cN dx (rnf (.ref a.fd) (.int (m.st.left : Int)) (.ref a.gl) (.int (m.st.got : Int)) (.ref a.rl) (.ref a.cl) (.ref a.wl)))
 recd : Rec H a.rl m.st.evs
 calls : H a.cl = some (.lst ((cs.map Prod.fst).reverse.map V.ref))
 wait : H a.wl = some (.lst (m.ws.reverse.map V.int))
 frs : Paired (FrAt cL H0 H) cs m.frs
 same : ∀ b o, H0 b = some o -> H b = some o
 new : H0 a.run = none /\ H0 a.rl = none /\ H0 a.cl = none /\ H0 a.wl = none
 newc : ∀ q ∈ cs, H0 q.1 = none /\ H0 q.2 = none /\ q.1 ≠ a.run
 nd : a.rl ≠ a.cl /\ a.rl ≠ a.wl /\ a.cl ≠ a.wl
 ndc : (cs.map Prod.fst).Nodup
 ndv : (cs.map Prod.snd).Nodup
structure RecAt (cN : Addr) (H : Hp) (a : RA) (evs : List Ev) : Prop where
 ins : ∃ dx fn st g gt ca wa, H a.run = some (.ins cN dx (rnf fn st g gt (.ref a.rl) ca wa))
 recd : Rec H a.rl evs
section
variable {cN cL : Addr} {H0 H H' : Hp} {a : RA} {cs : List (Addr × Addr)} {m : MS}
theorem RunAt.recAt (R : RunAt cN cL H0 H a cs m) : RecAt cN H a m.st.evs := by
 obtain ⟨dx, h⟩ := R.ins
 exact ⟨⟨dx, _, _, _, _, _, _, h⟩, R.recd⟩
theorem Rec.mono {rl : Addr} {evs : List Ev} (x : Rec H rl evs) (k : ∀ b o, H b = some o -> (b = rl ∨ ∃ xs, o = .tup xs) -> H' b = some o) : Rec H' rl evs := by
 obtain ⟨es, h1, h2⟩ := x
 exact ⟨es, k _ _ h1 (.inl rfl), Paired.mapP h2 fun p ev z => k _ _ z (.inr ⟨_, rfl⟩)⟩
theorem frs_mono {frs : List Fr} (x : Paired (FrAt cL H0 H) cs frs) (k : ∀ b o, H b = some o -> (∃ q ∈ cs, b = q.1 ∨ b = q.2) -> H' b = some o) : Paired (FrAt cL H0 H') cs frs := by
 have key : ∀ {l : List (Addr × Addr)} {fl : List Fr}, Paired (FrAt cL H0 H) l fl -> (∀ q ∈ l, q ∈ cs) -> Paired (FrAt cL H0 H') l fl := by
  intro l fl p hl
  induction p with
  | nil => exact .nil
  | cons r t ih => exact .cons (r.mono fun b o e hb => k b o e ⟨_, hl _ List.mem_cons_self, hb⟩) (ih fun q hq => hl q (List.mem_cons_of_mem _ hq))
 exact key x fun q hq => hq
theorem RunAt.kind (R : RunAt cN cL H0 H a cs m) {q : Addr × Addr} (hq : q ∈ cs) : (∃ dx fs, H q.1 = some (.ins cL dx fs)) /\ ∃ kvs, H q.2 = some (.dK kvs) := by
 have key : ∀ {l : List (Addr × Addr)} {fl : List Fr}, Paired (FrAt cL H0 H) l fl -> q ∈ l -> (∃ dx fs, H q.1 = some (.ins cL dx fs)) /\ ∃ kvs, H q.2 = some (.dK kvs) := by
  intro l fl p hl
  induction p with
  | nil => cases hl
  | cons r t ih =>
   rcases List.mem_cons.mp hl with rfl | h
   ·obtain ⟨dx, ol, qs, kvs, h1, h2, h3, h4, h5⟩ := r
    exact ⟨⟨_, _, h1⟩, _, h4⟩
   ·exact ih h
 exact key R.frs hq
theorem RunAt.more (R : RunAt cN cL H0 H a cs m) (k : ∀ b o, H b = some o -> H' b = some o) : RunAt cN cL H0 H' a cs m := by
 obtain ⟨dx, h⟩ := R.ins
 exact ⟨⟨dx, k _ _ h⟩, R.recd.mono fun b o e _ => k b o e, k _ _ R.calls, k _ _ R.wait, frs_mono R.frs fun b o e _ => k b o e, fun b o e => k _ _ (R.same b o e), R.new, R.newc, R.nd, R.ndc, R.ndv⟩
theorem RunAt.setW (R : RunAt cN cL H0 H a cs m) (ws : List Int) {l : List V} (hl : l = ws.reverse.map V.int) : RunAt cN cL H0 (upd H a.wl (.lst l)) a cs { m with ws := ws } := by
 subst hl
 obtain ⟨dx, h⟩ := R.ins
 have k : ∀ b o, H b = some o -> b ≠ a.wl -> upd H a.wl (.lst (ws.reverse.map V.int)) b = some o := fun b o e hb => by rw [zF hb]; exact e
 refine ⟨⟨dx, k _ _ h (qD h R.wait (by intro z; cases z))⟩, R.recd.mono fun b o e hb => k b o e ?_, k _ _ R.calls R.nd.2.2, zG, frs_mono R.frs fun b o e hb => k b o e ?_, fun b o e => k _ _ (R.same b o e) (zH e R.new.2.2.2), R.new, R.newc, R.nd, R.ndc, R.ndv⟩
 ·rcases hb with rfl | ⟨xs, rfl⟩
  ·exact R.nd.2.1
  ·exact qD e R.wait (by intro z; cases z)
 ·obtain ⟨q, hq, hb⟩ := hb
  obtain ⟨⟨dx', fs, k1⟩, kvs, k2⟩ := R.kind hq
  rcases hb with rfl | rfl
  ·exact qD k1 R.wait (by intro z; cases z)
  ·exact qD k2 R.wait (by intro z; cases z)
theorem RunAt.addR (R : RunAt cN cL H0 H a cs m) (ev : Ev) {es : List Addr} (hes : H a.rl = some (.lst (es.map V.ref))) (hp : Paired (fun p ev => H p = some (.tup (evV ev))) es m.st.evs) {p : Addr} (hn : H p = none) {xs : List V} (hx : xs = evV ev) :
  RunAt cN cL H0 (upd (upd H p (.tup xs)) a.rl (.lst (es.map V.ref ++ [.ref p]))) a cs { m with st := { m.st with evs := m.st.evs ++ [ev] } } := by
 subst hx
 obtain ⟨dx, h⟩ := R.ins
 have npr : p ≠ a.rl := fun z => by rw [z, hes] at hn; cases hn
 have k : ∀ b o, H b = some o -> b ≠ a.rl -> upd (upd H p (.tup (evV ev))) a.rl (.lst (es.map V.ref ++ [.ref p])) b = some o := fun b o e hb => by rw [zF hb, zF (zH e hn)]; exact e
 refine ⟨⟨dx, k _ _ h (qD h hes (by intro z; cases z))⟩, ⟨es ++ [p], by rw [zG, List.map_append]; rfl, ?_⟩, k _ _ R.calls R.nd.1.symm, k _ _ R.wait R.nd.2.1.symm, frs_mono R.frs fun b o e hb => k b o e ?_, fun b o e => k _ _ (R.same b o e) (zH e R.new.2.1), R.new, R.newc, R.nd, R.ndc, R.ndv⟩
 ·refine paired_snoc (F := fun p ev => upd (upd H _ _) a.rl _ p = some (.tup (evV ev))) ?_ (Paired.mapP hp fun q e z => k _ _ z (qD z hes (by intro z; cases z)))
  rw [zF npr, zG]
 ·obtain ⟨q, hq, hb⟩ := hb
  obtain ⟨⟨dx', fs, k1⟩, kvs, k2⟩ := R.kind hq
  rcases hb with rfl | rfl
  ·exact qD k1 hes (by intro z; cases z)
  ·exact qD k2 hes (by intro z; cases z)
theorem RunAt.setN (R : RunAt cN cL H0 H a cs m) (dx : Addr) (left got : Nat) {fs : List (Str × V)} (hf : fs = rnf (.ref a.fd) (.int (left : Int)) (.ref a.gl) (.int (got : Int)) (.ref a.rl) (.ref a.cl) (.ref a.wl)) :
  RunAt cN cL H0 (upd H a.run (.ins cN dx fs)) a cs { m with st := ⟨m.st.evs, got, left⟩ } := by
 subst hf
 obtain ⟨dx0, h⟩ := R.ins
 have k : ∀ b o, H b = some o -> b ≠ a.run -> upd H a.run (.ins cN dx (rnf (.ref a.fd) (.int (left : Int)) (.ref a.gl) (.int (got : Int)) (.ref a.rl) (.ref a.cl) (.ref a.wl))) b = some o := fun b o e hb => by rw [zF hb]; exact e
 refine ⟨⟨dx, zG⟩, R.recd.mono fun b o e hb => k b o e ?_, k _ _ R.calls (qD R.calls h (by intro z; cases z)), k _ _ R.wait (qD R.wait h (by intro z; cases z)), frs_mono R.frs fun b o e hb => k b o e ?_, fun b o e => k _ _ (R.same b o e) (zH e R.new.1), R.new, R.newc, R.nd, R.ndc, R.ndv⟩
 ·rcases hb with rfl | ⟨xs, rfl⟩
  ·obtain ⟨es, he, _⟩ := R.recd
   exact qD he h (by intro z; cases z)
  ·exact qD e h (by intro z; cases z)
 ·obtain ⟨q, hq, hb⟩ := hb
  obtain ⟨_, kvs, k2⟩ := R.kind hq
  rcases hb with rfl | rfl
  ·exact (R.newc q hq).2.2
  ·exact qD k2 h (by intro z; cases z)
theorem RunAt.setT {c vd : Addr} {f f' : Fr} {fs : List Fr} {ws : List Int} {st : Kp110.St} (R : RunAt cN cL H0 H a ((c, vd) :: cs) ⟨f :: fs, ws, st⟩) (hF : FrAt cL H0 H' (c, vd) f') (k : ∀ b o, H b = some o -> b ≠ c -> b ≠ vd -> H' b = some o) :
  RunAt cN cL H0 H' a ((c, vd) :: cs) ⟨f' :: fs, ws, st⟩ := by
 obtain ⟨dx, h⟩ := R.ins
 obtain ⟨⟨dx', fs', k1⟩, kvs, k2⟩ := R.kind (q := (c, vd)) List.mem_cons_self
 have nw := R.newc (c, vd) List.mem_cons_self
 have nl : ∀ {b : Addr} {xs : List V}, H b = some (.lst xs) -> H' b = some (.lst xs) := fun e => k _ _ e (qD e k1 (by intro z; cases z)) (qD e k2 (by intro z; cases z))
 have ndc := R.ndc
 have ndv := R.ndv
 rw [List.map_cons, List.nodup_cons] at ndc ndv
 refine ⟨⟨dx, k _ _ h (fun z => nw.2.2 z.symm) (qD h k2 (by intro z; cases z))⟩, R.recd.mono fun b o e hb => k b o e ?_ ?_, nl R.calls, nl R.wait, ?_, fun b o e => k _ _ (R.same b o e) (zH e nw.1) (zH e nw.2.1), R.new, R.newc, R.nd, R.ndc, R.ndv⟩
 ·rcases hb with rfl | ⟨xs, rfl⟩
  ·obtain ⟨es, he, _⟩ := R.recd
   exact qD he k1 (by intro z; cases z)
  ·exact qD e k1 (by intro z; cases z)
 ·rcases hb with rfl | ⟨xs, rfl⟩
  ·obtain ⟨es, he, _⟩ := R.recd
   exact qD he k2 (by intro z; cases z)
  ·exact qD e k2 (by intro z; cases z)
 ·cases R.frs with
  | cons r t =>
   refine .cons hF (frs_mono t fun b o e hb => ?_)
   obtain ⟨q, hq, hb⟩ := hb
   obtain ⟨⟨dq, fq, q1⟩, kq, q2⟩ := R.kind (List.mem_cons_of_mem _ hq)
   rcases hb with rfl | rfl
   ·exact k _ _ e (fun z => ndc.1 (by have := List.mem_map_of_mem (f := Prod.fst) hq; rw [z] at this; exact this)) (qD q1 k2 (by intro z; cases z))
   ·exact k _ _ e (qD q2 k1 (by intro z; cases z)) (fun z => ndv.1 (by have := List.mem_map_of_mem (f := Prod.snd) hq; rw [z] at this; exact this))
theorem RunAt.popC {q : Addr × Addr} {f : Fr} {fs : List Fr} {ws : List Int} {st : Kp110.St} (R : RunAt cN cL H0 H a (q :: cs) ⟨f :: fs, ws, st⟩) {l : List V} (hl : l = (cs.map Prod.fst).reverse.map V.ref) : RunAt cN cL H0 (upd H a.cl (.lst l)) a cs ⟨fs, ws, st⟩ := by
 subst hl
 obtain ⟨dx, h⟩ := R.ins
 have k : ∀ b o, H b = some o -> b ≠ a.cl -> upd H a.cl (.lst ((cs.map Prod.fst).reverse.map V.ref)) b = some o := fun b o e hb => by rw [zF hb]; exact e
 have ndc := R.ndc
 have ndv := R.ndv
 rw [List.map_cons, List.nodup_cons] at ndc ndv
 refine ⟨⟨dx, k _ _ h (qD h R.calls (by intro z; cases z))⟩, R.recd.mono fun b o e hb => k b o e ?_, zG, k _ _ R.wait R.nd.2.2.symm, ?_, fun b o e => k _ _ (R.same b o e) (zH e R.new.2.2.1), R.new, fun q hq => R.newc q (List.mem_cons_of_mem _ hq), R.nd, ndc.2, ndv.2⟩
 ·rcases hb with rfl | ⟨xs, rfl⟩
  ·exact R.nd.1
  ·exact qD e R.calls (by intro z; cases z)
 ·cases R.frs with
  | cons r t =>
   refine frs_mono t fun b o e hb => k b o e ?_
   obtain ⟨q, hq, hb⟩ := hb
   obtain ⟨⟨dx', fs, k1⟩, kvs, k2⟩ := R.kind (List.mem_cons_of_mem _ hq)
   rcases hb with rfl | rfl
   ·exact qD k1 R.calls (by intro z; cases z)
   ·exact qD k2 R.calls (by intro z; cases z)
theorem RunAt.addC {c vd : Addr} {f : Fr} (R : RunAt cN cL H0 H a cs m) (hF : FrAt cL H0 H (c, vd) f) (hc : H0 c = none /\ H0 vd = none /\ c ≠ a.run) (n1 : c ∉ cs.map Prod.fst) (n2 : vd ∉ cs.map Prod.snd) {l : List V} (hl : l = (cs.map Prod.fst).reverse.map V.ref ++ [.ref c]) :
  RunAt cN cL H0 (upd H a.cl (.lst l)) a ((c, vd) :: cs) ⟨f :: m.frs, m.ws, m.st⟩ := by
 subst hl
 obtain ⟨dx, h⟩ := R.ins
 have k : ∀ b o, H b = some o -> b ≠ a.cl -> upd H a.cl (.lst ((cs.map Prod.fst).reverse.map V.ref ++ [.ref c])) b = some o := fun b o e hb => by rw [zF hb]; exact e
 refine ⟨⟨dx, k _ _ h (qD h R.calls (by intro z; cases z))⟩, R.recd.mono fun b o e hb => k b o e ?_, ?_, k _ _ R.wait R.nd.2.2.symm, .cons (hF.mono fun b o e hb => k b o e ?_) (frs_mono R.frs fun b o e hb => k b o e ?_), fun b o e => k _ _ (R.same b o e) (zH e R.new.2.2.1), R.new, fun q hq => ?_, R.nd, ?_, ?_⟩
 ·rcases hb with rfl | ⟨xs, rfl⟩
  ·exact R.nd.1
  ·exact qD e R.calls (by intro z; cases z)
 ·rw [zG, List.map_cons, List.reverse_cons, List.map_append]
  rfl
 ·obtain ⟨dq, ol, qs, kvs, h1, h2, h3, h4, h5⟩ := hF
  rcases hb with rfl | rfl
  ·exact qD h1 R.calls (by intro z; cases z)
  ·exact qD h4 R.calls (by intro z; cases z)
 ·obtain ⟨q, hq, hb⟩ := hb
  obtain ⟨⟨dx', fs, k1⟩, kvs, k2⟩ := R.kind hq
  rcases hb with rfl | rfl
  ·exact qD k1 R.calls (by intro z; cases z)
  ·exact qD k2 R.calls (by intro z; cases z)
 ·rcases List.mem_cons.mp hq with rfl | hq
  ·exact hc
  ·exact R.newc q hq
 ·rw [List.map_cons, List.nodup_cons]
  exact ⟨n1, R.ndc⟩
 ·rw [List.map_cons, List.nodup_cons]
  exact ⟨n2, R.ndv⟩
theorem Vars.put {kvs : List (Key × V)} {v : Vs} {n : Nat} (h : Vars kvs v n) (x : Bytes) (z : Int) : Vars (putK kvs (Sum.inr (qA x)) (.int z)) (setv v x z) (n + 1) := by
 refine ⟨fun y => ?_, ?_⟩
 ·rw [valV_put]
  unfold setv
  by_cases e : y = x
  ·rw [if_pos (by rw [e]), if_pos e]
   rfl
  ·rw [if_neg fun q => e (strOf_inj (Sum.inr.inj q)), if_neg e]
   exact h.1 y
 ·have := h.2
  unfold putK
  split
  ·rw [List.length_map]; omega
  ·rw [List.length_append]; show kvs.length + 1 <= _; omega
theorem pop_rev {z : Int} {ws : List Int} : (((z :: ws).reverse.map V.int))[((z :: ws).reverse.map V.int).length - 1]? = some (.int z) /\ ((z :: ws).reverse.map V.int).dropLast = ws.reverse.map V.int := by
 rw [List.reverse_cons, List.map_append]
 constructor
 ·rw [List.length_append, List.getElem?_append_right (by simp)]
  simp
 ·simp
theorem push_rev {z : Int} {ws : List Int} : ws.reverse.map V.int ++ [.int z] = (z :: ws).reverse.map V.int := by simp
end
end SM
end
section
set_option Elab.async false
set_option linter.all false
set_option maxRecDepth 100000
set_option maxHeartbeats 2000000
namespace SM
open PySem PySem.Spec PyProof.Rows L2
open Kp110 (Bytes Ev)
open Kp110Neutral (told)
abbrev sCInit : Stmt := yS (top 47) 0
abbrev sBegS : Stmt := top 53
abbrev sBegC : Stmt := top 54
abbrev sAsk : Stmt := top 55
def spBegS (cRn cL cS : Addr) : Sp := fun vs H Q E => ∃ (H0 : Hp) (a : RA) (cs : List (Addr × Addr)) (m : MS), vs = [V.ref a.run] /\ RunAt cRn cL H0 H a cs m /\
 (m.st.left ≠ 0 -> ∀ H', RunAt cRn cL H0 H' a cs ⟨m.frs, m.ws, { m.st with left := m.st.left - 1 }⟩ -> Q .non H') /\ (m.st.left = 0 -> E (.ref cS) none H)
def spAsk (K : PySem.W.Frag) (cRn cL : Addr) : Sp := fun vs H Q _ => ∃ (H0 : Hp) (a : RA) (cs : List (Addr × Addr)) (m : MS) (gs : List Int), vs = [V.ref a.run] /\ RunAt cRn cL H0 H a cs m /\ qZ K H0 a.gl (gs.map V.int) /\ m.st.evs.length < 10000000 /\
 ∀ H', RunAt cRn cL H0 H' a cs ⟨m.frs, m.ws, { m.st with evs := m.st.evs ++ [.get (told gs m.st.got)], got := m.st.got + 1 }⟩ -> Q (.int (told gs m.st.got)) H'
def spCInit (cL : Addr) : Sp := fun vs H Q _ => ∃ (x dx : Addr) (v : V), vs = [.ref x, v] /\ H x = some (.ins cL dx []) /\ ∀ H' vd, H vd = none -> vd ≠ x -> H' x = some (.ins cL dx (clf v (.int 0) (.ref vd))) -> H' vd = some (.dK []) -> (∀ b o, H b = some o -> b ≠ x -> H' b = some o) -> Q .non H'
def spBegC (cRn cL cF cC : Addr) (tab : Tab) : Sp := fun vs H Q E => ∃ (H0 : Hp) (a : RA) (cs : List (Addr × Addr)) (m : MS) (f : Bytes), vs = [V.ref a.run, V.str (qA f)] /\ RunAt cRn cL H0 H a cs m /\ TabAt cF H0 a.fd tab /\ m.frs.length <= 64 /\
 ((∃ m', Beg tab f m m' /\ ∀ H' cs', RunAt cRn cL H0 H' a cs' m' -> Q .non H') ∨ (m.frs.length = 64 /\ ∀ H', RecAt cRn H' a m.st.evs -> E (.ref cC) none H'))
theorem yA {K : PySem.W.Frag} {cRn cL : Addr} {H0 H : Hp} {a : RA} {cs : List (Addr × Addr)} {fs : List Fr} {z : Int} {ws : List Int} {st : Kp110.St} {σ : L2.St} {i : Nat} {Q : VK} (C : RunC K cRn) (R : RunAt cRn cL H0 H a cs ⟨fs, z :: ws, st⟩) (h0 : σ[i]? = some (some (V.ref a.run)))
  (h : ∀ H', (∀ b o, H b = some o -> b ≠ a.wl -> H' b = some o) -> RunAt cRn cL H0 H' a cs ⟨fs, ws, st⟩ -> Q (.int z) H') : tBM0 K "list" rPop (tFld K (qT i) "waiting") σ H Q := by
 obtain ⟨dx, hi⟩ := R.ins
 have p := pop_rev (z := z) (ws := ws)
 refine ⟨_, h0, a.run, cRn, dx, _, _, rfl, hi, C.cl, C.nWa, rnf_wa .., .inl ⟨rfl, _, qZ.of R.wait⟩, a.wl, _, .int z, rfl, rfl, R.wait, p.1, ?_⟩
 exact h _ (fun b o e hb => by rw [zF hb]; exact e) (R.setW ws p.2)
theorem RunAt.offD {cN cL : Addr} {H0 H : Hp} {a : RA} {cs : List (Addr × Addr)} {m : MS} {vd : Addr} {kvs : List (Key × V)} (R : RunAt cN cL H0 H a cs m) (h0 : H0 vd = none) (hn : vd ∉ cs.map Prod.snd) (hk : H vd = some (.dK kvs)) (o' : HO) : RunAt cN cL H0 (upd H vd o') a cs m := by
 obtain ⟨dx, h⟩ := R.ins
 have k : ∀ b o, H b = some o -> b ≠ vd -> upd H vd o' b = some o := fun b o e hb => by rw [zF hb]; exact e
 have nl : ∀ {b : Addr} {xs : List V}, H b = some (.lst xs) -> upd H vd o' b = some (.lst xs) := fun e => k _ _ e (qD e hk (by intro z; cases z))
 refine ⟨⟨dx, k _ _ h (qD h hk (by intro z; cases z))⟩, R.recd.mono fun b o e hb => k b o e ?_, nl R.calls, nl R.wait, frs_mono R.frs fun b o e hb => k b o e ?_, fun b o e => k _ _ (R.same b o e) (zH e h0), R.new, R.newc, R.nd, R.ndc, R.ndv⟩
 ·rcases hb with rfl | ⟨xs, rfl⟩
  ·obtain ⟨es, he, _⟩ := R.recd
   exact qD he hk (by intro z; cases z)
  ·exact qD e hk (by intro z; cases z)
 ·obtain ⟨q, hq, hb⟩ := hb
  obtain ⟨⟨dx', fs, k1⟩, kv, k2⟩ := R.kind hq
  rcases hb with rfl | rfl
  ·exact qD k1 hk (by intro z; cases z)
  ·exact fun z => hn (by have := List.mem_map_of_mem (f := Prod.snd) hq; rw [z] at this; exact this)
section
variable {P : Program} {w : World} {K : PySem.W.Frag} {mg : Str -> Option Value} {base : Heap} {cRn cL cF cZ cO cS cC : Addr}
theorem scBegS : FnScope ["run"] ["run"] (zJ sBegS) := scK
theorem ok_begS {f : Addr} {fd : FuncData} (D : Dn K mg "begin_statement" sBegS ["run"] f fd) (X : XR K mg cZ cO cS cC) (C : RunC K cRn) : FnOk P w K mg base (CXW P w) 1 f fd ["run"] (spBegS cRn cL cS) := by
 refine D.fn.okW scBegS (fun vs H Q E h => ?_) (fun cdv A outer s H vs Q E hr h => ?_)
 ·obtain ⟨H0, a, cs, m, rfl, _⟩ := h
  rfl
 ·obtain ⟨H0, a, cs, m, rfl, R, k1, k2⟩ := h
  obtain ⟨dx, hi⟩ := id R.ins
  refine ⟨_, zB (zZ (zM qE (zX (pv 0) rfl) zQ (nomark _)) (zC (qF makeW rfl rfl X.n X.nD)) zY) (zC (ps_fldaug (pv 0) zQ in_sub)), ?_⟩
  refine ⟨_, rfl, a.run, cRn, dx, _, _, rfl, hi, C.cl, C.nSt, rnf_st .., rfl, _, rfl, ?_⟩
  refine qG (fun h1 => ?_) (fun h1 => ?_)
  ·refine k2 ?_
   have := V.int.inj (of_decide_eq_true h1)
   omega
  ·have h1 : m.st.left ≠ 0 := fun z => h1 (decide_eq_true (by rw [z]; rfl))
   refine ⟨_, rfl, a.run, cRn, dx, _, _, rfl, hi, C.cl, C.nSt, rnf_st .., _, _, rfl, rfl, dx, _, hi, (by show 7 < 1000; decide), ?_⟩
   refine k1 h1 _ (R.setN dx (m.st.left - 1) m.st.got ?_)
   rw [put_st]
   have e : ((m.st.left : Int) - 1) = ((m.st.left - 1 : Nat) : Int) := by omega
   rw [e]
theorem scAsk : FnScope ["run", "number"] ["run"] (zJ sAsk) := scK
theorem told_at {gs : List Int} (h : gs ≠ []) (n : Nat) : (gs.map V.int)[n % gs.length]? = some (.int (told gs n)) := by
 have hp : 0 < gs.length := List.length_pos_iff.mpr h
 have hlt : n % gs.length < gs.length := Nat.mod_lt _ hp
 unfold Kp110Neutral.told
 rw [if_neg (by simpa using h), List.getElem?_map, List.getD_eq_getElem?_getD, List.getElem?_eq_getElem hlt]
 rfl
theorem ok_ask {f : Addr} {fd : FuncData} (D : Dn K mg "ask" sAsk ["run"] f fd) (G : Gs mg) (G5 : Gs5 mg) (C : RunC K cRn) : FnOk P w K mg base (CXW P w) 1 f fd ["run"] (spAsk K cRn cL) := by
 refine D.fn.okW scAsk (fun vs H Q E h => ?_) (fun cdv A outer s H vs Q E hr h => ?_)
 ·obtain ⟨H0, a, cs, m, gs, rfl, _⟩ := h
  rfl
 ·obtain ⟨H0, a, cs, m, gs, rfl, R, hg, hev, kk⟩ := h
  obtain ⟨dx, hi⟩ := id R.ins
  have hg' : qZ K H a.gl (gs.map V.int) := hg.same R.same
  refine ⟨_, zB (qB (i := 1) scAsk.nd rfl (Or.inl rfl) zQ) (zB (zZ (zM op_gt (yD G.len (zX (pv 0) rfl)) zQ (nomark _)) (zC (qB (i := 1) scAsk.nd rfl (Or.inl rfl) (qV yB (zX (pv 0) rfl) (pe_op op_mod (zX (pv 0) rfl) (yD G.len (zX (pv 0) rfl))) (fun _ _ => rfl)))) zY) (zB (ps_fldaug (pv 0) zQ in_add) (zB (zL (pe_bm PySem.F.plainAttrs_list PySem.F.slot_list_append PySem.F.type_list_append yO (zX (pv 0) rfl) (zA (pe_tup (zA (qL G5.asked) (zA (pv 1) zE))) zE))) (zC (zW (pv 1)))))), ?_⟩
  refine ⟨_, rfl, a.run, cRn, dx, _, _, rfl, hi, C.cl, C.nG, rnf_g .., a.gl, _, rfl, .inl hg', _, _, rfl, rfl, _, rfl, ?_⟩
  have fin : ∀ z : Int, z = told gs m.st.got -> tSeq (sFldAug K (qT 0) (tC (.int 1)) rAdd "gets") (tSeq (tDrop (tBM K "list" rAppend (tFld K (qT 0) "record") (qH (tTup (qH (tC (.int 0)) (qH (qT 1) tNil))) tNil))) (tRet (qT 1)))
    { nx := fun _ H' => Q .non H', rt := Q } [some (V.ref a.run), some (V.int z)] H := by
   intro z hz
   subst hz
   refine ⟨_, rfl, a.run, cRn, dx, _, _, rfl, hi, C.cl, C.nGt, rnf_gt .., _, _, rfl, rfl, dx, _, hi, (by show 7 < 1000; decide), ?_⟩
   have R1 := R.setN dx m.st.left (m.st.got + 1) (fs := qK "gets" (.int ((m.st.got : Int) + 1)) (rnf (.ref a.fd) (.int (m.st.left : Int)) (.ref a.gl) (.int (m.st.got : Int)) (.ref a.rl) (.ref a.cl) (.ref a.wl))) (by rw [put_gt]; rfl)
   obtain ⟨dx1, hi1⟩ := id R1.ins
   obtain ⟨es, hes, hp⟩ := id R1.recd
   refine ⟨_, rfl, a.run, cRn, dx1, _, _, rfl, hi1, C.cl, C.nRe, rnf_re .., .inl ⟨rfl, _, qZ.of hes⟩, _, rfl, (by show 2 <= sizeLine; decide), fun p hn => ?_⟩
   have npr : a.rl ≠ p := zH hes hn
   refine ⟨a.rl, _, _, rfl, rfl, by rw [zF npr]; exact hes, ?_, _, rfl, ?_⟩
   ·have e := Paired.length hp
    rw [List.length_map, e]
    exact Nat.lt_of_lt_of_le hev (by decide)
   ·exact kk _ (R1.addR (.get (told gs m.st.got)) hes hp hn rfl)
  refine qG (fun h1 => ?_) (fun h1 => ?_)
  ·have h1 := of_decide_eq_true h1
   rw [List.length_map] at h1
   have hne : gs ≠ [] := fun z => by rw [z] at h1; simp at h1
   refine ⟨_, rfl, a.run, cRn, dx, _, _, rfl, hi, C.cl, C.nG, rnf_g .., _, rfl, a.run, cRn, dx, _, _, rfl, hi, C.cl, C.nGt, rnf_gt .., _, rfl, a.run, cRn, dx, _, _, rfl, hi, C.cl, C.nG, rnf_g .., a.gl, _, rfl, .inl hg', _, _, rfl, rfl, ?_, ?_⟩
   ·rw [List.length_map]; exact h1
   ·refine ⟨a.gl, _, _, .int (told gs m.st.got), rfl, rfl, hg', ?_, fin _ rfl⟩
    rw [List.length_map]
    have e : ((m.st.got : Int) % (gs.length : Int)) = ((m.st.got % gs.length : Nat) : Int) := by omega
    rw [e]
    exact zU (told_at hne _)
  ·refine fin 0 ?_
   have h1 : ¬ (0 : Int) < ((gs.map V.int).length : Int) := fun z => h1 (decide_eq_true z)
   rw [List.length_map] at h1
   have : gs = [] := List.length_eq_zero_iff.mp (by omega)
   rw [this]
   rfl
theorem scCInit : FnScope ["self", "orders"] ["self", "orders"] (zJ sCInit) := scK
theorem ok_cInit {f : Addr} {fd : FuncData} (F : Fun K "__init__" "Call.__init__" sCInit f fd) (C : CallC K cL) : FnOk P w K mg base (CXW P w) 1 f fd ["self", "orders"] (spCInit cL) := by
 refine F.okW scCInit (fun vs H Q E h => ?_) (fun cdv A outer s H vs Q E hr h => ?_)
 ·obtain ⟨x, dx, v, rfl, _⟩ := h
  rfl
 ·obtain ⟨x, dx, v, rfl, hx, kk⟩ := h
  refine ⟨_, zB (qR (pv 0) (pv 1) rfl) (zB (qR (pv 0) zQ rfl) (zC (qR (pv 0) pe_dnewK rfl))), ?_⟩
  refine ⟨_, rfl, _, rfl, x, cL, dx, _, rfl, hx, C.cl, C.nO, (by show 0 < 1000; decide), ?_⟩
  refine ⟨_, rfl, x, cL, dx, _, rfl, zG, C.cl, C.nA, (by show 1 < 1000; decide), ?_⟩
  rw [upd_upd]
  intro vd hvd
  have nvx : vd ≠ x := fun z => by
   subst z
   rw [zG] at hvd
   cases hvd
  have hvd0 : H vd = none := by
   rw [zF nvx] at hvd
   exact hvd
  refine ⟨_, rfl, x, cL, dx, _, rfl, (by rw [zF nvx.symm]; exact zG), C.cl, C.nV, (by have := yP "at" (.int 0) (qK "orders" v []); exact Nat.lt_of_le_of_lt this (by show 2 < 1000; decide)), ?_⟩
  rw [clf_made]
  refine kk _ vd hvd0 nvx zG (by rw [zF nvx]; exact zG) fun b o e hb => ?_
  rw [zF hb, zF (zH e hvd0), zF hb]
  exact e
theorem scBegC : FnScope ["run", "name", "function", "call", "parameter"] ["run", "name"] (zJ sBegC) := scK
theorem bind_more {ps : List Bytes} {as : List Int} {j : Nat} {p : Bytes} {z : Int} (h1 : ps[j]? = some p) (h2 : as[j]? = some z) : bindP (ps.drop j) (as.drop j) = setv (bindP (ps.drop (j + 1)) (as.drop (j + 1))) p z := by
 obtain ⟨k1, e1⟩ := List.getElem?_eq_some_iff.mp h1
 obtain ⟨k2, e2⟩ := List.getElem?_eq_some_iff.mp h2
 rw [List.drop_eq_getElem_cons k1, List.drop_eq_getElem_cons k2, e1, e2]
 rfl
theorem take_rev {as : List Int} {j : Nat} {z : Int} (h : as[j]? = some z) (ws : List Int) : (as.take (j + 1)).reverse ++ ws = z :: ((as.take j).reverse ++ ws) := by
 obtain ⟨k, e⟩ := List.getElem?_eq_some_iff.mp h
 rw [List.take_succ_eq_append_getElem k, List.reverse_append, e]
 rfl
theorem ok_begC {f fI : Addr} {fd fdI : FuncData} {tab : Tab} (D : Dn K mg "begin_call" sBegC ["run", "name"] f fd) (G : Gs mg) (G5 : Gs5 mg) (X : XR K mg cZ cO cS cC) (C : RunC K cRn) (C2 : CallC K cL) (CL : CI K mg cL fI fdI "Call" "Call.__init__" sCInit ["self", "orders"]) (F : FC K cF) :
  FnOk P w K mg base (CXW P w) 3 f fd ["run", "name"] (spBegC cRn cL cF cC tab) := by
 have GI : FnOk P w K mg base (CXW P w) 1 fI fdI ["self", "orders"] (spCInit cL) := ok_cInit CL.fI C2
 refine D.fn.okW scBegC (fun vs H Q E h => ?_) (fun cdv A outer s H vs Q E hr h => ?_)
 ·obtain ⟨H0, a, cs, m, f, rfl, _⟩ := h
  rfl
 ·obtain ⟨H0, a, cs, m, f, rfl, R, TA, hf64, kk⟩ := h
  have hu := hu_of hr
  have hr2 : Room 2 _ := hr
  obtain ⟨dx, hi⟩ := id R.ins
  have hcl : ((cs.map Prod.fst).reverse.map V.ref).length = m.frs.length := by rw [List.length_map, List.length_reverse, List.length_map, Paired.length R.frs]
  refine ⟨_, zB (zZ (zM qE (yD G.len (zX (pv 0) rfl)) (qL G5.mostCalls) (nomark _)) (zC (qF makeW rfl rfl X.c X.cD)) zY) (zB (qB (i := 2) scBegC.nd rfl (Or.inl rfl) (pe_dget hu (zX (pv 0) rfl) (pv 1) (fun _ _ => rfl))) (zB (qB (i := 3) scBegC.nd rfl (Or.inl rfl) (pe_make CL.mkC GI hr2 rfl CL.mgC CL.bI .nil qC (zA (zX (pv 2) rfl) zE))) (zB (ps_for ownW rfl (pi_reversed (by rfl) G5.rev (zA (zX (pv 2) rfl) zE)) (pg_name (i := 4) scBegC.nd rfl (Or.inl rfl)) (zC (ps_dput hu (zX (pv 3) rfl) (pv 4) (pe_bm0 PySem.F.plainAttrs_list PySem.F.slot_list_pop PySem.F.type_list_pop mt_pop (zX (pv 0) rfl)) rfl))) (zC (zL (pe_bm PySem.F.plainAttrs_list PySem.F.slot_list_append PySem.F.type_list_append yO (zX (pv 0) rfl) (zA (pv 3) zE))))))), ?_⟩
  refine ⟨_, rfl, a.run, cRn, dx, _, _, rfl, hi, C.cl, C.nCa, rnf_ca .., a.cl, _, rfl, .inl (qZ.of R.calls), rfl, _, rfl, ?_⟩
  rw [hcl]
  refine qG (fun h1 => ?_) (fun h1 => ?_)
  ·have h1 := V.int.inj (of_decide_eq_true h1)
   have h1 : m.frs.length = 64 := by omega
   rcases kk with ⟨m', hb, _⟩ | ⟨_, k⟩
   ·cases hb with
    | mk ht hl hd => exact absurd h1 hd
   ·exact k H R.recAt
  ·have h1 : m.frs.length ≠ 64 := fun z => h1 (decide_eq_true (by rw [z]; rfl))
   rcases kk with ⟨m', hb, kk⟩ | ⟨z, _⟩
   ·cases hb with
    | @mk fs ws st ps as code ht hl hd =>
     obtain ⟨kvs, hfd, tb⟩ := TA
     obtain ⟨fo, dxf, p, ml, qs, nm, hv, hfo, hpp, hml, hqs, hsm, hp4⟩ := tb f ps code ht
     have hfd' := R.same _ _ hfd
     have hfo' := R.same _ _ hfo
     refine ⟨_, rfl, a.run, cRn, dx, _, _, rfl, hi, C.cl, C.nFn, rnf_fn .., _, rfl, a.fd, _, rfl, by have := DGet.k (k := Sum.inr (qA f)) hfd'; rw [hv] at this; exact this, ?_⟩
     refine ⟨_, rfl, fo, cF, dxf, _, _, rfl, hfo', F.cl, F.nMen, ff_men .., fun c dxc hc0 hdc0 nxx => ?_⟩
     have s0 : ∀ b o, H b = some o -> upd (upd H dxc (.own c)) c (.ins cL dxc []) b = some o := fun b o e => by
      rw [zF (zH e hc0), zF (zH e hdc0)]
      exact e
     refine ⟨c, dxc, _, rfl, zG, fun H1 vd hvd nvc hc1 hv1 k1 => ⟨rfl, ?_⟩⟩
     have s1 : ∀ b o, H b = some o -> H1 b = some o := fun b o e => k1 b o (s0 b o e) (zH e hc0)
     have R1 := R.more s1
     have hvd0 : H vd = none := by
      cases q : H vd with
      | none => rfl
      | some o => rw [s0 _ _ q] at hvd; cases hvd
     have hc00 : H0 c = none := by
      cases q : H0 c with
      | none => rfl
      | some o => rw [R.same _ _ q] at hc0; cases hc0
     have hv00 : H0 vd = none := by
      cases q : H0 vd with
      | none => rfl
      | some o => rw [R.same _ _ q] at hvd0; cases hvd0
     have ncs : c ∉ cs.map Prod.fst := fun z => by
      obtain ⟨q, hq, rfl⟩ := List.mem_map.mp z
      obtain ⟨⟨_, _, k⟩, _⟩ := R.kind hq
      rw [hc0] at k
      cases k
     have nvs' : vd ∉ cs.map Prod.snd := fun z => by
      obtain ⟨q, hq, rfl⟩ := List.mem_map.mp z
      obtain ⟨_, _, k⟩ := R.kind hq
      rw [hvd0] at k
      cases k
     have ncr : c ≠ a.run := fun z => by rw [z, hi] at hc0; cases hc0
     have hpl : (nvs ps).length = ps.length := by unfold nvs; rw [List.length_map]
     have hfo1 := s1 _ _ hfo'
     refine ⟨_, rfl, fo, cF, dxf, _, _, rfl, hfo1, F.cl, F.nPar, ff_par .., p, nvs ps, rfl, qZ.of (R1.same _ _ hpp), ?_⟩
     refine for_revL (fun i σ H' => ∃ v : Option V, σ = [some (V.ref a.run), some (V.str (qA f)), some (V.ref fo), some (V.ref c), v] /\ RunAt cRn cL H0 H' a cs ⟨fs, (as.take (ps.length - i)).reverse ++ ws, st⟩ /\ H' c = some (.ins cL dxc (clf (.ref ml) (.int 0) (.ref vd))) /\
       ∃ kvs, H' vd = some (.dK kvs) /\ Vars kvs (bindP (ps.drop (ps.length - i)) (as.drop (ps.length - i))) i)
      ⟨none, rfl, by rw [Nat.sub_zero, hl, List.take_length]; exact R1, hc1, [], hv1, by rw [Nat.sub_zero, List.drop_length]; exact ⟨fun x => rfl, Nat.le_refl _⟩⟩ (fun i σ H' _ h => by obtain ⟨_, _, R2, _⟩ := h; exact qZ.of (R2.same _ _ hpp)) ?_ ?_
     ·rintro i x σ H' hi' hx ⟨v, rfl, R2, hc2, kv2, hv2, hV⟩
      rw [hpl] at hi' hx
      obtain ⟨j, hj⟩ : ∃ j, ps.length - i = j + 1 := ⟨ps.length - i - 1, by omega⟩
      have hj' : ps.length - 1 - i = j := by omega
      rw [hj'] at hx
      rw [hj] at R2 hV
      obtain ⟨pn, hpn⟩ : ∃ pn, ps[j]? = some pn := ⟨ps[j]'(by omega), List.getElem?_eq_getElem _⟩
      obtain ⟨z, hz⟩ : ∃ z, as[j]? = some z := ⟨as[j]'(by omega), List.getElem?_eq_getElem _⟩
      have ex : x = V.str (qA pn) := by
       unfold nvs at hx
       rw [List.getElem?_map, hpn] at hx
       exact (Option.some.inj hx).symm
      subst ex
      rw [take_rev hz] at R2
      refine yA C R2 rfl fun H3 K3 R3 => ?_
      have hc3 := K3 _ _ hc2 (qD hc2 R2.wait (by intro z; cases z))
      have hv3 := K3 _ _ hv2 (qD hv2 R2.wait (by intro z; cases z))
      refine ⟨_, rfl, c, cL, dxc, _, _, rfl, hc3, C2.cl, C2.nV, clf_v .., _, rfl, vd, _, rfl, DPut.k (k := Sum.inr (qA pn)) hv3 ?_, ?_⟩
      ·have := hV.2
       exact Nat.lt_of_le_of_lt (show kv2.length <= 4 by omega) (by decide)
      ·have e1 : ps.length - (i + 1) = j := by omega
       refine ⟨_, rfl, ?_, ?_, _, zG, ?_⟩
       ·rw [e1]
        exact R3.offD hv00 nvs' hv3 _
       ·rw [zF (qD hc3 hv3 (by intro z; cases z))]
        exact hc3
       ·rw [e1, bind_more hpn hz]
        exact hV.put pn z
     ·rintro σ H' ⟨v, rfl, R2, hc2, kv2, hv2, hV⟩
      rw [hpl, Nat.sub_self] at R2 hV
      obtain ⟨dx2, hi2⟩ := id R2.ins
      refine ⟨_, rfl, a.run, cRn, dx2, _, _, rfl, hi2, C.cl, C.nCa, rnf_ca .., .inl ⟨rfl, _, qZ.of R2.calls⟩, _, rfl, a.cl, _, _, rfl, rfl, R2.calls, ?_, ?_⟩
      ·rw [hcl]
       exact Nat.lt_of_le_of_lt hf64 (by decide)
      ·refine kk _ ((c, vd) :: cs) (R2.addC (f := ⟨code, 0, bindP ps as, ps.length⟩) ⟨dxc, ml, qs, kv2, hc2, hml, hqs, hv2, hV⟩ ⟨hc00, hv00, ncr⟩ ncs nvs' rfl)
   ·exact absurd z h1
end
end SM
end
section
set_option Elab.async false
set_option linter.all false
set_option maxRecDepth 100000
set_option maxHeartbeats 2000000
namespace SM
open PySem PySem.Spec PyProof.Rows L2
open Kp110 (Bytes Ev opBin)
open Kp110Neutral (told)
abbrev sNum : Stmt := top 52
abbrev sWork : Stmt := top 51
abbrev sMain : Stmt := top 50
def excOf (cZ cO cS cC : Addr) (c : Int) : Addr := if c = -33 then cZ else if c = -34 then cO else if c = -62 then cS else cC
theorem exc33 (cZ cO cS cC : Addr) : excOf cZ cO cS cC (-33) = cZ := by simp [excOf]
theorem exc34 (cZ cO cS cC : Addr) : excOf cZ cO cS cC (-34) = cO := by simp [excOf]
theorem exc62 (cZ cO cS cC : Addr) : excOf cZ cO cS cC (-62) = cS := by simp [excOf]
theorem exc40 (cZ cO cS cC : Addr) : excOf cZ cO cS cC (-40) = cC := by simp [excOf]
theorem val_halt {z c : Int} {s t : Kp110.St} (h : Kp110.val z s = .halt_ c t) : c = -34 := by
 unfold Kp110.val at h
 split at h
 ·cases h
 ·cases h; rfl
theorem unR_halt {op : Nat} {a c : Int} {s t : Kp110.St} (h : unR op a s = .halt_ c t) : c = -34 := by
 unfold unR at h
 split at h
 ·cases h
 ·exact val_halt h
theorem opBin_halt {op : Nat} {a b c : Int} {s t : Kp110.St} (h : opBin op a b s = .halt_ c t) : c = -34 ∨ c = -33 := by
 unfold Kp110.opBin at h
 repeat (first | exact .inl (val_halt h) | (cases h <;> exact .inr rfl) | split at h)
def isNum : Mn -> Bool
 | .num _ => true
 | .use _ => true
 | .get => true
 | .one _ => true
 | .two _ => true
 | _ => false
def spNum (K : PySem.W.Frag) (cRn cL cZ cO cS cC : Addr) (tab : Tab) : Sp := fun vs H Q E => ∃ (H0 : Hp) (a : RA) (c vd : Addr) (cs : List (Addr × Addr)) (m : MS) (gs : List Int) (o : Mn) (q : Addr), vs = [V.ref a.run, V.ref c, V.ref q] /\ RunAt cRn cL H0 H a ((c, vd) :: cs) m /\
 H0 q = some (.tup o.vals) /\ okM o /\ Fine m /\ qZ K H0 a.gl (gs.map V.int) /\ m.st.evs.length < 10000000 /\ isNum o = true /\
 ((∃ m', Work tab (told gs) o m m' /\ ∀ H', RunAt cRn cL H0 H' a ((c, vd) :: cs) ⟨m'.frs, m'.ws.tail, m'.st⟩ -> Q (.int (m'.ws.headD 0)) H') ∨ (∃ e, Stop o m e /\ ∀ H', RecAt cRn H' a m.st.evs -> E (.ref (excOf cZ cO cS cC e)) none H'))
def spWork (K : PySem.W.Frag) (cRn cL cF cZ cO cS cC : Addr) (tab : Tab) : Sp := fun vs H Q E => ∃ (H0 : Hp) (a : RA) (c vd : Addr) (cs : List (Addr × Addr)) (m : MS) (gs : List Int) (o : Mn) (q : Addr), vs = [V.ref a.run, V.ref c, V.ref q] /\ RunAt cRn cL H0 H a ((c, vd) :: cs) m /\ TabAt cF H0 a.fd tab /\
 H0 q = some (.tup o.vals) /\ okM o /\ Fine m /\ qZ K H0 a.gl (gs.map V.int) /\ m.st.evs.length < 10000000 /\ m.frs.length <= 64 /\
 ((∃ m', Work tab (told gs) o m m' /\ m.ws.length <= 1000000 /\ (∀ f fs, m.frs = f :: fs -> f.nv <= 1000000) /\ ∀ H' cs', RunAt cRn cL H0 H' a cs' m' -> Q .non H') ∨ (∃ e, Stop o m e /\ ∀ H', RecAt cRn H' a m.st.evs -> E (.ref (excOf cZ cO cS cC e)) none H'))
section
variable {P : Program} {w : World} {K : PySem.W.Frag} {mg : Str -> Option Value} {base : Heap} {cRn cL cF cZ cO cS cC : Addr}
theorem scNum : FnScope ["run", "call", "order", "how", "right", "left"] ["run", "call", "order"] (zJ sNum) := scK
theorem ok_num {f fA f1 fT : Addr} {fd fdA fd1 fdT : FuncData} {tab : Tab} (D : Dn K mg "number_of" sNum ["run", "call", "order"] f fd) (DA : Dn K mg "ask" sAsk ["run"] fA fdA) (D1 : Dn K mg "reckon_one" sOne ["sign", "number"] f1 fd1) (DT : Dn K mg "reckon_two" sTwo ["sign", "left", "right"] fT fdT)
  (C : RunC K cRn) (C2 : CallC K cL) (GA : FnOk P w K mg base (CXW P w) 1 fA fdA ["run"] (spAsk K cRn cL)) (G1 : FnOk P w K mg base (CXW P w) 2 f1 fd1 ["sign", "number"] (spOne cO)) (GT : FnOk P w K mg base (CXW P w) 2 fT fdT ["sign", "left", "right"] (spTwo cZ cO)) :
  FnOk P w K mg base (CXW P w) 3 f fd ["run", "call", "order"] (spNum K cRn cL cZ cO cS cC tab) := by
 refine D.fn.okW scNum (fun vs H Q E h => ?_) (fun cdv A outer s H vs Q E hr h => ?_)
 ·obtain ⟨H0, a, c, vd, cs, m, gs, o, q, rfl, _⟩ := h
  rfl
 ·obtain ⟨H0, a, c, vd, cs, m, gs, o, q, rfl, R, hq, ho, Fn, hg, hev, hn, kk⟩ := h
  have hu := hu_of hr
  have hr1 : Room 1 _ := hr.mono (by omega)
  have hq' := R.same _ _ hq
  refine ⟨_, zB (qB (i := 3) scNum.nd rfl (Or.inl rfl) (qV ix_tup (pv 2) zQ (fun _ _ => rfl))) (zB (zZ (zM qE (pv 3) zK (nomark _)) (zC (zW (qV ix_tup (pv 2) zQ (fun _ _ => rfl)))) zY) (zB (zZ (zM qE (pv 3) zK (nomark _)) (zC (zW (pe_dget hu (zX (pv 1) rfl) (qV ix_tup (pv 2) zQ (fun _ _ => rfl)) (fun _ _ => rfl)))) zY) (zB (zZ (zM qE (pv 3) zK (nomark _)) (zC (zW (zO GA hr1 rfl DA.mgf DA.fn.kp DA.bi .nil qC (zA (pv 0) zE)))) zY) (zB (zZ (zM qE (pv 3) zK (nomark _)) (zC (zW (zO G1 hr rfl D1.mgf D1.fn.kp D1.bi .nil zT (zA (qV ix_tup (pv 2) zQ (fun _ _ => rfl)) (zA (pe_bm0 PySem.F.plainAttrs_list PySem.F.slot_list_pop PySem.F.type_list_pop mt_pop (zX (pv 0) rfl)) zE))))) zY) (zB (qB (i := 4) scNum.nd rfl (Or.inl rfl) (pe_bm0 PySem.F.plainAttrs_list PySem.F.slot_list_pop PySem.F.type_list_pop mt_pop (zX (pv 0) rfl))) (zB (qB (i := 5) scNum.nd rfl (Or.inl rfl) (pe_bm0 PySem.F.plainAttrs_list PySem.F.slot_list_pop PySem.F.type_list_pop mt_pop (zX (pv 0) rfl))) (zC (zW (zO GT hr rfl DT.mgf DT.fn.kp DT.bi .nil zT (zA (qV ix_tup (pv 2) zQ (fun _ _ => rfl)) (zA (pv 5) (zA (pv 4) zE)))))))))))), ?_⟩
  cases o with
  | num k =>
    refine ⟨_, rfl, q, _, _, _, rfl, rfl, SqT.of hq', zU (j := 0) rfl, ?_⟩
    refine ⟨_, rfl, rfl, _, rfl, yJ ?_⟩
    rcases kk with ⟨m', hw, kk⟩ | ⟨e, hs, _⟩
    ·cases hw
     exact ⟨_, rfl, q, _, _, _, rfl, rfl, SqT.of hq', zU (j := 2) rfl, kk H R⟩
    ·cases hs
  | use x =>
    refine ⟨_, rfl, q, _, _, _, rfl, rfl, SqT.of hq', zU (j := 0) rfl, ?_⟩
    refine ⟨_, rfl, rfl, _, rfl, zN ?_⟩
    refine ⟨_, rfl, rfl, _, rfl, yJ ?_⟩
    rcases kk with ⟨m', hw, kk⟩ | ⟨e, hs, _⟩
    ·cases hw with
     | @use cd p n v fs ws st x z hx =>
      obtain ⟨dxc, ol, qs, kvs, h1, h2, h3, h4, h5⟩ : FrAt cL H0 H (c, vd) ⟨cd, p, v, n⟩ := by
       cases R.frs with
       | cons r t => exact r
      have hv := h5.1 x
      dsimp only at hv
      rw [hx] at hv
      exact ⟨_, rfl, c, cL, dxc, _, _, rfl, h1, C2.cl, C2.nV, clf_v .., _, rfl, q, _, _, _, rfl, rfl, SqT.of hq', zU (j := 1) rfl, vd, _, rfl, by have := DGet.k (k := Sum.inr (qA x)) h4; rw [hv] at this; exact this, kk H R⟩
    ·cases hs
  | get =>
    refine ⟨_, rfl, q, _, _, _, rfl, rfl, SqT.of hq', zU (j := 0) rfl, ?_⟩
    refine ⟨_, rfl, rfl, _, rfl, zN ?_⟩
    refine ⟨_, rfl, rfl, _, rfl, zN ?_⟩
    refine ⟨_, rfl, rfl, _, rfl, yJ ?_⟩
    rcases kk with ⟨m', hw, kk⟩ | ⟨e, hs, _⟩
    ·cases hw
     exact ⟨_, rfl, H0, a, _, _, gs, rfl, R, hg, hev, fun H' R' => kk H' R'⟩
    ·cases hs
  | one op =>
    refine ⟨_, rfl, q, _, _, _, rfl, rfl, SqT.of hq', zU (j := 0) rfl, ?_⟩
    refine ⟨_, rfl, rfl, _, rfl, zN ?_⟩
    refine ⟨_, rfl, rfl, _, rfl, zN ?_⟩
    refine ⟨_, rfl, rfl, _, rfl, zN ?_⟩
    refine ⟨_, rfl, rfl, _, rfl, yJ ?_⟩
    rcases kk with ⟨m', hw, kk⟩ | ⟨e, hs, kk⟩
    ·cases hw with
     | @one fs ws st op av z hz =>
      refine ⟨_, rfl, q, _, _, _, rfl, rfl, SqT.of hq', zU (j := 1) rfl, ?_⟩
      refine yA C R rfl fun H3 K3 R3 => ⟨op, av, st, rfl, ho, fun z hz' => ?_, fun hz' => ?_⟩
      ·rw [hz] at hz'
       cases hz'
       exact kk H3 R3
      ·rw [hz] at hz'
       cases hz'
    ·cases hs with
     | @one fs ws st op av e hz =>
      refine ⟨_, rfl, q, _, _, _, rfl, rfl, SqT.of hq', zU (j := 1) rfl, ?_⟩
      refine yA C R rfl fun H3 K3 R3 => ⟨op, av, st, rfl, ho, fun z hz' => ?_, fun hz' => ?_⟩
      ·rw [hz] at hz'
       cases hz'
      ·have e := unR_halt hz
       subst e
       have := kk H3 R3.recAt
       rw [exc34] at this
       exact this
  | two op =>
    refine ⟨_, rfl, q, _, _, _, rfl, rfl, SqT.of hq', zU (j := 0) rfl, ?_⟩
    refine ⟨_, rfl, rfl, _, rfl, zN ?_⟩
    refine ⟨_, rfl, rfl, _, rfl, zN ?_⟩
    refine ⟨_, rfl, rfl, _, rfl, zN ?_⟩
    refine ⟨_, rfl, rfl, _, rfl, zN ?_⟩
    rcases kk with ⟨m', hw, kk⟩ | ⟨e, hs, kk⟩
    ·cases hw with
     | @two fs ws st op av bv z hz =>
      have ia := Fn.ws av (List.mem_cons_of_mem _ List.mem_cons_self)
      have ib := Fn.ws bv List.mem_cons_self
      refine yA C R rfl fun H3 K3 R3 => ?_
      refine yA C R3 rfl fun H4 K4 R4 => ?_
      refine ⟨_, rfl, q, _, _, _, rfl, rfl, SqT.of (R4.same _ _ hq), zU (j := 1) rfl, _, rfl, _, rfl, op, av, bv, st, rfl, ho, ia, ib, fun z' hz' => ?_, fun hz' => ?_, fun hz' => ?_⟩
      ·rw [hz] at hz'
       cases hz'
       exact kk H4 R4
      ·rw [hz] at hz'
       cases hz'
      ·rw [hz] at hz'
       cases hz'
    ·cases hs with
     | @two fs ws st op av bv e hz =>
      have ia := Fn.ws av (List.mem_cons_of_mem _ List.mem_cons_self)
      have ib := Fn.ws bv List.mem_cons_self
      refine yA C R rfl fun H3 K3 R3 => ?_
      refine yA C R3 rfl fun H4 K4 R4 => ?_
      refine ⟨_, rfl, q, _, _, _, rfl, rfl, SqT.of (R4.same _ _ hq), zU (j := 1) rfl, _, rfl, _, rfl, op, av, bv, st, rfl, ho, ia, ib, fun z' hz' => ?_, fun hz' => ?_, fun hz' => ?_⟩
      ·rw [hz] at hz'
       cases hz'
      ·rw [hz] at hz'
       cases hz'
       have := kk H4 R4.recAt
       rw [exc34] at this
       exact this
      ·rw [hz] at hz'
       cases hz'
       have := kk H4 R4.recAt
       rw [exc33] at this
       exact this
  | _ => cases hn
theorem scWork : FnScope ["run", "call", "order", "how"] ["run", "call", "order"] (zJ sWork) := scK
theorem work_num {tab : Tab} {g : Nat -> Int} {o : Mn} {m m' : MS} (hn : isNum o = true) (h : Work tab g o m m') : m'.ws = m'.ws.headD 0 :: m'.ws.tail /\ m'.ws.tail.length <= m.ws.length := by
 cases h <;> first | (cases hn; done) | exact ⟨rfl, Nat.le_refl _⟩ | exact ⟨rfl, Nat.le_succ _⟩ | exact ⟨rfl, Nat.le_trans (Nat.le_succ _) (Nat.le_succ _)⟩
theorem ok_work {f fS fC fN : Addr} {fd fdS fdC fdN : FuncData} {tab : Tab} (D : Dn K mg "work_off" sWork ["run", "call", "order"] f fd) (DS : Dn K mg "begin_statement" sBegS ["run"] fS fdS) (DC : Dn K mg "begin_call" sBegC ["run", "name"] fC fdC) (DN : Dn K mg "number_of" sNum ["run", "call", "order"] fN fdN)
  (G5 : Gs5 mg) (C : RunC K cRn) (C2 : CallC K cL) (GS : FnOk P w K mg base (CXW P w) 1 fS fdS ["run"] (spBegS cRn cL cS)) (GC : FnOk P w K mg base (CXW P w) 3 fC fdC ["run", "name"] (spBegC cRn cL cF cC tab)) (GN : FnOk P w K mg base (CXW P w) 3 fN fdN ["run", "call", "order"] (spNum K cRn cL cZ cO cS cC tab)) :
  FnOk P w K mg base (CXW P w) 4 f fd ["run", "call", "order"] (spWork K cRn cL cF cZ cO cS cC tab) := by
 refine D.fn.okW scWork (fun vs H Q E h => ?_) (fun cdv A outer s H vs Q E hr h => ?_)
 ·obtain ⟨H0, a, c, vd, cs, m, gs, o, q, rfl, _⟩ := h
  rfl
 ·obtain ⟨H0, a, c, vd, cs, m, gs, o, q, rfl, R, TA, hq, ho, Fn, hg, hev, hf64, kk⟩ := h
  have hu := hu_of hr
  have hr1 : Room 1 _ := hr.mono (by omega)
  have hq' := R.same _ _ hq
  refine ⟨_, zB (qB (i := 3) scWork.nd rfl (Or.inl rfl) (qV ix_tup (pv 2) zQ (fun _ _ => rfl))) (zC (zZ (zM qE (pv 3) zK (nomark _)) (zC (zL (zO GS hr1 rfl DS.mgf DS.fn.kp DS.bi .nil zT (zA (pv 0) zE)))) (zC (zZ (zM qE (pv 3) zK (nomark _)) (zC (zL (zO GC hr rfl DC.mgf DC.fn.kp DC.bi .nil zT (zA (pv 0) (zA (qV ix_tup (pv 2) zQ (fun _ _ => rfl)) zE))))) (zC (zZ (zM qE (pv 3) zK (nomark _)) (zC (zL (pe_bm0 PySem.F.plainAttrs_list PySem.F.slot_list_pop PySem.F.type_list_pop mt_pop (zX (pv 0) rfl)))) (zC (zZ (PW.pt (pw_or (zM qE (pv 3) zK (nomark _)) (pw_or1 (zM qE (pv 3) zK (nomark _))))) (zC (ps_dput hu (zX (pv 1) rfl) (qV ix_tup (pv 2) zQ (fun _ _ => rfl)) (pe_bm0 PySem.F.plainAttrs_list PySem.F.slot_list_pop PySem.F.type_list_pop mt_pop (zX (pv 0) rfl)) rfl)) (zC (zZ (zM qE (pv 3) zK (nomark _)) (zC (zL (pe_bm PySem.F.plainAttrs_list PySem.F.slot_list_append PySem.F.type_list_append yO (zX (pv 0) rfl) (zA (pe_tup (zA (qL G5.told) (zA (pe_bm0 PySem.F.plainAttrs_list PySem.F.slot_list_pop PySem.F.type_list_pop mt_pop (zX (pv 0) rfl)) zE))) zE)))) (zC (zZ (zM qE (pv 3) zK (nomark _)) (zC (zL (pe_bm0 PySem.F.plainAttrs_list PySem.F.slot_list_pop PySem.F.type_list_pop mt_pop (zX (pv 0) rfl)))) (zC (zZ (zM qE (pv 3) zK (nomark _)) (zC (qR (pv 1) (qV ix_tup (pv 2) zQ (fun _ _ => rfl)) rfl)) (zC (zZ (zM qE (pv 3) zK (nomark _)) (zC (zZ (zM qE (pe_bm0 PySem.F.plainAttrs_list PySem.F.slot_list_pop PySem.F.type_list_pop mt_pop (zX (pv 0) rfl)) zQ (nomark _)) (zC (qR (pv 1) (qV ix_tup (pv 2) zQ (fun _ _ => rfl)) rfl)) zY)) (zC (zZ (PW.pt (pw_and (zM op_ne (pv 3) zK (nomark _)) (pw_and1 (zM op_ne (pv 3) zK (nomark _))))) (zC (zL (pe_bm PySem.F.plainAttrs_list PySem.F.slot_list_append PySem.F.type_list_append yO (zX (pv 0) rfl) (zA (zO GN hr rfl DN.mgf DN.fn.kp DN.bi .nil zT (zA (pv 0) (zA (pv 1) (zA (pv 2) zE)))) zE)))) zY)))))))))))))))))), ?_⟩
  have numb : isNum o = true -> ∀ {hw : Str}, tDrop (tBM K "list" rAppend (tFld K (qT 0) "waiting") (qH (tCall (spNum K cRn cL cZ cO cS cC tab) [] E (qH (qT 0) (qH (qT 1) (qH (qT 2) tNil)))) tNil)) { nx := fun _ H' => Q .non H', rt := Q } [some (V.ref a.run), some (V.ref c), some (V.ref q), some (V.str hw)] H := by
   intro hn hw
   obtain ⟨dx, hi⟩ := id R.ins
   refine ⟨_, rfl, a.run, cRn, dx, _, _, rfl, hi, C.cl, C.nWa, rnf_wa .., .inl ⟨rfl, _, qZ.of R.wait⟩, _, rfl, _, rfl, _, rfl, H0, a, c, vd, cs, m, gs, o, q, rfl, R, hq, ho, Fn, hg, hev, hn, ?_⟩
   rcases kk with ⟨m', hw, hws, hnv, kk⟩ | ⟨e, hs, kk⟩
   ·refine .inl ⟨m', hw, fun H3 R3 => ?_⟩
    obtain ⟨e1, e2⟩ := work_num hn hw
    refine ⟨a.wl, _, _, rfl, rfl, R3.wait, ?_, ?_⟩
    ·rw [List.length_map, List.length_reverse]
     exact Nat.lt_of_le_of_lt (Nat.le_trans e2 hws) (by decide)
    ·have R4 := R3.setW (m'.ws.headD 0 :: m'.ws.tail) push_rev
     rw [<- e1] at R4
     exact kk _ _ R4
   ·exact .inr ⟨e, hs, kk⟩
  cases o with
  | step =>
   refine ⟨_, rfl, q, _, _, _, rfl, rfl, SqT.of hq', zU (j := 0) rfl, ?_⟩
   refine ⟨_, rfl, rfl, _, rfl, yJ ?_⟩
   rcases kk with ⟨m', hw, hws, hnv, kk⟩ | ⟨e, hs, kk⟩
   ·cases hw with
    | step hl => exact ⟨_, rfl, H0, a, _, _, rfl, R, fun _ H' R' => kk H' _ R', fun z => absurd z hl⟩
   ·cases hs with
    | step hl => exact ⟨_, rfl, H0, a, _, _, rfl, R, fun z => absurd hl z, fun _ => by have := kk H R.recAt; rw [exc62] at this; exact this⟩
  | call fn k =>
   refine ⟨_, rfl, q, _, _, _, rfl, rfl, SqT.of hq', zU (j := 0) rfl, ?_⟩
   refine ⟨_, rfl, rfl, _, rfl, zN ?_⟩
   refine ⟨_, rfl, rfl, _, rfl, yJ ?_⟩
   refine ⟨_, rfl, _, rfl, q, _, _, _, rfl, rfl, SqT.of hq', zU (j := 1) rfl, H0, a, _, _, fn, rfl, R, TA, hf64, ?_⟩
   rcases kk with ⟨m', hw, hws, hnv, kk⟩ | ⟨e, hs, kk⟩
   ·cases hw with
    | call hb => exact .inl ⟨m', hb, fun H' cs' R' => kk H' cs' R'⟩
   ·cases hs with
    | call hl => exact .inr ⟨hl, fun H' R' => by have := kk H' R'; rw [exc40] at this; exact this⟩
  | ret =>
   refine ⟨_, rfl, q, _, _, _, rfl, rfl, SqT.of hq', zU (j := 0) rfl, ?_⟩
   refine ⟨_, rfl, rfl, _, rfl, zN ?_⟩
   refine ⟨_, rfl, rfl, _, rfl, zN ?_⟩
   refine ⟨_, rfl, rfl, _, rfl, yJ ?_⟩
   rcases kk with ⟨m', hw, hws, hnv, kk⟩ | ⟨e, hs, kk⟩
   ·cases hw with
    | ret =>
     obtain ⟨dx, hi⟩ := id R.ins
     have e1 : (((c, vd) :: cs).map Prod.fst).reverse.map V.ref = (cs.map Prod.fst).reverse.map V.ref ++ [.ref c] := by simp
     refine ⟨_, rfl, a.run, cRn, dx, _, _, rfl, hi, C.cl, C.nCa, rnf_ca .., .inl ⟨rfl, _, qZ.of R.calls⟩, a.cl, _, .ref c, rfl, rfl, R.calls, ?_, ?_⟩
     ·rw [e1, List.length_append, List.getElem?_append_right (by simp)]
      simp
     ·refine kk _ cs (R.popC ?_)
      rw [e1, List.dropLast_concat]
   ·cases hs
  | let_ x =>
   refine ⟨_, rfl, q, _, _, _, rfl, rfl, SqT.of hq', zU (j := 0) rfl, ?_⟩
   refine ⟨_, rfl, rfl, _, rfl, zN ?_⟩
   refine ⟨_, rfl, rfl, _, rfl, zN ?_⟩
   refine ⟨_, rfl, rfl, _, rfl, zN ?_⟩
   refine ⟨_, rfl, rfl, _, rfl, yJ ?_⟩
   dsimp only
   rw [if_pos rfl]
   rcases kk with ⟨m', hw, hws, hnv, kk⟩ | ⟨e, hs, _⟩
   ·cases hw with
    | @let_ cd p n v fs ws st x z =>
     obtain ⟨dxc, ol, qs, kvs, h1, h2, h3, h4, h5⟩ : FrAt cL H0 H (c, vd) ⟨cd, p, v, n⟩ := by
      cases R.frs with
      | cons r t => exact r
     refine yA C R rfl fun H3 K3 R3 => ?_
     have h1' := K3 _ _ h1 (qD h1 R.wait (by intro z; cases z))
     have h4' := K3 _ _ h4 (qD h4 R.wait (by intro z; cases z))
     refine ⟨_, rfl, c, cL, dxc, _, _, rfl, h1', C2.cl, C2.nV, clf_v .., _, rfl, q, _, _, _, rfl, rfl, SqT.of (R3.same _ _ hq), zU (j := 1) rfl, vd, _, rfl, DPut.k (k := Sum.inr (qA x)) h4' ?_, ?_⟩
     ·have e1 : kvs.length <= n := h5.2
      have e2 : n <= 1000000 := hnv _ _ rfl
      exact Nat.lt_of_le_of_lt (show kvs.length <= 1000000 by omega) (by decide)
     ·refine kk _ _ (R3.setT (f' := ⟨cd, p, setv v x z, n + 1⟩) ⟨dxc, ol, qs, _, ?_, h2, h3, zG, h5.put x z⟩ fun b o e _ hb => by rw [zF hb]; exact e)
      rw [zF (qD h1' h4' (by intro z; cases z))]
      exact h1'
   ·cases hs
  | set x =>
   refine ⟨_, rfl, q, _, _, _, rfl, rfl, SqT.of hq', zU (j := 0) rfl, ?_⟩
   refine ⟨_, rfl, rfl, _, rfl, zN ?_⟩
   refine ⟨_, rfl, rfl, _, rfl, zN ?_⟩
   refine ⟨_, rfl, rfl, _, rfl, zN ?_⟩
   refine ⟨_, rfl, rfl, _, rfl, zN ?_⟩
   refine ⟨_, rfl, rfl, _, rfl, yJ ?_⟩
   rcases kk with ⟨m', hw, hws, hnv, kk⟩ | ⟨e, hs, _⟩
   ·cases hw with
    | @set cd p n v fs ws st x z =>
     obtain ⟨dxc, ol, qs, kvs, h1, h2, h3, h4, h5⟩ : FrAt cL H0 H (c, vd) ⟨cd, p, v, n⟩ := by
      cases R.frs with
      | cons r t => exact r
     refine yA C R rfl fun H3 K3 R3 => ?_
     have h1' := K3 _ _ h1 (qD h1 R.wait (by intro z; cases z))
     have h4' := K3 _ _ h4 (qD h4 R.wait (by intro z; cases z))
     refine ⟨_, rfl, c, cL, dxc, _, _, rfl, h1', C2.cl, C2.nV, clf_v .., _, rfl, q, _, _, _, rfl, rfl, SqT.of (R3.same _ _ hq), zU (j := 1) rfl, vd, _, rfl, DPut.k (k := Sum.inr (qA x)) h4' ?_, ?_⟩
     ·have e1 : kvs.length <= n := h5.2
      have e2 : n <= 1000000 := hnv _ _ rfl
      exact Nat.lt_of_le_of_lt (show kvs.length <= 1000000 by omega) (by decide)
     ·refine kk _ _ (R3.setT (f' := ⟨cd, p, setv v x z, n + 1⟩) ⟨dxc, ol, qs, _, ?_, h2, h3, zG, h5.put x z⟩ fun b o e _ hb => by rw [zF hb]; exact e)
      rw [zF (qD h1' h4' (by intro z; cases z))]
      exact h1'
   ·cases hs
  | put =>
   refine ⟨_, rfl, q, _, _, _, rfl, rfl, SqT.of hq', zU (j := 0) rfl, ?_⟩
   refine ⟨_, rfl, rfl, _, rfl, zN ?_⟩
   refine ⟨_, rfl, rfl, _, rfl, zN ?_⟩
   refine ⟨_, rfl, rfl, _, rfl, zN ?_⟩
   refine ⟨_, rfl, rfl, _, rfl, zN ?_⟩
   refine ⟨_, rfl, rfl, _, rfl, zN ?_⟩
   refine ⟨_, rfl, rfl, _, rfl, yJ ?_⟩
   rcases kk with ⟨m', hw, hws, hnv, kk⟩ | ⟨e, hs, kk⟩
   ·cases hw with
    | @put fs ws st z =>
     obtain ⟨dx, hi⟩ := id R.ins
     obtain ⟨es, hes, hp⟩ := id R.recd
     refine ⟨_, rfl, a.run, cRn, dx, _, _, rfl, hi, C.cl, C.nRe, rnf_re .., .inl ⟨rfl, _, qZ.of hes⟩, ?_⟩
     refine yA C R rfl fun H3 K3 R3 => ⟨(by show 2 <= sizeLine; decide), fun p hn => ?_⟩
     have hes3 := K3 _ _ hes R.nd.2.1
     have npr : a.rl ≠ p := zH hes3 hn
     refine ⟨a.rl, _, _, rfl, rfl, by rw [zF npr]; exact hes3, ?_, ?_⟩
     ·have e := Paired.length hp
      rw [List.length_map, e]
      exact Nat.lt_of_lt_of_le hev (by decide)
     ·exact kk _ _ (R3.addR (.put z) hes3 (Paired.mapP hp fun b ev k => K3 _ _ k (qD k R.wait (by intro z; cases z))) hn rfl)
   ·cases hs
  | forget =>
   refine ⟨_, rfl, q, _, _, _, rfl, rfl, SqT.of hq', zU (j := 0) rfl, ?_⟩
   refine ⟨_, rfl, rfl, _, rfl, zN ?_⟩
   refine ⟨_, rfl, rfl, _, rfl, zN ?_⟩
   refine ⟨_, rfl, rfl, _, rfl, zN ?_⟩
   refine ⟨_, rfl, rfl, _, rfl, zN ?_⟩
   refine ⟨_, rfl, rfl, _, rfl, zN ?_⟩
   refine ⟨_, rfl, rfl, _, rfl, zN ?_⟩
   refine ⟨_, rfl, rfl, _, rfl, yJ ?_⟩
   rcases kk with ⟨m', hw, hws, hnv, kk⟩ | ⟨e, hs, kk⟩
   ·cases hw with
    | forget => exact yA C R rfl fun H3 K3 R3 => kk H3 _ R3
   ·cases hs
  | go k =>
   refine ⟨_, rfl, q, _, _, _, rfl, rfl, SqT.of hq', zU (j := 0) rfl, ?_⟩
   refine ⟨_, rfl, rfl, _, rfl, zN ?_⟩
   refine ⟨_, rfl, rfl, _, rfl, zN ?_⟩
   refine ⟨_, rfl, rfl, _, rfl, zN ?_⟩
   refine ⟨_, rfl, rfl, _, rfl, zN ?_⟩
   refine ⟨_, rfl, rfl, _, rfl, zN ?_⟩
   refine ⟨_, rfl, rfl, _, rfl, zN ?_⟩
   refine ⟨_, rfl, rfl, _, rfl, zN ?_⟩
   refine ⟨_, rfl, rfl, _, rfl, yJ ?_⟩
   rcases kk with ⟨m', hw, hws, hnv, kk⟩ | ⟨e, hs, kk⟩
   ·cases hw with
    | @go cd p n k v fs ws st =>
     obtain ⟨dxc, ol, qs, kvs, h1, h2, h3, h4, h5⟩ : FrAt cL H0 H (c, vd) ⟨cd, p, v, n⟩ := by
      cases R.frs with
      | cons r t => exact r
     refine ⟨_, rfl, q, _, _, _, rfl, rfl, SqT.of hq', zU (j := 2) rfl, _, rfl, c, cL, dxc, _, rfl, h1, C2.cl, C2.nA, (by show 3 < 1000; decide), ?_⟩
     refine kk _ _ (R.setT (f' := ⟨cd, k, v, n⟩) ⟨dxc, ol, qs, kvs, by rw [zG, put_cat], h2, h3, ?_, h5⟩ fun b o e hb _ => by rw [zF hb]; exact e)
     rw [zF (qD h4 h1 (by intro z; cases z))]
     exact h4
   ·cases hs
  | «unless» k =>
   refine ⟨_, rfl, q, _, _, _, rfl, rfl, SqT.of hq', zU (j := 0) rfl, ?_⟩
   refine ⟨_, rfl, rfl, _, rfl, zN ?_⟩
   refine ⟨_, rfl, rfl, _, rfl, zN ?_⟩
   refine ⟨_, rfl, rfl, _, rfl, zN ?_⟩
   refine ⟨_, rfl, rfl, _, rfl, zN ?_⟩
   refine ⟨_, rfl, rfl, _, rfl, zN ?_⟩
   refine ⟨_, rfl, rfl, _, rfl, zN ?_⟩
   refine ⟨_, rfl, rfl, _, rfl, zN ?_⟩
   refine ⟨_, rfl, rfl, _, rfl, zN ?_⟩
   refine ⟨_, rfl, rfl, _, rfl, yJ ?_⟩
   rcases kk with ⟨m', hw, hws, hnv, kk⟩ | ⟨e, hs, kk⟩
   ·cases hw with
    | @unless0 cd p n k v fs ws st =>
     obtain ⟨dxc, ol, qs, kvs, h1, h2, h3, h4, h5⟩ : FrAt cL H0 H (c, vd) ⟨cd, p, v, n⟩ := by
      cases R.frs with
      | cons r t => exact r
     refine yA C R rfl fun H3 K3 R3 => ⟨rfl, _, rfl, ?_⟩
     refine yJ ?_
     have h1' := K3 _ _ h1 (qD h1 R.wait (by intro z; cases z))
     have h4' := K3 _ _ h4 (qD h4 R.wait (by intro z; cases z))
     refine ⟨_, rfl, q, _, _, _, rfl, rfl, SqT.of (R3.same _ _ hq), zU (j := 2) rfl, _, rfl, c, cL, dxc, _, rfl, h1', C2.cl, C2.nA, (by show 3 < 1000; decide), ?_⟩
     refine kk _ _ (R3.setT (f' := ⟨cd, k, v, n⟩) ⟨dxc, ol, qs, kvs, by rw [zG, put_cat], h2, h3, ?_, h5⟩ fun b o e hb _ => by rw [zF hb]; exact e)
     rw [zF (qD h4' h1' (by intro z; cases z))]
     exact h4'
    | unless1 hz =>
     refine yA C R rfl fun H3 K3 R3 => ⟨rfl, _, rfl, ?_⟩
     refine qG (fun h1 => ?_) (fun h1 => kk H3 _ R3)
     exact absurd (V.int.inj (of_decide_eq_true h1)) hz
   ·cases hs
  | beg =>
   refine ⟨_, rfl, q, _, _, _, rfl, rfl, SqT.of hq', zU (j := 0) rfl, ?_⟩
   refine ⟨_, rfl, rfl, _, rfl, zN ?_⟩
   refine ⟨_, rfl, rfl, _, rfl, zN ?_⟩
   refine ⟨_, rfl, rfl, _, rfl, zN ?_⟩
   refine ⟨_, rfl, rfl, _, rfl, zN ?_⟩
   refine ⟨_, rfl, rfl, _, rfl, zN ?_⟩
   refine ⟨_, rfl, rfl, _, rfl, zN ?_⟩
   refine ⟨_, rfl, rfl, _, rfl, zN ?_⟩
   refine ⟨_, rfl, rfl, _, rfl, zN ?_⟩
   refine ⟨_, rfl, rfl, _, rfl, zN ?_⟩
   refine ⟨_, rfl, rfl, _, rfl, zN ?_⟩
   rcases kk with ⟨m', hw, hws, hnv, kk⟩ | ⟨e, hs, kk⟩
   ·cases hw
    exact kk H _ R
   ·cases hs
  | fin =>
   refine ⟨_, rfl, q, _, _, _, rfl, rfl, SqT.of hq', zU (j := 0) rfl, ?_⟩
   refine ⟨_, rfl, rfl, _, rfl, zN ?_⟩
   refine ⟨_, rfl, rfl, _, rfl, zN ?_⟩
   refine ⟨_, rfl, rfl, _, rfl, zN ?_⟩
   refine ⟨_, rfl, rfl, _, rfl, zN ?_⟩
   refine ⟨_, rfl, rfl, _, rfl, zN ?_⟩
   refine ⟨_, rfl, rfl, _, rfl, zN ?_⟩
   refine ⟨_, rfl, rfl, _, rfl, zN ?_⟩
   refine ⟨_, rfl, rfl, _, rfl, zN ?_⟩
   refine ⟨_, rfl, rfl, _, rfl, zN ?_⟩
   refine ⟨_, rfl, rfl, _, rfl, yJ ?_⟩
   refine ⟨_, rfl, rfl, _, rfl, zN ?_⟩
   rcases kk with ⟨m', hw, hws, hnv, kk⟩ | ⟨e, hs, kk⟩
   ·cases hw
    exact kk H _ R
   ·cases hs
  | num k =>
   refine ⟨_, rfl, q, _, _, _, rfl, rfl, SqT.of hq', zU (j := 0) rfl, ?_⟩
   refine ⟨_, rfl, rfl, _, rfl, zN ?_⟩
   refine ⟨_, rfl, rfl, _, rfl, zN ?_⟩
   refine ⟨_, rfl, rfl, _, rfl, zN ?_⟩
   refine ⟨_, rfl, rfl, _, rfl, zN ?_⟩
   refine ⟨_, rfl, rfl, _, rfl, zN ?_⟩
   refine ⟨_, rfl, rfl, _, rfl, zN ?_⟩
   refine ⟨_, rfl, rfl, _, rfl, zN ?_⟩
   refine ⟨_, rfl, rfl, _, rfl, zN ?_⟩
   refine ⟨_, rfl, rfl, _, rfl, zN ?_⟩
   refine ⟨_, rfl, rfl, _, rfl, yJ ?_⟩
   refine ⟨_, rfl, rfl, _, rfl, yJ ?_⟩
   exact numb rfl
  | use x =>
   refine ⟨_, rfl, q, _, _, _, rfl, rfl, SqT.of hq', zU (j := 0) rfl, ?_⟩
   refine ⟨_, rfl, rfl, _, rfl, zN ?_⟩
   refine ⟨_, rfl, rfl, _, rfl, zN ?_⟩
   refine ⟨_, rfl, rfl, _, rfl, zN ?_⟩
   refine ⟨_, rfl, rfl, _, rfl, zN ?_⟩
   refine ⟨_, rfl, rfl, _, rfl, zN ?_⟩
   refine ⟨_, rfl, rfl, _, rfl, zN ?_⟩
   refine ⟨_, rfl, rfl, _, rfl, zN ?_⟩
   refine ⟨_, rfl, rfl, _, rfl, zN ?_⟩
   refine ⟨_, rfl, rfl, _, rfl, zN ?_⟩
   refine ⟨_, rfl, rfl, _, rfl, yJ ?_⟩
   refine ⟨_, rfl, rfl, _, rfl, yJ ?_⟩
   exact numb rfl
  | get =>
   refine ⟨_, rfl, q, _, _, _, rfl, rfl, SqT.of hq', zU (j := 0) rfl, ?_⟩
   refine ⟨_, rfl, rfl, _, rfl, zN ?_⟩
   refine ⟨_, rfl, rfl, _, rfl, zN ?_⟩
   refine ⟨_, rfl, rfl, _, rfl, zN ?_⟩
   refine ⟨_, rfl, rfl, _, rfl, zN ?_⟩
   refine ⟨_, rfl, rfl, _, rfl, zN ?_⟩
   refine ⟨_, rfl, rfl, _, rfl, zN ?_⟩
   refine ⟨_, rfl, rfl, _, rfl, zN ?_⟩
   refine ⟨_, rfl, rfl, _, rfl, zN ?_⟩
   refine ⟨_, rfl, rfl, _, rfl, zN ?_⟩
   refine ⟨_, rfl, rfl, _, rfl, yJ ?_⟩
   refine ⟨_, rfl, rfl, _, rfl, yJ ?_⟩
   exact numb rfl
  | one op =>
   refine ⟨_, rfl, q, _, _, _, rfl, rfl, SqT.of hq', zU (j := 0) rfl, ?_⟩
   refine ⟨_, rfl, rfl, _, rfl, zN ?_⟩
   refine ⟨_, rfl, rfl, _, rfl, zN ?_⟩
   refine ⟨_, rfl, rfl, _, rfl, zN ?_⟩
   refine ⟨_, rfl, rfl, _, rfl, zN ?_⟩
   refine ⟨_, rfl, rfl, _, rfl, zN ?_⟩
   refine ⟨_, rfl, rfl, _, rfl, zN ?_⟩
   refine ⟨_, rfl, rfl, _, rfl, zN ?_⟩
   refine ⟨_, rfl, rfl, _, rfl, zN ?_⟩
   refine ⟨_, rfl, rfl, _, rfl, zN ?_⟩
   refine ⟨_, rfl, rfl, _, rfl, yJ ?_⟩
   refine ⟨_, rfl, rfl, _, rfl, yJ ?_⟩
   exact numb rfl
  | two op =>
   refine ⟨_, rfl, q, _, _, _, rfl, rfl, SqT.of hq', zU (j := 0) rfl, ?_⟩
   refine ⟨_, rfl, rfl, _, rfl, zN ?_⟩
   refine ⟨_, rfl, rfl, _, rfl, zN ?_⟩
   refine ⟨_, rfl, rfl, _, rfl, zN ?_⟩
   refine ⟨_, rfl, rfl, _, rfl, zN ?_⟩
   refine ⟨_, rfl, rfl, _, rfl, zN ?_⟩
   refine ⟨_, rfl, rfl, _, rfl, zN ?_⟩
   refine ⟨_, rfl, rfl, _, rfl, zN ?_⟩
   refine ⟨_, rfl, rfl, _, rfl, zN ?_⟩
   refine ⟨_, rfl, rfl, _, rfl, zN ?_⟩
   refine ⟨_, rfl, rfl, _, rfl, yJ ?_⟩
   refine ⟨_, rfl, rfl, _, rfl, yJ ?_⟩
   exact numb rfl
end
end SM
end
section
set_option Elab.async false
set_option linter.all false
set_option maxRecDepth 100000
set_option maxHeartbeats 2000000
namespace SM
open PySem PySem.Spec PyProof.Rows L2
open Kp110 (Bytes Ev)
open Kp110Neutral (told)
abbrev sEnd : Stmt := top 103
theorem told_in {gs : List Int} (h : ∀ z ∈ gs, In64 z) (n : Nat) : In64 (told gs n) := by
 unfold Kp110Neutral.told
 split
 ·exact ⟨by decide, by decide⟩
 ·rename_i he
  have hp : 0 < gs.length := List.length_pos_iff.mpr (by simpa using he)
  have hlt : n % gs.length < gs.length := Nat.mod_lt _ hp
  rw [List.getD_eq_getElem?_getD, List.getElem?_eq_getElem hlt]
  exact h _ (List.getElem_mem hlt)
theorem Fine.adv {c : List Mn} {p p' n : Nat} {v : Vs} {fs : List Fr} {ws : List Int} {s : Kp110.St} (F : Fine ⟨⟨c, p, v, n⟩ :: fs, ws, s⟩) : Fine ⟨⟨c, p', v, n⟩ :: fs, ws, s⟩ := ⟨F.ws, fun f hf => by
  rcases List.mem_cons.mp hf with rfl | hf
  ·exact F.vars ⟨c, p, v, n⟩ List.mem_cons_self
  ·exact F.vars f (List.mem_cons_of_mem _ hf), fun f hf => by
  rcases List.mem_cons.mp hf with rfl | hf
  ·exact F.code ⟨c, p, v, n⟩ List.mem_cons_self
  ·exact F.code f (List.mem_cons_of_mem _ hf)⟩
theorem Beg.few {tab : Tab} {f : Bytes} {m m' : MS} (h : Beg tab f m m') (hl : m.frs.length <= 64) : m'.frs.length <= 64 := by
 cases h with
 | mk ht hl' hd =>
  dsimp only at hl ⊢
  rw [List.length_cons]
  omega
theorem Work.few {tab : Tab} {g : Nat -> Int} {o : Mn} {m m' : MS} (h : Work tab g o m m') (hl : m.frs.length <= 64) : m'.frs.length <= 64 := by
 cases h with
 | call hb => exact hb.few hl
 | ret =>
  simp only [List.length_cons] at hl
  dsimp only
  omega
 | _ => exact hl
theorem Stop.code {o : Mn} {m : MS} {e : Int} (h : Stop o m e) : e = -33 ∨ e = -34 ∨ e = -62 ∨ e = -40 := by
 cases h with
 | step h => omega
 | one h => have := unR_halt h; omega
 | two h => have := opBin_halt h; omega
 | call h => omega
theorem Ends.code {tab : Tab} {g : Nat -> Int} : ∀ {k : Nat} {m : MS} {e : Int} {evs : List Ev}, Ends tab g k m (.halt e evs) -> e = -33 ∨ e = -34 ∨ e = -62 ∨ e = -40
 | _, _, _, _, .stop _ hs => hs.code
 | _, _, _, _, .go _ _ _ _ hk => hk.code
theorem Starts.code {tab : Tab} {g : Nat -> Int} {F : List Fr} {f : Bytes} {ws : List Int} {s : Kp110.St} {e : Int} {evs : List Ev} (h : Starts tab g F f ws s (.halt e evs)) : e = -33 ∨ e = -34 ∨ e = -62 ∨ e = -40 := by
 rcases h with ⟨_, h⟩ | ⟨m, _, k, h⟩
 ·cases h; omega
 ·exact h.code
theorem TabAt.small {cF : Addr} {H0 : Hp} {fd : Addr} {tab : Tab} (h : TabAt cF H0 fd tab) : ∀ f ps code, tab f = some (ps, code) -> smallC code := fun f ps code ht => by
 obtain ⟨kvs, _, tb⟩ := h
 obtain ⟨_, _, _, _, _, _, _, _, _, _, _, hs, _⟩ := tb f ps code ht
 exact hs
def Asked (K : PySem.W.Frag) (cRn cL cF : Addr) (tab : Tab) (H : Hp) (a : RA) (res : Res) : Prop := ∃ (H0 : Hp) (gs : List Int) (st : Kp110.St), RunAt cRn cL H0 H a [] ⟨[], [], st⟩ /\ TabAt cF H0 a.fd tab /\ qZ K H0 a.gl (gs.map V.int) /\ (∀ z ∈ gs, In64 z) /\
 Starts tab (told gs) [] Kp110.main [] st res /\ res.evs.length < 10000000
def spMain (K : PySem.W.Frag) (cRn cL cF cZ cO cS cC : Addr) (tab : Tab) : Sp := fun vs H Q E => ∃ (a : RA) (res : Res), vs = [V.ref a.run] /\ Asked K cRn cL cF tab H a res /\
 (∀ z evs, res = .ok z evs -> ∀ H', RecAt cRn H' a evs -> Q (.int z) H') /\ (∀ e evs, res = .halt e evs -> ∀ H', RecAt cRn H' a evs -> E (.ref (excOf cZ cO cS cC e)) none H')
def endV : Res -> List V
 | .ok z _ => [.int 0, .int z]
 | .halt e _ => [.int e]
def spEnding (K : PySem.W.Frag) (cRn cL cF : Addr) (tab : Tab) : Sp := fun vs H Q _ => ∃ (a : RA) (res : Res), vs = [V.ref a.run] /\ Asked K cRn cL cF tab H a res /\ ∀ H' p, RecAt cRn H' a res.evs -> H' p = some (.lst (endV res)) -> p ≠ a.rl -> Q (.ref p) H'
theorem RecAt.more {cN : Addr} {H H' : Hp} {a : RA} {evs : List Ev} (R : RecAt cN H a evs) (k : ∀ b o, H b = some o -> H' b = some o) : RecAt cN H' a evs := by
 obtain ⟨dx, fn, st, g, gt, ca, wa, h⟩ := R.ins
 exact ⟨⟨dx, fn, st, g, gt, ca, wa, k _ _ h⟩, R.recd.mono fun b o e _ => k b o e⟩
section
variable {P : Program} {w : World} {K : PySem.W.Frag} {mg : Str -> Option Value} {base : Heap} {cRn cL cF cZ cO cS cC : Addr}
theorem scMain : FnScope ["run", "call", "order"] ["run"] (zJ sMain) := scK
theorem ok_main {f fC fW : Addr} {fd fdC fdW : FuncData} {tab : Tab} (D : Dn K mg "run_main" sMain ["run"] f fd) (DC : Dn K mg "begin_call" sBegC ["run", "name"] fC fdC) (DW : Dn K mg "work_off" sWork ["run", "call", "order"] fW fdW) (G : Gs mg) (C : RunC K cRn) (C2 : CallC K cL)
  (GC : FnOk P w K mg base (CXW P w) 3 fC fdC ["run", "name"] (spBegC cRn cL cF cC tab)) (GW : FnOk P w K mg base (CXW P w) 4 fW fdW ["run", "call", "order"] (spWork K cRn cL cF cZ cO cS cC tab)) : FnOk P w K mg base (CXW P w) 5 f fd ["run"] (spMain K cRn cL cF cZ cO cS cC tab) := by
 refine D.fn.okW scMain (fun vs H Q E h => ?_) (fun cdv A outer s H vs Q E hr h => ?_)
 ·obtain ⟨a, res, rfl, _⟩ := h
  rfl
 ·obtain ⟨a, res, rfl, ⟨H0, gs, st, R, TA, hg, hgs, hS, hev⟩, kO, kE⟩ := h
  have hr3 : Room 3 _ := hr.mono (by omega)
  have hT := TA.small
  refine ⟨_, zB (zL (zO GC hr3 rfl DC.mgf DC.fn.kp DC.bi .nil zT (zA (pv 0) (zA zK zE)))) (zB (ps_while ownW (zM op_gt (yD G.len (zX (pv 0) rfl)) zQ (nomark _)) (zB (qB (i := 1) scMain.nd rfl (Or.inl rfl) (qV yB (zX (pv 0) rfl) (pe_un un_neg zQ) (fun _ _ => rfl))) (zB (qB (i := 2) scMain.nd rfl (Or.inl rfl) (qV yB (zX (pv 1) rfl) (zX (pv 1) rfl) (fun _ _ => rfl))) (zB (ps_fldaug (pv 1) zQ in_add) (zC (zL (zO GW hr rfl DW.mgf DW.fn.kp DW.bi .nil zT (zA (pv 0) (zA (pv 1) (zA (pv 2) zE)))))))))) (zC (zW (pe_bm0 PySem.F.plainAttrs_list PySem.F.slot_list_pop PySem.F.type_list_pop mt_pop (zX (pv 0) rfl))))), ?_⟩
  refine ⟨_, rfl, H0, a, [], ⟨[], [], st⟩, Kp110.main, by rw [<- main_str]; rfl, R, TA, Nat.zero_le _, ?_⟩
  rcases hS with ⟨z, _⟩ | ⟨m1, hb, k1, hE1⟩
  ·exact absurd z (by decide)
  refine .inl ⟨m1, hb, fun H1 cs1 R1 => ?_⟩
  have F0 : Fine ⟨[], [], st⟩ := ⟨fun z hz => (nomatch hz), fun f hf => (nomatch hf), fun f hf => (nomatch hf)⟩
  refine ⟨fun mm σ H' => ∃ (m : MS) (cs : List (Addr × Addr)) (v1 v2 : Option V), σ = [some (V.ref a.run), v1, v2] /\ RunAt cRn cL H0 H' a cs m /\ Ends tab (told gs) mm m res /\ Fine m /\ m.frs.length <= 64,
   ⟨k1, m1, cs1, _, _, rfl, R1, hE1, hb.fine hT F0, hb.few (Nat.zero_le _)⟩, ?_⟩
  clear hE1 hb R1 F0
  clear m1 k1 cs1 H1
  rintro mm σ H' ⟨m, cs, v1, v2, rfl, R1, hE, Fn, h64⟩
  obtain ⟨dx, hi⟩ := id R1.ins
  have hcl : ((cs.map Prod.fst).reverse.map V.ref).length = m.frs.length := by rw [List.length_map, List.length_reverse, List.length_map, Paired.length R1.frs]
  have hev1 := Nat.lt_of_le_of_lt hE.evs hev
  refine ⟨_, rfl, a.run, cRn, dx, _, _, rfl, hi, C.cl, C.nCa, rnf_ca .., a.cl, _, rfl, .inl (qZ.of R1.calls), _, _, rfl, rfl, _, rfl, ?_⟩
  rw [hcl]
  have body : ∀ (code : List Mn) (p n : Nat) (v : Vs) (fs : List Fr) (ws : List Int) (st1 : Kp110.St) (o : Mn) (N : L2.St -> Hp -> Prop), m = ⟨⟨code, p, v, n⟩ :: fs, ws, st1⟩ -> code[p]? = some o ->
    ((∃ m', Work tab (told gs) o ⟨⟨code, p + 1, v, n⟩ :: fs, ws, st1⟩ m' /\ ws.length <= 1000000 /\ n <= 1000000 /\ ∀ H'' cs' v1 v2, RunAt cRn cL H0 H'' a cs' m' -> N [some (V.ref a.run), v1, v2] H'') ∨ (∃ e, Stop o ⟨⟨code, p + 1, v, n⟩ :: fs, ws, st1⟩ e /\ ∀ H'', RecAt cRn H'' a st1.evs -> E (.ref (excOf cZ cO cS cC e)) none H'')) ->
    tSeq (tAsg (tOp (rIxL K) (tFld K (qT 0) "calls") (tUn (rU fun i => .int (-i)) (tC (.int 1)))) (gName 1)) (tSeq (tAsg (tOp (rIxL K) (tFld K (qT 1) "orders") (tFld K (qT 1) "at")) (gName 2)) (tSeq (sFldAug K (qT 1) (tC (.int 1)) rAdd "at") (tDrop (tCall (spWork K cRn cL cF cZ cO cS cC tab) [] E (qH (qT 0) (qH (qT 1) (qH (qT 2) tNil)))))))
     ⟨N, Q, fun _ H' => tRet (tBM0 K "list" rPop (tFld K (qT 0) "waiting")) ⟨fun _ H' => Q .non H', Q, fun _ _ => False, fun _ _ => False⟩ [some (V.ref a.run), v1, v2] H', N⟩ [some (V.ref a.run), v1, v2] H' := by
   intro code p n v fs ws st1 o N em hco hres
   subst em
   cases hcs : cs with
   | nil =>
    subst hcs
    cases R1.frs
   | cons q0 cs0 =>
    obtain ⟨c, vd⟩ := q0
    subst hcs
    obtain ⟨dxc, ol, qs, kvs, h1, h2, h3, h4, h5⟩ : FrAt cL H0 H' (c, vd) ⟨code, p, v, n⟩ := by
     cases R1.frs with
     | cons r t => exact r
    have e1 : (((c, vd) :: cs0).map Prod.fst).reverse.map V.ref = (cs0.map Prod.fst).reverse.map V.ref ++ [.ref c] := by simp
    obtain ⟨q, hq1, hq2⟩ := paired_get h3 hco
    have hq2 : H0 q = some (.tup o.vals) := hq2
    refine ⟨_, rfl, a.run, cRn, dx, _, _, rfl, hi, C.cl, C.nCa, rnf_ca .., _, rfl, a.cl, _, _, .ref c, rfl, rfl, qZ.of R1.calls, by rw [e1]; exact atI_last _ _, ?_⟩
    refine ⟨_, rfl, c, cL, dxc, _, _, rfl, h1, C2.cl, C2.nO, clf_o .., _, rfl, c, cL, dxc, _, _, rfl, h1, C2.cl, C2.nA, clf_a .., ol, _, _, .ref q, rfl, rfl, qZ.of (R1.same _ _ h2), zU (by rw [List.getElem?_map, hq1]; rfl), ?_⟩
    refine ⟨_, rfl, c, cL, dxc, _, _, rfl, h1, C2.cl, C2.nA, clf_a .., _, _, rfl, rfl, dxc, _, h1, (by show 3 < 1000; decide), ?_⟩
    have R2 : RunAt cRn cL H0 (upd H' c (.ins cL dxc (qK "at" (.int ((p : Int) + 1)) (clf (.ref ol) (.int (p : Int)) (.ref vd))))) a ((c, vd) :: cs0) ⟨⟨code, p + 1, v, n⟩ :: fs, ws, st1⟩ := by
     refine R1.setT (f' := ⟨code, p + 1, v, n⟩) ⟨dxc, ol, qs, kvs, by rw [zG, put_cat]; rfl, h2, h3, ?_, h5⟩ fun b o e hb _ => by rw [zF hb]; exact e
     rw [zF (qD h4 h1 (by intro z; cases z))]
     exact h4
    have Fn2 : Fine ⟨⟨code, p + 1, v, n⟩ :: fs, ws, st1⟩ := Fn.adv
    refine ⟨_, rfl, _, rfl, _, rfl, H0, a, c, vd, cs0, _, gs, o, q, rfl, R2, TA, hq2, Fn.code ⟨code, p, v, n⟩ List.mem_cons_self o (List.mem_of_getElem? hco), Fn2, hg, hev1, h64, ?_⟩
    rcases hres with ⟨m', hw, hws, hn, kk⟩ | ⟨e, hs, kk⟩
    ·refine .inl ⟨m', hw, hws, fun f fs' ef => ?_, fun H'' cs' R' => kk H'' cs' _ _ R'⟩
     cases ef
     exact hn
    ·exact .inr ⟨e, hs, kk⟩
  cases hE with
  | fin =>
   refine zN ?_
   exact yA C R1 rfl fun H3 K3 R3 => kO _ _ rfl H3 R3.recAt
  | stop hco hs =>
   refine qG (fun _ => ?_) (fun h => absurd (decide_eq_true (by simp only [List.length_cons]; omega)) h)
   exact ⟨fun σ' H'' => False, fun _ _ z => z.elim, body _ _ _ _ _ _ _ _ _ rfl hco (.inr ⟨_, hs, fun H'' R' => kE _ _ rfl H'' R'⟩)⟩
  | go hco hw hws hn hk =>
   refine qG (fun _ => ?_) (fun h => absurd (decide_eq_true (by simp only [List.length_cons]; omega)) h)
   refine ⟨_, fun _ _ z => z, body _ _ _ _ _ _ _ _ _ rfl hco (.inl ⟨_, hw, hws, hn, fun H'' cs' v1 v2 R' => ⟨_, Nat.lt_succ_self _, _, cs', v1, v2, rfl, R', hk, ?_, ?_⟩⟩)⟩
   ·refine hw.fine hT (told_in hgs) (fun n hn' => ?_) Fn.adv
    rcases List.mem_cons.mp hn' with e | e
    ·rw [e]
     exact Fn.code ⟨_, _, _, _⟩ List.mem_cons_self _ (List.mem_of_getElem? hco)
    ·cases e
   ·exact hw.few h64
theorem scEnding : FnScope ["run", "out"] ["run"] (zJ sEnd) := scK
structure Gs6 (mg : Str -> Option Value) : Prop where
 zero : GI mg "PARTED_BY_ZERO" (-33)
 outside : GI mg "OUTSIDE" (-34)
 steps : GI mg "NO_STEPS_LEFT" (-62)
 calls : GI mg "TOO_MANY_CALLS" (-40)
theorem ok_ending {f fM : Addr} {fd fdM : FuncData} {tab : Tab} (D : Dn K mg "ending_of" sEnd ["run"] f fd) (DM : Dn K mg "run_main" sMain ["run"] fM fdM) (G6 : Gs6 mg) (X : XR K mg cZ cO cS cC) (n1 : cO ≠ cZ) (n2 : cS ≠ cZ) (n3 : cS ≠ cO) (n4 : cC ≠ cZ) (n5 : cC ≠ cO) (n6 : cC ≠ cS)
  (GM : FnOk P w K mg base (CXW P w) 5 fM fdM ["run"] (spMain K cRn cL cF cZ cO cS cC tab)) : FnOk P w K mg base (CXW P w) 6 f fd ["run"] (spEnding K cRn cL cF tab) := by
 refine D.fn.okW scEnding (fun vs H Q E h => ?_) (fun cdv A outer s H vs Q E hr h => ?_)
 ·obtain ⟨a, res, rfl, _⟩ := h
  rfl
 ·obtain ⟨a, res, rfl, hA, kk⟩ := h
  refine ⟨_, zB (ps_try ⟨rfl, rfl⟩ (fun xe pn E1 hp => zC (qB (i := 1) scEnding.nd rfl (Or.inl rfl) (zO GM hr rfl DM.mgf DM.fn.kp DM.bi .nil hp (zA (pv 0) zE)))) (ph_cons rfl X.z X.zD (fun a => zC (zW (yC (zA (qL G6.zero) zE)))) (ph_cons rfl X.o X.oD (fun a => zC (zW (yC (zA (qL G6.outside) zE)))) (ph_cons rfl X.n X.nD (fun a => zC (zW (yC (zA (qL G6.steps) zE)))) (ph_cons rfl X.c X.cD (fun a => zC (zW (yC (zA (qL G6.calls) zE)))) (ph_nil)))))) (zC (zW (yC (zA zQ (zA (pv 1) zE))))), ?_⟩
  have alloc : ∀ (H' : Hp) (l : List V), RecAt cRn H' a res.evs -> l = endV res -> ∀ p, H' p = none -> Q (.ref p) (upd H' p (.lst l)) := fun H' l R' hl p hp => by
   subst hl
   refine kk _ p (R'.more fun b o e => by rw [zF (zH e hp)]; exact e) zG ?_
   obtain ⟨es, he, _⟩ := R'.recd
   exact (zH he hp).symm
  refine ⟨_, rfl, a, res, rfl, hA, fun z evs hz H' R' => ?_, fun e evs he H' R' C eC σ' => ?_⟩
  ·subst hz
   exact ⟨_, rfl, (by show 2 <= sizeLine; decide), alloc H' _ R' rfl⟩
  ·subst he
   obtain ⟨_, _, _, _, _, _, _, hS, _⟩ := id hA
   cases eC
   rcases hS.code with rfl | rfl | rfl | rfl
   ·rw [exc33]
    exact .inl ⟨rfl, (by show 1 <= sizeLine; decide), alloc H' _ R' rfl⟩
   ·rw [exc34]
    exact .inr ⟨n1, X.oD, .inl ⟨rfl, (by show 1 <= sizeLine; decide), alloc H' _ R' rfl⟩⟩
   ·rw [exc62]
    exact .inr ⟨n2, X.nD, .inr ⟨n3, X.nD, .inl ⟨rfl, (by show 1 <= sizeLine; decide), alloc H' _ R' rfl⟩⟩⟩
   ·rw [exc40]
    exact .inr ⟨n4, X.cD, .inr ⟨n5, X.cD, .inr ⟨n6, X.cD, .inl ⟨rfl, (by show 1 <= sizeLine; decide), alloc H' _ R' rfl⟩⟩⟩⟩
end
end SM
end
section
set_option Elab.async false
set_option linter.all false
set_option maxRecDepth 100000
set_option maxHeartbeats 2000000
namespace SM
open PySem PySem.Spec PyProof.Rows L2
open Kp110 (Bytes Ev fnOf okProg)
open Kp110Neutral (told)
abbrev sByName : Stmt := top 49
abbrev sRnInit : Stmt := yS (top 48) 0
def kvF (q : Addr × Kp110.Fn) : Key × V := (Sum.inr (qA q.2.name), V.ref q.1)
def spByName (cF : Addr) : Sp := fun vs H Q _ => ∃ (fl : Addr) (fos : List Addr) (l : List Kp110.Fn), vs = [V.ref fl] /\ H fl = some (.lst (fos.map V.ref)) /\ FnL cF H fos l /\ l.length <= 32 /\ (l.map Kp110.Fn.name).Nodup /\
 ∀ H' d, Same H H' -> H d = none -> H' d = some (.dK ((fos.zip l).map kvF)) -> Q (.ref d) H'
def Tabs (tab : Tab) (l : List Kp110.Fn) : Prop := ∀ f y, fnOf l f = some y -> ∃ code, tab f = some (y.params.map Prod.fst, code) /\ CFn y.body code
theorem tab_ex {cF : Addr} {H : Hp} {fos : List Addr} {l : List Kp110.Fn} (F : FnL cF H fos l) : ∃ tab : Tab, Tabs tab l /\ ∀ f ps code, tab f = some (ps, code) -> ∃ (fo dx p ml : Addr) (qs : List Addr) (nm : V),
  valV ((fos.zip l).map kvF) (Sum.inr (qA f)) = some (.ref fo) /\ H fo = some (.ins cF dx (ff nm (.ref p) (.ref ml))) /\ H p = some (.lst (nvs ps)) /\ H ml = some (.lst (qs.map V.ref)) /\ MnL H qs code /\ smallC code /\ ps.length <= 4 := by
 have F' : Paired (fun fo y => FnAt cF H fo y) fos l := F
 clear F
 induction F' with
 | nil => exact ⟨fun _ => none, fun f y h => (nomatch h), fun f ps code h => (nomatch h)⟩
 | @cons fo y fos l r t ih =>
  obtain ⟨tab, h1, h2⟩ := ih
  obtain ⟨dx, p, m, qs, ns, g1, g2, g3, g4, g5, g6, g7, g8⟩ := r.ex
  refine ⟨fun f => if y.name = f then some (y.params.map Prod.fst, ns) else tab f, fun f z hz => ?_, fun f ps code h => ?_⟩
  ·unfold Kp110.fnOf at hz
   rw [List.find?_cons] at hz
   by_cases e : y.name = f
   ·rw [beq_iff_eq.mpr e] at hz
    cases hz
    exact ⟨ns, by dsimp only; rw [if_pos e], g5⟩
   ·rw [beq_eq_false_iff_ne.mpr e] at hz
    obtain ⟨code, k1, k2⟩ := h1 f z hz
    exact ⟨code, by dsimp only; rw [if_neg e]; exact k1, k2⟩
  ·dsimp only at h
   by_cases e : y.name = f
   ·rw [if_pos e] at h
    cases h
    refine ⟨fo, dx, p, m, qs, _, ?_, g1, by rw [<- pvs_eq]; exact g2, g3, g4, g6, by rw [List.length_map]; exact g8⟩
    rw [List.zip_cons_cons, List.map_cons, yM (by show (Sum.inr (qA y.name) : Key) = _; rw [e])]
    rfl
   ·rw [if_neg e] at h
    obtain ⟨fo', dx', p', ml', qs', nm', k0, k⟩ := h2 f ps code h
    refine ⟨fo', dx', p', ml', qs', nm', ?_, k⟩
    rw [List.zip_cons_cons, List.map_cons, yN (fun z => e (strOf_inj (Sum.inr.inj z)))]
    exact k0
def spRnInit (cRn cL cF : Addr) : Sp := fun vs H Q _ => ∃ (x dx fl gl : Addr) (steps : Nat) (fos : List Addr) (l : List Kp110.Fn), vs = [.ref x, .ref fl, .int (steps : Int), .ref gl] /\ H x = some (.ins cRn dx []) /\ H fl = some (.lst (fos.map V.ref)) /\ FnL cF H fos l /\ l.length <= 32 /\ (l.map Kp110.Fn.name).Nodup /\
 ∀ (H0 H' : Hp) (a : RA) (tab : Tab), a.run = x -> a.gl = gl -> RunAt cRn cL H0 H' a [] ⟨[], [], ⟨[], 0, steps⟩⟩ -> TabAt cF H0 a.fd tab -> Tabs tab l -> (∀ b o, H b = some o -> b ≠ x -> H0 b = some o) -> Q .non H'
section
variable {P : Program} {w : World} {K : PySem.W.Frag} {mg : Str -> Option Value} {base : Heap} {cRn cL cF cZ cO cS cC : Addr}
theorem scByName : FnScope ["functions", "named", "function"] ["functions"] (zJ sByName) := scK
theorem zip_take {fos : List Addr} {l : List Kp110.Fn} {i : Nat} {fo : Addr} {y : Kp110.Fn} (h1 : fos[i]? = some fo) (h2 : l[i]? = some y) : (fos.zip l).take (i + 1) = (fos.zip l).take i ++ [(fo, y)] := take_more (by rw [List.getElem?_zip_eq_some]; exact ⟨h1, h2⟩)
theorem zip_names {fos : List Addr} {l : List Kp110.Fn} (h : fos.length = l.length) : (fos.zip l).map (fun q => q.2.name) = l.map Kp110.Fn.name := by
 have : (fos.zip l).map (fun q => q.2.name) = ((fos.zip l).map Prod.snd).map Kp110.Fn.name := by rw [List.map_map]; rfl
 rw [this, List.map_snd_zip (by omega)]
theorem val_none {q : List (Addr × Kp110.Fn)} {f : Bytes} (h : f ∉ q.map (fun z => z.2.name)) : valV (q.map kvF) (Sum.inr (qA f)) = none := by
 induction q with
 | nil => rfl
 | cons z q ih =>
  rw [List.map_cons, List.mem_cons, not_or] at h
  rw [List.map_cons, yN (fun e => h.1 (strOf_inj (Sum.inr.inj e)).symm)]
  exact ih h.2
theorem ok_byName {f : Addr} {fd : FuncData} (D : Dn K mg "by_name" sByName ["functions"] f fd) (F : FC K cF) : FnOk P w K mg base (CXW P w) 1 f fd ["functions"] (spByName cF) := by
 refine D.fn.okW scByName (fun vs H Q E h => ?_) (fun cdv A outer s H vs Q E hr h => ?_)
 ·obtain ⟨fl, fos, l, rfl, _⟩ := h
  rfl
 ·obtain ⟨fl, fos, l, rfl, ha, hF, h32, nd, kk⟩ := h
  have hu := hu_of hr
  refine ⟨_, zB (qB (i := 1) scByName.nd rfl (Or.inl rfl) pe_dnewK) (zB (ps_for ownW rfl (pi_list (pv 0)) (pg_name (i := 2) scByName.nd rfl (Or.inl rfl)) (zC (ps_dput hu (pv 1) (zX (pv 2) rfl) (pv 2) rfl))) (zC (zW (pv 1)))), ?_⟩
  intro d hd
  have s0 : Same H (upd H d (.dK [])) := upd_sm hd
  refine ⟨_, rfl, fl, rfl, ⟨_, qZ.of (s0 _ _ ha)⟩, for_list (K := K) (a := fl) (xs := fos.map V.ref) (fun i σ H' => ∃ v : Option V, σ = [some (V.ref fl), some (V.ref d), v] /\ Same H H' /\ H' d = some (.dK (((fos.zip l).take i).map kvF)))
   ⟨none, rfl, s0, zG⟩ (fun i σ H' _ ⟨_, _, s1, _⟩ => qZ.of (s1 _ _ ha)) ?_ ?_⟩
  ·rintro i x σ H' hx ⟨v, rfl, s1, hd1⟩
   obtain ⟨fo, hfo, rfl⟩ := ref_at hx
   obtain ⟨y, hy, hA⟩ := paired_get' (hF.same s1) hfo
   obtain ⟨dx, p, m, qs, ns, h1, h2, h3, h4, h5, hsm, h6, h7⟩ := hA.ex
   have hz : (fos.zip l)[i]? = some (fo, y) := by rw [List.getElem?_zip_eq_some]; exact ⟨hfo, hy⟩
   have hmem : y.name ∉ ((fos.zip l).take i).map (fun z => z.2.name) := fun z => by
    rw [List.map_take, zip_names hF.len] at z
    have hyn : (l.map Kp110.Fn.name)[i]? = some y.name := by rw [List.getElem?_map, hy]; rfl
    have := distinct_no hyn z
    rw [(distinct_iff _).mpr nd] at this
    cases this
   have hc := val_none hmem
   refine ⟨_, rfl, _, rfl, _, rfl, fo, cF, dx, _, _, rfl, h1, F.cl, F.nName, ff_name .., d, _, rfl, DPut.k (k := Sum.inr (qA y.name)) hd1 ?_, ?_⟩
   ·rw [List.length_map, List.length_take]
    have : (fos.zip l).length <= 32 := by rw [List.length_zip, hF.len]; omega
    exact small1000 (by omega)
   ·refine ⟨_, rfl, fun b o e => ?_, ?_⟩
    ·rw [zF (zH e hd)]
     exact s1 _ _ e
    ·rw [zG, putK_new _ hc, zip_take hfo hy, List.map_append]
     rfl
  ·rintro σ H' ⟨v, rfl, s1, hd1⟩
   have hlen : (fos.zip l).length = (fos.map V.ref).length := by rw [List.length_zip, List.length_map, hF.len, Nat.min_self]
   rw [<- hlen, List.take_length] at hd1
   exact ⟨_, rfl, kk H' d s1 hd hd1⟩
theorem scRnInit : FnScope ["self", "functions", "steps", "g"] ["self", "functions", "steps", "g"] (zJ sRnInit) := scK
theorem few7 {fs : List (Str × V)} {x : Str} {v : V} {n : Nat} (h : fs.length <= n) : (qK x v fs).length <= n + 1 := Nat.le_trans (yP x v fs) (by omega)
theorem ok_rnInit {f fB : Addr} {fd fdB : FuncData} (FI : Fun K "__init__" "Run.__init__" sRnInit f fd) (DB : Dn K mg "by_name" sByName ["functions"] fB fdB) (C : RunC K cRn) (F : FC K cF) : FnOk P w K mg base (CXW P w) 2 f fd ["self", "functions", "steps", "g"] (spRnInit cRn cL cF) := by
 have GB : FnOk P w K mg base (CXW P w) 1 fB fdB ["functions"] (spByName cF) := ok_byName DB F
 refine FI.okW scRnInit (fun vs H Q E h => ?_) (fun cdv A outer s H vs Q E hr h => ?_)
 ·obtain ⟨x, dx, fl, gl, steps, fos, l, rfl, _⟩ := h
  rfl
 ·obtain ⟨x, dx, fl, gl, steps, fos, l, rfl, hx, hfl, hF, h32, nd, kk⟩ := h
  have hr1 : Room 1 _ := hr
  refine ⟨_, zB (qR (pv 0) (zO GB hr1 rfl DB.mgf DB.fn.kp DB.bi .nil qC (zA (pv 1) zE)) rfl) (zB (qR (pv 0) (pv 2) rfl) (zB (qR (pv 0) (pv 3) rfl) (zB (qR (pv 0) zQ rfl) (zB (qR (pv 0) (yC (zE)) rfl) (zB (qR (pv 0) (yC (zE)) rfl) (zC (qR (pv 0) (yC (zE)) rfl))))))), ?_⟩
  refine ⟨_, rfl, fl, fos, l, rfl, hfl, hF, h32, nd, fun H1 d s1 hd0 hd => ?_⟩
  have l1 : (qK "functions" (V.ref d) []).length <= 1 := few7 (n := 0) (Nat.le_refl _)
  have l2 := few7 (x := "steps_left") (v := V.int (steps : Int)) l1
  have l3 := few7 (x := "g") (v := V.ref gl) l2
  have l4 := few7 (x := "gets") (v := V.int 0) l3
  have lt : ∀ {fs : List (Str × V)} {n : Nat}, fs.length <= n -> n < 1000 -> fs.length < 1000 := fun h1 h2 => Nat.lt_of_le_of_lt h1 h2
  refine ⟨_, rfl, x, cRn, dx, _, rfl, s1 _ _ hx, C.cl, C.nFn, lt (n := 0) (Nat.le_refl _) (by decide), ?_⟩
  refine ⟨_, rfl, _, rfl, x, cRn, dx, _, rfl, zG, C.cl, C.nSt, lt l1 (by decide), ?_⟩
  rw [upd_upd]
  refine ⟨_, rfl, _, rfl, x, cRn, dx, _, rfl, zG, C.cl, C.nG, lt l2 (by decide), ?_⟩
  rw [upd_upd]
  refine ⟨_, rfl, x, cRn, dx, _, rfl, zG, C.cl, C.nGt, lt l3 (by decide), ?_⟩
  rw [upd_upd]
  refine ⟨Nat.zero_le _, fun rl hrl => ?_⟩
  have nrx : rl ≠ x := fun z => by subst z; rw [zG] at hrl; cases hrl
  have hrl1 : H1 rl = none := by rw [zF nrx] at hrl; exact hrl
  refine ⟨_, rfl, x, cRn, dx, _, rfl, by rw [zF nrx.symm]; exact zG, C.cl, C.nRe, lt l4 (by decide), ?_⟩
  have l5 := few7 (x := "record") (v := V.ref rl) l4
  refine ⟨Nat.zero_le _, fun cl hcl => ?_⟩
  have ncx : cl ≠ x := fun z => by subst z; rw [zG] at hcl; cases hcl
  have ncr : cl ≠ rl := fun z => by subst z; rw [zF ncx, zG] at hcl; cases hcl
  have hcl1 : H1 cl = none := by rw [zF ncx, zF ncr, zF ncx] at hcl; exact hcl
  refine ⟨_, rfl, x, cRn, dx, _, rfl, by rw [zF ncx.symm]; exact zG, C.cl, C.nCa, lt l5 (by decide), ?_⟩
  have l6 := few7 (x := "calls") (v := V.ref cl) l5
  refine ⟨Nat.zero_le _, fun wl hwl => ?_⟩
  have nwx : wl ≠ x := fun z => by subst z; rw [zG] at hwl; cases hwl
  have nwc : wl ≠ cl := fun z => by subst z; rw [zF nwx, zG] at hwl; cases hwl
  have nwr : wl ≠ rl := fun z => by subst z; rw [zF nwx, zF nwc, zF nwx, zG] at hwl; cases hwl
  have hwl1 : H1 wl = none := by rw [zF nwx, zF nwc, zF nwx, zF nwr, zF nwx] at hwl; exact hwl
  refine ⟨_, rfl, x, cRn, dx, _, rfl, by rw [zF nwx.symm]; exact zG, C.cl, C.nWa, lt l6 (by decide), ?_⟩
  rw [rnf_made]
  have e0 : ∀ b o, (fun b => if b = x then none else H1 b) b = some o -> b ≠ x /\ H1 b = some o := fun b o e => by
   by_cases z : b = x
   ·dsimp only at e; rw [if_pos z] at e; cases e
   ·dsimp only at e; rw [if_neg z] at e; exact ⟨z, e⟩
  have m0 : ∀ b o, H1 b = some o -> b ≠ x -> (fun b => if b = x then none else H1 b) b = some o := fun b o e hb => by dsimp only; rw [if_neg hb]; exact e
  have hF0 : FnL cF (fun b => if b = x then none else H1 b) fos l := hF.mono fun fo y z => z.mono fun b o e hk => m0 _ _ (s1 _ _ e) (fun q => by
   subst q
   rw [hx] at e
   obtain ⟨_, _, _, _, z⟩ := hk _ _ _ (Option.some.inj e).symm
   cases z)
  obtain ⟨tab, t1, t2⟩ := tab_ex hF0
  have ndx : d ≠ x := fun z => by subst z; rw [hx] at hd0; cases hd0
  refine kk (fun b => if b = x then none else H1 b) _ ⟨x, rl, cl, wl, d, gl⟩ tab rfl rfl ⟨⟨dx, zG⟩, ⟨[], ?_, .nil⟩, ?_, ?_, .nil, fun b o e => ?_, ⟨by dsimp only; rw [if_pos rfl], by dsimp only; rw [if_neg nrx]; exact hrl1, by dsimp only; rw [if_neg ncx]; exact hcl1, by dsimp only; rw [if_neg nwx]; exact hwl1⟩, fun q hq => (nomatch hq), ⟨ncr.symm, nwr.symm, nwc.symm⟩, List.nodup_nil, List.nodup_nil⟩ ⟨_, m0 _ _ hd ndx, t2⟩ t1 (fun b o e hb => m0 _ _ (s1 _ _ e) hb)
  ·show upd _ x _ rl = _
   rw [zF nrx, zF nwr.symm, zF nrx, zF ncr.symm, zF nrx, zG]
   rfl
  ·show upd _ x _ cl = _
   rw [zF ncx, zF nwc.symm, zF ncx, zG]
   rfl
  ·show upd _ x _ wl = _
   rw [zF nwx, zG]
   rfl
  ·obtain ⟨hb, e1⟩ := e0 b o e
   rw [zF hb, zF (zH e1 hwl1), zF hb, zF (zH e1 hcl1), zF hb, zF (zH e1 hrl1), zF hb]
   exact e1
end
end SM
end
section
set_option Elab.async false
set_option linter.all false
set_option maxRecDepth 100000
set_option maxHeartbeats 2000000
namespace SM
open PySem PySem.Spec PyProof.Rows L2
open Kp110 (Bytes Ev okProg)
open Kp110Neutral (told evOf)
abbrev sPrRun : Stmt := top 99
def endI (r : Kp110.R Int) : List Int := match r.end_ with
 | none => []
 | some (.inl c) => [c]
 | some (.inr v) => [0, v]
def runL (steps : Nat) (bs : List Nat) (gs : List Int) : List Int := match readM bs with
 | .inl v => [0, v]
 | .inr p => [2, ((Kp110.run p.fns (told gs) true steps 1099511627776).evs.length : Int)] ++ (Kp110.run p.fns (told gs) true steps 1099511627776).evs.flatMap evOf ++ endI (Kp110.run p.fns (told gs) true steps 1099511627776)
theorem runL_eq (steps : Int) (t g : List Int) : PyKp110.pr_run steps t g = runL steps.toNat (t.map Int.toNat) g := by
 show (match Kp110.readO (Kp110Neutral.textOf t) with
  | .inl v => [0, v]
  | .inr p => let r := Kp110.run p.fns (told g) true steps.toNat 1099511627776
   [2, (r.evs.length : Int)] ++ r.evs.flatMap evOf ++ match r.end_ with
    | none => []
    | some (.inl c) => [c]
    | some (.inr v) => [0, v]) = _
 rw [readO_eq]
 rfl
theorem readM_inr {bs : List Nat} {p : Kp110.Prog} (h : readM bs = .inr p) : p.toks.length <= 2048 /\ xFns 0 p.toks = some p.fns /\ okProg p.fns = true /\ p.fns.length <= 32 := by
 unfold readM at h
 split at h
 ·cases h
 split at h
 ·cases h
 split at h
 ·cases h
 split at h
 ·cases h
 ·rename_i h1 _ ts h2 h3 _ l h4
  split at h
  ·cases h
  split at h
  ·cases h
  split at h
  ·rename_i h5 h6 h7
   cases h
   exact ⟨by show ts.length <= 2048; omega, h4, h7, by show l.length <= 32; omega⟩
  ·cases h
theorem evV_len : ∀ l : List Ev, (l.flatMap evV).length = 2 * l.length
 | [] => rfl
 | e :: l => by
  rw [List.flatMap_cons, List.length_append, evV_len l, List.length_cons]
  have : (evV e).length = 2 := by cases e <;> rfl
  omega
theorem evV_map : ∀ l : List Ev, (l.flatMap evOf).map V.int = l.flatMap evV
 | [] => rfl
 | e :: l => by
  rw [List.flatMap_cons, List.map_append, evV_map l, List.flatMap_cons]
  have : (evOf e).map V.int = evV e := by cases e <;> rfl
  rw [this]
theorem res_evs {r : Kp110.R Int} : (resOf r).evs = r.evs := by cases r <;> rfl
theorem res_end {r : Kp110.R Int} (h : ∀ s, r ≠ .more s) : endV (resOf r) = (endI r).map V.int := by
 cases r with
 | ok z s => rfl
 | halt_ c s => rfl
 | more s => exact absurd rfl (h s)
def spPrRun (K : PySem.W.Frag) : Sp := fun vs H Q _ => ∃ (a gl : Addr) (steps : Nat) (bs : List Nat) (gs : List Int), vs = [V.int (steps : Int), V.ref a, V.ref gl] /\ steps <= 400 /\ qZ K H a (bv bs) /\ qZ K H gl (gs.map V.int) /\ (∀ z ∈ gs, In64 z) /\ ∀ H' p, H' p = some (.lst ((runL steps bs gs).map V.int)) -> Q (.ref p) H'
section
variable {P : Program} {w : World} {K : PySem.W.Frag} {mg : Str -> Option Value} {base : Heap} {cD cF cRn cL : Addr}
theorem scPrRun : FnScope ["steps", "t", "g", "reading", "run", "ending", "answer", "entry"] ["steps", "t", "g"] (zJ sPrRun) := scK
theorem ok_prRun {f fR fE fI : Addr} {fd fdR fdE fdI : FuncData} (D : Dn K mg "pr_run" sPrRun ["steps", "t", "g"] f fd) (DR : Dn K mg "reading_of" sReading ["t"] fR fdR) (DE : Dn K mg "ending_of" sEnd ["run"] fE fdE) (CN : CI K mg cRn fI fdI "Run" "Run.__init__" sRnInit ["self", "functions", "steps", "g"]) (G : Gs mg) (C : DC K cD) (CR : RunC K cRn)
  (GR : FnOk P w K mg base (CXW P w) 202 fR fdR ["t"] (spReading K cD cF)) (GI : FnOk P w K mg base (CXW P w) 2 fI fdI ["self", "functions", "steps", "g"] (spRnInit cRn cL cF)) (GEa : ∀ tab, FnOk P w K mg base (CXW P w) 6 fE fdE ["run"] (spEnding K cRn cL cF tab)) : FnOk P w K mg base (CXW P w) 203 f fd ["steps", "t", "g"] (spPrRun K) := by
 have GE : FnOk P w K mg base (CXW P w) 6 fE fdE ["run"] (fun vs H Q E => ∃ tab, spEnding K cRn cL cF tab vs H Q E) := ⟨fun vs H Q E h => by obtain ⟨tab, h⟩ := h; exact (GEa tab).len vs H Q E h, fun A outer s H args us vs Q E hr he hb hv h => by
  obtain ⟨tab, h⟩ := h
  exact (GEa tab).run A outer s H args us vs Q E hr he hb hv h⟩
 refine D.fn.okW scPrRun (fun vs H Q E h => ?_) (fun cdv A outer s H vs Q E hr h => ?_)
 ·obtain ⟨a, gl, steps, bs, gs, rfl, _⟩ := h
  rfl
 ·obtain ⟨a, gl, steps, bs, gs, rfl, hst, hS, hg, hgs, kk⟩ := h
  unfold runL at kk
  have hr6 : Room 6 _ := hr.mono (by omega)
  have hr3 : Room 3 _ := hr.mono (by omega)
  refine ⟨_, zB (qB (i := 3) scPrRun.nd rfl (Or.inl rfl) (zO GR hr rfl DR.mgf DR.fn.kp DR.bi .nil qC (zA (pv 1) zE))) (zB (zZ (zM op_ne (zX (pv 3) rfl) zQ (nomark _)) (zC (zW (yC (zA zQ (zA (zX (pv 3) rfl) zE))))) zY) (zB (qB (i := 4) scPrRun.nd rfl (Or.inl rfl) (pe_make CN.mkC GI hr3 rfl CN.mgC CN.bI .nil qC (zA (zX (pv 3) rfl) (zA (pv 0) (zA (pv 2) zE))))) (zB (qB (i := 5) scPrRun.nd rfl (Or.inl rfl) (zO GE hr6 rfl DE.mgf DE.fn.kp DE.bi .nil qC (zA (pv 4) zE))) (zB (qB (i := 6) scPrRun.nd rfl (Or.inl rfl) (yC (zA zQ (zA (yD G.len (zX (pv 4) rfl)) zE)))) (zB (ps_for ownW rfl (pi_list (zX (pv 4) rfl)) (pg_name (i := 7) scPrRun.nd rfl (Or.inl rfl)) (zC (zL (pe_bm PySem.F.plainAttrs_list PySem.F.slot_list_extend PySem.F.type_list_extend mt_extendT (pv 6) (zA (pv 7) zE))))) (zC (zW (pe_op op_cat (pv 6) (pv 5))))))))), ?_⟩
  refine ⟨_, rfl, a, bs, rfl, hS, fun v hv hv0 H1 x dx b c hx => ?_, fun p hp H1 x dx tl fl ps fos hx htl hps hfl hF s1 => ?_⟩
  ·refine ⟨_, rfl, x, cD, dx, _, _, rfl, hx, C.cl, C.nRef, rdf_ref .., rfl, _, rfl, ?_⟩
   refine qG (fun _ => ?_) (fun h => absurd (by rw [decide_eq_false (fun z => hv0 (V.int.inj z))]; rfl) h)
   refine ⟨_, rfl, x, cD, dx, _, _, rfl, hx, C.cl, C.nRef, rdf_ref .., (by show 2 <= sizeLine; decide), fun p hp => kk _ p ?_⟩
   rw [zG, hv]
   rfl
  ·refine ⟨_, rfl, x, cD, dx, _, _, rfl, hx, C.cl, C.nRef, rdf_ref .., rfl, _, rfl, zN ?_⟩
   obtain ⟨h2048, hxF, hok, h32⟩ := readM_inr hp
   rw [hp] at kk
   dsimp only at kk
   have RP := right_of hok
   refine ⟨_, rfl, x, cD, dx, _, _, rfl, hx, C.cl, C.nFns, rdf_fns .., _, rfl, _, rfl, fun rn dxr hrn hdxr nxx => ?_⟩
   have s2 : Same H1 (upd (upd H1 dxr (.own rn)) rn (.ins cRn dxr [])) := fun b o e => by
    rw [zF (zH e hrn), zF (zH e hdxr)]
    exact e
   refine ⟨rn, dxr, fl, gl, steps, fos, p.fns, rfl, zG, s2 _ _ hfl, hF.same s2, h32, RP.nodup, fun H0 H2 ra tab e1 e2 R2 TA TS k0 => ⟨rfl, ?_⟩⟩
   subst e1 e2
   have sim := run_sim (g := told gs) (tab := tab) (W := 4096) (steps := steps) (N := 1099511627776) hok (fun y hy => xFns_sz 2048 h2048 hxF y hy) (by decide) (by omega) (by omega) TS
   generalize hrr : Kp110.run p.fns (told gs) true steps 1099511627776 = rr at sim kk
   obtain ⟨hS1, hev, hmore⟩ := sim
   have hev' : (resOf rr).evs.length <= 1638400 := Nat.le_trans hev (by omega)
   have hg0 : qZ K H0 ra.gl (gs.map V.int) := hg.same fun b o e => k0 _ _ (s2 _ _ (s1 _ _ e)) (zH (s1 _ _ e) hrn)
   refine ⟨_, rfl, tab, ra, resOf rr, rfl, ⟨H0, gs, _, R2, TA, hg0, hgs, hS1, by omega⟩, fun H3 en R3 hen nen => ?_⟩
   obtain ⟨⟨dx3, fn3, st3, g3, gt3, ca3, wa3, hi3⟩, es, hes, hev3⟩ := R3
   have hel := Paired.length hev3
   refine ⟨_, rfl, ra.run, cRn, dx3, _, _, rfl, hi3, CR.cl, CR.nRe, rnf_re .., ra.rl, _, rfl, .inl (qZ.of hes), (by show 2 <= sizeLine; decide), fun an han => ?_⟩
   rw [List.length_map, hel]
   have k4 : ∀ b o, H3 b = some o -> ∀ l : List V, upd H3 an (.lst l) b = some o := fun b o e l => by rw [zF (zH e han)]; exact e
   refine ⟨_, rfl, ra.run, cRn, dx3, _, _, rfl, k4 _ _ hi3 _, CR.cl, CR.nRe, rnf_re .., ra.rl, rfl, ⟨_, qZ.of (k4 _ _ hes _)⟩, for_list (K := K) (a := ra.rl) (xs := es.map V.ref)
    (fun i σ H' => ∃ v : Option V, σ = [some (V.int (steps : Int)), some (V.ref a), some (V.ref ra.gl), some (V.ref x), some (V.ref ra.run), some (V.ref en), some (V.ref an), v] /\ (∀ b o, H3 b = some o -> H' b = some o) /\ H' an = some (.lst ([.int 2, .int ((resOf rr).evs.length : Int)] ++ ((resOf rr).evs.take i).flatMap evV)))
    ⟨none, rfl, fun b o e => k4 _ _ e _, by rw [zG]; rfl⟩ (fun i σ H' _ h => by obtain ⟨_, _, k, _⟩ := h; exact qZ.of (k _ _ hes)) ?_ ?_⟩
   ·rintro i y σ H' hy ⟨v, rfl, k5, ha5⟩
    obtain ⟨pe, hpe, rfl⟩ := ref_at hy
    obtain ⟨ev, hev5, htp⟩ := paired_get' hev3 hpe
    refine ⟨_, rfl, .inl ⟨rfl, _, qZ.of ha5⟩, _, rfl, an, pe, _, _, rfl, rfl, ha5, k5 _ _ htp, ?_, ?_⟩
    ·have e1 : (evV ev).length = 2 := by cases ev <;> rfl
     have e2 : ((resOf rr).evs.take i).length <= (resOf rr).evs.length := by rw [List.length_take]; exact Nat.min_le_right _ _
     rw [List.length_append, evV_len, e1]
     have e3 : (sizeLine : Nat) = 16777216 := sizeLine_eq
     show 2 + _ + 2 <= sizeLine
     omega
    ·refine ⟨_, rfl, fun b o e => ?_, ?_⟩
     ·rw [zF (zH e han)]
      exact k5 _ _ e
     ·rw [zG, take_more hev5, List.flatMap_append, List.flatMap_cons, List.flatMap_nil, List.append_nil, List.append_assoc]
   ·rintro σ H' ⟨v, rfl, k5, ha5⟩
    rw [List.length_map, hel, List.take_length] at ha5
    refine ⟨_, rfl, _, rfl, an, en, _, _, rfl, rfl, ha5, k5 _ _ hen, ?_, fun q hq => kk _ q ?_⟩
    ·have e1 : (endV (resOf rr)).length <= 2 := by cases resOf rr <;> (show (_ : Nat) <= 2; simp [endV])
     have e3 : (sizeLine : Nat) = 16777216 := sizeLine_eq
     rw [List.length_append, evV_len]
     show 2 + _ + _ <= sizeLine
     omega
    ·rw [zG, res_end hmore, List.map_append, List.map_append, evV_map, res_evs]
     rfl
end
end SM
end
section
set_option Elab.async false
set_option linter.all false
set_option maxRecDepth 100000
set_option maxHeartbeats 2000000
namespace SM
open PySem PySem.Spec PyProof.Rows L2
def strEs : List DictEntry -> List (Int × Str) -> Bool
 | [], [] => true
 | e :: es, kz :: kvs => (match e.key with | .int j _ => j == kz.1 | _ => false) && (e.hash == hashInt kz.1) && (match e.val with | .str s _ => s == kz.2 | _ => false) && strEs es kvs
 | _, _ => false
def tabD (K : PySem.W.Frag) (a : Addr) (kvs : List (Int × Str)) : Bool := match K.lookup a with
 | some ⟨.type "dict", none, .dict es _, sl⟩ => sl.toList.isEmpty && strEs es.toList kvs
 | _ => false
theorem strEs_ok (P : Program) (w : World) : ∀ (es : List DictEntry) (kvs : List (Int × Str)), strEs es kvs = true -> ∃ vs : List (Key × Value), KV (kvs.map fun p => ((Sum.inl p.1 : Key), V.str p.2)) vs /\ Pairs (yF P w) es vs /\
  (∀ e ∈ es, ∃ k, (yF P w).is k e.key = true /\ e.hash = (yF P w).hash k) /\ vs.map (·.1) = kvs.map fun p => (Sum.inl p.1 : Key)
 | [], [], _ => ⟨[], .nil, .nil, (fun e h => absurd h (by simp)), rfl⟩
 | [], _ :: _, h => by cases h
 | _ :: _, [], h => by cases h
 | e :: es, kz :: kvs, h => by
  have h : ((match e.key with | .int j _ => j == kz.1 | _ => false) && (e.hash == hashInt kz.1) && (match e.val with | .str s _ => s == kz.2 | _ => false) && strEs es kvs) = true := h
  simp only [Bool.and_eq_true] at h
  obtain ⟨⟨⟨h1, h2⟩, h3⟩, h4⟩ := h
  obtain ⟨vs, g1, g2, g3, g4⟩ := strEs_ok P w es kvs h4
  have k1 : (yF P w).is (Sum.inl kz.1) e.key = true := by
   split at h1
   ·rename_i j t hk
    rw [hk, <- eq_of_beq h1]
    exact mixKind_int P w j t
   ·cases h1
  have v1 : qN (V.str kz.2) e.val := by
   split at h3
   ·rename_i s t hv
    rw [hv, <- eq_of_beq h3]
    exact ⟨t, rfl⟩
   ·cases h3
  refine ⟨((Sum.inl kz.1 : Key), e.val) :: vs, .cons ⟨rfl, v1⟩ g1, .cons k1 rfl g2, fun e' he' => ?_, by rw [List.map_cons, g4]; rfl⟩
  rcases List.mem_cons.mp he' with rfl | he'
  ·exact ⟨Sum.inl kz.1, k1, eq_of_beq h2⟩
  ·exact g3 e' he'
theorem tabD_ok {K : PySem.W.Frag} {a : Addr} {kvs : List (Int × Str)} (q : tabD K a kvs = true) (hs : (a == sysModules) = false) (nd : (kvs.map fun p => (Sum.inl p.1 : Key)).Nodup) : KD K a (kvs.map fun p => ((Sum.inl p.1 : Key), V.str p.2)) := by
 refine ⟨hs, fun P w h X => ?_⟩
 unfold tabD at q
 split at q
 ·rename_i es ep sl ho
  rw [Bool.and_eq_true] at q
  obtain ⟨vs, g1, g2, g3, g4⟩ := strEs_ok P w _ _ q.2
  have hsl : sl = #[] := by
   obtain ⟨l⟩ := sl
   cases l with
   | nil => rfl
   | cons _ _ => cases q.1
  subst hsl
  exact ⟨vs, g1, _, es, ep, X _ _ ho, ⟨rfl, rfl, rfl⟩, rfl, fun e he => g3 e (by simpa using he), g2, by rw [g4]; exact nd⟩
 ·cases q
def strVs : List Value -> List Str -> Bool
 | [], [] => true
 | .str s _ :: vs, z :: zs => s == z && strVs vs zs
 | _, _ => false
def tupD (K : PySem.W.Frag) (a : Addr) (zs : List Str) : Bool := match K.lookup a with
 | some ⟨.type "tuple", _, .seq its _, _⟩ => decide (its.size <= 1000) && strVs its.toList zs
 | _ => false
theorem strVs_ok : ∀ (vs : List Value) (zs : List Str), strVs vs zs = true -> Vals (zs.map V.str) vs
 | [], [], _ => .nil
 | [], _ :: _, h => by cases h
 | .str s t :: vs, z :: zs, h => by
  have h : (s == z && strVs vs zs) = true := h
  rw [Bool.and_eq_true] at h
  refine .cons ⟨t, ?_⟩ (strVs_ok vs zs h.2)
  rw [eq_of_beq h.1]
 | .str _ _ :: _, [], h => by cases h
 | .none :: _, _, h => by simp [strVs] at h
 | .bool _ :: _, _, h => by simp [strVs] at h
 | .int _ _ :: _, _, h => by simp [strVs] at h
 | .float _ _ :: _, _, h => by simp [strVs] at h
 | .bytes _ _ :: _, _, h => by simp [strVs] at h
 | .ref _ :: _, _, h => by simp [strVs] at h
 | .type _ :: _, _, h => by simp [strVs] at h
 | .builtin _ :: _, _, h => by simp [strVs] at h
theorem tupD_ok {K : PySem.W.Frag} {a : Addr} {zs : List Str} (q : tupD K a zs = true) (H : Hp) : SqT K H a (zs.map V.str) := by
 unfold tupD at q
 split at q
 ·rename_i od its n sl ho
  rw [Bool.and_eq_true] at q
  exact .inr ⟨_, its, n, ho, rfl, rfl, Nat.le_of_lt (small1000 (of_decide_eq_true q.1)), strVs_ok _ _ q.2⟩
 ·cases q
section
variable {K : PySem.W.Frag} {h : Heap} {mg : Str -> Option Value} {x qual m : Str} {st : Stmt} {ps : List Str} {f C : Addr} {oc : Value} {od an : Option Addr} {osl : Array (Option Value)} {kV doc pm cdv ct : Value}
theorem gi_mk {n : Int} {t : PySem.Tok} (X : K.In h) (G : h.Ns mainGlobals mg) (a : PySem.W.nsIn K mainGlobals x = some (some (.int n t))) : GI mg x n := ⟨t, PySem.W.mg_of X G a⟩
theorem gs_mk {n : Str} {t : PySem.Tok} (X : K.In h) (G : h.Ns mainGlobals mg) (a : PySem.W.nsIn K mainGlobals x = some (some (.str n t))) : GS mg x n := ⟨t, PySem.W.mg_of X G a⟩
theorem dn_mk (X : K.In h) (G : h.Ns mainGlobals mg) (a : PySem.W.nsIn K mainGlobals x = some (some (.ref f))) (l : K.lookup f = some ⟨oc, od, .func (PySem.W.fnOf x x (defArgs st) (defBody st) (zJ st) .none kV doc pm an cdv ct), osl⟩) (c : PySem.W.codeIn K cdv x = true) (k : PySem.W.keepIn K (.ref f) = true)
  (b : ∀ (kV doc pm : Value) (an : Option Addr) (cdv ct : Value) (us : List Value), us.length = ps.length -> bindArgs (PySem.W.fnOf x x (defArgs st) (defBody st) (zJ st) .none kV doc pm an cdv ct) ⟨us, []⟩ = pure (ps.zip us)) : ∃ f fd, Dn K mg x st ps f fd :=
 ⟨f, _, fun_mk l c k, PySem.W.mg_of X G a, (fun_mk l c k).binds b⟩
theorem meth_mk (a : PySem.W.findIn K (.ref C) m = some (some (.ref f))) (i : PySem.W.isFn K (.ref f) = true) (l : K.lookup f = some ⟨oc, od, .func (PySem.W.fnOf m qual (defArgs st) (defBody st) (zJ st) .none kV doc pm an cdv ct), osl⟩) (c : PySem.W.codeIn K cdv qual = true) (k : PySem.W.keepIn K (.ref f) = true)
  (b : ∀ (kV doc pm : Value) (an : Option Addr) (cdv ct : Value) (us : List Value), us.length = ps.length -> bindArgs (PySem.W.fnOf m qual (defArgs st) (defBody st) (zJ st) .none kV doc pm an cdv ct) ⟨us, []⟩ = pure (ps.zip us)) : ∃ f fd, Meth K C m f /\ Fun K m qual st f fd /\ Binds K fd ps [] :=
 ⟨f, _, ⟨a, i, k⟩, fun_mk l c k, (fun_mk l c k).binds b⟩
theorem init_mk (X : K.In h) (G : h.Ns mainGlobals mg) (aC : PySem.W.nsIn K mainGlobals x = some (some (.ref C))) (a : PySem.W.findIn K (.ref C) "__init__" = some (some (.ref f))) (i : PySem.W.isFn K (.ref f) = true)
  (l : K.lookup f = some ⟨oc, od, .func (PySem.W.fnOf "__init__" qual (defArgs st) (defBody st) (zJ st) .none kV doc pm an cdv ct), osl⟩) (c : PySem.W.codeIn K cdv qual = true) (k : PySem.W.keepIn K (.ref f) = true) (mk : PySem.W.makesIn K C = true) (kc : PySem.W.keepIn K (.ref C) = true)
  (b : ∀ (kV doc pm : Value) (an : Option Addr) (cdv ct : Value) (us : List Value), us.length = ps.length -> bindArgs (PySem.W.fnOf "__init__" qual (defArgs st) (defBody st) (zJ st) .none kV doc pm an cdv ct) ⟨us, []⟩ = pure (ps.zip us)) : ∃ fI fdI, CI K mg C fI fdI x qual st ps :=
 ⟨f, _, PySem.W.mg_of X G aC, ⟨mk, a, i, kc⟩, fun_mk l c k, (fun_mk l c k).binds b⟩
end
end SM
end
section
set_option Elab.async false
set_option linter.all false
set_option maxRecDepth 100000
set_option maxHeartbeats 2000000
namespace SM
open PySem PySem.Spec PyProof.Rows L2
section
variable {K : PySem.W.Frag} {h : Heap} {mg : Str -> Option Value}
theorem exc_mk {c1 c2 c3 : Addr} (X : K.In h) (G : h.Ns mainGlobals mg) (a1 : PySem.W.nsIn K mainGlobals "TooMuch" = some (some (.ref c1))) (a2 : PySem.W.nsIn K mainGlobals "NoProgram" = some (some (.ref c2))) (a3 : PySem.W.nsIn K mainGlobals "NotRight" = some (some (.ref c3)))
  (q1 : excD K c1 = true) (q2 : excD K c2 = true) (q3 : excD K c3 = true) (n1 : c2 ≠ c1) (n2 : c3 ≠ c1) (n3 : c3 ≠ c2) :
  ∃ cTM cNP cNR, TM K mg cTM /\ (mg "NoProgram" = some (.ref cNP) /\ excD K cNP = true) /\ NR K mg cNR /\ cNP ≠ cTM /\ cNR ≠ cTM /\ cNR ≠ cNP :=
 ⟨c1, c2, c3, ⟨PySem.W.mg_of X G a1, q1⟩, ⟨PySem.W.mg_of X G a2, q2⟩, ⟨PySem.W.mg_of X G a3, q3⟩, n1, n2, n3⟩
def wordsL : List Str := ["fn", "let", "if", "else", "while", "return", "put", "get"]
def signsL : List (Int × Str) := [(33, "!"), (37, "rest"), (40, "("), (41, ")"), (42, "*"), (43, "+"), (44, ","), (45, "-"), (47, "/"), (59, ";"), (60, "<"), (61, "="), (123, "{"), (125, "}")]
theorem tab_mk {aW aS : Addr} (X : K.In h) (G : h.Ns mainGlobals mg) (a1 : PySem.W.nsIn K mainGlobals "WORDS" = some (some (.ref aW))) (a2 : PySem.W.nsIn K mainGlobals "SIGNS" = some (some (.ref aS))) (t1 : tupD K aW wordsL = true) (t2 : tabD K aS signsL = true) (hs : (aS == sysModules) = false) :
  ∃ aW aS, mg "WORDS" = some (.ref aW) /\ (∀ H, SqT K H aW wordsV) /\ mg "SIGNS" = some (.ref aS) /\ KD K aS signsKV :=
 ⟨aW, aS, PySem.W.mg_of X G a1, tupD_ok t1, PySem.W.mg_of X G a2, tabD_ok t2 hs (by decide +kernel)⟩
theorem reader_mk {C : Addr} (X : K.In h) (G : h.Ns mainGlobals mg) (pg : PySem.W.plainGet K C Str.empty = true) (hd : PySem.W.hasDictIn K C = true) (po : PySem.W.plainOver K C = true) (sa : PySem.W.findIn K (.ref C) "__setattr__" = some (some (.builtin "object.__setattr__")))
  (n1 : PySem.W.findIn K (.ref C) "tokens" = some none) (n2 : PySem.W.findIn K (.ref C) "at" = some none) (n3 : PySem.W.findIn K (.ref C) "orders" = some none) (ci : ∃ fI fdI, CI K mg C fI fdI "Reader" "Reader.__init__" sRInit ["self", "tokens"])
  (m1 : ∃ f fd, Meth K C "kind" f /\ Fun K "kind" "Reader.kind" sRKind f fd /\ Binds K fd ["self"] []) (m2 : ∃ f fd, Meth K C "take" f /\ Fun K "take" "Reader.take" sRTake f fd /\ Binds K fd ["self", "kind"] [])
  (m3 : ∃ f fd, Meth K C "order" f /\ Fun K "order" "Reader.order" sRMention f fd /\ Binds K fd ["self", "how", "name", "number"] []) (m4 : ∃ f fd, Meth K C "order_jump" f /\ Fun K "order_jump" "Reader.order_jump" sRJump f fd /\ Binds K fd ["self", "how"] [])
  (m5 : ∃ f fd, Meth K C "land_here" f /\ Fun K "land_here" "Reader.land_here" sRLand f fd /\ Binds K fd ["self", "place"] []) :
  ∃ cR fK fT fM fdK fdT fdM fI fdI fJ fL fdJ fdL, RC K cR fK fT fM fdK fdT fdM /\ CI K mg cR fI fdI "Reader" "Reader.__init__" sRInit ["self", "tokens"] /\ RC2 K cR fJ fL fdJ fdL := by
 obtain ⟨fI, fdI, c⟩ := ci
 obtain ⟨f1, d1, x1, y1, z1⟩ := m1
 obtain ⟨f2, d2, x2, y2, z2⟩ := m2
 obtain ⟨f3, d3, x3, y3, z3⟩ := m3
 obtain ⟨f4, d4, x4, y4, z4⟩ := m4
 obtain ⟨f5, d5, x5, y5, z5⟩ := m5
 exact ⟨C, f1, f2, f3, d1, d2, d3, fI, fdI, f4, f5, d4, d5, ⟨⟨pg, hd, po, sa⟩, n1, n2, n3, x1, x2, x3, y1, y2, y3, z1, z2, z3⟩, c, ⟨x4, x5, y4, y5, z4, z5⟩⟩
theorem reading_mk {C : Addr} (X : K.In h) (G : h.Ns mainGlobals mg) (pg : PySem.W.plainGet K C Str.empty = true) (hd : PySem.W.hasDictIn K C = true) (po : PySem.W.plainOver K C = true) (sa : PySem.W.findIn K (.ref C) "__setattr__" = some (some (.builtin "object.__setattr__")))
  (n1 : PySem.W.findIn K (.ref C) "refusal" = some none) (n2 : PySem.W.findIn K (.ref C) "tokens" = some none) (n3 : PySem.W.findIn K (.ref C) "functions" = some none) (ci : ∃ fI fdI, CI K mg C fI fdI "Reading" "Reading.__init__" sRdInit ["self", "refusal", "tokens", "functions"]) :
  ∃ cD fI fdI, DC K cD /\ CI K mg cD fI fdI "Reading" "Reading.__init__" sRdInit ["self", "refusal", "tokens", "functions"] := by
 obtain ⟨fI, fdI, c⟩ := ci
 exact ⟨C, fI, fdI, ⟨⟨pg, hd, po, sa⟩, n1, n2, n3⟩, c⟩
theorem function_mk {C : Addr} (X : K.In h) (G : h.Ns mainGlobals mg) (pg : PySem.W.plainGet K C Str.empty = true) (hd : PySem.W.hasDictIn K C = true) (po : PySem.W.plainOver K C = true) (sa : PySem.W.findIn K (.ref C) "__setattr__" = some (some (.builtin "object.__setattr__")))
  (n1 : PySem.W.findIn K (.ref C) "name" = some none) (n2 : PySem.W.findIn K (.ref C) "parameters" = some none) (n3 : PySem.W.findIn K (.ref C) "orders" = some none) (ci : ∃ fI fdI, CI K mg C fI fdI "Function" "Function.__init__" sFInit ["self", "name", "parameters", "orders"]) :
  ∃ cF fI fdI, FC K cF /\ CI K mg cF fI fdI "Function" "Function.__init__" sFInit ["self", "name", "parameters", "orders"] := by
 obtain ⟨fI, fdI, c⟩ := ci
 exact ⟨C, fI, fdI, ⟨⟨pg, hd, po, sa⟩, n1, n2, n3⟩, c⟩
theorem scope_mk {C : Addr} (X : K.In h) (G : h.Ns mainGlobals mg) (pg : PySem.W.plainGet K C Str.empty = true) (hd : PySem.W.hasDictIn K C = true) (po : PySem.W.plainOver K C = true) (sa : PySem.W.findIn K (.ref C) "__setattr__" = some (some (.builtin "object.__setattr__")))
  (n1 : PySem.W.findIn K (.ref C) "names" = some none) (n2 : PySem.W.findIn K (.ref C) "starts" = some none) (ci : ∃ fI fdI, CI K mg C fI fdI "Scope" "Scope.__init__" sSInit ["self"])
  (m1 : ∃ f fd, Meth K C "begin_block" f /\ Fun K "begin_block" "Scope.begin_block" sSBegin f fd /\ Binds K fd ["self"] []) (m2 : ∃ f fd, Meth K C "end_block" f /\ Fun K "end_block" "Scope.end_block" sSEnd f fd /\ Binds K fd ["self"] [])
  (m3 : ∃ f fd, Meth K C "tell" f /\ Fun K "tell" "Scope.tell" sSTell f fd /\ Binds K fd ["self", "name"] []) (m4 : ∃ f fd, Meth K C "use" f /\ Fun K "use" "Scope.use" sSUse f fd /\ Binds K fd ["self", "name"] []) :
  ∃ cS fB fE fT fU fdB fdE fdT fdU fI fdI, SC K cS fB fE fT fU fdB fdE fdT fdU /\ CI K mg cS fI fdI "Scope" "Scope.__init__" sSInit ["self"] := by
 obtain ⟨fI, fdI, c⟩ := ci
 obtain ⟨f1, d1, x1, y1, z1⟩ := m1
 obtain ⟨f2, d2, x2, y2, z2⟩ := m2
 obtain ⟨f3, d3, x3, y3, z3⟩ := m3
 obtain ⟨f4, d4, x4, y4, z4⟩ := m4
 exact ⟨C, f1, f2, f3, f4, d1, d2, d3, d4, fI, fdI, ⟨⟨pg, hd, po, sa⟩, n1, n2, x1, x2, x3, x4, y1, y2, y3, y4, z1, z2, z3, z4⟩, c⟩
structure Sn (K : PySem.W.Frag) (mg : Str -> Option Value) where
 f1 : Addr
 d1 : FuncData
 letter : Dn K mg "is_letter" sLetter ["byte"] f1 d1
 f2 : Addr
 d2 : FuncData
 digit : Dn K mg "is_digit" sDigit ["byte"] f2 d2
 f3 : Addr
 d3 : FuncData
 nameB : Dn K mg "is_name_byte" sNameB ["byte"] f3 d3
 f4 : Addr
 d4 : FuncData
 commentE : Dn K mg "comment_end" sCommentE ["t", "start"] f4 d4
 f5 : Addr
 d5 : FuncData
 nameE : Dn K mg "name_end" sNameE ["t", "start"] f5 d5
 f6 : Addr
 d6 : FuncData
 numberE : Dn K mg "number_end" sNumberE ["t", "start"] f6 d6
 f7 : Addr
 d7 : FuncData
 signE : Dn K mg "sign_end" sSignE ["t", "start"] f7 d7
 f8 : Addr
 d8 : FuncData
 tokenE : Dn K mg "token_end" sTokenE ["t", "start"] f8 d8
 f9 : Addr
 d9 : FuncData
 letterOf : Dn K mg "letter_of" sLetterOf ["byte"] f9 d9
 f10 : Addr
 d10 : FuncData
 spell : Dn K mg "spell" sSpell ["piece"] f10 d10
 f11 : Addr
 d11 : FuncData
 nameT : Dn K mg "name_token" sNameT ["piece"] f11 d11
 f12 : Addr
 d12 : FuncData
 numberT : Dn K mg "number_token" sNumberT ["piece"] f12 d12
 f13 : Addr
 d13 : FuncData
 signT : Dn K mg "sign_token" sSignT ["piece"] f13 d13
 f14 : Addr
 d14 : FuncData
 tokenOf : Dn K mg "token_of" sTokenOf ["piece"] f14 d14
 f15 : Addr
 d15 : FuncData
 part : Dn K mg "part" sPart ["t"] f15 d15
theorem ok_scan {P : Program} {w : World} {base : Heap} {cNP aW aS : Addr} (G : Gs mg) (B : Tb K mg cNP aW aS) (q : Sn K mg) : FnOk P w K mg base (CXW P w) 6 q.f15 q.d15 ["t"] (spPart K cNP) := by
 have g1 := ok_letter (P := P) (w := w) (base := base) q.letter G
 have g2 := ok_digit (P := P) (w := w) (base := base) q.digit G
 have g3 := ok_nameB (P := P) (w := w) (base := base) q.nameB G q.letter q.digit
 have g4 := ok_commentE (P := P) (w := w) (base := base) q.commentE G
 have g5 := ok_nameE q.nameE G q.nameB g3
 have g6 := ok_numberE q.numberE G q.digit g2
 have g7 := ok_signE (P := P) (w := w) (base := base) q.signE G
 have g8 := ok_tokenE q.tokenE q.letter q.digit q.nameE q.numberE q.signE g1 g2 g5 g6 g7
 have g9 := ok_letterOf q.letterOf G q.letter q.digit g1 g2
 have g10 := ok_spell q.spell q.letterOf g9
 have g11 := ok_nameT q.nameT G B q.spell g10
 have g12 := ok_numberT q.numberT G B q.spell g10
 have g13 := ok_signT (P := P) (w := w) (base := base) q.signT G B
 have g14 := ok_tokenOf q.tokenOf q.letter q.digit q.nameT q.numberT q.signT g1 g2 g11 g12 g13
 exact ok_part q.part G q.commentE q.tokenE q.tokenOf g4 g8 g14
theorem assembleR {P : Program} {w : World} {base : Heap} {cTM cNP cNR aW aS cR cF cS fK fT fM fRI fFI fB fE fTl fU fSI fPar fFun fProg fCC fCF fPC fCR fTok fFns fRd fDI cD fJ fL : Addr} {fdK fdT fdM fdRI fdFI fdB fdE fdTl fdU fdSI fdPar fdFun fdProg fdCC fdCF fdPC fdCR fdTok fdFns fdRd fdDI fdJ fdL : FuncData}
  (G : Gs mg) (G2 : Gs2 mg) (G3 : Gs3 mg) (B : Tb K mg cNP aW aS) (M : TM K mg cTM) (N : NR K mg cNR) (n1 : cNP ≠ cTM) (n2 : cNR ≠ cTM) (n3 : cNR ≠ cNP) (T : RC K cR fK fT fM fdK fdT fdM) (T2 : RC2 K cR fJ fL fdJ fdL) (CR : CI K mg cR fRI fdRI "Reader" "Reader.__init__" sRInit ["self", "tokens"])
  (F : FC K cF) (CF : CI K mg cF fFI fdFI "Function" "Function.__init__" sFInit ["self", "name", "parameters", "orders"]) (C : SC K cS fB fE fTl fU fdB fdE fdTl fdU) (CSc : CI K mg cS fSI fdSI "Scope" "Scope.__init__" sSInit ["self"])
  (q : Sn K mg) (p : Pr K mg) (dPar : Dn K mg "read_parameters" sPar ["reader"] fPar fdPar) (dFun : Dn K mg "read_function" sFun ["reader"] fFun fdFun) (dProg : Dn K mg "read_program" sProg ["tokens"] fProg fdProg)
  (dCC : Dn K mg "check_call" sCCall ["name", "count", "counts"] fCC fdCC) (dCF : Dn K mg "check_function" sCF ["function", "counts"] fCF fdCF) (dPC : Dn K mg "parameter_counts" sPC ["functions"] fPC fdPC) (dCR : Dn K mg "check_right" sCR ["functions"] fCR fdCR)
  (dTok : Dn K mg "tokens_of" sTok ["t"] fTok fdTok) (dFns : Dn K mg "functions_of" sFns ["tokens"] fFns fdFns) (dRd : Dn K mg "reading_of" sReading ["t"] fRd fdRd) (CD : DC K cD) (CDI : CI K mg cD fDI fdDI "Reading" "Reading.__init__" sRdInit ["self", "refusal", "tokens", "functions"]) : FnOk P w K mg base (CXW P w) 202 fRd fdRd ["t"] (spReading K cD cF) := by
 have gP := ok_scan (P := P) (w := w) (base := base) G B q
 have gF := ok_fun (P := P) (w := w) (base := base) T T2 G G2 B p dFun dPar F CF
 have gPr := ok_prog T G dProg dFun CR gF
 have gPC := ok_pc (P := P) (w := w) (base := base) dPC G N F
 have gCF := fun l => ok_cf (P := P) (w := w) (base := base) dCF dCC G G2 N F C CSc l
 have gCR := ok_cr dCR dPC dCF N gPC gCF
 have gT := ok_tokens dTok q.part G G3 M gP
 have gFn := ok_fns dFns dProg dCR G G3 M gPr gCR
 exact ok_reading dRd dTok dFns CD CDI G G3 M B N n1 n2 n3 gT gFn
end
theorem bv_of {ns : List Int} (h : ∀ n ∈ ns, 0 <= n) : bv (ns.map Int.toNat) = ns.map V.int := by
 unfold bv
 rw [List.map_map]
 refine List.map_congr_left fun n hn => ?_
 show V.int ((n.toNat : Nat) : Int) = V.int n
 rw [Int.toNat_of_nonneg (h n hn)]
end SM
end
section
set_option Elab.async false
set_option linter.all false
set_option maxRecDepth 100000
set_option maxHeartbeats 2000000
namespace SM
open PySem PySem.Spec PyProof.Rows L2
section
variable {K : PySem.W.Frag} {h : Heap} {mg : Str -> Option Value}
theorem xr_mk {c1 c2 c3 c4 : Addr} (X : K.In h) (G : h.Ns mainGlobals mg) (a1 : PySem.W.nsIn K mainGlobals "PartedByZero" = some (some (.ref c1))) (a2 : PySem.W.nsIn K mainGlobals "Outside" = some (some (.ref c2))) (a3 : PySem.W.nsIn K mainGlobals "NoStepsLeft" = some (some (.ref c3))) (a4 : PySem.W.nsIn K mainGlobals "TooManyCalls" = some (some (.ref c4)))
  (q1 : excD K c1 = true) (q2 : excD K c2 = true) (q3 : excD K c3 = true) (q4 : excD K c4 = true) (n1 : c2 ≠ c1) (n2 : c3 ≠ c1) (n3 : c3 ≠ c2) (n4 : c4 ≠ c1) (n5 : c4 ≠ c2) (n6 : c4 ≠ c3) :
  ∃ cZ cO cS cC, XR K mg cZ cO cS cC /\ cO ≠ cZ /\ cS ≠ cZ /\ cS ≠ cO /\ cC ≠ cZ /\ cC ≠ cO /\ cC ≠ cS :=
 ⟨c1, c2, c3, c4, ⟨PySem.W.mg_of X G a1, q1, PySem.W.mg_of X G a2, q2, PySem.W.mg_of X G a3, q3, PySem.W.mg_of X G a4, q4⟩, n1, n2, n3, n4, n5, n6⟩
theorem rn_mk {C : Addr} (X : K.In h) (G : h.Ns mainGlobals mg) (pg : PySem.W.plainGet K C Str.empty = true) (hd : PySem.W.hasDictIn K C = true) (po : PySem.W.plainOver K C = true) (sa : PySem.W.findIn K (.ref C) "__setattr__" = some (some (.builtin "object.__setattr__")))
  (n1 : PySem.W.findIn K (.ref C) "functions" = some none) (n2 : PySem.W.findIn K (.ref C) "steps_left" = some none) (n3 : PySem.W.findIn K (.ref C) "g" = some none) (n4 : PySem.W.findIn K (.ref C) "gets" = some none) (n5 : PySem.W.findIn K (.ref C) "record" = some none) (n6 : PySem.W.findIn K (.ref C) "calls" = some none) (n7 : PySem.W.findIn K (.ref C) "waiting" = some none)
  (ci : ∃ fI fdI, CI K mg C fI fdI "Run" "Run.__init__" sRnInit ["self", "functions", "steps", "g"]) : ∃ cRn fI fdI, RunC K cRn /\ CI K mg cRn fI fdI "Run" "Run.__init__" sRnInit ["self", "functions", "steps", "g"] := by
 obtain ⟨fI, fdI, c⟩ := ci
 exact ⟨C, fI, fdI, ⟨⟨pg, hd, po, sa⟩, n1, n2, n3, n4, n5, n6, n7⟩, c⟩
theorem cl_mk {C : Addr} (X : K.In h) (G : h.Ns mainGlobals mg) (pg : PySem.W.plainGet K C Str.empty = true) (hd : PySem.W.hasDictIn K C = true) (po : PySem.W.plainOver K C = true) (sa : PySem.W.findIn K (.ref C) "__setattr__" = some (some (.builtin "object.__setattr__")))
  (n1 : PySem.W.findIn K (.ref C) "orders" = some none) (n2 : PySem.W.findIn K (.ref C) "at" = some none) (n3 : PySem.W.findIn K (.ref C) "variables" = some none)
  (ci : ∃ fI fdI, CI K mg C fI fdI "Call" "Call.__init__" sCInit ["self", "orders"]) : ∃ cL fI fdI, CallC K cL /\ CI K mg cL fI fdI "Call" "Call.__init__" sCInit ["self", "orders"] := by
 obtain ⟨fI, fdI, c⟩ := ci
 exact ⟨C, fI, fdI, ⟨⟨pg, hd, po, sa⟩, n1, n2, n3⟩, c⟩
theorem assembleX {P : Program} {w : World} {base : Heap} {cD cF cRn cL cZ cO cS cC fIn fQu fOn fTw fBN fMa fWo fNu fBS fBC fAs fEn fRd fRI fCI fRun : Addr} {fdIn fdQu fdOn fdTw fdBN fdMa fdWo fdNu fdBS fdBC fdAs fdEn fdRd fdRI fdCI fdRun : FuncData}
  (G : Gs mg) (G5 : Gs5 mg) (G6 : Gs6 mg) (X : XR K mg cZ cO cS cC) (n1 : cO ≠ cZ) (n2 : cS ≠ cZ) (n3 : cS ≠ cO) (n4 : cC ≠ cZ) (n5 : cC ≠ cO) (n6 : cC ≠ cS) (F : FC K cF) (CD : DC K cD) (CR : RunC K cRn) (CRI : CI K mg cRn fRI fdRI "Run" "Run.__init__" sRnInit ["self", "functions", "steps", "g"]) (C2 : CallC K cL) (CL : CI K mg cL fCI fdCI "Call" "Call.__init__" sCInit ["self", "orders"])
  (dIn : Dn K mg "inside" sInside ["number"] fIn fdIn) (dQu : Dn K mg "quotient" sQuot ["left", "right"] fQu fdQu) (dOn : Dn K mg "reckon_one" sOne ["sign", "number"] fOn fdOn) (dTw : Dn K mg "reckon_two" sTwo ["sign", "left", "right"] fTw fdTw) (dBN : Dn K mg "by_name" sByName ["functions"] fBN fdBN) (dMa : Dn K mg "run_main" sMain ["run"] fMa fdMa)
  (dWo : Dn K mg "work_off" sWork ["run", "call", "order"] fWo fdWo) (dNu : Dn K mg "number_of" sNum ["run", "call", "order"] fNu fdNu) (dBS : Dn K mg "begin_statement" sBegS ["run"] fBS fdBS) (dBC : Dn K mg "begin_call" sBegC ["run", "name"] fBC fdBC) (dAs : Dn K mg "ask" sAsk ["run"] fAs fdAs) (dEn : Dn K mg "ending_of" sEnd ["run"] fEn fdEn)
  (dRd : Dn K mg "reading_of" sReading ["t"] fRd fdRd) (dRun : Dn K mg "pr_run" sPrRun ["steps", "t", "g"] fRun fdRun) (gR : FnOk P w K mg base (CXW P w) 202 fRd fdRd ["t"] (spReading K cD cF)) : FnOk P w K mg base (CXW P w) 203 fRun fdRun ["steps", "t", "g"] (spPrRun K) := by
 have g1 := ok_oneR (P := P) (w := w) (base := base) dOn dIn G5 X
 have g2 := ok_twoR (P := P) (w := w) (base := base) dTw dIn dQu G5 X
 have g3 := ok_ask (P := P) (w := w) (base := base) (cL := cL) dAs G G5 CR
 have g4 := ok_begS (P := P) (w := w) (base := base) (cL := cL) dBS X CR
 have g5 := fun tab => ok_begC (P := P) (w := w) (base := base) (tab := tab) dBC G G5 X CR C2 CL F
 have g6 := fun tab => ok_num (cS := cS) (cC := cC) (tab := tab) dNu dAs dOn dTw CR C2 g3 g1 g2
 have g7 := fun tab => ok_work dWo dBS dBC dNu G5 CR C2 g4 (g5 tab) (g6 tab)
 have g8 := fun tab => ok_main dMa dBC dWo G CR C2 (g5 tab) (g7 tab)
 have g9 := fun tab => ok_ending dEn dMa G6 X n1 n2 n3 n4 n5 n6 (g8 tab)
 have g10 := ok_rnInit (P := P) (w := w) (base := base) (cL := cL) CRI.fI dBN CR F
 exact ok_prRun dRun dRd dEn CRI G CD CR gR g10 g9
end
theorem run_mk {P : Program} {w : World} {K : PySem.W.Frag} {h : Heap} {mg : Str -> Option Value} {fa f : Addr} {oc : Value} {od an : Option Addr} {osl : Array (Option Value)} {kV doc pm cdv ct : Value} (X : K.In h) (G : h.Ns mainGlobals mg) (hfa : mg "pr_run" = some (.ref fa))
  (a : PySem.W.nsIn K mainGlobals "pr_run" = some (some (.ref f))) (l : K.lookup f = some ⟨oc, od, .func (PySem.W.fnOf "pr_run" "pr_run" (defArgs sPrRun) (defBody sPrRun) (zJ sPrRun) .none kV doc pm an cdv ct), osl⟩) (c : PySem.W.codeIn K cdv "pr_run" = true) (k : PySem.W.keepIn K (.ref f) = true)
  (z : ∀ (fd : FuncData), Dn K mg "pr_run" sPrRun ["steps", "t", "g"] fa fd -> ∀ base : Heap, FnOk P w K mg base (CXW P w) 203 fa fd ["steps", "t", "g"] (spPrRun K)) :
  ∃ fd : FuncData, (∀ (s : Shared) (us : List Value), us.length = (["steps", "t", "g"] : List Str).length -> BindsTo s fd ⟨us, []⟩ ((["steps", "t", "g"] : List Str).zip us)) /\ ∀ base : Heap, K.In base -> base.Ns mainGlobals mg -> FnOk P w K mg base (CXW P w) 203 fa fd ["steps", "t", "g"] (spPrRun K) := by
 have e := hfa.symm.trans (PySem.W.mg_of X G a)
 cases e
 have F := fun_mk (st := sPrRun) l c k
 exact ⟨_, fun s us hu => match us, hu with | [_, _, _], _ => .of_eq rfl, fun base _ _ => z _ ⟨F, hfa, F.binds (ps := ["steps", "t", "g"]) fun _ _ _ _ _ _ us hl => match us, hl with | [_, _, _], _ => rfl⟩ base⟩
end SM
end
set_option Elab.async false
set_option linter.all false
set_option maxRecDepth 100000
namespace SM
open PySem PySem.Spec PyProof.Rows L2 PySem.W
theorem walk_specW {r : OpenSpec} {k : Nat} {q : Program} {loose : List Str} {XP : (Str -> Option Value) -> Heap -> Prop} {YP : World -> Heap -> Prop} {d : DefRec} {K : Params -> PySem.W.Frag} {ps : List Str} {sp : PySem.W.Frag -> Sp}
    (hwell : r.wellSaid = true) (hdf : d.params.defaults = []) (hlen : r.args.length = ps.length) (hr : Room k callerA)
    (hY : ∀ (w : World) (h : Heap), YP w h -> (K w.params).In h)
    (F : ∀ (w : World) (mg : Str -> Option Value) (fa : Addr) (h : Heap), YP w h -> (K w.params).In h -> h.Ns mainGlobals mg -> mg d.name = some (.ref fa) ->
      ∃ fd : FuncData, (∀ (s : Shared) (us : List Value), us.length = ps.length -> BindsTo s fd ⟨us, []⟩ (ps.zip us)) /\
        ∀ base : Heap, (K w.params).In base -> base.Ns mainGlobals mg -> FnOk r.prog w (K w.params) mg base (CXW r.prog w) k fa fd ps (sp (K w.params)))
    (hsp : ∀ (K : PySem.W.Frag) (H : Hp) (xs : List V) (a : Codec.denoteAll r.args), OnlyF H -> Codec.withinAll r.args a = true -> Codec.app r.args r.asked a = true -> DwAll K H xs (Codec.encAll r.args a) ->
      sp K xs H (fun v H' => Dw K H' v (r.ret.enc (Codec.app r.args r.f a))) fun _ _ _ => False) :
    PySem.W.WalkOS q loose XP YP r d [] (fun f vs => PySem.call f vs) :=
  walk_spec (K := K) (CX := fun w => CXW r.prog w) (sp := fun w => sp (K w.params)) hwell hdf hlen hr hY F (fun w H xs a h1 h2 h3 h4 => hsp (K w.params) H xs a h1 h2 h3 h4)
    (fun w H s e s' z => by
      obtain ⟨a, C, a0, H', B, _, hE, _⟩ := z
      exact hE)
end SM
/-! These names are taken ahead of the head: it then lays no quick twins of its heaps and trees. -/
def PySem.W.Fast.tw2366338990876879986 : Nat := 0
def PySem.W.Fast.tw11634411858676037242 : Nat := 0
def PySem.W.Fast.tw4930669354153759296 : Nat := 0
def PySem.W.Fast.tw1232655064417857679 : Nat := 0
def PySem.W.Fast.tw4754026530715918606 : Nat := 0
def PySem.W.Fast.tw10297390026612410340 : Nat := 0
def PySem.W.Fast.tw16741766508265173753 : Nat := 0
def PySem.W.Fast.tw16251328939678273003 : Nat := 0
def PySem.W.Fast.tw9416913540228137028 : Nat := 0
def PySem.W.Fast.tw16168978759813896114 : Nat := 0
def PySem.W.Fast.tw17210329273096916269 : Nat := 0
def PySem.W.Fast.tw17212069713649708452 : Nat := 0
def PySem.W.Fast.tw17453146967101738213 : Nat := 0
def PySem.W.Fast.tw6670661374831792018 : Nat := 0
def PySem.W.Fast.tw3593146641158293923 : Nat := 0
def PySem.W.Fast.tw13065822359689137065 : Nat := 0
def PySem.W.Fast.tw4054862638183244045 : Nat := 0
def PySem.W.Fast.tw11549967554117585255 : Nat := 0
def PySem.W.Fast.tw6927740404788872905 : Nat := 0
def PySem.W.Fast.tw13430141758748146049 : Nat := 0
def PySem.W.Fast.tw1116126631055844336 : Nat := 0
def PySem.W.Fast.tw14572102677186822262 : Nat := 0
def PySem.W.Fast.tw4256486663570718218 : Nat := 0
def PySem.W.Fast.tw2345613193450991007 : Nat := 0
def PySem.W.Fast.tw11671562938454395674 : Nat := 0
def PySem.W.Fast.tw6617987954615291974 : Nat := 0
def PySem.W.Fast.tw16994623903608861501 : Nat := 0
def PySem.W.Fast.tw13858347776984473785 : Nat := 0
def PySem.W.Fast.tw16487636278570809204 : Nat := 0
def PySem.W.Fast.tw8214895578034413574 : Nat := 0
def PySem.W.Fast.tw3309505134684349651 : Nat := 0
def PySem.W.Fast.tw9108877286610033882 : Nat := 0
def PySem.W.Fast.tw5896212895418415770 : Nat := 0
def PySem.W.Fast.tw15198384189762673190 : Nat := 0
def PySem.W.Fast.tw11334307623160111707 : Nat := 0
def PySem.W.Fast.tw12040815687530964899 : Nat := 0
def PySem.W.Fast.tw5014322406480787281 : Nat := 0
def PySem.W.Fast.tw11044792424784588556 : Nat := 0
def PySem.W.Fast.tw3402715798518680823 : Nat := 0
def PySem.W.Fast.tw2982174098395984690 : Nat := 0
def PySem.W.Fast.tw17111329040280480390 : Nat := 0
def PySem.W.Fast.tw3303069941054597670 : Nat := 0
def PySem.W.Fast.tw1466695847420017912 : Nat := 0
def PySem.W.Fast.tw11958500497698503622 : Nat := 0
def PySem.W.Fast.tw11702158278469580169 : Nat := 0
def PySem.W.Fast.tw2382414349375845906 : Nat := 0
def PySem.W.Fast.tw10061951000272920106 : Nat := 0
def PySem.W.Fast.tw387469560440569731 : Nat := 0
def PySem.W.Fast.tw1034984993192413569 : Nat := 0
def PySem.W.Fast.tw7378776218820748205 : Nat := 0
def PySem.W.Fast.tw11511488435158436097 : Nat := 0
def PySem.W.Fast.tw2963204411035655444 : Nat := 0
def PySem.W.Fast.tw3653585384445580045 : Nat := 0
def PySem.W.Fast.tw16848357793596827457 : Nat := 0
def PySem.W.Fast.tw5335717572218766808 : Nat := 0
def PySem.W.Fast.tw4885364339399742705 : Nat := 0
def PySem.W.Fast.tw17704566740228871941 : Nat := 0
def PySem.W.Fast.tw5416050234218826088 : Nat := 0
def PySem.W.Fast.tw5260920048793860371 : Nat := 0
def PySem.W.Fast.tw7826174160846063425 : Nat := 0
def PySem.W.Fast.tw4177959635150628165 : Nat := 0
def PySem.W.Fast.tw13761408236697592368 : Nat := 0
def PySem.W.Fast.tw5066950136205771007 : Nat := 0
def PySem.W.Fast.tw11876024815537693101 : Nat := 0
def PySem.W.Fast.tw1619738763291185167 : Nat := 0
def PySem.W.Fast.tw16898701479094998548 : Nat := 0
def PySem.W.Fast.tw22666650924127671 : Nat := 0
def PySem.W.Fast.tw18184427744657618116 : Nat := 0
def PySem.W.Fast.tw2529680963788402335 : Nat := 0
def PySem.W.Fast.tw12990845747731422814 : Nat := 0
def PySem.W.Fast.tw4378080779467257629 : Nat := 0
def PySem.W.Fast.tw8000681442298889914 : Nat := 0
def PySem.W.Fast.tw640214245936345275 : Nat := 0
def PySem.W.Fast.tw9977361431888931852 : Nat := 0
def PySem.W.Fast.tw13052023260485329619 : Nat := 0
def PySem.W.Fast.tw13839464048421633701 : Nat := 0
def PySem.W.Fast.tw17636429059988698211 : Nat := 0
def PySem.W.Fast.tw9500782706415595975 : Nat := 0
def PySem.W.Fast.tw8426235086022113304 : Nat := 0
def PySem.W.Fast.tw6136895051366208193 : Nat := 0
def PySem.W.Fast.tw1503209663918873224 : Nat := 0
def PySem.W.Fast.tw1230471887078520714 : Nat := 0
def PySem.W.Fast.tw9415459185338488113 : Nat := 0
def PySem.W.Fast.tw17265642010301962071 : Nat := 0
def PySem.W.Fast.tw11232321713646843884 : Nat := 0
def PySem.W.Fast.tw7019665884024780668 : Nat := 0
def PySem.W.Fast.tw17763977118854514177 : Nat := 0
def PySem.W.Fast.tw9470148778015847825 : Nat := 0
def PySem.W.Fast.tw9512518326809534776 : Nat := 0
def PySem.W.Fast.tw16388196960828500373 : Nat := 0
def PySem.W.Fast.tw18147770727004099606 : Nat := 0
def PySem.W.Fast.tw5086757680408141026 : Nat := 0
def PySem.W.Fast.tw534498570649694164 : Nat := 0
def PySem.W.Fast.tw16234899076051389068 : Nat := 0
def PySem.W.Fast.tw8784843876551958938 : Nat := 0
def PySem.W.Fast.tw8955757339347485838 : Nat := 0
def PySem.W.Fast.tw3737354326061849005 : Nat := 0
def PySem.W.Fast.tw2542660168888137848 : Nat := 0
def PySem.W.Fast.tw5059260232298766244 : Nat := 0
def PySem.W.Fast.tw18182371940563177137 : Nat := 0
def PySem.W.Fast.tw615142692483004036 : Nat := 0
def PySem.W.Fast.tw16101388582249706820 : Nat := 0
def PySem.W.Fast.tw9981657179055366230 : Nat := 0
open PySem PySem.W PyProof.Rows
set_option maxRecDepth 100000 in
set_option maxHeartbeats 0 in
theorem PySem.Challenge.cw_smalltongue_s02_pr_run_holds : PySem.Challenge.rw_smalltongue_s02_pr_run.Holds := by
  w_on; k_headS; (case hw => exact ⟨[.int 0, .list [], .list []], by decide +kernel, by decide +kernel⟩)
  k_fillS
  refine SM.walk_specW (r := PySem.Challenge.rw_smalltongue_s02_pr_run) (k := 203) (ps := ["steps", "t", "g"]) (sp := SM.spPrRun) (by decide +kernel) rfl rfl ⟨rfl, by decide, by decide⟩ (fun w h Y => PySem.W.kIn_of Y) ?F ?S
  case F =>
    intro w mg fa h Y KX G hmg
    obtain ⟨f_letter, fd_letter, D_letter⟩ : ∃ f fd, SM.Dn _ mg "is_letter" SM.sLetter ["byte"] f fd := by
      refine' SM.dn_mk KX G ?a ?l ?c ?k (fun _ _ _ _ _ _ us hl => match us, hl with | [_], _ => rfl)
      (case a => k_is); (case l => k_is); (case c => k_is); (case k => k_is)
    obtain ⟨f_digit, fd_digit, D_digit⟩ : ∃ f fd, SM.Dn _ mg "is_digit" SM.sDigit ["byte"] f fd := by
      refine' SM.dn_mk KX G ?a ?l ?c ?k (fun _ _ _ _ _ _ us hl => match us, hl with | [_], _ => rfl)
      (case a => k_is); (case l => k_is); (case c => k_is); (case k => k_is)
    obtain ⟨f_nameB, fd_nameB, D_nameB⟩ : ∃ f fd, SM.Dn _ mg "is_name_byte" SM.sNameB ["byte"] f fd := by
      refine' SM.dn_mk KX G ?a ?l ?c ?k (fun _ _ _ _ _ _ us hl => match us, hl with | [_], _ => rfl)
      (case a => k_is); (case l => k_is); (case c => k_is); (case k => k_is)
    obtain ⟨f_commentE, fd_commentE, D_commentE⟩ : ∃ f fd, SM.Dn _ mg "comment_end" SM.sCommentE ["t", "start"] f fd := by
      refine' SM.dn_mk KX G ?a ?l ?c ?k (fun _ _ _ _ _ _ us hl => match us, hl with | [_, _], _ => rfl)
      (case a => k_is); (case l => k_is); (case c => k_is); (case k => k_is)
    obtain ⟨f_nameE, fd_nameE, D_nameE⟩ : ∃ f fd, SM.Dn _ mg "name_end" SM.sNameE ["t", "start"] f fd := by
      refine' SM.dn_mk KX G ?a ?l ?c ?k (fun _ _ _ _ _ _ us hl => match us, hl with | [_, _], _ => rfl)
      (case a => k_is); (case l => k_is); (case c => k_is); (case k => k_is)
    obtain ⟨f_numberE, fd_numberE, D_numberE⟩ : ∃ f fd, SM.Dn _ mg "number_end" SM.sNumberE ["t", "start"] f fd := by
      refine' SM.dn_mk KX G ?a ?l ?c ?k (fun _ _ _ _ _ _ us hl => match us, hl with | [_, _], _ => rfl)
      (case a => k_is); (case l => k_is); (case c => k_is); (case k => k_is)
    obtain ⟨f_signE, fd_signE, D_signE⟩ : ∃ f fd, SM.Dn _ mg "sign_end" SM.sSignE ["t", "start"] f fd := by
      refine' SM.dn_mk KX G ?a ?l ?c ?k (fun _ _ _ _ _ _ us hl => match us, hl with | [_, _], _ => rfl)
      (case a => k_is); (case l => k_is); (case c => k_is); (case k => k_is)
    obtain ⟨f_tokenE, fd_tokenE, D_tokenE⟩ : ∃ f fd, SM.Dn _ mg "token_end" SM.sTokenE ["t", "start"] f fd := by
      refine' SM.dn_mk KX G ?a ?l ?c ?k (fun _ _ _ _ _ _ us hl => match us, hl with | [_, _], _ => rfl)
      (case a => k_is); (case l => k_is); (case c => k_is); (case k => k_is)
    obtain ⟨f_letterOf, fd_letterOf, D_letterOf⟩ : ∃ f fd, SM.Dn _ mg "letter_of" SM.sLetterOf ["byte"] f fd := by
      refine' SM.dn_mk KX G ?a ?l ?c ?k (fun _ _ _ _ _ _ us hl => match us, hl with | [_], _ => rfl)
      (case a => k_is); (case l => k_is); (case c => k_is); (case k => k_is)
    obtain ⟨f_spell, fd_spell, D_spell⟩ : ∃ f fd, SM.Dn _ mg "spell" SM.sSpell ["piece"] f fd := by
      refine' SM.dn_mk KX G ?a ?l ?c ?k (fun _ _ _ _ _ _ us hl => match us, hl with | [_], _ => rfl)
      (case a => k_is); (case l => k_is); (case c => k_is); (case k => k_is)
    obtain ⟨f_nameT, fd_nameT, D_nameT⟩ : ∃ f fd, SM.Dn _ mg "name_token" SM.sNameT ["piece"] f fd := by
      refine' SM.dn_mk KX G ?a ?l ?c ?k (fun _ _ _ _ _ _ us hl => match us, hl with | [_], _ => rfl)
      (case a => k_is); (case l => k_is); (case c => k_is); (case k => k_is)
    obtain ⟨f_numberT, fd_numberT, D_numberT⟩ : ∃ f fd, SM.Dn _ mg "number_token" SM.sNumberT ["piece"] f fd := by
      refine' SM.dn_mk KX G ?a ?l ?c ?k (fun _ _ _ _ _ _ us hl => match us, hl with | [_], _ => rfl)
      (case a => k_is); (case l => k_is); (case c => k_is); (case k => k_is)
    obtain ⟨f_signT, fd_signT, D_signT⟩ : ∃ f fd, SM.Dn _ mg "sign_token" SM.sSignT ["piece"] f fd := by
      refine' SM.dn_mk KX G ?a ?l ?c ?k (fun _ _ _ _ _ _ us hl => match us, hl with | [_], _ => rfl)
      (case a => k_is); (case l => k_is); (case c => k_is); (case k => k_is)
    obtain ⟨f_tokenOf, fd_tokenOf, D_tokenOf⟩ : ∃ f fd, SM.Dn _ mg "token_of" SM.sTokenOf ["piece"] f fd := by
      refine' SM.dn_mk KX G ?a ?l ?c ?k (fun _ _ _ _ _ _ us hl => match us, hl with | [_], _ => rfl)
      (case a => k_is); (case l => k_is); (case c => k_is); (case k => k_is)
    obtain ⟨f_part, fd_part, D_part⟩ : ∃ f fd, SM.Dn _ mg "part" SM.sPart ["t"] f fd := by
      refine' SM.dn_mk KX G ?a ?l ?c ?k (fun _ _ _ _ _ _ us hl => match us, hl with | [_], _ => rfl)
      (case a => k_is); (case l => k_is); (case c => k_is); (case k => k_is)
    obtain ⟨f_deeper, fd_deeper, D_deeper⟩ : ∃ f fd, SM.Dn _ mg "deeper" SM.sDeeper ["deep"] f fd := by
      refine' SM.dn_mk KX G ?a ?l ?c ?k (fun _ _ _ _ _ _ us hl => match us, hl with | [_], _ => rfl)
      (case a => k_is); (case l => k_is); (case c => k_is); (case k => k_is)
    obtain ⟨f_block, fd_block, D_block⟩ : ∃ f fd, SM.Dn _ mg "read_block" SM.sBlock ["reader", "deep"] f fd := by
      refine' SM.dn_mk KX G ?a ?l ?c ?k (fun _ _ _ _ _ _ us hl => match us, hl with | [_, _], _ => rfl)
      (case a => k_is); (case l => k_is); (case c => k_is); (case k => k_is)
    obtain ⟨f_stmt, fd_stmt, D_stmt⟩ : ∃ f fd, SM.Dn _ mg "read_statement" SM.sStmt ["reader", "deep"] f fd := by
      refine' SM.dn_mk KX G ?a ?l ?c ?k (fun _ _ _ _ _ _ us hl => match us, hl with | [_, _], _ => rfl)
      (case a => k_is); (case l => k_is); (case c => k_is); (case k => k_is)
    obtain ⟨f_let, fd_let, D_let⟩ : ∃ f fd, SM.Dn _ mg "read_let" SM.sLet ["reader", "deep"] f fd := by
      refine' SM.dn_mk KX G ?a ?l ?c ?k (fun _ _ _ _ _ _ us hl => match us, hl with | [_, _], _ => rfl)
      (case a => k_is); (case l => k_is); (case c => k_is); (case k => k_is)
    obtain ⟨f_named, fd_named, D_named⟩ : ∃ f fd, SM.Dn _ mg "read_named" SM.sNamed ["reader", "deep"] f fd := by
      refine' SM.dn_mk KX G ?a ?l ?c ?k (fun _ _ _ _ _ _ us hl => match us, hl with | [_, _], _ => rfl)
      (case a => k_is); (case l => k_is); (case c => k_is); (case k => k_is)
    obtain ⟨f_if, fd_if, D_if⟩ : ∃ f fd, SM.Dn _ mg "read_if" SM.sIf ["reader", "deep"] f fd := by
      refine' SM.dn_mk KX G ?a ?l ?c ?k (fun _ _ _ _ _ _ us hl => match us, hl with | [_, _], _ => rfl)
      (case a => k_is); (case l => k_is); (case c => k_is); (case k => k_is)
    obtain ⟨f_while, fd_while, D_while⟩ : ∃ f fd, SM.Dn _ mg "read_while" SM.sWhile ["reader", "deep", "start"] f fd := by
      refine' SM.dn_mk KX G ?a ?l ?c ?k (fun _ _ _ _ _ _ us hl => match us, hl with | [_, _, _], _ => rfl)
      (case a => k_is); (case l => k_is); (case c => k_is); (case k => k_is)
    obtain ⟨f_call, fd_call, D_call⟩ : ∃ f fd, SM.Dn _ mg "read_call" SM.sCall ["reader", "name", "deep"] f fd := by
      refine' SM.dn_mk KX G ?a ?l ?c ?k (fun _ _ _ _ _ _ us hl => match us, hl with | [_, _, _], _ => rfl)
      (case a => k_is); (case l => k_is); (case c => k_is); (case k => k_is)
    obtain ⟨f_expr, fd_expr, D_expr⟩ : ∃ f fd, SM.Dn _ mg "read_expr" SM.sExpr ["reader", "deep"] f fd := by
      refine' SM.dn_mk KX G ?a ?l ?c ?k (fun _ _ _ _ _ _ us hl => match us, hl with | [_, _], _ => rfl)
      (case a => k_is); (case l => k_is); (case c => k_is); (case k => k_is)
    obtain ⟨f_sum, fd_sum, D_sum⟩ : ∃ f fd, SM.Dn _ mg "read_sum" SM.sSum ["reader", "deep"] f fd := by
      refine' SM.dn_mk KX G ?a ?l ?c ?k (fun _ _ _ _ _ _ us hl => match us, hl with | [_, _], _ => rfl)
      (case a => k_is); (case l => k_is); (case c => k_is); (case k => k_is)
    obtain ⟨f_term, fd_term, D_term⟩ : ∃ f fd, SM.Dn _ mg "read_term" SM.sTerm ["reader", "deep"] f fd := by
      refine' SM.dn_mk KX G ?a ?l ?c ?k (fun _ _ _ _ _ _ us hl => match us, hl with | [_, _], _ => rfl)
      (case a => k_is); (case l => k_is); (case c => k_is); (case k => k_is)
    obtain ⟨f_factor, fd_factor, D_factor⟩ : ∃ f fd, SM.Dn _ mg "read_factor" SM.sFactor ["reader", "deep"] f fd := by
      refine' SM.dn_mk KX G ?a ?l ?c ?k (fun _ _ _ _ _ _ us hl => match us, hl with | [_, _], _ => rfl)
      (case a => k_is); (case l => k_is); (case c => k_is); (case k => k_is)
    obtain ⟨f_name, fd_name, D_name⟩ : ∃ f fd, SM.Dn _ mg "read_name" SM.sName ["reader", "deep"] f fd := by
      refine' SM.dn_mk KX G ?a ?l ?c ?k (fun _ _ _ _ _ _ us hl => match us, hl with | [_, _], _ => rfl)
      (case a => k_is); (case l => k_is); (case c => k_is); (case k => k_is)
    obtain ⟨f_par, fd_par, D_par⟩ : ∃ f fd, SM.Dn _ mg "read_parameters" SM.sPar ["reader"] f fd := by
      refine' SM.dn_mk KX G ?a ?l ?c ?k (fun _ _ _ _ _ _ us hl => match us, hl with | [_], _ => rfl)
      (case a => k_is); (case l => k_is); (case c => k_is); (case k => k_is)
    obtain ⟨f_fun, fd_fun, D_fun⟩ : ∃ f fd, SM.Dn _ mg "read_function" SM.sFun ["reader"] f fd := by
      refine' SM.dn_mk KX G ?a ?l ?c ?k (fun _ _ _ _ _ _ us hl => match us, hl with | [_], _ => rfl)
      (case a => k_is); (case l => k_is); (case c => k_is); (case k => k_is)
    obtain ⟨f_prog, fd_prog, D_prog⟩ : ∃ f fd, SM.Dn _ mg "read_program" SM.sProg ["tokens"] f fd := by
      refine' SM.dn_mk KX G ?a ?l ?c ?k (fun _ _ _ _ _ _ us hl => match us, hl with | [_], _ => rfl)
      (case a => k_is); (case l => k_is); (case c => k_is); (case k => k_is)
    obtain ⟨f_cc, fd_cc, D_cc⟩ : ∃ f fd, SM.Dn _ mg "check_call" SM.sCCall ["name", "count", "counts"] f fd := by
      refine' SM.dn_mk KX G ?a ?l ?c ?k (fun _ _ _ _ _ _ us hl => match us, hl with | [_, _, _], _ => rfl)
      (case a => k_is); (case l => k_is); (case c => k_is); (case k => k_is)
    obtain ⟨f_cf, fd_cf, D_cf⟩ : ∃ f fd, SM.Dn _ mg "check_function" SM.sCF ["function", "counts"] f fd := by
      refine' SM.dn_mk KX G ?a ?l ?c ?k (fun _ _ _ _ _ _ us hl => match us, hl with | [_, _], _ => rfl)
      (case a => k_is); (case l => k_is); (case c => k_is); (case k => k_is)
    obtain ⟨f_pc, fd_pc, D_pc⟩ : ∃ f fd, SM.Dn _ mg "parameter_counts" SM.sPC ["functions"] f fd := by
      refine' SM.dn_mk KX G ?a ?l ?c ?k (fun _ _ _ _ _ _ us hl => match us, hl with | [_], _ => rfl)
      (case a => k_is); (case l => k_is); (case c => k_is); (case k => k_is)
    obtain ⟨f_cr, fd_cr, D_cr⟩ : ∃ f fd, SM.Dn _ mg "check_right" SM.sCR ["functions"] f fd := by
      refine' SM.dn_mk KX G ?a ?l ?c ?k (fun _ _ _ _ _ _ us hl => match us, hl with | [_], _ => rfl)
      (case a => k_is); (case l => k_is); (case c => k_is); (case k => k_is)
    obtain ⟨f_tok, fd_tok, D_tok⟩ : ∃ f fd, SM.Dn _ mg "tokens_of" SM.sTok ["t"] f fd := by
      refine' SM.dn_mk KX G ?a ?l ?c ?k (fun _ _ _ _ _ _ us hl => match us, hl with | [_], _ => rfl)
      (case a => k_is); (case l => k_is); (case c => k_is); (case k => k_is)
    obtain ⟨f_fns, fd_fns, D_fns⟩ : ∃ f fd, SM.Dn _ mg "functions_of" SM.sFns ["tokens"] f fd := by
      refine' SM.dn_mk KX G ?a ?l ?c ?k (fun _ _ _ _ _ _ us hl => match us, hl with | [_], _ => rfl)
      (case a => k_is); (case l => k_is); (case c => k_is); (case k => k_is)
    obtain ⟨f_reading, fd_reading, D_reading⟩ : ∃ f fd, SM.Dn _ mg "reading_of" SM.sReading ["t"] f fd := by
      refine' SM.dn_mk KX G ?a ?l ?c ?k (fun _ _ _ _ _ _ us hl => match us, hl with | [_], _ => rfl)
      (case a => k_is); (case l => k_is); (case c => k_is); (case k => k_is)
    obtain ⟨f_inside, fd_inside, D_inside⟩ : ∃ f fd, SM.Dn _ mg "inside" SM.sInside ["number"] f fd := by
      refine' SM.dn_mk KX G ?a ?l ?c ?k (fun _ _ _ _ _ _ us hl => match us, hl with | [_], _ => rfl)
      (case a => k_is); (case l => k_is); (case c => k_is); (case k => k_is)
    obtain ⟨f_quotient, fd_quotient, D_quotient⟩ : ∃ f fd, SM.Dn _ mg "quotient" SM.sQuot ["left", "right"] f fd := by
      refine' SM.dn_mk KX G ?a ?l ?c ?k (fun _ _ _ _ _ _ us hl => match us, hl with | [_, _], _ => rfl)
      (case a => k_is); (case l => k_is); (case c => k_is); (case k => k_is)
    obtain ⟨f_one, fd_one, D_one⟩ : ∃ f fd, SM.Dn _ mg "reckon_one" SM.sOne ["sign", "number"] f fd := by
      refine' SM.dn_mk KX G ?a ?l ?c ?k (fun _ _ _ _ _ _ us hl => match us, hl with | [_, _], _ => rfl)
      (case a => k_is); (case l => k_is); (case c => k_is); (case k => k_is)
    obtain ⟨f_two, fd_two, D_two⟩ : ∃ f fd, SM.Dn _ mg "reckon_two" SM.sTwo ["sign", "left", "right"] f fd := by
      refine' SM.dn_mk KX G ?a ?l ?c ?k (fun _ _ _ _ _ _ us hl => match us, hl with | [_, _, _], _ => rfl)
      (case a => k_is); (case l => k_is); (case c => k_is); (case k => k_is)
    obtain ⟨f_byname, fd_byname, D_byname⟩ : ∃ f fd, SM.Dn _ mg "by_name" SM.sByName ["functions"] f fd := by
      refine' SM.dn_mk KX G ?a ?l ?c ?k (fun _ _ _ _ _ _ us hl => match us, hl with | [_], _ => rfl)
      (case a => k_is); (case l => k_is); (case c => k_is); (case k => k_is)
    obtain ⟨f_main, fd_main, D_main⟩ : ∃ f fd, SM.Dn _ mg "run_main" SM.sMain ["run"] f fd := by
      refine' SM.dn_mk KX G ?a ?l ?c ?k (fun _ _ _ _ _ _ us hl => match us, hl with | [_], _ => rfl)
      (case a => k_is); (case l => k_is); (case c => k_is); (case k => k_is)
    obtain ⟨f_work, fd_work, D_work⟩ : ∃ f fd, SM.Dn _ mg "work_off" SM.sWork ["run", "call", "order"] f fd := by
      refine' SM.dn_mk KX G ?a ?l ?c ?k (fun _ _ _ _ _ _ us hl => match us, hl with | [_, _, _], _ => rfl)
      (case a => k_is); (case l => k_is); (case c => k_is); (case k => k_is)
    obtain ⟨f_num, fd_num, D_num⟩ : ∃ f fd, SM.Dn _ mg "number_of" SM.sNum ["run", "call", "order"] f fd := by
      refine' SM.dn_mk KX G ?a ?l ?c ?k (fun _ _ _ _ _ _ us hl => match us, hl with | [_, _, _], _ => rfl)
      (case a => k_is); (case l => k_is); (case c => k_is); (case k => k_is)
    obtain ⟨f_begs, fd_begs, D_begs⟩ : ∃ f fd, SM.Dn _ mg "begin_statement" SM.sBegS ["run"] f fd := by
      refine' SM.dn_mk KX G ?a ?l ?c ?k (fun _ _ _ _ _ _ us hl => match us, hl with | [_], _ => rfl)
      (case a => k_is); (case l => k_is); (case c => k_is); (case k => k_is)
    obtain ⟨f_begc, fd_begc, D_begc⟩ : ∃ f fd, SM.Dn _ mg "begin_call" SM.sBegC ["run", "name"] f fd := by
      refine' SM.dn_mk KX G ?a ?l ?c ?k (fun _ _ _ _ _ _ us hl => match us, hl with | [_, _], _ => rfl)
      (case a => k_is); (case l => k_is); (case c => k_is); (case k => k_is)
    obtain ⟨f_ask, fd_ask, D_ask⟩ : ∃ f fd, SM.Dn _ mg "ask" SM.sAsk ["run"] f fd := by
      refine' SM.dn_mk KX G ?a ?l ?c ?k (fun _ _ _ _ _ _ us hl => match us, hl with | [_], _ => rfl)
      (case a => k_is); (case l => k_is); (case c => k_is); (case k => k_is)
    obtain ⟨f_ending, fd_ending, D_ending⟩ : ∃ f fd, SM.Dn _ mg "ending_of" SM.sEnd ["run"] f fd := by
      refine' SM.dn_mk KX G ?a ?l ?c ?k (fun _ _ _ _ _ _ us hl => match us, hl with | [_], _ => rfl)
      (case a => k_is); (case l => k_is); (case c => k_is); (case k => k_is)
    have G1 := (⟨PySem.W.ns_none_of KX G (by k_is), (by refine' SM.gi_mk KX G ?a; (case a => k_is)), (by refine' SM.gi_mk KX G ?a; (case a => k_is)), (by refine' SM.gi_mk KX G ?a; (case a => k_is)), (by refine' SM.gi_mk KX G ?a; (case a => k_is)), (by refine' SM.gi_mk KX G ?a; (case a => k_is)), (by refine' SM.gi_mk KX G ?a; (case a => k_is)), (by refine' SM.gi_mk KX G ?a; (case a => k_is)), (by refine' SM.gi_mk KX G ?a; (case a => k_is)), (by refine' SM.gi_mk KX G ?a; (case a => k_is)), (by refine' SM.gi_mk KX G ?a; (case a => k_is)), (by refine' SM.gi_mk KX G ?a; (case a => k_is)), (by refine' SM.gs_mk KX G ?a; (case a => k_is)), (by refine' SM.gs_mk KX G ?a; (case a => k_is))⟩ : SM.Gs mg)
    have G2 := (⟨(by refine' SM.gi_mk KX G ?a; (case a => k_is)), (by refine' SM.gi_mk KX G ?a; (case a => k_is)), (by refine' SM.gi_mk KX G ?a; (case a => k_is)), PySem.W.ns_none_of KX G (by k_is)⟩ : SM.Gs2 mg)
    have G3 := (⟨(by refine' SM.gi_mk KX G ?a; (case a => k_is)), (by refine' SM.gi_mk KX G ?a; (case a => k_is)), (by refine' SM.gi_mk KX G ?a; (case a => k_is)), (by refine' SM.gi_mk KX G ?a; (case a => k_is)), (by refine' SM.gi_mk KX G ?a; (case a => k_is)), (by refine' SM.gi_mk KX G ?a; (case a => k_is))⟩ : SM.Gs3 mg)
    obtain ⟨cTM, cNP, cNR, M, ⟨np, npD⟩, N, n1, n2, n3⟩ : ∃ cTM cNP cNR, SM.TM _ mg cTM /\ (mg "NoProgram" = some (.ref cNP) /\ L2.excD _ cNP = true) /\ SM.NR _ mg cNR /\ cNP ≠ cTM /\ cNR ≠ cTM /\ cNR ≠ cNP := by
      refine' SM.exc_mk KX G ?a1 ?a2 ?a3 ?q1 ?q2 ?q3 ?n1 ?n2 ?n3
      (case a1 => k_is); (case a2 => k_is); (case a3 => k_is)
      (case q1 => kernel_rfl); (case q2 => kernel_rfl); (case q3 => kernel_rfl)
      (case n1 => decide); (case n2 => decide); (case n3 => decide)
    obtain ⟨aW, aS, t1, t2, t3, t4⟩ : ∃ aW aS, mg "WORDS" = some (.ref aW) /\ (∀ H, L2.SqT _ H aW SM.wordsV) /\ mg "SIGNS" = some (.ref aS) /\ SM.KD _ aS SM.signsKV := by
      refine' SM.tab_mk KX G ?a1 ?a2 ?q1 ?q2 ?hs
      (case a1 => k_is); (case a2 => k_is); (case q1 => kernel_rfl); (case q2 => kernel_rfl); (case hs => decide)
    have B : SM.Tb _ mg cNP aW aS := ⟨np, npD, t1, t2, t3, t4⟩
    obtain ⟨cR, fK, fT, fM, fdK, fdT, fdM, fRI, fdRI, fJ, fL, fdJ, fdL, T, CR, T2⟩ : ∃ cR fK fT fM fdK fdT fdM fI fdI fJ fL fdJ fdL, SM.RC _ cR fK fT fM fdK fdT fdM /\ SM.CI _ mg cR fI fdI "Reader" "Reader.__init__" SM.sRInit ["self", "tokens"] /\ SM.RC2 _ cR fJ fL fdJ fdL := by
      refine' SM.reader_mk KX G ?pg ?hd ?po ?sa ?n1 ?n2 ?n3 (SM.init_mk KX G ?aC ?a0 ?i0 ?l0 ?c0 ?k0 ?mk ?kc (fun _ _ _ _ _ _ us hl => match us, hl with | [_, _], _ => rfl)) (SM.meth_mk ?a1 ?i1 ?l1 ?c1 ?k1 (fun _ _ _ _ _ _ us hl => match us, hl with | [_], _ => rfl)) (SM.meth_mk ?a2 ?i2 ?l2 ?c2 ?k2 (fun _ _ _ _ _ _ us hl => match us, hl with | [_, _], _ => rfl)) (SM.meth_mk ?a3 ?i3 ?l3 ?c3 ?k3 (fun _ _ _ _ _ _ us hl => match us, hl with | [_, _, _, _], _ => rfl)) (SM.meth_mk ?a4 ?i4 ?l4 ?c4 ?k4 (fun _ _ _ _ _ _ us hl => match us, hl with | [_, _], _ => rfl)) (SM.meth_mk ?a5 ?i5 ?l5 ?c5 ?k5 (fun _ _ _ _ _ _ us hl => match us, hl with | [_, _], _ => rfl))
      (case aC => k_is); (case pg => k_is); (case hd => k_is); (case po => k_is); (case sa => k_is); (case n1 => k_is); (case n2 => k_is); (case n3 => k_is); (case a0 => k_is); (case i0 => k_is); (case l0 => k_is); (case c0 => k_is); (case k0 => k_is); (case mk => k_is); (case kc => k_is); (case a1 => k_is); (case i1 => k_is); (case l1 => k_is); (case c1 => k_is); (case k1 => k_is); (case a2 => k_is); (case i2 => k_is); (case l2 => k_is); (case c2 => k_is); (case k2 => k_is); (case a3 => k_is); (case i3 => k_is); (case l3 => k_is); (case c3 => k_is); (case k3 => k_is); (case a4 => k_is); (case i4 => k_is); (case l4 => k_is); (case c4 => k_is); (case k4 => k_is); (case a5 => k_is); (case i5 => k_is); (case l5 => k_is); (case c5 => k_is); (case k5 => k_is)
    obtain ⟨cF, fFI, fdFI, F, CF⟩ : ∃ cF fI fdI, SM.FC _ cF /\ SM.CI _ mg cF fI fdI "Function" "Function.__init__" SM.sFInit ["self", "name", "parameters", "orders"] := by
      refine' SM.function_mk KX G ?pg ?hd ?po ?sa ?n1 ?n2 ?n3 (SM.init_mk KX G ?aC ?a0 ?i0 ?l0 ?c0 ?k0 ?mk ?kc (fun _ _ _ _ _ _ us hl => match us, hl with | [_, _, _, _], _ => rfl))
      (case aC => k_is); (case pg => k_is); (case hd => k_is); (case po => k_is); (case sa => k_is); (case n1 => k_is); (case n2 => k_is); (case n3 => k_is); (case a0 => k_is); (case i0 => k_is); (case l0 => k_is); (case c0 => k_is); (case k0 => k_is); (case mk => k_is); (case kc => k_is)
    obtain ⟨cD, fDI, fdDI, CD, CDI⟩ : ∃ cD fI fdI, SM.DC _ cD /\ SM.CI _ mg cD fI fdI "Reading" "Reading.__init__" SM.sRdInit ["self", "refusal", "tokens", "functions"] := by
      refine' SM.reading_mk KX G ?pg ?hd ?po ?sa ?n1 ?n2 ?n3 (SM.init_mk KX G ?aC ?a0 ?i0 ?l0 ?c0 ?k0 ?mk ?kc (fun _ _ _ _ _ _ us hl => match us, hl with | [_, _, _, _], _ => rfl))
      (case aC => k_is); (case pg => k_is); (case hd => k_is); (case po => k_is); (case sa => k_is); (case n1 => k_is); (case n2 => k_is); (case n3 => k_is); (case a0 => k_is); (case i0 => k_is); (case l0 => k_is); (case c0 => k_is); (case k0 => k_is); (case mk => k_is); (case kc => k_is)
    obtain ⟨cS, fB, fE, fTl, fU, fdB, fdE, fdTl, fdU, fSI, fdSI, C, CSc⟩ : ∃ cS fB fE fT fU fdB fdE fdT fdU fI fdI, SM.SC _ cS fB fE fT fU fdB fdE fdT fdU /\ SM.CI _ mg cS fI fdI "Scope" "Scope.__init__" SM.sSInit ["self"] := by
      refine' SM.scope_mk KX G ?pg ?hd ?po ?sa ?n1 ?n2 (SM.init_mk KX G ?aC ?a0 ?i0 ?l0 ?c0 ?k0 ?mk ?kc (fun _ _ _ _ _ _ us hl => match us, hl with | [_], _ => rfl)) (SM.meth_mk ?a1 ?i1 ?l1 ?c1 ?k1 (fun _ _ _ _ _ _ us hl => match us, hl with | [_], _ => rfl)) (SM.meth_mk ?a2 ?i2 ?l2 ?c2 ?k2 (fun _ _ _ _ _ _ us hl => match us, hl with | [_], _ => rfl)) (SM.meth_mk ?a3 ?i3 ?l3 ?c3 ?k3 (fun _ _ _ _ _ _ us hl => match us, hl with | [_, _], _ => rfl)) (SM.meth_mk ?a4 ?i4 ?l4 ?c4 ?k4 (fun _ _ _ _ _ _ us hl => match us, hl with | [_, _], _ => rfl))
      (case aC => k_is); (case pg => k_is); (case hd => k_is); (case po => k_is); (case sa => k_is); (case n1 => k_is); (case n2 => k_is); (case a0 => k_is); (case i0 => k_is); (case l0 => k_is); (case c0 => k_is); (case k0 => k_is); (case mk => k_is); (case kc => k_is); (case a1 => k_is); (case i1 => k_is); (case l1 => k_is); (case c1 => k_is); (case k1 => k_is); (case a2 => k_is); (case i2 => k_is); (case l2 => k_is); (case c2 => k_is); (case k2 => k_is); (case a3 => k_is); (case i3 => k_is); (case l3 => k_is); (case c3 => k_is); (case k3 => k_is); (case a4 => k_is); (case i4 => k_is); (case l4 => k_is); (case c4 => k_is); (case k4 => k_is)
    have q : SM.Sn _ mg := ⟨f_letter, fd_letter, D_letter, f_digit, fd_digit, D_digit, f_nameB, fd_nameB, D_nameB, f_commentE, fd_commentE, D_commentE, f_nameE, fd_nameE, D_nameE, f_numberE, fd_numberE, D_numberE, f_signE, fd_signE, D_signE, f_tokenE, fd_tokenE, D_tokenE, f_letterOf, fd_letterOf, D_letterOf, f_spell, fd_spell, D_spell, f_nameT, fd_nameT, D_nameT, f_numberT, fd_numberT, D_numberT, f_signT, fd_signT, D_signT, f_tokenOf, fd_tokenOf, D_tokenOf, f_part, fd_part, D_part⟩
    have p : SM.Pr _ mg := ⟨f_deeper, fd_deeper, D_deeper, f_block, fd_block, D_block, f_stmt, fd_stmt, D_stmt, f_let, fd_let, D_let, f_named, fd_named, D_named, f_if, fd_if, D_if, f_while, fd_while, D_while, f_call, fd_call, D_call, f_expr, fd_expr, D_expr, f_sum, fd_sum, D_sum, f_term, fd_term, D_term, f_factor, fd_factor, D_factor, f_name, fd_name, D_name⟩
    have G5 := (⟨(by refine' SM.gi_mk KX G ?a; (case a => k_is)), (by refine' SM.gi_mk KX G ?a; (case a => k_is)), (by refine' SM.gi_mk KX G ?a; (case a => k_is)), (by refine' SM.gi_mk KX G ?a; (case a => k_is)), (by refine' SM.gi_mk KX G ?a; (case a => k_is)), PySem.W.ns_none_of KX G (by k_is), PySem.W.ns_none_of KX G (by k_is)⟩ : SM.Gs5 mg)
    have G6 := (⟨(by refine' SM.gi_mk KX G ?a; (case a => k_is)), (by refine' SM.gi_mk KX G ?a; (case a => k_is)), (by refine' SM.gi_mk KX G ?a; (case a => k_is)), (by refine' SM.gi_mk KX G ?a; (case a => k_is))⟩ : SM.Gs6 mg)
    obtain ⟨cZ, cO, cN, cC, X, m1, m2, m3, m4, m5, m6⟩ : ∃ cZ cO cS cC, SM.XR _ mg cZ cO cS cC /\ cO ≠ cZ /\ cS ≠ cZ /\ cS ≠ cO /\ cC ≠ cZ /\ cC ≠ cO /\ cC ≠ cS := by
      refine' SM.xr_mk KX G ?a1 ?a2 ?a3 ?a4 ?q1 ?q2 ?q3 ?q4 ?n1 ?n2 ?n3 ?n4 ?n5 ?n6
      (case a1 => k_is); (case a2 => k_is); (case a3 => k_is); (case a4 => k_is)
      (case q1 => kernel_rfl); (case q2 => kernel_rfl); (case q3 => kernel_rfl); (case q4 => kernel_rfl)
      (case n1 => decide); (case n2 => decide); (case n3 => decide); (case n4 => decide); (case n5 => decide); (case n6 => decide)
    obtain ⟨cRn, fNI, fdNI, RN, RNI⟩ : ∃ cRn fI fdI, SM.RunC _ cRn /\ SM.CI _ mg cRn fI fdI "Run" "Run.__init__" SM.sRnInit ["self", "functions", "steps", "g"] := by
      refine' SM.rn_mk KX G ?pg ?hd ?po ?sa ?n1 ?n2 ?n3 ?n4 ?n5 ?n6 ?n7 (SM.init_mk KX G ?aC ?a0 ?i0 ?l0 ?c0 ?k0 ?mk ?kc (fun _ _ _ _ _ _ us hl => match us, hl with | [_, _, _, _], _ => rfl))
      (case aC => k_is); (case pg => k_is); (case hd => k_is); (case po => k_is); (case sa => k_is); (case n1 => k_is); (case n2 => k_is); (case n3 => k_is); (case n4 => k_is); (case n5 => k_is); (case n6 => k_is); (case n7 => k_is); (case a0 => k_is); (case i0 => k_is); (case l0 => k_is); (case c0 => k_is); (case k0 => k_is); (case mk => k_is); (case kc => k_is)
    obtain ⟨cL, fLI, fdLI, CL, CLI⟩ : ∃ cL fI fdI, SM.CallC _ cL /\ SM.CI _ mg cL fI fdI "Call" "Call.__init__" SM.sCInit ["self", "orders"] := by
      refine' SM.cl_mk KX G ?pg ?hd ?po ?sa ?n1 ?n2 ?n3 (SM.init_mk KX G ?aC ?a0 ?i0 ?l0 ?c0 ?k0 ?mk ?kc (fun _ _ _ _ _ _ us hl => match us, hl with | [_, _], _ => rfl))
      (case aC => k_is); (case pg => k_is); (case hd => k_is); (case po => k_is); (case sa => k_is); (case n1 => k_is); (case n2 => k_is); (case n3 => k_is); (case a0 => k_is); (case i0 => k_is); (case l0 => k_is); (case c0 => k_is); (case k0 => k_is); (case mk => k_is); (case kc => k_is)
    refine' SM.run_mk KX G hmg ?a ?l ?c ?k ?z
    (case a => k_is); (case l => k_is); (case c => k_is); (case k => k_is)
    intro fd D base
    exact SM.assembleX G1 G5 G6 X m1 m2 m3 m4 m5 m6 F CD RN RNI CL CLI D_inside D_quotient D_one D_two D_byname D_main D_work D_num D_begs D_begc D_ask D_ending D_reading D (SM.assembleR G1 G2 G3 B M N n1 n2 n3 T T2 CR F CF C CSc q p D_par D_fun D_prog D_cc D_cf D_pc D_cr D_tok D_fns D_reading CD CDI)
  case S =>
    intro K H xs a hO hwi hask hx
    cases hx with
    | cons h1 hx =>
      cases hx with
      | cons h2 hx =>
        cases hx with
        | cons h3 hx =>
          cases hx
          cases h1
          cases h2 with
          | lst hs ha =>
            cases h3 with
            | lst hgs hga =>
              have e := L2.ints_dw a.2.1 _ ha
              subst e
              have e := L2.ints_dw a.2.2.1 _ hga
              subst e
              have q : (Codec.inInt 0 400 a.1 && ((Codec.inLen 0 8200 a.2.1 && a.2.1.all (Codec.inInt 0 255)) && ((Codec.inLen 0 4000 a.2.2.1 && a.2.2.1.all (Codec.inInt (-9223372036854775808) 9223372036854775807)) && true))) = true := hwi
              simp only [Bool.and_eq_true] at q
              obtain ⟨q1, ⟨_, q2⟩, ⟨_, q3⟩, _⟩ := q
              have hst := Codec.inInt_iff.mp q1
              have hb : ∀ n ∈ a.2.1, 0 <= n := fun n hn => (Codec.inInt_iff.mp (List.all_eq_true.mp q2 n hn)).1
              have hg : ∀ n ∈ a.2.2.1, SM.In64 n := fun n hn => Codec.inInt_iff.mp (List.all_eq_true.mp q3 n hn)
              have e1 : ((a.1.toNat : Nat) : Int) = a.1 := Int.toNat_of_nonneg hst.1
              refine ⟨_, _, a.1.toNat, a.2.1.map Int.toNat, a.2.2.1, by rw [e1], by omega, by rw [SM.bv_of hb]; exact hs, hgs, hg, fun H' p hp => ?_⟩
              rw [<- SM.runL_eq] at hp
              exact .lst (L2.qZ.of hp) (L2.dw_ints _)
