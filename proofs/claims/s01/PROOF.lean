import PyProof.Rows.All
import Wide.All
import OpenK.AllK
import Wide.FinOn
import PyProof.EqAt
import PyProof.EqKinds
import PyProof.TupleCall
import KE.BitLaws
import PySem.SetTable
import PySem.SetOps
import KE.KMinBuiltin
import KE.KDictList
import PyProof.ListRange
import KE.IntBitsLaws
import KE.KLam
import KE.KMinKey
import KE.KSortTupUse
import Open.SpecLaws
import KE.OsHead
import KE.OsGo
import KE.KNest
import PollSpec
import PySem.Challenge.RW0_orderpolls_s01_answers
import PyWrpoll
import PySem.Challenge.RW_orderpolls_s01_answers
set_option Elab.async false
set_option linter.all false
set_option maxRecDepth 100000
set_option maxHeartbeats 4000000
namespace PySem.W
inductive Fast
|tw15798469388126706467
|tw9101420291998632513
|tw14606002504079663163
|tw16506606371229854405
|tw682386653668527472
|tw2293568393512666888
|tw1644968922114265556
|tw12369150621490622984
|tw14969772211736510482
|tw2303313392937713679
|tw6853573739805002017
|tw8221044861883427806
|tw18445374490035133354
|tw6375846254472576800
|tw15350056507542235319
|tw2595383014780974851
|tw14643886098907707955
|tw15842539030564610482
|tw15577843343500695092
|tw16852196568725235180
|tw11609381438990342592
|tw17859825115904361989
|tw14072314223024465835
|tw9691283336051267892
|tw14657329854716854753
|tw9954678601673328905
|tw13862649427088401593
|tw12203860167538847009
|tw8187166336699703408
|tw11794768580780492771
|tw10277302096016271571
|tw12295232716876426469
|tw8400313605377104646
|tw9701426652574977518
|tw16545102811481592164
|tw14188542081557587082
|tw15769316382280467298
|tw6049638595317250893
|tw6882089415655090517
|tw13317233458333693494
|tw4549345074346413375
|tw9906992904716683798
|tw14094299187992478168
|tw6223721858046377783
|tw3249114124603341510
|tw3521302315851233526
|tw6264463295405177347
|tw5739774186508275651
|tw5682296617108354097
|tw17464281976951467455
|tw9053823457435093113
|tw6923838613007192494
|tw16536598692645004089
|tw14166880519260732900
|tw7999579475689073697
|tw8835086564555748502
|tw16726120616407355120
|tw15537935859062361848
|tw6447022399217085925
|tw17111787263715302071
|tw9748126650525837650
|tw18195012507425246518
|tw8032423251204816692
|tw289485571442456418
|tw15081302124233157579
|tw5500914861398189106
|tw5421498090243889287
|tw3405236113419137150
|tw9062000587540856220
|tw1491057604393383249
|tw15622352462760995052
|tw17102653777605215442
|tw14243711598628811812
|tw4939980312224828676
|tw12023842476749406435
|tw7609905594616065315
|tw17109380599930396670
|tw1649072062626960510
|tw4469477816483009349
|tw10903693434624472018
|tw9798894218677184612
|tw7282448577881967698
|tw4195746933038977727
|tw14217399916972700552
|tw17768106140038082846
|tw1024874728605400838
|tw15829043618644615989
|tw7759627396265108640
|tw15131823045218965993
end PySem.W
namespace L2
open PySem PySem.Spec PyProof.Rows
abbrev Key := Sum Int Str
def keyIs : Key → Value → Bool
 | .inl k, v => Value.isInt k v
 | .inr x, v => Value.isStrOf x v
def keyH (w : World) : Key → Int
 | .inl k => hashInt k
 | .inr x => hashStr w x
theorem keyIs_shape : ∀ {k : Key} {v : Value}, keyIs k v = true → (∃ i t, k = Sum.inl i ∧ v = Value.int i t) ∨ (∃ x t, k = Sum.inr x ∧ v = Value.str x t)
 | .inl i, v, h => by
  obtain ⟨t, e⟩ := Value.isInt_shape (k := i) (v := v) h
  exact .inl ⟨i, t, rfl, e⟩
 | .inr x, v, h => by
  obtain ⟨t, e⟩ := Value.isStrOf_shape (x := x) (v := v) h
  exact .inr ⟨x, t, rfl, e⟩
theorem keyIs_int (i : Int) (t : Tok) : keyIs (.inl i) (.int i t) = true := by simp [keyIs, Value.isInt]
theorem keyIs_str (x : Str) (t : Tok) : keyIs (.inr x) (.str x t) = true := by simp [keyIs, Value.isStrOf]
theorem key_ll (a b : Int) : decide ((Sum.inl a : Key) = Sum.inl b) = (a == b) := by
 by_cases e : a = b
 ·subst e; simp
 ·have h : ¬ (Sum.inl a : Key) = Sum.inl b := fun q => e (Sum.inl.inj q)
  rw [decide_eq_false h]
  exact (beq_eq_false_iff_ne.mpr e).symm
theorem key_rr (a b : Str) : decide ((Sum.inr a : Key) = Sum.inr b) = decide (a = b) := by
 by_cases e : a = b
 ·subst e; simp
 ·have h : ¬ (Sum.inr a : Key) = Sum.inr b := fun q => e (Sum.inr.inj q)
  rw [decide_eq_false h, decide_eq_false e]
theorem key_lr (a : Int) (b : Str) : decide ((Sum.inl a : Key) = Sum.inr b) = false := decide_eq_false (fun q => nomatch q)
theorem key_rl (a : Str) (b : Int) : decide ((Sum.inr a : Key) = Sum.inl b) = false := decide_eq_false (fun q => nomatch q)
def mixKind (prog : Program) (w : World) : PySem.KeyKind prog w Key where
 is := keyIs
 hash := keyH w
 inj := fun v a b ha hb => by
  rcases keyIs_shape ha with ⟨i, t, rfl, rfl⟩ | ⟨x, t, rfl, rfl⟩
  ·rcases keyIs_shape hb with ⟨j, u, rfl, e⟩ | ⟨y, u, rfl, e⟩
   ·injection e with e1 _; rw [e1]
   ·exact nomatch e
  ·rcases keyIs_shape hb with ⟨j, u, rfl, e⟩ | ⟨y, u, rfl, e⟩
   ·exact nomatch e
   ·injection e with e1 _; rw [e1]
 byValue := fun k v h => by
  rcases keyIs_shape h with ⟨i, t, rfl, rfl⟩ | ⟨x, t, rfl, rfl⟩ <;> rfl
 pyHash := fun hv h => by
  rcases keyIs_shape hv with ⟨i, t, rfl, rfl⟩ | ⟨x, t, rfl, rfl⟩
  ·exact wpAny_pyHash_int h
  ·exact wpAny_pyHash_str h
 eqBool := fun hu hv h => by
  rcases keyIs_shape hu with ⟨i, t, rfl, rfl⟩ | ⟨x, t, rfl, rfl⟩
  ·rcases keyIs_shape hv with ⟨j, u, rfl, rfl⟩ | ⟨y, u, rfl, rfl⟩
   ·rw [key_ll] at h; exact wpAny_eqBool_int h
   ·rw [key_lr] at h; exact SeqAt.EqAt.int_str i t y u _ _ _ _ h
  ·rcases keyIs_shape hv with ⟨j, u, rfl, rfl⟩ | ⟨y, u, rfl, rfl⟩
   ·rw [key_rl] at h; exact SeqAt.EqAt.str_int x t j u _ _ _ _ h
   ·rw [key_rr] at h; exact wpAny_eqBool_str h
 «strs» := fun k x t v h => by
  rcases keyIs_shape h with ⟨i, u, rfl, e⟩ | ⟨y, u, rfl, e⟩
  ·exact nomatch e
  ·injection e with e1 _
   subst e1
   cases v <;> rfl
theorem mixKind_int (prog : Program) (w : World) (i : Int) (t : Tok) : (mixKind prog w).is (.inl i) (.int i t) = true := keyIs_int i t
theorem mixKind_str (prog : Program) (w : World) (x : Str) (t : Tok) : (mixKind prog w).is (.inr x) (.str x t) = true := keyIs_str x t
end L2
namespace L2
open PySem PySem.Spec PyProof.Rows
inductive V where
 | non | bl (b : Bool) | int (i : Int) | str (x : Str) | byt (b : Array UInt8) | flt (b : UInt64) | ref (a : Addr) | ty (n : String)
 deriving DecidableEq
def RelV : V → Value → Prop
 | .non, u => u = Value.none
 | .bl b, u => u = Value.bool b
 | .int i, u => ∃ t, u = Value.int i t
 | .str x, u => ∃ t, u = Value.str x t
 | .byt b, u => ∃ t, u = Value.bytes b t
 | .flt b, u => ∃ t, u = Value.float b t
 | .ref a, u => u = Value.ref a
 | .ty n, u => u = Value.type n
abbrev Vals : List V → List Value → Prop := Paired RelV
theorem Vals.length {xs : List V} {us : List Value} (r : Vals xs us) : xs.length = us.length := Paired.length r
theorem Vals.get : ∀ {xs : List V} {us : List Value} {i : Nat} {x : V}, Vals xs us → xs[i]? = some x → ∃ u, us[i]? = some u ∧ RelV x u
 | _, _, _, _, .nil, e => by simp at e
 | _, _, 0, _, .cons r _, e => by simp at e; subst e; exact ⟨_, rfl, r⟩
 | _, _, i + 1, x, .cons _ t, e => by
  obtain ⟨u, h1, h2⟩ := Vals.get (i := i) (x := x) t (by simpa using e)
  exact ⟨u, by simpa using h1, h2⟩
theorem Vals.set {x : V} {u : Value} (r : RelV x u) : ∀ {xs : List V} {us : List Value} (i : Nat), Vals xs us → Vals (xs.set i x) (us.set i u)
 | _, _, _, .nil => .nil
 | _, _, 0, .cons _ t => .cons r t
 | _, _, i + 1, .cons q t => .cons q (Vals.set r i t)
theorem Vals.append : ∀ {xs ys : List V} {us ws : List Value}, Vals xs us → Vals ys ws → Vals (xs ++ ys) (us ++ ws)
 | _, _, _, _, .nil, s => s
 | _, _, _, _, .cons r t, s => .cons r (Vals.append t s)
theorem Vals.take : ∀ {xs : List V} {us : List Value} (n : Nat), Vals xs us → Vals (xs.take n) (us.take n)
 | _, _, 0, _ => .nil
 | _, _, _ + 1, .nil => .nil
 | _, _, n + 1, .cons r t => .cons r (Vals.take n t)
theorem Vals.drop : ∀ {xs : List V} {us : List Value} (n : Nat), Vals xs us → Vals (xs.drop n) (us.drop n)
 | _, _, 0, r => r
 | _, _, _ + 1, .nil => .nil
 | _, _, n + 1, .cons _ t => Vals.drop n t
theorem Vals.none_of : ∀ {xs : List V} {us : List Value} {i : Nat}, Vals xs us → xs[i]? = none → us[i]? = none := fun {xs us i} r e => by
 have h1 := r.length
 have h2 : xs.length ≤ i := List.getElem?_eq_none_iff.mp e
 exact List.getElem?_eq_none_iff.mpr (by omega)
def RelO : Option V → Option Value → Prop
 | some v, some u => RelV v u
 | none, none => True
 | _, _ => False
def KV {κ : Type} : List (κ × V) → List (κ × Value) → Prop := Paired fun (p : κ × V) (q : κ × Value) => p.1 = q.1 ∧ RelV p.2 q.2
def kV : Key → V
 | .inl i => .int i
 | .inr x => .str x
inductive HO where
 | lst (xs : List V)
 | tup (xs : List V)
 | dK (kvs : List (Key × V)) | dT (kvs : List (List Key × V))
 | set (S : Int → Bool) (n : Nat)
 | ins (C dx : Addr) (fs : List (Str × V))
 | own (x : Addr)
 | xd (fs : List (Str × V))
 | met (f x : Addr)
 | rng (lo hi : Int)
 | frz (o : Obj) (u : HO)
 | tbl (ps : Array Value)
 | ext (φ : Heap → Prop)
abbrev Hp := Addr → Option HO
def upd (H : Hp) (a : Addr) (o : HO) : Hp := fun b => if b = a then some o else H b
theorem upd_same {H : Hp} {a : Addr} {o : HO} : upd H a o a = some o := by unfold upd; rw [if_pos rfl]
theorem upd_ne {H : Hp} {a b : Addr} {o : HO} (h : b ≠ a) : upd H a o b = H b := by unfold upd; rw [if_neg h]
theorem upd_upd {H : Hp} {a : Addr} {o u : HO} : upd (upd H a o) a u = upd H a u := by
 funext b; unfold upd; split <;> rfl
theorem ne_of {H : Hp} {a b : Addr} {o u : HO} (h : H a = some o) (h' : H b = some u) (d : o ≠ u) : a ≠ b := by
 intro e; subst e; rw [h] at h'; exact d (Option.some.inj h')
theorem ne_of_none {H : Hp} {a b : Addr} {o : HO} (h : H a = some o) (h' : H b = none) : a ≠ b := by
 intro e; subst e; rw [h] at h'; cases h'
section
variable (P : Program) (w : World)
def ObjOk (H : Hp) (h : Heap) (a : Addr) : HO → Prop
 | .lst xs => xs.length ≤ sizeLine ∧ ∃ (its : List Value) (n : Nat), Vals xs its ∧ h.get? a = some { cls := .type "list", data := .seq its.toArray n }
 | .tup xs => xs.length ≤ sizeLine ∧ ∃ its : List Value, Vals xs its ∧ IsTup h a its.toArray
 | .dK kvs => kvs.length ≤ sizeLine ∧ (a == sysModules) = false ∧ ∃ vs, KV kvs vs ∧ h.DictOf (mixKind P w) a vs
 | .dT kvs => kvs.length ≤ sizeLine ∧ (a == sysModules) = false ∧ ∃ xs : List (List Key × Addr × Value),
   Paired (fun (p : List Key × V) (q : List Key × Addr × Value) => p.1 = q.1 ∧ H q.2.1 = some (.tup (p.1.map kV)) ∧ RelV p.2 q.2.2) kvs xs ∧
   ∃ o es ep, h.get? a = some o ∧ o.ExactDict ∧ o.data = .dict es ep ∧ es.toList = xs.map (entryOfKey (tupleKind (mixKind P w))) ∧ (xs.map (·.1)).Nodup
 | .set S n => h.SetOf (intKind P w) a S n
 | .ins C dx fs => H dx = some (.own a) ∧ fs.length ≤ 1000 ∧ dx ≠ a ∧ h.get? a = some (PySem.W.instObj C dx) ∧
   ∃ mA, h.Ns1 dx mA ∧ (∀ f, RelO (fs.lookup f) (mA f)) ∧ PySem.Within mA (fs.map (·.1))
 | .own _ => ∃ o, h.get? a = some o
 | .xd fs => ∃ mA, h.Ns1 a mA ∧ ∀ f, RelO (fs.lookup f) (mA f)
 | .rng lo hi => ∃ t u v, h.get? a = some { cls := .type "range", data := .fields #[.int lo t, .int hi u, .int 1 v] }
 | .frz o u => h.get? a = some o ∧ ObjOk H h a u
 | .tbl ps => h.get? a = some { cls := .none, data := .fields ps }
 | .met f x => h.get? a = some (PySem.W.methodObj (.ref f) (.ref x))
 | .ext φ => φ h ∧ (∃ o, h.get? a = some o) ∧ ∀ h1 h2 : Heap, φ h1 → (∀ o, h1.get? a = some o → h2.get? a = some o) → φ h2
def HOk (H : Hp) (h : Heap) : Prop := ∀ a o, H a = some o → ObjOk P w H h a o
end
section
variable {P : Program} {w : World} {H H' : Hp} {h h' : Heap} {a : Addr} {o : HO}
theorem ObjOk.lt (x : ObjOk P w H h a o) : a < h.objs.size := by
 cases o with
 | lst xs => obtain ⟨_, _, _, _, e⟩ := x; exact Heap.lt_size e
 | tup xs => obtain ⟨_, _, _, p⟩ := x; exact p.lt
 | dK kvs => obtain ⟨_, _, _, _, o, _, _, e, _⟩ := x; exact Heap.lt_size e
 | dT kvs => obtain ⟨_, _, _, _, o, _, _, e, _⟩ := x; exact Heap.lt_size e
 | set S n => obtain ⟨o, _, _, _, e, _⟩ := x; exact Heap.lt_size e
 | ins C dx fs => obtain ⟨_, _, _, e, _⟩ := x; exact Heap.lt_size e
 | own y => obtain ⟨_, e⟩ := x; exact Heap.lt_size e
 | xd fs => obtain ⟨_, ⟨_, _, _, e, _⟩, _⟩ := x; exact Heap.lt_size e
 | rng lo hi => obtain ⟨_, _, _, e⟩ := x; exact Heap.lt_size e
 | frz ob u => obtain ⟨e, _⟩ := x; exact Heap.lt_size e
 | tbl ps => exact Heap.lt_size (show h.get? a = some _ from x)
 | met f y => exact Heap.lt_size (show h.get? a = some _ from x)
 | ext φ => obtain ⟨_, ⟨_, e⟩, _⟩ := x; exact Heap.lt_size e
theorem Paired.mapP {α β : Type} {F G : α → β → Prop} : ∀ {l₁ : List α} {l₂ : List β}, Paired F l₁ l₂ → (∀ a b, F a b → G a b) → Paired G l₁ l₂
 | _, _, .nil, _ => .nil
 | _, _, .cons r t, f => .cons (f _ _ r) (Paired.mapP t f)
theorem ObjOk.stay (x : ObjOk P w H h a o) (k : ∀ b u, (b = a ∨ H b = some (.own a)) → h.get? b = some u → h'.get? b = some u)
  (ho : ∀ b, H b = some (.own a) → H' b = some (.own a)) (ht : ∀ b xs, H b = some (.tup xs) → H' b = some (.tup xs)) : ObjOk P w H' h' a o := by
 induction o with
 | lst xs => obtain ⟨z, its, n, r, e⟩ := x; exact ⟨z, its, n, r, k _ _ (.inl rfl) e⟩
 | tup xs => obtain ⟨z, its, r, ob, e, c⟩ := x; exact ⟨z, its, r, ob, k _ _ (.inl rfl) e, c⟩
 | dK kvs => obtain ⟨z, y, vs, r, ob, es, ep, e, c⟩ := x; exact ⟨z, y, vs, r, ob, es, ep, k _ _ (.inl rfl) e, c⟩
 | dT kvs =>
  obtain ⟨z, y, xs, r, ob, es, ep, e, c⟩ := x
  exact ⟨z, y, xs, Paired.mapP r fun p q z => ⟨z.1, ht _ _ z.2.1, z.2.2⟩, ob, es, ep, k _ _ (.inl rfl) e, c⟩
 | set S n => obtain ⟨ob, es, ep, t, e, c⟩ := x; exact ⟨ob, es, ep, t, k _ _ (.inl rfl) e, c⟩
 | ins C dx fs =>
  obtain ⟨d, z, ne, e, mA, ⟨od, es, ep, e2, c⟩, r⟩ := x
  exact ⟨ho _ d, z, ne, k _ _ (.inl rfl) e, mA, ⟨od, es, ep, k _ _ (.inr d) e2, c⟩, r⟩
 | own y => obtain ⟨ob, e⟩ := x; exact ⟨ob, k _ _ (.inl rfl) e⟩
 | xd fs => obtain ⟨mA, ⟨od, es, ep, e, c⟩, r⟩ := x; exact ⟨mA, ⟨od, es, ep, k _ _ (.inl rfl) e, c⟩, r⟩
 | rng lo hi => obtain ⟨t, u, v, e⟩ := x; exact ⟨t, u, v, k _ _ (.inl rfl) e⟩
 | frz ob u ih => obtain ⟨e, q⟩ := x; exact ⟨k _ _ (.inl rfl) e, ih q⟩
 | tbl ps =>
  have e : h.get? a = some { cls := .none, data := .fields ps } := x
  show h'.get? a = some { cls := .none, data := .fields ps }
  exact k a _ (.inl rfl) e
 | met f y =>
  have e : h.get? a = some (PySem.W.methodObj (.ref f) (.ref y)) := x
  show h'.get? a = some (PySem.W.methodObj (.ref f) (.ref y))
  exact k a _ (.inl rfl) e
 | ext φ => obtain ⟨p, ⟨o, e⟩, st⟩ := x; exact ⟨st _ _ p fun o q => k _ _ (.inl rfl) q, ⟨o, k _ _ (.inl rfl) e⟩, st⟩
theorem HOk.lt (x : HOk P w H h) (e : H a = some o) : a < h.objs.size := (x a o e).lt
theorem HOk.fresh (x : HOk P w H h) (e : h.objs.size ≤ a) : H a = none := by
 cases q : H a with
 | none => rfl
 | some u => exact absurd (Nat.lt_of_lt_of_le (x.lt q) e) (Nat.lt_irrefl _)
theorem HOk.kept (x : HOk P w H h) (k : ∀ b u, h.get? b = some u → h'.get? b = some u) : HOk P w H h' := fun a o e =>
 (x a o e).stay (fun b u _ q => k b u q) (fun _ q => q) fun _ _ q => q
theorem HOk.laid (x : HOk P w H h) (k : ∀ b u, h.get? b = some u → h'.get? b = some u) (hp : h.objs.size ≤ a) (new : ObjOk P w (upd H a o) h' a o) : HOk P w (upd H a o) h' := fun b u e => by
 have hn := x.fresh hp
 by_cases hb : b = a
 ·subst hb; rw [upd_same] at e; cases e; exact new
 ·rw [upd_ne hb] at e
  exact (x b u e).stay (fun c v _ q => k c v q) (fun c q => by rw [upd_ne (ne_of_none q hn)]; exact q) fun c xs q => by rw [upd_ne (ne_of_none q hn)]; exact q
end
def Rd (H : Hp) (a : Addr) (u : HO) : Prop := H a = some u ∨ ∃ o, H a = some (.frz o u)
theorem Rd.of {H : Hp} {a : Addr} {u : HO} (h : H a = some u) : Rd H a u := .inl h
theorem Rd.ok {P : Program} {w : World} {H : Hp} {h : Heap} {a : Addr} {u : HO} (r : Rd H a u) (x : HOk P w H h) : ObjOk P w H h a u := by
 rcases r with r | ⟨o, r⟩
 ·exact x a u r
 ·obtain ⟨_, q⟩ := x a _ r
  exact q
def Mut : Option HO → Prop
 | some (.lst _) => True
 | some (.dK _) => True
 | some (.dT _) => True
 | some (.set _ _) => True
 | some (.ins _ _ _) => True
 | some (.ext _) => True
 | _ => False
section
variable {P : Program} {w : World} {H : Hp} {h h' : Heap} {x e : Addr} {o' : HO}
theorem HOk.write (ok : HOk P w H h) (mu : Mut (H x)) (he : e = x ∨ H e = some (.own x)) (k : ∀ b u, b ≠ e → h.get? b = some u → h'.get? b = some u) (heo : ∃ u, h'.get? e = some u)
  (new : ObjOk P w (upd H x o') h' x o') : HOk P w (upd H x o') h' := fun b u q => by
 have nown : ∀ c y, H c = some (.own y) → c ≠ x := fun c y r z => by subst z; rw [r] at mu; exact mu
 have ntup : ∀ c xs, H c = some (.tup xs) → c ≠ x := fun c xs r z => by subst z; rw [r] at mu; exact mu
 by_cases hb : b = x
 ·subst hb; rw [upd_same] at q; cases q; exact new
 ·rw [upd_ne hb] at q
  by_cases hbe : b = e
  ·have q' : H b = some (.own x) := by
    rcases he with z | z
    ·exact absurd (hbe.trans z) hb
    ·rw [hbe]; exact z
   rw [q] at q'; cases q'
   obtain ⟨v, hv⟩ := heo
   exact ⟨v, by rw [hbe]; exact hv⟩
  ·refine (ok b u q).stay (fun c v hc r => k c v ?_ r) (fun c r => by rw [upd_ne (nown c b r)]; exact r) fun c xs r => by rw [upd_ne (ntup c xs r)]; exact r
   rcases hc with rfl | hc
   ·exact hbe
   ·rintro rfl
    rcases he with z | z
    ·exact nown c b hc z
    ·rw [hc] at z; cases z; exact hb rfl
end
structure Un (fs ex : List Addr) (H H' : Hp) (h h' : Heap) : Prop where
 keep : ∀ b o, h.get? b = some o → H b = none → b ∉ fs → b ∉ ex → h'.get? b = some o
 slot : ∀ b o, h.get? b = some o → H b = none → b ∈ fs → b ∉ ex → ∃ sl, h'.get? b = some { o with slots := sl }
 free : ∀ b o, h.get? b = some o → H b = none → b ∉ ex → H' b = none
 there : ∀ b o, h.get? b = some o → b ∉ ex → ∃ o', h'.get? b = some o'
 tups : ∀ b xs, H b = some (.tup xs) → H' b = some (.tup xs)
 frzs : ∀ b o u, H b = some (.frz o u) → H' b = some (.frz o u)
 tbls : ∀ b ps, H b = some (.tbl ps) → ∃ more, H' b = some (.tbl (ps ++ more))
section
variable {fs fs' ex ex' : List Addr} {H H1 H2 : Hp} {h h1 h2 h' : Heap} {a x e : Addr} {o : HO}
theorem Un.any (u : Un fs ex H H1 h h1) {b : Addr} {ob : Obj} (q : h.get? b = some ob) (n : H b = none) (hx : b ∉ ex) : ∃ sl, h1.get? b = some { ob with slots := sl } := by
 by_cases hb : b ∈ fs
 ·exact u.slot b ob q n hb hx
 ·exact ⟨ob.slots, u.keep b ob q n hb hx⟩
theorem Un.trans (a : Un fs ex H H1 h h1) (b : Un fs ex H1 H2 h1 h2) : Un fs ex H H2 h h2 where
 keep := fun c ob q n hc hx => b.keep c ob (a.keep c ob q n hc hx) (a.free c ob q n hx) hc hx
 slot := fun c ob q n hc hx => by
  obtain ⟨sl, e1⟩ := a.slot c ob q n hc hx
  obtain ⟨sl', e2⟩ := b.slot c _ e1 (a.free c ob q n hx) hc hx
  exact ⟨sl', e2⟩
 free := fun c ob q n hx => by
  obtain ⟨o', e1⟩ := a.there c ob q hx
  exact b.free c o' e1 (a.free c ob q n hx) hx
 there := fun c ob q hx => by
  obtain ⟨o', e1⟩ := a.there c ob q hx
  exact b.there c o' e1 hx
 tups := fun c xs q => b.tups c xs (a.tups c xs q)
 frzs := fun c ob xs q => b.frzs c ob xs (a.frzs c ob xs q)
 tbls := fun c ps q => by
  obtain ⟨m1, e1⟩ := a.tbls c ps q
  obtain ⟨m2, e2⟩ := b.tbls c _ e1
  exact ⟨m1 ++ m2, by rw [e2, Array.append_assoc]⟩
theorem Un.kept (k : ∀ b u, h.get? b = some u → h'.get? b = some u) : Un fs ex H H h h' :=
 ⟨fun b ob q _ _ _ => k b ob q, fun b ob q _ _ _ => ⟨ob.slots, k b ob q⟩, fun _ _ _ n _ => n, fun b ob q _ => ⟨ob, k b ob q⟩, fun _ _ q => q, fun _ _ _ q => q, fun _ ps q => ⟨#[], by rw [q]; simp⟩⟩
theorem Un.refl : Un fs ex H H h h := Un.kept fun _ _ q => q
theorem Un.laid (k : ∀ b u, h.get? b = some u → h'.get? b = some u) (hp : h.objs.size ≤ a) (hn : H a = none) : Un fs ex H (upd H a o) h h' where
 keep := fun b u q _ _ _ => k b u q
 slot := fun b u q _ _ _ => ⟨u.slots, k b u q⟩
 free := fun b u q n _ => by rw [upd_ne (Nat.ne_of_lt (Nat.lt_of_lt_of_le (Heap.lt_size q) hp))]; exact n
 there := fun b u q _ => ⟨u, k b u q⟩
 tups := fun b xs q => by rw [upd_ne (ne_of_none q hn)]; exact q
 frzs := fun b u xs q => by rw [upd_ne (ne_of_none q hn)]; exact q
 tbls := fun b ps q => ⟨#[], by rw [upd_ne (ne_of_none q hn), q]; simp⟩
theorem Un.write (mu : Mut (H x)) (he : e = x ∨ H e = some (.own x)) (k : ∀ b u, b ≠ e → h.get? b = some u → h'.get? b = some u) (heo : ∃ u, h'.get? e = some u) : Un fs ex H (upd H x o) h h' := by
 have hx : ∀ b, H b = none → b ≠ x := fun b n z => by subst z; rw [n] at mu; exact mu
 have hb : ∀ b, H b = none → b ≠ e := fun b n z => by
  subst z
  rcases he with r | r
  ·exact hx b n r
  ·rw [n] at r; cases r
 have hm : ∀ b u, H b = some u → ¬ Mut (some u) → b ≠ x := fun b u q nm z => by subst z; rw [q] at mu; exact nm mu
 refine ⟨fun b u q n _ _ => k b u (hb b n) q, fun b u q n _ _ => ⟨u.slots, k b u (hb b n) q⟩, fun b u q n _ => by rw [upd_ne (hx b n)]; exact n, fun b u q _ => ?_,
  fun b xs q => by rw [upd_ne (hm b _ q fun z => z)]; exact q, fun b u xs q => by rw [upd_ne (hm b _ q fun z => z)]; exact q, fun b ps q => ⟨#[], by rw [upd_ne (hm b _ q fun z => z), q]; simp⟩⟩
 by_cases hbe : b = e
 ·subst hbe; exact heo
 ·exact ⟨u, k b u hbe q⟩
theorem Un.mono (u : Un fs ex H H1 h h1) (hs : ∀ b ∈ fs, b ∈ fs') (hx : ∀ b ∈ ex, b ∈ ex') : Un fs' ex' H H1 h h1 :=
 ⟨fun b ob q n hb he => u.keep b ob q n (fun z => hb (hs b z)) fun z => he (hx b z), fun _ _ q n _ he => u.any q n fun z => he (hx _ z), fun b ob q n he => u.free b ob q n fun z => he (hx b z), fun b ob q he => u.there b ob q fun z => he (hx b z), u.tups, u.frzs, u.tbls⟩
end
def trk (h : Heap) (H : Hp) : List Addr := (List.range h.objs.size).filter fun a => (H a).isSome
def hidT (h : Heap) (H : Hp) : Heap := PySem.W.hideAll h (trk h H)
theorem hidT_size (h : Heap) (H : Hp) : (hidT h H).objs.size = h.objs.size := PySem.W.hideAll_size _ _
theorem hidT_get {h : Heap} {H : Hp} {b : Addr} {o : Obj} (e : h.get? b = some o) (n : H b = none) : (hidT h H).get? b = some o :=
 PySem.W.hideAll_get _ e fun hm => by
  have q : (H b).isSome = true := (List.mem_filter.mp hm).2
  rw [n] at q; simp at q
theorem of_hidT {h : Heap} {H : Hp} {b : Addr} {o : Obj} (e : (hidT h H).get? b = some o) : h.get? b = some o ∧ H b = none := by
 have e' : h.get? b = some o := PySem.W.of_hideAll (trk h H) e
 refine ⟨e', ?_⟩
 cases q : H b with
 | none => rfl
 | some x =>
  have hm : b ∈ trk h H := List.mem_filter.mpr ⟨List.mem_range.mpr (Heap.lt_size e'), by simp [q]⟩
  have z : (hidT h H).get? b = none := PySem.W.hideAll_none (trk h H) hm
  rw [z] at e; cases e
def allNews (g h : Heap) (L : Addr) : List (Addr × Obj) := (List.range h.objs.size).filterMap fun a => if a = L ∨ (g.get? a).isSome = true then none else (h.get? a).map fun o => (a, o)
theorem mem_allNews {g h : Heap} {L a : Addr} {o : Obj} (h1 : a ≠ L) (h2 : g.get? a = none) (h3 : h.get? a = some o) : (a, o) ∈ allNews g h L :=
 List.mem_filterMap.mpr ⟨a, List.mem_range.mpr (Heap.lt_size h3), by simp [h1, h2, h3]⟩
theorem of_mem_allNews {g h : Heap} {L : Addr} {p : Addr × Obj} (hp : p ∈ allNews g h L) : p.1 ≠ L ∧ g.get? p.1 = none ∧ h.get? p.1 = some p.2 := by
 obtain ⟨b, _, e⟩ := List.mem_filterMap.mp hp
 split at e
 ·cases e
 ·rename_i hn
  cases q : h.get? b with
  | none => rw [q] at e; simp at e
  | some u =>
   rw [q] at e
   simp only [Option.map_some, Option.some.injEq] at e
   subst e
   refine ⟨fun z => hn (.inl z), ?_, q⟩
   show g.get? b = none
   cases r : g.get? b with
   | none => rfl
   | some v => exact (hn (.inr (by simp [r]))).elim
def rest (g h : Heap) (L d : Addr) : List (Addr × Obj) := (allNews g h L).filter fun p => decide (p.1 ≠ d)
theorem news_all {g h : Heap} {L : Addr} : News g L h (allNews g h L) := fun p hp => let ⟨a, b, c⟩ := of_mem_allNews hp; ⟨c, a, b⟩
end L2
namespace L2
open PySem PySem.Spec PyProof.Rows
structure Mod (K : PySem.W.Frag) (mg : Str → Option Value) (base : Heap) : Prop where
 kin : K.In base
 glob : base.Ns mainGlobals mg
 blt : ∃ mb, base.Ns builtinsNs mb ∧ ∀ x : Str, x ≠ "__name__" → mb x = bootBuiltins x
 nolimit : base.NoLimit
structure Cx where
 prog : Program
 w : World
 K : PySem.W.Frag
 mg : Str → Option Value
 base : Heap
 A : Around
 N : List Str
 s_0 : Shared
 H_0 : Hp
 env : Env
 outer : List Env
 stack : List Env
 ex : List Addr
 fn : Str → Bool
 calm : Bool
 pn : List (Addr × Obj)
 xe : Value → Shared → Prop
def frs (l : List Env) : List Addr := l.filterMap (·.frame)
abbrev Cx.fs (X : Cx) : List Addr := frs X.outer
def Vis (sc : Scope) (x : Str) : Prop := sc.names.lookup x = some .local ∨ sc.names.lookup x = some .cell ∨ sc.names.lookup x = some .free
def Loc (sc : Scope) (x : Str) : Prop := sc.names.lookup x = some .local ∨ sc.names.lookup x = some .cell
def Look (env : Env) (h : Heap) (m : Str → Option Value) (x : Str) (u : Value) : Prop :=
 (env.kindOf x = some .local ∧ m x = some u) ∨ ((env.kindOf x = some .cell ∨ env.kindOf x = some .free) ∧ ∃ c, env.cells.lookup x = some c ∧ h.IsCell c (some u))
structure Cx.Ok (X : Cx) : Prop where
 mod : Mod X.K X.mg X.base
 kind : X.env.scope.kind = .function
 glob : X.env.globals = mainGlobals
 blt : X.env.builtins = builtinsNs
 above : X.s_0.heap.objs.size ≤ X.env.locals
 inj : ∀ x y c, X.env.cells.lookup x = some c → X.env.cells.lookup y = some c → x = y
 has : ∀ x, (X.env.kindOf x = some .cell ∨ X.env.kindOf x = some .free) → ∃ c, X.env.cells.lookup x = some c
 cab : ∀ x c, X.fn x = true → X.env.cells.lookup x = some c → X.s_0.heap.objs.size ≤ c
 hd : X.calm = true → X.A.handled = none
 frames : X.A.frames = some X.stack
 stk : X.stack = X.outer ∨ (X.stack = X.env :: X.outer ∧ X.env.frame = some X.env.locals)
 exf : ∀ b ∈ X.ex, b ≠ X.env.locals ∧ ∀ x c, X.env.cells.lookup x = some c → c ≠ b
 bs : ∀ b o, X.base.get? b = some o → X.s_0.heap.get? b = some o ∧ X.H_0 b = none
 bsz : X.base.objs.size ≤ X.s_0.heap.objs.size
 noex : ∀ b o, X.base.get? b = some o → b ∉ X.ex
 exfs : ∀ b ∈ X.ex, b ∉ X.fs
 funs : X.s_0.heap.FunFrames X.base X.outer
 frf : ∀ b ∈ X.fs, X.H_0 b = none
structure Inv (X : Cx) (pins : List (Addr × Obj)) (σ : List (Option V)) (H : Hp) (s : Shared) : Prop where
 ok : X.Ok
 os : s.os = X.s_0.os
 bare : AllBare s.gens
 base : Un X.fs X.ex X.H_0 H X.s_0.heap s.heap
 loc : ∃ m, s.heap.Ns X.env.locals m ∧ ∀ (i : Nat) (x : Str) (v : V), X.N[i]? = some x → σ[i]? = some (some v) → Vis X.env.scope x → ∃ u, RelV v u ∧ Look X.env s.heap m x u
 cell : ∀ x c, X.env.cells.lookup x = some c → ∃ v, s.heap.IsCell c v
 free : H X.env.locals = none
 freeC : ∀ x c, X.env.cells.lookup x = some c → H c = none
 pin : ∀ p ∈ X.pn ++ pins, s.heap.get? p.1 = some p.2 ∧ H p.1 = none ∧ p.1 ≠ X.env.locals ∧ p.1 ∉ X.fs ∧ ∀ v, p.2.data ≠ .cell v
 hok : HOk X.prog X.w H s.heap
 len : σ.length = X.N.length
section
variable {X : Cx} {pins : List (Addr × Obj)} {σ : List (Option V)} {H H' : Hp} {s : Shared} {h' : Heap}
theorem Cx.Ok.nofr (ok : X.Ok) {b : Addr} {o : Obj} (e : X.base.get? b = some o) : b ∉ X.fs := fun hb => by
 have := (ok.funs.mem hb).1
 rw [e] at this; cases this
theorem Inv.bs (I : Inv X pins σ H s) : ∀ b o, X.base.get? b = some o → s.heap.get? b = some o ∧ H b = none := fun b o e =>
 ⟨I.base.keep b o (I.ok.bs b o e).1 (I.ok.bs b o e).2 (I.ok.nofr e) (I.ok.noex b o e), I.base.free b o (I.ok.bs b o e).1 (I.ok.bs b o e).2 (I.ok.noex b o e)⟩
theorem Inv.bk (I : Inv X pins σ H s) : ∀ b o, X.base.get? b = some o → s.heap.get? b = some o := fun b o e => (I.bs b o e).1
theorem Inv.mod (I : Inv X pins σ H s) : Mod X.K X.mg X.base := I.ok.mod
theorem Inv.kIn (I : Inv X pins σ H s) : X.K.In s.heap := I.ok.mod.kin.keeps I.bk
theorem Inv.nolimit (I : Inv X pins σ H s) : s.heap.NoLimit := I.ok.mod.nolimit.keeps I.bk
theorem Inv.fr (I : Inv X pins σ H s) : ∃ m, Fr X.base X.env.locals s.heap m :=
 let ⟨m, hn, _⟩ := I.loc
 ⟨m, hn, I.bk, Nat.le_trans I.ok.bsz I.ok.above⟩
theorem Inv.lt (I : Inv X pins σ H s) : X.env.locals < s.heap.objs.size := let ⟨_, hn, _⟩ := I.loc; hn.lt
theorem Inv.sz (I : Inv X pins σ H s) : X.s_0.heap.objs.size ≤ s.heap.objs.size := Nat.le_trans I.ok.above (Nat.le_of_lt I.lt)
theorem Inv.nofs (I : Inv X pins σ H s) {a : Addr} (h : s.heap.objs.size ≤ a) : a ∉ X.fs := fun hb => by
 obtain ⟨_, o, ho, _⟩ := I.ok.funs.mem hb
 exact absurd (Nat.lt_of_lt_of_le (Heap.lt_size ho) (Nat.le_trans I.sz h)) (Nat.lt_irrefl _)
theorem Inv.cne (I : Inv X pins σ H s) : ∀ x c, X.env.cells.lookup x = some c → c ≠ X.env.locals := fun x c e z => by
 obtain ⟨v, o, ho, hd⟩ := I.cell x c e
 obtain ⟨m, ⟨o', es, ep, ho', hd', _⟩, _⟩ := I.loc
 rw [z, ho'] at ho; cases ho; rw [hd'] at hd; cases hd
theorem Inv.funs (I : Inv X pins σ H s) : s.heap.FunFrames X.base X.outer := by
 have all : ∀ (l : List Env), (∀ b ∈ frs l, b ∈ X.fs) → X.s_0.heap.FunFrames X.base l → s.heap.FunFrames X.base l := by
  intro l
  induction l with
  | nil => intro _ _; trivial
  | cons env r ih =>
   intro hs hl
   obtain ⟨hk, ⟨L, o, hf, hn, ho, hd⟩, hr⟩ := hl
   have hL : L ∈ X.fs := hs L (by unfold frs; rw [List.filterMap_cons, hf]; exact List.mem_cons_self)
   obtain ⟨sl, e⟩ := I.base.slot L o ho (I.ok.frf L hL) hL fun z => I.ok.exfs L z hL
   exact ⟨hk, ⟨L, _, hf, hn, e, hd⟩, ih (fun b hb => hs b (by unfold frs; rw [List.filterMap_cons, hf]; exact List.mem_cons_of_mem _ hb)) hr⟩
 exact all X.outer (fun _ hb => hb) I.ok.funs
theorem Inv.stack (I : Inv X pins σ H s) : s.heap.FunFrames X.base X.stack := by
 rcases I.ok.stk with e | ⟨e, hf⟩
 ·rw [e]; exact I.funs
 ·rw [e]
  obtain ⟨m, hn, _⟩ := I.loc
  refine .cons (by rw [I.ok.kind]; decide) hf hn ?_ I.funs
  exact Heap.get?_none_of_le (Nat.le_trans I.ok.bsz I.ok.above)
theorem Inv.stkSub (I : Inv X pins σ H s) : ∀ b ∈ frs X.stack, b ∈ X.env.locals :: X.fs := fun b hb => by
 rcases I.ok.stk with e | ⟨e, hf⟩
 ·rw [e] at hb; exact List.mem_cons_of_mem _ hb
 ·rw [e] at hb
  unfold frs at hb
  rw [List.filterMap_cons, hf] at hb
  exact hb
theorem Inv.stkFree (I : Inv X pins σ H s) : ∀ b ∈ frs X.stack, H b = none := fun b hb => by
 rcases List.mem_cons.mp (I.stkSub b hb) with e | hb
 ·rw [e]; exact I.free
 ·obtain ⟨_, o, ho, _⟩ := I.ok.funs.mem hb
  exact I.base.free b o ho (I.ok.frf b hb) fun z => I.ok.exfs b z hb
theorem Inv.step {g' : Array GenState} {t' : Nat} {d' : Drawn} {ch : List Addr} (I : Inv X pins σ H s)
  (hch : ∀ b ∈ ch, (b ∈ X.ex ∨ X.s_0.heap.objs.size ≤ b) ∧ b ≠ X.env.locals ∧ (∀ x c, X.env.cells.lookup x = some c → c ≠ b) ∧ ∀ p ∈ X.pn ++ pins, p.1 ≠ b)
  (keep : ∀ b o, b ≠ X.env.locals → b ∉ X.fs → b ∉ ch → s.heap.get? b = some o → H b = none → h'.get? b = some o)
  (slot : ∀ b o, b ≠ X.env.locals → b ∈ X.fs → b ∉ ch → s.heap.get? b = some o → H b = none → ∃ sl, h'.get? b = some { o with slots := sl }) (free : ∀ b o, b ∉ ch → s.heap.get? b = some o → H b = none → H' b = none)
  (there : ∀ b o, b ∉ ch → s.heap.get? b = some o → ∃ o', h'.get? b = some o')
  (tups : ∀ b xs, H b = some (.tup xs) → H' b = some (.tup xs)) (frzs : ∀ b o u, H b = some (.frz o u) → H' b = some (.frz o u)) (tbls : ∀ b ps, H b = some (.tbl ps) → ∃ more, H' b = some (.tbl (ps ++ more)))
  (ns : ∀ m, s.heap.Ns X.env.locals m → h'.Ns X.env.locals m) (hok : HOk X.prog X.w H' h') (hg : AllBare g') :
  Inv X pins σ H' { s with heap := h', gens := g', drawn := d', toks := t' } := by
 have neL : ∀ b o, X.s_0.heap.get? b = some o → b ≠ X.env.locals := fun b o e => Nat.ne_of_lt (Nat.lt_of_lt_of_le (Heap.lt_size e) I.ok.above)
 have neC : ∀ b o, X.s_0.heap.get? b = some o → b ∉ X.ex → b ∉ ch := fun b o e hx hb => by
  rcases (hch b hb).1 with z | z
  ·exact hx z
  ·exact absurd (Nat.lt_of_lt_of_le (Heap.lt_size e) z) (Nat.lt_irrefl _)
 have cellK : ∀ x c, X.env.cells.lookup x = some c → ∀ v, s.heap.IsCell c v → h'.IsCell c v := fun x c e v ⟨o, ho, hd⟩ => by
  have nch : c ∉ ch := fun z => (hch c z).2.2.1 x c e rfl
  by_cases hc : c ∈ X.fs
  ·obtain ⟨sl, q⟩ := slot c o (I.cne x c e) hc nch ho (I.freeC x c e)
   exact ⟨_, q, hd⟩
  ·exact ⟨o, keep c o (I.cne x c e) hc nch ho (I.freeC x c e), hd⟩
 refine ⟨I.ok, I.os, hg, ⟨fun b o e n hb hx => ?_, fun b o e n hb hx => ?_, fun b o e n hx => ?_, fun b o e hx => ?_, fun b xs e => tups b xs (I.base.tups b xs e), fun b o xs e => frzs b o xs (I.base.frzs b o xs e), fun b ps e => ?_⟩, ?_, fun x c e => ?_, ?_, fun x c e => ?_, fun p hp => ?_, hok, I.len⟩
 ·exact keep b o (neL b o e) hb (neC b o e hx) (I.base.keep b o e n hb hx) (I.base.free b o e n hx)
 ·obtain ⟨sl, e1⟩ := I.base.slot b o e n hb hx
  obtain ⟨sl', e2⟩ := slot b _ (neL b o e) hb (neC b o e hx) e1 (I.base.free b o e n hx)
  exact ⟨sl', e2⟩
 ·obtain ⟨o', e1⟩ := I.base.there b o e hx
  exact free b o' (neC b o e hx) e1 (I.base.free b o e n hx)
 ·obtain ⟨o', e1⟩ := I.base.there b o e hx
  exact there b o' (neC b o e hx) e1
 ·obtain ⟨m1, e1⟩ := I.base.tbls b ps e
  obtain ⟨m2, e2⟩ := tbls b _ e1
  exact ⟨m1 ++ m2, by rw [e2, Array.append_assoc]⟩
 ·obtain ⟨m, hn, hl⟩ := I.loc
  refine ⟨m, ns m hn, fun i x v e1 e2 e3 => ?_⟩
  obtain ⟨u, r, l⟩ := hl i x v e1 e2 e3
  refine ⟨u, r, ?_⟩
  rcases l with l | ⟨k, c, e, z⟩
  ·exact .inl l
  ·exact .inr ⟨k, c, e, cellK x c e _ z⟩
 ·obtain ⟨v, z⟩ := I.cell x c e
  exact ⟨v, cellK x c e v z⟩
 ·obtain ⟨m, ⟨o, _, _, ho, _⟩, _⟩ := I.loc
  exact free _ o (fun z => (hch _ z).2.1 rfl) ho I.free
 ·obtain ⟨v, o, ho, hd⟩ := I.cell x c e
  exact free c o (fun z => (hch c z).2.2.1 x c e rfl) ho (I.freeC x c e)
 ·obtain ⟨e, n, ne, nf, d⟩ := I.pin p hp
  have nch : p.1 ∉ ch := fun z => (hch p.1 z).2.2.2 p hp rfl
  exact ⟨keep p.1 p.2 ne nf nch e n, free p.1 p.2 nch e n, ne, nf, d⟩
theorem Inv.un {t' : Nat} (I : Inv X pins σ H s) (u : Un X.fs [] H H' s.heap h') (hok : HOk X.prog X.w H' h') : Inv X pins σ H' { s with heap := h', toks := t' } := by
 obtain ⟨m, ⟨o, es, ep, ho, r⟩, _⟩ := id I.loc
 obtain ⟨sl, hL⟩ := u.any ho I.free (by simp)
 exact I.step (g' := s.gens) (d' := s.drawn) (ch := []) (fun _ z => nomatch z) (fun b o _ hb _ e n => u.keep b o e n hb (by simp)) (fun b o _ hb _ e n => u.slot b o e n hb (by simp)) (fun b o _ e n => u.free b o e n (by simp)) (fun b o _ e => u.there b o e (by simp)) u.tups u.frzs u.tbls (fun m' hm => by
  obtain ⟨o', es', ep', ho', r'⟩ := hm
  rw [ho] at ho'; cases ho'
  exact ⟨_, es', ep', hL, r'⟩) hok I.bare
theorem Inv.call {g' : Array GenState} {t' : Nat} {d' : Drawn} {ch : List Addr} (I : Inv X pins σ H s) (u : Un (frs X.stack) ch H H' s.heap h') (hok : HOk X.prog X.w H' h') (hg : AllBare g')
  (hch : ∀ b ∈ ch, (b ∈ X.ex ∨ X.s_0.heap.objs.size ≤ b) ∧ b ≠ X.env.locals ∧ (∀ x c, X.env.cells.lookup x = some c → c ≠ b) ∧ ∀ p ∈ X.pn ++ pins, p.1 ≠ b) :
  Inv X pins σ H' { s with heap := h', gens := g', drawn := d', toks := t' } := by
 obtain ⟨m, ⟨o, es, ep, ho, r⟩, _⟩ := id I.loc
 obtain ⟨sl, hL⟩ := u.any ho I.free fun z => (hch _ z).2.1 rfl
 exact I.step (ch := ch) hch (fun b o hL hb hc e n => u.keep b o e n (fun z => (List.mem_cons.mp (I.stkSub b z)).elim hL hb) hc) (fun b o _ _ hc e n => u.any e n hc) (fun b o hc e n => u.free b o e n hc) (fun b o hc e => u.there b o e hc) u.tups u.frzs u.tbls (fun m' hm => by
  obtain ⟨o', es', ep', ho', r'⟩ := hm
  rw [ho] at ho'; cases ho'
  exact ⟨_, es', ep', hL, r'⟩) hok hg
theorem Inv.turned {t' : Nat} {it : Addr} (I : Inv X pins σ H s) (k : ∀ b o, b ≠ it → s.heap.get? b = some o → h'.get? b = some o) (hn : H it = none) (hL : it ≠ X.env.locals)
  (h1 : it ∈ X.ex ∨ X.s_0.heap.objs.size ≤ it) (h2 : ∀ x c, X.env.cells.lookup x = some c → c ≠ it) (h3 : ∀ p ∈ X.pn ++ pins, p.1 ≠ it) : Inv X pins σ H { s with heap := h', toks := t' } := by
 have nit : ∀ b u, H b = some u → b ≠ it := fun b u e z => by rw [z, hn] at e; cases e
 refine I.step (g' := s.gens) (d' := s.drawn) (ch := [it]) (fun b hb => ?_) (fun b o _ _ hc e _ => k b o (fun z => hc (by simp [z])) e) (fun b o _ _ hc e _ => ⟨o.slots, k b o (fun z => hc (by simp [z])) e⟩) (fun _ _ _ _ n => n)
  (fun b o hc e => ⟨o, k b o (fun z => hc (by simp [z])) e⟩) (fun _ _ e => e) (fun _ _ _ e => e) (fun b ps e => ⟨#[], by rw [e]; simp⟩) (fun m hm => ?_) (fun b u e => ?_) I.bare
 ·have e : b = it := by simpa using hb
  subst e
  exact ⟨h1, hL, h2, h3⟩
 ·obtain ⟨o, es, ep, ho, r⟩ := hm
  exact ⟨o, es, ep, k _ o (Ne.symm hL) ho, r⟩
 ·refine (I.hok b u e).stay (fun c v hc q => k c v ?_ q) (fun _ q => q) fun _ _ q => q
  rcases hc with z | z
  ·rw [z]; exact nit b u e
  ·exact nit c _ z
theorem Inv.tok (I : Inv X pins σ H s) (t : Nat) : Inv X pins σ H { s with toks := t } := I.un (h' := s.heap) (t' := t) Un.refl I.hok
theorem Inv.kept {t' : Nat} (I : Inv X pins σ H s) (k : ∀ b u, s.heap.get? b = some u → h'.get? b = some u) : Inv X pins σ H { s with heap := h', toks := t' } := I.un (Un.kept k) (I.hok.kept k)
theorem Inv.laid {a : Addr} {o : HO} {t' : Nat} (I : Inv X pins σ H s) (k : ∀ b u, s.heap.get? b = some u → h'.get? b = some u) (hp : s.heap.objs.size ≤ a) (new : ObjOk X.prog X.w (upd H a o) h' a o) :
  Inv X pins σ (upd H a o) { s with heap := h', toks := t' } := I.un (Un.laid k hp (I.hok.fresh hp)) (I.hok.laid k hp new)
theorem Inv.write {x e : Addr} {o : HO} {t' : Nat} (I : Inv X pins σ H s) (mu : Mut (H x)) (he : e = x ∨ H e = some (.own x)) (k : ∀ b u, b ≠ e → s.heap.get? b = some u → h'.get? b = some u) (heo : ∃ u, h'.get? e = some u)
  (new : ObjOk X.prog X.w (upd H x o) h' x o) : Inv X pins σ (upd H x o) { s with heap := h', toks := t' } := I.un (Un.write mu he k heo) (I.hok.write mu he k heo new)
theorem Inv.weak {σ' : List (Option V)} (I : Inv X pins σ H s) (hl : σ'.length = σ.length) (w : ∀ (i : Nat) v, σ'[i]? = some (some v) → σ[i]? = some (some v)) : Inv X pins σ' H s :=
 ⟨I.ok, I.os, I.bare, I.base, let ⟨m, hn, hl'⟩ := I.loc; ⟨m, hn, fun i x v e1 e2 e3 => hl' i x v e1 (w i v e2) e3⟩, I.cell, I.free, I.freeC, I.pin, I.hok, hl.trans I.len⟩
theorem Inv.pins_of {pins' : List (Addr × Obj)} (I : Inv X pins σ H s) (h : ∀ p ∈ pins', s.heap.get? p.1 = some p.2 ∧ H p.1 = none ∧ p.1 ≠ X.env.locals ∧ p.1 ∉ X.fs ∧ ∀ v, p.2.data ≠ .cell v) : Inv X pins' σ H s :=
 ⟨I.ok, I.os, I.bare, I.base, I.loc, I.cell, I.free, I.freeC, fun p hp => (List.mem_append.mp hp).elim (fun z => I.pin p (List.mem_append_left _ z)) (h p), I.hok, I.len⟩
theorem nodup_ix {N : List Str} (hN : N.Nodup) {i j : Nat} {x : Str} (a : N[i]? = some x) (b : N[j]? = some x) : i = j := by
 obtain ⟨h1, e1⟩ := List.getElem?_eq_some_iff.mp a
 obtain ⟨h2, e2⟩ := List.getElem?_eq_some_iff.mp b
 exact (List.getElem_inj hN).mp (e1.trans e2.symm)
theorem store_ok2 {M : Model} {A : Around} {E : Value → Shared → Prop} {i : Nat} {x : Str} {v : V} {u : Value} {Q : Unit → Shared → Prop} (I : Inv X pins σ H s) (hN : X.N.Nodup) (hi : X.N[i]? = some x) (hx : Loc X.env.scope x) (r : RelV v u)
  (h : ∀ s', Inv X pins (σ.set i (some v)) H s' → (∃ a, Heap.SameBut a s.heap s'.heap ∧ (a = X.env.locals ∨ X.env.cells.lookup x = some a)) → Q () s') (hf : X.fn x = true ∨ X.env.scope.names.lookup x = some .local := by first | exact .inl rfl | exact .inr rfl | assumption) : wpAny M A (storeName X.env x u) Q E s := by
 obtain ⟨m, hn, hl⟩ := id I.loc
 have hcls : (X.env.scope.kind == .class || (X.env.scope.kind == .module && X.env.locals != X.env.globals)) = false := by rw [I.ok.kind]; rfl
 have hiσ : i < σ.length := by rw [I.len]; exact (List.getElem?_eq_some_iff.mp hi).1
 have cne := I.cne
 have tracked : ∀ {a : Addr} {h' : Heap}, (∃ o, s.heap.get? a = some o ∧ H a = none) → Heap.SameBut a s.heap h' → HOk X.prog X.w H h' := fun {a h'} ha hs b ob e => by
  obtain ⟨_, _, hfree⟩ := ha
  refine (I.hok b ob e).stay (fun c w' hc q => (hs.2 c ?_).trans q) (fun _ q => q) fun _ _ q => q
  rintro rfl
  rcases hc with rfl | hc
  ·rw [hfree] at e; cases e
  ·rw [hfree] at hc; cases hc
 rcases hx with hk | hk
 ·refine wpAny_storeName_local hk hn (fun h' hn' hs => ?_) hcls
  obtain ⟨oL, _, _, hoL, _⟩ := id hn
  refine h _ ⟨I.ok, I.os, I.bare, ⟨fun b o e n hb hx => ?_, fun b o e n hb hx => ?_, I.base.free, fun b o e hx => ?_, I.base.tups, I.base.frzs, I.base.tbls⟩, ⟨_, hn', fun j y v' e1 e2 e3 => ?_⟩, fun y c e => ?_, I.free, I.freeC, fun p hp => ?_, tracked ⟨oL, hoL, I.free⟩ hs, by simpa using I.len⟩ ⟨_, hs, .inl rfl⟩
  ·exact (hs.2 b (Nat.ne_of_lt (Nat.lt_of_lt_of_le (Heap.lt_size e) I.ok.above))).trans (I.base.keep b o e n hb hx)
  ·obtain ⟨sl, e1⟩ := I.base.slot b o e n hb hx
   exact ⟨sl, (hs.2 b (Nat.ne_of_lt (Nat.lt_of_lt_of_le (Heap.lt_size e) I.ok.above))).trans e1⟩
  ·obtain ⟨o', e1⟩ := I.base.there b o e hx
   exact ⟨o', (hs.2 b (Nat.ne_of_lt (Nat.lt_of_lt_of_le (Heap.lt_size e) I.ok.above))).trans e1⟩
  ·by_cases hj : j = i
   ·subst hj
    rw [hi] at e1; cases e1
    rw [List.getElem?_set_self hiσ] at e2
    cases e2
    exact ⟨u, r, .inl ⟨hk, by simp⟩⟩
   ·rw [List.getElem?_set_ne (Ne.symm hj)] at e2
    obtain ⟨u', r', q⟩ := hl j y v' e1 e2 e3
    refine ⟨u', r', ?_⟩
    rcases q with ⟨k, e⟩ | ⟨k, c, e, z⟩
    ·refine .inl ⟨k, ?_⟩
     have : y ≠ x := fun e => hj (nodup_ix hN e1 (e ▸ hi))
     simp [this, e]
    ·exact .inr ⟨k, c, e, z.sameBut hs (cne y c e)⟩
  ·obtain ⟨w', z⟩ := I.cell y c e
   exact ⟨w', z.sameBut hs (cne y c e)⟩
  ·obtain ⟨e, n, ne, nf, d⟩ := I.pin p hp
   exact ⟨(hs.2 p.1 ne).trans e, n, ne, nf, d⟩
 ·have hfn : X.fn x = true := by
   rcases hf with z | z
   ·exact z
   ·rw [z] at hk; cases hk
  obtain ⟨c, hc⟩ := I.ok.has x (.inl hk)
  obtain ⟨w', z⟩ := I.cell x c hc
  refine wpAny_storeName_cell I.ok.kind hk hc z (fun h' hc' hs => ?_)
  obtain ⟨oc, hoc, hocd⟩ := id z
  refine h { s with heap := h' } ⟨I.ok, I.os, I.bare, ⟨fun b o e n hb hx => ?_, fun b o e n hb hx => ?_, I.base.free, fun b o e hx => ?_, I.base.tups, I.base.frzs, I.base.tbls⟩, ⟨m, hn.sameBut hs (Ne.symm (cne x c hc)), fun j y v' e1 e2 e3 => ?_⟩, fun y c' e => ?_, I.free, I.freeC, fun p hp => ?_, tracked ⟨oc, hoc, I.freeC x c hc⟩ hs, by simpa using I.len⟩ ⟨c, hs, .inr hc⟩
  ·exact (hs.2 b (Nat.ne_of_lt (Nat.lt_of_lt_of_le (Heap.lt_size e) (I.ok.cab x c hfn hc)))).trans (I.base.keep b o e n hb hx)
  ·obtain ⟨sl, e1⟩ := I.base.slot b o e n hb hx
   exact ⟨sl, (hs.2 b (Nat.ne_of_lt (Nat.lt_of_lt_of_le (Heap.lt_size e) (I.ok.cab x c hfn hc)))).trans e1⟩
  ·obtain ⟨o', e1⟩ := I.base.there b o e hx
   exact ⟨o', (hs.2 b (Nat.ne_of_lt (Nat.lt_of_lt_of_le (Heap.lt_size e) (I.ok.cab x c hfn hc)))).trans e1⟩
  ·by_cases hj : j = i
   ·subst hj
    rw [hi] at e1; cases e1
    rw [List.getElem?_set_self hiσ] at e2
    cases e2
    exact ⟨u, r, .inr ⟨.inl hk, c, hc, hc'⟩⟩
   ·rw [List.getElem?_set_ne (Ne.symm hj)] at e2
    obtain ⟨u', r', q⟩ := hl j y v' e1 e2 e3
    refine ⟨u', r', ?_⟩
    rcases q with q | ⟨k, c', e, z'⟩
    ·exact .inl q
    ·refine .inr ⟨k, c', e, z'.sameBut hs ?_⟩
     rintro rfl
     exact hj (nodup_ix hN e1 (I.ok.inj _ _ _ e hc ▸ hi))
  ·by_cases hcc : c' = c
   ·subst hcc; exact ⟨_, hc'⟩
   ·obtain ⟨w2, z2⟩ := I.cell y c' e
    exact ⟨w2, z2.sameBut hs hcc⟩
  ·obtain ⟨e, n, ne, nf, d⟩ := I.pin p hp
   refine ⟨(hs.2 p.1 ?_).trans e, n, ne, nf, d⟩
   intro q
   rw [q, hoc] at e
   have q' : oc = p.2 := Option.some.inj e
   exact d w' (by rw [← q']; exact hocd)
theorem store_ok {M : Model} {A : Around} {E : Value → Shared → Prop} {i : Nat} {x : Str} {v : V} {u : Value} {Q : Unit → Shared → Prop} (I : Inv X pins σ H s) (hN : X.N.Nodup) (hi : X.N[i]? = some x) (hx : Loc X.env.scope x) (r : RelV v u)
  (h : ∀ s', Inv X pins (σ.set i (some v)) H s' → Q () s') (hf : X.fn x = true ∨ X.env.scope.names.lookup x = some .local := by first | exact .inl rfl | exact .inr rfl | assumption) : wpAny M A (storeName X.env x u) Q E s :=
 store_ok2 I hN hi hx r (fun s' I' _ => h s' I') hf
theorem Inv.call' {s' : Shared} {ch : List Addr} (I : Inv X pins σ H s) (ho : s'.os = s.os) (u : Un (frs X.stack) ch H H' s.heap s'.heap) (hok : HOk X.prog X.w H' s'.heap) (hg : AllBare s'.gens)
  (hch : ∀ b ∈ ch, (b ∈ X.ex ∨ X.s_0.heap.objs.size ≤ b) ∧ b ≠ X.env.locals ∧ (∀ x c, X.env.cells.lookup x = some c → c ≠ b) ∧ ∀ p ∈ X.pn ++ pins, p.1 ≠ b) : Inv X pins σ H' s' := by
 obtain ⟨h', g', d', t', o'⟩ := s'
 have e : o' = s.os := ho
 subst e
 exact I.call (g' := g') (t' := t') (d' := d') u hok hg hch
end
abbrev XK := Value → Option Addr → Hp → Prop
abbrev St := List (Option V)
abbrev VK := V → Hp → Prop
abbrev TE := St → Hp → VK → Prop
abbrev TT := St → Hp → (Bool → Hp → Prop) → Prop
abbrev TA := St → Hp → (List V → Hp → Prop) → Prop
structure Ends where
 nx : St → Hp → Prop
 rt : VK
 bk : St → Hp → Prop := fun _ _ => False
 ct : St → Hp → Prop := fun _ _ => False
abbrev TS := Ends → St → Hp → Prop
def EP (X : Cx) (pins : List (Addr × Obj)) (σ : St) (Q : VK) (u : Value) (s' : Shared) : Prop := ∃ v H', Inv X pins σ H' s' ∧ RelV v u ∧ Q v H'
def TP (X : Cx) (pins : List (Addr × Obj)) (σ : St) (Q : Bool → Hp → Prop) (b : Bool) (s' : Shared) : Prop := ∃ H', Inv X pins σ H' s' ∧ Q b H'
def AP (X : Cx) (pins : List (Addr × Obj)) (σ : St) (Q : List V → Hp → Prop) (us : List Value) (s' : Shared) : Prop := ∃ vs H', Inv X pins σ H' s' ∧ Vals vs us ∧ Q vs H'
def SP (X : Cx) (pins : List (Addr × Obj)) (D : Ends) (f : Flow) (s' : Shared) : Prop :=
 match f with
 | .next => ∃ σ' H', Inv X pins σ' H' s' ∧ D.nx σ' H'
 | .brk => ∃ σ' H', Inv X pins σ' H' s' ∧ D.bk σ' H'
 | .cont => ∃ σ' H', Inv X pins σ' H' s' ∧ D.ct σ' H'
 | .ret u => ∃ v σ' H', Inv X pins σ' H' s' ∧ RelV v u ∧ D.rt v H'
def PE (X : Cx) (e : Expr) (t : TE) : Prop :=
 ∀ (pins : List (Addr × Obj)) (s : Shared) (σ : St) (H : Hp) (Q : VK), Inv X pins σ H s → t σ H Q → wpAny (model X.prog X.w) X.A (eval e X.env) (EP X pins σ Q) X.xe s
def PT (X : Cx) (e : Expr) (t : TT) : Prop :=
 ∀ (pins : List (Addr × Obj)) (s : Shared) (σ : St) (H : Hp) (Q : Bool → Hp → Prop), Inv X pins σ H s → t σ H Q → wpAny (model X.prog X.w) X.A (isTrue e X.env (eval e X.env)) (TP X pins σ Q) X.xe s
def PW (X : Cx) (e : Expr) (t : TT) : Prop :=
 ∀ (whole : Sem Value) (pins : List (Addr × Obj)) (s : Shared) (σ : St) (H : Hp) (Q : Bool → Hp → Prop), Inv X pins σ H s → t σ H Q → wpAny (model X.prog X.w) X.A (isTrue e X.env whole) (TP X pins σ Q) X.xe s
theorem PW.pt {X : Cx} {e : Expr} {t : TT} (h : PW X e t) : PT X e t := h _
def PA (X : Cx) (es : List Expr) (t : TA) : Prop :=
 ∀ (pos : Pos) (pins : List (Addr × Obj)) (s : Shared) (σ : St) (H : Hp) (Q : List V → Hp → Prop), Inv X pins σ H s → t σ H Q → wpAny (model X.prog X.w) X.A (spliced (backTo pos (starEach es X.env))) (AP X pins σ Q) X.xe s
def PS (X : Cx) (st : Stmt) (t : TS) : Prop :=
 ∀ (pins : List (Addr × Obj)) (s : Shared) (σ : St) (H : Hp) (D : Ends), Inv X pins σ H s → t D σ H → wpAny (model X.prog X.w) X.A (exec st X.env) (SP X pins D) X.xe s
def PSs (X : Cx) (st : List Stmt) (t : TS) : Prop :=
 ∀ (pins : List (Addr × Obj)) (s : Shared) (σ : St) (H : Hp) (D : Ends), Inv X pins σ H s → t D σ H → wpAny (model X.prog X.w) X.A (execs st X.env) (SP X pins D) X.xe s
theorem thn {α : Type} {t : Sem α} {Q Q' : α → Shared → Prop} {M : Model} {A : Around} {E : Value → Shared → Prop} {s : Shared} (h : wpAny M A t Q E s) (hQ : ∀ a s, Q a s → Q' a s) : wpAny M A t Q' E s := wpAny_mono h hQ fun _ _ x => x
end L2
namespace L2
open PySem PySem.Spec PyProof.Rows
section
variable {X : Cx}
def tVar (i : Nat) : TE := fun σ H Q => ∃ v, σ[i]? = some (some v) ∧ Q v H
def tC (v : V) : TE := fun _ H Q => Q v H
theorem pe_var {i : Nat} {x : Str} {pos : Pos} (hN : X.N[i]? = some x) (hv : Vis X.env.scope x) (hd : (x == ("__debug__" : Str)) = false := by decide) (hcd : (x == ("__classdict__" : Str)) = false := by decide) : PE X (.Name x pos) (tVar i) := by
 intro pins s σ H Q I h
 obtain ⟨v, e, h⟩ := h
 obtain ⟨m, hn, hl⟩ := I.loc
 obtain ⟨u, r, l⟩ := hl i x v hN e hv
 have fin : EP X pins σ Q u s := ⟨v, H, I, r, h⟩
 rcases l with ⟨hk, hm⟩ | ⟨hk, c, hc, hcell⟩
 ·exact wpAny_Name (wpAny_loadName_local I.ok.kind hk hn hm fin) hd
 ·rcases hk with hk | hk
  ·exact wpAny_Name (wpAny_loadName_cell I.ok.kind hk hc hcell fin) hd
  ·exact wpAny_Name (wpAny_loadName_free I.ok.kind hk hc hcell fin hcd) hd
theorem pe_int {i j pos} : PE X (.Constant (.int i) j pos) (tC (.int i)) := fun _ _ _ H _ I h => wpAny_Constant_int ⟨.int i, H, I.tok _, ⟨_, rfl⟩, h⟩
theorem pe_bl {b j pos} : PE X (.Constant (.bool b) j pos) (tC (.bl b)) := fun _ _ _ H _ I h => Constant_bool ⟨.bl b, H, I, rfl, h⟩
theorem pe_non {j pos} : PE X (.Constant .none j pos) (tC .non) := fun _ _ _ H _ I h => Constant_none ⟨.non, H, I, rfl, h⟩
def Gl (X : Cx) (x : Str) : Prop := X.env.kindOf x = some .globalImplicit
theorem ld_glob {E : Value → Shared → Prop} {pins : List (Addr × Obj)} {s : Shared} {σ : St} {H : Hp} {x : Str} {u : Value} {pos : Pos} {Q : Value → Shared → Prop} (I : Inv X pins σ H s) (hg : Gl X x) (hm : X.mg x = some u) (h : Q u s)
  (hd : (x == ("__debug__" : Str)) = false := by decide) : wpAny (model X.prog X.w) X.A (eval (.Name x pos) X.env) Q E s :=
 Calls.Name_function_global I.ok.kind hg (Calls.loadGlobal_global (by rw [I.ok.glob]; exact I.mod.glob.keeps I.bk) hm h) hd
theorem ld_blt {E : Value → Shared → Prop} {pins : List (Addr × Obj)} {s : Shared} {σ : St} {H : Hp} {x : Str} {u : Value} {pos : Pos} {Q : Value → Shared → Prop} (I : Inv X pins σ H s) (hg : Gl X x) (hm : X.mg x = none) (hv : bootBuiltins x = some u) (h : Q u s)
  (hn : x ≠ "__name__" := by decide) (hd : (x == ("__debug__" : Str)) = false := by decide) : wpAny (model X.prog X.w) X.A (eval (.Name x pos) X.env) Q E s := by
 obtain ⟨mb, h1, h2⟩ := I.mod.blt
 exact Calls.Name_function_global I.ok.kind hg (Calls.loadGlobal_builtin (by rw [I.ok.glob]; exact I.mod.glob.keeps I.bk) hm (by rw [I.ok.blt]; exact h1.keeps I.bk) ((h2 x hn).trans hv) h) hd
theorem pe_glob {x : Str} {v : V} {u : Value} {pos : Pos} (hg : Gl X x) (hm : X.mg x = some u) (r : RelV v u) (hd : (x == ("__debug__" : Str)) = false := by decide) : PE X (.Name x pos) (tC v) :=
 fun _ _ _ H _ I h => ld_glob I hg hm ⟨v, H, I, r, h⟩ hd
variable {a b : Expr} {ta tb : TE} {pos : Pos}
variable {tA tB' : TT} {rest : List Expr}
def tAnd (t u : TT) : TT := fun σ H Q => t σ H fun c H1 => if c = true then u σ H1 Q else Q false H1
def tOr (t u : TT) : TT := fun σ H Q => t σ H fun c H1 => if c = true then Q true H1 else u σ H1 Q
def tNot (t : TT) : TT := fun σ H Q => t σ H fun c H1 => Q (!c) H1
theorem pw_and1 (ha : PT X a tA) : PW X (.BoolOp .And [a] pos) tA := by
 intro wh pins s σ H Q I h
 refine isTrue_and (thn (ha pins s σ H Q I h) fun c s1 e => ?_)
 cases c with
 | true => exact isTrue_and_nil e
 | false => exact e
theorem pw_or1 (ha : PT X a tA) : PW X (.BoolOp .Or [a] pos) tA := by
 intro wh pins s σ H Q I h
 refine isTrue_or (thn (ha pins s σ H Q I h) fun c s1 e => ?_)
 cases c with
 | false => exact isTrue_or_nil e
 | true => exact e
theorem pw_and (ha : PT X a tA) (hb : PW X (.BoolOp .And (b :: rest) pos) tB') : PW X (.BoolOp .And (a :: b :: rest) pos) (tAnd tA tB') := by
 intro wh pins s σ H Q I h
 refine isTrue_and (thn (ha pins s σ H _ I h) fun c s1 ⟨H1, I1, q1⟩ => ?_)
 cases c with
 | true => exact hb wh pins s1 σ H1 Q I1 q1
 | false => exact ⟨H1, I1, q1⟩
theorem pw_or (ha : PT X a tA) (hb : PW X (.BoolOp .Or (b :: rest) pos) tB') : PW X (.BoolOp .Or (a :: b :: rest) pos) (tOr tA tB') := by
 intro wh pins s σ H Q I h
 refine isTrue_or (thn (ha pins s σ H _ I h) fun c s1 ⟨H1, I1, q1⟩ => ?_)
 cases c with
 | true => exact ⟨H1, I1, q1⟩
 | false => exact hb wh pins s1 σ H1 Q I1 q1
theorem pt_not (ha : PT X a tA) : PT X (.UnaryOp .Not a pos) (tNot tA) := by
 intro pins s σ H Q I h
 exact isTrue_not (ha pins s σ H (fun c H1 => Q (!c) H1) I h)
def tAndV (ta tb : TE) : TE := fun σ H Q => ta σ H fun x H1 => ∃ c, x = .bl c ∧ if c = true then tb σ H1 Q else Q (.bl false) H1
def tOrV (ta tb : TE) : TE := fun σ H Q => ta σ H fun x H1 => ∃ c, x = .bl c ∧ if c = true then Q (.bl true) H1 else tb σ H1 Q
def tNotV (ta : TE) : TE := fun σ H Q => ta σ H fun x H1 => ∃ c, x = .bl c ∧ Q (.bl (!c)) H1
theorem pe_one {op} {t : TE} (h : PE X a t) : PE X (.BoolOp op [a] pos) t := fun pins s σ H Q I hw => BoolOp_one (h pins s σ H Q I hw)
theorem pe_and (ha : PE X a ta) (hb : PE X (.BoolOp .And (b :: rest) pos) tb) : PE X (.BoolOp .And (a :: b :: rest) pos) (tAndV ta tb) := by
 intro pins s σ H Q I h
 refine BoolOp_and (thn (ha pins s σ H _ I h) fun v s1 ⟨x, H1, I1, r1, q1⟩ => ?_)
 obtain ⟨c, rfl, q1⟩ := q1
 cases r1
 refine wpAny_truthy_bool ?_
 cases c with
 | true => exact hb pins s1 σ H1 Q I1 q1
 | false => exact ⟨.bl false, H1, I1, rfl, q1⟩
theorem pe_or (ha : PE X a ta) (hb : PE X (.BoolOp .Or (b :: rest) pos) tb) : PE X (.BoolOp .Or (a :: b :: rest) pos) (tOrV ta tb) := by
 intro pins s σ H Q I h
 refine BoolOp_or (thn (ha pins s σ H _ I h) fun v s1 ⟨x, H1, I1, r1, q1⟩ => ?_)
 obtain ⟨c, rfl, q1⟩ := q1
 cases r1
 refine wpAny_truthy_bool ?_
 cases c with
 | false => exact hb pins s1 σ H1 Q I1 q1
 | true => exact ⟨.bl true, H1, I1, rfl, q1⟩
theorem pe_not (ha : PE X a ta) : PE X (.UnaryOp .Not a pos) (tNotV ta) := by
 intro pins s σ H Q I h
 refine UnaryOp_ (thn (ha pins s σ H _ I h) fun v s1 ⟨x, H1, I1, r1, q1⟩ => ?_)
 obtain ⟨c, rfl, q1⟩ := q1
 cases r1
 exact not_of (wpAny_truthy_bool ⟨.bl (!c), H1, I1, rfl, q1⟩)
def tIf (t : TT) (ta tb : TE) : TE := fun σ H Q => t σ H fun c H1 => if c = true then ta σ H1 Q else tb σ H1 Q
theorem pe_ifExp {c : Expr} (hc : PT X c tA) (ha : PE X a ta) (hb : PE X b tb) : PE X (.IfExp c a b pos) (tIf tA ta tb) := by
 intro pins s σ H Q I h
 refine wpAny_IfExp (thn (hc pins s σ H _ I h) fun d s1 ⟨H1, I1, q1⟩ => ?_)
 cases d with
 | true => exact ha pins s1 σ H1 Q I1 q1
 | false => exact hb pins s1 σ H1 Q I1 q1
end
end L2
namespace L2
open PySem PySem.Spec PyProof.Rows
def SqL (K : PySem.W.Frag) (H : Hp) (a : Addr) (xs : List V) : Prop :=
 Rd H a (.lst xs) ∨
  ∃ (o : Obj) (its : Array Value) (n : Nat), K.lookup a = some o ∧ o.cls = .type "list" ∧ o.dict = none ∧ o.data = .seq its n ∧ its.size ≤ sizeLine ∧ Vals xs its.toList
def SqT (K : PySem.W.Frag) (H : Hp) (a : Addr) (xs : List V) : Prop :=
 Rd H a (.tup xs) ∨
  ∃ (o : Obj) (its : Array Value) (n : Nat), K.lookup a = some o ∧ o.cls = .type "tuple" ∧ o.data = .seq its n ∧ its.size ≤ sizeLine ∧ Vals xs its.toList
def absV : Value → Option V
 | .none => some .non
 | .bool b => some (.bl b)
 | .int i _ => some (.int i)
 | .str x _ => some (.str x)
 | .bytes b _ => some (.byt b)
 | .float b _ => some (.flt b)
 | .ref a => some (.ref a)
 | .type n => some (.ty n)
 | _ => none
theorem RelV.abs {x : V} {u : Value} (r : RelV x u) : absV u = some x := by
 cases x with
 | non => cases r; rfl
 | bl _ => cases r; rfl
 | int _ => obtain ⟨t, rfl⟩ := r; rfl
 | str _ => obtain ⟨t, rfl⟩ := r; rfl
 | byt _ => obtain ⟨t, rfl⟩ := r; rfl
 | flt _ => obtain ⟨t, rfl⟩ := r; rfl
 | ref _ => cases r; rfl
 | ty _ => cases r; rfl
theorem RelV.inj {x y : V} {u : Value} (r : RelV x u) (q : RelV y u) : x = y := Option.some.inj (r.abs.symm.trans q.abs)
theorem Vals.inj : ∀ {xs ys : List V} {us : List Value}, Vals xs us → Vals ys us → xs = ys
 | _, _, _, .nil, .nil => rfl
 | _, _, _, .cons r t, .cons r' t' => by rw [r.inj r', Vals.inj t t']
section
variable {X : Cx} {pins : List (Addr × Obj)} {σ : St} {H : Hp} {s : Shared} {a : Addr} {xs ys : List V}
theorem SqL.of {K : PySem.W.Frag} (h : H a = some (.lst xs)) : SqL K H a xs := .inl (.inl h)
theorem SqT.of {K : PySem.W.Frag} (h : H a = some (.tup xs)) : SqT K H a xs := .inl (.inl h)
theorem Inv.list (I : Inv X pins σ H s) (h : SqL X.K H a xs) : ∃ its : List Value, Vals xs its ∧ PlainL s.heap a its.toArray ∧ xs.length ≤ sizeLine := by
 rcases h with h | ⟨o, its, n, hk, hc, hd, hs, hz, r⟩
 ·obtain ⟨z, its, n, r, e⟩ := h.ok I.hok
  exact ⟨its, r, ⟨_, n, e, rfl, rfl, rfl⟩, z⟩
 ·refine ⟨its.toList, r, ⟨o, n, I.kIn a o hk, hc, hd, by simpa using hs⟩, ?_⟩
  have e := r.length
  simp only [Array.length_toList] at e
  omega
theorem Inv.tuple (I : Inv X pins σ H s) (h : SqT X.K H a xs) : ∃ its : List Value, Vals xs its ∧ IsTup s.heap a its.toArray ∧ xs.length ≤ sizeLine := by
 rcases h with h | ⟨o, its, n, hk, hc, hs, hz, r⟩
 ·obtain ⟨z, its, r, p⟩ := h.ok I.hok
  exact ⟨its, r, p, z⟩
 ·refine ⟨its.toList, r, ⟨o, I.kIn a o hk, hc, n, by simpa using hs⟩, ?_⟩
  have e := r.length
  simp only [Array.length_toList] at e
  omega
theorem Inv.list_inj (I : Inv X pins σ H s) (h : SqL X.K H a xs) (h' : SqL X.K H a ys) : xs = ys := by
 obtain ⟨its, r, ⟨o, n, e, _, _, d⟩, _⟩ := I.list h
 obtain ⟨its', r', ⟨o', n', e', _, _, d'⟩, _⟩ := I.list h'
 rw [e] at e'; cases e'
 rw [d] at d'
 injection d' with d1 _
 have : its = its' := by simpa using congrArg Array.toList d1
 subst this
 exact r.inj r'
theorem Inv.tuple_inj (I : Inv X pins σ H s) (h : SqT X.K H a xs) (h' : SqT X.K H a ys) : xs = ys := by
 obtain ⟨its, r, ⟨o, e, _, n, d⟩, _⟩ := I.tuple h
 obtain ⟨its', r', ⟨o', e', _, n', d'⟩, _⟩ := I.tuple h'
 rw [e] at e'; cases e'
 rw [d] at d'
 injection d' with d1 _
 have : its = its' := by simpa using congrArg Array.toList d1
 subst this
 exact r.inj r'
end
abbrev Cx.wish (X : Cx) (E : Value → Shared → Prop) : Cx := { X with xe := E }
abbrev Cx.nox (X : Cx) : Cx := X.wish fun _ _ => False
theorem Cx.Ok.wish {X : Cx} (ok : X.Ok) (E : Value → Shared → Prop) : (X.wish E).Ok :=
 ⟨ok.mod, ok.kind, ok.glob, ok.blt, ok.above, ok.inj, ok.has, ok.cab, ok.hd, ok.frames, ok.stk, ok.exf, ok.bs, ok.bsz, ok.noex, ok.exfs, ok.funs, ok.frf⟩
theorem Cx.Ok.unwish {X : Cx} {E : Value → Shared → Prop} (ok : (X.wish E).Ok) : X.Ok :=
 ⟨ok.mod, ok.kind, ok.glob, ok.blt, ok.above, ok.inj, ok.has, ok.cab, ok.hd, ok.frames, ok.stk, ok.exf, ok.bs, ok.bsz, ok.noex, ok.exfs, ok.funs, ok.frf⟩
section
variable {X : Cx} {pins : List (Addr × Obj)} {σ : St} {H : Hp} {s : Shared} {E : Value → Shared → Prop}
theorem Inv.wish (I : Inv X pins σ H s) (E : Value → Shared → Prop) : Inv (X.wish E) pins σ H s := ⟨I.ok.wish E, I.os, I.bare, I.base, I.loc, I.cell, I.free, I.freeC, I.pin, I.hok, I.len⟩
theorem Inv.unwish (I : Inv (X.wish E) pins σ H s) : Inv X pins σ H s := ⟨I.ok.unwish, I.os, I.bare, I.base, I.loc, I.cell, I.free, I.freeC, I.pin, I.hok, I.len⟩
theorem SP.unwish {D : Ends} {f : Flow} {s' : Shared} (h : SP (X.wish E) pins D f s') : SP X pins D f s' := by
 cases f with
 | next => obtain ⟨σ', H', I, q⟩ := h; exact ⟨σ', H', I.unwish, q⟩
 | brk => obtain ⟨σ', H', I, q⟩ := h; exact ⟨σ', H', I.unwish, q⟩
 | cont => obtain ⟨σ', H', I, q⟩ := h; exact ⟨σ', H', I.unwish, q⟩
 | ret u => obtain ⟨v, σ', H', I, r, q⟩ := h; exact ⟨v, σ', H', I.unwish, r, q⟩
theorem PE.nox {e : Expr} {t : TE} (h : PE X.nox e t) : PE X e t := fun pins s σ H Q I hw =>
 wpAny_mono (h pins s σ H Q (I.wish _) hw) (fun _ _ ⟨v, H', I', r, q⟩ => ⟨v, H', I'.unwish, r, q⟩) fun _ _ z => False.elim z
theorem PT.nox {e : Expr} {t : TT} (h : PT X.nox e t) : PT X e t := fun pins s σ H Q I hw =>
 wpAny_mono (h pins s σ H Q (I.wish _) hw) (fun _ _ ⟨H', I', q⟩ => ⟨H', I'.unwish, q⟩) fun _ _ z => False.elim z
theorem PSs.nox {st : List Stmt} {t : TS} (h : PSs X.nox st t) : PSs X st t := fun pins s σ H D I hw =>
 wpAny_mono (h pins s σ H D (I.wish _) hw) (fun _ _ q => q.unwish) fun _ _ z => False.elim z
end
section
variable {X : Cx} {st : Stmt} {rest : List Stmt} {t u : TS} {e : Expr} {te : TE} {pos : Pos}
def tNext : TS := fun D σ H => D.nx σ H
def tSeq (t u : TS) : TS := fun D σ H => t { D with nx := u D } σ H
theorem pss_nil : PSs X [] tNext := fun _ _ σ H _ I h => wpAny_execs_nil ⟨σ, H, I, h⟩
theorem pss_cons (h1 : PS X st t) (h2 : PSs X rest u) : PSs X (st :: rest) (tSeq t u) := by
 intro pins s σ H D I h
 refine wpAny_execs_cons (thn (h1 pins s σ H { D with nx := u D } I h) fun f s1 q => ?_)
 cases f with
 | next =>
  obtain ⟨σ', H', I', q⟩ := q
  exact h2 pins s1 σ' H' D I' q
 | ret v => exact q
 | brk => exact q
 | cont => exact q
theorem pss_one (h1 : PS X st t) : PSs X [st] t := by
 intro pins s σ H D I h
 refine wpAny_execs_cons (thn (h1 pins s σ H D I h) fun f s1 q => ?_)
 cases f with
 | next => exact wpAny_execs_nil q
 | ret v => exact q
 | brk => exact q
 | cont => exact q
theorem Inv.quiet {pins : List (Addr × Obj)} {σ : St} {H : Hp} {s : Shared} (I : Inv X pins σ H s) : interactive X.env = false := by simp [interactive, I.ok.kind]
def tDrop (te : TE) : TS := fun D σ H => te σ H fun _ H1 => D.nx σ H1
theorem ps_expr (he : PE X e te) (hs : swapsWith e none pos.line X.env = pure false := by rfl) : PS X (.Expr e pos) (tDrop te) := by
 intro pins s σ H D I h
 exact wpAny_Expr_any (thn (he pins s σ H _ I h) fun v s1 ⟨x, H1, I1, r1, q1⟩ => ⟨σ, H1, I1, q1⟩) I.quiet hs
def tRet (te : TE) : TS := fun D σ H => te σ H D.rt
theorem ps_ret (he : PE X e te) : PS X (.Return (some e) pos) (tRet te) := by
 intro pins s σ H D I h
 exact wpAny_Return_some (thn (he pins s σ H _ I h) fun v s1 ⟨x, H1, I1, r1, q1⟩ => ⟨x, σ, H1, I1, r1, q1⟩)
def tIfS (c : TT) (t u : TS) : TS := fun D σ H => c σ H fun b H1 => if b = true then t D σ H1 else u D σ H1
theorem ps_if {c : Expr} {a b : List Stmt} {tc : TT} (hc : PT X c tc) (ha : PSs X a t) (hb : PSs X b u) : PS X (.If c a b pos) (tIfS tc t u) := by
 intro pins s σ H D I h
 refine wpAny_If (thn (hc pins s σ H _ I h) fun d s1 ⟨H1, I1, q1⟩ => ?_)
 cases d with
 | true => exact ha pins s1 σ H1 D I1 q1
 | false => exact hb pins s1 σ H1 D I1 q1
end
abbrev TG := V → St → Hp → (St → Hp → Prop) → Prop
abbrev TGs := List V → St → Hp → (St → Hp → Prop) → Prop
def PG (X : Cx) (target : Expr) (t : TG) : Prop :=
 ∀ (pins : List (Addr × Obj)) (s : Shared) (σ : St) (H : Hp) (v : V) (u : Value) (Q : St → Hp → Prop), Inv X pins σ H s → RelV v u → t v σ H Q →
  wpAny (model X.prog X.w) X.A (assign target X.env u) (fun _ s' => ∃ σ' H', Inv X pins σ' H' s' ∧ Q σ' H') X.xe s
def PGs (X : Cx) (ts : List Expr) (t : TGs) : Prop :=
 ∀ (pins : List (Addr × Obj)) (s : Shared) (σ : St) (H : Hp) (vs : List V) (us : List Value) (Q : St → Hp → Prop), Inv X pins σ H s → Vals vs us → t vs σ H Q →
  wpAny (model X.prog X.w) X.A (assignInOrder ((assignEach ts X.env).map (·.2)) us) (fun _ s' => ∃ σ' H', Inv X pins σ' H' s' ∧ Q σ' H') X.xe s
abbrev TSet := V → V → V → Hp → (Hp → Prop) → Prop
def PSet (X : Cx) (t : TSet) : Prop :=
 ∀ (pins : List (Addr × Obj)) (s : Shared) (σ : St) (H : Hp) (o i v : V) (ov iv u : Value) (Q : Hp → Prop), Inv X pins σ H s → RelV o ov → RelV i iv → RelV v u → t o i v H Q →
  wpAny (model X.prog X.w) X.A (setItem ov iv u) (fun _ s' => ∃ H', Inv X pins σ H' s' ∧ Q H') X.xe s
abbrev TIp := V → V → Hp → VK → Prop
def PIp (X : Cx) (op : Operator) (t : TIp) : Prop :=
 ∀ (pins : List (Addr × Obj)) (s : Shared) (σ : St) (H : Hp) (x y : V) (v u : Value) (Q : VK), Inv X pins σ H s → RelV x v → RelV y u → t x y H Q →
  wpAny (model X.prog X.w) X.A (inplaceOp op v u) (EP X pins σ Q) X.xe s
section
variable {X : Cx} {pos : Pos}
def gName (i : Nat) : TG := fun v σ H Q => Q (σ.set i (some v)) H
theorem pg_name {i : Nat} {x : Str} (hN : X.N.Nodup) (hi : X.N[i]? = some x) (hx : Loc X.env.scope x) (hf : X.fn x = true ∨ X.env.scope.names.lookup x = some .local := by first | exact .inl rfl | exact .inr rfl | assumption) : PG X (.Name x pos) (gName i) := by
 intro pins s σ H v u Q I r h
 exact wpAny_assign_Name (store_ok I hN hi hx r (fun s' I' => ⟨_, H, I', h⟩) hf)
def gNil : TGs := fun vs σ H Q => vs = [] ∧ Q σ H
def gCons (t : TG) (u : TGs) : TGs := fun vs σ H Q => ∃ v r, vs = v :: r ∧ t v σ H fun σ' H' => u r σ' H' Q
theorem pgs_nil : PGs X [] gNil := by
 intro pins s σ H vs us Q I r h
 obtain ⟨e, h⟩ := h
 subst e
 cases r
 exact assignInOrder_nil ⟨σ, H, I, h⟩
theorem pgs_cons {e : Expr} {es : List Expr} {t : TG} {u : TGs} (h1 : PG X e t) (h2 : PGs X es u)
  (hs : (assignEach (e :: es) X.env).map (·.2) = assign e X.env :: (assignEach es X.env).map (·.2) := by rfl) : PGs X (e :: es) (gCons t u) := by
 intro pins s σ H vs us Q I r h
 obtain ⟨v, vr, e1, h⟩ := h
 subst e1
 cases r with
 | cons r rr =>
  rw [hs]
  refine assignInOrder_cons (thn (h1 pins s σ H _ _ _ I r h) fun _ s1 ⟨σ1, H1, I1, q1⟩ => ?_)
  exact h2 pins s1 σ1 H1 _ _ Q I1 rr q1
def gTup (K : PySem.W.Frag) (n : Nat) (t : TGs) : TG := fun v σ H Q => ∃ a xs, v = .ref a ∧ SqT K H a xs ∧ xs.length = n ∧ t xs σ H Q
theorem pg_tup {es : List Expr} {k : Nat} {t : TGs} {n : Nat} (hc : X.calm = true) (h : PGs X es t)
  (hn : (assignEach es X.env).length = n := by rfl) (hst : (assignEach es X.env).findIdx? (·.1) = none := by rfl) : PG X (.Tuple es k pos) (gTup X.K n t) := by
 intro pins s σ H v u Q I r hw
 obtain ⟨a, xs, e1, hq, hl, hw⟩ := hw
 subst e1
 cases r
 obtain ⟨its, rv, ht, hz⟩ := I.tuple hq
 refine assign_Tuple_tuple (I.ok.hd hc) ht (by simp [hn, ← hl, rv.length]) hst fun h' hx => ?_
 have I1 : Inv X pins σ H { s with heap := h' } := I.kept (t' := s.toks) fun b o e => hx b o (Nat.ne_of_lt (Heap.lt_size e)) e
 exact h pins _ σ H xs _ Q I1 (by simpa using rv) hw
def gSub (to ti : TE) (t : TSet) : TG := fun v σ H Q => to σ H fun o H1 => ti σ H1 fun i H2 => t o i v H2 fun H3 => Q σ H3
theorem pg_sub {o i : Expr} {to ti : TE} {t : TSet} (ho : PE X o to) (hi : PE X i ti) (hs : PSet X t)
  (ha : ∀ v, assign (.Subscript o i pos) X.env v = (do
   let ov ← holding [v] (eval o X.env)
   let iv ← holding [v, ov] (eval i X.env)
   standAt pos
   holding [v, ov, iv] (setItem ov iv v)
   release [v, ov, iv] []) := by intro _; rfl) : PG X (.Subscript o i pos) (gSub to ti t) := by
 intro pins s σ H v u Q I r h
 rw [ha]
 refine wpAny_bind (wpAny_holding (thn (ho pins s σ H _ I h) fun ov s1 ⟨x, H1, I1, r1, q1⟩ => ?_))
 refine wpAny_bind (wpAny_holding (thn (hi pins s1 σ H1 _ I1 q1) fun iv s2 ⟨y, H2, I2, r2, q2⟩ => ?_))
 refine wpAny_bind (wpAny_standAt (wpAny_bind (wpAny_holding (thn (hs pins s2 σ H2 x y v ov iv u _ I2 r1 r2 r q2) fun _ s3 ⟨H3, I3, q3⟩ => ?_))))
 exact wpAny_release ⟨σ, H3, I3, q3⟩
def tAsg (te : TE) (g : TG) : TS := fun D σ H => te σ H fun x H1 => g x σ H1 D.nx
theorem ps_asg {tg e : Expr} {te : TE} {g : TG} (he : PE X e te) (hg : PG X tg g) (hs : swapsWithSole [tg] e pos.line X.env = pure false := by rfl) (hw : swappedStores [tg] e X.env = pure none := by rfl)
  (h1 : (assignEach [tg] X.env).map (·.2) = [assign tg X.env] := by rfl) : PS X (.Assign [tg] e pos) (tAsg te g) := by
 intro pins s σ H D I h
 refine wpAny_Assign_stores (thn (he pins s σ H _ I h) fun v s1 ⟨x, H1, I1, r1, q1⟩ => ?_) hs hw
 rw [h1]
 exact thn (hg pins s1 σ H1 x v _ I1 r1 q1) fun _ s2 q => q
theorem ps_set {i : Nat} {x : Str} {e : Expr} {te : TE} {pos' : Pos} (hN : X.N.Nodup) (hi : X.N[i]? = some x) (hx : Loc X.env.scope x) (he : PE X e te) (hs : swapsWith e (some (.Name x pos')) pos.line X.env = pure false := by rfl) (hf : X.fn x = true ∨ X.env.scope.names.lookup x = some .local := by first | exact .inl rfl | exact .inr rfl | assumption) :
  PS X (.Assign [.Name x pos'] e pos) (tAsg te (gName i)) := by
 intro pins s σ H D I h
 refine wpAny_Assign_Name (thn (he pins s σ H _ I h) fun v s1 ⟨y, H1, I1, r1, q1⟩ => ?_) hs
 exact store_ok I1 hN hi hx r1 (fun s2 I2 => ⟨_, H1, I2, q1⟩) hf
def tAug (i : Nat) (te : TE) (ti : TIp) : TS := fun D σ H => ∃ x, σ[i]? = some (some x) ∧ te σ H fun y H1 => ti x y H1 fun z H2 => D.nx (σ.set i (some z)) H2
theorem ps_aug {i : Nat} {x : Str} {e : Expr} {te : TE} {op : Operator} {ti : TIp} {pos' : Pos} (hN : X.N.Nodup) (hi : X.N[i]? = some x) (hx : Loc X.env.scope x) (he : PE X e te) (ho : PIp X op ti) (hf : X.fn x = true ∨ X.env.scope.names.lookup x = some .local := by first | exact .inl rfl | exact .inr rfl | assumption) :
  PS X (.AugAssign (.Name x pos') op e pos) (tAug i te ti) := by
 intro pins s σ H D I h
 obtain ⟨v, e1, h⟩ := h
 obtain ⟨m, hn, hl⟩ := I.loc
 have vis : Vis X.env.scope x := by rcases hx with k | k; exact .inl k; exact .inr (.inl k)
 obtain ⟨u, r, l⟩ := hl i x v hi e1 vis
 refine wpAny_AugAssign_Name ?_
 have go : wpAny (model X.prog X.w) X.A (eval e X.env) (fun w s₂ => wpAny (model X.prog X.w) X.A (inplaceOp op u w) (fun r s₃ => wpAny (model X.prog X.w) X.A (storeName X.env x r) (fun _ => SP X pins D .next) X.xe s₃) X.xe s₂) X.xe s := by
  refine thn (he pins s σ H _ I h) fun w s1 ⟨y, H1, I1, r1, q1⟩ => ?_
  refine thn (ho pins s1 σ H1 v y u w _ I1 r r1 q1) fun z s2 ⟨zv, H2, I2, r2, q2⟩ => ?_
  exact store_ok I2 hN hi hx r2 (fun s3 I3 => ⟨_, H2, I3, q2⟩) hf
 rcases l with ⟨hk, hm⟩ | ⟨hk, c, hc, hcell⟩
 ·exact wpAny_loadName_local I.ok.kind hk hn hm go
 ·rcases hk with hk | hk
  ·exact wpAny_loadName_cell I.ok.kind hk hc hcell go
  ·rcases hx with k | k
   ·have : X.env.scope.names.lookup x = some .free := hk
    rw [k] at this; cases this
   ·have : X.env.scope.names.lookup x = some .free := hk
    rw [k] at this; cases this
def tAugS (to ti te : TE) (tget : V → V → Hp → VK → Prop) (tip : TIp) (tset : TSet) : TS := fun D σ H => to σ H fun o H1 => ti σ H1 fun i H2 => tget o i H2 fun x H3 => te σ H3 fun y H4 => tip x y H4 fun z H5 => tset o i z H5 fun H6 => D.nx σ H6
def PGet (X : Cx) (t : V → V → Hp → VK → Prop) : Prop :=
 ∀ (pins : List (Addr × Obj)) (s : Shared) (σ : St) (H : Hp) (o i : V) (ov iv : Value) (Q : VK), Inv X pins σ H s → RelV o ov → RelV i iv → t o i H Q →
  wpAny (model X.prog X.w) X.A (getItem ov iv) (EP X pins σ Q) X.xe s
theorem ps_augS {o i e : Expr} {to ti te : TE} {tget : V → V → Hp → VK → Prop} {tip : TIp} {tset : TSet} {op : Operator} {tpos : Pos} (ho : PE X o to) (hi : PE X i ti) (hg : PGet X tget) (he : PE X e te) (hp : PIp X op tip) (hs : PSet X tset)
  (ha : ∀ ov iv new, augStore i ov iv new = (do holding [new, ov, iv] (setItem ov iv new); release [new, ov, iv] []; pure .next) := by intros; rfl) : PS X (.AugAssign (.Subscript o i tpos) op e pos) (tAugS to ti te tget tip tset) := by
 intro pins s σ H D I h
 refine wpAny_AugAssign_SubscriptAny (thn (ho pins s σ H _ I h) fun ov s1 ⟨x1, H1, I1, r1, q1⟩ => ?_) ha
 refine thn (hi pins s1 σ H1 _ I1 q1) fun iv s2 ⟨x2, H2, I2, r2, q2⟩ => ?_
 refine thn (hg pins s2 σ H2 x1 x2 ov iv _ I2 r1 r2 q2) fun old s3 ⟨x3, H3, I3, r3, q3⟩ => ?_
 refine thn (he pins s3 σ H3 _ I3 q3) fun v s4 ⟨x4, H4, I4, r4, q4⟩ => ?_
 refine thn (hp pins s4 σ H4 x3 x4 old v _ I4 r3 r4 q4) fun new s5 ⟨x5, H5, I5, r5, q5⟩ => ?_
 exact thn (hs pins s5 σ H5 x1 x2 x5 ov iv new _ I5 r1 r2 r5 q5) fun _ s6 ⟨H6, I6, q6⟩ => ⟨σ, H6, I6, q6⟩
def ipI (f : Int → Int → Int) : TIp := fun x y H Q => ∃ i j, x = .int i ∧ y = .int j ∧ Q (.int (f i j)) H
theorem ip_add : PIp X .Add (ipI fun i j => i + j) := by
 intro pins s σ H x y v u Q I r1 r2 h
 obtain ⟨i, j, e1, e2, q⟩ := h
 subst e1; subst e2
 obtain ⟨t, rfl⟩ := r1
 obtain ⟨t', rfl⟩ := r2
 exact iadd_int ⟨.int _, H, I.tok _, ⟨_, rfl⟩, q⟩
end
section
variable {X : Cx} {pos : Pos}
def tWhile (c : TT) (tb : TS) : TS := fun D σ H => ∃ W : Nat → St → Hp → Prop, (∃ m, W m σ H) ∧ ∀ m σ H, W m σ H →
 c σ H fun b H1 => if b = true then ∃ N : St → Hp → Prop, (∀ σ' H', N σ' H' → ∃ m', m' < m ∧ W m' σ' H') ∧ tb { D with nx := N, ct := N, bk := D.nx } σ H1 else D.nx σ H1
theorem ps_while {c : Expr} {body : List Stmt} {tc : TT} {tb : TS} (hp : PassesOwn (model X.prog X.w) X.A X.env X.xe) (hc : PT X c tc) (hb : PSs X body tb) : PS X (.While c body [] pos) (tWhile tc tb) := by
 intro pins s σ H D I h
 obtain ⟨W, ⟨m0, w0⟩, turn⟩ := h
 refine wpAny_While (codeAny_whileLoop (fun n s' => ∃ σ' H', Inv X pins σ' H' s' ∧ W n σ' H') ?_ m0 ⟨σ, H, I, w0⟩)
 rintro n s1 ⟨σ1, H1, I1, w1⟩
 refine wpAny_passesOwn hp (thn (hc pins s1 σ1 H1 _ I1 (turn n σ1 H1 w1)) fun b s2 ⟨H2, I2, q2⟩ => ?_)
 cases b with
 | true =>
  obtain ⟨N, hN, q2⟩ := q2
  rw [if_pos rfl]
  refine wpAny_passesOwn hp (thn (hb pins s2 σ1 H2 _ I2 q2) fun f s3 q3 => ?_)
  cases f with
  | next =>
   obtain ⟨σ3, H3, I3, n3⟩ := q3
   obtain ⟨m', hm, w3⟩ := hN σ3 H3 n3
   exact ⟨m', hm, σ3, H3, I3, w3⟩
  | cont =>
   obtain ⟨σ3, H3, I3, n3⟩ := q3
   obtain ⟨m', hm, w3⟩ := hN σ3 H3 n3
   exact ⟨m', hm, σ3, H3, I3, w3⟩
  | brk => exact q3
  | ret v => exact q3
 | false =>
  rw [if_neg Bool.false_ne_true]
  exact wpAny_execs_nil ⟨σ1, H2, I2, q2⟩
end
structure It where
 go : Nat → Hp → Prop
 yld : Nat → Hp → V → Hp → Prop
 stop : Nat → Hp → Prop
def FpOk (X : Cx) (pins : List (Addr × Obj)) (H : Hp) (b : Addr) : Prop :=
 H b = none ∧ b ≠ X.env.locals ∧ b ∉ X.fs ∧ (b ∈ X.ex ∨ X.s_0.heap.objs.size ≤ b) ∧ (∀ x c, X.env.cells.lookup x = some c → c ≠ b) ∧ ∀ p ∈ X.pn ++ pins, p.1 ≠ b
theorem Inv.fpOk {X : Cx} {pins : List (Addr × Obj)} {σ : St} {H H' : Hp} {s : Shared} {b : Addr} (I : Inv X pins σ H s) (hb : s.heap.objs.size ≤ b) (hn : H' b = none) : FpOk X pins H' b := by
 refine ⟨hn, Nat.ne_of_gt (Nat.lt_of_lt_of_le I.lt hb), I.nofs hb, .inr (Nat.le_trans I.sz hb), fun x c e z => ?_, fun p hp z => ?_⟩
 ·obtain ⟨v, q⟩ := I.cell x c e
  exact absurd (Nat.lt_of_lt_of_le q.lt (by rw [z]; exact hb)) (Nat.lt_irrefl _)
 ·exact absurd (Nat.lt_of_lt_of_le (Heap.lt_size (I.pin p hp).1) (by rw [z]; exact hb)) (Nat.lt_irrefl _)
structure Turn (P : Program) (w : World) (K : PySem.W.Frag) (tg : Expr) (J : It) (fp : List Addr) (it : Addr) (tn : Nat → Heap → Prop) : Prop where
 mem : it ∈ fp
 obj : ∀ i h, tn i h → ∀ b ∈ fp, ∃ o, h.get? b = some o ∧ ∀ v, o.data ≠ .cell v
 keep : ∀ i h h', tn i h → (∀ b ∈ fp, ∀ o, h.get? b = some o → h'.get? b = some o) → tn i h'
 item : ∀ (X : Cx), X.prog = P → X.w = w → X.K = K → X.calm = true → ∀ (i : Nat) (pins : List (Addr × Obj)) (s : Shared) (σ : St) (H : Hp) (E : Value → Shared → Prop), Inv X pins σ H s → (∀ b ∈ fp, FpOk X pins H b) → tn i s.heap → J.go i H →
  wpAny (model P w) X.A (pyNext (.ref it)) (fun r s1 => ∃ u, r = some u ∧
   wpAny (model P w) X.A (letOwnedTupleGo tg (.ref it) u) (fun _ s2 => ∃ x H', Inv X pins σ H' s2 ∧ RelV x u ∧ J.yld i H x H' ∧ tn (i + 1) s2.heap ∧ ∀ b ∈ fp, H' b = none) E s1) E s
 done : ∀ (X : Cx), X.prog = P → X.w = w → X.K = K → X.calm = true → ∀ (i : Nat) (pins : List (Addr × Obj)) (s : Shared) (σ : St) (H : Hp) (E : Value → Shared → Prop), Inv X pins σ H s → (∀ b ∈ fp, FpOk X pins H b) → tn i s.heap → J.stop i H →
  wpAny (model P w) X.A (pyNext (.ref it)) (fun r s1 => r = none ∧ Inv X pins σ H s1) E s
 self : ∀ (A : Around) (i : Nat) (s : Shared) (Q : Value → Shared → Prop) (E : Value → Shared → Prop), tn i s.heap → Q (.ref it) s → wpAny (model P w) A (pyIter (.ref it)) Q E s
abbrev TI := St → Hp → (It → Hp → Prop) → Prop
def PIE (X : Cx) (pins : List (Addr × Obj)) (σ : St) (tg : Expr) (R : It → Hp → Prop) (itv : Value) (s2 : Shared) : Prop :=
 ∃ (it : Addr) (fp : List Addr) (tn : Nat → Heap → Prop) (J : It) (H' : Hp), itv = .ref it ∧ Inv X pins σ H' s2 ∧ Turn X.prog X.w X.K tg J fp it tn ∧ tn 0 s2.heap ∧ (∀ b ∈ fp, FpOk X pins H' b) ∧ R J H'
def PI (X : Cx) (tg iter : Expr) (wi : TI) : Prop :=
 ∀ (pins : List (Addr × Obj)) (s : Shared) (σ : St) (H : Hp) (R : It → Hp → Prop), Inv X pins σ H s → wi σ H R →
  wpAny (model X.prog X.w) X.A (eval iter X.env) (fun v s1 => wpAny (model X.prog X.w) X.A (pyIter v) (PIE X pins σ tg R) X.xe s1) X.xe s
theorem go_of {M : Model} {A : Around} {E : Value → Shared → Prop} {s : Shared} {tg : Expr} {it : Addr} {u : Value} {o : Obj} {n : String} {vs : Array Value} {Q : Unit → Shared → Prop} (ho : s.heap.get? it = some o) (hc : o.cls = .type n) (hd : o.data = .fields vs)
  (hn : ["enumerate", "zip", "dict_itemiterator", "dict_reverseitemiterator", "odict_iterator", "itertools.zip_longest", "itertools.pairwise"].contains n = false) (hQ : Q () s) : wpAny M A (letOwnedTupleGo tg (.ref it) u) Q E s := by
 unfold letOwnedTupleGo
 cases tg <;> first
  | exact wpAny_pure hQ
  | (cases u <;> first
    | exact wpAny_pure hQ
    | (refine wpAny_bind (wpAny_load ho ?_)
       rw [hc, hd]
       show wpAny M A (if (["enumerate", "zip", "dict_itemiterator", "dict_reverseitemiterator", "odict_iterator", "itertools.zip_longest", "itertools.pairwise"].contains n && vs[0]? == some (rawInt _)) = true then _ else _) Q E s
       rw [if_neg (by intro h; rw [hn, Bool.false_and] at h; cases h)]
       exact wpAny_pure hQ))
def Itl (K : PySem.W.Frag) (a : Addr) : It :=
 ⟨fun i H => ∃ xs x, SqL K H a xs ∧ xs[i]? = some x, fun i H x H' => H' = H ∧ ∀ xs, SqL K H a xs → xs[i]? = some x, fun i H => ∃ xs, SqL K H a xs ∧ xs.length ≤ i⟩
def Itt (K : PySem.W.Frag) (a : Addr) : It :=
 ⟨fun i H => ∃ xs x, SqT K H a xs ∧ xs[i]? = some x, fun i H x H' => H' = H ∧ ∀ xs, SqT K H a xs → xs[i]? = some x, fun i H => ∃ xs, SqT K H a xs ∧ xs.length ≤ i⟩
def Itr (lo : Int) (n : Nat) : It := ⟨fun i _ => i < n, fun i H x H' => H' = H ∧ x = .int (lo + i), fun i _ => n ≤ i⟩
theorem turn_list {P : Program} {w : World} {K : PySem.W.Frag} {tg : Expr} (a it : Addr) : Turn P w K tg (Itl K a) [it] it (fun i h => h.IsListIter it a i) where
 mem := by simp
 obj := fun i h st b hb => by
  have e : b = it := by simpa using hb
  subst e
  obtain ⟨o, e, c, d⟩ := st
  exact ⟨o, e, fun v z => by rw [d] at z; cases z⟩
 keep := fun i h h' st k => st.at fun o e => k it (by simp) o e
 item := by
  intro X hP hw hK hc i pins s σ H E I hf st hg
  subst hP hw hK
  obtain ⟨xs, x, hq, hx⟩ := hg
  obtain ⟨its, rv, p, hz⟩ := I.list hq
  obtain ⟨u, hu, ru⟩ := rv.get hx
  obtain ⟨f0, f1, f2, f3, f4, f5⟩ := hf it (by simp)
  refine wpAny_pyNext_list_item st p.isList (x := u) (by simpa using hu) fun h' st' sb => ?_
  have I1 : Inv X pins σ H { s with heap := h' } := I.turned (t' := s.toks) (fun b o hb e => (sb.2 b hb).trans e) f0 f1 f3 f4 f5
  obtain ⟨o, e, c, d⟩ := id st'
  exact ⟨u, rfl, go_of (s := { s with heap := h' }) e c d (by decide) ⟨x, H, I1, ru, ⟨rfl, fun ys hy => by rw [I.list_inj hy hq]; exact hx⟩, st', fun b hb => (hf b hb).1⟩⟩
 done := by
  intro X hP hw hK hc i pins s σ H E I hf st hg
  subst hP hw hK
  obtain ⟨xs, hq, hx⟩ := hg
  obtain ⟨its, rv, p, hz⟩ := I.list hq
  obtain ⟨f0, f1, f2, f3, f4, f5⟩ := hf it (by simp)
  have hl := rv.length
  exact wpAny_pyNext_list_end (I.ok.hd hc) st p.isList (by simp; omega) fun h' eb => ⟨rfl, I.turned (t' := s.toks) (fun b o hb e => eb b o hb e) f0 f1 f3 f4 f5⟩
 self := fun _ _ _ _ _ st h => wpAny_pyIter_listiter st h
theorem turn_tuple {P : Program} {w : World} {K : PySem.W.Frag} {tg : Expr} (a it : Addr) : Turn P w K tg (Itt K a) [it] it (fun i h => h.IsTupleIter it a i) where
 mem := by simp
 obj := fun i h st b hb => by
  have e : b = it := by simpa using hb
  subst e
  obtain ⟨o, e, c, d⟩ := st
  exact ⟨o, e, fun v z => by rw [d] at z; cases z⟩
 keep := fun i h h' st k => st.at fun o e => k it (by simp) o e
 item := by
  intro X hP hw hK hc i pins s σ H E I hf st hg
  subst hP hw hK
  obtain ⟨xs, x, hq, hx⟩ := hg
  obtain ⟨its, rv, p, hz⟩ := I.tuple hq
  obtain ⟨u, hu, ru⟩ := rv.get hx
  obtain ⟨f0, f1, f2, f3, f4, f5⟩ := hf it (by simp)
  refine wpAny_pyNext_tuple_item st (show s.heap.IsTuple a its.toArray from p) (x := u) (by simpa using hu) fun h' st' sb => ?_
  have I1 : Inv X pins σ H { s with heap := h' } := I.turned (t' := s.toks) (fun b o hb e => (sb.2 b hb).trans e) f0 f1 f3 f4 f5
  obtain ⟨o, e, c, d⟩ := id st'
  exact ⟨u, rfl, go_of (s := { s with heap := h' }) e c d (by decide) ⟨x, H, I1, ru, ⟨rfl, fun ys hy => by rw [I.tuple_inj hy hq]; exact hx⟩, st', fun b hb => (hf b hb).1⟩⟩
 done := by
  intro X hP hw hK hc i pins s σ H E I hf st hg
  subst hP hw hK
  obtain ⟨xs, hq, hx⟩ := hg
  obtain ⟨its, rv, p, hz⟩ := I.tuple hq
  obtain ⟨f0, f1, f2, f3, f4, f5⟩ := hf it (by simp)
  have hl := rv.length
  exact wpAny_pyNext_tuple_end (I.ok.hd hc) st (show s.heap.IsTuple a its.toArray from p) (by simp; omega) fun h' eb => ⟨rfl, I.turned (t' := s.toks) (fun b o hb e => eb b o hb e) f0 f1 f3 f4 f5⟩
 self := fun _ _ _ _ _ st h => wpAny_pyIter_tupleiter st h
theorem turn_range {P : Program} {w : World} {K : PySem.W.Frag} {tg : Expr} (it : Addr) (lo : Int) (n : Nat) : Turn P w K tg (Itr lo n) [it] it (fun i h => IsRangeIter h it (lo + (i : Nat) * 1) ((n : Int) - (i : Nat)) 1) where
 mem := by simp
 obj := fun i h st b hb => by
  have e : b = it := by simpa using hb
  subst e
  exact ⟨_, st, fun v z => by
   have z' : Data.fields _ = Data.cell v := z
   cases z'⟩
 keep := fun i h h' st k => k it (by simp) _ st
 item := by
  intro X hP hw hK hc i pins s σ H E I hf st hg
  subst hP hw hK
  obtain ⟨f0, f1, f2, f3, f4, f5⟩ := hf it (by simp)
  have W := Walks.range (prog := X.prog) (w := X.w) (I.ok.hd hc) it lo 1 n
  refine W.item i s _ _ hg st fun v h' tk hv st' kk => ?_
  obtain ⟨t, rfl⟩ := hv
  have I1 : Inv X pins σ H { s with heap := h', toks := tk } := I.turned (fun b o hb e => kk b o (by simpa using hb) e) f0 f1 f3 f4 f5
  refine ⟨_, rfl, go_of (s := { s with heap := h', toks := tk }) (n := "range_iterator") st' rfl rfl (by decide) ⟨.int (lo + i), H, I1, ⟨t, ?_⟩, ⟨rfl, rfl⟩, st', fun b hb => (hf b hb).1⟩⟩
  rw [Int.mul_one]
 done := by
  intro X hP hw hK hc i pins s σ H E I hf st hg
  subst hP hw hK
  obtain ⟨f0, f1, f2, f3, f4, f5⟩ := hf it (by simp)
  exact wpAny_pyNext_range_end (I.ok.hd hc) st (by have : n ≤ i := hg; omega) fun h' eb => ⟨rfl, I.turned (t' := s.toks) (fun b o hb e => eb b o hb e) f0 f1 f3 f4 f5⟩
 self := fun _ _ _ _ _ st h => wpAny_pyIter_rangeiter st h
end L2
namespace L2
open PySem PySem.Spec PyProof.Rows
section
variable {X : Cx} {tg : Expr}
def iList (K : PySem.W.Frag) (tl : TE) : TI := fun σ H R => tl σ H fun x H1 => ∃ a, x = .ref a ∧ (∃ xs, SqL K H1 a xs) ∧ R (Itl K a) H1
def iTup (K : PySem.W.Frag) (tl : TE) : TI := fun σ H R => tl σ H fun x H1 => ∃ a, x = .ref a ∧ (∃ xs, SqT K H1 a xs) ∧ R (Itt K a) H1
theorem pi_list {l : Expr} {tl : TE} (hl : PE X l tl) : PI X tg l (iList X.K tl) := by
 intro pins s σ H R I h
 refine thn (hl pins s σ H _ I h) fun v s1 ⟨x, H1, I1, r1, q1⟩ => ?_
 obtain ⟨a, e, ⟨xs, hq⟩, q⟩ := q1
 subst e
 cases r1
 obtain ⟨its, rv, p, hz⟩ := I1.list hq
 refine wpAny_pyIter_list p.isList ?_
 refine ⟨s1.heap.objs.size, [s1.heap.objs.size], _, _, H1, rfl, I1.kept (t' := s1.toks) fun b o e => Heap.get?_push_of_some _ e, turn_list a _, ⟨_, Heap.get?_push_size _ rfl, rfl, rfl⟩, fun b hb => ?_, q⟩
 have e : b = s1.heap.objs.size := by simpa using hb
 subst e
 exact I1.fpOk (Nat.le_refl _) (I1.hok.fresh (Nat.le_refl _))
theorem pi_tup {l : Expr} {tl : TE} (hl : PE X l tl) : PI X tg l (iTup X.K tl) := by
 intro pins s σ H R I h
 refine thn (hl pins s σ H _ I h) fun v s1 ⟨x, H1, I1, r1, q1⟩ => ?_
 obtain ⟨a, e, ⟨xs, hq⟩, q⟩ := q1
 subst e
 cases r1
 obtain ⟨its, rv, p, hz⟩ := I1.tuple hq
 refine wpAny_pyIter_tuple (show s1.heap.IsTuple a its.toArray from p) ?_
 refine ⟨s1.heap.objs.size, [s1.heap.objs.size], _, _, H1, rfl, I1.kept (t' := s1.toks) fun b o e => Heap.get?_push_of_some _ e, turn_tuple a _, ⟨_, Heap.get?_push_size _ rfl, rfl, rfl⟩, fun b hb => ?_, q⟩
 have e : b = s1.heap.objs.size := by simpa using hb
 subst e
 exact I1.fpOk (Nat.le_refl _) (I1.hok.fresh (Nat.le_refl _))
theorem range_it {pins : List (Addr × Obj)} {σ : St} {H : Hp} {s : Shared} {R : It → Hp → Prop} {E : Value → Shared → Prop} {lo hi : Int} {t u v : Tok} {tk : Nat} (I : Inv X pins σ H s) (h1 : -(2 ^ 62) ≤ lo) (h2 : lo < 2 ^ 62) (h3 : -(2 ^ 62) ≤ hi) (h4 : hi < 2 ^ 62)
  (q : R (Itr lo (hi - lo).toNat) H) : wpAny (model X.prog X.w) X.A (pyIter (.ref s.heap.objs.size)) (PIE X pins σ tg R) E { s with heap := s.heap.push { cls := .type "range", data := .fields #[.int lo t, .int hi u, .int 1 v] }, toks := tk } := by
 refine wpAny_pyIter_range (IsRange.new ..) (small_one h1 h2 h3 h4) ?_
 have I1 : Inv X pins σ H { s with heap := s.heap.push { cls := .type "range", data := .fields #[.int lo t, .int hi u, .int 1 v] }, toks := tk } := I.kept fun b o e => Heap.get?_push_of_some _ e
 refine ⟨(s.heap.push { cls := .type "range", data := .fields #[.int lo t, .int hi u, .int 1 v] }).objs.size, [(s.heap.push { cls := .type "range", data := .fields #[.int lo t, .int hi u, .int 1 v] }).objs.size], _, _, H, rfl,
  I1.kept (t' := tk) fun b o e => Heap.get?_push_of_some _ e, turn_range _ lo (hi - lo).toNat, ?_, fun b hb => ?_, q⟩
 ·have e1 : lo + ((0 : Nat) : Int) * 1 = lo := by simp
  have e2 : (((hi - lo).toNat : Nat) : Int) - ((0 : Nat) : Int) = Builtin.Range.rangeSize lo hi 1 := by rw [rangeSize_one]; split <;> omega
  show IsRangeIter _ _ (lo + ((0 : Nat) : Int) * 1) ((((hi - lo).toNat : Nat) : Int) - ((0 : Nat) : Int)) 1
  rw [e1, e2]
  exact Heap.get?_push_size _ rfl
 ·have e : b = (s.heap.push { cls := .type "range", data := .fields #[.int lo t, .int hi u, .int 1 v] }).objs.size := by simpa using hb
  subst e
  exact I1.fpOk (Nat.le_refl _) (I1.hok.fresh (Nat.le_refl _))
def iRng1 (ta : TA) : TI := fun σ H R => ta σ H fun vs H1 => ∃ j : Int, vs = [.int j] ∧ -(2 ^ 62) ≤ j ∧ j < 2 ^ 62 ∧ R (Itr 0 j.toNat) H1
theorem pi_range1 {a : Expr} {ta : TA} {p pos : Pos} (hg : Gl X "range") (hm : X.mg "range" = none) (ha : PA X [a] ta) (hs : starEach [a] X.env = [(false, eval a X.env)] := by rfl) : PI X tg (.Call (.Name "range" p) [a] [] pos) (iRng1 ta) := by
 intro pins s σ H R I h
 refine Call_ (ld_blt I hg hm boot_range (PyProof.Rows.callWith_type1 (thn (ha pos pins s σ H _ I h) fun us s1 ⟨vs, H1, I1, r1, q1⟩ => ?_) hs rfl))
 obtain ⟨j, e, q1, q2, q⟩ := q1
 subst e
 cases r1 with
 | cons r rr =>
  cases rr
  obtain ⟨t, rfl⟩ := r
  exact call_range_1 (range_it I1 (by omega) (by omega) q1 q2 (by simpa using q))
def tFor (wi : TI) (g : TG) (tb : TS) : TS := fun D σ H => wi σ H fun J H1 => ∃ W : Nat → Nat → St → Hp → Prop, (∃ m, W 0 m σ H1) ∧ ∀ i m σ H, W i m σ H →
 (J.stop i H ∧ D.nx σ H) ∨ (J.go i H ∧ ∃ N : St → Hp → Prop, (∀ σ' H', N σ' H' → ∃ m', m' < m ∧ W (i + 1) m' σ' H') ∧ ∀ x H', J.yld i H x H' → g x σ H' fun σ2 H2 => tb { D with nx := N, ct := N, bk := D.nx } σ2 H2)
def pinsAt (fp : List Addr) (h : Heap) : List (Addr × Obj) := fp.filterMap fun b => (h.get? b).map fun o => (b, o)
theorem mem_pinsAt {fp : List Addr} {h : Heap} {b : Addr} {o : Obj} (hb : b ∈ fp) (e : h.get? b = some o) : (b, o) ∈ pinsAt fp h := List.mem_filterMap.mpr ⟨b, hb, by rw [e]; rfl⟩
theorem of_pinsAt {fp : List Addr} {h : Heap} {p : Addr × Obj} (hp : p ∈ pinsAt fp h) : p.1 ∈ fp ∧ h.get? p.1 = some p.2 := by
 obtain ⟨b, hb, e⟩ := List.mem_filterMap.mp hp
 cases q : h.get? b with
 | none => rw [q] at e; cases e
 | some o =>
  rw [q] at e
  have e' : (b, o) = p := Option.some.inj e
  subst e'
  exact ⟨hb, q⟩
theorem Inv.pinned {pins : List (Addr × Obj)} {σ : St} {H : Hp} {s : Shared} {fp : List Addr} (I : Inv X pins σ H s) (hf : ∀ b ∈ fp, FpOk X pins H b) (ho : ∀ b ∈ fp, ∃ o, s.heap.get? b = some o ∧ ∀ v, o.data ≠ .cell v) : Inv X (pins ++ pinsAt fp s.heap) σ H s :=
 I.pins_of fun p hp => (List.mem_append.mp hp).elim (fun z => I.pin p (List.mem_append_right _ z)) fun z => by
  obtain ⟨hb, e⟩ := of_pinsAt z
  obtain ⟨f0, f1, f2, _⟩ := hf p.1 hb
  obtain ⟨o, e', d⟩ := ho p.1 hb
  rw [e] at e'; cases e'
  exact ⟨e, f0, f1, f2, d⟩
theorem Inv.unpinned {pins pl : List (Addr × Obj)} {σ : St} {H : Hp} {s : Shared} (I : Inv X (pins ++ pl) σ H s) : Inv X pins σ H s := I.pins_of fun p hp => I.pin p (List.mem_append_right _ (List.mem_append_left _ hp))
theorem ps_for {iter : Expr} {body : List Stmt} {wi : TI} {g : TG} {tb : TS} {pos : Pos} (hp : PassesOwn (model X.prog X.w) X.A X.env X.xe) (hc : X.calm = true) (hi : PI X tg iter wi) (hg : PG X tg g) (hb : PSs X body tb)
  (hs : ∀ x, foldedSetIterable iter X.env x = pure x := by intro _; rfl) : PS X (.For tg iter body [] pos) (tFor wi g tb) := by
 intro pins s σ H D I h
 refine wpAny_For (thn (hi pins s σ H _ I h) fun v s1 h1 => thn h1 fun itv s2 h2 => ?_) hs
 obtain ⟨it, fp, tn, J, H2, e, I2, T, st2, f2, W, ⟨m0, w0⟩, turn⟩ := h2
 subst e
 have stat : ∀ {H' : Hp}, (∀ b ∈ fp, H' b = none) → ∀ b ∈ fp, FpOk X pins H' b := fun hn b hb => ⟨hn b hb, (f2 b hb).2⟩
 refine codeAny_forLoop_any (fun n s' => ∃ i σ' H', Inv X pins σ' H' s' ∧ tn i s'.heap ∧ (∀ b ∈ fp, H' b = none) ∧ W i n σ' H') ?_ m0 ⟨0, σ, H2, I2, st2, fun b hb => (f2 b hb).1, w0⟩
 rintro n s3 ⟨i, σ3, H3, I3, st3, fr3, w3⟩
 rcases turn i n σ3 H3 w3 with ⟨stop, qn⟩ | ⟨go, N, hN, step⟩
 ·refine wpAny_passesOwn hp (thn (T.done X rfl rfl rfl hc i pins s3 σ3 H3 X.xe I3 (stat fr3) st3 stop) fun r s4 ⟨hr, I4⟩ => ?_)
  subst hr
  exact wpAny_execs_nil ⟨σ3, H3, I4, qn⟩
 ·refine wpAny_passesOwn hp (thn (T.item X rfl rfl rfl hc i pins s3 σ3 H3 X.xe I3 (stat fr3) st3 go) fun r s4 ⟨u, hr, h4⟩ => ?_)
  subst hr
  refine wpAny_passesOwn hp (thn h4 fun _ s5 ⟨x, H5, I5, r5, y5, st5, fr5⟩ => ?_)
  have I5' := I5.pinned (stat fr5) (T.obj _ _ st5)
  refine wpAny_passesOwn hp (thn (hg _ s5 σ3 H5 x u _ I5' r5 (step x H5 y5)) fun _ s6 ⟨σ6, H6, I6, q6⟩ => ?_)
  refine wpAny_passesOwn hp (thn (hb _ s6 σ6 H6 _ I6 q6) fun f s7 q7 => ?_)
  have again : ∀ {σ7 : St} {H7 : Hp}, Inv X (pins ++ pinsAt fp s5.heap) σ7 H7 s7 → N σ7 H7 → ∃ m, m < n ∧ ∃ i σ' H', Inv X pins σ' H' s7 ∧ tn i s7.heap ∧ (∀ b ∈ fp, H' b = none) ∧ W i m σ' H' := fun {σ7 H7} I7 n7 => by
   obtain ⟨m', hm, w7⟩ := hN σ7 H7 n7
   refine ⟨m', hm, i + 1, σ7, H7, I7.unpinned, T.keep _ _ _ st5 fun b hb o e => (I7.pin (b, o) (List.mem_append_right _ (List.mem_append_right _ (mem_pinsAt hb e)))).1, fun b hb => ?_, w7⟩
   obtain ⟨o, e, d⟩ := T.obj _ _ st5 b hb
   exact (I7.pin (b, o) (List.mem_append_right _ (List.mem_append_right _ (mem_pinsAt hb e)))).2.1
  cases f with
  | next => obtain ⟨σ7, H7, I7, n7⟩ := q7; exact again I7 n7
  | cont => obtain ⟨σ7, H7, I7, n7⟩ := q7; exact again I7 n7
  | brk => obtain ⟨σ7, H7, I7, q7⟩ := q7; exact ⟨σ7, H7, I7.unpinned, q7⟩
  | ret v => obtain ⟨x7, σ7, H7, I7, r7, q7⟩ := q7; exact ⟨x7, σ7, H7, I7.unpinned, r7, q7⟩
end
theorem for_list {K : PySem.W.Frag} {a : Addr} {xs : List V} {g : TG} {tb : TS} {D : Ends} {σ : St} {H : Hp} (Pv : Nat → St → Hp → Prop) (h0 : Pv 0 σ H) (hl : ∀ i σ H, i ≤ xs.length → Pv i σ H → SqL K H a xs)
  (hs : ∀ i x σ H, xs[i]? = some x → Pv i σ H → g x σ H fun σ2 H2 => tb { D with nx := Pv (i + 1), ct := Pv (i + 1), bk := D.nx } σ2 H2) (hd : ∀ σ H, Pv xs.length σ H → D.nx σ H) :
  ∃ W : Nat → Nat → St → Hp → Prop, (∃ m, W 0 m σ H) ∧ ∀ i m σ H, W i m σ H →
   ((Itl K a).stop i H ∧ D.nx σ H) ∨ ((Itl K a).go i H ∧ ∃ N : St → Hp → Prop, (∀ σ' H', N σ' H' → ∃ m', m' < m ∧ W (i + 1) m' σ' H') ∧ ∀ x H', (Itl K a).yld i H x H' → g x σ H' fun σ2 H2 => tb { D with nx := N, ct := N, bk := D.nx } σ2 H2) := by
 refine ⟨fun i m σ H => m = xs.length - i ∧ i ≤ xs.length ∧ Pv i σ H, ⟨xs.length, by simp, Nat.zero_le _, h0⟩, ?_⟩
 rintro i m σ H ⟨rfl, hi, p⟩
 have q := hl i σ H hi p
 by_cases hlt : i < xs.length
 ·refine .inr ⟨⟨xs, xs[i], q, by simp [hlt]⟩, Pv (i + 1), fun σ' H' p' => ⟨xs.length - (i + 1), by omega, rfl, hlt, p'⟩, fun x H' y => ?_⟩
  obtain ⟨e, y⟩ := y
  subst e
  exact hs i x σ _ (y xs q) p
 ·have e : i = xs.length := by omega
  subst e
  exact .inl ⟨⟨xs, q, Nat.le_refl _⟩, hd σ H p⟩
theorem for_tup {K : PySem.W.Frag} {a : Addr} {xs : List V} {g : TG} {tb : TS} {D : Ends} {σ : St} {H : Hp} (Pv : Nat → St → Hp → Prop) (h0 : Pv 0 σ H) (hl : ∀ i σ H, i ≤ xs.length → Pv i σ H → SqT K H a xs)
  (hs : ∀ i x σ H, xs[i]? = some x → Pv i σ H → g x σ H fun σ2 H2 => tb { D with nx := Pv (i + 1), ct := Pv (i + 1), bk := D.nx } σ2 H2) (hd : ∀ σ H, Pv xs.length σ H → D.nx σ H) :
  ∃ W : Nat → Nat → St → Hp → Prop, (∃ m, W 0 m σ H) ∧ ∀ i m σ H, W i m σ H →
   ((Itt K a).stop i H ∧ D.nx σ H) ∨ ((Itt K a).go i H ∧ ∃ N : St → Hp → Prop, (∀ σ' H', N σ' H' → ∃ m', m' < m ∧ W (i + 1) m' σ' H') ∧ ∀ x H', (Itt K a).yld i H x H' → g x σ H' fun σ2 H2 => tb { D with nx := N, ct := N, bk := D.nx } σ2 H2) := by
 refine ⟨fun i m σ H => m = xs.length - i ∧ i ≤ xs.length ∧ Pv i σ H, ⟨xs.length, by simp, Nat.zero_le _, h0⟩, ?_⟩
 rintro i m σ H ⟨rfl, hi, p⟩
 have q := hl i σ H hi p
 by_cases hlt : i < xs.length
 ·refine .inr ⟨⟨xs, xs[i], q, by simp [hlt]⟩, Pv (i + 1), fun σ' H' p' => ⟨xs.length - (i + 1), by omega, rfl, hlt, p'⟩, fun x H' y => ?_⟩
  obtain ⟨e, y⟩ := y
  subst e
  exact hs i x σ _ (y xs q) p
 ·have e : i = xs.length := by omega
  subst e
  exact .inl ⟨⟨xs, q, Nat.le_refl _⟩, hd σ H p⟩
theorem for_range {lo : Int} {n : Nat} {g : TG} {tb : TS} {D : Ends} {σ : St} {H : Hp} (Pv : Nat → St → Hp → Prop) (h0 : Pv 0 σ H)
  (hs : ∀ i σ H, i < n → Pv i σ H → g (.int (lo + i)) σ H fun σ2 H2 => tb { D with nx := Pv (i + 1), ct := Pv (i + 1), bk := D.nx } σ2 H2) (hd : ∀ σ H, Pv n σ H → D.nx σ H) :
  ∃ W : Nat → Nat → St → Hp → Prop, (∃ m, W 0 m σ H) ∧ ∀ i m σ H, W i m σ H →
   ((Itr lo n).stop i H ∧ D.nx σ H) ∨ ((Itr lo n).go i H ∧ ∃ N : St → Hp → Prop, (∀ σ' H', N σ' H' → ∃ m', m' < m ∧ W (i + 1) m' σ' H') ∧ ∀ x H', (Itr lo n).yld i H x H' → g x σ H' fun σ2 H2 => tb { D with nx := N, ct := N, bk := D.nx } σ2 H2) := by
 refine ⟨fun i m σ H => m = n - i ∧ i ≤ n ∧ Pv i σ H, ⟨n, by simp, Nat.zero_le _, h0⟩, ?_⟩
 rintro i m σ H ⟨rfl, hi, p⟩
 by_cases hlt : i < n
 ·refine .inr ⟨hlt, Pv (i + 1), fun σ' H' p' => ⟨n - (i + 1), by omega, rfl, hlt, p'⟩, fun x H' y => ?_⟩
  obtain ⟨e, y⟩ := y
  subst e y
  exact hs i σ _ hlt p
 ·have e : i = n := by omega
  subst e
  exact .inl ⟨Nat.le_refl _, hd σ H p⟩
end L2
namespace L2
open PySem PySem.Spec PyProof.Rows
abbrev R2 := V → V → Hp → VK → Prop
def OpR (X : Cx) (f : Value → Value → Sem Value) (r : R2) : Prop :=
 ∀ (pins : List (Addr × Obj)) (s : Shared) (σ : St) (H : Hp) (x y : V) (v u : Value) (Q : VK), Inv X pins σ H s → RelV x v → RelV y u → r x y H Q →
  wpAny (model X.prog X.w) X.A (f v u) (EP X pins σ Q) X.xe s
def UnR (X : Cx) (f : Value → Sem Value) (r : V → Hp → VK → Prop) : Prop :=
 ∀ (pins : List (Addr × Obj)) (s : Shared) (σ : St) (H : Hp) (x : V) (v : Value) (Q : VK), Inv X pins σ H s → RelV x v → r x H Q →
  wpAny (model X.prog X.w) X.A (f v) (EP X pins σ Q) X.xe s
def CallR (X : Cx) (f : Value) (r : List V → Hp → VK → Prop) : Prop :=
 ∀ (pins : List (Addr × Obj)) (s : Shared) (σ : St) (H : Hp) (xs : List V) (us : List Value) (Q : VK), Inv X pins σ H s → Vals xs us → r xs H Q →
  wpAny (model X.prog X.w) X.A (call f us) (EP X pins σ Q) X.xe s
def TruR (X : Cx) (r : V → Hp → (Bool → Hp → Prop) → Prop) : Prop :=
 ∀ (pins : List (Addr × Obj)) (s : Shared) (σ : St) (H : Hp) (x : V) (v : Value) (Q : Bool → Hp → Prop), Inv X pins σ H s → RelV x v → r x H Q →
  wpAny (model X.prog X.w) X.A (truthy v) (TP X pins σ Q) X.xe s
def tOp (r : R2) (ta tb : TE) : TE := fun σ H Q => ta σ H fun x H1 => tb σ H1 fun y H2 => r x y H2 Q
def tUn (r : V → Hp → VK → Prop) (ta : TE) : TE := fun σ H Q => ta σ H fun x H1 => r x H1 Q
def rI (C : Int → Int → Prop) (g : Int → Int → V) : R2 := fun x y H Q => ∃ i j, x = .int i ∧ y = .int j ∧ C i j ∧ Q (g i j) H
def rI0 (g : Int → Int → V) : R2 := fun x y H Q => ∃ i j, x = .int i ∧ y = .int j ∧ Q (g i j) H
def rU (g : Int → V) : V → Hp → VK → Prop := fun x H Q => ∃ i, x = .int i ∧ Q (g i) H
section
variable {X : Cx} {a b c : Expr} {ta tb tc : TE} {pos : Pos}
theorem binT (ha : PE X a ta) (hb : PE X b tb) {pins : List (Addr × Obj)} {s : Shared} {σ : St} {H : Hp} {R : V → V → Hp → Prop} (I : Inv X pins σ H s)
  (h : ta σ H fun x H1 => tb σ H1 fun y H2 => R x y H2) {Q : Value → Shared → Prop} {f : Value → Value → Sem Value}
  (hf : ∀ v u s2 x y H2, Inv X pins σ H2 s2 → RelV x v → RelV y u → R x y H2 → wpAny (model X.prog X.w) X.A (f v u) Q X.xe s2) :
  wpAny (model X.prog X.w) X.A (eval a X.env) (fun v s₁ => wpAny (model X.prog X.w) X.A (eval b X.env) (fun u s₂ => wpAny (model X.prog X.w) X.A (f v u) Q X.xe s₂) X.xe s₁) X.xe s := by
 refine thn (ha pins s σ H _ I h) fun v s1 ⟨x, H1, I1, r1, q1⟩ => ?_
 refine thn (hb pins s1 σ H1 _ I1 q1) fun u s2 ⟨y, H2, I2, r2, q2⟩ => ?_
 exact hf v u s2 x y H2 I2 r1 r2 q2
theorem pe_op {op : Operator} {r : R2} (ho : OpR X (binaryOp op) r) (ha : PE X a ta) (hb : PE X b tb) : PE X (.BinOp a op b pos) (tOp r ta tb) := by
 intro pins s σ H Q I h
 exact wpAny_BinOp (binT ha hb I h fun v u s2 x y H2 I2 rx ry q => ho pins s2 σ H2 x y v u Q I2 rx ry q)
theorem pe_un {op : UnaryOp} {r : V → Hp → VK → Prop} (ho : UnR X (unaryOp op) r) (ha : PE X a ta) : PE X (.UnaryOp op a pos) (tUn r ta) := by
 intro pins s σ H Q I h
 exact UnaryOp_ (thn (ha pins s σ H _ I h) fun v s1 ⟨x, H1, I1, r1, q1⟩ => ho pins s1 σ H1 x v Q I1 r1 q1)
theorem opI {f : Value → Value → Sem Value} {C : Int → Int → Prop} {g : Int → Int → Int}
  (rule : ∀ (i j : Int) (t u : Tok) (s : Shared) (Q : Value → Shared → Prop) (E : Value → Shared → Prop), C i j → Q (.int (g i j) s.toks) { s with toks := s.toks + 1 } → wpAny (model X.prog X.w) X.A (f (.int i t) (.int j u)) Q E s) :
  OpR X f (rI C fun i j => .int (g i j)) := by
 intro pins s σ H x y v u Q I rx ry h
 obtain ⟨i, j, rfl, rfl, hc, q⟩ := h
 obtain ⟨t, rfl⟩ := rx
 obtain ⟨t', rfl⟩ := ry
 exact rule i j t t' s _ _ hc ⟨.int (g i j), H, I.tok _, ⟨_, rfl⟩, q⟩
theorem opI0 {f : Value → Value → Sem Value} {g : Int → Int → Int}
  (rule : ∀ (i j : Int) (t u : Tok) (s : Shared) (Q : Value → Shared → Prop) (E : Value → Shared → Prop), Q (.int (g i j) s.toks) { s with toks := s.toks + 1 } → wpAny (model X.prog X.w) X.A (f (.int i t) (.int j u)) Q E s) :
  OpR X f (rI0 fun i j => .int (g i j)) := by
 intro pins s σ H x y v u Q I rx ry h
 obtain ⟨i, j, rfl, rfl, q⟩ := h
 obtain ⟨t, rfl⟩ := rx
 obtain ⟨t', rfl⟩ := ry
 exact rule i j t t' s _ _ ⟨.int (g i j), H, I.tok _, ⟨_, rfl⟩, q⟩
theorem opB0 {f : Value → Value → Sem Value} {g : Int → Int → Bool}
  (rule : ∀ (i j : Int) (t u : Tok) (s : Shared) (Q : Value → Shared → Prop) (E : Value → Shared → Prop), Q (.bool (g i j)) s → wpAny (model X.prog X.w) X.A (f (.int i t) (.int j u)) Q E s) :
  OpR X f (rI0 fun i j => .bl (g i j)) := by
 intro pins s σ H x y v u Q I rx ry h
 obtain ⟨i, j, rfl, rfl, q⟩ := h
 obtain ⟨t, rfl⟩ := rx
 obtain ⟨t', rfl⟩ := ry
 exact rule i j t t' s _ _ ⟨.bl (g i j), H, I, rfl, q⟩
def CMul (i j : Int) : Prop := (-(2 ^ 64) < i ∧ i < 2 ^ 64) ∨ (-(2 ^ 64) < j ∧ j < 2 ^ 64)
theorem CMul.ok {i j : Int} (h : CMul i j) : IntMulOk i j := by
 rcases h with ⟨h1, h2⟩ | ⟨h1, h2⟩
 ·exact .of_left (intBits_le_64 h1 h2)
 ·exact .of_right (intBits_le_64 h1 h2)
theorem op_add : OpR X (binaryOp .Add) (rI0 fun i j => .int (i + j)) := opI0 fun _ _ _ _ _ _ _ q => add_int q
theorem op_sub : OpR X (binaryOp .Sub) (rI0 fun i j => .int (i - j)) := opI0 fun _ _ _ _ _ _ _ q => sub_int q
theorem op_mod : OpR X (binaryOp .Mod) (rI (fun _ j => 0 < j) fun i j => .int (i % j)) := opI fun i j _ _ _ _ _ hc q => by
 have h1 : (0 : Int) < j := hc
 exact mod_int' (by omega) (by rw [Int.fmod_eq_emod_of_nonneg i (by omega)]; exact q)
theorem unI {f : Value → Sem Value} {g : Int → Int}
  (rule : ∀ (i : Int) (t : Tok) (s : Shared) (Q : Value → Shared → Prop) (E : Value → Shared → Prop), Q (.int (g i) s.toks) { s with toks := s.toks + 1 } → wpAny (model X.prog X.w) X.A (f (.int i t)) Q E s) :
  UnR X f (rU fun i => .int (g i)) := by
 intro pins s σ H x v Q I rx h
 obtain ⟨i, rfl, q⟩ := h
 obtain ⟨t, rfl⟩ := rx
 exact rule i t s _ _ ⟨.int (g i), H, I.tok _, ⟨_, rfl⟩, q⟩
theorem un_neg : UnR X (unaryOp .USub) (rU fun i => .int (-i)) := unI fun _ _ _ _ _ q => neg_int q
end
def scal : V → V → Bool
 | .non, .non => true | .non, .int _ => true | .int _, .non => true | .non, .bl _ => true | .bl _, .non => true | .non, .str _ => true | .str _, .non => true
 | .int _, .int _ => true | .bl _, .bl _ => true | .str _, .str _ => true | .byt _, .byt _ => true
 | .int _, .str _ => true | .str _, .int _ => true | .bl _, .str _ => true | .str _, .bl _ => true
 | _, _ => false
def rEq : R2 := fun x y H Q => scal x y = true ∧ Q (.bl (decide (x = y))) H
def rNe : R2 := fun x y H Q => scal x y = true ∧ Q (.bl (!decide (x = y))) H
theorem dec_int {i j : Int} : decide (V.int i = V.int j) = (i == j) := by
 rw [Bool.eq_iff_iff]
 simp
theorem dec_bl {i j : Bool} : decide (V.bl i = V.bl j) = (i == j) := by
 rw [Bool.eq_iff_iff]
 simp
theorem dec_str {i j : Str} : decide (V.str i = V.str j) = (i == j) := by
 rw [Bool.eq_iff_iff]
 simp
theorem dec_byt {i j : Array UInt8} : decide (V.byt i = V.byt j) = (i.toList == j.toList) := by
 rw [Bool.eq_iff_iff]
 cases i
 cases j
 simp
section
variable {X : Cx} {a b c : Expr} {ta tb tc : TE} {pos : Pos}
theorem fin_bl {pins : List (Addr × Obj)} {σ : St} {H : Hp} {s : Shared} {Q : VK} {k k' : Bool} (I : Inv X pins σ H s) (q : Q (.bl k) H) (e : k = k') : EP X pins σ Q (.bool k') s := by
 subst e
 exact ⟨.bl k, H, I, rfl, q⟩
theorem op_eq : OpR X (compareOp .Eq) rEq := by
 intro pins s σ H x y v u Q I rx ry h
 obtain ⟨hs, q⟩ := h
 cases x with
 | non =>
  cases rx
  cases y with
  | non => cases ry; exact PySem.EqNone.eq_none_none (fin_bl I q (by simp))
  | bl j => cases ry; exact PySem.EqNone.eq_none_bool (fin_bl I q (by simp))
  | int j => obtain ⟨t', rfl⟩ := ry; exact PySem.EqNone.eq_none_int (fin_bl I q (by simp))
  | str j => obtain ⟨t', rfl⟩ := ry; exact PySem.EqNone.eq_none_str (fin_bl I q (by simp))
  | _ => exact absurd (show false = true from hs) Bool.false_ne_true
 | bl i =>
  cases rx
  cases y with
  | non => cases ry; exact PySem.EqNone.eq_bool_none (fin_bl I q (by simp))
  | bl j => cases ry; exact eq_bool (fin_bl I q dec_bl)
  | str j => obtain ⟨t', rfl⟩ := ry; exact PySem.EqMixed.eq_bool_str (fin_bl I q (by simp))
  | _ => exact absurd (show false = true from hs) Bool.false_ne_true
 | int i =>
  obtain ⟨t, rfl⟩ := rx
  cases y with
  | non => cases ry; exact PySem.EqNone.eq_int_none (fin_bl I q (by simp))
  | int j => obtain ⟨t', rfl⟩ := ry; exact eq_int (fin_bl I q dec_int)
  | str j => obtain ⟨t', rfl⟩ := ry; exact PySem.EqMixed.eq_int_str (fin_bl I q (by simp))
  | _ => exact absurd (show false = true from hs) Bool.false_ne_true
 | str i =>
  obtain ⟨t, rfl⟩ := rx
  cases y with
  | non => cases ry; exact PySem.EqNone.eq_str_none (fin_bl I q (by simp))
  | bl j => cases ry; exact PySem.EqMixed.eq_str_bool (fin_bl I q (by simp))
  | int j => obtain ⟨t', rfl⟩ := ry; exact PySem.EqMixed.eq_str_int (fin_bl I q (by simp))
  | str j => obtain ⟨t', rfl⟩ := ry; exact eq_str (fin_bl I q dec_str)
  | _ => exact absurd (show false = true from hs) Bool.false_ne_true
 | byt i =>
  obtain ⟨t, rfl⟩ := rx
  cases y with
  | byt j => obtain ⟨t', rfl⟩ := ry; exact PySem.W.eq_bytes (fin_bl I q dec_byt)
  | _ => exact absurd (show false = true from hs) Bool.false_ne_true
 | _ => cases y <;> exact absurd (show false = true from hs) Bool.false_ne_true
theorem op_ne : OpR X (compareOp .NotEq) rNe := by
 intro pins s σ H x y v u Q I rx ry h
 obtain ⟨hs, q⟩ := h
 cases x with
 | non =>
  cases rx
  cases y with
  | non => cases ry; exact PySem.EqNone.ne_none_none (fin_bl I q (by simp))
  | bl j => cases ry; exact PySem.EqNone.ne_none_bool (fin_bl I q (by simp))
  | int j => obtain ⟨t', rfl⟩ := ry; exact PySem.EqNone.ne_none_int (fin_bl I q (by simp))
  | str j => obtain ⟨t', rfl⟩ := ry; exact PySem.EqNone.ne_none_str (fin_bl I q (by simp))
  | _ => exact absurd (show false = true from hs) Bool.false_ne_true
 | bl i =>
  cases rx
  cases y with
  | non => cases ry; exact PySem.EqNone.ne_bool_none (fin_bl I q (by simp))
  | bl j => cases ry; exact ne_bool (fin_bl I q (congrArg not dec_bl))
  | str j => obtain ⟨t', rfl⟩ := ry; exact PySem.EqMixed.ne_bool_str (fin_bl I q (by simp))
  | _ => exact absurd (show false = true from hs) Bool.false_ne_true
 | int i =>
  obtain ⟨t, rfl⟩ := rx
  cases y with
  | non => cases ry; exact PySem.EqNone.ne_int_none (fin_bl I q (by simp))
  | int j => obtain ⟨t', rfl⟩ := ry; exact ne_int (fin_bl I q (congrArg not dec_int))
  | str j => obtain ⟨t', rfl⟩ := ry; exact PySem.EqMixed.ne_int_str (fin_bl I q (by simp))
  | _ => exact absurd (show false = true from hs) Bool.false_ne_true
 | str i =>
  obtain ⟨t, rfl⟩ := rx
  cases y with
  | non => cases ry; exact PySem.EqNone.ne_str_none (fin_bl I q (by simp))
  | bl j => cases ry; exact PySem.EqMixed.ne_str_bool (fin_bl I q (by simp))
  | int j => obtain ⟨t', rfl⟩ := ry; exact PySem.EqMixed.ne_str_int (fin_bl I q (by simp))
  | str j => obtain ⟨t', rfl⟩ := ry; exact ne_str (fin_bl I q (congrArg not dec_str))
  | _ => exact absurd (show false = true from hs) Bool.false_ne_true
 | byt i =>
  obtain ⟨t, rfl⟩ := rx
  cases y with
  | byt j => obtain ⟨t', rfl⟩ := ry; exact PySem.W.ne_bytes (fin_bl I q (congrArg not dec_byt))
  | _ => exact absurd (show false = true from hs) Bool.false_ne_true
 | _ => cases y <;> exact absurd (show false = true from hs) Bool.false_ne_true
theorem op_lt : OpR X (compareOp .Lt) (rI0 fun i j => .bl (decide (i < j))) := opB0 fun _ _ _ _ _ _ _ q => lt_int q
theorem op_le : OpR X (compareOp .LtE) (rI0 fun i j => .bl (decide (i ≤ j))) := opB0 fun _ _ _ _ _ _ _ q => le_int q
theorem op_gt : OpR X (compareOp .Gt) (rI0 fun i j => .bl (decide (j < i))) := opB0 fun _ _ _ _ _ _ _ q => gt_int q
theorem op_ge : OpR X (compareOp .GtE) (rI0 fun i j => .bl (decide (j ≤ i))) := opB0 fun _ _ _ _ _ _ _ q => ge_int q
theorem op_isN : OpR X (compareOp .Is) (fun x y H Q => y = .non ∧ Q (.bl (decide (x = .non))) H) := by
 intro pins s σ H x y v u Q I rx ry h
 obtain ⟨rfl, q⟩ := h
 cases ry
 refine is_none_gen (fin_bl I q ?_)
 cases x <;> first
  | (cases rx; rfl)
  | (obtain ⟨t, rfl⟩ := rx; rfl)
theorem op_notN : OpR X (compareOp .IsNot) (fun x y H Q => y = .non ∧ Q (.bl (!decide (x = .non))) H) := by
 intro pins s σ H x y v u Q I rx ry h
 obtain ⟨rfl, q⟩ := h
 cases ry
 refine isnot_none_gen (fin_bl I q ?_)
 cases x <;> first
  | (cases rx; rfl)
  | (obtain ⟨t, rfl⟩ := rx; rfl)
theorem nomark (b : Expr) {op : CmpOp} (h : op ≠ .In := by decide) (h2 : op ≠ .NotIn := by decide) : behindInMarks op b = false := by
 have e1 : (op == CmpOp.In) = false := by cases op <;> first | rfl | exact absurd rfl h
 have e2 : (op == CmpOp.NotIn) = false := by cases op <;> first | rfl | exact absurd rfl h2
 cases b <;> simp [behindInMarks, e1, e2]
theorem pe_cmpR {op : CmpOp} {r : R2} (ho : OpR X (compareOp op) r) (ha : PE X a ta) (hb : PE X b tb) (hm : behindInMarks op b = false) : PE X (.Compare a [op] [b] pos) (tOp r ta tb) := by
 intro pins s σ H Q I h
 exact wpAny_Compare1 (binT ha hb I h fun v u s2 x y H2 I2 rx ry q => ho pins s2 σ H2 x y v u Q I2 rx ry q) hm
def tTest (t : TE) : TT := fun σ H Q => t σ H fun x H' => ∃ k, x = .bl k ∧ Q k H'
theorem pt_cmpR {op : CmpOp} {r : R2} (ho : OpR X (compareOp op) r) (ha : PE X a ta) (hb : PE X b tb) (hm : behindInMarks op b = false) : PT X (.Compare a [op] [b] pos) (tTest (tOp r ta tb)) := by
 intro pins s σ H Q I h
 refine wpAny_isTrue_Compare1 (thn (ha pins s σ H _ I h) fun v s1 ⟨x, H1, I1, r1, q1⟩ => thn (hb pins s1 σ H1 _ I1 q1) fun u s2 ⟨y, H2, I2, r2, q2⟩ =>
  thn (ho pins s2 σ H2 x y v u _ I2 r1 r2 q2) fun c s3 ⟨z, H3, I3, r3, k, e, q3⟩ => ?_) hm
 subst e
 cases r3
 exact wpAny_truthy_bool ⟨H3, I3, q3⟩
def tChain (r r' : R2) (ta tb tc : TE) : TE := fun σ H Q => ta σ H fun x H1 => tb σ H1 fun y H2 => r x y H2 fun z H3 => ∃ k, z = .bl k ∧
 (if k = true then tc σ H3 fun w' H4 => r' y w' H4 Q else Q (.bl false) H3)
theorem pe_chain {op op' : CmpOp} {r r' : R2} (ho : OpR X (compareOp op) r) (ho' : OpR X (compareOp op') r') (ha : PE X a ta) (hb : PE X b tb) (hc : PE X c tc)
  (hm : lastMarks [op, op'] [b, c] = false := by with_unfolding_all rfl) : PE X (.Compare a [op, op'] [b, c] pos) (tChain r r' ta tb tc) := by
 intro pins s σ H Q I h
 refine Compare_chain (thn (ha pins s σ H _ I h) fun v s1 ⟨x, H1, I1, r1, q1⟩ => chain_link (thn (hb pins s1 σ H1 _ I1 q1) fun u s2 ⟨y, H2, I2, r2, q2⟩ =>
  thn (ho pins s2 σ H2 x y v u _ I2 r1 r2 q2) fun d s3 ⟨z, H3, I3, r3, k, e, q3⟩ => ?_)) hm
 subst e
 cases r3
 refine wpAny_truthy_bool ?_
 cases k with
 | false => exact ite_ff ⟨.bl false, H3, I3, rfl, q3⟩
 | true => exact ite_tt (chain_last (thn (hc pins s3 σ H3 _ I3 q3) fun w' s4 ⟨z', H4, I4, r4, q4⟩ => ho' pins s4 σ H4 y z' u w' Q I4 r2 r4 q4))
def TruV (K : PySem.W.Frag) (x : V) (H : Hp) (k : Bool) : Prop :=
 match x with
 | .non => k = false
 | .bl b => k = b
 | .int i => k = (i != 0)
 | .str y => y.length ≤ sizeLine ∧ k = ((y.length : Int) != 0)
 | .byt y => y.size ≤ sizeLine ∧ k = ((y.size : Int) != 0)
 | .ref p => (∃ xs, SqL K H p xs ∧ k = !xs.isEmpty) ∨ (∃ xs, SqT K H p xs ∧ k = !xs.isEmpty) ∨ ∃ kvs, H p = some (.dK kvs) ∧ k = !kvs.isEmpty
 | _ => False
theorem isEmpty_kv {κ : Type} {kvs : List (κ × V)} {vs : List (κ × Value)} (r : KV kvs vs) : (!vs.isEmpty) = !kvs.isEmpty := by
 cases r <;> rfl
theorem isEmpty_of {xs : List V} {its : List Value} (r : Vals xs its) : (!its.toArray.isEmpty) = !xs.isEmpty := by
 cases r <;> simp
theorem line63 : (sizeLine : Nat) < 2 ^ 63 := by rw [sizeLine_eq]; decide
theorem tru_ok : TruR X (fun x H Q => ∃ k, TruV X.K x H k ∧ Q k H) := by
 intro pins s σ H x v Q I rx h
 obtain ⟨k, e, q⟩ := h
 have hl := line63
 have hs : sizeLine = 16777216 := sizeLine_eq
 cases x with
 | non =>
  cases rx
  have e' : k = false := e
  subst e'
  exact truthy_none ⟨H, I, q⟩
 | bl b =>
  cases rx
  have e' : k = b := e
  subst e'
  exact wpAny_truthy_bool ⟨H, I, q⟩
 | int i =>
  obtain ⟨t, rfl⟩ := rx
  have e' : k = (i != 0) := e
  subst e'
  exact PySem.P.truthy_int ⟨H, I, q⟩
 | str y =>
  obtain ⟨t, rfl⟩ := rx
  obtain ⟨hy, e'⟩ : y.length ≤ sizeLine ∧ k = ((y.length : Int) != 0) := e
  subst e'
  exact PySem.P.truthy_str (by omega) ⟨H, I.tok _, q⟩
 | byt y =>
  obtain ⟨t, rfl⟩ := rx
  obtain ⟨hy, e'⟩ : y.size ≤ sizeLine ∧ k = ((y.size : Int) != 0) := e
  subst e'
  exact PySem.W.truthy_bytes (by omega) ⟨H, I.tok _, q⟩
 | ref p =>
  cases rx
  have e' : (∃ xs, SqL X.K H p xs ∧ k = !xs.isEmpty) ∨ (∃ xs, SqT X.K H p xs ∧ k = !xs.isEmpty) ∨ ∃ kvs, H p = some (.dK kvs) ∧ k = !kvs.isEmpty := e
  rcases e' with ⟨xs, hx, e'⟩ | ⟨xs, hx, e'⟩ | ⟨kvs, hx, e'⟩
  ·subst e'
   obtain ⟨its, r, pl, hz⟩ := I.list hx
   have hlen := r.length
   exact wpAny_truthy_list pl.isList (by simp only [List.size_toArray]; omega) ⟨H, I.tok _, by rw [isEmpty_of r]; exact q⟩
  ·subst e'
   obtain ⟨its, r, pl, hz⟩ := I.tuple hx
   have hlen := r.length
   exact truthy_tuple pl (by simp only [List.size_toArray]; omega) ⟨H, I.tok _, by rw [isEmpty_of r]; exact q⟩
  ·subst e'
   obtain ⟨hz, hS, vs, r, m⟩ : kvs.length ≤ sizeLine ∧ (p == sysModules) = false ∧ ∃ vs, KV kvs vs ∧ s.heap.DictOf (mixKind X.prog X.w) p vs := I.hok p _ hx
   have hlen : kvs.length = vs.length := Paired.length r
   exact wpAny_truthy_dict hS m (by omega) ⟨H, I.tok _, by rw [isEmpty_kv r]; exact q⟩
 | _ => exact (show False from e).elim
theorem pt_truth (ha : PE X a ta) (he : ∀ whole, isTrue a X.env whole = (do let v ← whole; standAt a.pos; holding [v] (truthy v))) :
  PT X a (fun σ H Q => ta σ H fun x H' => ∃ k, TruV X.K x H' k ∧ Q k H') := by
 intro pins s σ H Q I h
 exact isTrue_plain (thn (ha pins s σ H _ I h) fun v s1 ⟨x, H1, I1, r1, q1⟩ => tru_ok pins s1 σ H1 x v Q I1 r1 q1) (he _)
theorem vals1 {x : V} {us : List Value} (r : Vals [x] us) : ∃ u, us = [u] ∧ RelV x u := by
 cases r with
 | cons r1 r2 => cases r2; exact ⟨_, rfl, r1⟩
theorem vals2 {x y : V} {us : List Value} (r : Vals [x, y] us) : ∃ u w', us = [u, w'] ∧ RelV x u ∧ RelV y w' := by
 cases r with
 | cons r1 r2 =>
  cases r2 with
  | cons r3 r4 => cases r4; exact ⟨_, _, rfl, r1, r3⟩
theorem call_max2 (hc : X.calm = true) : CallR X (.builtin "max") (fun xs H Q => ∃ i j, xs = [.int i, .int j] ∧ Q (.int (if j > i then j else i)) H) := by
 intro pins s σ H xs us Q I r h
 obtain ⟨i, j, rfl, q⟩ := h
 obtain ⟨u, w', rfl, ⟨t, rfl⟩, ⟨t', rfl⟩⟩ := vals2 r
 refine max_two_ints (I.ok.hd hc) fun h' tk k => ⟨_, H, I.kept k, ?_, q⟩
 by_cases hj : j > i
 ·rw [if_pos hj, if_pos hj]; exact ⟨_, rfl⟩
 ·rw [if_neg hj, if_neg hj]; exact ⟨_, rfl⟩
theorem call_min2 (hc : X.calm = true) : CallR X (.builtin "min") (fun xs H Q => ∃ i j, xs = [.int i, .int j] ∧ Q (.int (if j < i then j else i)) H) := by
 intro pins s σ H xs us Q I r h
 obtain ⟨i, j, rfl, q⟩ := h
 obtain ⟨u, w', rfl, ⟨t, rfl⟩, ⟨t', rfl⟩⟩ := vals2 r
 refine min_two_ints (I.ok.hd hc) fun h' tk k => ⟨_, H, I.kept k, ?_, q⟩
 by_cases hj : j < i
 ·rw [if_pos hj, if_pos hj]; exact ⟨_, rfl⟩
 ·rw [if_neg hj, if_neg hj]; exact ⟨_, rfl⟩
end
end L2
namespace L2
open PySem PySem.Spec PyProof.Rows
structure ObjM (h : Heap) (x dx C : Addr) (mA : Str → Option Value) : Prop where
 obj : h.get? x = some (PySem.W.instObj C dx)
 ns : h.Ns1 dx mA
 ne : dx ≠ x
theorem lookIn_ns {h : Heap} {dx : Addr} {mA : Str → Option Value} (n : h.Ns1 dx mA) : ∃ od, h.get? dx = some od ∧ ∀ name, PySem.W.lookIn name od = some (mA name) := by
 obtain ⟨o, es, ep, ho, hd, hk, _, hm⟩ := n
 refine ⟨o, ho, fun name => ?_⟩
 have e := hm name
 unfold nsFind findBy at e
 rw [← Array.find?_toList] at e
 unfold PySem.W.lookIn
 rw [hd]
 dsimp only
 split
 ·rename_i y q
  rw [q] at e
  exact congrArg some e
 ·rename_i q
  rw [q] at e
  have a : es.toList.any (·.refKey) = false := by
   rw [List.any_eq_false]
   intro y hy
   obtain ⟨z, t, hkey⟩ := hk y (Array.mem_toList_iff.mp hy)
   simp [DictEntry.refKey, hkey]
  have a' : ¬ es.toList.any (·.refKey) = true := by rw [a]; exact Bool.false_ne_true
  rw [if_neg a']
  exact congrArg some e
theorem ObjM.look {h : Heap} {x dx C : Addr} {mA : Str → Option Value} (I : ObjM h x dx C mA) : ∃ od, PySem.W.InstAt h x (PySem.W.instObj C dx) C (some od) ∧ ∀ name, PySem.W.lookIn name od = some (mA name) :=
 let ⟨od, ho, hl⟩ := lookIn_ns I.ns
 ⟨od, ⟨I.obj, rfl, rfl, ho⟩, hl⟩
section
variable {prog : Program} {w : World} {A : Around} {E : Value → Shared → Prop} {s : Shared} {K : PySem.W.Frag} {x dx C f : Addr} {mA : Str → Option Value} {name : Str} {v : Value}
theorem get_map {expr : Bool} {Q : Value → Shared → Prop} (X : K.In s.heap) (I : ObjM s.heap x dx C mA) (hg : PySem.W.plainGet K C name = true) (hh : PySem.W.hasDictIn K C = true)
  (ha : PySem.W.findIn K (.ref C) name = some none) (hv : mA name = some v) (hv' : PySem.W.handedIn v = true) (h : Q v { s with toks := s.toks + 1 }) :
  wpAny (model prog w) A (getAttr (.ref x) name expr) Q E s := by
 obtain ⟨od, J, hl⟩ := I.look
 exact PySem.W.get_value X J (PySem.W.plainGet_of hg).1 (PySem.W.findObj_own hh ha rfl (by rw [hl, hv])) hv' h
theorem get_meth {pl : Sem Bool} {Q : Value × List Value → Shared → Prop} (X : K.In s.heap) (I : ObjM s.heap x dx C mA) (hg : PySem.W.plainGet K C name = true)
  (hf : PySem.W.findIn K (.ref C) name = some (some (.ref f))) (ht : PySem.W.isFn K (.ref f) = true) (hv : mA name = none) (h : Q (.ref f, [.ref x]) s) :
  wpAny (model prog w) A (getMethod (.ref x) name pl) Q E s := by
 obtain ⟨od, J, hl⟩ := I.look
 exact PySem.W.method_fn X J (PySem.W.plainGet_of hg).1 (PySem.W.plainGet_of hg).2 hf (beq_iff_eq.mp ht) (by show (PySem.W.lookIn name od).map (·.isSome) = some false; rw [hl, hv]; rfl) h
theorem set_map {ns : List Str} {Q : Unit → Shared → Prop} (X : K.In s.heap) (I : ObjM s.heap x dx C mA)
  (hs : PySem.W.findIn K (.ref C) "__setattr__" = some (some (.builtin "object.__setattr__"))) (hp : PySem.W.plainOver K C = true) (ht : PySem.W.takerIn K C name = some none) (hh : PySem.W.hasDictIn K C = true)
  (hw : PySem.Within mA ns) (hsz : ns.length ≤ sizeLine)
  (h : ∀ h', ObjM h' x dx C (fun y => if y = name then some v else mA y) → Heap.SameBut dx s.heap h' → Q () { s with heap := h', toks := s.toks + 2 }) :
  wpAny (model prog w) A (setAttr (.ref x) name v) Q E s := by
 obtain ⟨od, J, hl⟩ := I.look
 refine PySem.W.set_plain X J hs (PySem.W.osa_open (s := { s with toks := s.toks + 1 }) (r := none) X J hp ht fun b => ?_)
 obtain ⟨cd, hc, hd'⟩ := PySem.W.any_some hh
 have hx : s.heap.get? x = some ⟨.ref C, some dx, .plain, #[]⟩ := I.obj
 refine wpAny_bind (wpAny_pure (wpAny_bind (wpAny_bind (wpAny_loadPart hx (wpAny_bind (PySem.W.Looks.here (s := { s with toks := s.toks + 1 }) (PySem.W.looks_clsIn X hc) ?_))))))
 rw [hd']
 refine wpAny_pure (a := some dx) (wpAny_bind (wpAny_pure (wpAny_bind ?_)))
 refine wpAny_nsSet1 (s := { s with toks := s.toks + 1 }) I.ns fun h' hn2 hs2 => ?_
 obtain ⟨oD, esD, epD, hoD, hdD, hcD⟩ := hn2.count (PySem.Within.cons name v hw)
 refine wpAny_bind (wpAny_lookBehind hoD (by rw [hdD]; exact pastItsLine_dict (Nat.le_trans hcD (by rw [List.length_cons]; omega))) ?_)
 exact wpAny_pure (h _ ⟨(hs2.2 _ (Ne.symm I.ne)).trans I.obj, hn2, I.ne⟩ hs2)
theorem make_map {R : Result → Shared → Prop} {vs : List Value} {kw : List (Str × Value)} (X : K.In s.heap) (hm : PySem.W.makesIn K C = true)
  (hi : PySem.W.findIn K (.ref C) "__init__" = some (some (.ref f))) (hf : PySem.W.typeIn K (.ref f) = some (.type "function"))
  (h : codeAny (model prog w) (A.under (.builtin "type.__call__" ⟨.ref C :: vs, kw⟩)) (.call (.ref f) ⟨.ref (s.heap.objs.size + 1) :: vs, kw⟩) (PySem.W.InitBack (s.heap.objs.size + 1) R)
   { s with heap := (s.heap.push PySem.W.emptyDict).push (PySem.W.instObj C s.heap.objs.size) }) :
  codeAny (model prog w) A (.call (.ref C) ⟨vs, kw⟩) R s := by
 obtain ⟨hh, g, d, t, os⟩ := s
 exact PySem.W.make_core (PySem.W.makes_of X hm) (PySem.W.looks_findIn X hi) (fun self => PySem.W.bind_fn X self hf) (.inl rfl) h
end
def putF (f : Str) (v : V) : List (Str × V) → List (Str × V)
 | [] => [(f, v)]
 | (g, x) :: r => if g = f then (g, v) :: r else (g, x) :: putF f v r
theorem lookup_putF (f g : Str) (v : V) : ∀ fs : List (Str × V), (putF f v fs).lookup g = if g = f then some v else fs.lookup g
 | [] => by
  show List.lookup g [(f, v)] = _
  by_cases h : g = f
  ·have hb : (g == f) = true := beq_iff_eq.mpr h
   simp only [List.lookup, hb, if_pos h]
  ·have hb : (g == f) = false := beq_eq_false_iff_ne.mpr h
   simp only [List.lookup, hb, if_neg h]
 | (k, x) :: r => by
  have ih := lookup_putF f g v r
  rw [show putF f v ((k, x) :: r) = (if k = f then (k, v) :: r else (k, x) :: putF f v r) from rfl]
  by_cases hk : k = f
  ·rw [if_pos hk]
   by_cases h : g = k
   ·have hb : (g == k) = true := beq_iff_eq.mpr h
    simp only [List.lookup, hb, if_pos (h.trans hk)]
   ·have hb : (g == k) = false := beq_eq_false_iff_ne.mpr h
    simp only [List.lookup, hb, if_neg (fun e : g = f => h (e.trans hk.symm))]
  ·rw [if_neg hk]
   by_cases h : g = k
   ·have hb : (g == k) = true := beq_iff_eq.mpr h
    simp only [List.lookup, hb, if_neg (fun e : g = f => hk (h.symm.trans e))]
   ·have hb : (g == k) = false := beq_eq_false_iff_ne.mpr h
    simp only [List.lookup, hb]
    exact ih
theorem keys_putF (f : Str) (v : V) : ∀ fs : List (Str × V), f ∈ (putF f v fs).map (·.1) ∧ ∀ g, g ∈ fs.map (·.1) → g ∈ (putF f v fs).map (·.1)
 | [] => ⟨by simp [putF], fun g h => by simp at h⟩
 | (k, x) :: r => by
  obtain ⟨i1, i2⟩ := keys_putF f v r
  rw [show putF f v ((k, x) :: r) = (if k = f then (k, v) :: r else (k, x) :: putF f v r) from rfl]
  by_cases hk : k = f
  ·rw [if_pos hk]
   subst hk
   exact ⟨by simp, fun g h => by simpa using h⟩
  ·rw [if_neg hk]
   refine ⟨?_, fun g h => ?_⟩
   ·rw [List.map_cons]
    exact List.mem_cons_of_mem _ i1
   ·rw [List.map_cons] at h ⊢
    rcases List.mem_cons.mp h with e | e
    ·exact List.mem_cons.mpr (.inl e)
    ·exact List.mem_cons_of_mem _ (i2 g e)
theorem length_putF (f : Str) (v : V) : ∀ fs : List (Str × V), (putF f v fs).length ≤ fs.length + 1
 | [] => by simp [putF]
 | (k, x) :: r => by
  have ih := length_putF f v r
  rw [show putF f v ((k, x) :: r) = (if k = f then (k, v) :: r else (k, x) :: putF f v r) from rfl]
  by_cases hk : k = f
  ·rw [if_pos hk, List.length_cons, List.length_cons]; omega
  ·rw [if_neg hk, List.length_cons, List.length_cons]; omega
theorem RelO.some_of {v : V} {o : Option Value} (r : RelO (some v) o) : ∃ u, o = some u ∧ RelV v u := by
 cases o with
 | none => exact (show False from r).elim
 | some u => exact ⟨u, rfl, r⟩
theorem RelO.none_of {o : Option Value} (r : RelO none o) : o = none := by
 cases o with
 | none => rfl
 | some u => exact (show False from r).elim
theorem handed_of {v : V} {u : Value} (r : RelV v u) : PySem.W.handedIn u = true := by
 cases v with
 | non => cases (show u = Value.none from r); rfl
 | bl b => cases (show u = Value.bool b from r); rfl
 | int i => obtain ⟨t, e⟩ := (show ∃ t, u = Value.int i t from r); cases e; rfl
 | str x => obtain ⟨t, e⟩ := (show ∃ t, u = Value.str x t from r); cases e; rfl
 | byt b => obtain ⟨t, e⟩ := (show ∃ t, u = Value.bytes b t from r); cases e; rfl
 | flt b => obtain ⟨t, e⟩ := (show ∃ t, u = Value.float b t from r); cases e; rfl
 | ref a => cases (show u = Value.ref a from r); rfl
 | ty n => cases (show u = Value.type n from r); rfl
section
variable {P : Program} {w : World} {H H' : Hp} {h h' : Heap} {a C dx : Addr} {fs fs' : List (Str × V)}
theorem ins_get (hok : HOk P w H h) (e : H a = some (.ins C dx fs)) : ∃ mA, ObjM h a dx C mA ∧ (∀ f, RelO (fs.lookup f) (mA f)) ∧ PySem.Within mA (fs.map (·.1)) ∧ fs.length ≤ 1000 ∧ H dx = some (.own a) := by
 obtain ⟨d, z, ne, ob, mA, n, r, q⟩ := (show ObjOk P w H h a (.ins C dx fs) from hok a _ e)
 exact ⟨mA, ⟨ob, n, ne⟩, r, q, z, d⟩
end
structure Cls (K : PySem.W.Frag) (C : Addr) : Prop where
 pg : PySem.W.plainGet K C Str.empty = true
 hd : PySem.W.hasDictIn K C = true
 po : PySem.W.plainOver K C = true
 sa : PySem.W.findIn K (.ref C) "__setattr__" = some (some (.builtin "object.__setattr__"))
theorem Cls.get {K : PySem.W.Frag} {C : Addr} (c : Cls K C) (f : Str) : PySem.W.plainGet K C f = true := c.pg
def NoAttr (K : PySem.W.Frag) (C : Addr) (f : Str) : Prop := PySem.W.findIn K (.ref C) f = some none
theorem NoAttr.taker {K : PySem.W.Frag} {C : Addr} {f : Str} (n : NoAttr K C f) : PySem.W.takerIn K C f = some none := by
 unfold PySem.W.takerIn
 rw [show PySem.W.findIn K (.ref C) f = some none from n]
 rfl
structure Meth (K : PySem.W.Frag) (C : Addr) (m : Str) (f : Addr) : Prop where
 at_ : PySem.W.findIn K (.ref C) m = some (some (.ref f))
 fn : PySem.W.isFn K (.ref f) = true
 kp : PySem.W.keepIn K (.ref f) = true
section
variable {X : Cx} {pins : List (Addr × Obj)} {σ : St} {H : Hp} {s : Shared} {a C dx : Addr} {fs : List (Str × V)} {f : Str} {v : V} {A : Around} {E : Value → Shared → Prop}
theorem getattr_ok {b : Bool} {Q : Value → Shared → Prop} (I : Inv X pins σ H s) (e : H a = some (.ins C dx fs)) (c : Cls X.K C) (n : NoAttr X.K C f) (l : fs.lookup f = some v)
  (h : ∀ u s', Inv X pins σ H s' → RelV v u → Q u s') : wpAny (model X.prog X.w) A (getAttr (.ref a) f b) Q E s := by
 obtain ⟨mA, O, r, _, _, _⟩ := ins_get I.hok e
 obtain ⟨u, hu, ru⟩ := RelO.some_of (v := v) (o := mA f) (by rw [← l]; exact r f)
 exact get_map I.kIn O (c.get f) c.hd n hu (handed_of ru) (h u _ (I.tok _) ru)
theorem getmeth_ok {m : Str} {g : Addr} {pl : Sem Bool} {Q : Value × List Value → Shared → Prop} (I : Inv X pins σ H s) (e : H a = some (.ins C dx fs)) (c : Cls X.K C) (k : Meth X.K C m g) (l : fs.lookup m = none)
  (h : Q (.ref g, [.ref a]) s) : wpAny (model X.prog X.w) A (getMethod (.ref a) m pl) Q E s := by
 obtain ⟨mA, O, r, _, _, _⟩ := ins_get I.hok e
 have hn : mA m = none := RelO.none_of (by rw [← l]; exact r m)
 exact get_meth I.kIn O (c.get m) k.at_ k.fn hn h
theorem setattr_ok {y : V} {u : Value} {Q : Unit → Shared → Prop} (I : Inv X pins σ H s) (e : H a = some (.ins C dx fs)) (c : Cls X.K C) (n : NoAttr X.K C f) (hl : fs.length < 1000) (ry : RelV y u)
  (h : ∀ s', Inv X pins σ (upd H a (.ins C dx (putF f y fs))) s' → Q () s') : wpAny (model X.prog X.w) A (setAttr (.ref a) f u) Q E s := by
 obtain ⟨mA, O, r, wi, _, ho⟩ := ins_get I.hok e
 have hz : (fs.map (·.1)).length ≤ sizeLine := by rw [List.length_map, sizeLine_eq]; omega
 refine set_map I.kIn O c.sa c.po n.taker c.hd wi hz fun h' O' sb => h _ ?_
 have hd : ∃ o, h'.get? dx = some o := let ⟨o, _, _, e', _⟩ := O'.ns; ⟨o, e'⟩
 refine I.write (x := a) (e := dx) (by rw [e]; exact True.intro) (.inr ho) (fun b q hb z => (sb.2 b hb).trans z) hd ?_
 refine ⟨by rw [upd_ne O.ne]; exact ho, ?_, O.ne, O'.obj, _, O'.ns, fun g => ?_, fun g hg => ?_⟩
 ·have := length_putF f y fs; omega
 ·show RelO ((putF f y fs).lookup g) (if g = f then some u else mA g)
  rw [lookup_putF]
  by_cases q : g = f
  ·rw [if_pos q, if_pos q]; exact ry
  ·rw [if_neg q, if_neg q]; exact r g
 ·by_cases q : g = f
  ·rw [q]; exact (keys_putF f y fs).1
  ·refine (keys_putF f y fs).2 g (wi g fun z => hg ?_)
   show (if g = f then some u else mA g) = none
   rw [if_neg q]; exact z
theorem Inv.made (I : Inv X pins σ H s) : Inv X pins σ (upd (upd H s.heap.objs.size (.own (s.heap.objs.size + 1))) (s.heap.objs.size + 1) (.ins C s.heap.objs.size []))
  { s with heap := (s.heap.push PySem.W.emptyDict).push (PySem.W.instObj C s.heap.objs.size) } := by
 have e1 : (s.heap.push PySem.W.emptyDict).get? s.heap.objs.size = some PySem.W.emptyDict := Heap.get?_push_size s.heap rfl
 have e2 : ((s.heap.push PySem.W.emptyDict).push (PySem.W.instObj C s.heap.objs.size)).get? (s.heap.objs.size + 1) = some (PySem.W.instObj C s.heap.objs.size) := by
  have := Heap.get?_push_size (s.heap.push PySem.W.emptyDict) (o := PySem.W.instObj C s.heap.objs.size) rfl
  rwa [Heap.size_push] at this
 have e3 : (s.heap.push PySem.W.emptyDict).Ns s.heap.objs.size (fun _ => none) := ⟨PySem.W.emptyDict, #[], _, e1, rfl, (fun e he => absurd he (by simp)), fun _ => rfl⟩
 have I1 := I.laid (a := s.heap.objs.size) (o := .own (s.heap.objs.size + 1)) (h' := s.heap.push PySem.W.emptyDict) (t' := s.toks) (fun b u q => Heap.get?_push_of_some _ q) (Nat.le_refl _) ⟨_, e1⟩
 refine I1.laid (a := s.heap.objs.size + 1) (o := .ins C s.heap.objs.size []) (t' := s.toks) (fun b u q => Heap.get?_push_of_some _ q) (Nat.le_of_eq (Heap.size_push _ _)) ?_
 have ne : s.heap.objs.size ≠ s.heap.objs.size + 1 := Nat.ne_of_lt (Nat.lt_succ_self _)
 refine ⟨by rw [upd_ne ne, upd_same], Nat.zero_le _, ne, e2, fun _ => none, (Heap.Ns1.of_empty e3).at fun o q => Heap.get?_push_of_some _ q, fun _ => True.intro, fun y hy => absurd rfl hy⟩
theorem attr_of {prog : Program} {w : World} {env : Env} {e : Expr} {f : Str} {pos : Pos} {s : Shared} {Q : Value → Shared → Prop} (hb : attributeBase e f env (eval e env) = eval e env)
  (h : wpAny (model prog w) A (eval e env) (fun o s₁ => wpAny (model prog w) A (getAttr o f true) Q E s₁) E s) : wpAny (model prog w) A (eval (.Attribute e f pos) env) Q E s :=
 Attribute_any_ h (by rw [arm_eval_Attribute, hb])
end
def tFld (K : PySem.W.Frag) (ta : TE) (f : Str) : TE := fun σ H Q => ta σ H fun x H1 => ∃ a C dx fs v, x = .ref a ∧ H1 a = some (.ins C dx fs) ∧ Cls K C ∧ NoAttr K C f ∧ fs.lookup f = some v ∧ Q v H1
def sFld (K : PySem.W.Frag) (ta tv : TE) (f : Str) : TS := fun D σ H => tv σ H fun y H1 => ta σ H1 fun x H2 => ∃ a C dx fs, x = .ref a ∧ H2 a = some (.ins C dx fs) ∧ Cls K C ∧ NoAttr K C f ∧ fs.length < 1000 ∧
 D.nx σ (upd H2 a (.ins C dx (putF f y fs)))
def InOp (X : Cx) (op : Operator) (rd : V → V → Hp → VK → Prop) : Prop :=
 ∀ (pins : List (Addr × Obj)) (s : Shared) (σ : St) (H : Hp) (x y : V) (u v : Value) (Q : VK), Inv X pins σ H s → RelV x u → RelV y v → rd x y H Q → wpAny (model X.prog X.w) X.A (inplaceOp op u v) (EP X pins σ Q) X.xe s
def sFldAug (K : PySem.W.Frag) (ta tv : TE) (rd : V → V → Hp → VK → Prop) (f : Str) : TS := fun D σ H => ta σ H fun x H1 => ∃ a C dx fs v, x = .ref a ∧ H1 a = some (.ins C dx fs) ∧ Cls K C ∧ NoAttr K C f ∧ fs.lookup f = some v ∧
 tv σ H1 fun y H2 => rd v y H2 fun z H3 => ∃ dx' fs', H3 a = some (.ins C dx' fs') ∧ fs'.length < 1000 ∧ D.nx σ (upd H3 a (.ins C dx' (putF f z fs')))
section
variable {X : Cx} {o e value : Expr} {f : Str} {pos pos' tpos : Pos} {ta tv : TE}
theorem pe_fld (he : PE X e ta) (hb : attributeBase e f X.env (eval e X.env) = eval e X.env) : PE X (.Attribute e f pos) (tFld X.K ta f) := by
 intro pins s σ H Q I h
 refine attr_of hb (thn (he pins s σ H _ I h) fun u s1 ⟨x, H1, I1, rx, a, C, dx, fs, v, ex, ea, c, n, l, q⟩ => ?_)
 subst ex
 obtain rfl : u = Value.ref a := rx
 exact getattr_ok I1 ea c n l fun u' s2 I2 ru => ⟨v, H1, I2, ru, q⟩
theorem ps_fld (ha : PE X o ta) (hv : PE X value tv) (hs : swapsWith value (some (.Attribute o f pos')) pos.line X.env = pure false) : PS X (.Assign [.Attribute o f pos'] value pos) (sFld X.K ta tv f) := by
 intro pins s σ H D I h
 refine plainObj_wpAny_Assign_Attribute (thn (hv pins s σ H _ I h) fun u s1 ⟨y, H1, I1, ry, q⟩ => thn (ha pins s1 σ H1 _ I1 q) fun ov s2 ⟨x, H2, I2, rx, a, C, dx, fs, ex, ea, c, n, l, q2⟩ => ?_) hs
 subst ex
 obtain rfl : ov = Value.ref a := rx
 exact setattr_ok I2 ea c n l ry fun s3 I3 => ⟨σ, _, I3, q2⟩
theorem ps_fldaug {op : Operator} {rd : V → V → Hp → VK → Prop} (ha : PE X o ta) (hv : PE X value tv) (hop : InOp X op rd) : PS X (.AugAssign (.Attribute o f tpos) op value pos) (sFldAug X.K ta tv rd f) := by
 intro pins s σ H D I h
 refine wpAny_AugAssign_AttributeAny (thn (ha pins s σ H _ I h) fun ov s1 ⟨x, H1, I1, rx, a, C, dx, fs, v, ex, ea, c, n, l, q⟩ => ?_)
 subst ex
 obtain rfl : ov = Value.ref a := rx
 refine getattr_ok I1 ea c n l fun u s2 I2 ru => thn (hv pins s2 σ H1 _ I2 q) fun w3 s3 ⟨y, H2, I3, ry, q3⟩ => thn (hop pins s3 σ H2 v y u w3 _ I3 ru ry q3) fun w4 s4 ⟨z, H3, I4, rz, dx', fs', ea', l', q4⟩ => ?_
 exact setattr_ok I4 ea' c n l' rz fun s5 I5 => ⟨σ, _, I5, q4⟩
def rAdd : V → V → Hp → VK → Prop := fun x y H Q => ∃ i j, x = .int i ∧ y = .int j ∧ Q (.int (i + j)) H
def rSub : V → V → Hp → VK → Prop := fun x y H Q => ∃ i j, x = .int i ∧ y = .int j ∧ Q (.int (i - j)) H
theorem in_add : InOp X .Add rAdd := by
 rintro pins s σ H x y u v Q I rx ry ⟨i, j, rfl, rfl, q⟩
 obtain ⟨t, rfl⟩ := (show ∃ t, u = Value.int i t from rx)
 obtain ⟨t', rfl⟩ := (show ∃ t', v = Value.int j t' from ry)
 exact PyProof.Rows.iadd_int ⟨.int (i + j), H, I.tok _, ⟨_, rfl⟩, q⟩
theorem in_sub : InOp X .Sub rSub := by
 rintro pins s σ H x y u v Q I rx ry ⟨i, j, rfl, rfl, q⟩
 obtain ⟨t, rfl⟩ := (show ∃ t, u = Value.int i t from rx)
 obtain ⟨t', rfl⟩ := (show ∃ t', v = Value.int j t' from ry)
 exact PyProof.Rows.isub_int ⟨.int (i - j), H, I.tok _, ⟨_, rfl⟩, q⟩
end
end L2
namespace L2
open PySem PySem.Spec PyProof.Rows
structure Room (k : Nat) (A : Around) : Prop where
 hd : A.handled = none
 dp : A.depth + 3 * k + 5 < recursionLimit
 un : A.units + 16 * k + 200 < cLine
theorem Room.mono {j k : Nat} {A : Around} (r : Room k A) (h : j ≤ k) : Room j A := ⟨r.hd, by have := r.dp; omega, by have := r.un; omega⟩
theorem Room.deeper {k : Nat} {A : Around} (r : Room (k + 1) A) (env : Env) : Room k (A.deeper env) :=
 ⟨r.hd, by have := r.dp; show A.depth + 1 + 3 * k + 5 < _; omega, by have := r.un; show A.units + 3 + 16 * k + 200 < _; omega⟩
theorem Room.in1 {k : Nat} {A : Around} (r : Room (k + 1) A) : Room k A.in1 :=
 ⟨r.hd, by have := r.dp; show A.depth + 3 * k + 5 < _; omega, by have := r.un; show A.units + 1 + 16 * k + 200 < _; omega⟩
theorem make_depth {A : Around} {C : Addr} {us : List Value} {kw : List (Str × Value)} : (A.under (.builtin "type.__call__" ⟨.ref C :: us, kw⟩)).depth = A.depth + 1 := by
 first | rfl | simp [Around.under, Code.weight, Code.isCreation, Code.isGuard, Code.isCaller, Code.frames, Code.isFrame, guardIds]
theorem make_units {A : Around} {C : Addr} {us : List Value} {kw : List (Str × Value)} : (A.under (.builtin "type.__call__" ⟨.ref C :: us, kw⟩)).units = A.units + 1 := by
 first | rfl | simp [Around.under, Code.cUnits, Code.frames, Code.isFrame]
theorem Room.make {k : Nat} {A : Around} (r : Room (k + 1) A) (C : Addr) (us : List Value) (kw : List (Str × Value)) : Room k (A.under (.builtin "type.__call__" ⟨.ref C :: us, kw⟩)) :=
 ⟨r.hd, by have := r.dp; rw [make_depth]; omega, by have := r.un; rw [make_units]; omega⟩
theorem Room.depth {k : Nat} {A : Around} (r : Room k A) : A.depth < recursionLimit := by have := r.dp; omega
theorem Room.units {k : Nat} {A : Around} (r : Room k A) : A.units + 64 < cLine := by have := r.un; omega
def tNil : TA := fun _ H Q => Q [] H
def tCons (ta : TE) (tr : TA) : TA := fun σ H Q => ta σ H fun x H1 => tr σ H1 fun xs H2 => Q (x :: xs) H2
section
variable {X : Cx} {e : Expr} {es : List Expr} {te : TE} {t : TA} {pos : Pos}
theorem pa_nil : PA X [] tNil := fun _ _ _ _ H Q I h => Calls.spliced_nil ⟨[], H, I, .nil, h⟩
theorem pa_cons (ha : PE X e te) (hr : PA X es t) (hs : starEach (e :: es) X.env = (false, eval e X.env) :: starEach es X.env := by rfl) : PA X (e :: es) (tCons te t) := by
 intro pos pins s σ H Q I h
 rw [hs]
 show wpAny _ _ (spliced ((false, eval e X.env) :: backTo pos (starEach es X.env))) _ _ s
 refine Calls.spliced_cons (thn (ha pins s σ H _ I h) fun u s1 ⟨x, H1, I1, r1, q1⟩ => ?_)
 exact thn (hr pos pins s1 σ H1 _ I1 q1) fun us s2 ⟨xs, H2, I2, r2, q2⟩ => ⟨x :: xs, H2, I2, .cons r1 r2, q2⟩
def tTup (t : TA) : TE := fun σ H Q => t σ H fun xs H1 => xs.length ≤ sizeLine ∧ ∀ p, H1 p = none → Q (.ref p) (upd H1 p (.tup xs))
def tLst (t : TA) : TE := fun σ H Q => t σ H fun xs H1 => xs.length ≤ sizeLine ∧ ∀ p, H1 p = none → Q (.ref p) (upd H1 p (.lst xs))
theorem pe_tup {x1} (h : PA X es t) : PE X (.Tuple es x1 pos) (tTup t) := by
 intro pins s σ H Q I hq
 refine wpAny_Tuple_spliced (thn (h pos pins s σ H _ I hq) fun us s1 ⟨xs, H1, I1, r, z, q⟩ => ⟨by rw [← r.length]; exact z, ?_⟩)
 have hf : H1 s1.heap.objs.size = none := I1.hok.fresh (Nat.le_refl _)
 refine ⟨.ref s1.heap.objs.size, upd H1 s1.heap.objs.size (.tup xs), I1.laid (t' := s1.toks) (fun b u e => Heap.get?_push_of_some _ e) (Nat.le_refl _) ?_, rfl, q _ hf⟩
 exact ⟨z, us, r, ⟨_, Heap.get?_push_size _ rfl, rfl, _, rfl⟩⟩
theorem pe_lst (h : PA X es t) : PE X (.List es pos) (tLst t) := by
 intro pins s σ H Q I hq
 refine wpAny_List_spliced (thn (h pos pins s σ H _ I hq) fun us s1 ⟨xs, H1, I1, r, z, q⟩ => ⟨by rw [← r.length]; exact z, ?_⟩)
 have hf : H1 s1.heap.objs.size = none := I1.hok.fresh (Nat.le_refl _)
 refine ⟨.ref s1.heap.objs.size, upd H1 s1.heap.objs.size (.lst xs), I1.laid (t' := s1.toks) (fun b u e => Heap.get?_push_of_some _ e) (Nat.le_refl _) ?_, rfl, q _ hf⟩
 exact ⟨z, us, 0, r, Heap.get?_push_size _ rfl⟩
end
abbrev Sp := List V → Hp → VK → XK → Prop
abbrev CXT := List Env → Hp → Shared → XK → Value → Shared → Prop
structure Env0 (P : Program) (w : World) (K : PySem.W.Frag) (mg : Str → Option Value) (base : Heap) (A : Around) (outer : List Env) (s : Shared) (H : Hp) : Prop where
 frames : A.frames = some outer
 mod : Mod K mg base
 bs : ∀ b o, base.get? b = some o → s.heap.get? b = some o ∧ H b = none
 bsz : base.objs.size ≤ s.heap.objs.size
 funs : s.heap.FunFrames base outer
 frf : ∀ b ∈ frs outer, H b = none
 hok : HOk P w H s.heap
 bare : AllBare s.gens
def CE (outer : List Env) (P : Program) (w : World) (H : Hp) (s : Shared) (Q : VK) (u : Value) (s' : Shared) : Prop :=
 ∃ v H', s'.os = s.os ∧ AllBare s'.gens ∧ Un (frs outer) [] H H' s.heap s'.heap ∧ HOk P w H' s'.heap ∧ RelV v u ∧ Q v H'
def CR (CX : CXT) (outer : List Env) (P : Program) (w : World) (H : Hp) (s : Shared) (Q : VK) (E : XK) (r : Result) (s' : Shared) : Prop :=
 match r with
 | .ok (.ret u) => CE outer P w H s Q u s'
 | .ok _ => False
 | .error e => CX outer H s E e s'
structure FnOk (P : Program) (w : World) (K : PySem.W.Frag) (mg : Str → Option Value) (base : Heap) (CX : CXT) (k : Nat) (f : Addr) (fd : FuncData) (ps : List Str) (sp : Sp) : Prop where
 len : ∀ vs H Q E, sp vs H Q E → vs.length = ps.length
 run : ∀ (A : Around) (outer : List Env) (s : Shared) (H : Hp) (args : Args) (us : List Value) (vs : List V) (Q : VK) (E : XK), Room k A → Env0 P w K mg base A outer s H → BindsTo s fd args (ps.zip us) → Vals vs us → sp vs H Q E →
  codeAny (model P w) A (.call (.ref f) args) (CR CX outer P w H s Q E) s
theorem FnOk.mono {P : Program} {w : World} {K : PySem.W.Frag} {mg : Str → Option Value} {base : Heap} {CX : CXT} {j k : Nat} {f : Addr} {fd : FuncData} {ps : List Str} {sp : Sp} (F : FnOk P w K mg base CX j f fd ps sp) (h : j ≤ k) :
  FnOk P w K mg base CX k f fd ps sp := ⟨F.len, fun A outer s H args us vs Q E hr => F.run A outer s H args us vs Q E (hr.mono h)⟩
theorem FnOk.imp {P : Program} {w : World} {K : PySem.W.Frag} {mg : Str → Option Value} {base : Heap} {CX : CXT} {k : Nat} {f : Addr} {fd : FuncData} {ps : List Str} {sp sp' : Sp} (F : FnOk P w K mg base CX k f fd ps sp)
  (h : ∀ vs H Q E, sp' vs H Q E → sp vs H Q E) : FnOk P w K mg base CX k f fd ps sp' :=
 ⟨fun vs H Q E q => F.len vs H Q E (h _ _ _ _ q), fun A outer s H args us vs Q E hr he hb hv hs => F.run A outer s H args us vs Q E hr he hb hv (h _ _ _ _ hs)⟩
theorem Env0.make {P : Program} {w : World} {K : PySem.W.Frag} {mg : Str → Option Value} {base : Heap} {A : Around} {outer : List Env} {s : Shared} {H : Hp} (e : Env0 P w K mg base A outer s H) (C : Addr) (us : List Value) (kw : List (Str × Value)) :
  Env0 P w K mg base (A.under (.builtin "type.__call__" ⟨.ref C :: us, kw⟩)) outer s H := ⟨by first | exact e.frames | (simpa [Around.under, Code.envs, Code.isFrame, pushEnvs] using e.frames), e.mod, e.bs, e.bsz, e.funs, e.frf, e.hok, e.bare⟩
theorem Env0.in1 {P : Program} {w : World} {K : PySem.W.Frag} {mg : Str → Option Value} {base : Heap} {A : Around} {outer : List Env} {s : Shared} {H : Hp} (e : Env0 P w K mg base A outer s H) :
  Env0 P w K mg base A.in1 outer s H := ⟨e.frames, e.mod, e.bs, e.bsz, e.funs, e.frf, e.hok, e.bare⟩
section
variable {X : Cx} {pins : List (Addr × Obj)} {σ : St} {H : Hp} {s s' : Shared}
theorem Inv.env0 (I : Inv X pins σ H s) : Env0 X.prog X.w X.K X.mg X.base X.A X.stack s H :=
 ⟨I.ok.frames, I.ok.mod, I.bs, Nat.le_trans I.ok.bsz I.sz, I.stack, I.stkFree, I.hok, I.bare⟩
theorem Inv.after {Q : VK} {u : Value} (I : Inv X pins σ H s) (h : CE X.stack X.prog X.w H s Q u s') : EP X pins σ Q u s' := by
 obtain ⟨v, H', os, bare, un, hok, r, q⟩ := h
 obtain ⟨hh, g, d, t, os'⟩ := s'
 obtain rfl : os' = s.os := os
 exact ⟨v, H', I.call (h' := hh) (g' := g) (d' := d) (t' := t) (ch := []) un hok bare (fun b z => absurd z (by simp)), r, q⟩
end
def tCall (sp : Sp) (dvs : List V) (E : XK) (t : TA) : TE := fun σ H Q => t σ H fun vs H1 => sp (vs ++ dvs) H1 Q E
def tMeth (C : Addr) (m : Str) (sp : Sp) (dvs : List V) (E : XK) (ta : TE) (t : TA) : TE := fun σ H Q => ta σ H fun x H1 => ∃ a dx fs, x = .ref a ∧ H1 a = some (.ins C dx fs) ∧ fs.lookup m = none ∧
 t σ H1 fun vs H2 => sp (x :: (vs ++ dvs)) H2 Q E
def tMake (C : Addr) (sp : Sp) (dvs : List V) (E : XK) (t : TA) : TE := fun σ H Q => t σ H fun vs H1 => ∀ x dx, H1 x = none → H1 dx = none → dx ≠ x →
 sp (.ref x :: (vs ++ dvs)) (upd (upd H1 dx (.own x)) x (.ins C dx [])) (fun v H2 => v = .non ∧ Q (.ref x) H2) E
def Binds (K : PySem.W.Frag) (fd : FuncData) (ps : List Str) (ds : List Value) : Prop :=
 ∀ (s : Shared) (us : List Value), K.In s.heap → (us ++ ds).length = ps.length → BindsTo s fd ⟨us, []⟩ (ps.zip (us ++ ds))
theorem Binds.all {K : PySem.W.Frag} {fd : FuncData} {ps : List Str} (h : ∀ us : List Value, us.length = ps.length → bindArgs fd ⟨us, []⟩ = pure (ps.zip us)) : Binds K fd ps [] := fun s us _ hl => by
 rw [List.append_nil] at hl ⊢
 exact .of_eq (h us hl)
def Passes (CX : CXT) (X : Cx) (E : XK) : Prop := ∀ (pins : List (Addr × Obj)) (σ : St) (H : Hp) (s : Shared) (e : Value) (s' : Shared), Inv X pins σ H s → CX X.stack H s E e s' → X.xe e s'
section
variable {X : Cx} {CX : CXT} {k : Nat} {f C : Addr} {fd : FuncData} {ps : List Str} {sp : Sp} {dvs : List V} {ds : List Value} {E : XK} {x m : Str} {p pos apos : Pos} {e o : Expr} {es : List Expr} {ta : TE} {t : TA}
theorem run_fn {pins : List (Addr × Obj)} {σ : St} {H : Hp} {s : Shared} {Q : VK} {us : List Value} {vs : List V} (F : FnOk X.prog X.w X.K X.mg X.base CX k f fd ps sp) (hr : Room k X.A) (hb : Binds X.K fd ps ds) (hd : Vals dvs ds) (hx : Passes CX X E)
  (I : Inv X pins σ H s) (r : Vals vs us) (h : sp (vs ++ dvs) H Q E) : wpAny (model X.prog X.w) X.A (call (.ref f) us) (EP X pins σ Q) X.xe s := by
 have r2 : Vals (vs ++ dvs) (us ++ ds) := r.append hd
 have hl : (us ++ ds).length = ps.length := by rw [← r2.length]; exact F.len _ _ _ _ h
 refine wpAny_call (codeAny_mono (F.run X.A X.stack s H ⟨us, []⟩ (us ++ ds) (vs ++ dvs) Q E hr I.env0 (hb s us I.kIn hl) r2 h) fun r s' hq => ?_)
 cases r with
 | error e => exact hx pins σ H s e s' I hq
 | ok fl =>
  cases fl with
  | ret u => exact I.after hq
  | next => exact False.elim hq
  | brk => exact False.elim hq
  | cont => exact False.elim hq
theorem pe_call (F : FnOk X.prog X.w X.K X.mg X.base CX k f fd ps sp) (hr : Room k X.A) (hg : Gl X x) (hm : X.mg x = some (.ref f)) (hk : PySem.W.keepIn X.K (.ref f) = true) (hb : Binds X.K fd ps ds) (hd : Vals dvs ds) (hx : Passes CX X E)
  (ha : PA X (e :: es) t) (hdb : (x == ("__debug__" : Str)) = false := by decide) (he : starEach (e :: es) X.env = (false, eval e X.env) :: starEach es X.env := by rfl) (hpl : (backTo pos (starEach es X.env)).any (·.1) = false := by rfl) :
  PE X (.Call (.Name x p) (e :: es) [] pos) (tCall sp dvs E t) := by
 intro pins s σ H Q I h
 refine wpAny_Call_Name_kw (ld_glob I hg hm ?_ hdb)
 refine PySem.W.callWith_K (h₀ := X.base) I.ok.mod.kin hk (thn (ha pos pins s σ H _ I h) fun us s1 ⟨vs, H1, I1, r, q⟩ => ⟨I1.kIn, ?_⟩) he hpl
 exact run_fn F hr hb hd hx I1 r q
theorem pe_meth {pl : Sem Bool} (he : PE X o ta) (c : Cls X.K C) (hm : Meth X.K C m f) (F : FnOk X.prog X.w X.K X.mg X.base CX k f fd ps sp) (hr : Room k X.A) (hb : Binds X.K fd ps ds) (hd : Vals dvs ds) (hx : Passes CX X E) (ha : PA X (e :: es) t)
  (hst : starEach (e :: es) X.env = (false, eval e X.env) :: starEach es X.env := by rfl) (hpl : (backTo pos (starEach es X.env)).any (·.1) = false := by rfl)
  (ht : eval (.Call (.Attribute o m apos) (e :: es) [] pos) X.env = (do
   let ov ← eval o X.env
   standAt apos.atName
   let (f, first) ← holding [ov] (getMethod ov m pl)
   callWith pos f first (backTo pos (starEach (e :: es) X.env)) (backToKw pos (keywordEach [] X.env))) := by rfl) :
  PE X (.Call (.Attribute o m apos) (e :: es) [] pos) (tMeth C m sp dvs E ta t) := by
 intro pins s σ H Q I h
 refine PySem.W.methodCall_KW (pl := pl) (thn (he pins s σ H _ I h) fun u s1 ⟨x, H1, I1, rx, a, dx, fs, ex, ea, l, q⟩ => ?_) ht
 subst ex
 obtain rfl : u = Value.ref a := rx
 refine getmeth_ok I1 ea c hm l ?_
 refine PySem.W.callWith_K (first := [.ref a]) (h₀ := X.base) I.ok.mod.kin hm.kp (thn (ha pos pins s1 σ H1 _ I1 q) fun us s2 ⟨vs, H2, I2, r, q2⟩ => ⟨I2.kIn, ?_⟩) hst hpl
 exact run_fn (us := .ref a :: us) (vs := .ref a :: vs) F hr hb hd hx I2 (.cons rfl r) q2
theorem pe_meth0 {pl : Sem Bool} (he : PE X o ta) (c : Cls X.K C) (hm : Meth X.K C m f) (F : FnOk X.prog X.w X.K X.mg X.base CX k f fd ps sp) (hr : Room k X.A) (hb : Binds X.K fd ps ds) (hd : Vals dvs ds) (hx : Passes CX X E)
  (ht : eval (.Call (.Attribute o m apos) [] [] pos) X.env = (do
   let ov ← eval o X.env
   standAt apos.atName
   let (f, first) ← holding [ov] (getMethod ov m pl)
   callWith pos f first (backTo pos (starEach [] X.env)) (backToKw pos (keywordEach [] X.env))) := by rfl) :
  PE X (.Call (.Attribute o m apos) [] [] pos) (tMeth C m sp dvs E ta tNil) := by
 intro pins s σ H Q I h
 refine PySem.W.methodCall_KW (pl := pl) (thn (he pins s σ H _ I h) fun u s1 ⟨x, H1, I1, rx, a, dx, fs, ex, ea, l, q⟩ => ?_) ht
 subst ex
 obtain rfl : u = Value.ref a := rx
 refine getmeth_ok I1 ea c hm l ?_
 exact PySem.W.callWith_K0 (first := [.ref a]) I1.kIn hm.kp (run_fn (us := [.ref a]) (vs := [.ref a]) F hr hb hd hx I1 (.cons rfl .nil) q)
structure Mk (K : PySem.W.Frag) (C f : Addr) : Prop where
 makes : PySem.W.makesIn K C = true
 init : PySem.W.findIn K (.ref C) "__init__" = some (some (.ref f))
 fn : PySem.W.isFn K (.ref f) = true
 kp : PySem.W.keepIn K (.ref C) = true
theorem run_make {pins : List (Addr × Obj)} {σ : St} {H : Hp} {s : Shared} {Q : VK} {us : List Value} {vs : List V} (M : Mk X.K C f) (F : FnOk X.prog X.w X.K X.mg X.base CX k f fd ps sp) (hr : Room (k + 1) X.A) (hb : Binds X.K fd ps ds) (hd : Vals dvs ds)
  (hx : Passes CX X E) (I : Inv X pins σ H s) (r : Vals vs us)
  (h : ∀ x dx, H x = none → H dx = none → dx ≠ x → sp (.ref x :: (vs ++ dvs)) (upd (upd H dx (.own x)) x (.ins C dx [])) (fun v H2 => v = .non ∧ Q (.ref x) H2) E) :
  wpAny (model X.prog X.w) X.A (call (.ref C) us) (EP X pins σ Q) X.xe s := by
 have hq := h (s.heap.objs.size + 1) s.heap.objs.size (I.hok.fresh (Nat.le_succ _)) (I.hok.fresh (Nat.le_refl _)) (Nat.ne_of_lt (Nat.lt_succ_self _))
 have I2 := Inv.made (C := C) I
 have r2 : Vals (V.ref (s.heap.objs.size + 1) :: (vs ++ dvs)) (Value.ref (s.heap.objs.size + 1) :: (us ++ ds)) := .cons rfl (r.append hd)
 have hl : (Value.ref (s.heap.objs.size + 1) :: us ++ ds).length = ps.length := by
  have e := r2.length
  rw [F.len _ _ _ _ hq] at e
  exact e.symm
 refine wpAny_call (make_map (f := f) I.kIn M.makes M.init (beq_iff_eq.mp M.fn) (codeAny_mono (F.run _ X.stack _ _ ⟨Value.ref (s.heap.objs.size + 1) :: us, []⟩ (Value.ref (s.heap.objs.size + 1) :: (us ++ ds)) _ _ E (hr.make C us [])
  (I2.env0.make C us []) (hb _ (Value.ref (s.heap.objs.size + 1) :: us) I2.kIn hl) r2 hq) fun r s' hq' => ?_))
 cases r with
 | error e => exact hx pins σ _ _ e s' I2 hq'
 | ok fl =>
  cases fl with
  | ret u =>
   obtain ⟨v, H', I3, rv, ev, q3⟩ := I2.after hq'
   subst ev
   exact ⟨rv, ⟨V.ref (s.heap.objs.size + 1), H', I3, rfl, q3⟩⟩
  | next => exact False.elim hq'
  | brk => exact False.elim hq'
  | cont => exact False.elim hq'
theorem pe_make (M : Mk X.K C f) (F : FnOk X.prog X.w X.K X.mg X.base CX k f fd ps sp) (hr : Room (k + 1) X.A) (hg : Gl X x) (hm : X.mg x = some (.ref C)) (hb : Binds X.K fd ps ds) (hd : Vals dvs ds) (hx : Passes CX X E)
  (ha : PA X (e :: es) t) (hdb : (x == ("__debug__" : Str)) = false := by decide) (he : starEach (e :: es) X.env = (false, eval e X.env) :: starEach es X.env := by rfl) (hpl : (backTo pos (starEach es X.env)).any (·.1) = false := by rfl) :
  PE X (.Call (.Name x p) (e :: es) [] pos) (tMake C sp dvs E t) := by
 intro pins s σ H Q I h
 refine wpAny_Call_Name_kw (ld_glob I hg hm ?_ hdb)
 refine PySem.W.callWith_K (h₀ := X.base) I.ok.mod.kin M.kp (thn (ha pos pins s σ H _ I h) fun us s1 ⟨vs, H1, I1, r, q⟩ => ⟨I1.kIn, ?_⟩) he hpl
 exact run_make M F hr hb hd hx I1 r q
theorem pe_make0 (M : Mk X.K C f) (F : FnOk X.prog X.w X.K X.mg X.base CX k f fd ps sp) (hr : Room (k + 1) X.A) (hg : Gl X x) (hm : X.mg x = some (.ref C)) (hb : Binds X.K fd ps ds) (hd : Vals dvs ds) (hx : Passes CX X E)
  (hdb : (x == ("__debug__" : Str)) = false := by decide) : PE X (.Call (.Name x p) [] [] pos) (tMake C sp dvs E tNil) := by
 intro pins s σ H Q I h
 refine wpAny_Call_Name_kw (ld_glob I hg hm ?_ hdb)
 exact PySem.W.callWith_K0 I.kIn M.kp (run_make (us := []) M F hr hb hd hx I .nil h)
end
structure FnScope (N P : List Str) (sc : Scope) : Prop where
 kind : sc.kind = .function
 co : sc.isCoroutine = false
 gen : sc.isGenerator = false
 nd : N.Nodup
 pre : N.take P.length = P
 par : ∀ x ∈ P, sc.names.lookup x = some .local ∨ sc.names.lookup x = some .cell
 nofree : ∀ y ∈ sc.names, y.2 ≠ .free
theorem bindL_out {kindOf : Str → Option NameKind} {x : Str} : ∀ {binds : List (Str × Value)} {m : Str → Option Value}, (∀ v, (x, v) ∉ binds) → bindL kindOf binds m x = m x
 | [], _, _ => rfl
 | (n, v) :: r, m, h => by
  unfold bindL
  rw [bindL_out fun w hw => h w (List.mem_cons_of_mem _ hw)]
  split
  ·have : x ≠ n := by rintro rfl; exact h v List.mem_cons_self
   simp [this]
  ·rfl
theorem bindC_out {kindOf : Str → Option NameKind} {x : Str} : ∀ {binds : List (Str × Value)} {m : Str → Option Value}, (∀ v, (x, v) ∉ binds) → bindC kindOf binds m x = m x
 | [], _, _ => rfl
 | (n, v) :: r, m, h => by
  unfold bindC
  rw [bindC_out fun w hw => h w (List.mem_cons_of_mem _ hw)]
  split
  ·rfl
  ·have : x ≠ n := by rintro rfl; exact h v List.mem_cons_self
   simp [this]
theorem bindL_get {kindOf : Str → Option NameKind} {x : Str} {v : Value} : ∀ {P : List Str} {vs : List Value} {i : Nat} {m : Str → Option Value}, P.Nodup → P[i]? = some x → vs[i]? = some v → kindOf x = some .local →
  bindL kindOf (P.zip vs) m x = some v
 | [], _, _, _, _, h, _, _ => by simp at h
 | _ :: _, [], _, _, _, _, h, _ => by simp at h
 | p :: P, w :: vs, 0, m, nd, h1, h2, hk => by
  simp at h1 h2; subst h1; subst h2
  show bindL kindOf ((p, w) :: P.zip vs) m p = _
  unfold bindL
  rw [bindL_out fun v hv => (List.nodup_cons.mp nd).1 (List.of_mem_zip hv).1, if_pos hk]
  simp
 | p :: P, w :: vs, i + 1, m, nd, h1, h2, hk => by
  show bindL kindOf ((p, w) :: P.zip vs) m x = _
  unfold bindL
  exact bindL_get (i := i) (List.nodup_cons.mp nd).2 (by simpa using h1) (by simpa using h2) hk
theorem bindC_get {kindOf : Str → Option NameKind} {x : Str} {v : Value} : ∀ {P : List Str} {vs : List Value} {i : Nat} {m : Str → Option Value}, P.Nodup → P[i]? = some x → vs[i]? = some v → kindOf x ≠ some .local →
  bindC kindOf (P.zip vs) m x = some v
 | [], _, _, _, _, h, _, _ => by simp at h
 | _ :: _, [], _, _, _, _, h, _ => by simp at h
 | p :: P, w :: vs, 0, m, nd, h1, h2, hk => by
  simp at h1 h2; subst h1; subst h2
  show bindC kindOf ((p, w) :: P.zip vs) m p = _
  unfold bindC
  rw [bindC_out fun v hv => (List.nodup_cons.mp nd).1 (List.of_mem_zip hv).1, if_neg hk]
  simp
 | p :: P, w :: vs, i + 1, m, nd, h1, h2, hk => by
  show bindC kindOf ((p, w) :: P.zip vs) m x = _
  unfold bindC
  exact bindC_get (i := i) (List.nodup_cons.mp nd).2 (by simpa using h1) (by simpa using h2) hk
def start (N : List Str) (vs : List V) : St := vs.map some ++ List.replicate (N.length - vs.length) none
def cxOf (CX : CXT) (P : Program) (w : World) (K : PySem.W.Frag) (mg : Str → Option Value) (base : Heap) (N : List Str) (qual : Str) (scope : Scope) (f : Addr) (cd : Value) (A : Around) (outer : List Env) (s : Shared) (H : Hp) (E : XK) : Cx where
 prog := P
 w := w
 K := K
 mg := mg
 base := base
 A := A.deeper (envOfC qual scope s.heap.objs.size f cd)
 N := N
 s_0 := s
 H_0 := H
 env := envOfC qual scope s.heap.objs.size f cd
 outer := outer
 stack := envOfC qual scope s.heap.objs.size f cd :: outer
 ex := []
 calm := true
 fn := fun _ => true
 pn := []
 xe := fun e s' => wpAny (model P w) (A.deeper (envOfC qual scope s.heap.objs.size f cd)) (leaving (envOfC qual scope s.heap.objs.size f cd) e) (fun _ s'' => CX outer H s E e s'') (fun e' s'' => CX outer H s E e' s'') s'
theorem cell_has {sc : Scope} {n : Nat} {x : Str} (h : sc.names.lookup x = some .cell) : ∃ c, (cellsFrom n sc.names []).lookup x = some c := by
 have q := PySem.W.cellsFrom_some sc.names n [] (.inl h)
 exact Option.isSome_iff_exists.mp q
theorem inv_start {CX : CXT} {P : Program} {w : World} {K : PySem.W.Frag} {mg : Str → Option Value} {base : Heap} {N ps : List Str} {qual : Str} {scope : Scope} {f : Addr} {cd : Value} {A : Around} {outer : List Env} {s s1 : Shared} {H : Hp} {E : XK} {us : List Value} {vs : List V}
  (S : FnScope N ps scope) (hd : A.handled = none) (e0 : Env0 P w K mg base A outer s H) (hl : vs.length = ps.length) (r : Vals vs us)
  (x : InCallC s s.heap.objs.size (bindL (envOfC qual scope s.heap.objs.size f cd).kindOf (ps.zip us) fun _ => none) (cellsFrom (s.heap.objs.size + 1) scope.names []) (bindC (envOfC qual scope s.heap.objs.size f cd).kindOf (ps.zip us) fun _ => none) s1) :
  Inv (cxOf CX P w K mg base N qual scope f cd A outer s H E) [] (start N vs) H s1 := by
 have hpl : ps.length ≤ N.length := by have := congrArg List.length S.pre; rw [List.length_take] at this; omega
 obtain ⟨h1, tk, rfl, hk⟩ := x.done
 have noA : ∀ b : Addr, b ∉ (cxOf CX P w K mg base N qual scope f cd A outer s H E).ex := fun b z => absurd (show b ∈ ([] : List Addr) from z) (by simp)
 refine ⟨⟨e0.mod, S.kind, rfl, rfl, Nat.le_refl _, fun y z c h1 h2 => ?_, fun y hy => ?_, fun y c _ h => ?_, fun _ => hd, Around.frames_deeper e0.frames, .inr ⟨rfl, rfl⟩, fun b z => absurd z (noA b), e0.bs, e0.bsz, fun b _ _ => noA b, fun b z => absurd z (noA b), e0.funs, e0.frf⟩,
  rfl, e0.bare, Un.kept hk, ⟨_, x.toInCall.ns, fun i y v h1 h2 h3 => ?_⟩, fun y c h => ⟨_, x.cell y c h⟩, e0.hok.fresh (Nat.le_refl _), fun y c h => ?_, fun p hp => absurd (show p ∈ ([] : List (Addr × Obj)) from hp) (by simp), e0.hok.kept hk, ?_⟩
 ·exact name_of_addr x.apart (PySem.mem_of_lookup h1) (PySem.mem_of_lookup h2)
 ·have hy : scope.names.lookup y = some .cell ∨ scope.names.lookup y = some .free := hy
  rcases hy with hy | hy
  ·exact cell_has hy
  ·exact absurd rfl (S.nofree _ (PySem.mem_of_lookup hy))
 ·exact Nat.le_of_lt (x.above y c (PySem.mem_of_lookup h))
 ·have hi : i < vs.length := by
   unfold start at h2
   by_cases hi : i < vs.length
   ·exact hi
   ·rw [List.getElem?_append_right (by simpa using hi)] at h2
    rw [List.getElem?_replicate] at h2
    split at h2 <;> cases h2
  have ha : vs[i]? = some v := by
   unfold start at h2
   rw [List.getElem?_append_left (by simpa using hi), List.getElem?_map] at h2
   cases e : vs[i]? with
   | none => rw [e] at h2; cases h2
   | some a => rw [e] at h2; cases h2; rfl
  obtain ⟨u, hu, rv⟩ := r.get ha
  have hp : ps[i]? = some y := by
   rw [← S.pre, List.getElem?_take_of_lt (by omega)]; exact h1
  have ndP : ps.Nodup := by rw [← S.pre]; exact S.nd.sublist (List.take_sublist _ _)
  refine ⟨u, rv, ?_⟩
  rcases S.par y (List.mem_of_getElem? hp) with k | k
  ·exact .inl ⟨k, bindL_get ndP hp hu k⟩
  ·obtain ⟨c, e⟩ := cell_has (n := s.heap.objs.size + 1) k
   refine .inr ⟨.inl k, c, e, ?_⟩
   have q := x.cell y c e
   rw [bindC_get ndP hp hu (by show scope.names.lookup y ≠ _; rw [k]; decide)] at q
   exact q
 ·exact e0.hok.fresh (Nat.le_of_lt (x.above y c (PySem.mem_of_lookup h)))
 ·unfold start
  show _ = N.length
  rw [List.length_append, List.length_map, List.length_replicate]
  omega
theorem fn_of {CX : CXT} {P : Program} {w : World} {K : PySem.W.Frag} {mg : Str → Option Value} {base : Heap} {k : Nat} {f : Addr} {name qual : Str} {params : Arguments} {body : List Stmt} {scope : Scope} {dV kV doc pm cdv ct oc : Value} {an od : Option Addr}
  {osl : Array (Option Value)} {N ps : List Str} {sp : Sp} (lk : K.lookup f = some ⟨oc, od, .func (PySem.W.fnOf name qual params body scope dV kV doc pm an cdv ct), osl⟩) (hcd : PySem.W.codeIn K cdv qual = true) (S : FnScope N ps scope)
  (len : ∀ vs H Q E, sp vs H Q E → vs.length = ps.length)
  (hbody : ∀ (A : Around) (outer : List Env) (s : Shared) (H : Hp) (vs : List V) (Q : VK) (E : XK), Room k (A.deeper (envOfC qual scope s.heap.objs.size f cdv)) → sp vs H Q E →
   ∃ t, PSs (cxOf CX P w K mg base N qual scope f cdv A outer s H E) body t ∧ t { nx := fun _ H' => Q .non H', rt := Q } (start N vs) H) :
  FnOk P w K mg base CX (k + 1) f (PySem.W.fnOf name qual params body scope dV kV doc pm an cdv ct) ps sp := by
 refine ⟨len, fun A outer s H args us vs Q E hr e0 hb r hsp => ?_⟩
 have hl := len _ _ _ _ hsp
 have KX : K.In s.heap := e0.mod.kin.keeps fun b o e => (e0.bs b o e).1
 have lim : s.heap.NoLimit := e0.mod.nolimit.keeps fun b o e => (e0.bs b o e).1
 have hkind : ∀ y ∈ ps.zip us, scope.names.lookup y.1 = some .local ∨ (scope.names.lookup y.1 = some .cell ∧ ((cellsFrom (s.heap.objs.size + 1) scope.names []).lookup y.1).isSome = true) := fun ⟨n, v⟩ hy => by
  rcases S.par n (List.of_mem_zip hy).1 with q | q
  ·exact .inl q
  ·exact .inr ⟨q, PySem.W.cellsFrom_some _ _ _ (.inl q)⟩
 refine codeAny_call_function hr.depth (KX _ _ lk) rfl S.co S.gen rfl (PySem.W.codeRec_of KX hcd) (hb _ _ _ _ ?_)
 refine wpAny_newFunctionEnv_cells S.kind hkind fun env he s1 x => ?_
 subst he
 refine ⟨lim.keeps x.toInCall.keep, codeAny_func ?_⟩
 obtain ⟨t, ht, hq⟩ := hbody A outer s H vs Q E (hr.deeper _) hsp
 have I : Inv (cxOf CX P w K mg base N qual scope f cdv A outer s H E) [] (start N vs) H s1 := inv_start S hr.hd e0 hl r x
 refine wpAny_mono (ht [] s1 (start N vs) H _ I hq) (fun fl s' hs => ?_) fun e s' hs => hs
 have fin : ∀ {σ' : St} {H' : Hp} {v : V} {u : Value}, Inv (cxOf CX P w K mg base N qual scope f cdv A outer s H E) [] σ' H' s' → RelV v u → Q v H' → CE outer P w H s Q u s' :=
  fun {σ' H' v u} J rv q => ⟨v, H', J.os, J.bare, J.base, J.hok, rv, q⟩
 cases fl with
 | ret u =>
  obtain ⟨v, σ', H', J, rv, q⟩ := hs
  exact fin J rv q
 | next =>
  obtain ⟨σ', H', J, q⟩ := hs
  exact fin (v := V.non) (u := Value.none) J rfl q
 | brk =>
  obtain ⟨_, _, _, q⟩ := hs
  exact False.elim q
 | cont =>
  obtain ⟨_, _, _, q⟩ := hs
  exact False.elim q
end L2
namespace L2
open PySem PySem.Spec PyProof.Rows
section
variable {X : Cx} {x : Str} {p pos : Pos} {e : Expr} {es : List Expr} {t : TA} {id T : String} {r : List V → Hp → VK → Prop}
def tCB (r : List V → Hp → VK → Prop) (t : TA) : TE := fun σ H Q => t σ H fun vs H1 => r vs H1 Q
theorem pe_callB (hc : CallR X (.builtin id) r) (hg : Gl X x) (hm : X.mg x = none) (hv : bootBuiltins x = some (.builtin id)) (ha : PA X (e :: es) t) (hn : x ≠ "__name__" := by decide) (hdb : (x == ("__debug__" : Str)) = false := by decide)
  (he : starEach (e :: es) X.env = (false, eval e X.env) :: starEach es X.env := by rfl) (hpl : (backTo pos (starEach es X.env)).any (·.1) = false := by rfl) : PE X (.Call (.Name x p) (e :: es) [] pos) (tCB r t) := by
 intro pins s σ H Q I h
 refine wpAny_Call_Name_kw (ld_blt I hg hm hv ?_ hn hdb)
 exact PyProof.Rows.callWith_builtin1 (thn (ha pos pins s σ H _ I h) fun us s1 ⟨vs, H1, I1, r1, q1⟩ => hc pins s1 σ H1 vs us Q I1 r1 q1) he hpl
theorem pe_callTy (hc : CallR X (.type T) r) (hg : Gl X x) (hm : X.mg x = none) (hv : bootBuiltins x = some (.type T)) (ha : PA X (e :: es) t) (hn : x ≠ "__name__" := by decide) (hdb : (x == ("__debug__" : Str)) = false := by decide)
  (he : starEach (e :: es) X.env = (false, eval e X.env) :: starEach es X.env := by rfl) (hpl : (backTo pos (starEach es X.env)).any (·.1) = false := by rfl) : PE X (.Call (.Name x p) (e :: es) [] pos) (tCB r t) := by
 intro pins s σ H Q I h
 refine wpAny_Call_Name_kw (ld_blt I hg hm hv ?_ hn hdb)
 exact PyProof.Rows.callWith_type1 (thn (ha pos pins s σ H _ I h) fun us s1 ⟨vs, H1, I1, r1, q1⟩ => hc pins s1 σ H1 vs us Q I1 r1 q1) he hpl
end
end L2
namespace HT
open PySem PyProof.Rows
def lexLt : List Int → List Int → Bool
 | [], [] => false
 | [], _ :: _ => true
 | _ :: _, [] => false
 | x :: xs, y :: ys => if x = y then lexLt xs ys else decide (x < y)
theorem lexLt_cons (x y : Int) (xs ys : List Int) : lexLt (x :: xs) (y :: ys) = if x = y then lexLt xs ys else decide (x < y) := rfl
theorem lexLt_nil_nil : lexLt [] [] = false := rfl
theorem lexLt_nil_cons (y : Int) (ys : List Int) : lexLt [] (y :: ys) = true := rfl
theorem lexLt_cons_nil (x : Int) (xs : List Int) : lexLt (x :: xs) [] = false := rfl
theorem eqAt_int (A : Around) (s : Shared) (a : Int) (t : Tok) (c : Int) (u : Tok) : ∃ e, SeqAt.EqAt A s (.int a t) (.int c u) e ∧ (e = true ↔ a = c) :=
 ⟨(a == c), SeqAt.EqAt.int_int a t c u, by simp⟩
theorem rcLt_int (A : Around) (s : Shared) (a : Int) (t : Tok) (c : Int) (u : Tok) (prog : Program) (w : World) (E : Value → Shared → Prop) (Q : Value → Shared → Prop) (h : Q (.bool (decide (a < c))) s) :
  wpAny (model prog w) A (richCompare .Lt (.int a t) (.int c u)) Q E s :=
 (PyProof.Rows.lt_int h : wpAny (model prog w) A (compareOp .Lt (.int a t) (.int c u)) Q E s)
section
open PySem.SeqAt
open PySem.AutoSeq1 (wpAny_loadPart')
open PySem.MeetsSeq PySem.MeetsSeq2 PySem.MeetsSeq3
theorem tuple_lt_ints (l b : Addr) (items items2 : Array Value) (n n2 : Nat) (dd dd2 : Option Addr) (sl sl2 : Array (Option Value)) (ns ms : List Int) (hi : IntsAre items.toList ns) (hj : IntsAre items2.toList ms) :
  Meets (Builtin.«tuple.__lt__» ⟨[.ref l, .ref b], []⟩)
   (fun _ R s => s.heap.get? l = some { cls := .type "tuple", dict := dd, data := .seq items n, slots := sl } ∧ s.heap.get? b = some { cls := .type "tuple", dict := dd2, data := .seq items2 n2, slots := sl2 } ∧
    R (.ok (.ret (.bool (lexLt ns ms)))) s) :=
 .of_wp fun prog w A R s h => by
  obtain ⟨hp, g, d, tk, os⟩ := s; obtain ⟨hl, hb, h⟩ := h
  have f2 := AutoSeq1.sub_tuple_tuple
  have z1 : items.size = ns.length := by rw [← hi.length]; simp
  have z2 : items2.size = ms.length := by rw [← hj.length]; simp
  wp_walk using wpAny_loadPart' hl, wpAny_loadPart' hb, wpAny_forIn_list _ (fun rest b s' => b.1 = none ∧ s' = ⟨hp, g, d, tk, os⟩ ∧ ∃ (vs ws : List Value) (ns' ms' : List Int), rest = vs.zip ws ∧
   IntsAre vs ns' ∧ IntsAre ws ms' ∧ ns'.length + items2.size = ms'.length + items.size ∧ R (.ok (.ret (.bool (lexLt ns' ms')))) ⟨hp, g, d, tk, os⟩) _
  case turn =>
   rintro ⟨y, x⟩ rest b s' ⟨hb', rfl, vs, ws, ns', ms', hz, hvi, hwi, hlen, hR⟩
   cases hvi with
   | nil => rw [List.zip_nil_left] at hz; cases hz
   | cons a t hvi' =>
    cases hwi with
    | nil => rw [List.zip_nil_right] at hz; cases hz
    | cons c u hwi' =>
     rw [List.zip_cons_cons] at hz
     injection hz with hyx hrest
     injection hyx with hy hx
     subst hy hx
     rw [lexLt_cons] at hR
     simp only [List.length_cons] at hlen
     obtain ⟨e, he, hiff⟩ := eqAt_int A.in1 ⟨hp, g, d, tk, os⟩ a t c u
     refine wpAny_bind (he prog w _ _ ?_)
     cases e with
     | true =>
      rw [if_pos (hiff.mp rfl)] at hR
      wp_walk
      exact ⟨rfl, rfl, _, _, _, _, hrest, hvi', hwi', by omega, hR⟩
     | false =>
      rw [if_neg (fun q => absurd (hiff.mpr q) Bool.false_ne_true)] at hR
      have hri := rcLt_int A.in1 ⟨hp, g, d, tk, os⟩ a t c u prog w
      wp_walk using hri
      exact ⟨_, rfl, by simpa using hR⟩
  case fin =>
   rintro ⟨b1, b2⟩ s' ⟨hb', rfl, vs, ws, ns', ms', hz, hvi, hwi, hlen, hR⟩
   simp only at hb'
   subst hb'
   have hv : lexLt ns' ms' = decide (items.size < items2.size) := by
    cases hvi with
    | nil =>
     cases hwi with
     | nil =>
      simp only [List.length_nil] at hlen
      rw [lexLt_nil_nil]
      exact (decide_eq_false (by omega)).symm
     | cons c u hw =>
      simp only [List.length_nil, List.length_cons] at hlen
      rw [lexLt_nil_cons]
      exact (decide_eq_true (by omega)).symm
    | cons a t hv =>
     cases hwi with
     | nil =>
      simp only [List.length_nil, List.length_cons] at hlen
      rw [lexLt_cons_nil]
      exact (decide_eq_false (by omega)).symm
     | cons c u hw =>
      rw [List.zip_cons_cons] at hz
      cases hz
   rw [hv] at hR
   wp_walk
   exact ⟨_, rfl, by simpa [Builtin.Tuple.tupleCompareSizes] using hR⟩
  case h =>
   exact ⟨rfl, rfl, items.toList, items2.toList, ns, ms, rfl, hi, hj, by omega, h⟩
end
section
variable {prog : Program} {w : World} {A : Around} {E : Value → Shared → Prop} {s : Shared}
theorem lt_tupInts {l b : Addr} {items items2 : Array Value} {ns ms : List Int} {Q : Value → Shared → Prop} (hl : IsTup s.heap l items) (hb : IsTup s.heap b items2) (hi : IntsAre items.toList ns) (hj : IntsAre items2.toList ms)
  (hu : A.units < cLine) (h : Q (.bool (lexLt ns ms)) s) : wpAny (model prog w) A (compareOp .Lt (.ref l) (.ref b)) Q E s := by
 obtain ⟨⟨cls, dd, data, sl⟩, ho, hc, n, hd⟩ := id hl
 obtain ⟨⟨cls2, dd2, data2, sl2⟩, ho2, hc2, n2, hd2⟩ := id hb
 simp only at hc hd hc2 hd2
 subst hc hd hc2 hd2
 exact richCompare_meets_room (op := .Lt) ⟨_, ho, rfl⟩ ⟨_, ho2, rfl⟩ PySem.F.slot_tuple_lt PySem.F.entry_tuple_lt (PySem.F.args_tuple_lt_2 _ _) (tuple_lt_ints l b items items2 n n2 dd dd2 sl sl2 ns ms hi hj)
  ⟨ho, ho2, show Value.bool (lexLt ns ms) ≠ Value.notImplemented ∧ Q (.bool (lexLt ns ms)) s from ⟨(fun x => nomatch x), h⟩⟩ hu
def sIx (n d : Nat) : Option Int → Nat
 | none => d
 | some v => if v < 0 then (v + (n : Int)).toNat else min v.toNat n
theorem sIx_nat (n d k : Nat) : sIx n d (some (k : Int)) = min k n := by
 show (if (k : Int) < 0 then ((k : Int) + (n : Int)).toNat else min (k : Int).toNat n) = min k n
 rw [if_neg (by omega), Int.toNat_natCast]
end
end HT
namespace L2
open PySem PySem.Spec PyProof.Rows
abbrev TO := St → Hp → (Option Int → Hp → Prop) → Prop
def PO (X : Cx) (e : Option Expr) (t : TO) : Prop :=
 ∀ (pins : List (Addr × Obj)) (s : Shared) (σ : St) (H : Hp) (Q : Option Int → Hp → Prop), Inv X pins σ H s → t σ H Q →
  wpAny (model X.prog X.w) X.A (evalPart e X.env) (fun u s' => ∃ o H', Inv X pins σ H' s' ∧ IsPart u o ∧ Q o H') X.xe s
def tPart (t : TE) : TO := fun σ H Q => t σ H fun x H1 => ∃ i, x = .int i ∧ Q (some i) H1
theorem intsAre_of {ns : List Int} : ∀ {us : List Value}, Vals (ns.map V.int) us → IntsAre us ns := by
 induction ns with
 | nil => intro us r; rw [List.map_nil] at r; cases r; exact .nil
 | cons n ns ih =>
  intro us r
  rw [List.map_cons] at r
  cases r with
  | cons r1 r2 =>
   obtain ⟨t, e⟩ := r1
   subst e
   exact .cons n t (ih r2)
section
variable {X : Cx} {e : Expr} {te : TE} {lo hi : Option Expr} {tl th : TO} {pos p2 : Pos}
theorem po_some (h : PE X e te) : PO X (some e) (tPart te) := by
 intro pins s σ H Q I hw
 rw [evalPart_some]
 refine thn (h pins s σ H _ I hw) fun u s1 ⟨x, H1, I1, r1, q1⟩ => ?_
 obtain ⟨i, rfl, q⟩ := q1
 obtain ⟨t, rfl⟩ := r1
 exact ⟨some i, H1, I1, .int i t, q⟩
def SlR (X : Cx) (r : V → Option Int → Option Int → Hp → VK → Prop) : Prop :=
 ∀ (pins : List (Addr × Obj)) (s : Shared) (σ : St) (H : Hp) (x : V) (v vl vu : Value) (lo hi : Option Int) (sl : Addr) (Q : VK), Inv X pins σ H s → RelV x v → s.heap.IsSliceOf sl vl vu .none → IsPart vl lo → IsPart vu hi → r x lo hi H Q →
  ∃ T id, typeLookup (.type T) "__getitem__" = pure (some (.builtin id)) ∧ s.TypeIs v T ∧ wpAny (model X.prog X.w) X.A (getItem v (.ref sl)) (EP X pins σ Q) X.xe s
def tSl (r : V → Option Int → Option Int → Hp → VK → Prop) (te : TE) (tl th : TO) : TE := fun σ H Q => te σ H fun x H1 => tl σ H1 fun l H2 => th σ H2 fun u H3 => r x l u H3 Q
theorem pe_slice {r : V → Option Int → Option Int → Hp → VK → Prop} (hr : SlR X r) (he : PE X e te) (hl : PO X lo tl) (hu : PO X hi th) : PE X (.Subscript e (.Slice lo hi none p2) pos) (tSl r te tl th) := by
 intro pins s σ H Q I h
 refine Subscript_ (thn (he pins s σ H _ I h) fun v s1 ⟨x, H1, I1, r1, q1⟩ => ?_)
 refine wpAny_Slice (thn (hl pins s1 σ H1 _ I1 q1) fun vl s2 ⟨l, H2, I2, pl, q2⟩ => thn (hu pins s2 σ H2 _ I2 q2) fun vu s3 ⟨u, H3, I3, pu, q3⟩ => ?_)
 rw [evalPart_none]
 refine wpAny_pure ?_
 have I4 : Inv X pins σ H3 { s3 with heap := s3.heap.push { cls := .type "slice", data := .fields #[vl, vu, .none] } } := I3.kept (t' := s3.toks) fun b ob q => Heap.get?_push_of_some _ q
 obtain ⟨T, id, hT, ht, hg⟩ := hr pins { s3 with heap := s3.heap.push { cls := .type "slice", data := .fields #[vl, vu, .none] } } σ H3 x v vl vu l u s3.heap.objs.size Q I4 r1 (Heap.IsSliceOf.new ..) pl pu q3
 show wpAny (model X.prog X.w) X.A (subscriptTail e (.Slice lo hi none p2) v (.ref s3.heap.objs.size)) (EP X pins σ Q) X.xe { s3 with heap := s3.heap.push { cls := .type "slice", data := .fields #[vl, vu, .none] } }
 exact tail_any (ops := [.ref s3.heap.objs.size, v]) ht hT hg (by with_unfolding_all rfl)
def cutV (xs : List V) (lo hi : Option Int) : List V := (xs.drop (HT.sIx xs.length 0 lo)).take (HT.sIx xs.length xs.length hi - HT.sIx xs.length 0 lo)
theorem cutV_length (xs : List V) (lo hi : Option Int) : (cutV xs lo hi).length ≤ xs.length := by
 unfold cutV
 rw [List.length_take, List.length_drop]
 omega
end
end L2
namespace L2
open PySem PySem.Spec PyProof.Rows
def ixN (n : Nat) (i : Int) : Option Nat := if 0 ≤ i then (if i < n then some i.toNat else none) else if -(n : Int) ≤ i then some (i + n).toNat else none
def atI {α : Type} (xs : List α) (i : Int) : Option α := (ixN xs.length i).bind fun j => xs[j]?
theorem ixN_seq {n : Nat} {i : Int} {j : Nat} (h : ixN n i = some j) : seqIndex? i n = some j ∧ j < n ∧ -(n : Int) ≤ i ∧ i < n := by
 unfold ixN at h
 by_cases h0 : 0 ≤ i
 ·rw [if_pos h0] at h
  by_cases h1 : i < n
  ·rw [if_pos h1] at h
   have e : i.toNat = j := Option.some.inj h
   exact ⟨by rw [seqIndex_of h0 h1, e], by omega, by omega, h1⟩
  ·rw [if_neg h1] at h; cases h
 ·rw [if_neg h0] at h
  by_cases h1 : -(n : Int) ≤ i
  ·rw [if_pos h1] at h
   have e : (i + n).toNat = j := Option.some.inj h
   exact ⟨by rw [seqIndex_neg (by omega) h1, e], by omega, h1, by omega⟩
  ·rw [if_neg h1] at h; cases h
theorem atI_get {α : Type} {xs : List α} {i : Int} {v : α} (h : atI xs i = some v) : ∃ j, seqIndex? i xs.length = some j ∧ xs[j]? = some v ∧ j < xs.length ∧ -(xs.length : Int) ≤ i ∧ i < xs.length := by
 unfold atI at h
 cases e : ixN xs.length i with
 | none => rw [e] at h; cases h
 | some j =>
  rw [e] at h
  obtain ⟨h1, h2, h3, h4⟩ := ixN_seq e
  exact ⟨j, h1, h, h2, h3, h4⟩
theorem atI_nat {α : Type} {xs : List α} {j : Nat} {v : α} (h : xs[j]? = some v) : atI xs (j : Int) = some v := by
 have hj : j < xs.length := (List.getElem?_eq_some_iff.mp h).1
 have e : ixN xs.length (j : Int) = some j := by
  unfold ixN
  rw [if_pos (by omega), if_pos (by omega)]; simp
 unfold atI; rw [e]; exact h
def PlainIx (b : Expr) : Prop := ∀ o i, subscripted b false o i = operate [o, i] (getItem o i)
def IxR (X : Cx) (r : R2) : Prop :=
 ∀ (value slice : Expr) (pins : List (Addr × Obj)) (s : Shared) (σ : St) (H : Hp) (x y : V) (v u : Value) (Q : VK), Inv X pins σ H s → RelV x v → RelV y u → r x y H Q →
  subscripted slice false v u = operate [v, u] (getItem v u) → wpAny (model X.prog X.w) X.A (subscriptTail value slice v u) (EP X pins σ Q) X.xe s
def MtR (X : Cx) (id : String) (r : V → List V → Hp → VK → Prop) : Prop :=
 ∀ (pins : List (Addr × Obj)) (s : Shared) (σ : St) (H : Hp) (x : V) (xs : List V) (v : Value) (us : List Value) (Q : VK), Inv X pins σ H s → RelV x v → Vals xs us → r x xs H Q →
  wpAny (model X.prog X.w) X.A (call (.builtin id) (v :: us)) (EP X pins σ Q) X.xe s
section
variable {X : Cx} {a b : Expr} {ta tb : TE} {pos : Pos}
theorem pe_ix {r : R2} (hr : IxR X r) (ha : PE X a ta) (hb : PE X b tb) (hs : PlainIx b) : PE X (.Subscript a b pos) (tOp r ta tb) := by
 intro pins s σ H Q I h
 exact Subscript_ (binT ha hb I h fun v u s2 x y H2 I2 rx ry q => hr a b pins s2 σ H2 x y v u Q I2 rx ry q (hs _ _))
def rIxL (K : PySem.W.Frag) : R2 := fun x y H Q => ∃ p xs i v, x = .ref p ∧ y = .int i ∧ SqL K H p xs ∧ atI xs i = some v ∧ Q v H
def rIxT (K : PySem.W.Frag) : R2 := fun x y H Q => ∃ p xs i v, x = .ref p ∧ y = .int i ∧ SqT K H p xs ∧ atI xs i = some v ∧ Q v H
theorem ix_list : IxR X (rIxL X.K) := by
 intro value slice pins s σ H x y v u Q I rx ry h hs
 obtain ⟨p, xs, i, z, rfl, rfl, hq, he, q⟩ := h
 cases rx
 obtain ⟨t, rfl⟩ := ry
 obtain ⟨its, r, pl, hz⟩ := I.list hq
 obtain ⟨j, h1, h2, h3, h4, h5⟩ := atI_get he
 obtain ⟨w, ew, rw'⟩ := r.get h2
 have hl := r.length
 have hn := line63
 have fin : EP X pins σ Q w s := ⟨z, H, I, rw', q⟩
 by_cases h0 : 0 ≤ i
 ·have hj : i.toNat = j := by
   rw [seqIndex_of h0 h5] at h1
   exact Option.some.inj h1
  exact item_listR pl.isList h0 (by omega) (by rw [hj]; simpa using ew) fin hs
 ·have hj : (i + (its.toArray.size : Int)).toNat = j := by
   rw [seqIndex_neg (by omega) h4] at h1
   rw [List.size_toArray, ← hl]
   exact Option.some.inj h1
  exact subscriptTail_builtinR (x := w) pl.isList.typeIs slot_list_getitem.lookup
   (wpAny_getItem_list_neg (Q := fun r s' => r = w ∧ EP X pins σ Q r s') pl.isList (by omega) (by rw [List.size_toArray] <;> omega) (by omega) (by rw [hj]; simpa using ew) ⟨rfl, fin⟩) hs
theorem ix_tup : IxR X (rIxT X.K) := by
 intro value slice pins s σ H x y v u Q I rx ry h hs
 obtain ⟨p, xs, i, z, rfl, rfl, hq, he, q⟩ := h
 cases rx
 obtain ⟨t, rfl⟩ := ry
 obtain ⟨its, r, pl, hz⟩ := I.tuple hq
 obtain ⟨j, h1, h2, h3, h4, h5⟩ := atI_get he
 obtain ⟨w, ew, rw'⟩ := r.get h2
 have hl := r.length
 have hn := line63
 have fin : EP X pins σ Q w s := ⟨z, H, I, rw', q⟩
 exact subscriptTail_builtinR (x := w) pl.typeIs slot_tuple_getitem.lookup
  (getItem_tuple (j := j) (Q := fun r s' => r = w ∧ EP X pins σ Q r s') pl (by omega) (by omega) (by rw [List.size_toArray, ← hl]; exact h1) (by simpa using ew) ⟨rfl, fin⟩) hs
theorem mapSeq_set (its : List Value) (n j : Nat) (u : Value) : Obj.mapSeq (·.setIfInBounds j u) { cls := .type "list", data := .seq its.toArray n } = { cls := .type "list", data := .seq (its.set j u).toArray n } := by
 simp [Obj.mapSeq]
theorem Inv.lst {pins : List (Addr × Obj)} {σ : St} {H : Hp} {s : Shared} {p : Addr} {xs : List V} (I : Inv X pins σ H s) (h : H p = some (.lst xs)) :
  ∃ (its : List Value) (n : Nat), Vals xs its ∧ s.heap.get? p = some { cls := .type "list", data := .seq its.toArray n } ∧ xs.length ≤ sizeLine := by
 obtain ⟨z, its, n, r, e⟩ := I.hok p _ h
 exact ⟨its, n, r, e, z⟩
theorem Inv.lstUpd {pins : List (Addr × Obj)} {σ : St} {H : Hp} {s : Shared} {p : Addr} {xs ys : List V} {its its' : List Value} {n n' : Nat} {f : Obj → Obj} (I : Inv X pins σ H s) (h : H p = some (.lst xs))
  (ho : s.heap.get? p = some { cls := .type "list", data := .seq its.toArray n }) (hf : f { cls := .type "list", data := .seq its.toArray n } = { cls := .type "list", data := .seq its'.toArray n' }) (r : Vals ys its') (hz : ys.length ≤ sizeLine) (t : Nat) :
  Inv X pins σ (upd H p (.lst ys)) { s with heap := s.heap.update p f, toks := t } := by
 have e : (s.heap.update p f).get? p = some { cls := .type "list", data := .seq its'.toArray n' } := by
  rw [Heap.get?_update_self f ho (by rw [hf] <;> rfl), hf]
 refine I.write (x := p) (e := p) (by rw [h]; trivial) (.inl rfl) (fun b u hb q => (Heap.get?_update_other _ _ (Ne.symm hb)).trans q) ⟨_, e⟩ ?_
 exact ⟨hz, its', n', r, e⟩
def rSetL : V → V → V → Hp → (Hp → Prop) → Prop := fun o i v H Q => ∃ p xs k j, o = .ref p ∧ i = .int k ∧ H p = some (.lst xs) ∧ ixN xs.length k = some j ∧ Q (upd H p (.lst (xs.set j v)))
theorem set_list : PSet X rSetL := by
 intro pins s σ H o i v ov iv u Q I ro ri rv h
 obtain ⟨p, xs, k, j, rfl, rfl, hp, hj, q⟩ := h
 cases ro
 obtain ⟨t, rfl⟩ := ri
 obtain ⟨its, n, r, ho, hz⟩ := I.lst hp
 obtain ⟨h1, h2, h3, h4⟩ := ixN_seq hj
 have hl := r.length
 have hn := line63
 have I' : Inv X pins σ (upd H p (.lst (xs.set j v))) { s with heap := s.heap.update p (Obj.mapSeq (·.setIfInBounds j u)) } :=
  I.lstUpd hp ho (mapSeq_set its n j u) (r.set rv j) (by rw [List.length_set]; exact hz) s.toks
 by_cases h0 : 0 ≤ k
 ·have hk : k.toNat = j := by
   rw [seqIndex_of h0 h4] at h1
   exact Option.some.inj h1
  exact PySem.W.ki_setAt ho h0 (by omega) (by rw [List.size_toArray, ← hl]; exact h4) (by rw [hk]; exact ⟨_, I', q⟩)
 ·have hk : (k + (its.toArray.size : Int)).toNat = j := by
   rw [seqIndex_neg (by omega) h3] at h1
   rw [List.size_toArray, ← hl]
   exact Option.some.inj h1
  exact PySem.W.ki_setBack ho (by omega) (by rw [List.size_toArray, ← hl]; exact h3) (by omega) (by rw [hk]; exact ⟨_, I', q⟩)
theorem slice_bounds (lo hi : Option Int) (n : Nat) : (sliceBounds lo hi none n).1 = ((HT.sIx n 0 lo : Nat) : Int) ∧ (sliceBounds lo hi none n).2.1 = ((HT.sIx n n hi : Nat) : Int) ∧ (sliceBounds lo hi none n).2.2 = 1 := by
 refine ⟨?_, ?_, rfl⟩
 ·cases lo with
  | none => simp [sliceBounds, HT.sIx]
  | some i =>
   simp only [sliceBounds, HT.sIx, Option.getD_none, show (1 : Int) > 0 by decide, if_true]
   by_cases h : i < 0
   ·simp only [h, if_true] <;> omega
   ·simp only [h, if_false] <;> omega
 ·cases hi with
  | none => simp [sliceBounds, HT.sIx]
  | some i =>
   simp only [sliceBounds, HT.sIx, Option.getD_none, show (1 : Int) > 0 by decide, if_true]
   by_cases h : i < 0
   ·simp only [h, if_true] <;> omega
   ·simp only [h, if_false] <;> omega
theorem slicePick_cut (its : List Value) (lo hi : Option Int) : slicePick its.toArray lo hi none = ((its.drop (HT.sIx its.length 0 lo)).take (HT.sIx its.length its.length hi - HT.sIx its.length 0 lo)).toArray := by
 obtain ⟨h1, h2, h3⟩ := slice_bounds lo hi its.toArray.size
 unfold slicePick
 rw [h1, h2, h3]
 simp only [sliceRange_one, pick_run, List.size_toArray] <;> rfl
def flatV : V → Bool
 | .non => true
 | .bl _ => true
 | .int _ => true
 | .str _ => true
 | _ => false
def eqV : V → V → Bool
 | .non, .non => true
 | .bl a, .bl b => a == b
 | .bl a, .int b => (if a then 1 else 0) == b
 | .int a, .bl b => a == (if b then 1 else 0)
 | .int a, .int b => a == b
 | .str a, .str b => a == b
 | _, _ => false
theorem eqAt_V {A : Around} {s : Shared} {y x : V} {u v : Value} (ry : RelV y u) (rx : RelV x v) (fy : flatV y = true) (fx : flatV x = true) : SeqAt.EqAt A s u v (eqV y x) := by
 cases y with
 | non =>
  cases ry
  cases x with
  | non => cases rx; exact SeqAt.EqAt.same _
  | bl b => cases rx; exact SeqAt.EqAt.none_bool b
  | int b => obtain ⟨t, rfl⟩ := rx; exact SeqAt.EqAt.none_int b t
  | str b => obtain ⟨t, rfl⟩ := rx; exact SeqAt.EqAt.none_str b t
  | _ => exact absurd (show false = true from fx) Bool.false_ne_true
 | bl a =>
  cases ry
  cases x with
  | non => cases rx; exact SeqAt.EqAt.bool_none a
  | bl b => cases rx; exact SeqAt.EqAt.bool_bool a b
  | int b => obtain ⟨t, rfl⟩ := rx; exact SeqAt.EqAt.bool_int a b t
  | str b => obtain ⟨t, rfl⟩ := rx; exact SeqAt.EqAt.bool_str a b t
  | _ => exact absurd (show false = true from fx) Bool.false_ne_true
 | int a =>
  obtain ⟨t', rfl⟩ := ry
  cases x with
  | non => cases rx; exact SeqAt.EqAt.int_none a t'
  | bl b => cases rx; exact SeqAt.EqAt.int_bool a t' b
  | int b => obtain ⟨t, rfl⟩ := rx; exact SeqAt.EqAt.int_int a t' b t
  | str b => obtain ⟨t, rfl⟩ := rx; exact SeqAt.EqAt.int_str a t' b t
  | _ => exact absurd (show false = true from fx) Bool.false_ne_true
 | str a =>
  obtain ⟨t', rfl⟩ := ry
  cases x with
  | non => cases rx; exact SeqAt.EqAt.str_none a t'
  | bl b => cases rx; exact SeqAt.EqAt.str_bool a t' b
  | int b => obtain ⟨t, rfl⟩ := rx; exact SeqAt.EqAt.str_int a t' b t
  | str b => obtain ⟨t, rfl⟩ := rx; exact SeqAt.EqAt.str_str a t' b t
  | _ => exact absurd (show false = true from fx) Bool.false_ne_true
 | _ => exact absurd (show false = true from fy) Bool.false_ne_true
def eqU (x : V) (u : Value) : Bool := match u with
 | .none => eqV .non x
 | .bool b => eqV (.bl b) x
 | .int i _ => eqV (.int i) x
 | .str z _ => eqV (.str z) x
 | _ => false
theorem eqU_of {x y : V} {u : Value} (r : RelV y u) (f : flatV y = true) : eqU x u = eqV y x := by
 cases y with
 | non => cases r; rfl
 | bl b => cases r; rfl
 | int i => obtain ⟨t, rfl⟩ := r; rfl
 | str z => obtain ⟨t, rfl⟩ := r; rfl
 | _ => exact absurd (show false = true from f) Bool.false_ne_true
theorem any_eqU {x : V} : ∀ {xs : List V} {us : List Value}, Vals xs us → xs.all flatV = true → us.any (eqU x) = xs.any fun y => eqV y x
 | _, _, .nil, _ => rfl
 | y :: xs, u :: us, .cons r t, f => by
  rw [List.all_cons, Bool.and_eq_true] at f
  rw [List.any_cons, List.any_cons, eqU_of r f.1, any_eqU t f.2]
theorem mem_eqAt {A : Around} {s : Shared} {x : V} {v : Value} (rx : RelV x v) (fx : flatV x = true) : ∀ {xs : List V} {us : List Value}, Vals xs us → xs.all flatV = true → ∀ u ∈ us, SeqAt.EqAt A s u v (eqU x u)
 | _, _, .nil, _ => fun u hu => by cases hu
 | y :: xs, u :: us, .cons r t, f => fun u' hu => by
  rw [List.all_cons, Bool.and_eq_true] at f
  rcases List.mem_cons.mp hu with rfl | hu
  ·rw [eqU_of r f.1]; exact eqAt_V r rx f.1 fx
  ·exact mem_eqAt rx fx t f.2 u' hu
def inV (x : V) (xs : List V) : Bool := xs.any fun y => eqV y x
def rIn (K : PySem.W.Frag) (neg : Bool) : R2 := fun x y H Q => ∃ p xs, y = .ref p ∧ (SqL K H p xs ∨ SqT K H p xs) ∧ flatV x = true ∧ xs.all flatV = true ∧ Q (.bl (if neg then !inV x xs else inV x xs)) H
theorem op_in_seq : OpR X (compareOp .In) (rIn X.K false) := by
 intro pins s σ H x y v u Q I rx ry h
 obtain ⟨p, xs, rfl, hq, fx, fs, q⟩ := h
 cases ry
 rcases hq with hq | hq
 ·obtain ⟨its, r, pl, hz⟩ := I.list hq
  refine SeqAt.in_listAt (eqU x) pl.isList (fun w hw => mem_eqAt rx fx r fs w (by simpa using hw)) ⟨.bl _, H, I, rfl, ?_⟩
  rw [show its.toArray.any (eqU x) = its.any (eqU x) by simp, any_eqU r fs]
  exact q
 ·obtain ⟨its, r, pl, hz⟩ := I.tuple hq
  refine SeqAt.in_tupleAt (eqU x) pl (fun w hw => mem_eqAt rx fx r fs w (by simpa using hw)) ⟨.bl _, H, I, rfl, ?_⟩
  rw [show its.toArray.any (eqU x) = its.any (eqU x) by simp, any_eqU r fs]
  exact q
theorem op_notIn_seq : OpR X (compareOp .NotIn) (rIn X.K true) := by
 intro pins s σ H x y v u Q I rx ry h
 obtain ⟨p, xs, rfl, hq, fx, fs, q⟩ := h
 cases ry
 rcases hq with hq | hq
 ·obtain ⟨its, r, pl, hz⟩ := I.list hq
  refine SeqAt.notIn_listAt (eqU x) pl.isList (fun w hw => mem_eqAt rx fx r fs w (by simpa using hw)) ⟨.bl _, H, I, rfl, ?_⟩
  rw [show its.toArray.any (eqU x) = its.any (eqU x) by simp, any_eqU r fs]
  exact q
 ·obtain ⟨its, r, pl, hz⟩ := I.tuple hq
  refine SeqAt.notIn_tupleAt (eqU x) pl (fun w hw => mem_eqAt rx fx r fs w (by simpa using hw)) ⟨.bl _, H, I, rfl, ?_⟩
  rw [show its.toArray.any (eqU x) = its.any (eqU x) by simp, any_eqU r fs]
  exact q
theorem call_len_seq : CallR X (.builtin "len") (fun xs H Q => ∃ p ys, xs = [.ref p] ∧ (SqL X.K H p ys ∨ SqT X.K H p ys) ∧ Q (.int ys.length) H) := by
 intro pins s σ H xs us Q I r h
 obtain ⟨p, ys, rfl, hq, q⟩ := h
 obtain ⟨u, rfl, rx⟩ := vals1 r
 cases rx
 have hn := line63
 rcases hq with hq | hq
 ·obtain ⟨its, r', pl, hz⟩ := I.list hq
  have hlen := r'.length
  exact Calls.call_len_list pl.isList (by simp only [List.size_toArray] <;> omega) ⟨.int ys.length, H, I.tok _, ⟨s.toks + 1, by rw [List.size_toArray, hlen]⟩, q⟩
 ·obtain ⟨its, r', pl, hz⟩ := I.tuple hq
  have hlen := r'.length
  exact len_tuple pl (by simp only [List.size_toArray] <;> omega) ⟨.int ys.length, H, I.tok _, ⟨s.toks + 1, by rw [List.size_toArray, hlen]⟩, q⟩
theorem call_list_of : CallR X (.type "list") (fun xs H Q => ∃ p ys, xs = [.ref p] ∧ (SqL X.K H p ys ∨ SqT X.K H p ys) ∧ ∀ l, H l = none → Q (.ref l) (upd H l (.lst ys))) := by
 intro pins s σ H xs us Q I r h
 obtain ⟨p, ys, rfl, hq, q⟩ := h
 obtain ⟨u, rfl, rx⟩ := vals1 r
 cases rx
 have fin : ∀ (its : List Value), Vals ys its → ys.length ≤ sizeLine → ∀ (h' : Heap) (c' : Nat), (∀ b o', s.heap.get? b = some o' → h'.get? b = some o') →
   h'.get? s.heap.objs.size = some { cls := .type "list", dict := none, data := .seq its.toArray c', slots := #[] } → EP X pins σ Q (.ref s.heap.objs.size) { s with heap := h' } := fun its r' hz h' c' kp e =>
  ⟨.ref s.heap.objs.size, _, I.laid (t' := s.toks) kp (Nat.le_refl _) (show ObjOk X.prog X.w _ h' _ (.lst ys) from ⟨hz, its, c', r', e⟩), rfl, q _ (I.hok.fresh (Nat.le_refl _))⟩
 rcases hq with hq | hq
 ·obtain ⟨its, r', pl, hz⟩ := I.list hq
  have hlen := r'.length
  obtain ⟨o, ho, hc, n, hd⟩ := pl.isList
  exact call_list_seq p (.inl rfl) ho hc hd (fun h' c' kp e => fin its r' hz h' c' kp e) (by simp only [List.size_toArray] <;> omega)
 ·obtain ⟨its, r', pl, hz⟩ := I.tuple hq
  have hlen := r'.length
  obtain ⟨o, ho, hc, n, hd⟩ := pl
  exact call_list_seq p (.inr rfl) ho hc hd (fun h' c' kp e => fin its r' hz h' c' kp e) (by simp only [List.size_toArray] <;> omega)
def tyV (K : PySem.W.Frag) (T : String) (x : V) (H : Hp) : Prop := match x with
 | .str _ => T = "str"
 | .int _ => T = "int"
 | .ref p => (T = "list" ∧ ∃ xs, SqL K H p xs) ∨ (T = "tuple" ∧ ∃ o, K.lookup p = some o ∧ o.cls = .type "tuple" ∧ o.dict = none) ∨
   (T = "dict" ∧ ((∃ kvs, H p = some (.dK kvs)) ∨ ∃ kvs, H p = some (.dT kvs))) ∨ (T = "set" ∧ ∃ S n, H p = some (.set S n))
 | _ => False
theorem tyV_is {pins : List (Addr × Obj)} {σ : St} {H : Hp} {s : Shared} {T : String} {x : V} {v : Value} (I : Inv X pins σ H s) (r : RelV x v) (ty : tyV X.K T x H) :
  s.TypeIs v T ∧ ∀ a, v = .ref a → ∃ ob, s.heap.get? a = some ob ∧ ob.dict = none := by
 cases x with
 | str z =>
  obtain ⟨t, rfl⟩ := r
  cases (show T = "str" from ty)
  exact ⟨typeIs_str s z t, fun _ e => nomatch e⟩
 | int i =>
  obtain ⟨t, rfl⟩ := r
  cases (show T = "int" from ty)
  exact ⟨typeIs_int s i t, fun _ e => nomatch e⟩
 | ref p =>
  cases r
  rcases ty with ⟨rfl, xs, hq⟩ | ⟨rfl, o, hk, hc, hd⟩ | ⟨rfl, hk⟩ | ⟨rfl, S, n, hk⟩
  ·obtain ⟨its, _, pl, _⟩ := I.list hq
   refine ⟨pl.isList.typeIs, fun a e => ?_⟩
   cases e
   obtain ⟨o, n, e, c, hd, _⟩ := pl
   exact ⟨o, e, hd⟩
  ·refine ⟨⟨o, I.kIn p o hk, hc⟩, fun a e => ?_⟩
   cases e
   exact ⟨o, I.kIn _ o hk, hd⟩
  ·have z : ∃ o, s.heap.get? p = some o ∧ o.ExactDict := by
    rcases hk with ⟨kvs, hk⟩ | ⟨kvs, hk⟩
    ·obtain ⟨_, _, _, _, o, _, _, e, ex, _⟩ := I.hok p _ hk
     exact ⟨o, e, ex⟩
    ·obtain ⟨_, _, _, _, o, _, _, e, ex, _⟩ := I.hok p _ hk
     exact ⟨o, e, ex⟩
   obtain ⟨o, e, ex⟩ := z
   refine ⟨⟨o, e, ex.1⟩, fun a e2 => ?_⟩
   cases e2
   exact ⟨o, e, ex.2.1⟩
  ·obtain ⟨o, _, _, _, e, ex, _⟩ := I.hok p _ hk
   refine ⟨⟨o, e, ex.1⟩, fun a e2 => ?_⟩
   cases e2
   exact ⟨o, e, ex.2.1⟩
 | _ => exact False.elim ty
def tBM (K : PySem.W.Frag) (T : String) (r : V → List V → Hp → VK → Prop) (to : TE) (t : TA) : TE := fun σ H Q => to σ H fun x H1 => tyV K T x H1 ∧ t σ H1 fun xs H2 => r x xs H2 Q
variable {o e : Expr} {es : List Expr} {to : TE} {t : TA} {name : Str} {apos cpos : Pos} {T id : String} {r : V → List V → Hp → VK → Prop}
theorem pe_bm (pa : PlainAttrs T) (slot : Slot T name id) (hty : typeOf (.builtin id) = pure (.type "method_descriptor")) (hm : MtR X id r) (ho : PE X o to) (ha : PA X (e :: es) t)
  (hbase : attributeBase o name X.env (eval o X.env) = eval o X.env := by rfl)
  (hfew : ((backTo cpos (starEach (e :: es) X.env)).all (fun x => !x.1) && (backToKw cpos (keywordEach [] X.env)).all (fun x => x.1.isSome)
   && decide ((e :: es).length + ([] : List Keyword).length + (if ([] : List Keyword).isEmpty then 0 else 1) < 30)) = true := by rfl)
  (hline : (apos.endLine == cpos.line) = true := by rfl) (hs : starEach (e :: es) X.env = (false, eval e X.env) :: starEach es X.env := by rfl) (hplain : (backTo cpos (starEach es X.env)).any (·.1) = false := by rfl) :
  PE X (.Call (.Attribute o name apos) (e :: es) [] cpos) (tBM X.K T r to t) := by
 intro pins s σ H Q I h
 refine wpAny_Call_method_late hbase hfew hline rfl (thn (ho pins s σ H _ I h) fun v s1 ⟨x, H1, I1, r1, ty, q1⟩ => ?_)
 obtain ⟨h1, h2⟩ := tyV_is I1 r1 ty
 refine ⟨T, id, pa, slot, hty, h1, h2, ?_⟩
 have hA := ha cpos pins s1 σ H1 _ I1 q1
 rw [hs] at hA ⊢
 refine Calls.callWith_builtin (by show (false || (backTo cpos (starEach es X.env)).any (·.1)) = false; rw [hplain] <;> rfl) (Calls.evalArgs_plain ?_)
 exact thn hA fun us s2 ⟨vs, H2, I2, r2, q2⟩ => hm pins s2 σ H2 x vs v us Q I2 r1 r2 q2
end
end L2
namespace L2
open PySem PySem.Spec PyProof.Rows
def MtM (X : Cx) (id : String) (r : V → List V → Hp → VK → Prop) : Prop :=
 ∀ (pins : List (Addr × Obj)) (s : Shared) (σ : St) (H : Hp) (x : V) (xs : List V) (v : Value) (us : List Value) (Q : VK), Inv X pins σ H s → RelV x v → Vals xs us → r x xs H Q →
  wpAny (model X.prog X.w) X.A (call (.builtin id) (v :: us)) (EP X pins σ Q) X.xe s
theorem Vals.one : ∀ {x : V} {us : List Value}, Vals [x] us → ∃ u, us = [u] ∧ RelV x u
 | _, _, .cons r .nil => ⟨_, rfl, r⟩
theorem Vals.eraseIdx : ∀ {xs : List V} {us : List Value} (i : Nat), Vals xs us → Vals (xs.eraseIdx i) (us.eraseIdx i)
 | _, _, _, .nil => .nil
 | _, _, 0, .cons _ t => t
 | _, _, i + 1, .cons r t => .cons r (Vals.eraseIdx i t)
theorem Vals.reverse {xs : List V} {us : List Value} (h : Vals xs us) : Vals xs.reverse us.reverse := by
 induction h with
 | nil => exact .nil
 | cons r t ih => rw [List.reverse_cons, List.reverse_cons]; exact Vals.append ih (.cons r .nil)
theorem Vals.rep {xs : List V} {us : List Value} (h : Vals xs us) : ∀ k : Nat, Vals (List.replicate k xs).flatten (List.replicate k us).flatten
 | 0 => .nil
 | k + 1 => by
  rw [List.replicate_succ, List.replicate_succ, List.flatten_cons, List.flatten_cons]
  exact Vals.append h (Vals.rep h k)
theorem len_erase {α : Type} : ∀ (l : List α) (i : Nat), (l.eraseIdx i).length ≤ l.length
 | [], _ => Nat.le_refl _
 | _ :: _, 0 => Nat.le_succ _
 | _ :: r, i + 1 => Nat.succ_le_succ (len_erase r i)
theorem foldl_rep (its : List Value) : ∀ (k : Nat) (acc : List Value),
  List.foldl (fun x1 x2 => x1 ++ x2) acc.toArray (List.replicate k its.toArray) = (acc ++ (List.replicate k its).flatten).toArray
 | 0, acc => by simp
 | k + 1, acc => by
  have e : acc.toArray ++ its.toArray = (acc ++ its).toArray := by simp
  have e2 : (acc ++ its) ++ (List.replicate k its).flatten = acc ++ (List.replicate (k + 1) its).flatten := by
   rw [List.replicate_succ, List.flatten_cons, List.append_assoc]
  rw [← e2, ← foldl_rep its k (acc ++ its), ← e, List.replicate_succ, List.foldl_cons]
section
variable {X : Cx} {pins : List (Addr × Obj)} {σ : St} {H : Hp} {s : Shared} {l b : Addr} {xs ys zs : List V}
theorem Inv.lset {its its' : List Value} {n : Nat} {f : Array Value → Array Value} {t' : Nat} (I : Inv X pins σ H s) (hH : H l = some (.lst xs))
  (e : s.heap.get? l = some { cls := .type "list", data := .seq its.toArray n }) (hf : f its.toArray = its'.toArray) (hv : Vals ys its') (hz : ys.length ≤ sizeLine) :
  Inv X pins σ (upd H l (.lst ys)) { s with heap := s.heap.update l (Obj.mapSeq f), toks := t' } := by
 have q := PySem.IsL.update e f
 rw [hf] at q
 refine I.write (x := l) (e := l) (by rw [hH]; exact trivial) (.inl rfl) (fun b' u hb hu => (Heap.get?_update_other s.heap (Obj.mapSeq f) (Ne.symm hb)).trans hu) ⟨_, q⟩ ?_
 exact ⟨hz, its', _, hv, q⟩
theorem Inv.lnew {its : List Value} {t' : Nat} (I : Inv X pins σ H s) (hv : Vals ys its) (hz : ys.length ≤ sizeLine) :
  Inv X pins σ (upd H s.heap.objs.size (.lst ys)) { s with heap := s.heap.push { cls := .type "list", data := .seq its.toArray }, toks := t' } :=
 I.laid (fun _ _ q => Heap.get?_push_of_some _ q) (Nat.le_refl _) ⟨hz, its, 0, hv, Heap.get?_push_size _ rfl⟩
theorem Inv.fresh (I : Inv X pins σ H s) : H s.heap.objs.size = none := I.hok.fresh (Nat.le_refl _)
theorem Inv.lstM (I : Inv X pins σ H s) (hH : H l = some (.lst xs)) : xs.length ≤ sizeLine ∧ ∃ (its : List Value) (n : Nat), Vals xs its ∧ xs.length = its.length ∧ s.heap.get? l = some { cls := .type "list", data := .seq its.toArray n } := by
 obtain ⟨z, its, n, r, e⟩ := I.hok l _ hH
 exact ⟨z, its, n, r, r.length, e⟩
theorem notLongL {n : Nat} (h : n ≤ sizeLine) : Builtin.List.listTooLong n = false := by
 unfold Builtin.List.listTooLong
 exact decide_eq_false (by omega)
end
section
variable {X : Cx}
def rAppend : V → List V → Hp → VK → Prop := fun x vs H Q => ∃ l xs y, x = .ref l ∧ vs = [y] ∧ H l = some (.lst xs) ∧ xs.length < sizeLine ∧ Q .non (upd H l (.lst (xs ++ [y])))
theorem mt_append : MtM X "list.append" rAppend := by
 intro pins s σ H x vs v us Q I rx rv h
 obtain ⟨l, xs, y, rfl, rfl, hH, hz, q⟩ := h
 cases rx
 obtain ⟨u, rfl, ru⟩ := rv.one
 obtain ⟨z, its, n, r, hl, e⟩ := I.lstM hH
 refine call_meets F.slot_list_append ⟨_, e, rfl⟩ F.entry_list_append (F.args_list_append_2 _ _) (PySem.list_append l its.toArray n u (by rw [List.size_toArray]; omega)) ⟨e, ?_⟩
 refine ⟨.non, _, I.lset (its' := its ++ [u]) hH e (by simp) (r.append (.cons ru .nil)) ?_, rfl, q⟩
 rw [List.length_append, List.length_singleton]
 omega
def rExtend : V → List V → Hp → VK → Prop := fun x vs H Q => ∃ l b xs zs, x = .ref l ∧ vs = [.ref b] ∧ H l = some (.lst xs) ∧ H b = some (.lst zs) ∧ xs.length + zs.length ≤ sizeLine ∧ Q .non (upd H l (.lst (xs ++ zs)))
theorem mt_extend : MtM X "list.extend" rExtend := by
 intro pins s σ H x vs v us Q I rx rv h
 obtain ⟨l, b, xs, zs, rfl, rfl, hH, hB, hz, q⟩ := h
 cases rx
 obtain ⟨u, rfl, ru⟩ := rv.one
 cases ru
 obtain ⟨z, its, n, r, hl, e⟩ := I.lstM hH
 obtain ⟨z2, its2, n2, r2, hl2, e2⟩ := I.lstM hB
 have hsz : its.toArray.size + its2.toArray.size ≤ sizeLine := by rw [List.size_toArray, List.size_toArray]; omega
 have hlong : ¬ (!its.toArray.isEmpty && Builtin.List.listTooLong (its.toArray.size + its2.toArray.size)) = true := by
  rw [notLongL hsz, Bool.and_false]
  exact Bool.false_ne_true
 refine call_meets F.slot_list_extend ⟨_, e, rfl⟩ F.entry_list_extend (F.args_list_extend_2 _ _)
  (AutoSeq1.list_extend_list_list_0 l its.toArray n b its2.toArray n2 hlong (by rw [List.size_toArray]; omega) (by omega)) ⟨e, e2, ?_⟩
 refine ⟨.non, _, I.lset (its' := its ++ its2) hH e (by simp) (r.append r2) ?_, rfl, q⟩
 rw [List.length_append]
 omega
def rPopAt : V → List V → Hp → VK → Prop := fun x vs H Q => ∃ l xs i k y, x = .ref l ∧ vs = [.int i] ∧ H l = some (.lst xs) ∧ -(2 ^ 63) ≤ i ∧ i < 2 ^ 63 ∧ seqIndex? i xs.length = some k ∧ xs[k]? = some y ∧ Q y (upd H l (.lst (xs.eraseIdx k)))
theorem mt_popAt : MtM X "list.pop" rPopAt := by
 intro pins s σ H x vs v us Q I rx rv h
 obtain ⟨l, xs, i, k, y, rfl, rfl, hH, h1, h2, hk, hy, q⟩ := h
 cases rx
 obtain ⟨u, rfl, ru⟩ := rv.one
 obtain ⟨t, rfl⟩ := ru
 obtain ⟨z, its, n, r, hl, e⟩ := I.lstM hH
 obtain ⟨w, hw, rw'⟩ := r.get hy
 refine call_meets F.slot_list_pop ⟨_, e, rfl⟩ F.entry_list_pop (F.args_list_pop_2 _ _)
  (MeetsSeq.list_pop_at l its.toArray n i t k w (fitsIndex_both h1 h2) (by rw [List.size_toArray, ← hl]; exact hk) (by rw [← Array.getElem?_toList]; exact hw) (by rw [List.size_toArray]; omega)) ⟨e, ?_⟩
 refine ⟨y, _, I.lset (its' := its.eraseIdx k) hH e ?_ (r.eraseIdx k) ?_, rw', q⟩
 ·show its.toArray.eraseIdxIfInBounds k = (its.eraseIdx k).toArray
  rw [List.eraseIdxIfInBounds_toArray]
 ·have := len_erase xs k
  omega
def rCat : R2 := fun x y H Q => ∃ l b xs zs, x = .ref l ∧ y = .ref b ∧ H l = some (.lst xs) ∧ H b = some (.lst zs) ∧ xs.length + zs.length ≤ sizeLine ∧ ∀ p, H p = none → Q (.ref p) (upd H p (.lst (xs ++ zs)))
theorem op_cat : OpR X (binaryOp .Add) rCat := by
 intro pins s σ H x y v u Q I rx ry h
 obtain ⟨l, b, xs, zs, rfl, rfl, hH, hB, hz, q⟩ := h
 cases rx
 cases ry
 obtain ⟨z, its, n, r, hl, e⟩ := I.lstM hH
 obtain ⟨z2, its2, n2, r2, hl2, e2⟩ := I.lstM hB
 refine PySem.P.add_list e e2 ?_ (by rw [List.size_toArray, List.size_toArray]; omega)
 have ea : its.toArray ++ its2.toArray = (its ++ its2).toArray := by simp
 rw [ea]
 exact ⟨.ref _, _, I.lnew (t' := s.toks) (r.append r2) (by rw [List.length_append]; omega), rfl, q _ I.fresh⟩
def rRep : R2 := fun x y H Q => ∃ l k xs, x = .ref l ∧ y = .int k ∧ H l = some (.lst xs) ∧ -(2 ^ 63) ≤ k ∧ k < 2 ^ 63 ∧ xs.length * k.toNat ≤ sizeLine ∧
 ∀ p, H p = none → Q (.ref p) (upd H p (.lst (List.replicate k.toNat xs).flatten))
theorem len_rep {α : Type} (xs : List α) (k : Nat) : (List.replicate k xs).flatten.length = k * xs.length := by
 induction k with
 | zero => simp
 | succ k ih => rw [List.replicate_succ, List.flatten_cons, List.length_append, ih, Nat.succ_mul, Nat.add_comm]
theorem op_rep : OpR X (binaryOp .Mult) rRep := by
 intro pins s σ H x y v u Q I rx ry h
 obtain ⟨l, k, xs, rfl, rfl, hH, h1, h2, hz, q⟩ := h
 cases rx
 obtain ⟨t, rfl⟩ := ry
 obtain ⟨z, its, n, r, hl, e⟩ := I.lstM hH
 have hlen : its.toArray.size * k.toNat ≤ sizeLine := by rw [List.size_toArray, ← hl]; exact hz
 have hcap : ¬ its.toArray.size * k.toNat > (2 ^ 63 - 1) / 8 := by
  have : (sizeLine : Nat) ≤ (2 ^ 63 - 1) / 8 := by decide
  omega
 have hfit : ¬ (!Builtin.List.listFitsIndex k) = true := by
  rw [fitsIndex_both h1 h2]
  exact Bool.false_ne_true
 have hlong : ¬ Builtin.List.listTooLong (its.toArray.size * k.toNat) = true := by
  rw [notLongL hlen]
  exact Bool.false_ne_true
 have hnew : List.foldl (fun x1 x2 => x1 ++ x2) #[] (List.replicate (if its.toArray.isEmpty = true then 0 else k.toNat) its.toArray) = (List.replicate k.toNat its).flatten.toArray := by
  have f0 : ∀ m : Nat, List.foldl (fun x1 x2 => x1 ++ x2) #[] (List.replicate m its.toArray) = (List.replicate m its).flatten.toArray := fun m => by
   have := foldl_rep its m []
   rw [List.nil_append] at this
   exact this
  rw [f0]
  cases its with
  | nil => simp
  | cons a r' => rw [if_neg (by simp)]
 refine wpAny_binaryOp_repeat_ref (T := "list") (U := "int") (by decide) ⟨_, e, rfl⟩ (fun s' => typeIs_int s' k t) noFill_list_mul F.fills_int_mul F.slot_int_rmul repeat_list F.slot_int_index.lookup
  (call_meets F.slot_int_rmul (typeIs_int s k t) F.entry_int_rmul (F.args_int_rmul_2 _ _) (int___rmul___int_list k t l its.toArray n)
   ⟨e, rfl, ⟨_, e, rfl⟩, call_meets F.slot_list_mul ⟨_, e, rfl⟩ F.entry_list_mul (F.args_list_mul_2 _ _) (AutoListH.list___mul___list_int_3 l its.toArray n k t hfit hcap hlong) ⟨e, ?_⟩⟩)
 rw [hnew]
 exact ⟨.ref _, _, I.lnew (t' := s.toks) (r.rep k.toNat) (by rw [len_rep, Nat.mul_comm]; exact hz), rfl, q _ I.fresh⟩
end
section
variable {prog : Program} {w : World} {A : Around} {E : Value → Shared → Prop} {s : Shared}
set_option maxRecDepth 100000 in
end
end L2
namespace L2
open PySem PySem.Spec PyProof.Rows
theorem Vals.ints : ∀ {ns : List Int} {us : List Value}, Vals (ns.map V.int) us → IntsAre us ns
 | [], us, h => by
  rw [List.map_nil] at h
  cases h
  exact IntsAre.nil
 | n :: ns, us, h => by
  rw [List.map_cons] at h
  cases h with
  | cons r t =>
   obtain ⟨k, rfl⟩ := r
   exact IntsAre.cons n k (Vals.ints t)
theorem vals_of_ints : ∀ {us : List Value} {ns : List Int}, IntsAre us ns → Vals (ns.map V.int) us
 | _, _, .nil => by rw [List.map_nil]; exact Paired.nil
 | _, _, .cons n t h => by rw [List.map_cons]; exact Paired.cons (show RelV (V.int n) (Value.int n t) from ⟨t, rfl⟩) (vals_of_ints h)
theorem Vals.bls : ∀ {bs : List Bool} {us : List Value}, Vals (bs.map V.bl) us → us = bs.map Value.bool
 | [], us, h => by
  rw [List.map_nil] at h
  cases h
  rfl
 | b :: bs, us, h => by
  rw [List.map_cons] at h
  cases h with
  | cons r t =>
   cases r
   rw [Vals.bls t, List.map_cons]
theorem Vals.ref1 {a : Addr} {us : List Value} (r : Vals [V.ref a] us) : us = [Value.ref a] := by
 cases r with
 | cons r t =>
  cases t
  cases r
  rfl
section
variable {prog : Program} {w : World} {A : Around} {E : Value → Shared → Prop} {s : Shared} {l : Addr} {its : List Value} {ns : List Int} {Q : Value → Shared → Prop}
theorem sum_raw (hh : A.handled = none) (hl : s.heap.IsList l its.toArray) (hi : IntsAre its ns)
  (h : ∀ h' tk t', (∀ b o, s.heap.get? b = some o → h'.get? b = some o) → Q (.int ns.sum t') { s with heap := h', toks := tk }) : wpAny (model prog w) A (call (.builtin "sum") [.ref l]) Q E s := by
 obtain ⟨xs, e⟩ := hi.allInts.items
 have hn : numsOf (intItems xs).toList = ns := by rw [← e]; exact hi.numsOf
 rw [nums_intItems] at hn
 rw [e] at hl
 refine PySem.sum_intListG hh hl fun h' tk t' hk => ?_
 have := h h' tk t' hk
 rw [preSum_eq, List.take_of_length_le (by simp), hn]; exact this
end
section
variable {X : Cx}
def rSum (K : PySem.W.Frag) : List V → Hp → VK → Prop := fun vs H Q => ∃ (a : Addr) (ns : List Int), vs = [V.ref a] ∧ SqL K H a (ns.map V.int) ∧ Q (.int ns.sum) H
theorem cr_sum (hc : X.calm = true) : CallR X (.builtin "sum") (rSum X.K) := by
 intro pins s σ H vs us Q I r h
 obtain ⟨a, ns, rfl, hs, q⟩ := h
 obtain ⟨its, rv, hl, _⟩ := I.list hs
 rw [Vals.ref1 r]
 exact sum_raw (I.ok.hd hc) hl.isList rv.ints fun h' tk t' hk => ⟨.int _, H, I.kept hk, ⟨_, rfl⟩, q⟩
def rSorted (K : PySem.W.Frag) : List V → Hp → VK → Prop := fun vs H Q => ∃ (a : Addr) (ns : List Int), vs = [V.ref a] ∧ SqL K H a (ns.map V.int) ∧ ns.length < 64 ∧
 ∀ (ns' : List Int) (p : Addr), ns'.Perm ns → ns'.Pairwise (· ≤ ·) → H p = none → Q (.ref p) (upd H p (.lst (ns'.map V.int)))
theorem small64 {n : Nat} (h : n < 64) : n ≤ sizeLine := by rw [sizeLine_eq]; omega
theorem cr_sorted : CallR X (.builtin "sorted") (rSorted X.K) := by
 intro pins s σ H vs us Q I r h
 obtain ⟨a, ns, rfl, hs, h64, q⟩ := h
 obtain ⟨its, rv, hl, _⟩ := I.list hs
 rw [Vals.ref1 r]
 have hi := rv.ints
 refine PyProof.Rows.sorted_ints hl.isList hi (by rw [hi.length]; exact h64) fun out ns' h1 h2 h3 => ?_
 obtain ⟨ep, he'⟩ := PyProof.Rows.sortedAll_at s.heap its out
 have hlen : (ns'.map V.int).length ≤ sizeLine := by rw [List.length_map, h2.length_eq]; exact small64 h64
 exact ⟨.ref _, upd H (s.heap.objs.size + 1) (.lst (ns'.map V.int)), I.laid (t' := s.toks) (fun _ _ => PyProof.Rows.sortedAll_old) (Nat.le_succ _) ⟨hlen, out.toList, ep, vals_of_ints h1, he'⟩, rfl, q ns' _ h2 h3 (I.hok.fresh (Nat.le_succ _))⟩
end
theorem iter_any {prog : Program} {w : World} {A : Around} {E : Value → Shared → Prop} {s : Shared} {l : Addr} {items : Array Value} {Q : Value → Shared → Prop} (hl : s.heap.IsList l items)
  (h : ∀ s₂ : Shared, s₂ = { s with heap := s.heap.push { cls := .type "list_iterator", data := .fields #[.ref l, .int 0 0] } } →
   (s₂.heap.IsListIter s.heap.objs.size l 0 ∧ s₂.heap.IsList l items) → l ≠ s.heap.objs.size → Q (.ref s.heap.objs.size) s₂) : wpAny (model prog w) A (pyIter (.ref l)) Q E s := by
 have hlt : l < s.heap.objs.size := by obtain ⟨_, e, _⟩ := hl; exact Heap.lt_size e
 exact wpAny_pyIter_list hl (h _ rfl ⟨⟨_, Heap.get?_push_size _ rfl, rfl, rfl⟩, hl.push _⟩ (Nat.ne_of_lt hlt))
theorem truth_bools {prog : Program} {w : World} {A : Around} {bs : List Bool} {its : List Value} (e : its = bs.map Value.bool) :
  TruthOf prog w A (fun i v => its.toArray[i]? = some v) (fun i => bs.getD i false) := fun i v s Q E hv hq => by
 have hv' : its[i]? = some v := by simpa using hv
 rw [e, List.getElem?_map] at hv'
 obtain ⟨b, hb, rfl⟩ := Option.map_eq_some_iff.mp hv'
 have hg : bs.getD i false = b := by rw [List.getD_eq_getElem?_getD, hb] <;> rfl
 have hq' : Q (bs.getD i false) s := hq
 rw [hg] at hq'
 exact wpAny_truthy_bool hq'
theorem any_range : ∀ bs : List Bool, (List.range bs.length).any (fun i => bs.getD i false) = bs.any id
 | [] => rfl
 | b :: bs => by
  rw [List.length_cons, List.range_succ_eq_map, List.any_cons, List.any_map, List.any_cons, ← any_range bs]
  all_goals rfl
theorem all_range : ∀ bs : List Bool, (List.range bs.length).all (fun i => bs.getD i false) = bs.all id
 | [] => rfl
 | b :: bs => by
  rw [List.length_cons, List.range_succ_eq_map, List.all_cons, List.all_map, List.all_cons, ← all_range bs]
  all_goals rfl
section
variable {X : Cx}
def rAny (K : PySem.W.Frag) : List V → Hp → VK → Prop := fun vs H Q => ∃ (a : Addr) (bs : List Bool), vs = [V.ref a] ∧ SqL K H a (bs.map V.bl) ∧ Q (.bl (bs.any id)) H
def rAll (K : PySem.W.Frag) : List V → Hp → VK → Prop := fun vs H Q => ∃ (a : Addr) (bs : List Bool), vs = [V.ref a] ∧ SqL K H a (bs.map V.bl) ∧ Q (.bl (bs.all id)) H
theorem cr_any (hc : X.calm = true) : CallR X (.builtin "any") (rAny X.K) := by
 intro pins s σ H vs us Q I r h
 obtain ⟨a, bs, rfl, hs, q⟩ := h
 obtain ⟨its, rv, hl, _⟩ := I.list hs
 rw [Vals.ref1 r]
 have hb := rv.bls
 refine call_any_walk (iter_any hl.isList fun s₂ e2 st hne => ?_)
 subst e2
 refine ⟨_, _, _, _, _, _, _, rfl, Walks.list (A := X.A.in1) (I.ok.hd hc) _ a hne its.toArray, st, truth_bools hb, fun h' tk hk => ?_⟩
 refine ⟨.bl _, H, I.kept fun b o eo => hk b o (fun hmem => ?_) (Heap.get?_push_of_some _ eo), ?_, q⟩
 ·rcases List.mem_cons.mp hmem with e1 | hmem
  ·exact absurd (e1 ▸ Heap.lt_size eo) (Nat.lt_irrefl _)
  ·cases hmem
 ·show Value.bool _ = Value.bool _
  rw [← any_range, hb, List.size_toArray, List.length_map]
theorem cr_all (hc : X.calm = true) : CallR X (.builtin "all") (rAll X.K) := by
 intro pins s σ H vs us Q I r h
 obtain ⟨a, bs, rfl, hs, q⟩ := h
 obtain ⟨its, rv, hl, _⟩ := I.list hs
 rw [Vals.ref1 r]
 have hb := rv.bls
 refine call_all_walk (iter_any hl.isList fun s₂ e2 st hne => ?_)
 subst e2
 refine ⟨_, _, _, _, _, _, _, rfl, Walks.list (A := X.A.in1) (I.ok.hd hc) _ a hne its.toArray, st, truth_bools hb, fun h' tk hk => ?_⟩
 refine ⟨.bl _, H, I.kept fun b o eo => hk b o (fun hmem => ?_) (Heap.get?_push_of_some _ eo), ?_, q⟩
 ·rcases List.mem_cons.mp hmem with e1 | hmem
  ·exact absurd (e1 ▸ Heap.lt_size eo) (Nat.lt_irrefl _)
  ·cases hmem
 ·show Value.bool _ = Value.bool _
  rw [← all_range, hb, List.size_toArray, List.length_map]
end
end L2
namespace L2
open PySem PySem.Spec PyProof.Rows
abbrev CellAt (h : Heap) (c : Addr) (v : Option Value) : Prop := h.IsCell c v
def relS (scope sc : Scope) : Scope :=
 { scope with names := scope.names.map fun (n, k) => if (k == .free && sc.kind == .function && sc.names.lookup n == some .cell) then (n, .cell) else (n, k) }
def cloFrom (cells : List (Str × Addr)) : List (Str × NameKind) → List (Str × Addr) → List (Str × Addr)
 | [], acc => acc
 | (n, k) :: r, acc => if k == .free then cloFrom cells r ((n, (cells.lookup n).getD 0) :: acc) else cloFrom cells r acc
theorem closure_loop (env : Env) (f : Str × NameKind → List (Str × Addr) → Sem (ForInStep (List (Str × Addr))))
  (hf : ∀ n k c, f (n, k) c = if k == .free then (do let a ← cellOf env n; pure (.yield ((n, a) :: c))) else pure (.yield c)) :
  ∀ (names : List (Str × NameKind)) (acc : List (Str × Addr)), (∀ y ∈ names, y.2 = .free → ∃ c, env.cells.lookup y.1 = some c) → forIn names acc f = pure (cloFrom env.cells names acc)
 | [], acc, _ => by rw [List.forIn_nil]; rfl
 | (n, k) :: r, acc, h => by
  rw [List.forIn_cons, hf]
  have ih := fun acc => closure_loop env f hf r acc fun y hy => h y (List.mem_cons_of_mem _ hy)
  unfold cloFrom
  by_cases hk : (k == NameKind.free) = true
  ·rw [if_pos hk, if_pos hk]
   obtain ⟨c, hc⟩ := h (n, k) List.mem_cons_self (by simpa using hk)
   have e : cellOf env n = pure c := by unfold cellOf; rw [hc]
   rw [e]
   have e2 : (env.cells.lookup n).getD 0 = c := by rw [hc]; rfl
   rw [e2]
   exact ih _
  ·rw [if_neg hk, if_neg hk]
   exact ih _
theorem closure_ok {scope : Scope} {env : Env} (h : ∀ y ∈ scope.names, y.2 = .free → ∃ c, env.cells.lookup y.1 = some c) : closureFor scope env = pure (cloFrom env.cells scope.names []) := by
 simp only [closureFor]
 rw [closure_loop env _ (fun n k c => rfl) scope.names [] h]
 rfl
theorem mem_lookup {α : Type} : ∀ {l : List (Str × α)} {n : Str} {c : α}, (n, c) ∈ l → ∃ c', l.lookup n = some c'
 | (k, v) :: r, n, c, h => by
  rw [List.lookup_cons]
  cases hb : n == k with
  | true => exact ⟨_, rfl⟩
  | false =>
   rcases List.mem_cons.mp h with e | h
   ·cases e; simp at hb
   ·exact mem_lookup h
theorem cloFrom_mem {cells : List (Str × Addr)} : ∀ {names : List (Str × NameKind)} {acc : List (Str × Addr)} {n : Str} {c : Addr}, (n, c) ∈ cloFrom cells names acc → (n, c) ∈ acc ∨ ((n, .free) ∈ names ∧ c = (cells.lookup n).getD 0)
 | [], _, _, _, h => .inl h
 | (m, k) :: r, acc, n, c, h => by
  unfold cloFrom at h
  split at h
  ·rename_i hk
   have hk : k = .free := by simpa using hk
   rcases cloFrom_mem h with h | ⟨h1, h2⟩
   ·rcases List.mem_cons.mp h with e | h
    ·cases e; exact .inr ⟨hk ▸ List.mem_cons_self, rfl⟩
    ·exact .inl h
   ·exact .inr ⟨List.mem_cons_of_mem _ h1, h2⟩
  ·rcases cloFrom_mem h with h | ⟨h1, h2⟩
   ·exact .inl h
   ·exact .inr ⟨List.mem_cons_of_mem _ h1, h2⟩
theorem cloFrom_acc {cells : List (Str × Addr)} : ∀ {names : List (Str × NameKind)} {acc : List (Str × Addr)} {p : Str × Addr}, p ∈ acc → p ∈ cloFrom cells names acc
 | [], _, _, h => h
 | (m, k) :: r, acc, p, h => by
  unfold cloFrom
  split
  ·exact cloFrom_acc (List.mem_cons_of_mem _ h)
  ·exact cloFrom_acc h
theorem cloFrom_has {cells : List (Str × Addr)} : ∀ {names : List (Str × NameKind)} {acc : List (Str × Addr)} {n : Str}, (n, .free) ∈ names → (n, (cells.lookup n).getD 0) ∈ cloFrom cells names acc
 | (m, k) :: r, acc, n, h => by
  unfold cloFrom
  rcases List.mem_cons.mp h with e | h
  ·cases e
   exact cloFrom_acc List.mem_cons_self
  ·split
   ·exact cloFrom_has h
   ·exact cloFrom_has h
theorem cells_mem : ∀ {names : List (Str × NameKind)} {h : Heap} {acc : List (Str × Addr)} {x : Str} {c : Addr}, (x, c) ∈ cellsFrom h.objs.size names acc →
  (x, c) ∈ acc ∨ ((x, .cell) ∈ names ∧ h.objs.size ≤ c ∧ CellAt (pushCells h names) c none)
 | [], _, _, _, _, h => .inl h
 | (n, k) :: r, h, acc, x, c, hm => by
  unfold cellsFrom at hm
  unfold pushCells
  split at hm
  ·rename_i hk
   rw [if_pos hk]
   have hk : k = .cell := by simpa using hk
   rw [← Heap.size_push h { cls := .type "cell", data := .cell none }] at hm
   rcases cells_mem hm with hm | ⟨h1, h2, h3⟩
   ·rcases List.mem_cons.mp hm with e | hm
    ·cases e
     exact .inr ⟨hk ▸ List.mem_cons_self, Nat.le_refl _, _, pushCells_keeps r _ _ _ (Heap.get?_push_size _ rfl), rfl⟩
    ·exact .inl hm
   ·rw [Heap.size_push] at h2
    exact .inr ⟨List.mem_cons_of_mem _ h1, Nat.le_of_succ_le h2, h3⟩
  ·rename_i hk
   rw [if_neg hk]
   rcases cells_mem hm with hm | ⟨h1, h2, h3⟩
   ·exact .inl hm
   ·exact .inr ⟨List.mem_cons_of_mem _ h1, h2, h3⟩
theorem cells_acc : ∀ {names : List (Str × NameKind)} {n : Nat} {acc : List (Str × Addr)} {p : Str × Addr}, p ∈ acc → p ∈ cellsFrom n names acc
 | [], _, _, _, h => h
 | (m, k) :: r, n, acc, p, h => by
  unfold cellsFrom
  split
  ·exact cells_acc (List.mem_cons_of_mem _ h)
  ·exact cells_acc h
theorem cells_has : ∀ {names : List (Str × NameKind)} {n : Nat} {acc : List (Str × Addr)} {x : Str}, (x, .cell) ∈ names → ∃ c, (x, c) ∈ cellsFrom n names acc
 | (m, k) :: r, n, acc, x, h => by
  unfold cellsFrom
  rcases List.mem_cons.mp h with e | h
  ·cases e
   exact ⟨n, cells_acc List.mem_cons_self⟩
  ·split
   ·exact cells_has h
   ·exact cells_has h
theorem cells_inj : ∀ {names : List (Str × NameKind)} {h : Heap} {acc : List (Str × Addr)} {x y : Str} {c : Addr}, (∀ p ∈ acc, p.2 < h.objs.size) → (∀ x y c, (x, c) ∈ acc → (y, c) ∈ acc → x = y) →
  (x, c) ∈ cellsFrom h.objs.size names acc → (y, c) ∈ cellsFrom h.objs.size names acc → x = y
 | [], _, _, _, _, _, _, hi, h1, h2 => hi _ _ _ h1 h2
 | (n, k) :: r, h, acc, x, y, c, hl, hi, h1, h2 => by
  unfold cellsFrom at h1 h2
  split at h1
  ·rename_i hk
   rw [if_pos hk] at h2
   rw [← Heap.size_push h { cls := .type "cell", data := .cell none }] at h1 h2
   refine cells_inj (h := h.push _) (fun p hp => ?_) (fun x y c a b => ?_) h1 h2
   ·rw [Heap.size_push]
    rcases List.mem_cons.mp hp with rfl | hp
    ·exact Nat.lt_succ_self _
    ·exact Nat.lt_succ_of_lt (hl p hp)
   ·rcases List.mem_cons.mp a with e | a <;> rcases List.mem_cons.mp b with e' | b
    ·cases e; cases e'; rfl
    ·cases e; exact absurd (hl _ b) (Nat.lt_irrefl _)
    ·cases e'; exact absurd (hl _ a) (Nat.lt_irrefl _)
    ·exact hi _ _ _ a b
  ·rename_i hk
   rw [if_neg hk] at h2
   exact cells_inj hl hi h1 h2
theorem newEnv_comp {M : Model} {A : Around} {E : Value → Shared → Prop} {s : Shared} {scope : Scope} {globals : Addr} {closure : List (Str × Addr)} {qual : Str} {func : Option Addr} {code : Value} {around : Env} {builtins : Addr} {Q : Env → Shared → Prop}
  (h : Q (newEnv scope s.heap.objs.size globals (cellsFrom (s.heap.objs.size + 1) scope.names closure) qual func code (some around) builtins)
   { s with heap := pushCells (s.heap.push { cls := .type "dict", data := .dict #[] }) scope.names }) :
  wpAny M A (newFunctionEnv scope globals closure [] qual func code (some around) builtins) Q E s := by
 simp only [newFunctionEnv, Option.isSome_some, if_true]
 refine wpAny_bind (wpAny_alloc ?_)
 refine wpAny_bind (wpAny_layCells _ (fun n k c => rfl) scope.names closure _ _ ?_)
 rw [show ({ s with heap := s.heap.push { cls := .type "dict", data := .dict #[] } } : Shared).heap.objs.size = s.heap.objs.size + 1 from Heap.size_push ..]
 rw [List.forIn_nil]
 exact wpAny_bind (wpAny_pure (wpAny_pure h))
theorem lookup_relS {sc : Scope} : ∀ {names : List (Str × NameKind)} {x : Str} {k : NameKind},
  (names.map fun (n, k) => if (k == NameKind.free && sc.kind == .function && sc.names.lookup n == some .cell) then (n, NameKind.cell) else (n, k)).lookup x = some k →
  ∃ k', names.lookup x = some k' ∧ (k = k' ∨ (k' = .free ∧ k = .cell))
 | [], _, _, h => by simp at h
 | (n, k₀) :: r, x, k, h => by
  have ih := @lookup_relS sc r x k
  have h' : List.lookup x ((if (k₀ == NameKind.free && sc.kind == .function && sc.names.lookup n == some .cell) = true then (n, NameKind.cell) else (n, k₀)) :: (r.map _)) = some k := h
  cases hx : x == n with
  | true =>
   simp only [List.lookup_cons, hx]
   by_cases hc : (k₀ == NameKind.free && sc.kind == .function && sc.names.lookup n == some .cell) = true
   ·rw [if_pos hc] at h'
    simp only [List.lookup_cons, hx] at h'
    cases h'
    simp only [Bool.and_eq_true, beq_iff_eq] at hc
    exact ⟨k₀, rfl, .inr ⟨hc.1.1, rfl⟩⟩
   ·rw [if_neg hc] at h'
    simp only [List.lookup_cons, hx] at h'
    cases h'
    exact ⟨_, rfl, .inl rfl⟩
  | false =>
   simp only [List.lookup_cons, hx]
   by_cases hc : (k₀ == NameKind.free && sc.kind == .function && sc.names.lookup n == some .cell) = true
   ·rw [if_pos hc] at h'
    simp only [List.lookup_cons, hx] at h'
    exact ih h'
   ·rw [if_neg hc] at h'
    simp only [List.lookup_cons, hx] at h'
    exact ih h'
structure BlkOk (N : List Str) (sc scope : Scope) (own : List (Str × Nat)) : Prop where
 kind : scope.kind = .function
 uniq : ∀ y ∈ scope.names, scope.names.lookup y.1 = some y.2
 ix : ∀ p ∈ own, N[p.2]? = some p.1
 free : ∀ y ∈ scope.names, y.2 = .free → sc.names.lookup y.1 = some .cell ∨ sc.names.lookup y.1 = some .free
 own : ∀ y ∈ scope.names, y.2 = .local ∨ y.2 = .cell → y.1 ∈ own.map (·.1) ∨ y.1 ∉ N
def wipe (σ : St) : List Nat → St
 | [] => σ
 | v :: vs => (wipe σ vs).set v none
theorem wipe_length (σ : St) : ∀ vs : List Nat, (wipe σ vs).length = σ.length
 | [] => rfl
 | v :: vs => by unfold wipe; rw [List.length_set, wipe_length σ vs]
theorem wipe_some {σ : St} {i : Nat} {x : V} : ∀ {vs : List Nat}, (wipe σ vs)[i]? = some (some x) → σ[i]? = some (some x) ∧ i ∉ vs
 | [], h => ⟨h, by simp⟩
 | v :: vs, h => by
  unfold wipe at h
  by_cases hi : v = i
  ·subst hi
   by_cases hv : v < (wipe σ vs).length
   ·rw [List.getElem?_set_self hv] at h; cases h
   ·rw [List.getElem?_eq_none (by simpa using hv)] at h; cases h
  ·rw [List.getElem?_set_ne hi] at h
   obtain ⟨h1, h2⟩ := wipe_some h
   exact ⟨h1, by simp only [List.mem_cons, not_or]; exact ⟨fun e => hi e.symm, h2⟩⟩
abbrev Cx.blk (X : Cx) (s : Shared) (H : Hp) (scope : Scope) (cenv : Env) (fp : List Addr) : Cx := { X with s_0 := s, H_0 := H, env := cenv, outer := X.stack, ex := fp, fn := fun x => scope.names.lookup x == some .cell, pn := [], xe := fun _ _ => False }
section
variable {X : Cx} {pins : List (Addr × Obj)} {σ : St} {H : Hp} {s : Shared}
theorem block_start {scope : Scope} {own : List (Str × Nat)} {fp : List Addr} (I : Inv X pins σ H s) (ok : BlkOk X.N X.env.scope scope own) (hN : X.N.Nodup) (hfp : ∀ b ∈ fp, FpOk X pins H b ∧ b < s.heap.objs.size) :
  Inv (X.blk s H scope (compEnvC scope (cellsFrom (s.heap.objs.size + 1) scope.names (cloFrom X.env.cells scope.names [])) s.heap.objs.size X.env) fp) [] (wipe σ (own.map (·.2))) H { s with heap := pushCells (s.heap.push { cls := .type "dict", data := .dict #[] }) scope.names } := by
 have hfree : ∀ y ∈ scope.names, y.2 = .free → ∃ c, X.env.cells.lookup y.1 = some c := fun y hy e => by
  rcases ok.free y hy e with k | k
  ·exact I.ok.has _ (.inl k)
  ·exact I.ok.has _ (.inr k)
 generalize hcenv : compEnvC scope (cellsFrom (s.heap.objs.size + 1) scope.names (cloFrom X.env.cells scope.names [])) s.heap.objs.size X.env = cenv
 have kp : ∀ b o, s.heap.get? b = some o → (pushCells (s.heap.push { cls := .type "dict", data := .dict #[] }) scope.names).get? b = some o := fun b o e => pushCells_keeps _ _ _ _ (Heap.get?_push_of_some _ e)
 have hL : cenv.locals = s.heap.objs.size := by rw [← hcenv]; rfl
 have hcl : cenv.cells = cellsFrom (s.heap.objs.size + 1) scope.names (cloFrom X.env.cells scope.names []) := by rw [← hcenv]; rfl
 have hsc : cenv.scope = relS scope X.env.scope := by rw [← hcenv]; rfl
 rw [← Heap.size_push s.heap { cls := .type "dict", data := .dict #[] }] at hcl
 have cm : ∀ {y c}, (y, c) ∈ cloFrom X.env.cells scope.names [] → X.env.cells.lookup y = some c ∧ c < s.heap.objs.size := fun {y c} hm => by
  rcases cloFrom_mem hm with hm | ⟨h1, rfl⟩
  ·cases hm
  ·obtain ⟨c, hc⟩ := hfree _ h1 rfl
   rw [hc]
   obtain ⟨w, z⟩ := I.cell _ _ hc
   exact ⟨rfl, z.lt⟩
 have mem : ∀ {y c}, cenv.cells.lookup y = some c → (X.env.cells.lookup y = some c ∧ c < s.heap.objs.size) ∨ (s.heap.objs.size + 1 ≤ c ∧ CellAt (pushCells (s.heap.push { cls := .type "dict", data := .dict #[] }) scope.names) c none) := fun {y c} e => by
  rw [hcl] at e
  rcases cells_mem (PySem.mem_of_lookup e) with hm | ⟨_, h2, h3⟩
  ·exact .inl (cm hm)
  ·rw [Heap.size_push] at h2; exact .inr ⟨h2, h3⟩
 have look : ∀ {y}, scope.names.lookup y = some .free → ∃ c, cenv.cells.lookup y = some c ∧ X.env.cells.lookup y = some c := fun {y} hl => by
  have hy : (y, NameKind.free) ∈ scope.names := PySem.mem_of_lookup hl
  obtain ⟨c', e'⟩ := mem_lookup (cells_acc (names := scope.names) (n := (s.heap.push { cls := .type "dict", data := .dict #[] }).objs.size) (cloFrom_has (cells := X.env.cells) (acc := []) hy))
  rw [← hcl] at e'
  refine ⟨c', e', ?_⟩
  rw [hcl] at e'
  rcases cells_mem (PySem.mem_of_lookup e') with hm | ⟨h1, _, _⟩
  ·exact (cm hm).1
  ·have := ok.uniq _ h1
   rw [hl] at this; cases this
 have okB : (X.blk s H scope cenv fp).Ok := by
  refine ⟨I.ok.mod, by show cenv.scope.kind = _; rw [hsc]; exact ok.kind, by show cenv.globals = _; rw [← hcenv]; exact I.ok.glob, by show cenv.builtins = _; rw [← hcenv]; exact I.ok.blt, by show s.heap.objs.size ≤ cenv.locals; rw [hL]; exact Nat.le_refl _,
   fun y z c e1 e2 => ?_, fun y hy => ?_, fun y c z e => ?_, I.ok.hd, I.ok.frames, .inl rfl, fun b hb => ⟨?_, fun y c e z => ?_⟩, I.bs, Nat.le_trans I.ok.bsz I.sz, fun b o e hb => ?_, fun b hb z => ?_, I.stack, I.stkFree⟩
  ·have e1 : cenv.cells.lookup y = some c := e1
   have e2 : cenv.cells.lookup z = some c := e2
   rw [hcl] at e1 e2
   refine cells_inj (fun p hp => ?_) (fun y z c a b => I.ok.inj y z c (cm a).1 (cm b).1) (PySem.mem_of_lookup e1) (PySem.mem_of_lookup e2)
   rw [Heap.size_push]
   exact Nat.lt_succ_of_lt (cm (y := p.1) (c := p.2) hp).2
  ·show ∃ c, cenv.cells.lookup y = some c
   have key : ∀ k, cenv.kindOf y = some k → (k = .cell ∨ k = .free) → ∃ c, cenv.cells.lookup y = some c := fun k hk hk' => by
    unfold Env.kindOf at hk
    rw [hsc] at hk
    obtain ⟨k', e, r⟩ := lookup_relS hk
    have : k' = .cell ∨ k' = .free := by
     rcases r with rfl | ⟨rfl, _⟩
     ·exact hk'
     ·exact .inr rfl
    rcases this with rfl | rfl
    ·obtain ⟨c, hm⟩ := cells_has (n := (s.heap.push { cls := .type "dict", data := .dict #[] }).objs.size) (acc := cloFrom X.env.cells scope.names []) (PySem.mem_of_lookup e)
     obtain ⟨c', e'⟩ := mem_lookup hm
     exact ⟨c', by rw [hcl]; exact e'⟩
    ·obtain ⟨c, h1, _⟩ := look e
     exact ⟨c, h1⟩
   rcases hy with hy | hy
   ·exact key _ hy (.inl rfl)
   ·exact key _ hy (.inr rfl)
  ·have z : (scope.names.lookup y == some NameKind.cell) = true := z
   have z : scope.names.lookup y = some .cell := by simpa using z
   have e : cenv.cells.lookup y = some c := e
   rw [hcl] at e
   rcases cells_mem (PySem.mem_of_lookup e) with hm | ⟨_, h2, _⟩
   ·rcases cloFrom_mem hm with hm | ⟨h1, _⟩
    ·cases hm
    ·have q := ok.uniq _ h1
     rw [z] at q; cases q
   ·rw [Heap.size_push] at h2
    exact Nat.le_of_succ_le h2
  ·show b ≠ cenv.locals
   rw [hL]; exact Nat.ne_of_lt (hfp b hb).2
  ·have e : cenv.cells.lookup y = some c := e
   rcases mem e with ⟨h1, _⟩ | ⟨h1, _⟩
   ·exact (hfp b hb).1.2.2.2.2.1 y c h1 z
   ·have h2 : s.heap.objs.size + 1 ≤ b := by rw [← z]; exact h1
    exact absurd (Nat.lt_of_lt_of_le (hfp b hb).2 (Nat.le_of_succ_le h2)) (Nat.lt_irrefl _)
  ·rcases (hfp b hb).1.2.2.2.1 with z | z
   ·exact I.ok.noex b o e z
   ·exact absurd (Nat.lt_of_lt_of_le (Heap.lt_size e) (Nat.le_trans I.ok.bsz z)) (Nat.lt_irrefl _)
  ·rcases List.mem_cons.mp (I.stkSub b z) with z | z
   ·exact (hfp b hb).1.2.1 z
   ·exact (hfp b hb).1.2.2.1 z
 refine ⟨okB, rfl, I.bare, Un.kept kp, ⟨fun _ => none, ?_, fun i y av e1 e2 e3 => ?_⟩, fun y c e => ?_, ?_, fun y c e => ?_, fun p hp => ?_, I.hok.kept kp, by rw [wipe_length]; exact I.len⟩
 ·show Heap.Ns _ cenv.locals _
  rw [hL]
  exact Heap.Ns.keeps (Heap.Ns.new ..) fun b o e => pushCells_keeps _ _ _ _ e
 ·obtain ⟨e2, hne⟩ := wipe_some e2
  have hfr : scope.names.lookup y = some .free ∧ (cenv.kindOf y = some .cell ∨ cenv.kindOf y = some .free) := by
   have key : ∀ k, cenv.scope.names.lookup y = some k → k = .local ∨ k = .cell ∨ k = .free → scope.names.lookup y = some .free ∧ (cenv.kindOf y = some .cell ∨ cenv.kindOf y = some .free) := fun k hk hk' => by
    have hk0 := hk
    rw [hsc] at hk
    obtain ⟨k', e, r⟩ := lookup_relS hk
    have no : ¬ (k' = .local ∨ k' = .cell) := fun hh => by
     rcases ok.own _ (PySem.mem_of_lookup e) hh with e' | e'
     ·obtain ⟨p, hp, hpy⟩ := List.mem_map.mp e'
      have e3 := ok.ix p hp
      have : p.1 = y := hpy
      rw [this] at e3
      exact hne (List.mem_map.mpr ⟨p, hp, nodup_ix hN e3 e1⟩)
     ·exact e' (List.mem_of_getElem? e1)
    rcases r with rfl | ⟨rfl, rfl⟩
    ·rcases hk' with rfl | rfl | rfl
     ·exact absurd (.inl rfl) no
     ·exact absurd (.inr rfl) no
     ·exact ⟨e, .inr hk0⟩
    ·exact ⟨e, .inl hk0⟩
   have e3 : Vis cenv.scope y := e3
   rcases e3 with e3 | e3 | e3
   ·exact key _ e3 (.inl rfl)
   ·exact key _ e3 (.inr (.inl rfl))
   ·exact key _ e3 (.inr (.inr rfl))
  obtain ⟨m, hn, hl⟩ := I.loc
  have hvis : Vis X.env.scope y := (ok.free _ (PySem.mem_of_lookup hfr.1) rfl).elim (fun k => .inr (.inl k)) (fun k => .inr (.inr k))
  obtain ⟨w, r, q⟩ := hl i y av e1 e2 hvis
  refine ⟨w, r, .inr ⟨hfr.2, ?_⟩⟩
  obtain ⟨c, h1, h2⟩ := look hfr.1
  rcases q with ⟨k, _⟩ | ⟨_, c', e', z⟩
  ·have k : X.env.scope.names.lookup y = some .local := k
   rcases ok.free _ (PySem.mem_of_lookup hfr.1) rfl with k' | k' <;> rw [show X.env.scope.names.lookup y = _ from k'] at k <;> cases k
  ·rw [h2] at e'; cases e'
   exact ⟨c, h1, z.keeps kp⟩
 ·have e : cenv.cells.lookup y = some c := e
  rcases mem e with ⟨h1, _⟩ | ⟨_, z⟩
  ·obtain ⟨w, z⟩ := I.cell y c h1
   exact ⟨w, z.keeps kp⟩
  ·exact ⟨_, z⟩
 ·show H cenv.locals = none
  rw [hL]; exact I.hok.fresh (Nat.le_refl _)
 ·have e : cenv.cells.lookup y = some c := e
  rcases mem e with ⟨h1, _⟩ | ⟨h1, _⟩
  ·exact I.freeC y c h1
  ·exact I.hok.fresh (Nat.le_of_succ_le h1)
 ·exact absurd (show p ∈ ([] : List (Addr × Obj)) ++ [] from hp) (by simp)
theorem app_ok {E : Value → Shared → Prop} {D : Addr} {xs : List V} {y : V} {v : Value} {Q : Value → Shared → Prop} (I : Inv X pins σ H s) (hD : H D = some (.lst xs)) (hz : xs.length < sizeLine) (r : RelV y v)
  (h : ∀ s', Inv X pins σ (upd H D (.lst (xs ++ [y]))) s' → Q .none s') : wpAny (model X.prog X.w) X.A (call (.builtin "list.append") [.ref D, v]) Q E s := by
 obtain ⟨hz', its, n, ri, e⟩ := I.hok D _ hD
 have hl := ri.length
 refine append_at (hsz := by rw [List.size_toArray]; omega) e fun h' sb ho' => ?_
 refine h { s with heap := h' } (I.write (t' := s.toks) (by rw [hD]; trivial) (.inl rfl) (fun b u hb q => (sb.2 b hb).trans q) ⟨_, ho'⟩ ⟨by rw [List.length_append]; exact hz, its ++ [v], n + 1, ri.append (.cons r .nil), ?_⟩)
 rw [ho']
 simp
def PTs (X : Cx) (ifs : List Expr) (t : TT) : Prop :=
 ∀ (pins : List (Addr × Obj)) (s : Shared) (σ : St) (H : Hp) (Q : Bool → Hp → Prop), Inv X pins σ H s → t σ H Q →
  wpAny (model X.prog X.w) X.A (forIn ifs true fun c r => if r = true then do let ok ← isTrue c X.env (eval c X.env); pure (ForInStep.yield ok) else pure (ForInStep.yield r)) (TP X pins σ Q) X.xe s
def tYes : TT := fun _ H Q => Q true H
theorem pts_nil : PTs X [] tYes := fun _ _ _ H _ I h => wpAny_tests_nil ⟨H, I, h⟩
theorem pts_one {c : Expr} {t : TT} (h : PT X c t) : PTs X [c] t := fun pins s σ H Q I hw => wpAny_tests_one (h pins s σ H Q I hw)
end
theorem thnF {α : Type} {t : Sem α} {Q Q' : α → Shared → Prop} {M : Model} {A : Around} {E : Value → Shared → Prop} {s : Shared} (h : wpAny M A t Q (fun _ _ => False) s) (hQ : ∀ a s, Q a s → Q' a s) : wpAny M A t Q' E s := wpAny_mono h hQ fun _ _ z => False.elim z
theorem compLoop_any {prog : Program} {w : World} {A : Around} {R : Result → Shared → Prop} {s : Shared} {elt target iter : Expr} {ifs : List Expr} {scope : Scope} {pos : Pos} {it acc : Value} {env : Env} (I : Nat → Shared → Prop)
  (turn : ∀ n s, I n s → wpAny (model prog w) A (pyNext it) (fun r s₁ => match r with
   | none => R (.ok .next) s₁
   | some v => wpAny (model prog w) A (letOwnedTupleGo target it v) (fun _ s₁' => wpAny (model prog w) A (assign target env v) (fun _ s₂ =>
     wpAny (model prog w) A (forIn ifs true fun c r => if r = true then do let ok ← isTrue c env (eval c env); pure (ForInStep.yield ok) else pure (ForInStep.yield r)) (fun ok s₃ =>
      if ok = true then wpAny (model prog w) A (eval elt env) (fun x s₄ =>
       wpAny (model prog w) A (call (.builtin "list.append") [acc, x]) (fun _ s₅ => ∃ m, m < n ∧ I m s₅) (notedBy (model prog w) A env fun e s' => R (.error e) s') s₄) (notedBy (model prog w) A env fun e s' => R (.error e) s') s₃
      else ∃ m, m < n ∧ I m s₃) (notedBy (model prog w) A env fun e s' => R (.error e) s') s₂) (notedBy (model prog w) A env fun e s' => R (.error e) s') s₁') (notedBy (model prog w) A env fun e s' => R (.error e) s') s₁) (notedBy (model prog w) A env fun e s' => R (.error e) s') s)
  (n : Nat) (h : I n s) :
  codeAny (model prog w) A (.compLoop (.ListComp elt [⟨target, iter, ifs, 0⟩] scope pos) 0 it acc env) R s := by
 refine codeAny_loop rfl I (fun n s hI => ?_) n h
 show wpAny _ A ((compTurn (.ListComp elt [⟨target, iter, ifs, 0⟩] scope pos) 0 it acc env).onRaise (fun x => do noteFrame x env; theTreesLotGoes x)) _ _ s
 refine wpAny_noted ?_
 rw [compTurn_list]
 refine wpAny_bind (wpAny_standAt (wpAny_bind (wpAny_mono (turn n s hI) (fun r s₁ h₁ => ?_) fun _ _ h' => h')))
 cases r with
 | none => exact wpAny_pure h₁
 | some v =>
  refine wpAny_bind (wpAny_mono h₁ (fun _ s₁' h₁' => ?_) fun _ _ h' => h')
  refine wpAny_bind (wpAny_mono h₁' (fun _ s₂ h₂ => wpAny_bind (wpAny_mono h₂ (fun ok s₃ h₃ => ?_) fun _ _ h' => h')) fun _ _ h' => h')
  cases ok with
  | false => exact wpAny_pure ⟨rfl, h₃⟩
  | true =>
   exact wpAny_bind (wpAny_bind (wpAny_mono h₃ (fun x s₄ h₄ => wpAny_bind (wpAny_mono h₄ (fun _ s₅ h₅ => wpAny_pure (wpAny_pure ⟨rfl, h₅⟩)) fun _ _ h' => h')) fun _ _ h' => h'))
section
variable {X : Cx}
def tLc (wi : TI) (g : TG) (tt : TT) (te : TE) (vs : List Nat) : TE := fun σ H Q => wi σ H fun J H1 => ∀ D, H1 D = none → ∃ W : Nat → Nat → Hp → Prop, (∃ m, W 0 m (upd H1 D (.lst []))) ∧ ∀ i m H, W i m H →
 (J.stop i H ∧ Q (.ref D) H) ∨ (J.go i H ∧ ∃ Nx : Hp → Prop, (∀ H', Nx H' → ∃ m', m' < m ∧ W (i + 1) m' H') ∧ ∀ x H', J.yld i H x H' → g x (wipe σ vs) H' fun σ2 H2 => wipe σ2 vs = wipe σ vs ∧ tt σ2 H2 fun b H3 =>
  if b = true then te σ2 H3 fun y H4 => ∃ acc, H4 D = some (.lst acc) ∧ acc.length < sizeLine ∧ Nx (upd H4 D (.lst (acc ++ [y]))) else Nx H3)
theorem lc_core {pins : List (Addr × Obj)} {s : Shared} {σ : St} {H : Hp} {Q : VK} {elt tg iter : Expr} {ifs : List Expr} {scope : Scope} {own : List (Str × Nat)} {pos pos' : Pos} {wi : TI} {g : TG} {tt : TT} {te : TE} {use : Option (Value → Sem Unit)} {Qf : Value → Shared → Prop}
  (hc : X.calm = true) (hN : X.N.Nodup) (I : Inv X pins σ H s) (hi : PI X tg iter wi) (ok : BlkOk X.N X.env.scope scope own)
  (hg : ∀ (s : Shared) (H : Hp) (C : Addr) (cl : List (Str × Addr)) (fp : List Addr), PG (X.blk s H scope (compEnvC scope cl C X.env) fp) tg g) (ht : ∀ (s : Shared) (H : Hp) (C : Addr) (cl : List (Str × Addr)) (fp : List Addr), PTs (X.blk s H scope (compEnvC scope cl C X.env) fp) ifs tt)
  (he : ∀ (s : Shared) (H : Hp) (C : Addr) (cl : List (Str × Addr)) (fp : List Addr), PE (X.blk s H scope (compEnvC scope cl C X.env) fp) elt te) (hs : ∀ x, foldedSetIterable iter X.env x = pure x)
  (h : tLc wi g tt te (own.map (·.2)) σ H Q)
  (hRR : ∀ D C s' m H', Inv X pins σ H' s' → Q (.ref D) H' → s'.heap.Ns C m → FpOk X pins H' C → compPost (model X.prog X.w) X.A X.xe use Qf (.ref D) C (.ok .next) s') :
  wpAny (model X.prog X.w) X.A (comprehension (.ListComp elt [⟨tg, iter, ifs, 0⟩] scope pos) scope X.env pos' (newList []) false (eval iter X.env) use) Qf X.xe s := by
 have hfree : ∀ y ∈ scope.names, y.2 = .free → ∃ c, X.env.cells.lookup y.1 = some c := fun y hy e => by
  rcases ok.free y hy e with k | k
  ·exact I.ok.has _ (.inl k)
  ·exact I.ok.has _ (.inr k)
 refine wpAny_comprehension_free (use := use) rfl hs (closure_ok hfree) ok.kind (fun y hy e => by rw [ok.uniq y hy, e])
  (thn (hi pins s σ H _ I h) fun xv s1 hx => thn hx fun itv s2 h2 => ?_)
 obtain ⟨it, fp, tn, J, H2, e, I2, T, st2, f2, q⟩ := h2
 subst e
 refine wpAny_newObj_type (newEnv_comp ?_) (by show 0 ≤ sizeLine; decide)
 generalize hD : s2.heap.objs.size = D
 have hDn : H2 D = none := I2.hok.fresh (Nat.le_of_eq hD)
 obtain ⟨W, ⟨m0, w0⟩, turn⟩ := q D hDn
 generalize hs3 : ({ s2 with heap := s2.heap.push { cls := .type "list", data := .seq ([] : List Value).toArray } } : Shared) = s3
 have I3 : Inv X pins σ (upd H2 D (.lst [])) s3 := by
  rw [← hs3]
  refine I2.laid (t' := s2.toks) (fun b o e => Heap.get?_push_of_some _ e) (Nat.le_of_eq hD) ⟨Nat.zero_le _, [], 0, .nil, ?_⟩
  rw [← hD]
  exact Heap.get?_push_size _ rfl
 have h3 : s3.heap = s2.heap.push { cls := .type "list", data := .seq ([] : List Value).toArray } := by rw [← hs3]
 have sz : ∀ b ∈ fp, b < s2.heap.objs.size := fun b hb => by
  obtain ⟨o, e, _⟩ := T.obj _ _ st2 b hb
  exact Heap.lt_size e
 have f3 : ∀ b ∈ fp, FpOk X pins (upd H2 D (.lst [])) b ∧ b < s3.heap.objs.size := fun b hb => by
  have hlt := sz b hb
  refine ⟨⟨?_, (f2 b hb).2⟩, by rw [h3, Heap.size_push]; exact Nat.lt_succ_of_lt hlt⟩
  rw [upd_ne (by rw [← hD]; exact Nat.ne_of_lt hlt)]
  exact (f2 b hb).1
 have st3 : tn 0 s3.heap := T.keep _ _ _ st2 fun b _ o e => by rw [h3]; exact Heap.get?_push_of_some _ e
 have I4 := block_start I3 ok hN f3
 have pg := hg s3 (upd H2 D (.lst [])) s3.heap.objs.size (cellsFrom (s3.heap.objs.size + 1) scope.names (cloFrom X.env.cells scope.names [])) fp
 have pt := ht s3 (upd H2 D (.lst [])) s3.heap.objs.size (cellsFrom (s3.heap.objs.size + 1) scope.names (cloFrom X.env.cells scope.names [])) fp
 have pe := he s3 (upd H2 D (.lst [])) s3.heap.objs.size (cellsFrom (s3.heap.objs.size + 1) scope.names (cloFrom X.env.cells scope.names [])) fp
 show codeAny _ _ (.compStart (.ListComp elt [⟨tg, iter, ifs, 0⟩] scope pos) 0 (.ref it) (.ref D) (compEnvC scope (cellsFrom (s3.heap.objs.size + 1) scope.names (cloFrom X.env.cells scope.names [])) s3.heap.objs.size X.env)) (compPost (model X.prog X.w) X.A X.xe use Qf (.ref D) s3.heap.objs.size) { s3 with heap := pushCells (s3.heap.push { cls := .type "dict", data := .dict #[] }) scope.names }
 have nfp : ∀ b ∈ fp, (upd H2 D (.lst [])) b = none := fun b hb => (f3 b hb).1.1
 generalize hce : compEnvC scope (cellsFrom (s3.heap.objs.size + 1) scope.names (cloFrom X.env.cells scope.names [])) s3.heap.objs.size X.env = ce at I4 pg pt pe ⊢
 have cL : ce.locals = s3.heap.objs.size := by subst hce; rfl
 generalize hH3 : upd H2 D (.lst []) = H3 at I3 I4 pg pt pe w0 nfp f3
 generalize hs4 : ({ s3 with heap := pushCells (s3.heap.push { cls := .type "dict", data := .dict #[] }) scope.names } : Shared) = s4 at I4 ⊢
 have st4 : tn 0 s4.heap := T.keep _ _ _ st3 fun b _ o e => by rw [← hs4]; exact pushCells_keeps _ _ _ _ (Heap.get?_push_of_some _ e)
 have stat : ∀ {σ' : St} {H' : Hp} {s' : Shared}, Inv (X.blk s3 H3 scope ce fp) [] σ' H' s' → (∀ b ∈ fp, H' b = none) → ∀ b ∈ fp, FpOk (X.blk s3 H3 scope ce fp) [] H' b := fun {σ' H' s'} I' hn b hb =>
  ⟨hn b hb, (I'.ok.exf b hb).1, I'.ok.exfs b hb, .inl hb, fun x c e => (I'.ok.exf b hb).2 x c e, fun p hp => absurd (show p ∈ ([] : List (Addr × Obj)) ++ [] from hp) (by simp)⟩
 have loop : codeAny (model X.prog X.w) X.A (.compLoop (.ListComp elt [⟨tg, iter, ifs, 0⟩] scope pos) 0 (.ref it) (.ref D) ce) (compPost (model X.prog X.w) X.A X.xe use Qf (.ref D) s3.heap.objs.size) s4 := by
  refine compLoop_any (fun n s' => ∃ i H', Inv (X.blk s3 H3 scope ce fp) [] (wipe σ (own.map (·.2))) H' s' ∧ tn i s'.heap ∧ (∀ b ∈ fp, H' b = none) ∧ W i n H') ?_ m0 ⟨0, H3, I4, st4, nfp, w0⟩
  rintro n s5 ⟨i, H5, I5, st5, n5, w5⟩
  rcases turn i n H5 w5 with ⟨stop, qq⟩ | ⟨go, Nx, hNx, step⟩
  ·have td := T.done (X.blk s3 H3 scope ce fp) rfl rfl rfl hc i [] s5 _ H5 (fun _ _ => False) I5 (stat I5 n5) st5 stop
   refine thnF td fun r s6 ⟨hr, I6⟩ => ?_
   subst hr
   have I7 : Inv X pins σ H5 s6 := I3.call' (ch := fp) I6.os I6.base I6.hok I6.bare fun b hb => ⟨(f3 b hb).1.2.2.2.1, (f3 b hb).1.2.1, (f3 b hb).1.2.2.2.2.1, (f3 b hb).1.2.2.2.2.2⟩
   have nC : H5 s3.heap.objs.size = none := by
    have z : H5 ce.locals = none := I6.free
    rw [cL] at z
    exact z
   obtain ⟨m, hn, _⟩ := I6.loc
   have hn : s6.heap.Ns ce.locals m := hn
   rw [cL] at hn
   exact hRR D s3.heap.objs.size s6 m H5 I7 qq hn (I3.fpOk (Nat.le_refl _) nC)
  ·have ti := T.item (X.blk s3 H3 scope ce fp) rfl rfl rfl hc i [] s5 _ H5 (fun _ _ => False) I5 (stat I5 n5) st5 go
   refine thnF ti fun r s6 ⟨u, hr, h6⟩ => ?_
   subst hr
   refine thnF h6 fun _ s7 ⟨x, H7, I7, r7, y7, st7, n7⟩ => ?_
   have I7' := I7.pinned (stat I7 n7) (T.obj _ _ st7)
   refine thnF (pg _ s7 _ H7 x u _ I7' r7 (step x H7 y7)) fun _ s8 ⟨σ8, H8, I8, hw8, q8⟩ => ?_
   refine thnF (pt _ s8 σ8 H8 _ I8 q8) fun b s9 ⟨H9, I9, q9⟩ => ?_
   have fin : ∀ {s' : Shared} {H' : Hp}, Inv (X.blk s3 H3 scope ce fp) ([] ++ pinsAt fp s7.heap) σ8 H' s' → Nx H' → ∃ m, m < n ∧ ∃ i H', Inv (X.blk s3 H3 scope ce fp) [] (wipe σ (own.map (·.2))) H' s' ∧ tn i s'.heap ∧ (∀ b ∈ fp, H' b = none) ∧ W i m H' := fun {s' H'} I' nx => by
    obtain ⟨m', hm, w'⟩ := hNx H' nx
    have pin' : ∀ b ∈ fp, ∀ o, s7.heap.get? b = some o → s'.heap.get? b = some o ∧ H' b = none := fun b hb o e =>
     let z := I'.pin (b, o) (List.mem_append_right _ (List.mem_append_right _ (mem_pinsAt hb e)))
     ⟨z.1, z.2.1⟩
    have hl : (wipe σ (own.map (·.2))).length = σ8.length := by rw [← hw8, wipe_length]
    refine ⟨m', hm, i + 1, H', (I'.unpinned (pins := [])).weak hl (fun j v e => ?_), T.keep _ _ _ st7 fun b hb o e => (pin' b hb o e).1, fun b hb => ?_, w'⟩
    ·rw [← hw8] at e
     exact (wipe_some e).1
    ·obtain ⟨o, e, _⟩ := T.obj _ _ st7 b hb
     exact (pin' b hb o e).2
   cases b with
   | false =>
    simp only [Bool.false_eq_true, if_false] at q9 ⊢
    exact fin I9 q9
   | true =>
    simp only [if_true] at q9 ⊢
    refine thnF (pe _ s9 σ8 H9 _ I9 q9) fun z s10 ⟨yv, H10, I10, r10, acc, hD10, hz10, nx⟩ => ?_
    exact app_ok (X := X.blk s3 H3 scope ce fp) I10 hD10 hz10 r10 fun s11 I11 => fin I11 nx
 exact codeAny_compStart_list loop (T.self X.A 0 _ _ _ st4 loop)
theorem pe_lc {elt tg iter : Expr} {ifs : List Expr} {scope : Scope} {own : List (Str × Nat)} {pos : Pos} {wi : TI} {g : TG} {tt : TT} {te : TE} (hc : X.calm = true) (hN : X.N.Nodup) (hi : PI X tg iter wi) (ok : BlkOk X.N X.env.scope scope own)
  (hg : ∀ (s : Shared) (H : Hp) (C : Addr) (cl : List (Str × Addr)) (fp : List Addr), PG (X.blk s H scope (compEnvC scope cl C X.env) fp) tg g) (ht : ∀ (s : Shared) (H : Hp) (C : Addr) (cl : List (Str × Addr)) (fp : List Addr), PTs (X.blk s H scope (compEnvC scope cl C X.env) fp) ifs tt)
  (he : ∀ (s : Shared) (H : Hp) (C : Addr) (cl : List (Str × Addr)) (fp : List Addr), PE (X.blk s H scope (compEnvC scope cl C X.env) fp) elt te) (hs : ∀ x, foldedSetIterable iter X.env x = pure x := by intro _; rfl) :
  PE X (.ListComp elt [⟨tg, iter, ifs, 0⟩] scope pos) (tLc wi g tt te (own.map (·.2))) := by
 intro pins s σ H Q I h
 rw [eval_ListComp]
 refine lc_core hc hN I hi ok hg ht he hs h fun D C s' m H' I' q hn f => ⟨m, hn, fun h'' sb => ?_⟩
 obtain ⟨f0, f1, f2, f3, f4, f5⟩ := f
 exact ⟨.ref D, H', I'.turned (t' := s'.toks) (fun b o hb e => (sb.2 b hb).trans e) f0 f1 f3 f4 f5, rfl, q⟩
theorem ps_setLc {i : Nat} {y : Str} {py : Pos} {elt tg iter : Expr} {ifs : List Expr} {scope : Scope} {own : List (Str × Nat)} {pos spos : Pos} {wi : TI} {g : TG} {tt : TT} {te : TE} (hc : X.calm = true) (hN : X.N.Nodup) (hy : X.N[i]? = some y) (hyl : X.env.scope.names.lookup y = some .local)
  (hsw : swapsWith (.ListComp elt [⟨tg, iter, ifs, 0⟩] scope pos) (some (.Name y py)) spos.line X.env = pure true) (hi : PI X tg iter wi) (ok : BlkOk X.N X.env.scope scope own)
  (hg : ∀ (s : Shared) (H : Hp) (C : Addr) (cl : List (Str × Addr)) (fp : List Addr), PG (X.blk s H scope (compEnvC scope cl C X.env) fp) tg g) (ht : ∀ (s : Shared) (H : Hp) (C : Addr) (cl : List (Str × Addr)) (fp : List Addr), PTs (X.blk s H scope (compEnvC scope cl C X.env) fp) ifs tt)
  (he : ∀ (s : Shared) (H : Hp) (C : Addr) (cl : List (Str × Addr)) (fp : List Addr), PE (X.blk s H scope (compEnvC scope cl C X.env) fp) elt te) (hs : ∀ x, foldedSetIterable iter X.env x = pure x := by intro _; rfl) :
  PS X (.Assign [.Name y py] (.ListComp elt [⟨tg, iter, ifs, 0⟩] scope pos) spos) (tAsg (tLc wi g tt te (own.map (·.2))) (gName i)) := by
 intro pins s σ H D I h
 rw [exec_Assign_Name_used _ _ _ _ hsw]
 refine wpAny_bind (wpAny_standAt (wpAny_bind ?_))
 show wpAny _ X.A (do let _ ← comprehension (.ListComp elt [⟨tg, iter, ifs, 0⟩] scope pos) scope X.env (firstIterPos [⟨tg, iter, ifs, 0⟩] pos) (newList []) false (eval iter X.env) (some (assign (.Name y py) X.env))) _ _ s
 have h : tLc wi g tt te (own.map (·.2)) σ H (fun x H1 => gName i x σ H1 D.nx) := h
 refine wpAny_bind (thn (lc_core (Qf := fun _ s' => SP X pins D .next s') hc hN I hi ok hg ht he hs h fun L C s' m H' I' q hn f => ?_) fun _ s' hq => wpAny_pure (wpAny_pure hq))
 show wpAny _ _ (assign (.Name y py) X.env (.ref L)) _ _ _
 refine wpAny_assign_Name (store_ok2 (v := V.ref L) I' hN hy (.inl hyl) rfl (fun s2 I2 ⟨a, sb, ha⟩ => ?_) (.inr hyl))
 obtain ⟨f0, f1, f2, f3, f4, f5⟩ := f
 have haC : C ≠ a := by
  rcases ha with z | z
  ·rw [z]; exact f1
  ·exact fun e => f4 y a z e.symm
 refine ⟨m, hn.sameBut sb haC, fun h3 sb3 => ?_⟩
 exact ⟨_, H', I2.turned (t' := s2.toks) (fun b o hb e => (sb3.2 b hb).trans e) f0 f1 f3 f4 f5, q⟩
theorem sw_true {elt : Expr} {gs : List Comprehension} {scope : Scope} {pos py : Pos} {y : Str} {l : Nat} {env : Env} (hk : env.scope.kind = .function) (hy : env.scope.names.lookup y = some .local) (hl : (py.line == pos.line) = true)
  (ha : (scope.names.any fun (n, k) => n == y && (k == .local || k == .cell)) = false) : swapsWith (.ListComp elt gs scope pos) (some (.Name y py)) l env = pure true := by
 have ky : env.kindOf y = some .local := hy
 have hb : env.blockKind = .function := by unfold Env.blockKind; rw [hk]; rfl
 unfold swapsWith
 simp only [hb, ky, ha, Expr.pos, hl]
 rfl
end
theorem lc_range {lo : Int} {n : Nat} {g : TG} {tt : TT} {te : TE} {vs : List Nat} {σ : St} {H1 : Hp} {D : Addr} {Qd : Hp → Prop} (Pv : Nat → Hp → Prop) (h0 : Pv 0 (upd H1 D (.lst [])))
  (hs : ∀ i H, i < n → Pv i H → g (.int (lo + i)) (wipe σ vs) H fun σ2 H2 => wipe σ2 vs = wipe σ vs ∧ tt σ2 H2 fun b H3 =>
   if b = true then te σ2 H3 fun y H4 => ∃ acc, H4 D = some (.lst acc) ∧ acc.length < sizeLine ∧ Pv (i + 1) (upd H4 D (.lst (acc ++ [y]))) else Pv (i + 1) H3) (hd : ∀ H, Pv n H → Qd H) :
  ∃ W : Nat → Nat → Hp → Prop, (∃ m, W 0 m (upd H1 D (.lst []))) ∧ ∀ i m H, W i m H →
   ((Itr lo n).stop i H ∧ Qd H) ∨ ((Itr lo n).go i H ∧ ∃ Nx : Hp → Prop, (∀ H', Nx H' → ∃ m', m' < m ∧ W (i + 1) m' H') ∧ ∀ x H', (Itr lo n).yld i H x H' → g x (wipe σ vs) H' fun σ2 H2 => wipe σ2 vs = wipe σ vs ∧ tt σ2 H2 fun b H3 =>
    if b = true then te σ2 H3 fun y H4 => ∃ acc, H4 D = some (.lst acc) ∧ acc.length < sizeLine ∧ Nx (upd H4 D (.lst (acc ++ [y]))) else Nx H3) := by
 refine ⟨fun i m H => m = n - i ∧ i ≤ n ∧ Pv i H, ⟨n, by simp, Nat.zero_le _, h0⟩, ?_⟩
 rintro i m H ⟨rfl, hi, p⟩
 by_cases hlt : i < n
 ·refine .inr ⟨hlt, Pv (i + 1), fun H' p' => ⟨n - (i + 1), by omega, rfl, hlt, p'⟩, fun x H' y => ?_⟩
  obtain ⟨e, y⟩ := y
  subst e y
  exact hs i _ hlt p
 ·have e : i = n := by omega
  subst e
  exact .inl ⟨Nat.le_refl _, hd H p⟩
theorem lc_list {K : PySem.W.Frag} {a : Addr} {xs : List V} {g : TG} {tt : TT} {te : TE} {vs : List Nat} {σ : St} {H1 : Hp} {D : Addr} {Qd : Hp → Prop} (Pv : Nat → Hp → Prop) (h0 : Pv 0 (upd H1 D (.lst []))) (hl : ∀ i H, i ≤ xs.length → Pv i H → SqL K H a xs)
  (hs : ∀ i x H, xs[i]? = some x → Pv i H → g x (wipe σ vs) H fun σ2 H2 => wipe σ2 vs = wipe σ vs ∧ tt σ2 H2 fun b H3 =>
   if b = true then te σ2 H3 fun y H4 => ∃ acc, H4 D = some (.lst acc) ∧ acc.length < sizeLine ∧ Pv (i + 1) (upd H4 D (.lst (acc ++ [y]))) else Pv (i + 1) H3) (hd : ∀ H, Pv xs.length H → Qd H) :
  ∃ W : Nat → Nat → Hp → Prop, (∃ m, W 0 m (upd H1 D (.lst []))) ∧ ∀ i m H, W i m H →
   ((Itl K a).stop i H ∧ Qd H) ∨ ((Itl K a).go i H ∧ ∃ Nx : Hp → Prop, (∀ H', Nx H' → ∃ m', m' < m ∧ W (i + 1) m' H') ∧ ∀ x H', (Itl K a).yld i H x H' → g x (wipe σ vs) H' fun σ2 H2 => wipe σ2 vs = wipe σ vs ∧ tt σ2 H2 fun b H3 =>
    if b = true then te σ2 H3 fun y H4 => ∃ acc, H4 D = some (.lst acc) ∧ acc.length < sizeLine ∧ Nx (upd H4 D (.lst (acc ++ [y]))) else Nx H3) := by
 refine ⟨fun i m H => m = xs.length - i ∧ i ≤ xs.length ∧ Pv i H, ⟨xs.length, by simp, Nat.zero_le _, h0⟩, ?_⟩
 rintro i m H ⟨rfl, hi, p⟩
 have q := hl i H hi p
 by_cases hlt : i < xs.length
 ·refine .inr ⟨⟨xs, xs[i], q, by simp [hlt]⟩, Pv (i + 1), fun H' p' => ⟨xs.length - (i + 1), by omega, rfl, hlt, p'⟩, fun x H' y => ?_⟩
  obtain ⟨e, y⟩ := y
  subst e
  exact hs i x _ (y xs q) p
 ·have e : i = xs.length := by omega
  subst e
  exact .inl ⟨⟨xs, q, Nat.le_refl _⟩, hd H p⟩
def blkC (N : List Str) (sc scope : Scope) (own : List (Str × Nat)) : Bool :=
 (match scope.kind with | .function => true | _ => false) && (scope.names.all fun y => decide (scope.names.lookup y.1 = some y.2)) && (own.all fun p => decide (N[p.2]? = some p.1)) &&
  (scope.names.all fun y => match y.2 with
   | .free => (match sc.names.lookup y.1 with | some .cell => true | some .free => true | _ => false)
   | .local => decide (y.1 ∈ own.map (·.1)) || decide (y.1 ∉ N)
   | .cell => decide (y.1 ∈ own.map (·.1)) || decide (y.1 ∉ N)
   | _ => true)
theorem blkOk_by {N : List Str} {sc scope : Scope} {own : List (Str × Nat)} (h : blkC N sc scope own = true) : BlkOk N sc scope own := by
 unfold blkC at h
 simp only [Bool.and_eq_true, List.all_eq_true, decide_eq_true_eq] at h
 obtain ⟨⟨⟨h1, h2⟩, h3⟩, h4⟩ := h
 refine ⟨?_, h2, h3, fun y hy e => ?_, fun y hy e => ?_⟩
 ·split at h1
  ·assumption
  ·cases h1
 ·have q := h4 y hy
  simp only [e] at q
  split at q <;> first | exact .inl (by assumption) | exact .inr (by assumption) | cases q
 ·have q := h4 y hy
  rcases e with e | e <;> (simp only [e, Bool.or_eq_true, decide_eq_true_eq] at q; exact q)
end L2
namespace L2
open PySem PySem.Spec PyProof.Rows
section
variable {κ : Type} [DecidableEq κ]
def valV (kvs : List (κ × V)) (k : κ) : Option V := (kvs.find? fun kv => decide (kv.1 = k)).map (·.2)
def putK (kvs : List (κ × V)) (k : κ) (v : V) : List (κ × V) :=
 if (kvs.any fun kv => decide (kv.1 = k)) = true then kvs.map (fun kv => if kv.1 = k then (kv.1, v) else kv) else kvs ++ [(k, v)]
def dropK (kvs : List (κ × V)) (k : κ) : List (κ × V) := kvs.filter fun kv => decide (kv.1 ≠ k)
theorem valV_pos {p : κ × V} {r : List (κ × V)} {k : κ} (e : p.1 = k) : valV (p :: r) k = some p.2 := by simp [valV, List.find?_cons, e]
theorem valV_neg {p : κ × V} {r : List (κ × V)} {k : κ} (e : ¬ p.1 = k) : valV (p :: r) k = valV r k := by simp [valV, List.find?_cons, e]
theorem valV_any (k : κ) : ∀ kvs : List (κ × V), (kvs.any fun kv => decide (kv.1 = k)) = (valV kvs k).isSome
 | [] => rfl
 | p :: r => by
  rw [List.any_cons]
  by_cases e : p.1 = k
  ·simp only [valV_pos e, decide_eq_true e, Bool.true_or, Option.isSome_some]
  ·rw [valV_neg e, decide_eq_false e, Bool.false_or]; exact valV_any k r
theorem length_putK (kvs : List (κ × V)) (k : κ) (v : V) : (putK kvs k v).length ≤ kvs.length + 1 := by
 unfold putK
 split
 ·rw [List.length_map]; omega
 ·rw [List.length_append, List.length_cons, List.length_nil]; omega
theorem putK_new {kvs : List (κ × V)} {k : κ} (v : V) (h : valV kvs k = none) : putK kvs k v = kvs ++ [(k, v)] := by
 unfold putK
 rw [valV_any, h]
 exact if_neg (by decide)
theorem RelO.isSome_eq {o : Option V} {u : Option Value} (r : RelO o u) : o.isSome = u.isSome := by
 cases o with
 | none => cases u with
  | none => rfl
  | some _ => exact (show False from r).elim
 | some _ => cases u with
  | none => exact (show False from r).elim
  | some _ => rfl
theorem RelO.getD {o : Option V} {u : Option Value} {d : V} {d' : Value} (r : RelO o u) (rd : RelV d d') : RelV (o.getD d) (u.getD d') := by
 cases o with
 | none => cases u with
  | none => exact rd
  | some _ => exact (show False from r).elim
 | some _ => cases u with
  | none => exact (show False from r).elim
  | some _ => exact r
theorem KV.val {kvs : List (κ × V)} {vs : List (κ × Value)} (r : KV kvs vs) (k : κ) : RelO (valV kvs k) (valueAt vs k) := by
 unfold KV at r
 induction r with
 | nil => exact True.intro
 | @cons p q ps qs h t ih =>
  obtain ⟨h1, h2⟩ := h
  by_cases e : p.1 = k
  ·have e' : q.1 = k := h1.symm.trans e
   have b : valueAt (q :: qs) k = some q.2 := by simp [valueAt, List.find?_cons, e']
   rw [valV_pos e, b]; exact h2
  ·have e' : ¬ q.1 = k := fun z => e (h1.trans z)
   have b : valueAt (q :: qs) k = valueAt qs k := by simp [valueAt, List.find?_cons, e']
   rw [valV_neg e, b]; exact ih
theorem KV.any {kvs : List (κ × V)} {vs : List (κ × Value)} (r : KV kvs vs) (k : κ) : (kvs.any fun kv => decide (kv.1 = k)) = vs.any fun kv => decide (kv.1 = k) := by
 unfold KV at r
 induction r with
 | nil => rfl
 | cons h t ih => rw [List.any_cons, List.any_cons, ih, h.1]
theorem KV.repl {kvs : List (κ × V)} {vs : List (κ × Value)} (r : KV kvs vs) (k : κ) {y : V} {u : Value} (ry : RelV y u) :
  KV (kvs.map fun kv => if kv.1 = k then (kv.1, y) else kv) (vs.map fun kv => if kv.1 = k then (kv.1, u) else kv) := by
 unfold KV at r ⊢
 induction r with
 | nil => exact .nil
 | @cons p q ps qs h t ih =>
  rw [List.map_cons, List.map_cons]
  refine .cons ?_ ih
  obtain ⟨h1, h2⟩ := h
  by_cases e : p.1 = k
  ·rw [if_pos e, if_pos (h1.symm.trans e)]; exact ⟨h1, ry⟩
  ·rw [if_neg e, if_neg (fun z => e (h1.trans z))]; exact ⟨h1, h2⟩
theorem KV.put {kvs : List (κ × V)} {vs : List (κ × Value)} (r : KV kvs vs) (k : κ) {y : V} {u : Value} (ry : RelV y u) : KV (putK kvs k y) (stored vs k u) := by
 unfold putK stored
 rw [r.any k]
 by_cases e : (vs.any fun kv => decide (kv.1 = k)) = true
 ·rw [if_pos e, if_pos e]; exact r.repl k ry
 ·rw [if_neg e, if_neg e]; exact Paired.snoc r ⟨rfl, ry⟩
theorem KV.drop {kvs : List (κ × V)} {vs : List (κ × Value)} (r : KV kvs vs) (k : κ) : KV (dropK kvs k) (without vs k) := by
 unfold KV at r ⊢
 unfold dropK without
 induction r with
 | nil => exact .nil
 | @cons p q ps qs h t ih =>
  obtain ⟨h1, h2⟩ := h
  rw [List.filter_cons, List.filter_cons]
  by_cases e : p.1 = k
  ·have a : ¬ decide (p.1 ≠ k) = true := by simp [e]
   have b : ¬ decide (q.1 ≠ k) = true := by simp [h1.symm.trans e]
   rw [if_neg a, if_neg b]; exact ih
  ·have e' : ¬ q.1 = k := fun z => e (h1.trans z)
   have a : decide (p.1 ≠ k) = true := by simp [e]
   have b : decide (q.1 ≠ k) = true := by simp [e']
   rw [if_pos a, if_pos b]; exact .cons ⟨h1, h2⟩ ih
theorem KV.length {kvs : List (κ × V)} {vs : List (κ × Value)} (r : KV kvs vs) : kvs.length = vs.length := Paired.length r
end
theorem kV_is {P : Program} {w : World} {k : Key} {u : Value} (r : RelV (kV k) u) : (mixKind P w).is k u = true := by
 cases k with
 | inl i => obtain ⟨t, e⟩ := (show ∃ t, u = Value.int i t from r); subst e; exact mixKind_int P w i t
 | inr x => obtain ⟨t, e⟩ := (show ∃ t, u = Value.str x t from r); subst e; exact mixKind_str P w x t
theorem items_are {P : Program} {w : World} : ∀ {ks : List Key} {us : List Value}, Vals (ks.map kV) us → ItemsAre (mixKind P w) ks us
 | [], _, r => by rw [List.map_nil] at r; cases r; exact .nil
 | k :: ks, _, r => by
  rw [List.map_cons] at r
  cases r with
  | cons h t => exact .cons (kV_is h) (items_are t)
abbrev KT (H : Hp) : List (List Key × V) → List (List Key × Addr × Value) → Prop := Paired fun p q => p.1 = q.1 ∧ H q.2.1 = some (.tup (p.1.map kV)) ∧ RelV p.2 q.2.2
theorem KT.val {H : Hp} {kvs : List (List Key × V)} {xs : List (List Key × Addr × Value)} (r : KT H kvs xs) (k : List Key) : RelO (valV kvs k) ((atKey xs k).map (·.2)) := by
 induction r with
 | nil => exact True.intro
 | @cons p q ps qs h t ih =>
  obtain ⟨h1, _, h2⟩ := h
  by_cases e : p.1 = k
  ·have e' : q.1 = k := h1.symm.trans e
   have b : atKey (q :: qs) k = some q.2 := by simp [atKey, List.find?_cons, e']
   rw [valV_pos e, b]; exact h2
  ·have e' : ¬ q.1 = k := fun z => e (h1.trans z)
   have b : atKey (q :: qs) k = atKey qs k := by simp [atKey, List.find?_cons, e']
   rw [valV_neg e, b]; exact ih
theorem KT.repl {H : Hp} {kvs : List (List Key × V)} {xs : List (List Key × Addr × Value)} (r : KT H kvs xs) (k : List Key) {y : V} {u : Value} (ry : RelV y u) :
  KT H (kvs.map fun kv => if kv.1 = k then (kv.1, y) else kv) (xs.map (putAt k u)) := by
 induction r with
 | nil => exact .nil
 | @cons p q ps qs h t ih =>
  rw [List.map_cons, List.map_cons]
  refine .cons ?_ ih
  obtain ⟨h1, h2, h3⟩ := h
  unfold putAt
  by_cases e : p.1 = k
  ·rw [if_pos e, if_pos (h1.symm.trans e)]; exact ⟨h1, h2, ry⟩
  ·rw [if_neg e, if_neg (fun z => e (h1.trans z))]; exact ⟨h1, h2, h3⟩
theorem KT.put {H : Hp} {kvs : List (List Key × V)} {xs : List (List Key × Addr × Value)} (r : KT H kvs xs) (k : List Key) {b : Addr} {y : V} {u : Value} (hb : H b = some (.tup (k.map kV))) (ry : RelV y u) :
  KT H (putK kvs k y) (storedH xs k b u) := by
 have e : (kvs.any fun kv => decide (kv.1 = k)) = (atKey xs k).isSome := by
  rw [valV_any, (r.val k).isSome_eq, Option.isSome_map]
 unfold putK storedH
 rw [e]
 by_cases q : (atKey xs k).isSome = true
 ·rw [if_pos q, if_pos q]; exact r.repl k ry
 ·rw [if_neg q, if_neg q]; exact Paired.snoc r ⟨rfl, hb, ry⟩
theorem KT.keeps {H H' : Hp} {kvs : List (List Key × V)} {xs : List (List Key × Addr × Value)} (r : KT H kvs xs) (ht : ∀ b ys, H b = some (.tup ys) → H' b = some (.tup ys)) : KT H' kvs xs :=
 Paired.mapP r fun _ _ z => ⟨z.1, ht _ _ z.2.1, z.2.2⟩
section
variable {P : Program} {w : World} {H : Hp} {h : Heap} {a : Addr}
theorem rd_of {u : HO} (ok : HOk P w H h) (e : Rd H a u) : ObjOk P w H h a u := e.ok ok
theorem dk_rd {kvs : List (Key × V)} (ok : HOk P w H h) (e : Rd H a (.dK kvs)) : kvs.length ≤ sizeLine ∧ (a == sysModules) = false ∧ ∃ vs, KV kvs vs ∧ h.DictOf (mixKind P w) a vs :=
 show ObjOk P w H h a (.dK kvs) from rd_of ok e
theorem dk_of {kvs : List (Key × V)} (ok : HOk P w H h) (e : H a = some (.dK kvs)) : kvs.length ≤ sizeLine ∧ (a == sysModules) = false ∧ ∃ vs, KV kvs vs ∧ h.DictOf (mixKind P w) a vs := dk_rd ok (.inl e)
theorem key_of {ks : List Key} (ok : HOk P w H h) (e : H a = some (.tup (ks.map kV))) : (tupleKind (mixKind P w)).is h ks a := by
 obtain ⟨_, its, r, o, h1, h2, n, h3⟩ := (show ObjOk P w H h a (.tup (ks.map kV)) from ok a _ e)
 exact ⟨o, its.toArray, n, h1, h2, h3, by simpa using items_are r⟩
theorem dt_rd {kvs : List (List Key × V)} (ok : HOk P w H h) (e : Rd H a (.dT kvs)) : kvs.length ≤ sizeLine ∧ (a == sysModules) = false ∧
  ∃ xs, KT H kvs xs ∧ h.DictOfH (tupleKind (mixKind P w)) a xs := by
 obtain ⟨z, y, xs, r, o, es, ep, h1, h2, h3, h4, h5⟩ := (show ObjOk P w H h a (.dT kvs) from rd_of ok e)
 refine ⟨z, y, xs, r, o, es, ep, h1, h2, h3, h4, fun x hx => ?_, h5⟩
 have all : ∀ {l : List (List Key × V)} {m : List (List Key × Addr × Value)}, KT H l m → ∀ x ∈ m, (tupleKind (mixKind P w)).is h x.1 x.2.1 := by
  intro l m q
  induction q with
  | nil => intro x hx; exact nomatch hx
  | @cons p q ps qs hq t ih =>
   intro x hx
   rcases List.mem_cons.mp hx with e | hx
   ·subst e
    exact key_of ok (by rw [← hq.1]; exact hq.2.1)
   ·exact ih x hx
 exact all r x hx
theorem dt_of {kvs : List (List Key × V)} (ok : HOk P w H h) (e : H a = some (.dT kvs)) : kvs.length ≤ sizeLine ∧ (a == sysModules) = false ∧
  ∃ xs, KT H kvs xs ∧ h.DictOfH (tupleKind (mixKind P w)) a xs := dt_rd ok (.inl e)
end
def DGet (H : Hp) (a : Addr) (y : V) (r : Option V) : Prop :=
 (∃ kvs k, Rd H a (.dK kvs) ∧ y = kV k ∧ r = valV kvs k) ∨ ∃ kvs k b, Rd H a (.dT kvs) ∧ y = .ref b ∧ H b = some (.tup (k.map kV)) ∧ r = valV kvs k
def DPut (H : Hp) (a : Addr) (y v : V) (H' : Hp) : Prop :=
 (∃ kvs k, H a = some (.dK kvs) ∧ y = kV k ∧ kvs.length < sizeLine ∧ H' = upd H a (.dK (putK kvs k v))) ∨
 ∃ kvs k b, H a = some (.dT kvs) ∧ y = .ref b ∧ H b = some (.tup (k.map kV)) ∧ kvs.length < sizeLine ∧ H' = upd H a (.dT (putK kvs k v))
theorem DGet.k {H : Hp} {a : Addr} {kvs : List (Key × V)} {k : Key} (e : H a = some (.dK kvs)) : DGet H a (kV k) (valV kvs k) := .inl ⟨kvs, k, .inl e, rfl, rfl⟩
theorem DPut.k {H : Hp} {a : Addr} {kvs : List (Key × V)} {k : Key} {v : V} (e : H a = some (.dK kvs)) (hl : kvs.length < sizeLine) : DPut H a (kV k) v (upd H a (.dK (putK kvs k v))) := .inl ⟨kvs, k, e, rfl, hl, rfl⟩
section
variable {X : Cx} {pins : List (Addr × Obj)} {σ : St} {H : Hp} {s : Shared} {a : Addr} {y v : V} {u r : Value} {o : Option V} {A : Around} {E : Value → Shared → Prop}
theorem Inv.big (I : Inv X pins σ H s) : sysModules < s.heap.objs.size := by
 have h : mainGlobals < s.heap.objs.size := (I.mod.glob.keeps I.bk).lt
 exact Nat.lt_trans (by decide) h
theorem d_getItem {Q : Value → Shared → Prop} (hu : A.units + 1 < cLine) (I : Inv X pins σ H s) (g : DGet H a y (some v)) (ry : RelV y u) (h : ∀ w' s', Inv X pins σ H s' → RelV v w' → Q w' s') :
  wpAny (model X.prog X.w) A (getItem (.ref a) u) Q E s := by
 rcases g with ⟨kvs, k, e, ey, l⟩ | ⟨kvs, k, b, e, ey, eb, l⟩
 ·subst ey
  obtain ⟨z, hd, vs, rel, dd⟩ := dk_rd I.hok e
  obtain ⟨w', hw, rw'⟩ := RelO.some_of (v := v) (o := valueAt vs k) (by rw [l]; exact rel.val k)
  exact wpAny_getItem_of (kV_is ry) dd.mapOf hw (h w' _ (I.tok _) rw')
 ·subst ey
  cases (show u = Value.ref b from ry)
  obtain ⟨z, hd, xs, rel, dd⟩ := dt_rd I.hok e
  obtain ⟨w', hw, rw'⟩ := RelO.some_of (v := v) (o := (atKey xs k).map (·.2)) (by rw [l]; exact rel.val k)
  obtain ⟨p, hp, hp2⟩ := Option.map_eq_some_iff.mp hw
  refine wpAny_getItem_heap (tupleKind_room_in1 hu) (key_of I.hok eb) dd hp ?_
  rw [hp2]
  exact h w' _ (I.tok _) rw'
theorem d_write {h' : Heap} {t' : Nat} {ob : HO} (I : Inv X pins σ H s) (mu : Mut (H a)) (hs : Heap.SameBut a s.heap h') (he : ∃ q, h'.get? a = some q) (new : ObjOk X.prog X.w (upd H a ob) h' a ob) :
  Inv X pins σ (upd H a ob) { s with heap := h', toks := t' } :=
 I.write (x := a) (e := a) mu (.inl rfl) (fun b q hb z => (hs.2 b hb).trans z) he new
theorem dk_new {P : Program} {w : World} {H' : Hp} {h' : Heap} {kvs : List (Key × V)} {vs : List (Key × Value)} (z : kvs.length ≤ sizeLine) (hd : (a == sysModules) = false) (rel : KV kvs vs) (dd : h'.DictOf (mixKind P w) a vs) :
  ObjOk P w H' h' a (.dK kvs) := ⟨z, hd, vs, rel, dd⟩
theorem d_setItem {H' : Hp} {Q : Unit → Shared → Prop} (hu : A.units + 1 < cLine) (I : Inv X pins σ H s) (g : DPut H a y v H') (ry : RelV y u) (rv : RelV v r) (h : ∀ s', Inv X pins σ H' s' → Q () s') :
  wpAny (model X.prog X.w) A (setItem (.ref a) u r) Q E s := by
 rcases g with ⟨kvs, k, e, ey, l, eH⟩ | ⟨kvs, k, b, e, ey, eb, l, eH⟩
 ·subst ey eH
  obtain ⟨z, hd, vs, rel, dd⟩ := dk_of I.hok e
  have hz : vs.length ≤ sizeLine := by rw [← rel.length]; exact z
  have hl : (putK kvs k v).length ≤ sizeLine := by have := length_putK kvs k v; omega
  refine wpAny_setItem_pairs (hsz := hz) (kV_is ry) dd fun h' dd' hs => h _ ?_
  have he : ∃ q, h'.get? a = some q := let ⟨q, _, _, hq, _⟩ := dd'; ⟨q, hq⟩
  exact d_write I (by rw [e]; exact True.intro) hs he (dk_new hl hd (rel.put k rv) dd')
 ·subst ey eH
  cases (show u = Value.ref b from ry)
  obtain ⟨z, hd, xs, rel, dd⟩ := dt_of I.hok e
  have hz : xs.length ≤ sizeLine := by rw [← Paired.length rel]; exact z
  have hl : (putK kvs k v).length ≤ sizeLine := by have := length_putK kvs k v; omega
  refine wpAny_setItem_heap (hsz := hz) (tupleKind_room_in1 hu) (key_of I.hok eb) dd fun h' dd' hs => h _ ?_
  obtain ⟨q, es, ep, hq, h2, h3, h4, _, h5⟩ := dd'
  refine d_write I (by rw [e]; exact True.intro) hs ⟨q, hq⟩ ⟨hl, hd, _, (rel.put k eb rv).keeps fun c ys ec => ?_, q, es, ep, hq, h2, h3, h4, h5⟩
  rw [upd_ne (ne_of ec e (fun z => nomatch z))]
  exact ec
end
def NoSl (i : Expr) : Prop := ∀ ov iv, subscripted i false ov iv = operate [ov, iv] (getItem ov iv)
theorem subD_of {prog : Program} {w : World} {A : Around} {E : Value → Shared → Prop} {s : Shared} {env : Env} {value slice : Expr} {pos : Pos} {T id : String} {Q : Value → Shared → Prop}
  (hl : typeLookup (.type T) "__getitem__" = pure (some (.builtin id))) (hs : NoSl slice)
  (h : wpAny (model prog w) A (eval value env) (fun o s₁ => wpAny (model prog w) A (eval slice env) (fun i s₂ => s₂.TypeIs o T ∧ wpAny (model prog w) A (getItem o i) Q E s₂) E s₁) E s) :
  wpAny (model prog w) A (eval (.Subscript value slice pos) env) Q E s := by
 refine Subscript_ (wpAny_mono h (fun o s₁ h₁ => wpAny_mono h₁ (fun i s₂ h₂ => ?_) fun _ _ x => x) fun _ _ x => x)
 obtain ⟨hT, h₂⟩ := h₂
 unfold subscriptTail
 refine wpAny_bind ?_
 rw [getitemInPython_of_ne hT.not_modules]
 refine wpAny_bind (wpAny_specialOf hT hl ?_)
 have fin : wpAny (model prog w) A (subscripted slice false o i) (fun r s₃ => wpAny (model prog w) A (letTemporaryGo value o r >>= fun _ => pure r) Q E s₃) E s₂ := by
  rw [hs o i]
  exact wpAny_operating (wpAny_mono h₂ (fun r s₃ h₃ => wpAny_bind (wpAny_letTemporaryGo (wpAny_pure h₃))) fun _ _ x => x)
 first
  | exact wpAny_pure (wpAny_bind fin)
  | exact wpAny_bind (wpAny_pure (wpAny_bind fin))
  | exact wpAny_bind fin
theorem dict_typeIs {X : Cx} {pins : List (Addr × Obj)} {σ : St} {H : Hp} {s : Shared} {a : Addr} {y : V} {o : Option V} (I : Inv X pins σ H s) (g : DGet H a y o) : s.TypeIs (.ref a) "dict" := by
 rcases g with ⟨kvs, k, e, _, _⟩ | ⟨kvs, k, b, e, _, _, _⟩
 ·obtain ⟨_, _, vs, _, dd⟩ := dk_rd I.hok e
  exact dd.typeIs
 ·obtain ⟨_, _, xs, _, dd⟩ := dt_rd I.hok e
  exact dd.typeIs
def tDGet (td ty : TE) : TE := fun σ H Q => td σ H fun x H1 => ty σ H1 fun y H2 => ∃ a v, x = .ref a ∧ DGet H2 a y (some v) ∧ Q v H2
def sDPut (td ty tv : TE) : TS := fun D σ H => tv σ H fun v H1 => td σ H1 fun x H2 => ty σ H2 fun y H3 => ∃ a H4, x = .ref a ∧ DPut H3 a y v H4 ∧ D.nx σ H4
def sDAug (td ty tv : TE) (rd : V → V → Hp → VK → Prop) : TS := fun D σ H => td σ H fun x H1 => ty σ H1 fun y H2 => ∃ a v, x = .ref a ∧ DGet H2 a y (some v) ∧
 tv σ H2 fun y2 H3 => rd v y2 H3 fun z H4 => ∃ H5, DPut H4 a y z H5 ∧ D.nx σ H5
section
variable {X : Cx} {o i e value : Expr} {pos pos' tpos : Pos} {td ty tv : TE}
theorem pe_dget (hu : X.A.units + 1 < cLine) (ho : PE X o td) (hi : PE X i ty) (hs : NoSl i) : PE X (.Subscript o i pos) (tDGet td ty) := by
 intro pins s σ H Q I h
 refine subD_of PySem.F.slot_dict_getitem.lookup hs (thn (ho pins s σ H _ I h) fun u s1 ⟨x, H1, I1, rx, q1⟩ => thn (hi pins s1 σ H1 _ I1 q1) fun iv s2 ⟨y, H2, I2, ry, a, v, ex, g, q2⟩ => ?_)
 subst ex
 obtain rfl : u = Value.ref a := rx
 exact ⟨dict_typeIs I2 g, d_getItem hu I2 g ry fun w' s3 I3 rw' => ⟨v, H2, I3, rw', q2⟩⟩
theorem ps_dput (hu : X.A.units + 1 < cLine) (ho : PE X o td) (hi : PE X i ty) (hv : PE X value tv) (hs : swapsWith value (some (.Subscript o i pos')) pos.line X.env = pure false) :
  PS X (.Assign [.Subscript o i pos'] value pos) (sDPut td ty tv) := by
 intro pins s σ H D I h
 refine wpAny_Assign_Subscript (thn (hv pins s σ H _ I h) fun r s1 ⟨v, H1, I1, rv, q1⟩ => thn (ho pins s1 σ H1 _ I1 q1) fun u s2 ⟨x, H2, I2, rx, q2⟩ => thn (hi pins s2 σ H2 _ I2 q2) fun iv s3 ⟨y, H3, I3, ry, a, H4, ex, g, q3⟩ => ?_) hs
 subst ex
 obtain rfl : u = Value.ref a := rx
 exact d_setItem hu I3 g ry rv fun s4 I4 => ⟨σ, H4, I4, q3⟩
theorem ps_daug {op : Operator} {rd : V → V → Hp → VK → Prop} (hu : X.A.units + 1 < cLine) (ho : PE X o td) (hi : PE X i ty) (hv : PE X value tv) (hop : InOp X op rd)
  (ha : ∀ ov iv new, augStore i ov iv new = (do holding [new, ov, iv] (setItem ov iv new); release [new, ov, iv] []; pure .next)) : PS X (.AugAssign (.Subscript o i tpos) op value pos) (sDAug td ty tv rd) := by
 intro pins s σ H D I h
 refine wpAny_AugAssign_SubscriptAny (thn (ho pins s σ H _ I h) fun u s1 ⟨x, H1, I1, rx, q1⟩ => thn (hi pins s1 σ H1 _ I1 q1) fun iv s2 ⟨y, H2, I2, ry, a, v, ex, g, q2⟩ => ?_) ha
 subst ex
 obtain rfl : u = Value.ref a := rx
 refine d_getItem hu I2 g ry fun w' s3 I3 rw' => thn (hv pins s3 σ H2 _ I3 q2) fun w2 s4 ⟨y2, H3, I4, ry2, q3⟩ => thn (hop pins s4 σ H3 v y2 w' w2 _ I4 rw' ry2 q3) fun w3 s5 ⟨z, H4, I5, rz, H5, g5, q4⟩ => ?_
 exact d_setItem hu I5 g5 ry rz fun s6 I6 => ⟨σ, H5, I6, q4⟩
end
theorem dk_empty {P : Program} {w : World} {H : Hp} (h : Heap) (hb : sysModules < h.objs.size) : ObjOk P w H (h.push { cls := .type "dict", data := .dict #[] }) h.objs.size (.dK []) :=
 ⟨Nat.zero_le _, beq_eq_false_iff_ne.mpr (Ne.symm (Nat.ne_of_lt hb)), [], .nil, Heap.DictOf.new h⟩
def tDNewK : TE := fun _ H Q => ∀ p, H p = none → Q (.ref p) (upd H p (.dK []))
section
variable {X : Cx} {pos : Pos}
theorem pe_dnewK : PE X (.Dict [] [] pos) tDNewK := fun pins s σ H Q I h =>
 wpAny_Dict_empty ⟨.ref s.heap.objs.size, _, I.laid (a := s.heap.objs.size) (o := .dK []) (t' := s.toks) (fun _ _ q => Heap.get?_push_of_some _ q) (Nat.le_refl _) (dk_empty s.heap I.big), rfl, h _ (I.hok.fresh (Nat.le_refl _))⟩
end
end L2
namespace L2
open PySem PySem.Spec PyProof.Rows
section
variable {X : Cx} {pins : List (Addr × Obj)} {σ : St} {H : Hp} {s : Shared} {h' : Heap}
theorem Inv.turnedL {t' : Nat} {ch : List Addr} (I : Inv X pins σ H s) (k : ∀ b o, b ∉ ch → s.heap.get? b = some o → h'.get? b = some o) (hf : ∀ b ∈ ch, FpOk X pins H b) : Inv X pins σ H { s with heap := h', toks := t' } := by
 have nit : ∀ b u, H b = some u → b ∉ ch := fun b u e z => by
  have q := (hf b z).1
  rw [q] at e; cases e
 refine I.step (g' := s.gens) (d' := s.drawn) (ch := ch) (fun b hb => ⟨(hf b hb).2.2.2.1, (hf b hb).2.1, (hf b hb).2.2.2.2.1, (hf b hb).2.2.2.2.2⟩) (fun b o _ _ hc e _ => k b o hc e) (fun b o _ _ hc e _ => ⟨o.slots, k b o hc e⟩)
  (fun _ _ _ _ n => n) (fun b o hc e => ⟨o, k b o hc e⟩) (fun _ _ e => e) (fun _ _ _ e => e) (fun b ps e => ⟨#[], by rw [e]; simp⟩) (fun m hm => ?_) (fun b u e => ?_) I.bare
 ·obtain ⟨o, es, ep, ho, r⟩ := hm
  exact ⟨o, es, ep, k _ o (fun z => (hf _ z).2.1 rfl) ho, r⟩
 ·refine (I.hok b u e).stay (fun c v hc q => k c v ?_ q) (fun _ q => q) fun _ _ q => q
  rcases hc with z | z
  ·rw [z]; exact nit b u e
  ·exact nit c _ z
theorem Inv.turnedNew {t' : Nat} {ch : List Addr} {T : Addr} {ob : HO} (I : Inv X pins σ H s) (k : ∀ b o, b ∉ ch → s.heap.get? b = some o → h'.get? b = some o) (hf : ∀ b ∈ ch, FpOk X pins H b) (hT : s.heap.objs.size ≤ T)
  (new : ObjOk X.prog X.w (upd H T ob) h' T ob) : Inv X pins σ (upd H T ob) { s with heap := h', toks := t' } := by
 have hn : H T = none := I.hok.fresh hT
 have nit : ∀ b u, H b = some u → b ∉ ch := fun b u e z => by
  have q := (hf b z).1
  rw [q] at e; cases e
 refine I.step (g' := s.gens) (d' := s.drawn) (ch := ch) (fun b hb => ⟨(hf b hb).2.2.2.1, (hf b hb).2.1, (hf b hb).2.2.2.2.1, (hf b hb).2.2.2.2.2⟩) (fun b o _ _ hc e _ => k b o hc e) (fun b o _ _ hc e _ => ⟨o.slots, k b o hc e⟩)
  (fun b o _ e n => ?_) (fun b o hc e => ⟨o, k b o hc e⟩) (fun b xs e => ?_) (fun b o u e => ?_) (fun b ps e => ⟨#[], ?_⟩) (fun m hm => ?_) (fun b u e => ?_) I.bare
 ·rw [upd_ne (Nat.ne_of_lt (Nat.lt_of_lt_of_le (Heap.lt_size e) hT))]; exact n
 ·rw [upd_ne (ne_of_none e hn)]; exact e
 ·rw [upd_ne (ne_of_none e hn)]; exact e
 ·rw [upd_ne (ne_of_none e hn), e]; simp
 ·obtain ⟨o, es, ep, ho, r⟩ := hm
  exact ⟨o, es, ep, k _ o (fun z => (hf _ z).2.1 rfl) ho, r⟩
 ·by_cases hb : b = T
  ·subst hb
   rw [upd_same] at e
   cases e
   exact new
  ·rw [upd_ne hb] at e
   refine (I.hok b u e).stay (fun c v hc q => k c v ?_ q) (fun c q => by rw [upd_ne (ne_of_none q hn)]; exact q) fun c xs q => by rw [upd_ne (ne_of_none q hn)]; exact q
   rcases hc with z | z
   ·rw [z]; exact nit b u e
   ·exact nit c _ z
end
theorem boot_zip5 : bootBuiltins "zip" = some (.type "zip") := by decide +kernel
def Itz (K : PySem.W.Frag) (a b : Addr) : It :=
 ⟨fun i H => ∃ (xs ys : List V) (x y : V), SqL K H a xs ∧ SqL K H b ys ∧ xs[i]? = some x ∧ ys[i]? = some y,
  fun i H v H' => ∃ T x y, v = .ref T ∧ H T = none ∧ H' = upd H T (.tup [x, y]) ∧ (∀ xs, SqL K H a xs → xs[i]? = some x) ∧ ∀ ys, SqL K H b ys → ys[i]? = some y,
  fun i H => ∃ xs ys : List V, SqL K H a xs ∧ SqL K H b ys ∧ (xs.length ≤ i ∨ ys.length ≤ i)⟩
theorem turn_zip {P : Program} {w : World} {K : PySem.W.Frag} {elts : List Expr} {kk : Nat} {tpos : Pos} {a b z TI TO i1 i2 : Addr} (D : ZipApart z TI TO i1 i2 a b) :
  Turn P w K (.Tuple elts kk tpos) (Itz K a b) [z, TI, TO, i1, i2] z (fun i h => IsZip h z TI TO .none ∧ IsPair h TI (.ref i1) (.ref i2) ∧ (∃ x y, IsPair h TO x y) ∧ h.IsListIter i1 a i ∧ h.IsListIter i2 b i) where
 mem := by simp
 obj := fun i h st c hc => by
  obtain ⟨hz, hTI, ⟨x, y, hTO⟩, ⟨o1, e1, _, d1⟩, ⟨o2, e2, _, d2⟩⟩ := st
  have e' : c = z ∨ c = TI ∨ c = TO ∨ c = i1 ∨ c = i2 := by simpa using hc
  rcases e' with q | q | q | q | q
  ·rw [q]; exact ⟨_, hz, fun v q => nomatch q⟩
  ·rw [q]; exact ⟨_, hTI, fun v q => nomatch q⟩
  ·rw [q]; exact ⟨_, hTO, fun v q => nomatch q⟩
  ·rw [q]; exact ⟨o1, e1, fun v q => by rw [d1] at q; cases q⟩
  ·rw [q]; exact ⟨o2, e2, fun v q => by rw [d2] at q; cases q⟩
 keep := fun i h h' st k => by
  obtain ⟨hz, hTI, ⟨x, y, hTO⟩, h1, h2⟩ := st
  exact ⟨k z (by simp) _ hz, k TI (by simp) _ hTI, ⟨x, y, k TO (by simp) _ hTO⟩, h1.at fun o q => k i1 (by simp) o q, h2.at fun o q => k i2 (by simp) o q⟩
 item := by
  intro X hP hw hK hc i pins s σ H E I hf st hg
  subst hP hw hK
  obtain ⟨hz, hTI, ⟨x0, y0, hTO⟩, h1, h2⟩ := st
  obtain ⟨xs, ys, x, y, hqx, hqy, hx, hy⟩ := hg
  obtain ⟨its, rv, p, _⟩ := I.list hqx
  obtain ⟨its2, rv2, p2, _⟩ := I.list hqy
  obtain ⟨u, hu, ru⟩ := rv.get hx
  obtain ⟨u2, hu2, ru2⟩ := rv2.get hy
  have hzl : z < s.heap.objs.size := Heap.lt_size hz
  refine wpAny_pyNext_zip_item D hz hTI hTO h1 h2 p.isList p2.isList (x := u) (y := u2) (by simpa using hu) (by simpa using hu2) fun h' z' TO' h1' h2' hT hsz hk => ?_
  refine ⟨_, rfl, wpAny_letOwnedTupleGo_zip (s := { s with heap := h' }) z' fun h'' z'' sb => ?_⟩
  have hT2 : h''.get? s.heap.objs.size = some { cls := .type "tuple", data := .seq #[u, u2] } := (sb.2 _ (Nat.ne_of_gt hzl)).trans hT
  have new : ObjOk X.prog X.w (upd H s.heap.objs.size (.tup [x, y])) h'' s.heap.objs.size (.tup [x, y]) :=
   ⟨by show 2 ≤ sizeLine; decide, [u, u2], .cons ru (.cons ru2 .nil), ⟨_, hT2, rfl, _, rfl⟩⟩
  have I1 : Inv X pins σ (upd H s.heap.objs.size (.tup [x, y])) { s with heap := h'' } :=
   I.turnedNew (t' := s.toks) (ch := [z, TI, TO, i1, i2]) (fun c o hb q => (sb.2 c (fun q' => hb (by simp [q']))).trans (hk c o (fun q' => hb (by simp [q'])) (fun q' => hb (by simp [q'])) (fun q' => hb (by simp [q'])) (fun q' => hb (by simp [q'])) q)) hf (Nat.le_refl _) new
  refine ⟨.ref s.heap.objs.size, _, I1, rfl, ⟨_, x, y, rfl, I.hok.fresh (Nat.le_refl _), rfl, fun l hl => by rw [I.list_inj hl hqx]; exact hx, fun l hl => by rw [I.list_inj hl hqy]; exact hy⟩, ⟨z'', ?_, ⟨u, u2, ?_⟩, ?_, ?_⟩, fun c hcm => ?_⟩
  ·exact (sb.2 _ D.TIz).trans (hk _ _ D.TIz D.TITO D.TIi1 D.TIi2 hTI)
  ·exact (sb.2 _ D.TOz).trans TO'
  ·exact h1'.at fun o q => (sb.2 _ D.i1z).trans q
  ·exact h2'.at fun o q => (sb.2 _ D.i2z).trans q
  ·have hlt : c < s.heap.objs.size := by
    have e' : c = z ∨ c = TI ∨ c = TO ∨ c = i1 ∨ c = i2 := by simpa using hcm
    rcases e' with q | q | q | q | q
    ·rw [q]; exact hzl
    ·rw [q]; exact Heap.lt_size hTI
    ·rw [q]; exact Heap.lt_size hTO
    ·rw [q]; obtain ⟨_, e1, _⟩ := h1; exact Heap.lt_size e1
    ·rw [q]; obtain ⟨_, e2, _⟩ := h2; exact Heap.lt_size e2
   rw [upd_ne (Nat.ne_of_lt hlt)]
   exact (hf c hcm).1
 done := by
  intro X hP hw hK hc i pins s σ H E I hf st hg
  subst hP hw hK
  obtain ⟨hz, hTI, ⟨x0, y0, hTO⟩, h1, h2⟩ := st
  obtain ⟨xs, ys, hqx, hqy, hend⟩ := hg
  obtain ⟨its, rv, p, _⟩ := I.list hqx
  obtain ⟨its2, rv2, p2, _⟩ := I.list hqy
  have l1 := rv.length
  have l2 := rv2.length
  have he : its.toArray[i]? = none ∨ its2.toArray[i]? = none := by
   rcases hend with q | q
   ·exact .inl (by simp; omega)
   ·exact .inr (by simp; omega)
  exact wpAny_pyNext_zip_end (I.ok.hd hc) D hz hTI hTO h1 h2 p.isList p2.isList he fun h' hk => ⟨rfl, I.turnedL (t' := s.toks) (ch := [z, TI, TO, i1, i2]) (fun c o hb q =>
   hk c o (fun q' => hb (by simp [q'])) (fun q' => hb (by simp [q'])) (fun q' => hb (by simp [q'])) (fun q' => hb (by simp [q'])) q) hf⟩
 self := fun A i s Q E st h => wpAny_pyIter_zip st.1 h
def iZip (K : PySem.W.Frag) (ta : TA) : TI := fun σ H R => ta σ H fun vs H1 => ∃ a b xs ys, vs = [.ref a, .ref b] ∧ SqL K H1 a xs ∧ SqL K H1 b ys ∧ R (Itz K a b) H1
theorem pi_zip {X : Cx} {e e2 : Expr} {ta : TA} {p pos tpos : Pos} {elts : List Expr} {kk : Nat} (hg : Gl X "zip") (hm : X.mg "zip" = none) (ha : PA X [e, e2] ta)
  (hs : starEach [e, e2] X.env = (false, eval e X.env) :: starEach [e2] X.env := by rfl) (hpl : (backTo pos (starEach [e2] X.env)).any (·.1) = false := by rfl) :
  PI X (.Tuple elts kk tpos) (.Call (.Name "zip" p) [e, e2] [] pos) (iZip X.K ta) := by
 intro pins s σ H R I h
 refine Call_ (ld_blt I hg hm boot_zip5 (PyProof.Rows.callWith_type1 (thn (ha pos pins s σ H _ I h) fun us s1 ⟨vs, H1, I1, r1, q1⟩ => ?_) hs hpl))
 obtain ⟨a, b, xs, ys, ex, hqx, hqy, q⟩ := q1
 subst ex
 cases r1 with
 | cons r rr =>
  cases rr with
  | cons r' rr =>
   cases rr
   cases r
   cases r'
   obtain ⟨its, rv, p1, _⟩ := I1.list hqx
   obtain ⟨its2, rv2, p2, _⟩ := I1.list hqy
   have la : a < s1.heap.objs.size := p1.lt
   have lb : b < s1.heap.objs.size := p2.lt
   refine call_zip_2 p1.isList p2.isList fun h' hz hTI hTO h1 h2 hsz hk => wpAny_pyIter_zip hz ?_
   have I2 : Inv X pins σ H1 { s1 with heap := h' } := I1.kept (t' := s1.toks) hk
   refine ⟨s1.heap.objs.size + 4, [s1.heap.objs.size + 4, s1.heap.objs.size + 2, s1.heap.objs.size + 3, s1.heap.objs.size, s1.heap.objs.size + 1], _, _, H1, rfl, I2, turn_zip (PySem.W.ktu_apart s1.heap.objs.size a b la lb), ⟨hz, hTI, ⟨_, _, hTO⟩, h1, h2⟩, fun c hcm => ?_, q⟩
   have e' : c = s1.heap.objs.size + 4 ∨ c = s1.heap.objs.size + 2 ∨ c = s1.heap.objs.size + 3 ∨ c = s1.heap.objs.size ∨ c = s1.heap.objs.size + 1 := by simpa using hcm
   have hle : s1.heap.objs.size ≤ c := by
    rcases e' with z | z | z | z | z
    ·rw [z]; exact Nat.le_add_right _ _
    ·rw [z]; exact Nat.le_add_right _ _
    ·rw [z]; exact Nat.le_add_right _ _
    ·rw [z]; exact Nat.le_refl _
    ·rw [z]; exact Nat.le_add_right _ _
   exact I1.fpOk hle (I1.hok.fresh hle)
end L2
section
namespace TL
open PySem PySem.Builtin PySem.Builtin.Str PySem.StrLaws
abbrev tl (x : Str) : List Nat := x.cps.toList
def pre (S l : List Nat) : Bool := l.take S.length == S
def par (S : List Nat) : List Nat → List Nat → Option (List Nat × List Nat)
 | _, [] => none
 | acc, c :: r => if pre S (c :: r) = true then some (acc, (c :: r).drop S.length) else par S (acc ++ [c]) r
end TL
end
namespace L2
open PySem PySem.Spec PyProof.Rows
def inClass (s : Stmt) (j : Nat) : Stmt := match s with
 | .ClassDef _ _ _ body _ _ _ _ _ _ _ => body.getD j (.Pass ⟨0, 0, 0, 0⟩)
 | _ => .Pass ⟨0, 0, 0, 0⟩
def defArgs (s : Stmt) : Arguments := match s with
 | .FunctionDef _ a _ _ _ _ _ _ _ _ => a
 | _ => { posonlyargs := [], args := [], vararg := none, kwonlyargs := [], kw_defaults := [], kwarg := none, defaults := [] }
def defBody (s : Stmt) : List Stmt := match s with
 | .FunctionDef _ _ b _ _ _ _ _ _ _ => b
 | _ => []
def defScope (s : Stmt) : Scope := match s with
 | .FunctionDef _ _ _ _ _ _ sc _ _ _ => sc
 | _ => { kind := .function, names := [], isGenerator := false, isCoroutine := false }
abbrev CX0 : CXT := fun _ _ _ _ _ _ => False
abbrev E0 : XK := fun _ _ _ => False
theorem pass0 {X : Cx} : Passes CX0 X E0 := fun _ _ _ _ _ _ _ h => h.elim
structure Fun (K : PySem.W.Frag) (x qual : Str) (st : Stmt) (f : Addr) (fd : FuncData) : Prop where
 ex : ∃ (oc : Value) (od : Option Addr) (kV doc pm : Value) (an : Option Addr) (cdv ct : Value) (osl : Array (Option Value)),
  fd = PySem.W.fnOf x qual (defArgs st) (defBody st) (defScope st) .none kV doc pm an cdv ct ∧ K.lookup f = some ⟨oc, od, .func fd, osl⟩ ∧ PySem.W.codeIn K cdv qual = true
 kp : PySem.W.keepIn K (.ref f) = true
section
variable {P : Program} {w : World} {K : PySem.W.Frag} {mg : Str → Option Value} {base : Heap}
theorem Fun.ok {x qual : Str} {st : Stmt} {f : Addr} {fd : FuncData} {N ps : List Str} {k : Nat} {sp : Sp} (F : Fun K x qual st f fd) (S : FnScope N ps (defScope st)) (len : ∀ vs H Q E, sp vs H Q E → vs.length = ps.length)
  (hbody : ∀ (cdv : Value) (A : Around) (outer : List Env) (s : Shared) (H : Hp) (vs : List V) (Q : VK) (E : XK), Room k (A.deeper (envOfC qual (defScope st) s.heap.objs.size f cdv)) → sp vs H Q E →
   ∃ t, PSs (cxOf CX0 P w K mg base N qual (defScope st) f cdv A outer s H E).nox (defBody st) t ∧ t { nx := fun _ H' => Q .non H', rt := Q } (start N vs) H) : FnOk P w K mg base CX0 (k + 1) f fd ps sp := by
 obtain ⟨oc, od, kV, doc, pm, an, cdv, ct, osl, rfl, lk, hcd⟩ := F.ex
 refine fn_of lk hcd S len fun A outer s H vs Q E hr hsp => ?_
 obtain ⟨t, h, q⟩ := hbody cdv A outer s H vs Q E hr hsp
 exact ⟨t, h.nox, q⟩
theorem Fun.binds {x qual : Str} {st : Stmt} {f : Addr} {fd : FuncData} {ps : List Str} (F : Fun K x qual st f fd)
  (h : ∀ (kV doc pm : Value) (an : Option Addr) (cdv ct : Value) (us : List Value), us.length = ps.length → bindArgs (PySem.W.fnOf x qual (defArgs st) (defBody st) (defScope st) .none kV doc pm an cdv ct) ⟨us, []⟩ = pure (ps.zip us)) : Binds K fd ps [] := by
 obtain ⟨oc, od, kV, doc, pm, an, cdv, ct, osl, rfl, lk, hcd⟩ := F.ex
 exact .all (h kV doc pm an cdv ct)
theorem fun_mk {x qual : Str} {st : Stmt} {f : Addr} {oc : Value} {od an : Option Addr} {osl : Array (Option Value)} {kV doc pm cdv ct : Value} (l : K.lookup f = some ⟨oc, od, .func (PySem.W.fnOf x qual (defArgs st) (defBody st) (defScope st) .none kV doc pm an cdv ct), osl⟩)
  (c : PySem.W.codeIn K cdv qual = true) (k : PySem.W.keepIn K (.ref f) = true) : Fun K x qual st f (PySem.W.fnOf x qual (defArgs st) (defBody st) (defScope st) .none kV doc pm an cdv ct) := ⟨⟨oc, od, kV, doc, pm, an, cdv, ct, osl, rfl, l, c⟩, k⟩
end
theorem small1000 {n : Nat} (h : n ≤ 1000) : n < sizeLine := Nat.lt_of_le_of_lt h (by decide)
section
variable {X : Cx}
theorem pv (i : Nat) {x : Str} {pos : Pos} (hN : X.N[i]? = some x := by rfl) (hv : Vis X.env.scope x := by first | exact Or.inl rfl | exact Or.inr (Or.inl rfl) | exact Or.inr (Or.inr rfl)) (hd : (x == ("__debug__" : Str)) = false := by decide)
  (hcd : (x == ("__classdict__" : Str)) = false := by decide) : PE X (.Name x pos) (tVar i) := pe_var hN hv hd hcd
end
theorem iteF {A B : Prop} (h : B) : if false = true then A else B := by
 rw [if_neg Bool.false_ne_true]
 exact h
theorem iteT {A B : Prop} (h : A) : if true = true then A else B := by
 rw [if_pos rfl]
 exact h
def Same (H H' : Hp) : Prop := ∀ b o, H b = some o → H' b = some o
theorem Same.refl (H : Hp) : Same H H := fun _ _ h => h
theorem Same.trans {H H1 H2 : Hp} (a : Same H H1) (b : Same H1 H2) : Same H H2 := fun c o h => b c o (a c o h)
theorem Same.free {H H' : Hp} (e : Same H H') {l : Addr} (h : H' l = Option.none) : H l = Option.none := by
 cases q : H l with
 | none => rfl
 | some o =>
  rw [e l o q] at h
  cases h
theorem Same.seq {K : PySem.W.Frag} {H H' : Hp} {a : Addr} {xs : List V} (e : Same H H') (h : SqL K H a xs) : SqL K H' a xs := by
 rcases h with (h | ⟨o, h⟩) | h
 ·exact .inl (.inl (e _ _ h))
 ·exact .inl (.inr ⟨o, e _ _ h⟩)
 ·exact .inr h
theorem nd_ix {α : Type} {l : List α} (hN : l.Nodup) {i j : Nat} {x : α} (a : l[i]? = some x) (b : l[j]? = some x) : i = j := by
 obtain ⟨h1, e1⟩ := List.getElem?_eq_some_iff.mp a
 obtain ⟨h2, e2⟩ := List.getElem?_eq_some_iff.mp b
 exact (List.getElem_inj hN).mp (e1.trans e2.symm)
theorem Same.made {H H1 : Hp} {x dx C : Addr} (nx : H x = Option.none) (nd : H dx = Option.none) (k : ∀ b o, (upd (upd H dx (.own x)) x (.ins C dx [])) b = some o → b ≠ x → H1 b = some o) : Same H H1 := fun b o e =>
 k b o (by rw [upd_ne (ne_of_none e nx), upd_ne (ne_of_none e nd)]; exact e) (ne_of_none e nx)
end L2
namespace ST
open PySem PySem.SetTable
def c : Nat → Nat
 | 0 => 0
 | n + 1 => 5 * c n + 1
theorem c4 : ∀ n, 4 * c n + 1 = 5 ^ n
 | 0 => rfl
 | n + 1 => by
  have := c4 n
  show 4 * (5 * c n + 1) + 1 = 5 ^ (n + 1)
  rw [Nat.pow_succ]
  omega
theorem c_add (a : Nat) : ∀ d, c (a + d) = 5 ^ d * c a + c d
 | 0 => by simp [c]
 | d + 1 => by
  show 5 * c (a + d) + 1 = 5 ^ (d + 1) * c a + (5 * c d + 1)
  rw [c_add a d, Nat.pow_succ, Nat.mul_add, ← Nat.mul_assoc, Nat.mul_comm 5 (5 ^ d)]
  omega
theorem c_par : ∀ n, c n % 2 = n % 2
 | 0 => rfl
 | n + 1 => by
  have := c_par n
  show (5 * c n + 1) % 2 = (n + 1) % 2
  omega
theorem odd_cop {x : Nat} (h : x % 2 = 1) (k : Nat) : Nat.Coprime (2 ^ k) x := by
 apply Nat.Coprime.pow_left
 rw [Nat.coprime_iff_gcd_eq_one]
 rw [Nat.gcd_rec, h]
 decide
theorem c_dvd : ∀ k d, 2 ^ k ∣ c d → 2 ^ k ∣ d
 | 0, d, _ => by simp
 | k + 1, d, h => by
  have h2 : 2 ∣ c d := Nat.dvd_trans ⟨2 ^ k, by rw [Nat.pow_succ, Nat.mul_comm]⟩ h
  have hp := c_par d
  obtain ⟨e, rfl⟩ : ∃ e, d = 2 * e := ⟨d / 2, by omega⟩
  have hc : c (2 * e) = 2 * (c e * (2 * c e + 1)) := by
   rw [show 2 * e = e + e by omega, c_add e e, ← c4 e, Nat.add_mul, Nat.mul_add, ← Nat.mul_assoc]
   have e1 : 4 * c e * c e = 2 * (c e * 2 * c e) := by
    rw [Nat.mul_comm (c e) 2, Nat.mul_assoc, Nat.mul_assoc, ← Nat.mul_assoc 2 2]
   have e2 : c e * 2 * c e = c e * (2 * c e) := Nat.mul_assoc _ _ _
   simp only [Nat.mul_add, Nat.mul_one]
   omega
  rw [hc, Nat.pow_succ, Nat.mul_comm] at h
  have h3 : 2 ^ k ∣ c e * (2 * c e + 1) := Nat.dvd_of_mul_dvd_mul_left (by decide) h
  have h4 : 2 ^ k ∣ c e := (odd_cop (x := 2 * c e + 1) (by omega) k).dvd_of_dvd_mul_right h3
  have h5 := c_dvd k e h4
  rw [Nat.pow_succ, Nat.mul_comm]
  exact Nat.mul_dvd_mul_left 2 h5
def gi (M : Nat) : Nat → Nat → Nat
 | 0, i => i
 | n + 1, i => (gi M n i * 5 + 1) % M
theorem gi_eq (M i : Nat) : ∀ n, gi M n i % M = (5 ^ n * i + c n) % M
 | 0 => by simp [gi, c]
 | n + 1 => by
  show (gi M n i * 5 + 1) % M % M = (5 ^ (n + 1) * i + (5 * c n + 1)) % M
  rw [Nat.mod_mod, Nat.add_mod, Nat.mul_mod, gi_eq M i n, ← Nat.mul_mod, ← Nat.add_mod]
  congr 1
  rw [Nat.pow_succ, Nat.add_mul, Nat.mul_right_comm]
  omega
theorem five_odd : ∀ a, 5 ^ a % 2 = 1
 | 0 => rfl
 | a + 1 => by
  rw [Nat.pow_succ, Nat.mul_mod, five_odd a]
theorem gi_inj (k i a d : Nat) (h : gi (2 ^ k) (a + d) i % 2 ^ k = gi (2 ^ k) a i % 2 ^ k) (hd : d < 2 ^ k) : d = 0 := by
 rw [gi_eq, gi_eq] at h
 have e : 5 ^ (a + d) * i + c (a + d) = (5 ^ a * i + c a) + 5 ^ a * (c d * (4 * i + 1)) := by
  rw [Nat.add_comm a d, c_add d a, Nat.pow_add, ← c4 d, Nat.add_mul, Nat.one_mul, Nat.add_mul]
  have e1 : 4 * c d * 5 ^ a * i = 5 ^ a * (c d * (4 * i)) := by
   rw [Nat.mul_comm (4 * c d) (5 ^ a), Nat.mul_assoc, Nat.mul_comm 4 (c d), Nat.mul_assoc]
  rw [e1, Nat.mul_add (c d), Nat.mul_one, Nat.mul_add (5 ^ a)]
  omega
 rw [e] at h
 have hz := Nat.sub_mod_eq_zero_of_mod_eq h
 rw [Nat.add_sub_cancel_left] at hz
 have h1 : 2 ^ k ∣ 5 ^ a * (c d * (4 * i + 1)) := Nat.dvd_of_mod_eq_zero hz
 have h2 : 2 ^ k ∣ c d * (4 * i + 1) := (odd_cop (five_odd a) k).dvd_of_dvd_mul_left h1
 have h3 : 2 ^ k ∣ c d := (odd_cop (x := 4 * i + 1) (by omega) k).dvd_of_dvd_mul_right h2
 have h4 := c_dvd k d h3
 rcases Nat.eq_zero_or_pos d with z | z
 ·exact z
 ·exact absurd (Nat.le_of_dvd z h4) (Nat.not_le.mpr hd)
theorem pigeon {α : Type} [DecidableEq α] : ∀ (l m : List α), l.Nodup → (∀ x ∈ l, x ∈ m) → l.length ≤ m.length
 | [], m, _, _ => Nat.zero_le _
 | x :: l, m, hn, hs => by
  obtain ⟨h1, h2⟩ := List.nodup_cons.mp hn
  have hx := hs x (List.mem_cons_self)
  have := pigeon l (m.erase x) h2 fun y hy => (List.mem_erase_of_ne (fun e => h1 (by rw [← e]; exact hy))).mpr (hs y (List.mem_cons_of_mem _ hy))
  rw [List.length_erase_of_mem hx] at this
  have hp := List.length_pos_of_mem hx
  simp only [List.length_cons]
  omega
theorem some_out {k i : Nat} (place : List Nat) (hp : place.length < 2 ^ k) : ∃ a, a ≤ place.length ∧ gi (2 ^ k) a (i % 2 ^ k) ∉ place := by
 apply Classical.byContradiction
 intro hno
 have all : ∀ a, a ≤ place.length → gi (2 ^ k) a (i % 2 ^ k) ∈ place := fun a ha => Classical.byContradiction fun h => hno ⟨a, ha, h⟩
 have lt : ∀ a, gi (2 ^ k) a (i % 2 ^ k) < 2 ^ k := fun a => by
  cases a with
  | zero => exact Nat.mod_lt _ (Nat.two_pow_pos k)
  | succ a => exact Nat.mod_lt _ (Nat.two_pow_pos k)
 have nd : ((List.range (place.length + 1)).map fun a => gi (2 ^ k) a (i % 2 ^ k)).Nodup := by
  rw [List.nodup_iff_pairwise_ne, List.pairwise_map]
  refine List.Pairwise.imp_of_mem ?_ List.nodup_range
  intro a b ha hb hab e
  rw [List.mem_range] at ha hb
  rcases Nat.lt_or_ge a b with h | h
  ·have := gi_inj k (i % 2 ^ k) a (b - a) (by rw [show a + (b - a) = b by omega, Nat.mod_eq_of_lt (lt a), Nat.mod_eq_of_lt (lt b)]; exact e.symm) (by omega)
   omega
  ·have := gi_inj k (i % 2 ^ k) b (a - b) (by rw [show b + (a - b) = a by omega, Nat.mod_eq_of_lt (lt a), Nat.mod_eq_of_lt (lt b)]; exact e) (by omega)
   exact hab (by omega)
 have := pigeon _ place nd fun x hx => by
  obtain ⟨a, ha, rfl⟩ := List.mem_map.mp hx
  exact all a (by rw [List.mem_range] at ha; omega)
 rw [List.length_map, List.length_range] at this
 omega
end ST
namespace ST
open PySem PySem.SetTable
def adv (mask : Nat) (p : Probe) : Probe :=
 if p.more > 0 then { p with j := p.j + 1, more := p.more - 1 } else
 { p with j := (leap mask p.i p.perturb).1, more := runEnd mask (leap mask p.i p.perturb).1 - (leap mask p.i p.perturb).1, i := (leap mask p.i p.perturb).1, perturb := (leap mask p.i p.perturb).2 }
theorem advance_eq (t : SetTable) (p : Probe) : t.advance p = adv t.mask p := by
 unfold SetTable.advance adv
 split <;> rfl
def it (mask : Nat) : Nat → Probe → Probe
 | 0, p => p
 | n + 1, p => it mask n (adv mask p)
theorem it_add (mask : Nat) : ∀ n m p, it mask (n + m) p = it mask m (it mask n p)
 | 0, m, p => by rw [Nat.zero_add]; rfl
 | n + 1, m, p => by
  rw [show n + 1 + m = (n + m) + 1 by omega]
  exact it_add mask n m (adv mask p)
def S (mask i pert : Nat) : Probe := ⟨i, runEnd mask i - i, i, pert, none⟩
def lp (mask : Nat) : Nat → Nat × Nat → Nat × Nat
 | 0, x => x
 | n + 1, x => leap mask (lp mask n x).1 (lp mask n x).2
theorem lp_succ' (mask : Nat) : ∀ n x, lp mask (n + 1) x = lp mask n (leap mask x.1 x.2)
 | 0, x => rfl
 | n + 1, x => by
  show leap mask (lp mask (n + 1) x).1 (lp mask (n + 1) x).2 = leap mask (lp mask n (leap mask x.1 x.2)).1 (lp mask n (leap mask x.1 x.2)).2
  rw [lp_succ' mask n x]
theorem run_q {mask i pert : Nat} : ∀ q, q ≤ runEnd mask i - i → it mask q (S mask i pert) = ⟨i + q, runEnd mask i - i - q, i, pert, none⟩
 | 0, _ => rfl
 | q + 1, h => by
  rw [it_add mask q 1, run_q q (by omega)]
  show adv mask _ = _
  unfold adv
  rw [if_pos (by show runEnd mask i - i - q > 0; omega)]
  congr 1
theorem run_len (mask i : Nat) : runEnd mask i - i ≤ 9 := by
 unfold runEnd
 split <;> omega
theorem run_next {mask i pert : Nat} : it mask (runEnd mask i - i + 1) (S mask i pert) = S mask (leap mask i pert).1 (leap mask i pert).2 := by
 rw [it_add mask _ 1, run_q _ (Nat.le_refl _)]
 show adv mask _ = _
 unfold adv
 rw [if_neg (by show ¬ runEnd mask i - i - (runEnd mask i - i) > 0; omega)]
 rfl
theorem leap_lt (mask i pert : Nat) : (leap mask i pert).1 < mask + 1 := Nat.mod_lt _ (Nat.succ_pos _)
theorem run_in {mask i : Nat} (hi : i ≤ mask) : runEnd mask i ≤ mask := by
 unfold runEnd
 split <;> omega
theorem run_ge (mask i : Nat) : i ≤ runEnd mask i := by
 unfold runEnd
 split <;> omega
theorem lp_pert (mask : Nat) (x : Nat × Nat) : ∀ n, (lp mask n x).2 = x.2 / 32 ^ n
 | 0 => by simp [lp]
 | n + 1 => by
  show (lp mask n x).2 / 32 = _
  rw [lp_pert mask x n, Nat.div_div_eq_div_mul, Nat.pow_succ]
theorem lp_zero {mask k : Nat} (hk : mask + 1 = 2 ^ k) (i : Nat) : ∀ a, lp mask a (i, 0) = (gi (2 ^ k) a i, 0)
 | 0 => rfl
 | a + 1 => by
  show leap mask (lp mask a (i, 0)).1 (lp mask a (i, 0)).2 = _
  rw [lp_zero hk i a]
  show ((gi (2 ^ k) a i * 5 + 1 + 0 / 32) % (mask + 1), 0 / 32) = _
  rw [hk]
  rfl
theorem lp_add (mask : Nat) (x : Nat × Nat) (n : Nat) : ∀ m, lp mask (n + m) x = lp mask m (lp mask n x)
 | 0 => rfl
 | m + 1 => by
  show leap mask (lp mask (n + m) x).1 (lp mask (n + m) x).2 = leap mask (lp mask m (lp mask n x)).1 (lp mask m (lp mask n x)).2
  rw [lp_add mask x n m]
theorem bits_lt (h : Int) : bits h < 2 ^ 64 := by
 unfold bits
 have h1 := Int.emod_nonneg h (show (2 ^ 64 : Int) ≠ 0 by decide)
 have h2 := Int.emod_lt_of_pos h (show (0 : Int) < 2 ^ 64 by decide)
 omega
theorem free_leap {mask k : Nat} (hk : mask + 1 = 2 ^ k) (place : List Nat) (hp : place.length < mask + 1) (i pert : Nat) (hpert : pert < 2 ^ 64) : ∃ r, r ≤ 13 + place.length ∧ (lp mask r (i, pert)).1 ∉ place := by
 have e13 : (lp mask 13 (i, pert)).2 = 0 := by
  rw [lp_pert]
  exact Nat.div_eq_of_lt (Nat.lt_trans hpert (by decide))
 have lt : (lp mask 13 (i, pert)).1 < 2 ^ k := by
  rw [← hk]
  exact leap_lt mask _ _
 obtain ⟨a, ha, hn⟩ := some_out (k := k) (i := (lp mask 13 (i, pert)).1) place (by omega)
 refine ⟨13 + a, by omega, ?_⟩
 rw [lp_add, show lp mask 13 (i, pert) = ((lp mask 13 (i, pert)).1, 0) from Prod.ext rfl e13, lp_zero hk]
 rw [Nat.mod_eq_of_lt lt] at hn
 exact hn
def way (mask : Nat) (h : Int) (n : Nat) : Nat := (it mask n (S mask (bits h % (mask + 1)) (bits h))).j
theorem it_dummy (mask : Nat) : ∀ n p, (it mask n p).dummy = p.dummy
 | 0, p => rfl
 | n + 1, p => by
  show (it mask n (adv mask p)).dummy = _
  rw [it_dummy mask n]
  unfold adv
  split <;> rfl
theorem way_lt (mask : Nat) (h : Int) (n : Nat) : way mask h n ≤ mask := by
 have key : ∀ n p, p.i ≤ mask → p.j + p.more ≤ mask → (it mask n p).j ≤ mask := by
  intro n
  induction n with
  | zero => intro p _ h2; show p.j ≤ mask; omega
  | succ n ih =>
   intro p h1 h2
   refine ih (adv mask p) ?_ ?_
   ·unfold adv
    split
    ·exact h1
    ·exact Nat.le_of_lt_succ (leap_lt mask _ _)
   ·unfold adv
    split
    ·show p.j + 1 + (p.more - 1) ≤ mask
     omega
    ·have hl := Nat.le_of_lt_succ (leap_lt mask p.i p.perturb)
     have := run_in hl
     have := run_ge mask (leap mask p.i p.perturb).1
     show (leap mask p.i p.perturb).1 + (runEnd mask (leap mask p.i p.perturb).1 - (leap mask p.i p.perturb).1) ≤ mask
     omega
 have hl : bits h % (mask + 1) ≤ mask := Nat.le_of_lt_succ (Nat.mod_lt _ (Nat.succ_pos _))
 have := run_in hl
 have := run_ge mask (bits h % (mask + 1))
 exact key n _ hl (by show bits h % (mask + 1) + (runEnd mask (bits h % (mask + 1)) - bits h % (mask + 1)) ≤ mask; omega)
theorem least {P : Nat → Prop} : ∀ n, P n → ∃ m, m ≤ n ∧ P m ∧ ∀ q, q < m → ¬ P q := by
 intro n
 induction n using Nat.strongRecOn with
 | _ n ih =>
  intro hn
  by_cases h : ∃ q, q < n ∧ P q
  ·obtain ⟨q, hq, pq⟩ := h
   obtain ⟨m, h1, h2, h3⟩ := ih q hq pq
   exact ⟨m, by omega, h2, h3⟩
  ·exact ⟨n, Nat.le_refl _, hn, fun q hq hp => h ⟨q, hq, hp⟩⟩
end ST
namespace ST
open PySem PySem.SetTable
def Rise (xs : Array Nat) : Prop := ∀ (i j a b : Nat), i < j → xs[i]? = some a → xs[j]? = some b → a < b
theorem below_go {xs : Array Nat} (hs : Rise xs) (j : Nat) : ∀ fuel lo hi, hi - lo ≤ fuel → lo ≤ hi → hi ≤ xs.size → (∀ (q a : Nat), q < lo → xs[q]? = some a → a < j) → (∀ (q a : Nat), hi ≤ q → xs[q]? = some a → j ≤ a) →
  below.go xs j fuel lo hi ≤ xs.size ∧ (∀ (q a : Nat), q < below.go xs j fuel lo hi → xs[q]? = some a → a < j) ∧ (∀ (q a : Nat), below.go xs j fuel lo hi ≤ q → xs[q]? = some a → j ≤ a) := by
 intro fuel
 induction fuel with
 | zero =>
  intro lo hi h1 h2 h3 h4 h5
  have e : lo = hi := by omega
  subst e
  exact ⟨h3, h4, h5⟩
 | succ fuel ih =>
  intro lo hi h1 h2 h3 h4 h5
  unfold below.go
  by_cases hl : lo < hi
  ·rw [if_pos hl]
   have hm : (lo + hi) / 2 < xs.size := by omega
   have em : xs[(lo + hi) / 2]? = some xs[(lo + hi) / 2] := Array.getElem?_eq_getElem hm
   have eg : xs.getD ((lo + hi) / 2) j = xs[(lo + hi) / 2] := by
    unfold Array.getD
    rw [dif_pos hm]
    rfl
   dsimp only
   rw [eg]
   by_cases hc : xs[(lo + hi) / 2] < j
   ·rw [if_pos hc]
    refine ih _ _ (by omega) (by omega) h3 (fun q a hq ha => ?_) h5
    rcases Nat.lt_or_ge q ((lo + hi) / 2) with z | z
    ·exact Nat.lt_trans (hs q _ a _ z ha em) hc
    ·have : q = (lo + hi) / 2 := by omega
     subst this
     rw [em] at ha
     cases ha
     exact hc
   ·rw [if_neg hc]
    refine ih _ _ (by omega) (by omega) (by omega) h4 fun q a hq ha => ?_
    rcases Nat.eq_or_lt_of_le hq with z | z
    ·subst z
     rw [em] at ha
     cases ha
     omega
    ·have := hs _ q _ a z em ha
     omega
  ·rw [if_neg hl]
   have e : lo = hi := by omega
   subst e
   exact ⟨h3, h4, h5⟩
theorem below_spec {xs : Array Nat} (hs : Rise xs) (j : Nat) : below xs j ≤ xs.size ∧ (∀ (q a : Nat), q < below xs j → xs[q]? = some a → a < j) ∧ (∀ (q a : Nat), below xs j ≤ q → xs[q]? = some a → j ≤ a) :=
 below_go hs j xs.size 0 xs.size (by omega) (by omega) (Nat.le_refl _) (fun q a hq => absurd hq (by omega)) fun q a hq ha => by
  rw [Array.getElem?_eq_none (by omega)] at ha
  cases ha
theorem slot_live {t : SetTable} (hs : Rise t.place) {i j : Nat} (h : t.place[i]? = some j) : t.slot j = .live i := by
 obtain ⟨h1, h2, h3⟩ := below_spec hs j
 have e : below t.place j = i := by
  rcases Nat.lt_trichotomy (below t.place j) i with z | z | z
  ·have hlt : below t.place j < t.place.size := Nat.lt_trans z (Array.getElem?_eq_some_iff.mp h).1
   have eb : t.place[below t.place j]? = some t.place[below t.place j] := Array.getElem?_eq_getElem hlt
   have := hs _ _ _ _ z eb h
   have := h3 _ _ (Nat.le_refl _) eb
   omega
  ·exact z
  ·exact absurd (h2 i j z h) (Nat.lt_irrefl _)
 unfold SetTable.slot
 simp only [e, h, beq_self_eq_true, if_true]
theorem slot_empty {t : SetTable} (hd : t.dummies = #[]) {j : Nat} (h : ∀ i : Nat, t.place[i]? ≠ some j) : t.slot j = .empty := by
 unfold SetTable.slot
 have e1 : (t.place[below t.place j]? == some j) = false := beq_eq_false_iff_ne.mpr (h _)
 have e2 : has t.dummies j = false := by
  rw [hd]
  rfl
 simp only [e1, e2, Bool.false_eq_true, if_false]
structure Well (t : SetTable) (n : Nat) : Prop where
 pow : ∃ k, t.mask + 1 = 2 ^ k
 dum : t.dummies = #[]
 rise : Rise t.place
 size : t.place.size = n
 room : n < t.mask + 1
 inb : ∀ (i j : Nat), t.place[i]? = some j → j ≤ t.mask
theorem mem_place {t : SetTable} {j : Nat} : j ∈ t.place.toList ↔ ∃ i : Nat, t.place[i]? = some j := by
 rw [List.mem_iff_getElem?]
 simp only [Array.getElem?_toList]
theorem probe_go {t : SetTable} {n : Nat} (w : Well t n) (hashAt : Nat → Int) (h : Int) : ∀ (fuel q m : Nat) (p : Probe), p = it t.mask q (S t.mask (bits h % (t.mask + 1)) (bits h)) → q ≤ m → m - q < fuel →
  way t.mask h m ∉ t.place.toList → (∀ q', q ≤ q' → q' < m → way t.mask h q' ∈ t.place.toList) →
  (∃ (q' i : Nat), q ≤ q' ∧ q' < m ∧ t.place[i]? = some (way t.mask h q') ∧ hashAt i = h ∧ (∀ q'', q ≤ q'' → q'' < q' → ∀ i : Nat, t.place[i]? = some (way t.mask h q'') → hashAt i ≠ h) ∧
   probe.go t hashAt h fuel p = some (.candidate (way t.mask h q') i (it t.mask (q' + 1) (S t.mask (bits h % (t.mask + 1)) (bits h))))) ∨
  ((∀ q'', q ≤ q'' → q'' < m → ∀ i : Nat, t.place[i]? = some (way t.mask h q'') → hashAt i ≠ h) ∧ probe.go t hashAt h fuel p = some (.empty (way t.mask h m) none)) := by
 intro fuel
 induction fuel with
 | zero => intro q m p _ _ hl; omega
 | succ fuel ih =>
  intro q m p hp hq hl hfree hocc
  have ej : p.j = way t.mask h q := by rw [hp]; rfl
  unfold probe.go
  rcases Nat.eq_or_lt_of_le hq with z | z
  ·subst z
   right
   refine ⟨fun q'' h1 h2 => absurd h2 (by omega), ?_⟩
   have es : t.slot p.j = .empty := slot_empty w.dum fun i hi => hfree (by rw [← ej]; exact mem_place.mpr ⟨i, hi⟩)
   have ed : p.dummy = none := by rw [hp, it_dummy]; rfl
   rw [es, ed, ej]
  ·obtain ⟨i, hi⟩ := mem_place.mp (hocc q (Nat.le_refl _) z)
   have es : t.slot p.j = .live i := slot_live w.rise (by rw [ej]; exact hi)
   rw [es]
   dsimp only
   have ea : t.advance p = it t.mask (q + 1) (S t.mask (bits h % (t.mask + 1)) (bits h)) := by
    rw [advance_eq, hp, it_add t.mask q 1]
    rfl
   have inj : ∀ i' : Nat, t.place[i']? = some (way t.mask h q) → i' = i := fun i' hi' => by
    rcases Nat.lt_trichotomy i' i with y | y | y
    ·exact absurd (w.rise _ _ _ _ y hi' hi) (Nat.lt_irrefl _)
    ·exact y
    ·exact absurd (w.rise _ _ _ _ y hi hi') (Nat.lt_irrefl _)
   by_cases hh : hashAt i = h
   ·left
    refine ⟨q, i, Nat.le_refl _, z, hi, hh, fun q'' h1 h2 => absurd h2 (by omega), ?_⟩
    rw [if_pos (by rw [hh]; exact beq_self_eq_true _), ej, ea]
   ·rw [if_neg (by simpa using hh), ea]
    rcases ih (q + 1) m _ rfl z (by omega) hfree (fun q' h1 h2 => hocc q' (by omega) h2) with ⟨q', i', h1, h2, h3, h4, h5, h6⟩ | ⟨h1, h2⟩
    ·left
     refine ⟨q', i', by omega, h2, h3, h4, fun q'' g1 g2 i2 g3 => ?_, h6⟩
     rcases Nat.eq_or_lt_of_le g1 with y | y
     ·subst y
      rw [inj i2 g3]
      exact hh
     ·exact h5 q'' y g2 i2 g3
    ·right
     refine ⟨fun q'' g1 g2 i2 g3 => ?_, h2⟩
     rcases Nat.eq_or_lt_of_le g1 with y | y
     ·subst y
      rw [inj i2 g3]
      exact hh
     ·exact h1 q'' y g2 i2 g3
theorem insertAt_list {α : Type} (xs : Array α) (p : Nat) (x : α) (hp : p ≤ xs.size) : (insertAt xs p x).toList = xs.toList.take p ++ x :: xs.toList.drop p := by
 unfold insertAt
 rw [Array.toList_append, Array.toList_push, Array.toList_extract, Array.toList_extract]
 simp only [List.extract_eq_take_drop, List.drop_zero, Nat.sub_zero, List.append_assoc, List.singleton_append]
 rw [List.take_of_length_le (l := xs.toList.drop p) (by rw [List.length_drop, Array.length_toList]; exact Nat.le_refl _)]
theorem insertAt_get {α : Type} (xs : Array α) (p : Nat) (x : α) (hp : p ≤ xs.size) (i : Nat) : (insertAt xs p x)[i]? = if i < p then xs[i]? else if i = p then some x else xs[i - 1]? := by
 rw [← Array.getElem?_toList, insertAt_list xs p x hp]
 have hl : (xs.toList.take p).length = p := by rw [List.length_take, Array.length_toList]; omega
 by_cases h1 : i < p
 ·rw [if_pos h1, List.getElem?_append_left (by omega), List.getElem?_take_of_lt h1, Array.getElem?_toList]
 ·rw [if_neg h1, List.getElem?_append_right (by omega), hl]
  by_cases h2 : i = p
  ·subst h2
   rw [if_pos rfl, Nat.sub_self, List.getElem?_cons_zero]
  ·rw [if_neg h2, show i - p = (i - p - 1) + 1 by omega, List.getElem?_cons_succ, List.getElem?_drop, show p + (i - p - 1) = i - 1 by omega, Array.getElem?_toList]
theorem insertAt_size {α : Type} (xs : Array α) (p : Nat) (x : α) (hp : p ≤ xs.size) : (insertAt xs p x).size = xs.size + 1 := by
 rw [← Array.length_toList, insertAt_list xs p x hp, List.length_append, List.length_cons, List.length_take, List.length_drop, Array.length_toList]
 omega
theorem Well.put {t : SetTable} {n : Nat} (w : Well t n) {j : Nat} (hj : j ∉ t.place.toList) (hm : j ≤ t.mask) (hr : n + 1 < t.mask + 1) : Well (t.put j).1 (n + 1) ∧ (t.put j).1.mask = t.mask ∧ (t.put j).2 ≤ n ∧
  (t.put j).1.place = insertAt t.place (t.put j).2 j := by
 obtain ⟨h1, h2, h3⟩ := below_spec w.rise j
 have hd : has t.dummies j = false := by
  rw [w.dum]
  rfl
 have e : t.put j = ({ t with place := insertAt t.place (below t.place j) j, dummies := t.dummies }, below t.place j) := by
  unfold SetTable.put
  rw [hd]
  rfl
 have hsz := w.size
 have h3' : ∀ (q a : Nat), below t.place j ≤ q → t.place[q]? = some a → j < a := fun q a hq ha => by
  have := h3 q a hq ha
  rcases Nat.eq_or_lt_of_le this with z | z
  ·subst z
   exact absurd (mem_place.mpr ⟨q, ha⟩) hj
  ·exact z
 rw [e]
 refine ⟨⟨w.pow, w.dum, ?_, ?_, hr, ?_⟩, rfl, by omega, rfl⟩
 ·intro a b x y hab hx hy
  have hx : (insertAt t.place (below t.place j) j)[a]? = some x := hx
  have hy : (insertAt t.place (below t.place j) j)[b]? = some y := hy
  rw [insertAt_get _ _ _ h1] at hx hy
  by_cases a1 : a < below t.place j
  ·rw [if_pos a1] at hx
   by_cases b1 : b < below t.place j
   ·rw [if_pos b1] at hy
    exact w.rise _ _ _ _ hab hx hy
   ·rw [if_neg b1] at hy
    have xj := h2 a x a1 hx
    by_cases b2 : b = below t.place j
    ·rw [if_pos b2] at hy
     cases hy
     exact xj
    ·rw [if_neg b2] at hy
     have := h3' (b - 1) y (by omega) hy
     omega
  ·rw [if_neg a1] at hx
   rw [if_neg (by omega : ¬ b < below t.place j), if_neg (by omega : ¬ b = below t.place j)] at hy
   by_cases a2 : a = below t.place j
   ·rw [if_pos a2] at hx
    cases hx
    exact h3' (b - 1) y (by omega) hy
   ·rw [if_neg a2] at hx
    exact w.rise _ _ _ _ (by omega) hx hy
 ·show (insertAt t.place (below t.place j) j).size = n + 1
  rw [insertAt_size _ _ _ h1, w.size]
 ·intro i x hx
  have hx : (insertAt t.place (below t.place j) j)[i]? = some x := hx
  rw [insertAt_get _ _ _ h1] at hx
  by_cases a1 : i < below t.place j
  ·rw [if_pos a1] at hx
   exact w.inb _ _ hx
  ·rw [if_neg a1] at hx
   by_cases a2 : i = below t.place j
   ·rw [if_pos a2] at hx
    cases hx
    exact hm
   ·rw [if_neg a2] at hx
    exact w.inb _ _ hx
end ST
namespace ST
open PySem PySem.SetTable
def Held {α : Type} (t : SetTable) (es : Array (Int × α)) : Prop := ∀ (i j : Nat) (e : Int × α), t.place[i]? = some j → es[i]? = some e → ∃ n, way t.mask e.1 n = j ∧ ∀ q, q < n → way t.mask e.1 q ∈ t.place.toList
theorem put_held {α : Type} {t : SetTable} {es : Array (Int × α)} (w : Well t es.size) (hh : Held t es) {h : Int} {x : α} {m : Nat} (hr : es.size + 1 < t.mask + 1) (hf : way t.mask h m ∉ t.place.toList) (ho : ∀ q, q < m → way t.mask h q ∈ t.place.toList) :
  Held (t.put (way t.mask h m)).1 (insertAt es (t.put (way t.mask h m)).2 (h, x)) := by
 obtain ⟨w', em, hp, ep⟩ := w.put hf (way_lt _ _ _) hr
 have hps : (t.put (way t.mask h m)).2 ≤ t.place.size := by rw [w.size]; exact hp
 have sub : ∀ j, j ∈ t.place.toList → j ∈ (t.put (way t.mask h m)).1.place.toList := fun j hj => by
  rw [ep, insertAt_list _ _ _ hps]
  rw [← List.take_append_drop (t.put (way t.mask h m)).2 t.place.toList] at hj
  rcases List.mem_append.mp hj with z | z
  ·exact List.mem_append_left _ z
  ·exact List.mem_append_right _ (List.mem_cons_of_mem _ z)
 intro i j e hi he
 rw [em]
 rw [ep, insertAt_get _ _ _ hps] at hi
 rw [insertAt_get _ _ _ hp] at he
 have old : ∀ (i' : Nat), t.place[i']? = some j → es[i']? = some e → ∃ n, way t.mask e.1 n = j ∧ ∀ q, q < n → way t.mask e.1 q ∈ (t.put (way t.mask h m)).1.place.toList := fun i' h1 h2 => by
  obtain ⟨n, a, b⟩ := hh i' j e h1 h2
  exact ⟨n, a, fun q hq => sub _ (b q hq)⟩
 by_cases a1 : i < (t.put (way t.mask h m)).2
 ·rw [if_pos a1] at hi he
  exact old i hi he
 ·rw [if_neg a1] at hi he
  by_cases a2 : i = (t.put (way t.mask h m)).2
  ·rw [if_pos a2] at hi he
   cases hi
   cases he
   exact ⟨m, rfl, fun q hq => sub _ (ho q hq)⟩
  ·rw [if_neg a2] at hi he
   exact old (i - 1) hi he
def owned (owner : Array (Option Nat)) (j : Nat) : Prop := ∃ v, owner[j]? = some (some v)
theorem isNone_iff {mask : Nat} {owner : Array (Option Nat)} (hsz : owner.size = mask + 1) {j : Nat} (hj : j ≤ mask) : (owner.getD j (some 0)).isNone = true ↔ owner[j]? = some none := by
 have h : j < owner.size := by omega
 unfold Array.getD
 rw [dif_pos h, Array.getElem?_eq_getElem h]
 show owner[j].isNone = true ↔ some owner[j] = some none
 rw [Option.isNone_iff_eq_none, Option.some.injEq]
theorem own_or {mask : Nat} {owner : Array (Option Nat)} (hsz : owner.size = mask + 1) {j : Nat} (hj : j ≤ mask) : owner[j]? = some none ∨ owned owner j := by
 have h : j < owner.size := by omega
 rw [Array.getElem?_eq_getElem h]
 cases e : owner[j] with
 | none => exact .inl rfl
 | some v => exact .inr ⟨v, by rw [Array.getElem?_eq_getElem h, e]⟩
theorem free_spec {mask : Nat} {owner : Array (Option Nat)} (hsz : owner.size = mask + 1) : ∀ (fuel i pert r : Nat), i ≤ mask → r < fuel → owner[(lp mask r (i, pert)).1]? = some none →
  ∃ n j, layClean.free mask owner fuel i pert = some j ∧ (it mask n (S mask i pert)).j = j ∧ owner[j]? = some none ∧ ∀ q, q < n → owned owner (it mask q (S mask i pert)).j := by
 intro fuel
 induction fuel with
 | zero => intro i pert r _ h; omega
 | succ fuel ih =>
  intro i pert r hi hr hfree
  have hge := run_ge mask i
  have hin := run_in hi
  have jq : ∀ q, q ≤ runEnd mask i - i → (it mask q (S mask i pert)).j = i + q := fun q hq => by rw [run_q q hq]
  unfold layClean.free
  cases hf : (List.range (runEnd mask i + 1 - i)).find? fun k => (owner.getD (i + k) (some 0)).isNone with
  | some k =>
   dsimp only
   have h1 := List.find?_some hf
   have h2 := List.mem_of_find?_eq_some hf
   rw [List.mem_range] at h2
   have h1' := (isNone_iff hsz (by omega)).mp h1
   refine ⟨k, i + k, rfl, jq k (by omega), h1', fun q hq => ?_⟩
   rw [jq q (by omega)]
   rcases own_or hsz (j := i + q) (by omega) with z | z
   ·have hb := List.find?_range_eq_some.mp hf
    have := hb.2.2 q hq
    simp only [Bool.not_eq_true'] at this
    rw [(isNone_iff hsz (by omega)).mpr z] at this
    cases this
   ·exact z
  | none =>
   dsimp only
   have hno := List.find?_eq_none.mp hf
   have allo : ∀ q, q ≤ runEnd mask i - i → owned owner (i + q) := fun q hq => by
    rcases own_or hsz (j := i + q) (by omega) with z | z
    ·exact absurd ((isNone_iff hsz (by omega)).mpr z) (hno q (by rw [List.mem_range]; omega))
    ·exact z
   cases r with
   | zero =>
    obtain ⟨v, hv⟩ := allo 0 (Nat.zero_le _)
    have hfree : owner[i]? = some none := hfree
    rw [Nat.add_zero, hfree] at hv
    cases hv
   | succ r =>
    rw [lp_succ'] at hfree
    obtain ⟨n, j, h1, h2, h3, h4⟩ := ih (leap mask i pert).1 (leap mask i pert).2 r (Nat.le_of_lt_succ (leap_lt mask i pert)) (by omega) hfree
    refine ⟨runEnd mask i - i + 1 + n, j, h1, by rw [it_add, run_next]; exact h2, h3, fun q hq => ?_⟩
    rcases Nat.lt_or_ge q (runEnd mask i - i + 1) with z | z
    ·rw [jq q (by omega)]
     exact allo q (by omega)
    ·obtain ⟨d, rfl⟩ : ∃ d, q = runEnd mask i - i + 1 + d := ⟨q - (runEnd mask i - i + 1), by omega⟩
     rw [it_add, run_next]
     exact h4 d (by omega)
structure Lay (mask : Nat) (hs : List Int) (owner : Array (Option Nat)) : Prop where
 sz : owner.size = mask + 1
 lt : ∀ (j v : Nat), owner[j]? = some (some v) → v < hs.length
 inj : ∀ (j j' v : Nat), owner[j]? = some (some v) → owner[j']? = some (some v) → j = j'
 all : ∀ (v : Nat) (h : Int), hs[v]? = some h → ∃ n, owner[way mask h n]? = some (some v) ∧ ∀ q, q < n → owned owner (way mask h q)
theorem Lay.few {mask : Nat} {hs : List Int} {owner : Array (Option Nat)} (L : Lay mask hs owner) : ((List.range (mask + 1)).filter fun j => (owner.getD j none).isSome).length ≤ hs.length := by
 have get : ∀ j, j ∈ (List.range (mask + 1)).filter (fun j => (owner.getD j none).isSome) → owner[j]? = some (some ((owner.getD j none).getD 0)) := fun j hj => by
  rw [List.mem_filter, List.mem_range] at hj
  have h : j < owner.size := by have := L.sz; omega
  obtain ⟨h1, h2⟩ := hj
  unfold Array.getD at h2 ⊢
  rw [dif_pos h] at h2 ⊢
  rw [Array.getElem?_eq_getElem h]
  have h2 : owner[j].isSome = true := h2
  show some owner[j] = some (some (owner[j].getD 0))
  cases e : owner[j] with
  | none => rw [e] at h2; cases h2
  | some v => rfl
 have nd : (((List.range (mask + 1)).filter fun j => (owner.getD j none).isSome).map fun j => (owner.getD j none).getD 0).Nodup := by
  rw [List.nodup_iff_pairwise_ne, List.pairwise_map]
  refine List.Pairwise.imp_of_mem ?_ (List.nodup_range.sublist List.filter_sublist)
  intro a b ha hb hab e
  have h1 := get a ha
  have h2 := get b hb
  rw [← e] at h2
  exact hab (L.inj a b _ h1 h2)
 have := pigeon _ (List.range hs.length) nd fun x hx => by
  obtain ⟨j, hj, rfl⟩ := List.mem_map.mp hx
  rw [List.mem_range]
  exact L.lt j _ (get j hj)
 rw [List.length_map, List.length_range] at this
 exact this
theorem Lay.step {mask k : Nat} (hk : mask + 1 = 2 ^ k) {hs : List Int} {owner : Array (Option Nat)} (L : Lay mask hs owner) (hr : hs.length < mask + 1) (h : Int) :
  ∃ j, layClean.free mask owner (turns mask) (bits h % (mask + 1)) (bits h) = some j ∧ Lay mask (hs ++ [h]) (owner.setIfInBounds j (some hs.length)) := by
 have hfew := L.few
 obtain ⟨r, hr1, hr2⟩ := free_leap hk ((List.range (mask + 1)).filter fun j => (owner.getD j none).isSome) (by omega) (bits h % (mask + 1)) (bits h) (bits_lt h)
 have hi : bits h % (mask + 1) ≤ mask := Nat.le_of_lt_succ (Nat.mod_lt _ (Nat.succ_pos _))
 have hrl : (lp mask r (bits h % (mask + 1), bits h)).1 ≤ mask := by
  cases r with
  | zero => exact hi
  | succ r => exact Nat.le_of_lt_succ (leap_lt mask _ _)
 have hfree : owner[(lp mask r (bits h % (mask + 1), bits h)).1]? = some none := by
  rcases own_or L.sz hrl with z | ⟨v, z⟩
  ·exact z
  ·refine absurd (List.mem_filter.mpr ⟨List.mem_range.mpr (Nat.lt_succ_of_le hrl), ?_⟩) hr2
   have hl : (lp mask r (bits h % (mask + 1), bits h)).1 < owner.size := by have := L.sz; omega
   rw [Array.getElem?_eq_getElem hl] at z
   unfold Array.getD
   rw [dif_pos hl]
   show (owner[(lp mask r (bits h % (mask + 1), bits h)).1]).isSome = true
   rw [Option.some.inj z]
   rfl
 obtain ⟨n, j, h1, h2, h3, h4⟩ := free_spec L.sz (turns mask) (bits h % (mask + 1)) (bits h) r hi (by unfold turns; omega) hfree
 have hjl : j < owner.size := (Array.getElem?_eq_some_iff.mp h3).1
 refine ⟨j, h1, ?_⟩
 have get : ∀ i : Nat, (owner.setIfInBounds j (some hs.length))[i]? = if i = j then some (some hs.length) else owner[i]? := fun i => by
  rw [Array.getElem?_setIfInBounds]
  by_cases e : j = i
  ·subst e
   rw [if_pos rfl, if_pos rfl, if_pos hjl]
  ·rw [if_neg e, if_neg (fun z => e z.symm)]
 have ownU : ∀ i : Nat, owned owner i → owned (owner.setIfInBounds j (some hs.length)) i := fun i ⟨v, hv⟩ => by
  refine ⟨v, ?_⟩
  rw [get, if_neg (fun e => by subst e; rw [h3] at hv; cases hv)]
  exact hv
 refine ⟨by rw [Array.size_setIfInBounds]; exact L.sz, fun i v hv => ?_, fun i i' v hv hv' => ?_, fun v h' hv => ?_⟩
 ·rw [get] at hv
  rw [List.length_append, List.length_singleton]
  by_cases e : i = j
  ·rw [if_pos e] at hv
   cases hv
   omega
  ·rw [if_neg e] at hv
   have := L.lt i v hv
   omega
 ·rw [get] at hv hv'
  by_cases e : i = j
  ·by_cases e' : i' = j
   ·omega
   ·rw [if_pos e] at hv
    rw [if_neg e'] at hv'
    cases hv
    exact absurd (L.lt _ _ hv') (Nat.lt_irrefl _)
  ·rw [if_neg e] at hv
   by_cases e' : i' = j
   ·rw [if_pos e'] at hv'
    cases hv'
    exact absurd (L.lt _ _ hv) (Nat.lt_irrefl _)
   ·rw [if_neg e'] at hv'
    exact L.inj _ _ _ hv hv'
 ·rcases Nat.lt_or_ge v hs.length with z | z
  ·rw [List.getElem?_append_left z] at hv
   obtain ⟨n', a, b⟩ := L.all v h' hv
   refine ⟨n', ?_, fun q hq => ownU _ (b q hq)⟩
   rw [get, if_neg (fun e => by rw [e, h3] at a; cases a)]
   exact a
  ·rw [List.getElem?_append_right z] at hv
   have e0 : v - hs.length = 0 := by
    rcases Nat.eq_zero_or_pos (v - hs.length) with y | y
    ·exact y
    ·rw [List.getElem?_eq_none (by rw [List.length_singleton]; exact y)] at hv
     cases hv
   rw [e0, List.getElem?_cons_zero] at hv
   have hv : h = h' := Option.some.inj hv
   subst hv
   have ev : v = hs.length := by omega
   subst ev
   refine ⟨n, ?_, fun q hq => ownU _ (h4 q hq)⟩
   rw [get, if_pos (show way mask h n = j from h2)]
theorem lay_fold {mask k : Nat} (hk : mask + 1 = 2 ^ k) : ∀ (rest hs : List Int) (owner : Array (Option Nat)), Lay mask hs owner → hs.length + rest.length < mask + 1 →
  ∃ owner', (rest.foldl (fun (acc : Option (Array (Option Nat) × Nat)) h => do
   let (owner, k) ← acc
   let j ← layClean.free mask owner (turns mask) (bits h % (mask + 1)) (bits h)
   pure (owner.setIfInBounds j (some k), k + 1)) (some (owner, hs.length))) = some (owner', hs.length + rest.length) ∧ Lay mask (hs ++ rest) owner'
 | [], hs, owner, L, _ => ⟨owner, rfl, by rw [List.append_nil]; exact L⟩
 | h :: rest, hs, owner, L, hr => by
  rw [List.length_cons] at hr
  obtain ⟨j, h1, L'⟩ := L.step hk (by omega) h
  obtain ⟨o', e, L2⟩ := lay_fold hk rest (hs ++ [h]) _ L' (by rw [List.length_append, List.length_singleton]; omega)
  refine ⟨o', ?_, by rw [List.append_assoc] at L2; exact L2⟩
  rw [List.foldl_cons]
  rw [List.length_append, List.length_singleton] at e
  rw [List.length_cons, show hs.length + (rest.length + 1) = hs.length + 1 + rest.length by omega, ← e]
  congr 1
  show (do let j ← layClean.free mask owner (turns mask) (bits h % (mask + 1)) (bits h); pure (owner.setIfInBounds j (some hs.length), hs.length + 1)) = _
  rw [h1]
  rfl
theorem layClean_spec {mask k : Nat} (hk : mask + 1 = 2 ^ k) (hashes : Array Int) (hr : hashes.size < mask + 1) : ∃ owner, layClean mask hashes = some owner ∧ Lay mask hashes.toList owner := by
 have L0 : Lay mask [] (Array.replicate (mask + 1) none) := by
  have nn : ∀ (j v : Nat), (Array.replicate (mask + 1) (none : Option Nat))[j]? ≠ some (some v) := fun j v h => by
   rw [Array.getElem?_replicate] at h
   split at h <;> cases h
  exact ⟨Array.size_replicate, fun j v h => absurd h (nn j v), fun j j' v h => absurd h (nn j v), fun v h hv => by cases hv⟩
 obtain ⟨o', e, L⟩ := lay_fold hk hashes.toList [] _ L0 (by rw [Array.length_toList]; simpa using hr)
 refine ⟨o', ?_, by simpa using L⟩
 unfold layClean
 rw [← Array.foldl_toList]
 have e' := congrArg (Option.map (·.1)) e
 exact e'
end ST
namespace ST
open PySem PySem.SetTable
theorem fm_get {α β : Type} {f : α → Option β} : ∀ {l : List α}, (∀ x ∈ l, ∃ y, f x = some y) → ∀ r : Nat, (l.filterMap f)[r]? = l[r]?.bind f
 | [], _, r => by simp
 | x :: l, h, r => by
  obtain ⟨y, hy⟩ := h x List.mem_cons_self
  rw [List.filterMap_cons_some hy]
  cases r with
  | zero => simp [hy]
  | succ r =>
   rw [List.getElem?_cons_succ, List.getElem?_cons_succ]
   exact fm_get (fun z hz => h z (List.mem_cons_of_mem _ hz)) r
theorem fm_range {α : Type} (l : List α) : (List.range l.length).filterMap (fun v => l[v]?) = l := by
 apply List.ext_getElem?
 intro r
 rw [fm_get (fun v hv => ⟨_, List.getElem?_eq_getElem (List.mem_range.mp hv)⟩)]
 rcases Nat.lt_or_ge r l.length with z | z
 ·rw [List.getElem?_range z]
  rfl
 ·rw [List.getElem?_eq_none (by rw [List.length_range]; exact z), List.getElem?_eq_none z]
  rfl
def liveOf (mask : Nat) (owner : Array (Option Nat)) : List (Nat × Nat) := (List.range (mask + 1)).filterMap fun j => (owner.getD j none).map (j, ·)
theorem getD_some {owner : Array (Option Nat)} {j v : Nat} : owner.getD j none = some v ↔ owner[j]? = some (some v) := by
 unfold Array.getD
 by_cases h : j < owner.size
 ·rw [dif_pos h, Array.getElem?_eq_getElem h]
  show owner[j] = some v ↔ _
  rw [Option.some.injEq]
 ·rw [dif_neg h, Array.getElem?_eq_none (by omega)]
  simp
theorem mem_live {mask : Nat} {owner : Array (Option Nat)} {j v : Nat} : (j, v) ∈ liveOf mask owner ↔ j < mask + 1 ∧ owner[j]? = some (some v) := by
 unfold liveOf
 rw [List.mem_filterMap]
 constructor
 ·rintro ⟨a, ha, e⟩
  obtain ⟨v', h1, h2⟩ := Option.map_eq_some_iff.mp e
  cases h2
  exact ⟨List.mem_range.mp ha, getD_some.mp h1⟩
 ·rintro ⟨h1, h2⟩
  exact ⟨j, List.mem_range.mpr h1, by rw [getD_some.mpr h2]; rfl⟩
theorem live_rise (mask : Nat) (owner : Array (Option Nat)) : (liveOf mask owner).Pairwise fun a b => a.1 < b.1 := by
 unfold liveOf
 rw [List.pairwise_filterMap]
 refine List.pairwise_lt_range.imp ?_
 intro a b hab x hx y hy
 obtain ⟨_, _, h1⟩ := Option.map_eq_some_iff.mp hx
 obtain ⟨_, _, h2⟩ := Option.map_eq_some_iff.mp hy
 cases h1
 cases h2
 exact hab
theorem laid_spec {α : Type} {mask k : Nat} (hk : mask + 1 = 2 ^ k) (es : Array (Int × α)) (hr : es.size < mask + 1) (finger moves : Nat) (led plain : Bool) :
  ∃ t' order, laid mask finger moves led plain (es.map (·.1)) = some (t', order) ∧ t'.mask = mask ∧ order.toList.Perm (List.range es.size) ∧ Well t' es.size ∧
   (order.filterMap (es[·]?)).toList.Perm es.toList ∧ Held t' (order.filterMap (es[·]?)) := by
 obtain ⟨owner, e, L⟩ := layClean_spec hk (es.map (·.1)) (by rw [Array.size_map]; exact hr)
 have hlen : (es.map (·.1)).toList.length = es.size := by rw [Array.length_toList, Array.size_map]
 have hp : ((liveOf mask owner).map (·.2)).Perm (List.range es.size) := by
  refine (List.perm_ext_iff_of_nodup ?_ List.nodup_range).mpr fun v => ?_
  ·rw [List.nodup_iff_pairwise_ne, List.pairwise_map]
   refine List.Pairwise.imp_of_mem ?_ (live_rise mask owner)
   rintro ⟨a, v⟩ ⟨b, v'⟩ ha hb hab ev
   have ev : v = v' := ev
   subst ev
   have := L.inj a b v (mem_live.mp ha).2 (mem_live.mp hb).2
   have hab : a < b := hab
   omega
  ·rw [List.mem_map, List.mem_range]
   constructor
   ·rintro ⟨⟨j, v'⟩, h1, h2⟩
    cases h2
    have := L.lt j v' (mem_live.mp h1).2
    rwa [hlen] at this
   ·intro hv
    obtain ⟨n, h1, _⟩ := L.all v ((es.map (·.1)).toList[v]'(by rw [hlen]; exact hv)) (List.getElem?_eq_getElem _)
    refine ⟨(_, v), mem_live.mpr ⟨?_, h1⟩, rfl⟩
    have := (Array.getElem?_eq_some_iff.mp h1).1
    rw [L.sz] at this
    exact this
 have hlv : (liveOf mask owner).length = es.size := by
  have := hp.length_eq
  rw [List.length_map, List.length_range] at this
  exact this
 refine ⟨{ mask, place := ((liveOf mask owner).map (·.1)).toArray, dummies := #[], finger, led, moves, plain }, ((liveOf mask owner).map (·.2)).toArray, ?_, rfl, hp, ?_, ?_, ?_⟩
 ·unfold laid
  rw [e]
  rfl
 ·have gp : ∀ (i j : Nat), (((liveOf mask owner).map (·.1)).toArray)[i]? = some j → ∃ v, (liveOf mask owner)[i]? = some (j, v) := fun i j h => by
   rw [List.getElem?_toArray, List.getElem?_map] at h
   obtain ⟨⟨j', v⟩, h1, h2⟩ := Option.map_eq_some_iff.mp h
   cases h2
   exact ⟨v, h1⟩
  refine ⟨⟨k, hk⟩, rfl, fun i j a b hij ha hb => ?_, ?_, hr, fun i j h => ?_⟩
  ·obtain ⟨v, h1⟩ := gp i a ha
   obtain ⟨v', h2⟩ := gp j b hb
   obtain ⟨hi, e1⟩ := List.getElem?_eq_some_iff.mp h1
   obtain ⟨hj, e2⟩ := List.getElem?_eq_some_iff.mp h2
   have := List.pairwise_iff_getElem.mp (live_rise mask owner) i j hi hj hij
   rw [e1, e2] at this
   exact this
  ·show (((liveOf mask owner).map (·.1)).toArray).size = es.size
   rw [List.size_toArray, List.length_map, hlv]
  ·obtain ⟨v, h1⟩ := gp i j h
   have := (mem_live.mp (List.mem_of_getElem? h1)).1
   show j ≤ mask
   omega
 ·rw [Array.toList_filterMap]
  show (((liveOf mask owner).map (·.2)).filterMap (es[·]?)).Perm es.toList
  refine (hp.filterMap _).trans ?_
  have := fm_range es.toList
  rw [Array.length_toList] at this
  simp only [Array.getElem?_toList] at this
  rw [this]
 ·intro i j en hi he
  rw [← Array.getElem?_toList, Array.toList_filterMap] at he
  have he : (((liveOf mask owner).map (·.2)).filterMap (es[·]?))[i]? = some en := he
  have hi : (((liveOf mask owner).map (·.1)).toArray)[i]? = some j := hi
  rw [List.getElem?_toArray, List.getElem?_map] at hi
  obtain ⟨⟨j', v⟩, h1, h2⟩ := Option.map_eq_some_iff.mp hi
  cases h2
  rw [fm_get (fun x hx => ?_), List.getElem?_map, h1] at he
  ·have he : es[v]? = some en := he
   have hv := (mem_live.mp (List.mem_of_getElem? h1)).2
   have hs : (es.map (·.1)).toList[v]? = some en.1 := by
    rw [Array.getElem?_toList, Array.getElem?_map, he]
    rfl
   obtain ⟨n, h3, h4⟩ := L.all v en.1 hs
   refine ⟨n, L.inj _ _ _ h3 hv, fun q hq => ?_⟩
   obtain ⟨v', hv'⟩ := h4 q hq
   show way mask en.1 q ∈ ((liveOf mask owner).map (·.1))
   exact List.mem_map.mpr ⟨(_, v'), mem_live.mpr ⟨Nat.lt_succ_of_le (way_lt _ _ _), hv'⟩, rfl⟩
  ·have hx' := hp.mem_iff.mp hx
   rw [List.mem_range] at hx'
   exact ⟨_, Array.getElem?_eq_getElem hx'⟩
theorem sizeAbove_go (n : Nat) : ∀ (fuel a : Nat), ∃ b, sizeAbove.go n fuel (2 ^ a) = 2 ^ b ∧ (n < 2 ^ (a + fuel) → n < 2 ^ b)
 | 0, a => ⟨a, rfl, fun h => h⟩
 | fuel + 1, a => by
  unfold sizeAbove.go
  by_cases h : 2 ^ a ≤ n
  ·rw [if_pos h, ← Nat.pow_succ]
   obtain ⟨b, h1, h2⟩ := sizeAbove_go n fuel (a + 1)
   exact ⟨b, h1, fun hn => h2 (by rw [show a + 1 + fuel = a + (fuel + 1) by omega]; exact hn)⟩
  ·rw [if_neg h]
   exact ⟨a, rfl, fun _ => by omega⟩
theorem sizeAbove_spec (n : Nat) (h : n < 2 ^ 60) : ∃ k, sizeAbove n = 2 ^ k ∧ n < 2 ^ k := by
 obtain ⟨b, h1, h2⟩ := sizeAbove_go n 64 3
 exact ⟨b, h1, h2 (Nat.lt_trans h (by decide))⟩
structure Good {α : Type} (es : Array (Int × α)) (t : SetTable) : Prop where
 well : Well t es.size
 held : Held t es
 room : es.size * 5 < t.mask * 3
theorem Good.fits {α : Type} {es : Array (Int × α)} {t : SetTable} (g : Good es t) : t.fits es.size = true := by
 have h1 := g.well.size
 have h2 := g.well.room
 have h3 : t.dummies.size = 0 := by rw [g.well.dum]; rfl
 unfold SetTable.fits SetTable.fill
 rw [h1, h3]
 simp only [beq_self_eq_true, Bool.true_and, decide_eq_true_eq]
 omega
theorem Good.plain {α : Type} {es : Array (Int × α)} {t : SetTable} (g : Good es t) (b : Bool) : Good es { t with plain := b } :=
 ⟨⟨g.well.pow, g.well.dum, g.well.rise, g.well.size, g.well.room, g.well.inb⟩, g.held, g.room⟩
theorem Good.fresh {α : Type} (f m : Nat) (led : Bool) : Good (#[] : Array (Int × α)) (SetTable.fresh f m led) :=
 ⟨⟨⟨3, rfl⟩, rfl, fun i j a b _ h => by simp [SetTable.fresh] at h, rfl, by show 0 < 7 + 1; decide, fun i j h => by simp [SetTable.fresh] at h⟩, fun i j e h => by simp [SetTable.fresh] at h, by show 0 * 5 < 7 * 3; decide⟩
structure Nearly {α : Type} (es : Array (Int × α)) (t : SetTable) : Prop where
 well : Well t es.size
 held : Held t es
theorem Nearly.fits {α : Type} {es : Array (Int × α)} {t : SetTable} (g : Nearly es t) : t.fits es.size = true := by
 have h1 := g.well.size
 have h2 := g.well.room
 have h3 : t.dummies.size = 0 := by rw [g.well.dum]; rfl
 unfold SetTable.fits SetTable.fill
 rw [h1, h3]
 simp only [beq_self_eq_true, Bool.true_and, decide_eq_true_eq]
 omega
theorem Nearly.plain {α : Type} {es : Array (Int × α)} {t : SetTable} (g : Nearly es t) (b : Bool) : Nearly es { t with plain := b } :=
 ⟨⟨g.well.pow, g.well.dum, g.well.rise, g.well.size, g.well.room, g.well.inb⟩, g.held⟩
theorem Nearly.good {α : Type} {es : Array (Int × α)} {t : SetTable} (g : Nearly es t) (h : t.tooFull = false) : Good es t := by
 refine ⟨g.well, g.held, ?_⟩
 have h1 := g.well.size
 have h3 : t.dummies.size = 0 := by rw [g.well.dum]; rfl
 unfold SetTable.tooFull SetTable.fill at h
 rw [h1, h3] at h
 simp only [ge_iff_le, decide_eq_false_iff_not] at h
 omega
theorem relaid_good {α : Type} {es : Array (Int × α)} (t : SetTable) (h0 : 0 < es.size) (hs : es.size ≤ 50000) :
  ∃ t' order, t.relaid (es.map (·.1)) (grown es.size) = some (t', order) ∧ order.toList.Perm (List.range es.size) ∧ (order.filterMap (es[·]?)).toList.Perm es.toList ∧ Good (order.filterMap (es[·]?)) t' := by
 have hg : grown es.size = es.size * 4 := by
  unfold grown
  rw [if_neg (by omega)]
 obtain ⟨k, e1, e2⟩ := sizeAbove_spec (es.size * 4) (Nat.lt_of_le_of_lt (Nat.mul_le_mul_right 4 hs) (by decide))
 have hk : 2 ^ k - 1 + 1 = 2 ^ k := Nat.sub_add_cancel (Nat.one_le_two_pow)
 obtain ⟨t', order, h1, h2, h3, h4, h5, h6⟩ := laid_spec (k := k) hk es (by omega) t.finger (t.movedTo (2 ^ k - 1)) t.led t.plain
 have hsz : (order.filterMap (es[·]?)).size = es.size := by
  have := h5.length_eq
  rw [Array.length_toList, Array.length_toList] at this
  exact this
 refine ⟨t', order, ?_, h3, h5, ⟨by rw [hsz]; exact h4, h6, ?_⟩⟩
 ·unfold SetTable.relaid
  rw [hg, e1]
  exact h1
 ·rw [hsz, h2]
  omega
end ST
namespace ST
open PySem PySem.SetTable
def steps (mask : Nat) : Nat → Nat → Nat → Nat
 | 0, _, _ => 0
 | r + 1, i, pert => (runEnd mask i - i + 1) + steps mask r (leap mask i pert).1 (leap mask i pert).2
theorem steps_it (mask : Nat) : ∀ r i pert, it mask (steps mask r i pert) (S mask i pert) = S mask (lp mask r (i, pert)).1 (lp mask r (i, pert)).2
 | 0, i, pert => rfl
 | r + 1, i, pert => by
  show it mask ((runEnd mask i - i + 1) + steps mask r (leap mask i pert).1 (leap mask i pert).2) (S mask i pert) = _
  rw [it_add, run_next, steps_it, lp_succ']
def cnt (P : Nat → Bool) (n : Nat) : Nat := ((List.range n).filter P).length
theorem cnt_add (P : Nat → Bool) (a b : Nat) : cnt P (a + b) = cnt P a + cnt (fun q => P (a + q)) b := by
 unfold cnt
 rw [List.range_add, List.filter_append, List.length_append, List.filter_map, List.length_map]
 rfl
theorem cnt_run {mask i pert : Nat} (CS : List Nat) {n : Nat} (hn : n ≤ runEnd mask i - i + 1) : cnt (fun q => decide ((it mask q (S mask i pert)).j ∈ CS)) n ≤ CS.length := by
 unfold cnt
 have nd : (((List.range n).filter fun q => decide ((it mask q (S mask i pert)).j ∈ CS)).map fun q => (it mask q (S mask i pert)).j).Nodup := by
  rw [List.nodup_iff_pairwise_ne, List.pairwise_map]
  refine List.Pairwise.imp_of_mem ?_ (List.nodup_range.sublist List.filter_sublist)
  intro a b ha hb hab e
  have ha := List.mem_range.mp (List.mem_filter.mp ha).1
  have hb := List.mem_range.mp (List.mem_filter.mp hb).1
  rw [run_q a (by omega), run_q b (by omega)] at e
  have e : i + a = i + b := e
  omega
 have := pigeon _ CS nd fun x hx => by
  obtain ⟨q, hq, rfl⟩ := List.mem_map.mp hx
  exact of_decide_eq_true (List.mem_filter.mp hq).2
 rw [List.length_map] at this
 exact this
theorem cnt_runs (mask : Nat) (CS : List Nat) : ∀ (r i pert n : Nat), n ≤ steps mask r i pert → cnt (fun q => decide ((it mask q (S mask i pert)).j ∈ CS)) n ≤ r * CS.length
 | 0, i, pert, n, h => by
  have e : n = 0 := by
   have h : n ≤ 0 := h
   omega
  subst e
  exact Nat.zero_le _
 | r + 1, i, pert, n, h => by
  have h : n ≤ (runEnd mask i - i + 1) + steps mask r (leap mask i pert).1 (leap mask i pert).2 := h
  rw [Nat.succ_mul]
  rcases Nat.lt_or_ge n (runEnd mask i - i + 1) with z | z
  ·have := cnt_run (mask := mask) (i := i) (pert := pert) CS (Nat.le_of_lt z)
   omega
  ·obtain ⟨d, rfl⟩ := Nat.exists_eq_add_of_le z
   rw [cnt_add]
   have h1 := cnt_run (mask := mask) (i := i) (pert := pert) CS (Nat.le_refl _)
   have h2 := cnt_runs mask CS r (leap mask i pert).1 (leap mask i pert).2 d (by omega)
   have e : (fun q => decide ((it mask (runEnd mask i - i + 1 + q) (S mask i pert)).j ∈ CS)) = fun q => decide ((it mask q (S mask (leap mask i pert).1 (leap mask i pert).2)).j ∈ CS) := by
    funext q
    rw [it_add, run_next]
   rw [e]
   omega
theorem Well.first_cnt {t : SetTable} {n : Nat} (w : Well t n) (h : Int) : ∃ m, m < 10 * turns t.mask ∧ way t.mask h m ∉ t.place.toList ∧ (∀ q, q < m → way t.mask h q ∈ t.place.toList) ∧
  ∀ CS : List Nat, cnt (fun q => decide (way t.mask h q ∈ CS)) m ≤ (13 + n) * CS.length := by
 obtain ⟨k, hk⟩ := w.pow
 have hs := w.size
 have hr := w.room
 obtain ⟨r, h1, h2⟩ := free_leap hk t.place.toList (by rw [Array.length_toList]; omega) (bits h % (t.mask + 1)) (bits h) (bits_lt h)
 rw [Array.length_toList, hs] at h1
 have e : way t.mask h (steps t.mask r (bits h % (t.mask + 1)) (bits h)) = (lp t.mask r (bits h % (t.mask + 1), bits h)).1 := by
  unfold way
  rw [steps_it]
  rfl
 obtain ⟨m, g1, g2, g3⟩ := least (P := fun n => way t.mask h n ∉ t.place.toList) (steps t.mask r (bits h % (t.mask + 1)) (bits h)) (by rw [e]; exact h2)
 have hst : ∀ r i pert, steps t.mask r i pert ≤ 10 * r := by
  intro r
  induction r with
  | zero => intro i pert; exact Nat.le_refl _
  | succ r ih =>
   intro i pert
   have a := ih (leap t.mask i pert).1 (leap t.mask i pert).2
   have b := run_len t.mask i
   show (runEnd t.mask i - i + 1) + steps t.mask r (leap t.mask i pert).1 (leap t.mask i pert).2 ≤ _
   omega
 refine ⟨m, ?_, g2, fun q hq => Classical.byContradiction fun z => g3 q hq z, fun CS => ?_⟩
 ·have := hst r (bits h % (t.mask + 1)) (bits h)
  unfold turns
  omega
 ·refine Nat.le_trans (cnt_runs t.mask CS r _ _ m g1) (Nat.mul_le_mul_right _ h1)
theorem few_of {n : Nat} {val : Nat → Nat} {res : Nat} (hres : 0 < res) (B : Nat) (inj : ∀ i j, i < n → j < n → val i = val j → i = j) (hv : ∀ i, i < n → val i < B * res) (r : Nat) (l : List Nat) (hn : l.Nodup) (hl : ∀ i ∈ l, i < n ∧ val i % res = r) : l.length ≤ B := by
 have nd : (l.map fun i => val i / res).Nodup := by
  rw [List.nodup_iff_pairwise_ne, List.pairwise_map]
  refine List.Pairwise.imp_of_mem ?_ hn
  intro a b ha hb hab e
  refine hab (inj a b (hl a ha).1 (hl b hb).1 ?_)
  have h1 := Nat.div_add_mod (val a) res
  have h2 := Nat.div_add_mod (val b) res
  rw [(hl a ha).2] at h1
  rw [(hl b hb).2] at h2
  rw [← h1, ← h2, e]
 have := pigeon _ (List.range B) nd fun x hx => by
  obtain ⟨i, hi, rfl⟩ := List.mem_map.mp hx
  rw [List.mem_range, Nat.div_lt_iff_lt_mul hres]
  exact hv i (hl i hi).1
 rw [List.length_map, List.length_range] at this
 exact this
end ST
namespace ST
open PySem PySem.SetTable
theorem seen_false {x : Value} (hx : carriedByValue x = true) : ∀ {l : List Value}, (∀ y ∈ l, carriedByValue y = true) → ∀ {M : Model} {A : Around} {E : Value → Shared → Prop} {s : Shared} {Q : Bool → Shared → Prop}, Q false s → wpAny M A (searchCouldBeSeen x l) Q E s := by
 intro l hl M A E s Q h
 unfold searchCouldBeSeen
 simp only [hx, Bool.true_and]
 refine wpAny_bind ?_
 induction l with
 | nil =>
  simp only [List.forIn_nil]
  exact wpAny_pure (wpAny_pure h)
 | cons y r ih =>
  have hy := hl y List.mem_cons_self
  rw [List.forIn_cons]
  refine wpAny_bind ?_
  rw [if_pos (by rw [hy, Bool.or_true])]
  refine wpAny_pure ?_
  exact ih (fun z hz => hl z (List.mem_cons_of_mem _ hz))
theorem same_self {k : Int} {t : Tok} (ht : t ≠ 0) {M : Model} {A : Around} {E : Value → Shared → Prop} {s : Shared} {Q : Bool → Shared → Prop} (h : Q true s) : wpAny M A (isSame (.int k t) (.int k t)) Q E s := by
 have h0 : (t == 0) = false := beq_eq_false_iff_ne.mpr ht
 show wpAny M A (if (k == k && smallInt k) = true then isSame.cachedInt t t else isSame.created (k == k) t t) Q E s
 split
 ·unfold isSame.cachedInt
  rw [h0]
  exact wpAny_bind (wpAny_rule (wpAny_pure h))
 ·unfold isSame.created
  rw [h0]
  simp only [Bool.or_self, Bool.false_eq_true, if_false, beq_self_eq_true, if_true]
  first
   | exact wpAny_pure h
   | exact wpAny_bind (wpAny_pure (wpAny_pure h))
end ST
namespace ST
open PySem PySem.SetTable
def Ent (e : Int × Value) : Prop := ∃ (k : Int) (t : Tok), e = (hashInt k, Value.int k t) ∧ t ≠ 0 ∧ 0 ≤ k ∧ k < 2 ^ 63
def keyOf (e : Int × Value) : Int := match e.2 with
 | .int k _ => k
 | _ => 0
structure Big (es : Array (Int × Value)) (t : SetTable) : Prop where
 good : Good es t
 ent : ∀ e ∈ es.toList, Ent e
 nd : (es.toList.map keyOf).Nodup
theorem hash_nat {k : Int} (h : 0 ≤ k) : hashInt k = ((k.toNat % (2 ^ 61 - 1) : Nat) : Int) := by
 have e : rawHash k = ((k.toNat % (2 ^ 61 - 1) : Nat) : Int) := by
  have hn : k.natAbs = k.toNat := by omega
  unfold rawHash
  dsimp only
  rw [if_neg (by omega : ¬ k < 0), hn]
  have e2 : ((k.toNat : Int) % ((2 ^ 61 - 1 : Nat) : Int)) = ((k.toNat % (2 ^ 61 - 1) : Nat) : Int) := (Int.natCast_emod _ _).symm
  rw [e2, if_neg (by rw [beq_iff_eq]; omega)]
 unfold hashInt
 rw [e]
 have : ¬ ((((k.toNat % (2 ^ 61 - 1) : Nat) : Int) == -1) = true) := by
  rw [beq_iff_eq]
  omega
 rw [if_neg this]
theorem Ent.key {e : Int × Value} (h : Ent e) : e.1 = hashInt (keyOf e) ∧ 0 ≤ keyOf e ∧ keyOf e < 2 ^ 63 ∧ ∃ t, e.2 = .int (keyOf e) t ∧ t ≠ 0 := by
 obtain ⟨k, t, rfl, h1, h2, h3⟩ := h
 exact ⟨rfl, h2, h3, t, rfl, h1⟩
theorem Big.at {es : Array (Int × Value)} {t : SetTable} (B : Big es t) {i : Nat} {e : Int × Value} (h : es[i]? = some e) : Ent e :=
 B.ent e (List.mem_of_getElem? (i := i) (by rw [Array.getElem?_toList]; exact h))
def slotsOf (t : SetTable) (es : Array (Int × Value)) (h : Int) : List Nat := ((List.range es.size).filter fun i => decide ((es[i]?.map (·.1)).getD 0 = h)).map fun i => t.place.getD i 0
theorem Big.few {es : Array (Int × Value)} {t : SetTable} (B : Big es t) {h : Int} (k0 : Int) (hk0 : 0 ≤ k0) (hh : h = hashInt k0) : (slotsOf t es h).length ≤ 5 := by
 unfold slotsOf
 rw [List.length_map]
 have get : ∀ i, i < es.size → ∃ e, es[i]? = some e ∧ Ent e := fun i hi => ⟨_, Array.getElem?_eq_getElem hi, B.at (Array.getElem?_eq_getElem hi)⟩
 refine few_of (n := es.size) (val := fun i => ((es[i]?.map keyOf).getD 0).toNat) (res := 2 ^ 61 - 1) (by decide) 5 (fun i j hi hj e => ?_) (fun i hi => ?_) (k0.toNat % (2 ^ 61 - 1)) _ (List.nodup_range.sublist List.filter_sublist) fun i hi => ?_
 ·obtain ⟨a, ha, ea⟩ := get i hi
  obtain ⟨b, hb, eb⟩ := get j hj
  rw [ha, hb] at e
  have e : (keyOf a).toNat = (keyOf b).toNat := e
  have h1 := ea.key
  have h2 := eb.key
  have ek : keyOf a = keyOf b := by omega
  have q1 : (es.toList.map keyOf)[i]? = some (keyOf a) := by rw [List.getElem?_map, Array.getElem?_toList, ha]; rfl
  have q2 : (es.toList.map keyOf)[j]? = some (keyOf a) := by rw [List.getElem?_map, Array.getElem?_toList, hb, ek]; rfl
  obtain ⟨l1, z1⟩ := List.getElem?_eq_some_iff.mp q1
  obtain ⟨l2, z2⟩ := List.getElem?_eq_some_iff.mp q2
  exact (List.getElem_inj B.nd).mp (z1.trans z2.symm)
 ·obtain ⟨a, ha, ea⟩ := get i hi
  rw [ha]
  have h1 := ea.key
  show (keyOf a).toNat < 5 * (2 ^ 61 - 1)
  omega
 ·rw [List.mem_filter, List.mem_range] at hi
  obtain ⟨hi, hv⟩ := hi
  obtain ⟨a, ha, ea⟩ := get i hi
  refine ⟨hi, ?_⟩
  rw [ha] at hv ⊢
  have hv : a.1 = h := of_decide_eq_true hv
  have h1 := ea.key
  rw [h1.1, hh, hash_nat h1.2.1, hash_nat hk0] at hv
  show (keyOf a).toNat % (2 ^ 61 - 1) = _
  exact Int.ofNat.inj hv
theorem mem_slots {t : SetTable} {es : Array (Int × Value)} (w : Well t es.size) {h : Int} {i j : Nat} (h1 : t.place[i]? = some j) (h2 : (es[i]?.map (·.1)).getD 0 = h) : j ∈ slotsOf t es h := by
 unfold slotsOf
 have hi : i < es.size := by
  have := (Array.getElem?_eq_some_iff.mp h1).1
  rw [w.size] at this
  exact this
 refine List.mem_map.mpr ⟨i, List.mem_filter.mpr ⟨List.mem_range.mpr hi, decide_eq_true h2⟩, ?_⟩
 have hp : i < t.place.size := (Array.getElem?_eq_some_iff.mp h1).1
 rw [Array.getElem?_eq_getElem hp] at h1
 unfold Array.getD
 rw [dif_pos hp]
 exact Option.some.inj h1
theorem Good.noWay {es : Array (Int × Value)} {t : SetTable} (g : Good es t) : t.gaveWay = false := by
 obtain ⟨k, hk⟩ := g.well.pow
 have hr := g.room
 unfold SetTable.gaveWay
 have : t.mask % 2 ≠ 0 := by
  cases k with
  | zero =>
   rw [Nat.pow_zero] at hk
   omega
  | succ k =>
   rw [Nat.pow_succ] at hk
   omega
 exact beq_eq_false_iff_ne.mpr this
section
variable {prog : Program} {w : World} {A : Around} {E : Value → Shared → Prop} {s : Shared}
set_option maxHeartbeats 1000000 in
theorem search_wp {a : Addr} {o : Obj} {es : Array (Int × Value)} {ep : Nat} {t : SetTable} (B : Big es t) (ho : s.heap.get? a = some o) (hd : o.data = .set es ep t) {k : Int} {tk : Tok} (hk0 : 0 ≤ k) {m : Nat}
  (hm1 : m < 10 * turns t.mask) (hm2 : way t.mask (hashInt k) m ∉ t.place.toList) (hm3 : ∀ q, q < m → way t.mask (hashInt k) q ∈ t.place.toList) {Q : SetFound → Shared → Prop}
  (hQ1 : k ∈ es.toList.map keyOf → Q (.there none) s) (hQ2 : k ∉ es.toList.map keyOf → Q (.free (way t.mask (hashInt k) m) false) s) :
  ∀ (fuel q : Nat) (stand : Option Probe), stand.getD (t.probeStart (hashInt k)) = it t.mask q (S t.mask (bits (hashInt k) % (t.mask + 1)) (bits (hashInt k))) → q ≤ m →
   cnt (fun d => decide (way t.mask (hashInt k) (q + d) ∈ slotsOf t es (hashInt k))) (m - q) < fuel →
   (k ∈ es.toList.map keyOf → ∃ (n i : Nat) (e : Int × Value), q ≤ n ∧ n < m ∧ t.place[i]? = some (way t.mask (hashInt k) n) ∧ es[i]? = some e ∧ keyOf e = k) →
   wpAny (model prog w) A (setSearchFrom a (.int k tk) (hashInt k) true fuel stand) Q E s := by
 intro fuel
 induction fuel with
 | zero => intro q stand _ _ h; exact absurd h (Nat.not_lt_zero _)
 | succ fuel ih =>
  intro q stand hst hq hc hin
  have hfit := B.good.fits
  unfold setSearchFrom
  refine wpAny_bind (wpAny_setState_of ho hd hfit ?_)
  dsimp only
  rw [B.good.noWay]
  simp only [Bool.false_eq_true, if_false]
  rw [hst]
  have hp := probe_go B.good.well (fun i => (es[i]?.map (·.1)).getD 0) (hashInt k) (10 * turns t.mask) q m _ rfl hq (by omega) hm2 (fun q' _ h2 => hm3 q' h2)
  rcases hp with ⟨q', i, g1, g2, g3, g4, g5, g6⟩ | ⟨g1, g2⟩
  ·have e6 : t.probe (fun i => (es[i]?.map (·.1)).getD 0) (hashInt k) (it t.mask q (S t.mask (bits (hashInt k) % (t.mask + 1)) (bits (hashInt k)))) = some (.candidate (way t.mask (hashInt k) q') i (it t.mask (q' + 1) (S t.mask (bits (hashInt k) % (t.mask + 1)) (bits (hashInt k))))) := g6
   have hi : i < es.size := by
    have := (Array.getElem?_eq_some_iff.mp g3).1
    rw [B.good.well.size] at this
    exact this
   have hei : es[i]? = some es[i] := Array.getElem?_eq_getElem hi
   obtain ⟨kk, kt, ke, kt0, kk0, kk1⟩ := B.at hei
   have hno : q' < m := g2
   split
   ·rename_i met heq
    have hmet := Option.some.inj (heq.symm.trans e6)
    subst hmet
    dsimp only
    have car : ∀ y ∈ (es.filter fun e => e.1 == hashInt k).toList.map (·.2), carriedByValue y = true := fun y hy => by
     obtain ⟨e, he, rfl⟩ := List.mem_map.mp hy
     rw [Array.toList_filter] at he
     obtain ⟨t1, h1, _⟩ := (B.ent e (List.mem_filter.mp he).1).key.2.2.2
     rw [h1]
     rfl
    split
    ·refine wpAny_bind (seen_false rfl car ?_)
     simp only [Bool.false_eq_true, if_false]
     rw [hei, ke]
     dsimp only
     refine wpAny_bind (wpAny_holding ((intKind prog w).eqBool (a := kk) (b := k) (intKind_is _ _ _ _) (intKind_is _ _ _ _) ?_))
     refine wpAny_bind (wpAny_setState_of ho hd hfit ?_)
     dsimp only
     by_cases hkk : kk = k
     ·rw [decide_eq_true hkk]
      simp only [Bool.and_self, if_true]
      refine wpAny_pure (hQ1 (List.mem_map.mpr ⟨es[i], List.mem_of_getElem? (i := i) (by rw [Array.getElem?_toList]; exact hei), ?_⟩))
      rw [ke]
      exact hkk
     ·rw [decide_eq_false hkk]
      simp only [Bool.and_false, Bool.false_eq_true, if_false]
      have esm : t.sameMemory t.moves t.mask = some true := by
       unfold SetTable.sameMemory
       rw [if_pos (beq_self_eq_true _)]
      rw [esm]
      dsimp only
      rw [if_pos rfl, slot_live B.good.well.rise g3]
      dsimp only
      rw [hei, ke]
      dsimp only
      refine wpAny_bind (same_self kt0 ?_)
      refine wpAny_bind (wpAny_pure ?_)
      simp only [if_true]
      refine ih (q' + 1) (some _) rfl (by omega) ?_ fun hk => ?_
      ·have e1 : m - q = (q' - q) + (1 + (m - (q' + 1))) := by omega
       rw [e1, cnt_add, cnt_add] at hc
       have e2 : cnt (fun d => decide (way t.mask (hashInt k) (q + ((q' - q) + d)) ∈ slotsOf t es (hashInt k))) 1 = 1 := by
        have hmem := mem_slots B.good.well g3 g4
        unfold cnt
        rw [show List.range 1 = [0] from rfl, List.filter_cons, if_pos (by rw [show q + (q' - q + 0) = q' by omega]; exact decide_eq_true hmem)]
        rfl
       have e3 : (fun d => decide (way t.mask (hashInt k) (q + (q' - q + (1 + d))) ∈ slotsOf t es (hashInt k))) = fun d => decide (way t.mask (hashInt k) (q' + 1 + d) ∈ slotsOf t es (hashInt k)) := by
        funext d
        rw [show q + (q' - q + (1 + d)) = q' + 1 + d by omega]
       rw [e2, e3] at hc
       omega
      ·obtain ⟨n, i2, e, h1, h2, h3, h4, h5⟩ := hin hk
       rcases Nat.lt_trichotomy n q' with z | z | z
       ·exfalso
        refine g5 n h1 z i2 h3 ?_
        have := (B.at h4).key
        rw [h4]
        show e.1 = _
        rw [this.1, h5]
       ·exfalso
        subst z
        have ei : i2 = i := by
         rcases Nat.lt_trichotomy i2 i with y | y | y
         ·exact absurd (B.good.well.rise _ _ _ _ y h3 g3) (Nat.lt_irrefl _)
         ·exact y
         ·exact absurd (B.good.well.rise _ _ _ _ y g3 h3) (Nat.lt_irrefl _)
        subst ei
        rw [hei, ke] at h4
        have h4 := Option.some.inj h4
        rw [← h4] at h5
        exact hkk h5
       ·exact ⟨n, i2, e, z, h2, h3, h4, h5⟩
    ·rw [hei, ke]
     dsimp only
     refine wpAny_bind (wpAny_holding ((intKind prog w).eqBool (a := kk) (b := k) (intKind_is _ _ _ _) (intKind_is _ _ _ _) ?_))
     refine wpAny_bind (wpAny_setState_of ho hd hfit ?_)
     dsimp only
     by_cases hkk : kk = k
     ·rw [decide_eq_true hkk]
      simp only [Bool.and_self, if_true]
      refine wpAny_pure (hQ1 (List.mem_map.mpr ⟨es[i], List.mem_of_getElem? (i := i) (by rw [Array.getElem?_toList]; exact hei), ?_⟩))
      rw [ke]
      exact hkk
     ·rw [decide_eq_false hkk]
      simp only [Bool.and_false, Bool.false_eq_true, if_false]
      have esm : t.sameMemory t.moves t.mask = some true := by
       unfold SetTable.sameMemory
       rw [if_pos (beq_self_eq_true _)]
      rw [esm]
      dsimp only
      rw [if_pos rfl, slot_live B.good.well.rise g3]
      dsimp only
      rw [hei, ke]
      dsimp only
      refine wpAny_bind (same_self kt0 ?_)
      refine wpAny_bind (wpAny_pure ?_)
      simp only [if_true]
      refine ih (q' + 1) (some _) rfl (by omega) ?_ fun hk => ?_
      ·have e1 : m - q = (q' - q) + (1 + (m - (q' + 1))) := by omega
       rw [e1, cnt_add, cnt_add] at hc
       have e2 : cnt (fun d => decide (way t.mask (hashInt k) (q + ((q' - q) + d)) ∈ slotsOf t es (hashInt k))) 1 = 1 := by
        have hmem := mem_slots B.good.well g3 g4
        unfold cnt
        rw [show List.range 1 = [0] from rfl, List.filter_cons, if_pos (by rw [show q + (q' - q + 0) = q' by omega]; exact decide_eq_true hmem)]
        rfl
       have e3 : (fun d => decide (way t.mask (hashInt k) (q + (q' - q + (1 + d))) ∈ slotsOf t es (hashInt k))) = fun d => decide (way t.mask (hashInt k) (q' + 1 + d) ∈ slotsOf t es (hashInt k)) := by
        funext d
        rw [show q + (q' - q + (1 + d)) = q' + 1 + d by omega]
       rw [e2, e3] at hc
       omega
      ·obtain ⟨n, i2, e, h1, h2, h3, h4, h5⟩ := hin hk
       rcases Nat.lt_trichotomy n q' with z | z | z
       ·exfalso
        refine g5 n h1 z i2 h3 ?_
        have := (B.at h4).key
        rw [h4]
        show e.1 = _
        rw [this.1, h5]
       ·exfalso
        subst z
        have ei : i2 = i := by
         rcases Nat.lt_trichotomy i2 i with y | y | y
         ·exact absurd (B.good.well.rise _ _ _ _ y h3 g3) (Nat.lt_irrefl _)
         ·exact y
         ·exact absurd (B.good.well.rise _ _ _ _ y g3 h3) (Nat.lt_irrefl _)
        subst ei
        rw [hei, ke] at h4
        have h4 := Option.some.inj h4
        rw [← h4] at h5
        exact hkk h5
       ·exact ⟨n, i2, e, z, h2, h3, h4, h5⟩
   ·rename_i hx
    exact absurd e6 (hx _)
  ·have e6 : t.probe (fun i => (es[i]?.map (·.1)).getD 0) (hashInt k) (it t.mask q (S t.mask (bits (hashInt k) % (t.mask + 1)) (bits (hashInt k)))) = some (.empty (way t.mask (hashInt k) m) none) := g2
   split
   ·rename_i met heq
    have hmet := Option.some.inj (heq.symm.trans e6)
    subst hmet
    dsimp only
    refine wpAny_pure (hQ2 fun hk => ?_)
    obtain ⟨n, i, e, h1, h2, h3, h4, h5⟩ := hin hk
    refine g1 n h1 h2 i h3 ?_
    have := (B.at h4).key
    rw [h4]
    show e.1 = _
    rw [this.1, h5]
   ·rename_i hx
    exact absurd e6 (hx _)
end
end ST
namespace ST
open PySem PySem.SetTable
theorem freeSlot_good {α : Type} {es : Array (Int × α)} {t : SetTable} (g : Good es t) {h : Int} {m : Nat} (hm1 : m < 10 * turns t.mask) (hm2 : way t.mask h m ∉ t.place.toList) (hm3 : ∀ q, q < m → way t.mask h q ∈ t.place.toList) :
  t.freeSlot h = some (way t.mask h m, false) := by
 have hp := probe_go g.well (fun _ => h + 1) h (10 * turns t.mask) 0 m _ rfl (Nat.zero_le _) (by omega) hm2 (fun q' _ h2 => hm3 q' h2)
 rcases hp with ⟨q', i, g1, g2, g3, g4, g5, g6⟩ | ⟨g1, g2⟩
 ·exact absurd g4 (by omega)
 ·unfold SetTable.freeSlot
  have e : t.probe (fun _ => h + 1) h (t.probeStart h) = some (.empty (way t.mask h m) none) := g2
  rw [e]
  rfl
theorem Good.more {α : Type} {es : Array (Int × α)} {t : SetTable} (g : Good es t) : es.size + 1 < t.mask + 1 := by
 have := g.room
 omega
theorem put_nearly {α : Type} {es : Array (Int × α)} {t : SetTable} (g : Good es t) {h : Int} {x : α} {m : Nat} (hm2 : way t.mask h m ∉ t.place.toList) (hm3 : ∀ q, q < m → way t.mask h q ∈ t.place.toList) :
  Nearly (insertAt es (t.put (way t.mask h m)).2 (h, x)) (t.put (way t.mask h m)).1 ∧ (t.put (way t.mask h m)).2 ≤ es.size := by
 obtain ⟨w', em, hp, ep⟩ := g.well.put hm2 (way_lt _ _ _) g.more
 refine ⟨⟨?_, put_held g.well g.held g.more hm2 hm3⟩, hp⟩
 rw [insertAt_size _ _ _ hp]
 exact w'
theorem layNew_good {es : Array (Int × Value)} {t : SetTable} (g : Good es t) {h : Int} {x : Value} {m : Nat} (hm1 : m < 10 * turns t.mask) (hm2 : way t.mask h m ∉ t.place.toList) (hm3 : ∀ q, q < m → way t.mask h q ∈ t.place.toList) :
  layNew t es h x = (insertAt es (t.put (way t.mask h m)).2 (h, x), (t.put (way t.mask h m)).1, false, false) := by
 obtain ⟨N, _⟩ := put_nearly (x := x) g hm2 hm3
 unfold layNew
 rw [freeSlot_good g hm1 hm2 hm3]
 dsimp only
 unfold SetTable.orStandIn
 rw [N.fits]
 rfl
theorem relay_good {es : Array (Int × Value)} {t : SetTable} (h0 : 0 < es.size) (hs : es.size ≤ 50000) : ∃ es' t', relayAll t es (grown es.size) = (es', t', false) ∧ es'.toList.Perm es.toList ∧ Good es' t' := by
 obtain ⟨t', order, h1, h2, h3, h4⟩ := relaid_good t h0 hs
 refine ⟨order.filterMap (es[·]?), t', ?_, h3, h4⟩
 unfold relayAll
 rw [h1]
 dsimp only
 have hc : coversAll order es.size = true := List.isPerm_iff.mpr h2
 have hf : t'.fits (order.filterMap (es[·]?)).size = true := h4.fits
 rw [hc, hf]
 rfl
theorem Big.elems {prog : Program} {w : World} {es : Array (Int × Value)} {t : SetTable} (B : Big es t) : ElemsOf (intKind prog w) es.toList := fun e he => by
 obtain ⟨k, tk, rfl, _⟩ := B.ent e he
 exact ⟨⟨k, intKind_is _ _ _ _, rfl⟩, rfl⟩
theorem Big.perm {es es' : Array (Int × Value)} {t t' : SetTable} (B : Big es t) (g : Good es' t') (p : es'.toList.Perm es.toList) : Big es' t' ∧ ∀ j, j ∈ es'.toList.map keyOf ↔ j ∈ es.toList.map keyOf :=
 ⟨⟨g, fun e he => B.ent e (p.mem_iff.mp he), (p.map keyOf).nodup_iff.mpr B.nd⟩, fun j => (p.map keyOf).mem_iff⟩
structure Next (es : Array (Int × Value)) (k : Int) (es1 : Array (Int × Value)) (t1 : SetTable) : Prop where
 near : Nearly es1 t1
 ent : ∀ e ∈ es1.toList, Ent e
 nd : (es1.toList.map keyOf).Nodup
 mem : ∀ j, j ∈ es1.toList.map keyOf ↔ j ∈ es.toList.map keyOf ∨ j = k
 size : es1.size = es.size + 1
theorem next_of {es : Array (Int × Value)} {t : SetTable} (B : Big es t) {k : Int} {tk : Tok} (ht : tk ≠ 0) (hk0 : 0 ≤ k) (hk1 : k < 2 ^ 63) (hn : k ∉ es.toList.map keyOf) {m : Nat} (hm2 : way t.mask (hashInt k) m ∉ t.place.toList) (hm3 : ∀ q, q < m → way t.mask (hashInt k) q ∈ t.place.toList) :
  Next es k (insertAt es (t.put (way t.mask (hashInt k) m)).2 (hashInt k, .int k tk)) (t.put (way t.mask (hashInt k) m)).1 := by
 obtain ⟨N, hp⟩ := put_nearly (x := Value.int k tk) B.good hm2 hm3
 have p := SetTable.insertAt_perm es (t.put (way t.mask (hashInt k) m)).2 (hashInt k, Value.int k tk)
 rw [Array.toList_push] at p
 have pk : ((insertAt es (t.put (way t.mask (hashInt k) m)).2 (hashInt k, Value.int k tk)).toList.map keyOf).Perm (es.toList.map keyOf ++ [k]) := by
  have := p.map keyOf
  rw [List.map_append] at this
  exact this
 refine ⟨N, fun e he => ?_, pk.nodup_iff.mpr ?_, fun j => ?_, insertAt_size _ _ _ hp⟩
 ·rcases List.mem_append.mp (p.mem_iff.mp he) with z | z
  ·exact B.ent e z
  ·rw [List.mem_singleton] at z
   subst z
   exact ⟨k, tk, rfl, ht, hk0, hk1⟩
 ·rw [List.nodup_append]
  refine ⟨B.nd, by simp, fun a ha b hb => ?_⟩
  rw [List.mem_singleton] at hb
  subst hb
  exact fun e => hn (e ▸ ha)
 ·rw [pk.mem_iff, List.mem_append, List.mem_singleton]
theorem Next.plain {es es1 : Array (Int × Value)} {k : Int} {t1 : SetTable} (n : Next es k es1 t1) (b : Bool) : Next es k es1 { t1 with plain := b } := ⟨n.near.plain b, n.ent, n.nd, n.mem, n.size⟩
theorem Next.big {es es1 : Array (Int × Value)} {k : Int} {t1 : SetTable} (n : Next es k es1 t1) (h : t1.tooFull = false) : Big es1 t1 := ⟨n.near.good h, n.ent, n.nd⟩
theorem Next.relaid {es es1 es2 : Array (Int × Value)} {k : Int} {t1 t2 : SetTable} (n : Next es k es1 t1) (g : Good es2 t2) (p : es2.toList.Perm es1.toList) : Big es2 t2 ∧ (∀ j, j ∈ es2.toList.map keyOf ↔ j ∈ es.toList.map keyOf ∨ j = k) ∧ es2.size = es.size + 1 := by
 refine ⟨⟨g, fun e he => n.ent e (p.mem_iff.mp he), (p.map keyOf).nodup_iff.mpr n.nd⟩, fun j => ((p.map keyOf).mem_iff).trans (n.mem j), ?_⟩
 have := p.length_eq
 rw [Array.length_toList, Array.length_toList] at this
 rw [this, n.size]
section
variable {prog : Program} {w : World} {A : Around} {E : Value → Shared → Prop} {s : Shared}
def SetAt (h : Heap) (a : Addr) (es : Array (Int × Value)) : Prop := ∃ o ep t, h.get? a = some o ∧ o.ExactSet ∧ o.data = .set es ep t ∧ Big es t
theorem stored {h : Heap} {a : Addr} {o : Obj} {es : Array (Int × Value)} {ep : Nat} {t : SetTable} (ho : h.get? a = some o) (hd : o.data = .set es ep t) (es' : Array (Int × Value)) (t' : SetTable) :
  (h.update a (Obj.putSet es' t')).get? a = some { o with data := .set es' (ep + 1) t' } := by
 have := Heap.get?_update_self (Obj.putSet es' t') ho (by rw [putSet_of es' t' hd]; rfl)
 rw [putSet_of es' t' hd] at this
 exact this
theorem small_line {n : Nat} (h : n ≤ 50000) : n ≤ sizeLine := by rw [sizeLine_eq]; omega
theorem sizeAbove_le (n : Nat) : ∀ (fuel size : Nat), sizeAbove.go n fuel size ≤ max size (2 * n)
 | 0, size => Nat.le_max_left _ _
 | fuel + 1, size => by
  unfold sizeAbove.go
  by_cases h : size ≤ n
  ·rw [if_pos h]
   have := sizeAbove_le n fuel (size * 2)
   omega
  ·rw [if_neg h]
   exact Nat.le_max_left _ _
theorem via {α : Type} {x y : Sem α} {M : Model} {Q : α → Shared → Prop} (e : x = y) (h : wpAny M A y Q E s) : wpAny M A x Q E s := e ▸ h
theorem relay_wp {a : Addr} {o : Obj} {es : Array (Int × Value)} {ep : Nat} {t : SetTable} (ho : s.heap.get? a = some o) (hd : o.data = .set es ep t) (hf : t.fits es.size = true) (h0 : 0 < es.size) (hs : es.size ≤ 50000) {Q : Unit → Shared → Prop}
  (h : ∀ es2 t2, es2.toList.Perm es.toList → Good es2 t2 → Q () { s with heap := s.heap.update a (Obj.putSet es2 t2) }) : wpAny (model prog w) A (setRelay a (grown es.size)) Q E s := by
 obtain ⟨t', order, h1, h2, h3, h4⟩ := relaid_good t h0 hs
 have hsz : (order.filterMap (es[·]?)).size = es.size := by
  have := h3.length_eq
  rw [Array.length_toList, Array.length_toList] at this
  exact this
 unfold setRelay
 refine wpAny_bind (wpAny_setState_of ho hd hf ?_)
 dsimp only
 have hb : ¬ sizeAbove (grown es.size) > sizeLine := by
  have := sizeAbove_le (grown es.size) 64 8
  have e : sizeAbove (grown es.size) = sizeAbove.go (grown es.size) 64 8 := rfl
  have hg : grown es.size = es.size * 4 := by
   unfold grown
   rw [if_neg (by omega)]
  rw [sizeLine_eq]
  omega
 rw [if_neg hb, h1]
 refine wpAny_bind (via (y := do
  let some (t, order) := (some (t', order) : Option (SetTable × Array Nat)) | unsupported "internal:set-table-without-room"
  let es' := order.filterMap (es[·]?)
  if es'.size != es.size then unsupported "internal:set-table-lost-an-element"
  pure (es', t)) (by rfl) ?_)
 dsimp only
 rw [hsz]
 simp only [bne_self_eq_false, Bool.false_eq_true, if_false]
 refine wpAny_pure ?_
 exact wpAny_storeSet_of ho hd (h _ _ h3 h4) (small_line (by rw [hsz]; exact hs))
set_option maxHeartbeats 2000000 in
theorem add_wp {a : Addr} {es : Array (Int × Value)} (hS : SetAt s.heap a es) (hz : es.size ≤ 19000) {k : Int} {tk : Tok} (ht : tk ≠ 0) (hk0 : 0 ≤ k) (hk1 : k < 2 ^ 63) {Q : Bool → Shared → Prop}
  (h : ∀ h' es' b, Heap.SameBut a s.heap h' → SetAt h' a es' → (∀ j, j ∈ es'.toList.map keyOf ↔ j ∈ es.toList.map keyOf ∨ j = k) → es'.size ≤ es.size + 1 → Q b { s with heap := h' }) :
  wpAny (model prog w) A (setAddHashed a (.int k tk) (hashInt k)) Q E s := by
 obtain ⟨o, ep, t, ho, hex, hd, B⟩ := hS
 have hfit := B.good.fits
 obtain ⟨m, hm1, hm2, hm3, hcnt⟩ := B.good.well.first_cnt (hashInt k)
 have there : k ∈ es.toList.map keyOf → ∀ b, Q b s := fun hk b => by
  have := h s.heap es b (Heap.SameBut.refl a s.heap) ⟨o, ep, t, ho, hex, hd, B⟩ (fun j => ⟨.inl, fun z => z.elim id fun e => e ▸ hk⟩) (Nat.le_succ _)
  cases s
  exact this
 have tail1 : ∀ {es1 : Array (Int × Value)} {t1 : SetTable}, Next es k es1 t1 → t1.tooFull = false → ∀ b, Q b { s with heap := s.heap.update a (Obj.putSet es1 t1) } := fun {es1 t1} n hf b =>
  h _ es1 b (Heap.SameBut.update s.heap a _) ⟨_, ep + 1, t1, stored ho hd es1 t1, hex, rfl, n.big hf⟩ n.mem (Nat.le_of_eq n.size)
 have tail2 : ∀ {es1 es2 : Array (Int × Value)} {t1 t2 : SetTable}, Next es k es1 t1 → Good es2 t2 → es2.toList.Perm es1.toList → ∀ b, Q b { s with heap := (s.heap.update a (Obj.putSet es1 t1)).update a (Obj.putSet es2 t2) } := fun {es1 es2 t1 t2} n g p b => by
  obtain ⟨B2, m2, z2⟩ := n.relaid g p
  exact h _ es2 b ((Heap.SameBut.update s.heap a _).trans (Heap.SameBut.update _ a _)) ⟨_, ep + 1 + 1, t2, stored (stored ho hd es1 t1) rfl es2 t2, hex, rfl, B2⟩ m2 (Nat.le_of_eq z2)
 unfold setAddHashed setAddHashedIn
 refine wpAny_holding (wpAny_bind (wpAny_setState_of ho hd hfit ?_))
 dsimp only
 have hel : ElemsOf (intKind prog w) es.toList := B.elems
 have hmem : ∀ e ∈ es.toList, (intKind prog w).is k e.2 = true ↔ keyOf e = k := fun e he => by
  obtain ⟨k', t', rfl, _⟩ := B.ent e he
  show (k' == k) = true ↔ k' = k
  rw [beq_iff_eq]
 by_cases hb : es.size < scanBound
 ·rw [byScan_of rfl hb hel]
  simp only [if_true]
  unfold setAddByScan
  refine wpAny_bind ?_
  refine wpAny_bind (wpAny_rule ?_)
  refine wpAny_bind (wpAny_setScan_of (k := k) (intKind_is _ _ _ _) ho hd hfit hel ?_)
  cases hr : List.findIdx? (fun e => (intKind prog w).is k e.2) es.toList with
  | some j =>
   dsimp only
   obtain ⟨hj, hpj, _⟩ := List.findIdx?_eq_some_iff_getElem.mp hr
   refine wpAny_pure (wpAny_pure (there ?_ _))
   exact List.mem_map.mpr ⟨es.toList[j], List.getElem_mem hj, (hmem _ (List.getElem_mem hj)).mp hpj⟩
  | none =>
   dsimp only
   have hn : k ∉ es.toList.map keyOf := fun hk => by
    obtain ⟨e, he, hke⟩ := List.mem_map.mp hk
    have := List.findIdx?_eq_none_iff.mp hr e he
    rw [(hmem e he).mpr hke] at this
    exact Bool.noConfusion this
   have hl : layNew t es (hashInt k) (.int k tk) = _ := layNew_good (x := Value.int k tk) B.good hm1 hm2 hm3
   have nx := next_of (tk := tk) B ht hk0 hk1 hn hm2 hm3
   rw [hl]
   dsimp only
   generalize insertAt es (t.put (way t.mask (hashInt k) m)).2 (hashInt k, Value.int k tk) = es1 at nx ⊢
   generalize (t.put (way t.mask (hashInt k) m)).1 = t1 at nx ⊢
   have h1s := nx.size
   have h1z : es1.size ≤ 50000 := by omega
   refine wpAny_bind (wpAny_pure (a := ()) ?_)
   split
   ·refine wpAny_bind (wpAny_of_eq (a := true) (by rfl) ?_)
    simp only [if_true, Bool.not_false, Bool.true_and]
    refine wpAny_bind (wpAny_storeSet_of ho hd ?_ (small_line h1z))
    cases hf : t1.tooFull with
    | false =>
     simp only [Bool.false_eq_true, if_false]
     exact wpAny_pure (wpAny_pure (tail1 nx hf _))
    | true =>
     simp only [if_true]
     obtain ⟨es2, t2, hr2, p2, g2⟩ := relay_good (t := t1) (es := es1) (by omega) h1z
     rw [hr2]
     dsimp only
     refine wpAny_bind (wpAny_pure (a := ()) ?_)
     refine wpAny_bind (wpAny_storeSet_of (stored ho hd es1 t1) rfl ?_ (small_line (by rw [(by have := p2.length_eq; rw [Array.length_toList, Array.length_toList] at this; exact this : es2.size = es1.size)]; exact h1z)))
     exact wpAny_pure (wpAny_pure (tail2 nx g2 p2 _))
   ·refine wpAny_bind (wpAny_pure ?_)
    simp only [if_true, Bool.not_false, Bool.true_and]
    refine wpAny_bind (wpAny_storeSet_of ho hd ?_ (small_line h1z))
    cases hf : t1.tooFull with
    | false =>
     simp only [Bool.false_eq_true, if_false]
     exact wpAny_pure (wpAny_pure (tail1 nx hf _))
    | true =>
     simp only [if_true]
     obtain ⟨es2, t2, hr2, p2, g2⟩ := relay_good (t := t1) (es := es1) (by omega) h1z
     rw [hr2]
     dsimp only
     refine wpAny_bind (wpAny_pure (a := ()) ?_)
     refine wpAny_bind (wpAny_storeSet_of (stored ho hd es1 t1) rfl ?_ (small_line (by rw [(by have := p2.length_eq; rw [Array.length_toList, Array.length_toList] at this; exact this : es2.size = es1.size)]; exact h1z)))
     exact wpAny_pure (wpAny_pure (tail2 nx g2 p2 _))
 ·have hbs : byScan (.int k tk) es = false := by
   unfold byScan
   rw [decide_eq_false hb, Bool.and_false, Bool.false_and]
  rw [hbs]
  simp only [Bool.false_eq_true, if_false]
  unfold setSearch
  refine wpAny_bind (search_wp (tk := tk) B ho hd hk0 hm1 hm2 hm3 (fun hk => ?_) (fun hn => ?_) 100000 0 none rfl (Nat.zero_le _) ?_ fun hk => ?_)
  ·dsimp only
   exact wpAny_pure (there hk _)
  ·dsimp only
   refine wpAny_bind (wpAny_setState_of ho hd hfit ?_)
   dsimp only
   have nx := next_of (tk := tk) B ht hk0 hk1 hn hm2 hm3
   generalize insertAt es (t.put (way t.mask (hashInt k) m)).2 (hashInt k, Value.int k tk) = es1 at nx ⊢
   generalize (t.put (way t.mask (hashInt k) m)).1 = t1 at nx ⊢
   have h1s := nx.size
   have h1z : es1.size ≤ 50000 := by omega
   split
   ·refine wpAny_bind (wpAny_of_eq (a := true) (by rfl) ?_)
    simp only [if_true, Bool.not_false, Bool.true_and]
    refine wpAny_bind (wpAny_storeSet_of ho hd ?_ (small_line h1z))
    cases hf : t1.tooFull with
    | false =>
     simp only [Bool.false_eq_true, if_false]
     exact wpAny_pure (tail1 nx hf _)
    | true =>
     simp only [if_true]
     rw [← h1s]
     refine wpAny_bind (relay_wp (stored ho hd es1 t1) rfl nx.near.fits (by omega) h1z fun es2 t2 p2 g2 => ?_)
     exact wpAny_pure (tail2 nx g2 p2 _)
   ·refine wpAny_bind (wpAny_pure ?_)
    simp only [if_true, Bool.not_false, Bool.true_and]
    refine wpAny_bind (wpAny_storeSet_of ho hd ?_ (small_line h1z))
    cases hf : t1.tooFull with
    | false =>
     simp only [Bool.false_eq_true, if_false]
     exact wpAny_pure (tail1 nx hf _)
    | true =>
     simp only [if_true]
     rw [← h1s]
     refine wpAny_bind (relay_wp (stored ho hd es1 t1) rfl nx.near.fits (by omega) h1z fun es2 t2 p2 g2 => ?_)
     exact wpAny_pure (tail2 nx g2 p2 _)
  ·have := hcnt (slotsOf t es (hashInt k))
   have h5 := B.few k hk0 (h := hashInt k) rfl
   have e : (fun d => decide (way t.mask (hashInt k) (0 + d) ∈ slotsOf t es (hashInt k))) = fun d => decide (way t.mask (hashInt k) d ∈ slotsOf t es (hashInt k)) := by
    funext d
    rw [Nat.zero_add]
   rw [e, Nat.sub_zero]
   have h6 : (13 + es.size) * (slotsOf t es (hashInt k)).length ≤ (13 + es.size) * 5 := Nat.mul_le_mul_left _ h5
   omega
  ·obtain ⟨e, he, hke⟩ := List.mem_map.mp hk
   obtain ⟨i, hi⟩ := List.mem_iff_getElem?.mp he
   rw [Array.getElem?_toList] at hi
   have hil : i < t.place.size := by
    rw [B.good.well.size]
    exact (Array.getElem?_eq_some_iff.mp hi).1
   obtain ⟨n, h1, h2⟩ := B.good.held i _ e (Array.getElem?_eq_getElem hil) hi
   have eh : e.1 = hashInt k := by rw [(B.ent e he).key.1, hke]
   rw [eh] at h1 h2
   refine ⟨n, i, e, Nat.zero_le _, ?_, by rw [h1]; exact Array.getElem?_eq_getElem hil, hi, hke⟩
   rcases Nat.lt_trichotomy n m with z | z | z
   ·exact z
   ·subst z
    rw [h1] at hm2
    exact absurd (mem_place.mpr ⟨i, Array.getElem?_eq_getElem hil⟩) hm2
   ·exact absurd (h2 m z) hm2
end
end ST
namespace ST
open PySem PySem.SetTable
section
variable {prog : Program} {w : World} {A : Around} {R : Result → Shared → Prop} {I : Addr} {fp wr : List Addr} {G : Array GenState → Array GenState → Prop} {n : Nat} {P : Nat → Value → Prop} {St : Nat → Shared → Prop}
theorem SetAt.keep {h h' : Heap} {a : Addr} {es : Array (Int × Value)} (x : SetAt h a es) (k : ∀ o, h.get? a = some o → h'.get? a = some o) : SetAt h' a es := by
 obtain ⟨o, ep, t, ho, r⟩ := x
 exact ⟨o, ep, t, k o ho, r⟩
theorem fill_loop (W : WalksS prog w A.in1 I fp wr G n P St) (C : Addr) (hC : C ∉ fp) (val : Nat → Int) (hval : ∀ i v, P i v → ∃ t, v = .int (val i) t ∧ t ≠ 0 ∧ 0 ≤ val i ∧ val i < 2 ^ 63) (hn : n ≤ 18000) :
  ∀ (d i : Nat) (s : Shared) (es : Array (Int × Value)), n - i = d → i ≤ n → St i s → SetAt s.heap C es → es.size ≤ i → (∀ j, j ∈ es.toList.map keyOf ↔ ∃ q, q < i ∧ val q = j) →
   (∀ s' es', Moved (C :: wr) G s s' → SetAt s'.heap C es' → es'.size ≤ n → (∀ j, j ∈ es'.toList.map keyOf ↔ ∃ q, q < n ∧ val q = j) → R (.ok (.ret .none)) s') →
   codeAny (model prog w) A (.builtin "set.update.loop" ⟨[.ref C, .ref I], []⟩) R s := by
 have hCw : C ∉ wr := fun z => hC (W.sub _ z)
 have up : ∀ b ∈ wr, b ∈ C :: wr := fun _ z => List.mem_cons_of_mem _ z
 intro d
 induction d with
 | zero =>
  intro i s es h1 h2 h3 h4 h5 h6 h7
  obtain rfl : i = n := by omega
  refine codeAny_builtin PyProof.Rows.F.entry_set_update_loop ?_
  rw [Around.under_plainId PyProof.Rows.F.plain_set_update_loop]
  show wpAny (model prog w) A.in1 (pyNext (Value.ref I) >>= _) _ _ _
  refine wpAny_bind (W.done s _ _ h3 fun s' mv => ?_)
  show wpAny (model prog w) A.in1 (ret .none) _ _ _
  exact wpAny_pure (h7 s' es (mv.mono up) (h4.keep fun o e => mv.heap C o hCw e) h5 h6)
 | succ d ih =>
  intro i s es h1 h2 h3 h4 h5 h6 h7
  have lt : i < n := by omega
  refine codeAny_builtin PyProof.Rows.F.entry_set_update_loop ?_
  rw [Around.under_plainId PyProof.Rows.F.plain_set_update_loop]
  show wpAny (model prog w) A.in1 (pyNext (Value.ref I) >>= _) _ _ _
  refine wpAny_bind (W.item i s _ _ lt h3 fun v s' hP st mv => ?_)
  obtain ⟨t, rfl, t0, v0, v1⟩ := hval i v hP
  have h4' : SetAt s'.heap C es := h4.keep fun o e => mv.heap C o hCw e
  show wpAny (model prog w) A.in1 (holding [.int (val i) t] (setAdd C (.int (val i) t)) >>= _) _ _ _
  refine wpAny_bind (wpAny_holding ?_)
  unfold setAdd
  refine wpAny_holding (wpAny_bind ((intKind prog w).pyHash (k := val i) (intKind_is _ _ _ _) ?_))
  refine add_wp (s := { s' with toks := s'.toks + 1 }) h4' (by omega) t0 v0 v1 fun h' es' b sb S2 mem sz => ?_
  refine wpAny_pure ⟨plainId_quiet PyProof.Rows.F.plain_set_update_loop _, ih (i + 1) { s' with heap := h', toks := s'.toks + 1 } es' (by omega) lt (W.frame _ s' _ _ st (Nat.le_succ _) fun b hb o e => ?_) S2 (by omega) (fun j => ?_) fun s2 es2 mv2 S3 sz3 mem3 => ?_⟩
  ·exact (sb.2 b fun z => hC (z ▸ hb)).trans e
  ·rw [mem j, h6 j]
   constructor
   ·rintro (⟨q, a, c⟩ | e)
    ·exact ⟨q, by omega, c⟩
    ·exact ⟨i, Nat.lt_succ_self _, e.symm⟩
   ·rintro ⟨q, a, c⟩
    rcases Nat.lt_or_ge q i with z | z
    ·exact .inl ⟨q, z, c⟩
    ·have : q = i := by omega
     subst this
     exact .inr c.symm
  ·refine h7 s2 es2 (Moved.trans W.gtrans ((mv.mono up).then_heap (Nat.le_succ _) fun b o hb e => ?_) mv2) S3 sz3 mem3
   exact (sb.2 b fun z => hb (z ▸ List.mem_cons_self)).trans e
end
section
variable {prog : Program} {w : World} {A : Around} {E : Value → Shared → Prop} {s : Shared}
def Toks (vs : List Value) : Prop := ∀ (i : Int) (t : Tok), Value.int i t ∈ vs → t ≠ 0
set_option maxHeartbeats 4000000 in
theorem call_set_big {l : Addr} {items : Array Value} {ns : List Int} {Q : Value → Shared → Prop} (hh : A.handled = none) (hl : s.heap.IsList l items) (hi : PyProof.Rows.IntsAre items.toList ns) (ht : Toks items.toList) (hr : ∀ z ∈ ns, 0 ≤ z ∧ z < 2 ^ 63) (hb : items.size ≤ 18000)
  (h : ∀ (h' : Heap) (tk : Nat) (es : Array (Int × Value)), SetAt h' s.heap.objs.size es → es.size ≤ items.size → (∀ j, j ∈ es.toList.map keyOf ↔ j ∈ ns) →
   (∀ b o, b < s.heap.objs.size → s.heap.get? b = some o → h'.get? b = some o) → Q (.ref s.heap.objs.size) { s with heap := h', toks := tk }) :
  wpAny (model prog w) A (call (.type "set") [.ref l]) Q E s := by
 obtain ⟨c0, tl0, hmro⟩ := F.called_set.mro
 have hmade := F.called_set.made; have hsub := F.called_set.sub
 refine wpAny_call (codeAny_of_tree ?_); show wpAny _ _ (callAny (.type "set") _) _ _ _
 refine wpAny_pure ⟨Code.quiet_builtin _ (by decide +kernel), codeAny_builtin F.entry_type_call ?_⟩; rw [Around.under_plain (weight_type_call_type "set" [.ref l] []) rfl]
 have h1 := F.called_set.notType; have h2 := F.called_set.canCreate; have hct := F.typeCall_set_1 (.ref l)
 repeat (any_goals (first | assumption | wp_step))
 refine codeAny_mono (code_set_new_1 (.ref l) (E := E) (Q₁ := fun x s1 => ∃ led : Bool, x = .ref s.heap.objs.size ∧ s1 = { s with heap := s.heap.push { cls := .type "set", dict := none, data := .set #[] 0 (.fresh 0 0 led) } }) fun led => ⟨led, rfl, rfl⟩) fun r s1 hr1 => ?_
 cases r with
 | error e => exact hr1
 | ok fl =>
  cases fl with
  | ret x =>
   obtain ⟨led, rfl, rfl⟩ := hr1
   generalize hN : ({ cls := .type "set", dict := none, data := .set #[] 0 (.fresh 0 0 led) } : Obj) = N
   have hS : (s.heap.push N).get? s.heap.objs.size = some N := Heap.get?_push_size _ (by rw [← hN]; rfl)
   have hT : Shared.TypeIs { s with heap := s.heap.push N } (.ref s.heap.objs.size) "set" := ⟨_, hS, by rw [← hN]⟩
   have hli := F.called_set.init.lookup; have hbi := F.called_set.init.bind (.ref s.heap.objs.size)
   repeat (any_goals (first | assumption | wp_step))
   refine codeAny_mono (codeAny_call_builtin (R := wants (fun r s2 => r = .none ∧ ∃ h' tk es, s2 = { s with heap := h', toks := tk } ∧ SetAt h' s.heap.objs.size es ∧ es.size ≤ items.size ∧ (∀ j, j ∈ es.toList.map keyOf ↔ j ∈ ns) ∧ ∀ b o, b < s.heap.objs.size → s.heap.get? b = some o → h'.get? b = some o) E)
    F.called_set.init.plain F.entry_set_init (check_set_init_1 hT ?_)) fun r2 s2 hr2 => ?_
   ·subst hN
    generalize hN : ({ cls := .type "set", dict := none, data := .set #[] 0 (.fresh 0 0 led) } : Obj) = N at hS
    obtain ⟨⟨lc, ld, lx, ls⟩, hol, hcl, nl, hdl⟩ := hl
    obtain rfl : lc = .type "list" := hcl
    obtain rfl : lx = .seq items nl := hdl
    have hol2 : (s.heap.push N).get? l = some { cls := .type "list", dict := ld, data := .seq items nl, slots := ls } := Heap.get?_push_of_some _ hol
    have q1 := F.sub_list_set; have q2 := F.sub_list_frozenset
    have q3 : (Value.type "list" == Value.type "dict") = false := by decide
    have hl1 : (s.heap.push N).IsList l items := ⟨_, hol2, rfl, nl, rfl⟩
    subst hN
    unfold Builtin.«set.__init__» noKeywords Builtin.Frozenset.updateFrom
    generalize hPI : pyIter = PI; wp_walk; subst hPI
    refine wpAny_pyIter_list hl1 ?_; refine wpAny_bind (wpAny_runValue ?_)
    have ls0 : l < s.heap.objs.size := Heap.lt_size hol
    have sz0 : (s.heap.push ({ cls := .type "set", dict := none, data := .set #[] 0 (.fresh 0 0 led) } : Obj)).objs.size = s.heap.objs.size + 1 := Heap.size_push _ _
    have nI : l ≠ (s.heap.push ({ cls := .type "set", dict := none, data := .set #[] 0 (.fresh 0 0 led) } : Obj)).objs.size := by rw [sz0]; exact Nat.ne_of_lt (Nat.lt_succ_of_lt ls0)
    have nS : s.heap.objs.size ∉ [(s.heap.push ({ cls := .type "set", dict := none, data := .set #[] 0 (.fresh 0 0 led) } : Obj)).objs.size, l] := by
     intro z
     rcases List.mem_cons.mp z with e | e
     ·rw [sz0] at e
      exact absurd e (Nat.ne_of_lt (Nat.lt_succ_self _))
     ·exact absurd (List.mem_singleton.mp e) (Nat.ne_of_gt ls0)
    have val : ∀ (i : Nat) (v : Value), items[i]? = some v → ∃ t, v = .int ((fun i => ns.getD i 0) i) t ∧ t ≠ 0 ∧ 0 ≤ (fun i => ns.getD i 0) i ∧ (fun i => ns.getD i 0) i < 2 ^ 63 := fun i v hv => by
     have hv' : items.toList[i]? = some v := by rw [Array.getElem?_toList]; exact hv
     obtain ⟨t, e⟩ := PyProof.Rows.IntsAre.int_at hi i v hv'
     have hil : i < ns.length := by rw [← PyProof.Rows.IntsAre.length hi]; exact (List.getElem?_eq_some_iff.mp hv').1
     have hm : ns.getD i 0 ∈ ns := by rw [List.getD_eq_getElem?_getD, List.getElem?_eq_getElem hil]; exact List.getElem_mem hil
     exact ⟨t, e, ht _ t (e ▸ List.mem_of_getElem? hv'), (hr _ hm).1, (hr _ hm).2⟩
    have S0 : SetAt ((s.heap.push ({ cls := .type "set", dict := none, data := .set #[] 0 (.fresh 0 0 led) } : Obj)).push { cls := .type "list_iterator", data := .fields #[.ref l, .int 0 0] }) s.heap.objs.size #[] :=
     ⟨_, 0, .fresh 0 0 led, Heap.get?_push_of_some _ hS, ⟨rfl, rfl, rfl⟩, rfl, ⟨Good.fresh _ _ _, fun e he => absurd he (by simp), by simp⟩⟩
    refine fill_loop ((Walks.list (A := A.in1.in1.in1) (by simp [hh]) _ l nI items).toS) s.heap.objs.size nS (fun i => ns.getD i 0) val hb (items.size - 0) 0 _ #[] (by omega) (Nat.zero_le _) ⟨⟨_, Heap.get?_push_size _ rfl, rfl, rfl⟩, hl1.push _⟩ S0 (Nat.zero_le _) (fun j => ⟨fun z => absurd z (by simp), fun ⟨q, a, _⟩ => absurd a (Nat.not_lt_zero _)⟩) ?_
    rintro ⟨h', g', d', tk', os'⟩ es mv S' sz mem
    obtain rfl : g' = s.gens := mv.gens
    obtain rfl : d' = s.drawn := mv.drawn
    obtain rfl : os' = s.os := mv.os
    refine wpAny_pure ?_
    show wpAny _ _ (ret Value.none) _ _ _
    refine wpAny_pure ⟨rfl, h', tk', es, rfl, S', sz, fun j => ?_, fun b o hbl e => ?_⟩
    ·have hlen : ns.length = items.size := by rw [← PyProof.Rows.IntsAre.length hi, Array.length_toList]
     rw [mem j, List.mem_iff_getElem?]
     constructor
     ·rintro ⟨q, hq, e⟩
      refine ⟨q, ?_⟩
      rw [← hlen] at hq
      have e : ns.getD q 0 = j := e
      rw [List.getD_eq_getElem?_getD, List.getElem?_eq_getElem hq] at e
      rw [List.getElem?_eq_getElem hq]
      exact congrArg some e
     ·rintro ⟨q, e⟩
      refine ⟨q, by rw [← hlen]; exact (List.getElem?_eq_some_iff.mp e).1, ?_⟩
      show ns.getD q 0 = j
      rw [List.getD_eq_getElem?_getD, e]
      rfl
    ·refine mv.heap b o ?_ (Heap.get?_push_of_some _ (Heap.get?_push_of_some _ e))
     intro z
     rcases List.mem_cons.mp z with e | e
     ·exact absurd e (Nat.ne_of_lt hbl)
     ·have e := List.mem_singleton.mp e
      rw [sz0] at e
      exact absurd e (Nat.ne_of_lt (Nat.lt_succ_of_lt hbl))
   ·cases r2 with
    | error e => exact hr2
    | ok f2 =>
     cases f2 with
     | ret r =>
      obtain ⟨rfl, h', tk, es, rfl, S', sz, mem, kp⟩ := hr2
      repeat (any_goals (first | assumption | wp_step))
      exact h _ _ es S' sz mem kp
     | next => exact hr2.elim
     | brk => exact hr2.elim
     | cont => exact hr2.elim
  | next => exact hr1.elim
  | brk => exact hr1.elim
  | cont => exact hr1.elim
end
end ST
namespace ST
open PySem PyProof.Rows
section
variable {prog : Program} {w : World} {A : Around} {E : Value → Shared → Prop} {s : Shared}
set_option maxHeartbeats 1000000 in
theorem tup_index {t : Addr} {its : List Value} {ns : List Int} {k : Int} {u : Tok} {j : Nat} {Q : Value → Shared → Prop} (ht : IsTup s.heap t its.toArray) (hi : IntsAre its ns) (hj : ns[j]? = some k) (hno : ∀ m, m < j → ns[m]? ≠ some k)
  (h : Q (.int j s.toks) { s with toks := s.toks + 1 }) : wpAny (model prog w) A (call (.builtin "tuple.index") [.ref t, .int k u]) Q E s := by
 refine wpAny_call_entry PySem.F.slot_tuple_index ht.typeIs PySem.F.entry_tuple_index ?_ (PySem.F.args_tuple_index_2 _ _)
 unfold Builtin.«tuple.index»
 refine wpAny_bind (wpAny_pure ?_)
 dsimp only
 refine wpAny_bind (tupleItemsOf_ ht ?_)
 refine wpAny_bind (wpAny_pure (wpAny_bind (wpAny_pure ?_)))
 rw [Std.Legacy.Range.forIn_eq_forIn_range']
 have er : List.range' [:min its.toArray.size its.toArray.size].start [:min its.toArray.size its.toArray.size].size [:min its.toArray.size its.toArray.size].step = List.range' 0 its.length 1 := by simp [Std.Legacy.Range.size]
 rw [er]
 have hlen := IntsAre.length hi
 have hjl : j < ns.length := (List.getElem?_eq_some_iff.mp hj).1
 have key : ∀ (d i : Nat), i + d = its.length → i ≤ j → ∀ {Q' : (Option Fin × Unit) → Shared → Prop}, Q' (some (.done (.ret (.int j s.toks))), ()) { s with toks := s.toks + 1 } →
   wpAny (model prog w) A.in1 (forIn (List.range' i d 1) ((none : Option Fin), ()) fun (i : Nat) _ => match its.toArray[i]? with
    | some y => do
     let b ← eqBool y (Value.int k u)
     if b = true then do
       let r ← retInt (i : Int)
       pure (ForInStep.done (some r, ()))
      else pure (ForInStep.yield (none, ()))
    | _ => pure (ForInStep.yield (none, ()))) Q' E s := by
  intro d
  induction d with
  | zero => intro i h1 h2; omega
  | succ d ih =>
   intro i h1 h2 Q' hq
   rw [List.range'_succ, List.forIn_cons]
   have hil : i < ns.length := by omega
   obtain ⟨t1, ht1⟩ := hi.get i ns[i] (List.getElem?_eq_getElem hil)
   have e1 : its.toArray[i]? = some (.int ns[i] t1) := by rw [List.getElem?_toArray]; exact ht1
   rw [e1]
   refine wpAny_bind (wpAny_bind (wpAny_eqBool_int ?_))
   rcases Nat.eq_or_lt_of_le h2 with z | z
   ·subst z
    have ek : ns[i] = k := by rw [List.getElem?_eq_getElem hil] at hj; exact Option.some.inj hj
    rw [ek, beq_self_eq_true, if_pos rfl]
    refine wpAny_bind ?_
    unfold retInt
    refine wpAny_bind (wpAny_mkInt (wpAny_pure ?_))
    exact wpAny_pure (wpAny_pure hq)
   ·have nk : (ns[i] == k) = false := beq_eq_false_iff_ne.mpr fun e => hno i z (by rw [List.getElem?_eq_getElem hil, e])
    rw [nk, if_neg (by simp)]
    exact wpAny_pure (ih (i + 1) (by omega) z hq)
 refine wpAny_bind (key its.length 0 (Nat.zero_add _) (Nat.zero_le _) ?_)
 exact wpAny_pure ⟨_, rfl, h⟩
end
end ST
namespace L2
open PySem PySem.Spec PyProof.Rows
section
variable {X : Cx}
theorem Inv.ledger {pins : List (Addr × Obj)} {σ : St} {H : Hp} {s : Shared} {m : Str → Option Value} {h' : Heap} {t' : Nat} (I : Inv X pins σ H s) (F0 : Fr X.base X.env.locals s.heap m) (F : Fr X.base X.env.locals h' m)
  (N : News X.base X.env.locals h' (allNews X.base s.heap X.env.locals)) : Inv X pins σ H { s with heap := h', toks := t' } := by
 have keep : ∀ b o, b ≠ X.env.locals → s.heap.get? b = some o → h'.get? b = some o := fun b o hb e => by
  cases q : X.base.get? b with
  | some u =>
   have z := I.bk b u q
   rw [e] at z
   cases z
   exact F.keep b _ q
  | none => exact (N (b, o) (mem_allNews hb q e)).1
 have hns : ∀ m', s.heap.Ns X.env.locals m' → h'.Ns X.env.locals m' := fun m' hm' => by
  have e : m' = m := by
   obtain ⟨o1, es1, ep1, g1, d1, k1, l1⟩ := hm'
   obtain ⟨o2, es2, ep2, g2, d2, k2, l2⟩ := F0.ns
   rw [g1] at g2
   cases g2
   rw [d1] at d2
   cases d2
   funext x
   rw [← l1 x, ← l2 x]
  rw [e]
  exact F.ns
 refine I.step (g' := s.gens) (d' := s.drawn) (ch := []) (fun _ z => nomatch z) (fun b o hb _ _ e _ => keep b o hb e) (fun b o hb _ _ e _ => ⟨o.slots, keep b o hb e⟩) (fun _ _ _ _ n => n) (fun b o _ e => ?_) (fun _ _ e => e) (fun _ _ _ e => e) (fun _ ps e => ⟨#[], by rw [e]; simp⟩) hns (fun b u e => ?_) I.bare
 ·by_cases hb : b = X.env.locals
  ·subst hb
   obtain ⟨o2, _, _, g2, _⟩ := F.ns
   exact ⟨o2, g2⟩
  ·exact ⟨o, keep b o hb e⟩
 ·have nl : ∀ c v, H c = some v → c ≠ X.env.locals := fun c v q z => by
   rw [z, I.free] at q
   cases q
  refine (I.hok b u e).stay (fun c v hc q => keep c v ?_ q) (fun _ q => q) fun _ _ q => q
  rcases hc with z | z
  ·rw [z]
   exact nl b u e
  ·exact nl c _ z
def tMinLen (K : PySem.W.Frag) (t : TA) : TE := fun σ H Q => t σ H fun vs H1 => ∃ (a : Addr) (ls : List (Addr × List V)), vs = [.ref a] ∧ SqL K H1 a (ls.map fun p => V.ref p.1) ∧ (∀ p ∈ ls, SqL K H1 p.1 p.2) ∧ 0 < ls.length ∧
 ∀ (i : Nat) (p : Addr × List V), ls[i]? = some p → (∀ (j : Nat) (q : Addr × List V), ls[j]? = some q → p.2.length ≤ q.2.length ∧ (j < i → p.2.length < q.2.length)) → Q (.ref p.1) H1
theorem vals_refs : ∀ {ls : List (Addr × List V)} {us : List Value}, Vals (ls.map fun p => V.ref p.1) us → us = ls.map fun p => Value.ref p.1
 | [], _, r => by
  cases r
  rfl
 | p :: ls, _, r => by
  cases r with
  | cons r1 r2 =>
   rw [vals_refs r2]
   cases r1
   rfl
theorem pe_minLen {e : Expr} {t : TA} {p p2 kpos pos : Pos} (hcalm : X.calm = true) (ha : PA X [e] t) (hg : Gl X "min") (hm : X.mg "min" = none) (hg2 : Gl X "len") (hm2 : X.mg "len" = none)
  (hs : starEach [e] X.env = [(false, eval e X.env)] := by rfl) : PE X (.Call (.Name "min" p) [e] [⟨some "key", .Name "len" p2, kpos⟩] pos) (tMinLen X.K t) := by
 intro pins s σ H Q I h
 refine wpAny_Call_Name_kw (ld_blt I hg hm (u := .builtin "min") (by rfl) ?_)
 refine callWith_builtin_kwB (by rw [hs]; rfl) rfl ?_
 refine evalArgs_kw2 rfl (thn (ha pos pins s σ H _ I h) fun us s1 ⟨vs, H1, I1, rv, a, ls, ev, hL, hE, hne, q⟩ => ?_) hs
 subst ev
 obtain ⟨u, rfl, ru⟩ := vals1 rv
 cases ru
 show wpAny _ _ (evalAll [(do let v ← eval (.Name "len" p2) X.env; standAt pos; pure v)]) _ _ s1
 refine wpAny_evalAll_cons (wpAny_bind (ld_blt I1 hg2 hm2 (u := .builtin "len") (by rfl) (wpAny_bind (wpAny_standAt (wpAny_pure (wpAny_evalAll_nil ?_))))))
 obtain ⟨its, r1, pl, hz⟩ := I1.list hL
 have e1 := vals_refs r1
 subst e1
 obtain ⟨m, F0⟩ := I1.fr
 have keepL : ∀ h, Fr X.base X.env.locals h m → News X.base X.env.locals h (allNews X.base s1.heap X.env.locals) → ∀ t', Inv X pins σ H1 { s1 with heap := h, toks := t' } := fun h F N t' => I1.ledger F0 F N
 refine kmb_min (vs := ls.map fun p => Value.ref p.1) (fun i => ((ls.map fun p => (p.2.length : Int)).getD i 0)) (I1.ok.hd hcalm) F0 news_all (fun h F N => ?_) (by rw [List.length_map]; exact hne) (fun i v hv h tk own F N => ?_) fun i v h' tk' hv hb F N => ?_
 ·obtain ⟨its', r2, pl2, _⟩ := (keepL h F N 0).list hL
  rw [vals_refs r2] at pl2
  exact pl2.isList
 ·rw [List.getElem?_map] at hv
  obtain ⟨pr, hpr, rfl⟩ := Option.map_eq_some_iff.mp hv
  have N1 : News X.base X.env.locals h (allNews X.base s1.heap X.env.locals) := fun p hp => N p (List.mem_append_left _ hp)
  obtain ⟨its', r2, pl2, hz2⟩ := (keepL h F N1 tk).list (hE pr (List.mem_of_getElem? hpr))
  have hl2 := r2.length
  have hn := line63
  refine Calls.call_len_list pl2.isList (by simp only [List.size_toArray] <;> omega) ?_
  refine ⟨h, _, tk + 1, rfl, ?_, F, N⟩
  rw [List.size_toArray, ← hl2, List.getD_eq_getElem?_getD, List.getElem?_map, hpr]
  rfl
 ·rw [List.getElem?_map] at hv
  obtain ⟨pr, hpr, rfl⟩ := Option.map_eq_some_iff.mp hv
  refine ⟨.ref pr.1, H1, keepL h' F N tk', rfl, q i pr hpr fun j qr hqr => ?_⟩
  have hjl : j < ls.length := (List.getElem?_eq_some_iff.mp hqr).1
  have z := hb j (by rw [List.length_map]; exact hjl)
  simp only [List.getD_eq_getElem?_getD, List.getElem?_map, hpr, hqr, Option.map_some, Option.getD_some] at z
  exact ⟨by omega, fun hji => by have := z.2 hji; omega⟩
end
end L2
namespace L2
open PySem PySem.Spec PyProof.Rows
def TokO (o : Obj) : Prop := ∃ its n, o.data = .seq its n ∧ ST.Toks its.toList
def FrzL (H : Hp) (a : Addr) (xs : List V) : Prop := ∃ o, H a = some (.frz o (.lst xs)) ∧ TokO o
def FrzT (H : Hp) (a : Addr) (xs : List V) : Prop := ∃ o, H a = some (.frz o (.tup xs)) ∧ o.cls = .type "tuple" ∧ o.dict = none
theorem FrzL.sq {K : PySem.W.Frag} {H : Hp} {a : Addr} {xs : List V} (h : FrzL H a xs) : SqL K H a xs := let ⟨o, e, _⟩ := h; .inl (.inr ⟨o, e⟩)
theorem FrzT.sq {K : PySem.W.Frag} {H : Hp} {a : Addr} {xs : List V} (h : FrzT H a xs) : SqT K H a xs := let ⟨o, e, _⟩ := h; .inl (.inr ⟨o, e⟩)
theorem FrzL.mono {H H' : Hp} {a : Addr} {xs : List V} (h : FrzL H a xs) (s : Same H H') : FrzL H' a xs := let ⟨o, e, t⟩ := h; ⟨o, s _ _ e, t⟩
theorem FrzT.mono {H H' : Hp} {a : Addr} {xs : List V} (h : FrzT H a xs) (s : Same H H') : FrzT H' a xs := let ⟨o, e, t⟩ := h; ⟨o, s _ _ e, t⟩
theorem toks_sub {l l' : List Value} (h : ST.Toks l) (s : ∀ v ∈ l', v ∈ l) : ST.Toks l' := fun i t m => h i t (s _ m)
section
variable {X : Cx}
def rSlF : V → Option Int → Option Int → Hp → VK → Prop := fun x lo hi H Q => ∃ a xs, x = .ref a ∧ FrzL H a xs ∧ ∀ p o, H p = none → TokO o → Q (.ref p) (upd H p (.frz o (.lst (cutV xs lo hi))))
theorem sl_frz : SlR X rSlF := by
 intro pins s σ H x v vl vu lo hi sl Q I rx hs pl pu h
 obtain ⟨a, xs, rfl, ⟨o, ho, its0, n0, hd0, tk⟩, q⟩ := h
 cases rx
 obtain ⟨e, hz, its, n, r, e2⟩ := I.hok a _ ho
 rw [e] at e2
 have e2 := Option.some.inj e2
 have hd : its0 = its.toArray := by
  rw [e2] at hd0
  exact (Data.seq.inj hd0).1.symm
 subst hd
 have isl : s.heap.IsList a its.toArray := ⟨o, e, by rw [e2], n, by rw [e2]⟩
 have hlen := r.length
 refine ⟨"list", _, slot_list_getitem.lookup, isl.typeIs, ?_⟩
 refine wpAny_getItem_list_slice isl hs pl pu .none (by simp) ?_ (by rw [List.size_toArray] <;> omega)
 rw [slicePick_cut, ← hlen]
 have hsub : ∀ v ∈ (its.drop (HT.sIx xs.length 0 lo)).take (HT.sIx xs.length xs.length hi - HT.sIx xs.length 0 lo), v ∈ its := fun v hv => List.mem_of_mem_drop (List.mem_of_mem_take hv)
 refine ⟨.ref s.heap.objs.size, _, I.laid (t' := s.toks) (o := .frz { cls := .type "list", data := .seq ((its.drop (HT.sIx xs.length 0 lo)).take (HT.sIx xs.length xs.length hi - HT.sIx xs.length 0 lo)).toArray } (.lst (cutV xs lo hi))) (fun b ob q => Heap.get?_push_of_some _ q) (Nat.le_refl _) ?_, rfl,
  q _ _ (I.hok.fresh (Nat.le_refl _)) ⟨_, _, rfl, toks_sub tk hsub⟩⟩
 exact ⟨Heap.get?_push_size _ rfl, Nat.le_trans (cutV_length xs lo hi) hz, _, 0, (r.drop (HT.sIx xs.length 0 lo)).take (HT.sIx xs.length xs.length hi - HT.sIx xs.length 0 lo), Heap.get?_push_size _ rfl⟩
theorem call_tuple_frz : CallR X (.type "tuple") (fun xs H Q => ∃ p ys, xs = [.ref p] ∧ SqL X.K H p ys ∧ ∀ l o, H l = none → o.cls = .type "tuple" → o.dict = none → Q (.ref l) (upd H l (.frz o (.tup ys)))) := by
 intro pins s σ H xs us Q I r h
 obtain ⟨p, ys, rfl, hq, q⟩ := h
 obtain ⟨u, rfl, rx⟩ := vals1 r
 cases rx
 obtain ⟨its, r', pl, hz⟩ := I.list hq
 have hlen := r'.length
 refine call_tuple_list pl.isList (fun h' kp => ?_) (by simp only [List.size_toArray] <;> omega)
 have I1 : Inv X pins σ H { s with heap := h' } := I.kept (t' := s.toks) kp
 have I2 := I1.laid (a := h'.objs.size) (o := .frz { cls := .type "tuple", data := .seq its.toArray } (.tup ys)) (h' := h'.push { cls := .type "tuple", data := .seq its.toArray }) (t' := s.toks) (fun b o e => Heap.get?_push_of_some _ e) (Nat.le_refl _)
  ⟨Heap.get?_push_size _ rfl, hz, its, r', IsTup.new _ _⟩
 exact ⟨.ref h'.objs.size, _, I2, rfl, q _ _ (I1.hok.fresh (Nat.le_refl _)) rfl rfl⟩
variable {o e : Expr} {es : List Expr} {to : TE} {t : TA} {name : Str} {apos cpos : Pos} {T id : String} {r : V → List V → Hp → VK → Prop} {P : V → Hp → Prop}
def tBMG (P : V → Hp → Prop) (r : V → List V → Hp → VK → Prop) (to : TE) (t : TA) : TE := fun σ H Q => to σ H fun x H1 => P x H1 ∧ t σ H1 fun xs H2 => r x xs H2 Q
theorem pe_bmG (hP : ∀ {pins : List (Addr × Obj)} {σ : St} {H : Hp} {s : Shared} {x : V} {v : Value}, Inv X pins σ H s → RelV x v → P x H → s.TypeIs v T ∧ ∀ a, v = .ref a → ∃ ob, s.heap.get? a = some ob ∧ ob.dict = none)
  (pa : PlainAttrs T) (slot : Slot T name id) (hty : typeOf (.builtin id) = pure (.type "method_descriptor")) (hm : MtR X id r) (ho : PE X o to) (ha : PA X [e] t)
  (hbase : attributeBase o name X.env (eval o X.env) = eval o X.env := by rfl)
  (hfew : ((backTo cpos (starEach [e] X.env)).all (fun x => !x.1) && (backToKw cpos (keywordEach [] X.env)).all (fun x => x.1.isSome) && decide ([e].length + ([] : List Keyword).length + (if ([] : List Keyword).isEmpty then 0 else 1) < 30)) = true := by rfl)
  (hline : (apos.endLine == cpos.line) = true := by rfl) (hs : starEach [e] X.env = [(false, eval e X.env)] := by rfl) :
  PE X (.Call (.Attribute o name apos) [e] [] cpos) (tBMG P r to t) := by
 intro pins s σ H Q I h
 refine wpAny_Call_method_late hbase hfew hline rfl (thn (ho pins s σ H _ I h) fun v s1 ⟨x, H1, I1, r1, ty, q1⟩ => ?_)
 obtain ⟨h1, h2⟩ := hP I1 r1 ty
 refine ⟨T, id, pa, slot, hty, h1, h2, ?_⟩
 have hA := ha cpos pins s1 σ H1 _ I1 q1
 rw [hs] at hA ⊢
 exact Calls.callWith_builtin rfl (Calls.evalArgs_plain (thn hA fun us s2 ⟨vs, H2, I2, r2, q2⟩ => hm pins s2 σ H2 x vs v us Q I2 r1 r2 q2))
theorem frzT_ty {pins : List (Addr × Obj)} {σ : St} {H : Hp} {s : Shared} {x : V} {v : Value} (I : Inv X pins σ H s) (rx : RelV x v) (h : ∃ a xs, x = .ref a ∧ FrzT H a xs) : s.TypeIs v "tuple" ∧ ∀ a, v = .ref a → ∃ ob, s.heap.get? a = some ob ∧ ob.dict = none := by
 obtain ⟨a, xs, rfl, o, ho, hc, hd⟩ := h
 cases rx
 obtain ⟨e, _⟩ := I.hok a _ ho
 exact ⟨⟨o, e, hc⟩, fun b z => by cases z; exact ⟨o, e, hd⟩⟩
def isFrzT : V → Hp → Prop := fun x H => ∃ a xs, x = .ref a ∧ FrzT H a xs
def rTix : V → List V → Hp → VK → Prop := fun x xs H Q => ∃ (a : Addr) (ns : List Int) (k : Int) (j : Nat), x = .ref a ∧ xs = [.int k] ∧ FrzT H a (ns.map V.int) ∧ ns[j]? = some k ∧ (∀ m : Nat, m < j → ns[m]? ≠ some k) ∧ Q (.int j) H
theorem mt_tindex : MtR X "tuple.index" rTix := by
 intro pins s σ H x xs v us Q I rx rxs h
 obtain ⟨a, ns, k, j, rfl, rfl, hf, hj, hno, q⟩ := h
 cases rx
 obtain ⟨u, rfl, ⟨t, rfl⟩⟩ := vals1 rxs
 obtain ⟨its, rv, ht, hz⟩ := I.tuple hf.sq
 exact ST.tup_index ht (intsAre_of rv) hj hno ⟨.int j, H, I.tok _, ⟨_, rfl⟩, q⟩
theorem pe_tix (ho : PE X o to) (ha : PA X [e] t) (hbase : attributeBase o "index" X.env (eval o X.env) = eval o X.env := by rfl)
  (hfew : ((backTo cpos (starEach [e] X.env)).all (fun x => !x.1) && (backToKw cpos (keywordEach [] X.env)).all (fun x => x.1.isSome) && decide ([e].length + ([] : List Keyword).length + (if ([] : List Keyword).isEmpty then 0 else 1) < 30)) = true := by rfl)
  (hline : (apos.endLine == cpos.line) = true := by rfl) (hs : starEach [e] X.env = [(false, eval e X.env)] := by rfl) : PE X (.Call (.Attribute o "index" apos) [e] [] cpos) (tBMG isFrzT rTix to t) :=
 pe_bmG (apos := apos) (cpos := cpos) (fun I r h => frzT_ty I r h) PySem.F.plainAttrs_tuple PySem.F.slot_tuple_index PySem.F.type_tuple_index (mt_tindex (X := X)) ho ha hbase hfew hline hs
def HoSet (p : Addr) (es : Array (Int × Value)) : HO := .ext fun h => ST.SetAt h p es
theorem call_setR (hc : X.calm = true) : CallR X (.type "set") (fun xs H Q => ∃ (a : Addr) (ns : List Int), xs = [.ref a] ∧ FrzL H a (ns.map V.int) ∧ ns.length ≤ 18000 ∧ (∀ z ∈ ns, 0 ≤ z ∧ z < 2 ^ 63) ∧
  ∀ p es, H p = none → es.size ≤ ns.length → (es.toList.map ST.keyOf).Nodup → (∀ j, j ∈ es.toList.map ST.keyOf ↔ j ∈ ns) → Q (.ref p) (upd H p (HoSet p es))) := by
 intro pins s σ H xs us Q I r h
 obtain ⟨a, ns, rfl, ⟨o, ho, its0, n0, hd0, tk⟩, hl, hb, q⟩ := h
 obtain ⟨u, rfl, rx⟩ := vals1 r
 cases rx
 obtain ⟨e, hz, its, n, rv, e2⟩ := I.hok a _ ho
 rw [e] at e2
 have e2 := Option.some.inj e2
 have hd : its0 = its.toArray := by
  rw [e2] at hd0
  exact (Data.seq.inj hd0).1.symm
 subst hd
 have isl : s.heap.IsList a its.toArray := ⟨o, e, by rw [e2], n, by rw [e2]⟩
 have hi := intsAre_of rv
 have hlen := hi.length
 refine ST.call_set_big (I.ok.hd hc) isl hi tk hb (by rw [List.size_toArray]; omega) fun h' t' es S sz mem kp => ?_
 have hnd : (es.toList.map ST.keyOf).Nodup := by
  obtain ⟨_, _, _, _, _, _, B⟩ := S
  exact B.nd
 have hget : ∃ ob, h'.get? s.heap.objs.size = some ob := by
  obtain ⟨ob, _, _, g, _⟩ := S
  exact ⟨ob, g⟩
 refine ⟨.ref s.heap.objs.size, _, I.laid (t' := t') (o := HoSet s.heap.objs.size es) (fun b ob z => kp b ob (Heap.lt_size z) z) (Nat.le_refl _) ⟨S, hget, fun h1 h2 x k => x.keep k⟩, rfl, q _ es (I.hok.fresh (Nat.le_refl _)) ?_ hnd mem⟩
 have z1 : its.toArray.size = its.length := List.size_toArray
 omega
theorem call_len_setR : CallR X (.builtin "len") (fun xs H Q => ∃ p es, xs = [.ref p] ∧ H p = some (HoSet p es) ∧ es.size ≤ 18000 ∧ Q (.int es.size) H) := by
 intro pins s σ H xs us Q I r h
 obtain ⟨p, es, rfl, hp, hz, q⟩ := h
 obtain ⟨u, rfl, rx⟩ := vals1 r
 cases rx
 obtain ⟨⟨o, ep, t, ho, hex, hd, B⟩, _⟩ := I.hok p _ hp
 exact call_len_set ho hex hd B.good.fits (by omega) ⟨.int es.size, H, I.tok _, ⟨_, rfl⟩, q⟩
def tCallV (R : Addr → Sp → Prop) (tf : TE) (t : TA) : TE := fun σ H Q => tf σ H fun x H1 => ∃ f sp, x = .ref f ∧ R f sp ∧ t σ H1 fun vs H2 => sp vs H2 Q E0
theorem pe_callV {R : Addr → Sp → Prop} {fe : Expr} {tf : TE} {pos : Pos} {es' : List Expr} (hR : ∀ f sp, R f sp → ∃ k fd ps, FnOk X.prog X.w X.K X.mg X.base CX0 k f fd ps sp ∧ Room k X.A ∧ PySem.W.keepIn X.K (.ref f) = true ∧ Binds X.K fd ps []) (hx : Passes CX0 X E0)
  (hf : PE X fe tf) (ha : PA X (e :: es') t) (hc : eval (.Call fe (e :: es') [] pos) X.env = (do callWith pos (← eval fe X.env) [] (backTo pos (starEach (e :: es') X.env)) (backToKw pos (keywordEach [] X.env))) := by rfl)
  (hs : starEach (e :: es') X.env = (false, eval e X.env) :: starEach es' X.env := by rfl) (hpl : (backTo pos (starEach es' X.env)).any (·.1) = false := by rfl) :
  PE X (.Call fe (e :: es') [] pos) (tCallV R tf t) := by
 intro pins s σ H Q I h
 refine PyProof.Rows.Call_ (thn (hf pins s σ H _ I h) fun u s1 ⟨x, H1, I1, r1, f, sp, ex, hr, q⟩ => ?_) hc
 subst ex
 obtain rfl : u = Value.ref f := r1
 obtain ⟨k, fd, ps, F, room, kp, hb⟩ := hR f sp hr
 refine PySem.W.callWith_K (h₀ := X.base) I.ok.mod.kin kp (thn (ha pos pins s1 σ H1 _ I1 q) fun us s2 ⟨vs, H2, I2, r2, q2⟩ => ⟨I2.kIn, ?_⟩) hs hpl
 refine run_fn F room hb .nil hx I2 r2 ?_
 rw [List.append_nil]
 exact q2
def KDict (K : PySem.W.Frag) (d : Addr) (k : Int) (u : Value) : Prop := ∃ (o : Obj) (es : Array DictEntry) (ep : Nat), K.lookup d = some o ∧ o.ExactDict ∧ o.data = .dict es ep ∧ IntKeys es ∧ findBy Value.isInt es k = some u
def tKGet (K : PySem.W.Frag) (td ty : TE) : TE := fun σ H Q => td σ H fun x H1 => ty σ H1 fun y H2 => ∃ d k v u, x = .ref d ∧ y = .int k ∧ KDict K d k u ∧ RelV v u ∧ Q v H2
theorem pe_kget {o' i : Expr} {td ty : TE} {pos : Pos} (ho : PE X o' td) (hi : PE X i ty) (hs : NoSl i) : PE X (.Subscript o' i pos) (tKGet X.K td ty) := by
 intro pins s σ H Q I h
 refine subD_of PySem.F.slot_dict_getitem.lookup hs (thn (ho pins s σ H _ I h) fun v s1 ⟨x, H1, I1, rx, q1⟩ => thn (hi pins s1 σ H1 _ I1 q1) fun iv s2 ⟨y, H2, I2, ry, d, k, z, u, ex, ey, ⟨o, es, ep, hk, hex, hd, ik, hf⟩, rz, q2⟩ => ?_)
 subst ex ey
 obtain rfl : v = Value.ref d := rx
 obtain ⟨t, rfl⟩ := ry
 have hm : s2.heap.MapOf (intKind X.prog X.w) d (fun k => findBy Value.isInt es k) := ⟨o, es, ep, I2.kIn _ _ hk, hex, hd, fun e he => by
  obtain ⟨k', t', e1, e2⟩ := ik e he
  exact ⟨k', by rw [e1]; exact intKind_is _ _ _ _, e2⟩, fun _ => rfl⟩
 exact ⟨hm.typeIs, wpAny_getItem_of (intKind_is _ _ _ _) hm hf ⟨z, H2, I2.tok _, rz, q2⟩⟩
end
end L2
namespace L2
open PySem PySem.Spec PyProof.Rows
section
variable {X : Cx}
def natV (n : Nat) : V := .int (n : Int)
theorem call_rangeR : CallR X (.type "range") (fun xs H Q => ∃ n : Nat, xs = [.int n] ∧ ∀ r, H r = none → Q (.ref r) (upd H r (.rng 0 n))) := by
 intro pins s σ H xs us Q I r h
 obtain ⟨n, rfl, q⟩ := h
 obtain ⟨u, rfl, ru⟩ := vals1 r
 obtain ⟨t, rfl⟩ := ru
 refine call_range_1 ?_
 exact ⟨.ref s.heap.objs.size, _, I.laid (o := .rng 0 n) (t' := s.toks + 1 + 1) (fun b o e => Heap.get?_push_of_some _ e) (Nat.le_refl _) ⟨_, _, _, Heap.get?_push_size _ rfl⟩, rfl, q _ I.fresh⟩
theorem vals_itemsI {its : List Value} {g : Nat → Int} : ∀ {n : Nat}, its.length = n → (∀ (j : Nat) (v : Value), its[j]? = some v → ∃ t, v = .int (g j) t) → Vals ((List.range n).map fun i => V.int (g i)) its := by
 intro n hl hj
 have key : ∀ (l : List Value) (k : Nat), (∀ (j : Nat) (v : Value), l[j]? = some v → ∃ t, v = .int (g (k + j)) t) → Vals ((List.range' k l.length).map fun i => V.int (g i)) l := by
  intro l
  induction l with
  | nil => intro k _; exact .nil
  | cons v l ih =>
   intro k hk
   rw [List.length_cons, List.range'_succ, List.map_cons]
   refine .cons (hk 0 v rfl) (ih (k + 1) fun j u hu => ?_)
   have := hk (j + 1) u (by simpa using hu)
   rw [Nat.add_assoc, Nat.add_comm 1 j]
   exact this
 subst hl
 rw [List.range_eq_range']
 exact key its 0 fun j v e => by rw [Nat.zero_add]; exact hj j v e
theorem call_list_rng (hc : X.calm = true) : CallR X (.type "list") (fun xs H Q => ∃ (r : Addr) (n : Nat), xs = [.ref r] ∧ H r = some (.rng 0 n) ∧ n ≤ 1000 ∧ ∀ l, H l = none → Q (.ref l) (upd H l (.lst ((List.range n).map natV)))) := by
 intro pins s σ H xs us Q I r h
 obtain ⟨a, n, rfl, ha, hn, q⟩ := h
 obtain ⟨u, rfl, rx⟩ := vals1 r
 cases rx
 obtain ⟨t, u, v, e⟩ := I.hok a _ ha
 have hr : IsRange s.heap a 0 n 1 t u v := e
 refine call_list_range (n := n) (I.ok.hd hc) hr (small_one (by omega) (by omega) (by omega) (by omega)) (by rw [rangeSize_one]; split <;> omega) (by omega) fun h' tk acc c kp hD hI => ?_
 have hl : acc.toList.length = n := by rw [Array.length_toList]; exact hI.1
 have hv : Vals ((List.range n).map natV) acc.toList := vals_itemsI (g := fun i => (i : Int)) hl fun j v hj => by
  obtain ⟨t, e⟩ := hI.2 j v (by rw [← Array.getElem?_toList]; exact hj)
  exact ⟨t, by rw [e]; congr 1; omega⟩
 refine ⟨.ref s.heap.objs.size, _, I.laid (t' := tk) (o := .lst ((List.range n).map natV)) kp (Nat.le_refl _) ⟨?_, acc.toList, c, hv, ?_⟩, rfl, q _ I.fresh⟩
 ·rw [List.length_map, List.length_range, sizeLine_eq]; omega
 ·rw [hD, Array.toArray_toList]
theorem vals_keys {kvs : List (Key × V)} {vs : List (Key × Value)} (r : KV kvs vs) : ∀ {its : List Value} , its.length = vs.length → (∀ (j : Nat) (v : Value), its[j]? = some v → ∃ k x, vs[j]? = some (k, x) ∧ keyIs k v = true) → Vals (kvs.map fun p => kV p.1) its := by
 unfold KV at r
 induction r with
 | nil =>
  intro its hl _
  have : its = [] := List.length_eq_zero_iff.mp hl
  subst this
  exact .nil
 | @cons p q ps qs h t ih =>
  intro its hl hj
  match its, hl with
  | v :: its, hl =>
   obtain ⟨k, x, e1, e2⟩ := hj 0 v rfl
   have e1 : q = (k, x) := Option.some.inj e1
   subst e1
   rw [List.map_cons]
   refine .cons ?_ (ih (by simpa using hl) fun j u hu => hj (j + 1) u hu)
   rw [h.1]
   rcases keyIs_shape e2 with ⟨i, t, rfl, rfl⟩ | ⟨x, t, rfl, rfl⟩
   ·exact ⟨t, rfl⟩
   ·exact ⟨t, rfl⟩
theorem call_list_dict (hc : X.calm = true) : CallR X (.type "list") (fun xs H Q => ∃ (d : Addr) (kvs : List (Key × V)), xs = [.ref d] ∧ H d = some (.dK kvs) ∧ ∀ l, H l = none → Q (.ref l) (upd H l (.lst (kvs.map fun p => kV p.1)))) := by
 intro pins s σ H xs us Q I r h
 obtain ⟨d, kvs, rfl, hd, q⟩ := h
 obtain ⟨u, rfl, rx⟩ := vals1 r
 cases rx
 obtain ⟨hz, hs, vs, rv, hD⟩ := I.hok d _ hd
 obtain ⟨ep, hat⟩ := hD.dictAt
 have hlen : kvs.length = vs.length := Paired.length rv
 refine PySem.W.kdl_call (PySem.W.kdl_dict (knd := mixKind X.prog X.w) (kvs := vs) (ep := ep) hs) (I.ok.hd hc) hat (by omega) fun h' tk acc c kp hB hI => ?_
 have hv : Vals (kvs.map fun p => kV p.1) acc.toList := vals_keys rv (by rw [Array.length_toList]; exact hI.1) fun j v hj => by
  obtain ⟨k, x, e1, e2⟩ := hI.2 j v (by rw [← Array.getElem?_toList]; exact hj)
  exact ⟨k, x, e1, e2⟩
 refine ⟨.ref s.heap.objs.size, _, I.laid (t' := tk) (o := .lst (kvs.map fun p => kV p.1)) kp (Nat.le_refl _) ⟨?_, acc.toList, c, hv, ?_⟩, rfl, q _ I.fresh⟩
 ·rw [List.length_map]; exact hz
 ·rw [hB, Array.toArray_toList]
def rRemove : V → List V → Hp → VK → Prop := fun x vs H Q => ∃ (l : Addr) (ns : List Int) (k : Int) (j : Nat), x = .ref l ∧ vs = [.int k] ∧ H l = some (.lst (ns.map V.int)) ∧ ns[j]? = some k ∧ (∀ m : Nat, m < j → ns[m]? ≠ some k) ∧ Q .non (upd H l (.lst ((ns.eraseIdx j).map V.int)))
theorem eraseIdx_map {α β : Type} (f : α → β) : ∀ (l : List α) (j : Nat), (l.map f).eraseIdx j = (l.eraseIdx j).map f
 | [], _ => rfl
 | _ :: _, 0 => rfl
 | a :: l, j + 1 => by
  show f a :: (l.map f).eraseIdx j = f a :: (l.eraseIdx j).map f
  rw [eraseIdx_map f l j]
theorem mt_remove : MtM X "list.remove" rRemove := by
 intro pins s σ H x vs v us Q I rx rv h
 obtain ⟨l, ns, k, j, rfl, rfl, hH, hj, hno, q⟩ := h
 cases rx
 obtain ⟨u, rfl, ru⟩ := rv.one
 obtain ⟨t, rfl⟩ := ru
 obtain ⟨z, its, n, r, hl, e⟩ := I.lstM hH
 have hi := intsAre_of r
 have hlen := hi.length
 have hjl : j < ns.length := (List.getElem?_eq_some_iff.mp hj).1
 have key : ∀ (m : Nat) (hm : m < its.toArray.size), ∃ t, its.toArray[m] = Value.int (ns.getD m 0) t := fun m hm => by
  have hm' : m < ns.length := by rw [List.size_toArray] at hm; omega
  obtain ⟨t, ht⟩ := hi.get m ns[m] (List.getElem?_eq_getElem hm')
  have hm2 : m < its.length := by omega
  rw [List.getElem?_eq_getElem hm2] at ht
  refine ⟨t, ?_⟩
  rw [List.getD_eq_getElem?_getD, List.getElem?_eq_getElem hm']
  exact Option.some.inj ht
 refine call_meets F.slot_list_remove ⟨_, e, rfl⟩ F.entry_list_remove (F.args_list_remove_2 _ _)
  (MeetsSeq.list_remove l its.toArray n (.int k t) (fun y => match y with | .int i _ => i == k | _ => false) (fun y hy => ?_) j (by rw [List.size_toArray]; omega) ?_ (fun m hm hmj => ?_) (by rw [List.size_toArray]; omega)) ⟨e, ?_⟩
 ·obtain ⟨m, hm, em⟩ := Array.mem_iff_getElem.mp hy
  obtain ⟨t', e'⟩ := key m hm
  rw [← em, e']
  exact MeetsSeq.EqGives.int _ _ _ _
 ·obtain ⟨t', e'⟩ := key j (by rw [List.size_toArray]; omega)
  rw [e', List.getD_eq_getElem?_getD, hj]
  exact beq_self_eq_true k
 ·obtain ⟨t', e'⟩ := key m hm
  have hm' : m < ns.length := by rw [List.size_toArray] at hm; omega
  rw [e', List.getD_eq_getElem?_getD, List.getElem?_eq_getElem hm']
  exact beq_eq_false_iff_ne.mpr fun q => hno m hmj (by rw [List.getElem?_eq_getElem hm']; exact congrArg some q)
 refine ⟨.non, _, I.lset (its' := its.eraseIdx j) hH e ?_ (by rw [← eraseIdx_map]; exact r.eraseIdx j) ?_, rfl, q⟩
 ·show its.toArray.eraseIdxIfInBounds j = (its.eraseIdx j).toArray
  rw [List.eraseIdxIfInBounds_toArray]
 ·rw [← eraseIdx_map]
  have := len_erase (ns.map V.int) j
  omega
def CBig (i j : Int) : Prop := i.natAbs < 2 ^ 40000 ∧ j.natAbs < 2 ^ 40000
theorem CBig.ok {i j : Int} (h : CBig i j) : IntMulOk i j := PySem.IntMulOk.of_le (m := 40000) (n := 40000) (PySem.intBits_le_iff.mpr h.1) (PySem.intBits_le_iff.mpr h.2) (by decide)
theorem op_mulB : OpR X (binaryOp .Mult) (rI CBig fun i j => .int (i * j)) := opI fun _ _ _ _ _ _ _ hc q => mul_int q hc.ok
theorem iop_mulB : OpR X (inplaceOp .Mult) (rI CBig fun i j => .int (i * j)) := opI fun _ _ _ _ _ _ _ hc q => imul_int q hc.ok
theorem op_fdivB : OpR X (binaryOp .FloorDiv) (rI (fun _ j => 0 < j ∧ j.natAbs < 2 ^ 9000) fun i j => .int (i / j)) := opI fun i j _ _ _ _ _ hc q => by
 have h1 : (0 : Int) < j := hc.1
 exact floordiv_int (by omega) (by rw [Int.fdiv_eq_ediv_of_nonneg i (by omega)]; exact q) (.inl (PyProof.noPylong_of_log2 ((Nat.log2_lt (by omega)).mpr hc.2)))
end
end L2
namespace L2
open PySem PySem.Spec PyProof.Rows
def Bm (mg : Str → Option Value) (base : Heap) : Prop := ∃ bm ob, mg "__builtins__" = some (.ref bm) ∧ bm ≠ builtinsNs ∧ base.get? bm = some ob ∧ ob.cls = .type "module" ∧ ob.dict = some builtinsNs ∧ ob.data = .plain
def HoCode (a : Addr) (qual : Str) : HO := .ext fun h => h.CodeRec (.ref a) qual
def TabAt (H : Hp) (P : Addr) (pos : Pos) (qual : Str) : Prop := ∃ ps, H P = some (.tbl ps) ∧ (ps = #[] ∨ ∃ c', ps = #[rawInt pos.line, rawInt pos.col, .ref c'] ∧ H c' = some (HoCode c' qual))
theorem TabAt.mono {H H' : Hp} {P : Addr} {pos : Pos} {qual : Str} (h : TabAt H P pos qual) (s : ∀ b o, H b = some o → H' b = some o) : TabAt H' P pos qual := by
 obtain ⟨ps, e, r⟩ := h
 refine ⟨ps, s _ _ e, ?_⟩
 rcases r with r | ⟨c', r, q⟩
 ·exact .inl r
 ·exact .inr ⟨c', r, s _ _ q⟩
theorem codeExt {h : Heap} {a : Addr} {qual : Str} (x : h.CodeRec (.ref a) qual) : h.CodeRec (.ref a) qual ∧ (∃ o, h.get? a = some o) ∧ ∀ h1 h2 : Heap, h1.CodeRec (.ref a) qual → (∀ o, h1.get? a = some o → h2.get? a = some o) → h2.CodeRec (.ref a) qual := by
 refine ⟨x, ?_, fun h1 h2 y k => ?_⟩
 ·obtain ⟨c, o, vs, t, e, g, _⟩ := x
  cases e
  exact ⟨o, g⟩
 ·obtain ⟨c, o, vs, t, e, g, r⟩ := y
  cases e
  exact ⟨a, o, vs, t, rfl, k _ g, r⟩
section
variable {X : Cx} {pins : List (Addr × Obj)} {σ : St} {H : Hp} {s : Shared}
theorem Inv.coded {P c' : Addr} {ps ps' : Array Value} {qual : Str} {h' : Heap} {t' : Nat} (I : Inv X pins σ H s) (hP : H P = some (.tbl ps)) (hx : Heap.ExtBut P s.heap h') (hc : s.heap.objs.size ≤ c') (hr : h'.CodeRec (.ref c') qual)
  (hp : h'.get? P = some { cls := .none, data := .fields (ps ++ ps') }) : Inv X pins σ (upd (upd H c' (HoCode c' qual)) P (.tbl (ps ++ ps'))) { s with heap := h', toks := t' } := by
 have hcn : H c' = none := I.hok.fresh hc
 have hcP : c' ≠ P := (ne_of_none hP hcn).symm
 have neP : ∀ b, H b = none → b ≠ P := fun b n z => by rw [z, hP] at n; cases n
 have at_ : ∀ b, b ≠ P → b ≠ c' → upd (upd H c' (HoCode c' qual)) P (.tbl (ps ++ ps')) b = H b := fun b h1 h2 => by rw [upd_ne h1, upd_ne h2]
 have other : ∀ b o, H b = some o → (∀ q, o ≠ .tbl q) → upd (upd H c' (HoCode c' qual)) P (.tbl (ps ++ ps')) b = some o := fun b o e ne => by
  rw [at_ b (fun z => by rw [z, hP] at e; exact ne _ (Option.some.inj e).symm) (ne_of_none e hcn)]
  exact e
 refine I.un (h' := h') (t' := t') ⟨fun b o e n _ _ => hx b o (neP b n) e, fun b o e n _ _ => ⟨o.slots, hx b o (neP b n) e⟩, fun b o e n _ => ?_, fun b o e _ => ?_, fun b xs e => ?_, fun b o u e => ?_, fun b qs e => ?_⟩ fun b o e => ?_
 ·rw [at_ b (neP b n) (Nat.ne_of_lt (Nat.lt_of_lt_of_le (Heap.lt_size e) hc))]
  exact n
 ·by_cases hb : b = P
  ·exact ⟨_, hb ▸ hp⟩
  ·exact ⟨o, hx b o hb e⟩
 ·exact other b _ e fun q z => by cases z
 ·exact other b _ e fun q z => by cases z
 ·by_cases hb : b = P
  ·subst hb
   rw [hP] at e
   cases e
   exact ⟨ps', upd_same⟩
  ·exact ⟨#[], by rw [at_ b hb (ne_of_none e hcn), e]; simp⟩
 ·by_cases hb : b = P
  ·subst hb
   rw [upd_same] at e
   cases e
   exact hp
  ·rw [upd_ne hb] at e
   by_cases hb2 : b = c'
   ·subst hb2
    rw [upd_same] at e
    cases e
    exact codeExt hr
   ·rw [upd_ne hb2] at e
    refine (I.hok b o e).stay (fun c v hcv q => hx c v ?_ q) (fun c q => other c _ q fun _ z => by cases z) fun c xs q => other c _ q fun _ z => by cases z
    rcases hcv with z | z
    ·rw [z]; exact hb
    ·exact fun y => by rw [y, hP] at z; cases z
theorem lam_make {params : Arguments} {body : Expr} {scope : Scope} {pos : Pos} {clos : List (Str × Addr)} {c P : Addr} {Q : Value → Shared → Prop} (I : Inv X pins σ H s) (hB : Bm X.mg X.base) (hcode : X.env.code = .ref c) (C : PySem.W.CodeHd X.base c P)
  (hcl : closureFor scope X.env = pure clos) (hdef : defaultsOf params X.env = ([], [])) (hT : TabAt H P pos (X.env.qual ++ "<lambda>"))
  (q : ∀ s' H' f c' ctv pm, Inv X pins σ H' s' → FpOk X pins H' f → s'.heap.get? f = some (PySem.W.kla_obj "<lambda>" (X.env.qual ++ "<lambda>") params body scope clos pm c' ctv) → H' c' = some (HoCode c' (X.env.qual ++ "<lambda>")) → TabAt H' P pos (X.env.qual ++ "<lambda>") →
   (∀ b o, H b = some o → b ≠ P → H' b = some o) → Q (.ref f) s') : wpAny (model X.prog X.w) X.A (eval (.Lambda params body scope pos) X.env) Q X.xe s := by
 refine PySem.W.kla_eval hdef ?_
 obtain ⟨ps, hP, hps⟩ := hT
 have hPg : s.heap.get? P = some (PySem.W.tabObj ps) := I.hok P _ hP
 have hg : s.heap.Ns mainGlobals X.mg := I.mod.glob.keeps I.bk
 obtain ⟨bm, ob, b1, b2, b3, b4, b5, b6⟩ := hB
 have hbg := I.bk _ _ b3
 have hgP : mainGlobals ≠ P := fun z => by
  obtain ⟨o, es, ep, e, hd, _⟩ := hg
  rw [z, hPg] at e
  cases e
  cases hd
 have hbP : bm ≠ P := fun z => by
  rw [z, hPg] at hbg
  cases hbg
  cases b4
 have hbG : bm ≠ mainGlobals := fun z => by
  obtain ⟨o, es, ep, e, hd, _⟩ := hg
  rw [z, e] at hbg
  cases hbg
  rw [hd] at b6
  cases b6
 rcases hps with rfl | ⟨c', rfl, hc'⟩
 ·refine PySem.W.kla_makeFunction (mg := X.mg) hcl I.ok.glob hg hcode (C.keeps I.bk) hPg trivial rfl hgP ⟨bm, ob, b1, b2, hbG, hbP, hbg, b4, b5, b6⟩ fun c' ctv h' tk hx hge hlt hrec htb => ?_
  have I1 := I.coded (t' := tk) hP hx hge hrec htb
  have I2 := I1.kept (t' := tk) (h' := h'.push (PySem.W.kla_obj "<lambda>" (X.env.qual ++ "<lambda>") params body scope clos ((X.mg "__name__").getD .none) c' ctv)) fun b o e => Heap.get?_push_of_some _ e
  have hcn : H c' = none := I.hok.fresh hge
  have hcP : c' ≠ P := (ne_of_none hP hcn).symm
  have hcc : upd (upd H c' (HoCode c' (X.env.qual ++ "<lambda>"))) P (.tbl (#[] ++ #[rawInt pos.line, rawInt pos.col, .ref c'])) c' = some (HoCode c' (X.env.qual ++ "<lambda>")) := by rw [upd_ne hcP, upd_same]
  refine q _ _ _ c' ctv _ I2 (I1.fpOk (Nat.le_refl _) (I1.hok.fresh (Nat.le_refl _))) (Heap.get?_push_size _ rfl) hcc ⟨_, upd_same, .inr ⟨c', by simp, hcc⟩⟩ fun b o e hb => ?_
  rw [upd_ne hb, upd_ne (ne_of_none e hcn)]
  exact e
 ·refine PySem.W.kla_makeFunctionHit (mg := X.mg) (cv := .ref c') hcl I.ok.glob hg hcode (C.keeps I.bk) hPg trivial (by simp [codeAmong, rawInt]) ⟨bm, ob, b1, b2, hbG, hbP, hbg, b4, b5, b6⟩ fun ctv h' tk hk hsz => ?_
  have I2 := I.kept (t' := tk) (h' := h'.push { cls := .type "function", data := .func (PySem.W.kla_fn "<lambda>" (X.env.qual ++ "<lambda>") params body scope clos ((X.mg "__name__").getD .none) (.ref c') ctv) }) fun b o e => Heap.get?_push_of_some _ (hk b o e)
  exact q _ _ _ c' ctv _ I2 (I.fpOk hsz (I.hok.fresh hsz)) (Heap.get?_push_size _ rfl) hc' ⟨_, hP, .inr ⟨c', rfl, hc'⟩⟩ fun b o e _ => e
def lamCx (X : Cx) (A' : Around) (s : Shared) (H : Hp) (qual : Str) (scope : Scope) (f c' : Addr) (cl : List (Str × Addr)) (N : List Str) : Cx where
 prog := X.prog
 w := X.w
 K := X.K
 mg := X.mg
 base := X.base
 A := A'.deeper (PySem.W.envX qual scope s.heap.objs.size f (.ref c') cl)
 N := N
 s_0 := s
 H_0 := H
 env := PySem.W.envX qual scope s.heap.objs.size f (.ref c') cl
 outer := X.stack
 stack := PySem.W.envX qual scope s.heap.objs.size f (.ref c') cl :: X.stack
 ex := []
 calm := true
 fn := fun _ => false
 pn := []
 xe := fun _ _ => False
structure LamScope (x y : Str) (scope : Scope) : Prop where
 kind : scope.kind = .function
 co : scope.isCoroutine = false
 gen : scope.isGenerator = false
 ne : x ≠ y
 px : scope.names.lookup x = some .local
 py : scope.names.lookup y = some .free
 only : ∀ p ∈ scope.names, p.2 ≠ .cell ∧ (p.2 = .free → p.1 = y)
theorem lam_call {A' : Around} {x y : Str} {cy f c' : Addr} {j : Nat} {vx vy : V} {u pm ctv : Value} {params : Arguments} {body : Expr} {scope : Scope} {qual : Str} {t : TE} {Q : VK} (hA : A'.frames = X.A.frames) (hh : A'.handled = none) (hd : A'.depth < recursionLimit)
  (S : LamScope x y scope) (I : Inv X pins σ H s) (hf : s.heap.get? f = some (PySem.W.kla_obj "<lambda>" qual params body scope [(y, cy)] pm c' ctv)) (hc : H c' = some (HoCode c' qual)) (hcell : X.env.cells.lookup y = some cy)
  (hy : X.N[j]? = some y) (hσ : σ[j]? = some (some vy)) (hky : X.env.scope.names.lookup y = some .cell) (ru : RelV vx u) (hb : bindArgs (PySem.W.kla_fn "<lambda>" qual params body scope [(y, cy)] pm (.ref c') ctv) ⟨[u], []⟩ = pure [(x, u)])
  (ht : PE (lamCx X A' s H qual scope f c' [(y, cy)] [x, y]) body t) (h : t [some vx, some vy] H Q) : wpAny (model X.prog X.w) A' (call (.ref f) [u]) (EP X pins σ Q) (fun _ _ => False) s := by
 have hrec : s.heap.CodeRec (.ref c') qual := (I.hok c' _ hc).1
 have fr0 : A'.frames = some X.stack := hA.trans I.ok.frames
 obtain ⟨m, hn, hl⟩ := I.loc
 obtain ⟨uy, ry, ly⟩ := hl j y vy hy hσ (.inr (.inl hky))
 have hcy : s.heap.IsCell cy (some uy) := by
  rcases ly with ⟨k, _⟩ | ⟨_, c, e, z⟩
  ·have k' : X.env.scope.names.lookup y = some .local := k
   rw [hky] at k'
   cases k'
  ·rw [hcell] at e
   cases e
   exact z
 refine wpAny_call (codeAny_mono (PySem.W.kla_callFunE (R := fun r s' => match r with | .ok (.ret v) => EP X pins σ Q v s' | _ => False) hd hf rfl S.co S.gen rfl hrec ?go) fun r s' hq => ?out)
 case out =>
  cases r with
  | error e => exact hq.elim
  | ok fl =>
   cases fl with
   | ret v => exact hq
   | next => exact hq.elim
   | brk => exact hq.elim
   | cont => exact hq.elim
 show wpAny _ A'.in1 (bindArgs (PySem.W.kla_fn "<lambda>" qual params body scope [(y, cy)] pm (.ref c') ctv) ⟨[u], []⟩) _ _ s
 rw [hb]
 refine wpAny_pure (wpAny_newFunctionEnv (fun p hp => (S.only p hp).1) (fun p hp => by rw [List.mem_singleton.mp hp]; exact S.px) (fun h₁ hns hsb => ⟨I.nolimit.fresh _ hsb, ?_⟩) S.kind)
 show codeAny _ _ (.expr body (PySem.W.envX qual scope s.heap.objs.size f (.ref c') [(y, cy)])) _ _
 have hk₁ : ∀ b o, s.heap.get? b = some o → h₁.get? b = some o := fun b o e => hsb.extBut b o (Nat.ne_of_lt (Heap.lt_size e)) (Heap.get?_push_of_some _ e)
 have lk : ∀ z c, List.lookup z [(y, cy)] = some c → z = y ∧ c = cy := fun z c e => by
  rw [List.lookup_cons] at e
  cases q : z == y with
  | true =>
   rw [q] at e
   cases e
   exact ⟨eq_of_beq q, rfl⟩
  | false =>
   rw [q] at e
   cases e
 have lk1 : List.lookup y [(y, cy)] = some cy := by rw [List.lookup_cons, beq_self_eq_true]
 have I' : Inv (lamCx X A' s H qual scope f c' [(y, cy)] [x, y]) [] [some vx, some vy] H { s with heap := h₁, toks := s.toks + ([(x, u)] : List (Str × Value)).length } := by
  refine ⟨⟨I.ok.mod, S.kind, rfl, rfl, Nat.le_refl _, fun a b c h1 h2 => (lk a c h1).1.trans (lk b c h2).1.symm, fun z hz => ?_, fun a c z _ => absurd (show false = true from z) (by simp), fun _ => hh, Around.frames_deeper fr0, .inr ⟨rfl, rfl⟩, fun b z => absurd (show b ∈ ([] : List Addr) from z) (by simp), I.bs, Nat.le_trans I.ok.bsz I.sz,
   fun b _ _ z => absurd (show b ∈ ([] : List Addr) from z) (by simp), fun b z => absurd (show b ∈ ([] : List Addr) from z) (by simp), I.stack, I.stkFree⟩, rfl, I.bare, Un.kept hk₁, ⟨_, hns, fun i z v h1 h2 h3 => ?_⟩, fun a c e => ?_, I.hok.fresh (Nat.le_refl _), fun a c e => ?_, fun p hp => absurd (show p ∈ ([] : List (Addr × Obj)) from hp) (by simp), I.hok.kept hk₁, rfl⟩
  ·have hz' : scope.names.lookup z = some .cell ∨ scope.names.lookup z = some .free := hz
   rcases hz' with hz' | hz'
   ·exact absurd rfl (S.only _ (PySem.mem_of_lookup hz')).1
   ·have e : z = y := (S.only _ (PySem.mem_of_lookup hz')).2 rfl
    subst e
    exact ⟨cy, lk1⟩
  ·match i, h1, h2 with
   | 0, h1, h2 =>
    have e1 : x = z := Option.some.inj h1
    have e2 : some vx = some v := Option.some.inj h2
    cases e2
    subst e1
    refine ⟨u, ru, .inl ⟨S.px, ?_⟩⟩
    show List.lookup x [(x, u)] = some u
    rw [List.lookup_cons, beq_self_eq_true]
   | 1, h1, h2 =>
    have e1 : y = z := Option.some.inj h1
    have e2 : some vy = some v := Option.some.inj h2
    cases e2
    subst e1
    exact ⟨uy, ry, .inr ⟨.inr S.py, cy, lk1, hcy.keeps hk₁⟩⟩
   | i + 2, h1, h2 => exact absurd (show (none : Option Str) = some z from h1) (by simp)
  ·obtain ⟨_, rfl⟩ := lk a c e
   exact ⟨_, hcy.keeps hk₁⟩
  ·obtain ⟨rfl, rfl⟩ := lk a c e
   exact I.freeC _ _ hcell
 refine PySem.W.kla_codeExpr (wpAny_mono (ht [] _ _ H _ I' h) (fun v s' hs => ?_) fun _ _ z => z.elim)
 obtain ⟨v', H', J, rv, qv⟩ := hs
 exact I.after ⟨v', H', J.os, J.bare, J.base, J.hok, rv, qv⟩
end
end L2
namespace L2
open PySem PySem.Spec PyProof.Rows
section
variable {X : Cx} {pins : List (Addr × Obj)} {σ : St} {H : Hp} {s : Shared}
theorem Inv.pinMore {more : List (Addr × Obj)} (J : Inv X pins σ H s) (hf : ∀ p ∈ more, FpOk X pins H p.1 ∧ s.heap.get? p.1 = some p.2 ∧ ∀ v, p.2.data ≠ .cell v) : Inv X (pins ++ more) σ H s :=
 J.pins_of fun p hp => (List.mem_append.mp hp).elim (fun z => J.pin p (List.mem_append_right _ z)) fun z => ⟨(hf p z).2.1, (hf p z).1.1, (hf p z).1.2.1, (hf p z).1.2.2.1, (hf p z).2.2⟩
theorem FpOk.now {H' : Hp} {b : Addr} (h : FpOk X pins H b) (n : H' b = none) : FpOk X pins H' b := ⟨n, h.2⟩
theorem lex_irr : ∀ l : List Int, HT.lexLt l l = false
 | [] => rfl
 | a :: l => by rw [HT.lexLt_cons, if_pos rfl]; exact lex_irr l
theorem lex_tr : ∀ {a b c : List Int}, HT.lexLt a b = true → HT.lexLt b c = true → HT.lexLt a c = true
 | [], [], _, h, _ => by cases h
 | [], _ :: _, [], _, h => by cases h
 | [], _ :: _, _ :: _, _, _ => rfl
 | _ :: _, [], _, h, _ => by cases h
 | _ :: _, _ :: _, [], _, h => by cases h
 | x :: xs, y :: ys, z :: zs, h1, h2 => by
  rw [HT.lexLt_cons] at h1 h2 ⊢
  by_cases e1 : x = y
  ·subst e1
   rw [if_pos rfl] at h1
   by_cases e2 : x = z
   ·subst e2
    rw [if_pos rfl] at h2 ⊢
    exact lex_tr h1 h2
   ·rw [if_neg e2] at h2 ⊢
    exact h2
  ·rw [if_neg e1] at h1
   have l1 := of_decide_eq_true h1
   by_cases e2 : y = z
   ·subst e2
    rw [if_neg e1]
    exact h1
   ·rw [if_neg e2] at h2
    have l2 := of_decide_eq_true h2
    rw [if_neg (by omega)]
    exact decide_eq_true (by omega)
structure MinSt (X : Cx) (pins : List (Addr × Obj)) (σ : St) (R : Hp → Prop) (a it st : Addr) (xs : List V) (ks : Nat → List Int) (n i : Nat) (s : Shared) : Prop where
 ex : ∃ (H : Hp) (ub : Value) (vb : V) (t : Addr) (c : Nat), Inv X pins σ H s ∧ R H ∧ FpOk X pins H it ∧ FpOk X pins H st ∧ s.heap.IsListIter it a n ∧ s.heap.get? st = some (seqObj "list" #[ub, .ref t] c) ∧ xs[i]? = some vb ∧ RelV vb ub ∧ H t = some (.tup ((ks i).map V.int))
 lt : i < n
 best : ∀ l, l < n → HT.lexLt (ks l) (ks i) = false
abbrev KeyT (X : Cx) (pins : List (Addr × Obj)) (σ : St) (R : Hp → Prop) (A' : Around) (f : Addr) (xs : List V) (ks : Nat → List Int) : Prop :=
 ∀ (i : Nat) (v : V) (u : Value) (more : List (Addr × Obj)) (H : Hp) (s : Shared), xs[i]? = some v → RelV v u → Inv X (pins ++ more) σ H s → R H →
  wpAny (model X.prog X.w) A' (call (.ref f) [u]) (EP X (pins ++ more) σ fun z H' => ∃ t, z = .ref t ∧ H' t = some (.tup ((ks i).map V.int)) ∧ Same H H' ∧ R H') (fun _ _ => False) s
theorem cellless {xs : Array Value} {n : Nat} : ∀ v, (seqObj "list" xs n).data ≠ .cell v := fun v z => by cases z
theorem iterless {h : Heap} {it a : Addr} {n : Nat} (x : h.IsListIter it a n) : ∃ o, h.get? it = some o ∧ ∀ v, o.data ≠ .cell v := by
 obtain ⟨o, e, c, d⟩ := x
 exact ⟨o, e, fun v z => by rw [d] at z; cases z⟩
theorem min_turns {a f it st : Addr} {xs : List V} {ks : Nat → List Int} {R : Hp → Prop} {Rs : Result → Shared → Prop} (hh : X.A.handled = none) (hu : X.A.units + 1 < cLine) (hne : st ≠ it) (hl : ∀ H, R H → H a = some (.lst xs)) (hsz : ∀ i j, (ks i).length = (ks j).length)
  (key : KeyT X pins σ R X.A.in1 f xs ks)
  (fin : ∀ (i : Nat) (v : V) (u : Value) (H : Hp) (s : Shared), xs[i]? = some v → RelV v u → (∀ l, l < xs.length → HT.lexLt (ks l) (ks i) = false) → Inv X pins σ H s → R H → Rs (.ok (.ret u)) s) :
  ∀ (r n i : Nat) (s : Shared), xs.length - n = r → n ≤ xs.length → MinSt X pins σ R a it st xs ks n i s → codeAny (model X.prog X.w) X.A (.builtin "min.loop" ⟨[.ref it, .ref f, .ref st], []⟩) Rs s := by
 have nm : (toString "min" ++ toString ".loop" : String) = "min.loop" := by decide
 intro r
 induction r with
 | zero =>
  intro n i s hr hn M
  obtain ⟨H, ub, vb, t, c, J, hR, fI, fS, hit, hS, hv, rb, ht⟩ := M.ex
  obtain ⟨its, rv, pl, hz⟩ := J.list (SqL.of (hl H hR))
  have hlen := rv.length
  refine codeAny_builtin PySem.F.entry_min_loop ?_
  rw [Around.under_plainId PySem.F.plain_min_loop]
  show wpAny _ X.A.in1 (seqItems? (.ref st) >>= _) _ _ s
  refine wpAny_bind (wpAny_seqItems hS rfl ?_)
  show wpAny _ X.A.in1 (tryCatch (pyNext (.ref it)) _ >>= _) _ _ s
  refine wpAny_bind (wpAny_tryCatch (wpAny_pyNext_list_end (A := X.A.in1) hh hit pl.isList (by simp; omega) fun h1 k1 => ?_))
  have J1 : Inv X pins σ H { s with heap := h1 } := J.turned (t' := s.toks) (fun b o hb e => k1 b o hb e) fI.1 fI.2.1 fI.2.2.2.1 fI.2.2.2.2.1 fI.2.2.2.2.2
  have hS1 : h1.get? st = some (seqObj "list" #[ub, .ref t] c) := k1 _ _ hne hS
  show wpAny _ X.A.in1 (updateSeq st (fun _ => #[]) >>= _) _ _ _
  refine wpAny_bind (wpAny_updateSeq hS1 rfl (wpAny_bind (wpAny_letGo (wpAny_pure ?_))))
  have sb := Heap.SameBut.update h1 st (Obj.mapSeq fun _ => (#[] : Array Value))
  exact fin i vb ub H _ hv rb (fun l hl' => M.best l (by omega)) (J1.turned (t' := s.toks) (fun b o hb e => (sb.2 b hb).trans e) fS.1 fS.2.1 fS.2.2.2.1 fS.2.2.2.2.1 fS.2.2.2.2.2) hR
 | succ r ih =>
  intro n i s hr hn M
  obtain ⟨H, ub, vb, t, c, J, hR, fI, fS, hit, hS, hv, rb, ht⟩ := M.ex
  obtain ⟨its, rv, pl, hz⟩ := J.list (SqL.of (hl H hR))
  have hlen := rv.length
  have hlt : n < xs.length := by omega
  obtain ⟨u, hu1, ru⟩ := rv.get (List.getElem?_eq_getElem hlt)
  refine codeAny_builtin PySem.F.entry_min_loop ?_
  rw [Around.under_plainId PySem.F.plain_min_loop]
  show wpAny _ X.A.in1 (seqItems? (.ref st) >>= _) _ _ s
  refine wpAny_bind (wpAny_seqItems hS rfl ?_)
  show wpAny _ X.A.in1 (tryCatch (pyNext (.ref it)) _ >>= _) _ _ s
  refine wpAny_bind (wpAny_tryCatch (wpAny_pyNext_list_item (A := X.A.in1) hit pl.isList (x := u) (by simpa using hu1) fun h1 hit1 sb1 => ?_))
  have J1 : Inv X pins σ H { s with heap := h1 } := J.turned (t' := s.toks) (fun b o hb e => (sb1.2 b hb).trans e) fI.1 fI.2.1 fI.2.2.2.1 fI.2.2.2.2.1 fI.2.2.2.2.2
  have hS1 : h1.get? st = some (seqObj "list" #[ub, .ref t] c) := (sb1.2 _ hne).trans hS
  obtain ⟨oI, gI, dI⟩ := iterless hit1
  have J2 : Inv X (pins ++ [(it, oI), (st, seqObj "list" #[ub, .ref t] c)]) σ H { s with heap := h1 } := J1.pinMore fun p hp => by
   rcases List.mem_cons.mp hp with rfl | hp
   ·exact ⟨fI, gI, dI⟩
   ·rw [List.mem_singleton.mp hp]
    exact ⟨fS, hS1, cellless⟩
  show wpAny _ X.A.in1 (tryCatch (holding [u] (call (.ref f) [u])) _ >>= _) _ _ _
  refine wpAny_bind (wpAny_tryCatch (wpAny_holding (wpAny_mono (key n _ u _ H _ (List.getElem?_eq_getElem hlt) ru J2 hR) (fun z s2 hz2 => ?_) fun _ _ q => q.elim)))
  obtain ⟨z', H2, J3, rz, t2, rfl, ht2, sm, hR2⟩ := hz2
  obtain rfl : z = Value.ref t2 := rz
  have pI := J3.pin (it, oI) (List.mem_append_right _ (List.mem_append_right _ (.head _)))
  have pS := J3.pin (st, seqObj "list" #[ub, .ref t] c) (List.mem_append_right _ (List.mem_append_right _ (.tail _ (.head _))))
  have hit2 : s2.heap.IsListIter it a (n + 1) := hit1.at fun o e => by
   have e' : h1.get? it = some o := e
   rw [gI] at e'
   cases e'
   exact pI.1
  have J4 := J3.unpinned
  have fI2 := fI.now (H' := H2) pI.2.1
  have fS2 := fS.now (H' := H2) pS.2.1
  obtain ⟨l1, v1, p1, _⟩ := J4.tuple (SqT.of ht2)
  obtain ⟨l2, v2, p2, _⟩ := J4.tuple (SqT.of (sm _ _ ht))
  show wpAny _ X.A.in1 (tryCatch (holding [u, .ref t2] (compareOp .Lt (.ref t2) (.ref t) >>= _)) _ >>= _) _ _ _
  refine wpAny_bind (wpAny_tryCatch (wpAny_holding (wpAny_bind (HT.lt_tupInts (A := X.A.in1) p1 p2 (intsAre_of v1) (intsAre_of v2) hu ?_))))
  refine wpAny_bind (wpAny_holding (wpAny_truthy_bool ?_))
  refine wpAny_bind (wpAny_letGo (wpAny_pure ?_))
  cases hb : HT.lexLt (ks n) (ks i) with
  | true =>
   simp only [if_true]
   refine wpAny_bind (wpAny_updateSeq pS.1 rfl (wpAny_bind (wpAny_letGo ?_)))
   rw [nm]
   have sb := Heap.SameBut.update s2.heap st (Obj.mapSeq fun _ => #[u, .ref t2])
   have J5 : Inv X pins σ H2 { s2 with heap := s2.heap.update st (Obj.mapSeq fun _ => #[u, .ref t2]) } := J4.turned (t' := s2.toks) (fun b o hb e => (sb.2 b hb).trans e) fS2.1 fS2.2.1 fS2.2.2.2.1 fS2.2.2.2.2.1 fS2.2.2.2.2.2
   refine wpAny_pure ⟨plainId_quiet PySem.F.plain_min_loop _, ih (n + 1) n _ (by omega) hlt ⟨⟨H2, u, _, t2, _, J5, hR2, fI2, fS2, ?_, get?_update_seq pS.1 fun _ => #[u, .ref t2], List.getElem?_eq_getElem hlt, ru, ht2⟩, Nat.lt_succ_self _, fun l hl' => ?_⟩⟩
   ·exact hit2.at fun o e => (sb.2 it (Ne.symm hne)).trans e
   ·rcases Nat.lt_or_ge l n with q | q
    ·cases w : HT.lexLt (ks l) (ks n) with
     | false => rfl
     | true =>
      have := lex_tr w hb
      rw [M.best l q] at this
      cases this
    ·have e : l = n := by omega
     subst e
     exact lex_irr _
  | false =>
   simp only [Bool.false_eq_true, if_false]
   refine wpAny_bind (wpAny_letGo ?_)
   rw [nm]
   refine wpAny_pure ⟨plainId_quiet PySem.F.plain_min_loop _, ih (n + 1) i _ (by omega) hlt ⟨⟨H2, ub, vb, t, c, J4, hR2, fI2, fS2, hit2, pS.1, hv, rb, sm _ _ ht⟩, Nat.lt_succ_of_lt M.lt, fun l hl' => ?_⟩⟩
   rcases Nat.lt_or_ge l n with q | q
   ·exact M.best l q
   ·have e : l = n := by omega
    subst e
    exact hb
theorem min_call {a f : Addr} {xs : List V} {ks : Nat → List Int} {R : Hp → Prop} {Q : VK} (hh : X.A.handled = none) (hu : X.A.units + 1 < cLine) (hne : 0 < xs.length) (hl : ∀ H, R H → H a = some (.lst xs)) (hsz : ∀ i j, (ks i).length = (ks j).length)
  (key : KeyT X pins σ R X.A.in1 f xs ks) (J : Inv X pins σ H s) (hR : R H)
  (fin : ∀ (i : Nat) (v : V) (H' : Hp), xs[i]? = some v → (∀ l, l < xs.length → HT.lexLt (ks l) (ks i) = false) → R H' → Q v H') :
  wpAny (model X.prog X.w) X.A (call (.builtin "min") [.ref a] [(Str.ofString "key", .ref f)]) (EP X pins σ Q) X.xe s := by
 have nm : (toString "min" ++ toString ".loop" : String) = "min.loop" := by decide
 obtain ⟨its, rv, pl, hz⟩ := J.list (SqL.of (hl H hR))
 have hlen := rv.length
 refine kmk_tree PySem.F.kind_min PySem.F.plain_min PySem.F.entry_min (kmk_min_key _ _) ?_
 show wpAny _ X.A.in1 (Builtin.Builtins.bindParams "min" ["key", "default"] 0 ⟨[], [(Str.ofString "key", .ref f)]⟩ >>= _) _ _ s
 refine wpAny_bind (wpAny_of_eq (show Builtin.Builtins.bindParams "min" ["key", "default"] 0 ⟨[], [(Str.ofString "key", .ref f)]⟩ = pure [some (.ref f), Option.none] from rfl) ?_)
 refine wpAny_bind (wpAny_pure (wpAny_bind (wpAny_pyIter_list pl.isList (wpAny_bind (wpAny_newList ?_ (Nat.zero_le _))))))
 rw [nm]
 have hIt : (s.heap.push { cls := .type "list_iterator", data := .fields #[.ref a, .int 0 0] }).get? s.heap.objs.size = some { cls := .type "list_iterator", data := .fields #[.ref a, .int 0 0] } := Heap.get?_push_size _ rfl
 have zS : (s.heap.push { cls := .type "list_iterator", data := .fields #[.ref a, .int 0 0] }).objs.size = s.heap.objs.size + 1 := size_push' ..
 have J1 : Inv X pins σ H { s with heap := s.heap.push { cls := .type "list_iterator", data := .fields #[.ref a, .int 0 0] } } := J.kept (t' := s.toks) fun b o e => Heap.get?_push_of_some _ e
 have J2 := J1.kept (t' := s.toks) (h' := (s.heap.push { cls := .type "list_iterator", data := .fields #[.ref a, .int 0 0] }).push (seqObj "list" #[] 0)) fun b o e => Heap.get?_push_of_some _ e
 have fI : FpOk X pins H s.heap.objs.size := J.fpOk (Nat.le_refl _) (J.hok.fresh (Nat.le_refl _))
 have fS : FpOk X pins H (s.heap.push { cls := .type "list_iterator", data := .fields #[.ref a, .int 0 0] }).objs.size := J1.fpOk (Nat.le_refl _) (J1.hok.fresh (Nat.le_refl _))
 have hne2 : (s.heap.push { cls := .type "list_iterator", data := .fields #[.ref a, .int 0 0] }).objs.size ≠ s.heap.objs.size := by rw [zS]; omega
 have hS : ((s.heap.push { cls := .type "list_iterator", data := .fields #[.ref a, .int 0 0] }).push (seqObj "list" #[] 0)).get? (s.heap.push { cls := .type "list_iterator", data := .fields #[.ref a, .int 0 0] }).objs.size = some (seqObj "list" #[] 0) := Heap.get?_push_size _ rfl
 have hit : ((s.heap.push { cls := .type "list_iterator", data := .fields #[.ref a, .int 0 0] }).push (seqObj "list" #[] 0)).IsListIter s.heap.objs.size a 0 := ⟨_, Heap.get?_push_of_some _ hIt, rfl, rfl⟩
 generalize (s.heap.push { cls := .type "list_iterator", data := .fields #[.ref a, .int 0 0] }).push (seqObj "list" #[] 0) = g at *
 generalize (s.heap.push { cls := .type "list_iterator", data := .fields #[.ref a, .int 0 0] }).objs.size = st at *
 generalize s.heap.objs.size = it at *
 refine wpAny_pure ⟨plainId_quiet PySem.F.plain_min_loop _, codeAny_builtin PySem.F.entry_min_loop ?_⟩
 rw [Around.under_plainId PySem.F.plain_min_loop]
 show wpAny _ X.A.in1 (seqItems? (.ref st) >>= _) _ _ _
 refine wpAny_bind (wpAny_seqItems hS rfl ?_)
 show wpAny _ X.A.in1 (tryCatch (pyNext (.ref it)) _ >>= _) _ _ _
 obtain ⟨its, rv, pl, hz⟩ := J2.list (SqL.of (hl H hR))
 obtain ⟨u, hu1, ru⟩ := rv.get (List.getElem?_eq_getElem hne)
 refine wpAny_bind (wpAny_tryCatch (wpAny_pyNext_list_item (A := X.A.in1) hit pl.isList (x := u) (by simpa using hu1) fun h1 hit1 sb1 => ?_))
 have J3 := J2.turned (t' := s.toks) (fun b o hb e => (sb1.2 b hb).trans e) fI.1 fI.2.1 fI.2.2.2.1 fI.2.2.2.2.1 fI.2.2.2.2.2
 have hS1 : h1.get? st = some (seqObj "list" #[] 0) := (sb1.2 _ hne2).trans hS
 obtain ⟨oI, gI, dI⟩ := iterless hit1
 have J4 := J3.pinMore (more := [(it, oI), (st, seqObj "list" #[] 0)]) fun p hp => by
  rcases List.mem_cons.mp hp with rfl | hp
  ·exact ⟨fI, gI, dI⟩
  ·rw [List.mem_singleton.mp hp]
   exact ⟨fS, hS1, cellless⟩
 show wpAny _ X.A.in1 (tryCatch (holding [u] (call (.ref f) [u])) _ >>= _) _ _ _
 refine wpAny_bind (wpAny_tryCatch (wpAny_holding (wpAny_mono (key 0 _ u _ H _ (List.getElem?_eq_getElem hne) ru J4 hR) (fun z s2 hz2 => ?_) fun _ _ q => q.elim)))
 obtain ⟨z', H2, J5, rz, t2, rfl, ht2, sm, hR2⟩ := hz2
 obtain rfl : z = Value.ref t2 := rz
 have pI := J5.pin (it, oI) (List.mem_append_right _ (List.mem_append_right _ (.head _)))
 have pS := J5.pin (st, seqObj "list" #[] 0) (List.mem_append_right _ (List.mem_append_right _ (.tail _ (.head _))))
 have hit2 : s2.heap.IsListIter it a 1 := hit1.at fun o e => by
  have e' : h1.get? it = some o := e
  rw [gI] at e'
  cases e'
  exact pI.1
 have J6 := J5.unpinned
 have fI2 := fI.now (H' := H2) pI.2.1
 have fS2 := fS.now (H' := H2) pS.2.1
 show wpAny _ X.A.in1 (updateSeq st (fun _ => #[u, .ref t2]) >>= _) _ _ _
 refine wpAny_bind (wpAny_updateSeq pS.1 rfl ?_)
 rw [nm]
 have sb := Heap.SameBut.update s2.heap st (Obj.mapSeq fun _ => #[u, .ref t2])
 have J7 : Inv X pins σ H2 { s2 with heap := s2.heap.update st (Obj.mapSeq fun _ => #[u, .ref t2]) } := J6.turned (t' := s2.toks) (fun b o hb e => (sb.2 b hb).trans e) fS2.1 fS2.2.1 fS2.2.2.2.1 fS2.2.2.2.2.1 fS2.2.2.2.2.2
 refine wpAny_pure ⟨plainId_quiet PySem.F.plain_min_loop _, min_turns (R := R) (ks := ks) (xs := xs) (a := a) (pins := pins) (σ := σ) hh hu hne2 hl hsz key (fun i v u' H' s' hv hr' hb J' hR' => ⟨v, H', J', hr', fin i v H' hv hb hR'⟩) _ 1 0 _ rfl hne
  ⟨⟨H2, u, _, t2, _, J7, hR2, fI2, fS2, hit2.at fun o e => (sb.2 it (Ne.symm hne2)).trans e, get?_update_seq pS.1 fun _ => #[u, .ref t2], List.getElem?_eq_getElem hne, ru, ht2⟩, Nat.zero_lt_one, fun l hl' => ?_⟩⟩
 have e : l = 0 := by omega
 subst e
 exact lex_irr _
end
end L2
namespace L2
open PySem PySem.Spec PyProof.Rows
def But (P : Addr) (H H' : Hp) : Prop := ∀ b o, H b = some o → b ≠ P → H' b = some o
theorem But.refl (P : Addr) (H : Hp) : But P H H := fun _ _ h _ => h
theorem But.trans {P : Addr} {H H1 H2 : Hp} (a : But P H H1) (b : But P H1 H2) : But P H H2 := fun c o h n => b c o (a c o h n) n
theorem But.same {P : Addr} {H H1 H2 : Hp} (a : But P H H1) (b : Same H1 H2) : But P H H2 := fun c o h n => b c o (a c o h n)
theorem Same.but {P : Addr} {H H1 : Hp} (a : Same H H1) : But P H H1 := fun c o h _ => a c o h
def tMinLam (P : Addr) (lpos : Pos) (qual : Str) (j : Nat) (t : TA) (tb : TE) : TE := fun σ H Q => t σ H fun vs H1 => ∃ (a : Addr) (xs : List V) (vy : V) (ks : Nat → List Int), vs = [.ref a] ∧ H1 a = some (.lst xs) ∧ 0 < xs.length ∧ σ[j]? = some (some vy) ∧ TabAt H1 P lpos qual ∧ (∀ i l, (ks i).length = (ks l).length) ∧
 (∀ (i : Nat) (v : V) (H2 : Hp), xs[i]? = some v → But P H1 H2 → tb [some v, some vy] H2 fun z H3 => ∃ t', z = .ref t' ∧ H3 t' = some (.tup ((ks i).map V.int)) ∧ Same H2 H3) ∧
 ∀ (i : Nat) (v : V) (H2 : Hp), xs[i]? = some v → (∀ l, l < xs.length → HT.lexLt (ks l) (ks i) = false) → TabAt H2 P lpos qual → But P H1 H2 → Q v H2
section
variable {X : Cx}
theorem pe_minLam {e : Expr} {t : TA} {params : Arguments} {body : Expr} {scope : Scope} {p lpos kpos pos : Pos} {x y : Str} {j : Nat} {c P cy : Addr} {tb : TE} (hcalm : X.calm = true) (hB : Bm X.mg X.base) (hcode : X.env.code = .ref c) (C : PySem.W.CodeHd X.base c P) (S : LamScope x y scope)
  (hcell : X.env.cells.lookup y = some cy) (hcl : closureFor scope X.env = pure [(y, cy)]) (hy : X.N[j]? = some y) (hky : X.env.scope.names.lookup y = some .cell) (hr : Room 2 X.A)
  (hb : ∀ (c' : Addr) (pm ctv u : Value), bindArgs (PySem.W.kla_fn "<lambda>" (X.env.qual ++ "<lambda>") params body scope [(y, cy)] pm (.ref c') ctv) ⟨[u], []⟩ = pure [(x, u)])
  (ht : ∀ (s : Shared) (H : Hp) (f c' : Addr), PE (lamCx X X.A.in1 s H (X.env.qual ++ "<lambda>") scope f c' [(y, cy)] [x, y]) body tb) (ha : PA X [e] t) (hg : Gl X "min") (hm : X.mg "min" = none)
  (hdef : defaultsOf params X.env = ([], []) := by rfl) (hs : starEach [e] X.env = [(false, eval e X.env)] := by rfl) :
  PE X (.Call (.Name "min" p) [e] [⟨some "key", .Lambda params body scope lpos, kpos⟩] pos) (tMinLam P lpos (X.env.qual ++ "<lambda>") j t tb) := by
 intro pins s σ H Q I h
 refine wpAny_Call_Name_kw (ld_blt I hg hm (u := .builtin "min") (by rfl) ?_)
 refine callWith_builtin_kwB (by rw [hs]; rfl) rfl ?_
 refine evalArgs_kw2 rfl (thn (ha pos pins s σ H _ I h) fun us s1 ⟨vs, H1, I1, rv, a, xs, vy, ks, ev, hL, hne, hσ, hT, hsz, hk, q⟩ => ?_) hs
 subst ev
 obtain ⟨u, rfl, ru⟩ := vals1 rv
 cases ru
 show wpAny _ _ (evalAll [(do let v ← eval (.Lambda params body scope lpos) X.env; standAt pos; pure v)]) _ _ s1
 refine wpAny_evalAll_cons (wpAny_bind (lam_make I1 hB hcode C hcl hdef hT fun s2 H2 f c' ctv pm I2 fp gf hc' hT2 fr => wpAny_bind (wpAny_standAt (wpAny_pure (wpAny_evalAll_nil ?_)))))
 have I3 := I2.pinMore (more := [(f, PySem.W.kla_obj "<lambda>" (X.env.qual ++ "<lambda>") params body scope [(y, cy)] pm c' ctv)]) fun p hp => by
  rw [List.mem_singleton.mp hp]
  exact ⟨fp, gf, fun v z => by cases z⟩
 have hPn : a ≠ P := fun z => by
  obtain ⟨ps, e, _⟩ := hT
  rw [z, e] at hL
  cases hL
 have key : KeyT X (pins ++ [(f, PySem.W.kla_obj "<lambda>" (X.env.qual ++ "<lambda>") params body scope [(y, cy)] pm c' ctv)]) σ (fun H' => But P H1 H' ∧ TabAt H' P lpos (X.env.qual ++ "<lambda>") ∧ H' c' = some (HoCode c' (X.env.qual ++ "<lambda>"))) X.A.in1 f xs ks := by
  intro i v u' more H4 s4 hv ru' J ⟨b4, T4, c4⟩
  have pf := J.pin (f, PySem.W.kla_obj "<lambda>" (X.env.qual ++ "<lambda>") params body scope [(y, cy)] pm c' ctv) (List.mem_append_right _ (List.mem_append_left _ (List.mem_append_right _ (.head _))))
  refine thn (lam_call (A' := X.A.in1) (Q := fun z H' => ∃ t, z = .ref t ∧ H' t = some (.tup ((ks i).map V.int)) ∧ Same H4 H') rfl hr.hd hr.depth S J pf.1 c4 hcell hy hσ hky ru' (hb c' pm ctv u') (ht s4 H4 f c') (hk i v H4 hv b4)) fun z s5 hz => ?_
  obtain ⟨z', H5, J5, rz, t', ez, h5, sm⟩ := hz
  exact ⟨z', H5, J5, rz, t', ez, h5, sm, b4.same sm, T4.mono sm, sm _ _ c4⟩
 refine wpAny_mono (min_call (R := fun H' => But P H1 H' ∧ TabAt H' P lpos (X.env.qual ++ "<lambda>") ∧ H' c' = some (HoCode c' (X.env.qual ++ "<lambda>"))) hr.hd (by have := hr.un; omega) hne (fun H' hr' => hr'.1 _ _ hL hPn) hsz key I3 ⟨fr, hT2, hc'⟩ fun i v H' hv hbst hR' => q i v H' hv hbst hR'.2.1 hR'.1) (fun z s' hz => ?_) fun _ _ w => w
 obtain ⟨v', H', J, rz, q'⟩ := hz
 exact ⟨v', H', J.unpinned, rz, q'⟩
end
end L2
namespace L2
open PySem PySem.Spec PyProof.Rows
theorem perm_map_inv {α β : Type} {g : α → β} {l : List β} : ∀ {l' : List β}, l.Perm l' → ∀ m : List α, l' = m.map g → ∃ m' : List α, m'.Perm m ∧ l = m'.map g := by
 intro l' h
 induction h with
 | nil => intro m e; exact ⟨m, .refl _, e⟩
 | @cons x l1 l2 _ ih =>
  intro m e
  match m, e with
  | a :: m, e =>
   have e1 := (List.cons.inj e).1
   obtain ⟨m', p, q⟩ := ih m (List.cons.inj e).2
   exact ⟨a :: m', p.cons a, by rw [List.map_cons, ← q, e1]⟩
 | swap x y l1 =>
  intro m e
  match m, e with
  | a :: b :: m, e =>
   have e1 := (List.cons.inj e).1
   have e2 := (List.cons.inj (List.cons.inj e).2).1
   have e3 := (List.cons.inj (List.cons.inj e).2).2
   exact ⟨b :: a :: m, .swap a b m, by rw [List.map_cons, List.map_cons, ← e3, e1, e2]⟩
 | trans _ _ ih1 ih2 =>
  intro m e
  obtain ⟨m1, p1, q1⟩ := ih2 m e
  obtain ⟨m2, p2, q2⟩ := ih1 m1 q1
  exact ⟨m2, p2.trans p1, q2⟩
section
variable {X : Cx} {pins : List (Addr × Obj)} {σ : St} {H : Hp} {s : Shared}
theorem Inv.track {D : Addr} {o : HO} (J : Inv X pins σ H s) (f : FpOk X pins H D) (new : ObjOk X.prog X.w (upd H D o) s.heap D o) : Inv X pins σ (upd H D o) s := by
 have neS : ∀ b u, H b = some u → b ≠ D := fun b u e => ne_of_none e f.1
 refine ⟨J.ok, J.os, J.bare, ⟨J.base.keep, J.base.slot, fun b ob e n hx => ?_, J.base.there, fun b xs e => ?_, fun b ob u e => ?_, fun b ps e => ?_⟩, J.loc, J.cell, ?_, fun x c e => ?_, fun p hp => ?_, fun b ob e => ?_, J.len⟩
 ·have hb : b ≠ D := fun z => by
   rcases f.2.2.2.1 with q | q
   ·exact hx (z ▸ q)
   ·exact absurd (Nat.lt_of_lt_of_le (Heap.lt_size e) q) (by rw [z]; exact Nat.lt_irrefl _)
  rw [upd_ne hb]
  exact J.base.free b ob e n hx
 ·have q := J.base.tups b xs e
  rw [upd_ne (neS b _ q)]; exact q
 ·have q := J.base.frzs b ob u e
  rw [upd_ne (neS b _ q)]; exact q
 ·obtain ⟨m, q⟩ := J.base.tbls b ps e
  exact ⟨m, by rw [upd_ne (neS b _ q)]; exact q⟩
 ·rw [upd_ne (Ne.symm f.2.1)]; exact J.free
 ·rw [upd_ne (f.2.2.2.2.1 x c e)]; exact J.freeC x c e
 ·obtain ⟨e, n, r⟩ := J.pin p hp
  exact ⟨e, by rw [upd_ne (f.2.2.2.2.2 p hp)]; exact n, r⟩
 ·by_cases hb : b = D
  ·subst hb
   rw [upd_same] at e
   cases e
   exact new
  ·rw [upd_ne hb] at e
   exact (J.hok b ob e).stay (fun c v _ q => q) (fun c q => by rw [upd_ne (neS c _ q)]; exact q) fun c xs q => by rw [upd_ne (neS c _ q)]; exact q
theorem FpOk.turn {h' : Heap} {t' : Nat} {b : Addr} (f : FpOk X pins H b) (J : Inv X pins σ H s) (k : ∀ c o, c ≠ b → s.heap.get? c = some o → h'.get? c = some o) : Inv X pins σ H { s with heap := h', toks := t' } :=
 J.turned k f.1 f.2.1 f.2.2.2.1 f.2.2.2.2.1 f.2.2.2.2.2
theorem items_inl {its : List Value} {ns : List Int} (h : IntsAre its ns) : ∀ i : Nat, tupItems (fun _ => false) i its = some (ns.map Sum.inl) := by
 induction h with
 | nil => intro i; rfl
 | @cons n t vs ns h ih =>
  intro i
  show (if (false : Bool) = true then none else (tupItems (fun _ => false) (i + 1) vs).map (Sum.inl n :: ·)) = _
  rw [if_neg Bool.false_ne_true, ih (i + 1)]
  rfl
theorem lex_inl : ∀ (a b : List Int), PyProof.Rows.lexLt itemOrd (a.map Sum.inl) (b.map Sum.inl) = HT.lexLt a b
 | [], [] => rfl
 | [], _ :: _ => rfl
 | _ :: _, [] => rfl
 | x :: xs, y :: ys => by
  have ih := lex_inl xs ys
  show (decide (x < y) || (!decide (y < x) && PyProof.Rows.lexLt itemOrd (xs.map Sum.inl) (ys.map Sum.inl))) = HT.lexLt (x :: xs) (y :: ys)
  rw [ih, HT.lexLt_cons]
  by_cases e : x = y
  ·subst e
   rw [if_pos rfl]
   simp
  ·rw [if_neg e]
   by_cases l : x < y
   ·simp [l]
   ·have : y < x := by omega
    simp [l, this]
def KeysAt (h : Heap) (ks : Nat → List Int) (kA : List Value) : Prop := ∀ (i : Nat) (v : Value), kA[i]? = some v → ∃ t its, v = .ref t ∧ IsTup h t its.toArray ∧ IntsAre its (ks i)
theorem KeysAt.keep {h h' : Heap} {ks : Nat → List Int} {kA : List Value} (x : KeysAt h ks kA) (k : PyProof.Rows.G.KeepsTups h h') : KeysAt h' ks kA := fun i v e => by
 obtain ⟨t, its, e1, ⟨o, g, c, n, d⟩, e3⟩ := x i v e
 exact ⟨t, its, e1, ⟨o, k _ _ g c, c, n, d⟩, e3⟩
theorem KeysAt.key {h : Heap} {ks : Nat → List Int} {kA : List Value} (x : KeysAt h ks kA) {i : Nat} {v : Value} (e : kA[i]? = some v) : PyProof.Rows.G.tupKeyC h (fun _ => false) v = some ((ks i).map Sum.inl) := by
 obtain ⟨t, its, rfl, ⟨o, g, c, n, d⟩, e3⟩ := x i v e
 exact PyProof.Rows.G.tupKeyC_of g c d (by rw [List.toList_toArray]; exact items_inl e3 0)
theorem keys_firsts {h : Heap} : ∀ {kA : List Value} {ks : Nat → List Int}, (∀ i, ks i ≠ []) → KeysAt h ks kA → ∃ fs, TupsOf h (fun _ => false) kA fs
 | [], _, _, _ => ⟨[], .nil⟩
 | v :: kA, ks, hne, x => by
  obtain ⟨fs, hf⟩ := keys_firsts (kA := kA) (ks := fun i => ks (i + 1)) (fun i => hne (i + 1)) fun i u e => x (i + 1) u e
  obtain ⟨t, its, rfl, ⟨o, g, c, n, d⟩, e3⟩ := x 0 v rfl
  match hk : ks 0, hne 0, its, e3 with
  | [], z, _, _ => exact absurd rfl z
  | k :: kr, _, its, e3 =>
   cases e3 with
   | @cons _ t' vs _ r => exact ⟨_, .cons ⟨t, o, _, n, rfl, g, c, d, rfl, fun _ => ⟨k, t', rfl⟩, fun z => by cases z⟩ hf⟩
end
end L2
namespace L2
open PySem PySem.Spec PyProof.Rows
section
variable {X : Cx} {pins : List (Addr × Obj)} {σ : St} {H : Hp} {s : Shared}
structure Ranked (ks : Nat → List Int) (n : Nat) (ix : List Nat) : Prop where
 perm : ix.Perm (List.range n)
 ord : ix.Pairwise fun i j => HT.lexLt (ks j) (ks i) = false
theorem zip_range {kA vs : List Value} {n : Nat} (h1 : kA.length = n) (h2 : vs.length = n) : kA.zip vs = (List.range n).map fun i => (kA.getD i Value.none, vs.getD i Value.none) := by
 refine List.ext_getElem? fun i => ?_
 rw [List.getElem?_map]
 by_cases hi : i < n
 ·have q : (kA.zip vs)[i]? = some (kA[i]'(by omega), vs[i]'(by omega)) := List.getElem?_zip_eq_some.mpr ⟨List.getElem?_eq_getElem _, List.getElem?_eq_getElem _⟩
  rw [List.getElem?_range hi, q]
  simp only [Option.map_some, List.getD_eq_getElem?_getD, List.getElem?_eq_getElem (show i < kA.length by omega), List.getElem?_eq_getElem (show i < vs.length by omega), Option.getD_some]
 ·rw [List.getElem?_eq_none (by rw [List.length_zip]; omega), List.getElem?_eq_none (by rw [List.length_range]; omega)]
  rfl
theorem ranked_of {h : Heap} {ks : Nat → List Int} {kA vs : List Value} {n : Nat} {arr : Array Keyed} (K : KeysAt h ks kA) (h1 : kA.length = n) (h2 : vs.length = n) (hp : arr.Perm (kA.toArray.zip vs.toArray)) (hs : SortedToK (PyProof.Rows.G.tupKindC h fun _ => false) arr n) :
  ∃ ix, Ranked ks n ix ∧ (arr.map (·.2)).toList = ix.map fun i => vs.getD i Value.none := by
 have e : arr.toList.Perm ((List.range n).map fun i => (kA.getD i Value.none, vs.getD i Value.none)) := by
  rw [← zip_range h1 h2]
  have := Array.perm_iff_toList_perm.mp hp
  rw [Array.toList_zip, List.toList_toArray, List.toList_toArray] at this
  exact this
 obtain ⟨ix, p, q⟩ := perm_map_inv e _ rfl
 have hl : ix.length = n := by rw [p.length_eq, List.length_range]
 have hsz : arr.size = n := by rw [← Array.length_toList, q, List.length_map, hl]
 have at_ : ∀ (j : Nat) (hj : j < ix.length), KK (PyProof.Rows.G.tupKindC h fun _ => false) arr j = (ks ix[j]).map Sum.inl := fun j hj => by
  have hm : ix[j] < n := List.mem_range.mp (p.mem_iff.mp (List.getElem_mem hj))
  have ea : arr[j]? = some (kA.getD ix[j] Value.none, vs.getD ix[j] Value.none) := by
   rw [← Array.getElem?_toList, q, List.getElem?_map, List.getElem?_eq_getElem hj]
   rfl
  have ek : kA[ix[j]]? = some (kA.getD ix[j] Value.none) := by
   rw [List.getD_eq_getElem?_getD, List.getElem?_eq_getElem (by omega)]
   rfl
  unfold KK
  rw [ea]
  show (PyProof.Rows.G.tupKeyC h (fun _ => false) (kA.getD ix[j] Value.none)).getD [] = _
  rw [K.key ek]
  rfl
 refine ⟨ix, ⟨p, ?_⟩, ?_⟩
 ·rw [List.pairwise_iff_getElem]
  intro i j hi hj hij
  have z := hs i j (Nat.le_of_lt hij) (by omega)
  rw [at_ i hi, at_ j hj] at z
  have z' : PyProof.Rows.lexLt itemOrd ((ks ix[j]).map Sum.inl) ((ks ix[i]).map Sum.inl) = false := z
  rw [lex_inl] at z'
  exact z'
 ·rw [Array.toList_map, q, List.map_map]
  rfl
theorem small_size {n : Nat} (h : n ≤ 1000) : n ≤ sizeLine := Nat.le_of_lt (small1000 h)
theorem sort_end {a kS : Addr} {vs : List Value} {kA : List Value} {ks : Nat → List Int} {e e1 n : Nat} {A' : Around} {Pf : PySem.Fin → Shared → Prop} {E : Value → Shared → Prop} (J : Inv X pins σ H s) (fa : FpOk X pins H a) (fk : FpOk X pins H kS) (hka : kS ≠ a)
  (ga : s.heap.get? a = some (seqObj "list" #[] e1)) (gk : s.heap.get? kS = some (seqObj "list" kA.toArray e)) (K : KeysAt s.heap ks kA) (h1 : kA.length = n) (h2 : vs.length = n) (hn : n ≤ 1000) (hne : ∀ i, ks i ≠ [])
  (fin : ∀ (ix : List Nat) (s' : Shared) (c : Nat), Ranked ks n ix → Inv X pins σ H s' → s'.heap.get? a = some (seqObj "list" (ix.map fun i => vs.getD i Value.none).toArray c) → Pf (.done (.ret .none)) s') :
  wpAny (model X.prog X.w) A' (ksk_end a false vs.toArray e1 (.ref kS) kA.toArray) Pf E s := by
 have tail : ∀ (st : SortSt), (arrOf st).Perm (kA.toArray.zip vs.toArray) → SortedToK (PyProof.Rows.G.tupKindC s.heap fun _ => false) (arrOf st) n → failedOf st = none → wpAny (model X.prog X.w) A' (ksk_tail a false e1 (.ref kS) st) Pf E s := by
  intro st hp hs hf
  obtain ⟨ix, rk, eo⟩ := ranked_of K h1 h2 hp hs
  have hl : ix.length = n := by rw [rk.perm.length_eq, List.length_range]
  have eo2 : (arrOf st).map (·.2) = (ix.map fun i => vs.getD i Value.none).toArray := by rw [← eo, Array.toArray_toList]
  unfold ksk_tail
  dsimp only
  have sb1 := Heap.SameBut.update s.heap kS (Obj.mapSeq fun _ => (#[] : Array Value))
  have J1 : Inv X pins σ H { s with heap := s.heap.update kS (Obj.mapSeq fun _ => (#[] : Array Value)) } := fk.turn (t' := s.toks) J fun b o hb q => (sb1.2 b hb).trans q
  have ga1 := (sb1.2 a (Ne.symm hka)).trans ga
  refine wpAny_bind (listUpdate_at gk rfl ?_ (by rw [List.size_toArray, h1]; exact small_size hn) (Nat.zero_le _))
  refine wpAny_bind (wpAny_letGo (wpAny_bind (seqEpoch_at ga1 rfl ?_)))
  refine wpAny_bind (listUpdate_at ga1 rfl ?_ (Nat.zero_le _) ?_)
  ·rw [hf]
   simp only [bne_self_eq_false, Bool.false_eq_true, if_false]
   have sb2 := Heap.SameBut.update (s.heap.update kS (Obj.mapSeq fun _ => (#[] : Array Value))) a (Obj.mapSeq fun _ => (arrOf st).map (·.2))
   have J2 := FpOk.turn (t' := s.toks) fa J1 fun b o hb q => (sb2.2 b hb).trans q
   obtain ⟨c, g2⟩ : ∃ c, ((s.heap.update kS (Obj.mapSeq fun _ => (#[] : Array Value))).update a (Obj.mapSeq fun _ => (arrOf st).map (·.2))).get? a = some (seqObj "list" ((arrOf st).map (·.2)) c) := ⟨_, get?_update_seq ga1 fun _ => (arrOf st).map (·.2)⟩
   rw [eo2] at g2
   refine wpAny_pure (fin ix _ c rk J2 ?_)
   rw [eo2]
   exact g2
  ·show ((arrOf st).map (·.2)).size ≤ sizeLine + 1
   rw [eo2, List.size_toArray, List.length_map, hl]
   exact Nat.le_succ_of_le (small_size hn)
 have hz : (kA.toArray.zip vs.toArray).size = n := by rw [Array.size_zip, List.size_toArray, List.size_toArray, h1, h2, Nat.min_self]
 unfold ksk_end
 dsimp only
 rw [if_neg (by simp)]
 by_cases l2 : vs.toArray.size < 2
 ·rw [if_pos l2, if_pos l2]
  refine wpAny_bind (wpAny_pure ?_)
  rw [StateT.run_pure]
  refine wpAny_bind (wpAny_pure ?_)
  dsimp only
  refine tail (SortSt.mk' general' (if (false : Bool) = true then (kA.toArray.zip vs.toArray).reverse else kA.toArray.zip vs.toArray) #[] 7 none) (Array.Perm.refl _) (fun i j hij hj => ?_) rfl
  rw [List.size_toArray] at l2
  have : i = j := by omega
  subst this
  exact KeyOrd.kle_refl _
 ·rw [if_neg l2, if_neg l2]
  rw [List.size_toArray] at l2
  obtain ⟨fs, hf⟩ := keys_firsts hne K
  refine wpAny_bind (tup_kind (shape := fun _ => false) (by rw [PyProof.Rows.G.TupsOf.length hf]; omega) hf ?_)
  refine wpAny_bind (wpAny_mono (PyProof.Rows.G.wpS_sortRunsSt (κ := PyProof.Rows.G.tupKindC s.heap fun _ => false) (kd := tuples' true) (a₀ := kA.toArray.zip vs.toArray)
   (st := SortSt.mk' (tuples' true) (if (false : Bool) = true then (kA.toArray.zip vs.toArray).reverse else kA.toArray.zip vs.toArray) #[] 7 none)
   (Q := fun _ st' => (arrOf st').Perm (kA.toArray.zip vs.toArray) ∧ failedOf st' = none ∧ SortedToK (PyProof.Rows.G.tupKindC s.heap fun _ => false) (arrOf st') n)
   (PyProof.Rows.G.tupC_ltAt true (PyProof.Rows.G.KeepsTups.refl _)) (fun p hp => ?_) ⟨Array.Perm.refl _, rfl, rfl⟩ rfl (Stable.refl _) (by omega)
   fun st' a1 a2 a3 a4 => ⟨a1, a2, by rw [hz] at a3; exact a3⟩) ?_ fun _ _ q => q)
  ·rw [Array.toList_zip, List.toList_toArray, List.toList_toArray] at hp
   obtain ⟨i, hi⟩ := List.mem_iff_getElem?.mp (List.of_mem_zip (a := p.1) (b := p.2) hp).1
   exact ⟨_, K.key hi⟩
  ·rintro ⟨⟨⟩, st'⟩ s' ⟨rfl, hp, hf', hs⟩
   exact tail st' hp hs hf'
theorem sort_rest {a kS f : Addr} {vs : List Value} {xs : List V} {ks : Nat → List Int} {e1 n : Nat} {R : Hp → Prop} {A' : Around} {Pf : PySem.Fin → Shared → Prop} {E : Value → Shared → Prop} (key : KeyT X pins σ R A' f xs ks) (J : Inv X pins σ H s) (hR : R H) (fa : FpOk X pins H a) (fk : FpOk X pins H kS) (hka : kS ≠ a)
  (ga : s.heap.get? a = some (seqObj "list" #[] e1)) (gk : s.heap.get? kS = some (seqObj "list" #[] 0)) (rv : Vals xs vs) (h2 : xs.length = n) (hn : n ≤ 1000) (hne : ∀ i, ks i ≠ [])
  (fin : ∀ (H' : Hp) (ix : List Nat) (s' : Shared) (c : Nat), Ranked ks n ix → R H' → FpOk X pins H' a → Inv X pins σ H' s' → s'.heap.get? a = some (seqObj "list" (ix.map fun i => vs.getD i Value.none).toArray c) → Pf (.done (.ret .none)) s') :
  wpAny (model X.prog X.w) A' (ksk_rest a (.ref f) false vs.toArray e1 (.ref kS)) Pf E s := by
 have hlen := rv.length
 unfold ksk_rest
 refine wpAny_bind (wpAny_rule ?_)
 rw [List.forIn_toArray]
 refine wpAny_bind (ksk_fold (fun i s' => ∃ (H' : Hp) (kA : List Value) (e : Nat) (ts : List Addr), Inv X pins σ H' s' ∧ R H' ∧ FpOk X pins H' a ∧ FpOk X pins H' kS ∧ s'.heap.get? a = some (seqObj "list" #[] e1) ∧ s'.heap.get? kS = some (seqObj "list" kA.toArray e) ∧ kA.length = i ∧
  kA = ts.map Value.ref ∧ ∀ (l : Nat) (t : Addr), ts[l]? = some t → H' t = some (.tup ((ks l).map V.int))) vs 0 s ⟨H, [], 0, [], J, hR, fa, fk, ga, gk, rfl, rfl, fun l t q => by simp at q⟩ ?step ?done)
 case step =>
  rintro j x s1 hx ⟨H1, kA, e, ts, J1, hR1, fa1, fk1, ga1, gk1, hl1, ek, ht⟩
  rw [Nat.zero_add] at hl1
  have hj : j < vs.length := (List.getElem?_eq_some_iff.mp hx).1
  have hjx : j < xs.length := by omega
  obtain ⟨u, hu, ru⟩ := rv.get (List.getElem?_eq_getElem hjx)
  rw [hx] at hu
  cases hu
  have J2 : Inv X (pins ++ [(a, seqObj "list" #[] e1), (kS, seqObj "list" kA.toArray e)]) σ H1 s1 := J1.pinMore fun p hp => by
   rcases List.mem_cons.mp hp with rfl | hp
   ·exact ⟨fa1, ga1, cellless⟩
   ·rw [List.mem_singleton.mp hp]
    exact ⟨fk1, gk1, cellless⟩
  refine wpAny_bind (wpAny_attempt (wpAny_mono (key j _ x _ H1 s1 (List.getElem?_eq_getElem hjx) ru J2 hR1) (fun z s2 hz => ?_) fun _ _ q => q.elim))
  obtain ⟨z', H2, J3, rz, t2, rfl, ht2, sm, hR2⟩ := hz
  obtain rfl : z = Value.ref t2 := rz
  have pa := J3.pin (a, seqObj "list" #[] e1) (List.mem_append_right _ (List.mem_append_right _ (.head _)))
  have pk := J3.pin (kS, seqObj "list" kA.toArray e) (List.mem_append_right _ (List.mem_append_right _ (.tail _ (.head _))))
  have J4 := J3.unpinned
  have fa2 := fa1.now (H' := H2) pa.2.1
  have fk2 := fk1.now (H' := H2) pk.2.1
  dsimp only
  have sb := Heap.SameBut.update s2.heap kS (Obj.mapSeq (·.push (Value.ref t2)))
  have J5 := FpOk.turn (t' := s2.toks) fk2 J4 fun b o hb q => (sb.2 b hb).trans q
  obtain ⟨c, g5⟩ : ∃ c, (s2.heap.update kS (Obj.mapSeq (·.push (Value.ref t2)))).get? kS = some (seqObj "list" (kA.toArray.push (.ref t2)) c) := ⟨_, get?_update_seq pk.1 (·.push (Value.ref t2))⟩
  refine wpAny_bind (listUpdate_at pk.1 rfl ?_ (by rw [List.size_toArray]; exact small_size (by omega)) ?_)
  ·refine wpAny_pure ⟨rfl, H2, kA ++ [.ref t2], c, ts ++ [t2], J5, hR2, fa2, fk2, (sb.2 a (Ne.symm hka)).trans pa.1, ?_, ?_, ?_, fun l t q => ?_⟩
   ·rw [g5]
    simp
   ·rw [List.length_append, hl1, Nat.zero_add]
    rfl
   ·rw [ek, List.map_append]
    rfl
   ·rw [List.getElem?_append] at q
    split at q
    ·exact sm _ _ (ht l t q)
    ·rename_i hl
     have htl : ts.length = j := by rw [← hl1, ek, List.length_map]
     have e0 : l = j := by
      have := (List.getElem?_eq_some_iff.mp q).1
      simp at this
      omega
     subst e0
     rw [htl, Nat.sub_self] at q
     cases q
     exact ht2
  ·show (kA.toArray.push (Value.ref t2)).size ≤ sizeLine + 1
   rw [Array.size_push, List.size_toArray]
   exact Nat.succ_le_succ (small_size (by omega))
 case done =>
  rintro s1 ⟨H1, kA, e, ts, J1, hR1, fa1, fk1, ga1, gk1, hl1, ek, ht⟩
  refine wpAny_bind (listItems_at gk1 rfl ?_)
  refine sort_end J1 fa1 fk1 hka ga1 gk1 (fun i v q => ?_) (by omega) (by omega) hn hne fun ix s' c rk J' g' => fin H1 ix s' c rk hR1 fa1 J' g'
  rw [ek, List.getElem?_map] at q
  cases w : ts[i]? with
  | none =>
   rw [w] at q
   cases q
  | some t =>
   rw [w] at q
   cases q
   obtain ⟨its, r1, p1, _⟩ := J1.tuple (SqT.of (ht i t w))
   exact ⟨t, its, rfl, p1, intsAre_of r1⟩
end
end L2
namespace L2
open PySem PySem.Spec PyProof.Rows
section
variable {prog : Program} {w : World} {A : Around} {E : Value → Shared → Prop} {s : Shared}
theorem collect_rng {r : Addr} {n : Nat} {t u v : Tok} {Q : List Value → Shared → Prop} (hh : A.handled = none) (hr : IsRange s.heap r 0 n 1 t u v) (hn : n ≤ 1000)
  (h : ∀ h' tk (vs : List Value), (∀ b o, s.heap.get? b = some o → h'.get? b = some o) → vs.length = n → (∀ (j : Nat) (v : Value), vs[j]? = some v → ∃ t, v = .int (j : Int) t) → Q vs { s with heap := h', toks := tk }) :
  wpAny (model prog w) A (collect (.ref r)) Q E s := by
 have hsm : Builtin.Range.small 0 (n : Int) 1 = true := small_one (by omega) (by omega) (by omega) (by omega)
 have hsz : Builtin.Range.rangeSize 0 (n : Int) 1 = (n : Int) := by rw [rangeSize_one]; split <;> omega
 have hr' : IsRange (s.heap.push (seqObj "list" #[] 0)) r 0 n 1 t u v := Heap.get?_push_of_some _ hr
 have hS0 : (s.heap.push (seqObj "list" #[] 0)).get? s.heap.objs.size = some { cls := .type "list", data := .seq #[] 0 } := Heap.get?_push_size _ rfl
 have key : codeAny (model prog w) A (.builtin "proto.collect" ⟨[.ref r], []⟩) (fun q s' => q = .ok (.ret (.ref s.heap.objs.size)) ∧ ∃ (h' : Heap) (tk : Nat) (acc : Array Value) (c : Nat), s' = { s with heap := h', toks := tk } ∧ (∀ b o, b ≠ s.heap.objs.size → (s.heap.push (seqObj "list" #[] 0)).get? b = some o → h'.get? b = some o) ∧
   h'.get? s.heap.objs.size = some { cls := .type "list", dict := none, data := .seq acc c, slots := #[] } ∧ ItemsOf (fun i v => ∃ t, v = .int (0 + (i : Int) * 1) t) acc n) s := by
  refine codeAny_builtin entry_proto_collect' ?_
  show wpAny _ _ (do again (.builtin "list.__iadd__" ⟨[← newList [], .ref r], []⟩)) _ _ s
  refine wpAny_bind (wpAny_newList (wpAny_pure ⟨Code.quiet_builtin _ (by decide +kernel), codeAny_builtin entry_list_iadd' ?_⟩))
  rw [Around.under_plainId (by decide +kernel)]
  show wpAny _ A.in1 (Builtin.List.listExtendWith (.ref s.heap.objs.size) (.ref r) (.ref s.heap.objs.size)) _ _ { s with heap := s.heap.push (seqObj "list" #[] 0) }
  exact wpAny_extend_range (R := fun q s' => q = .ok (.ret (.ref s.heap.objs.size)) ∧ ∃ (h' : Heap) (tk : Nat) (acc : Array Value) (c : Nat), s' = { s with heap := h', toks := tk } ∧ (∀ b o, b ≠ s.heap.objs.size → (s.heap.push (seqObj "list" #[] 0)).get? b = some o → h'.get? b = some o) ∧
   h'.get? s.heap.objs.size = some { cls := .type "list", dict := none, data := .seq acc c, slots := #[] } ∧ ItemsOf (fun i v => ∃ t, v = .int (0 + (i : Int) * 1) t) acc n) (s := { s with heap := s.heap.push (seqObj "list" #[] 0) }) (n := n) hh hr' hsm hsz (by omega) s.heap.objs.size (.ref s.heap.objs.size) 0 hS0
   fun h' tk acc c kp hS hI => ⟨rfl, h', tk, acc, c, rfl, kp, hS, hI⟩
 unfold collect
 refine wpAny_bind (wpAny_runValue (codeAny_mono key fun q s' hq => ?_))
 obtain ⟨rfl, h', tk, acc, c, rfl, kp, hS, hI⟩ := hq
 dsimp only
 refine wpAny_bind (wpAny_load hS ?_)
 show wpAny _ _ (pure acc.toList) _ _ _
 have p1 : ∀ b o, s.heap.get? b = some o → h'.get? b = some o := fun b o q => kp b o (Nat.ne_of_lt (Heap.lt_size q)) (Heap.get?_push_of_some _ q)
 have p2 : acc.toList.length = n := by rw [Array.length_toList]; exact hI.1
 have p3 : ∀ (j : Nat) (v : Value), acc.toList[j]? = some v → ∃ t, v = .int (j : Int) t := fun j v q => by
  obtain ⟨t, e⟩ := hI.2 j v (by rw [← Array.getElem?_toList]; exact q)
  exact ⟨t, by rw [e, Int.zero_add, Int.mul_one]⟩
 exact wpAny_pure (h h' tk acc.toList p1 p2 p3)
end
section
variable {X : Cx} {pins : List (Addr × Obj)} {σ : St} {H : Hp} {s : Shared}
theorem ksk_ok1 (a v : Value) : argsOk "list.sort" ⟨[a], [(Str.ofString "key", v)]⟩ := ksk_l1 a v
theorem sorted_call {r f : Addr} {n : Nat} {ks : Nat → List Int} {R : Hp → Prop} {Q : VK} (hh : X.A.handled = none) (hn : n ≤ 1000) (hr : H r = some (.rng 0 n)) (key : KeyT X pins σ R X.A.in1.in1 f ((List.range n).map natV) ks) (hne : ∀ i, ks i ≠ []) (J : Inv X pins σ H s) (hR : R H)
  (fin : ∀ (H' : Hp) (ix : List Nat) (p : Addr), Ranked ks n ix → R H' → H' p = none → Q (.ref p) (upd H' p (.lst (ix.map natV)))) :
  wpAny (model X.prog X.w) X.A (call (.builtin "sorted") [.ref r] [(Str.ofString "key", .ref f)]) (EP X pins σ Q) X.xe s := by
 obtain ⟨t, u, v, er⟩ := J.hok r _ hr
 refine call_function_entry_kw kind_sorted plain_sorted entry_sorted (ksk_s1 _ _) ?_
 unfold Builtin.«sorted»
 refine wpAny_bind (m := checkCount "sorted" 1 1 _) (wpAny_pure ?_)
 refine wpAny_bind (collect_rng (A := X.A.in1) hh (show IsRange s.heap r 0 n 1 t u v from er) hn fun h1 tk vs kp hl hv => ?_)
 have J1 : Inv X pins σ H { s with heap := h1, toks := tk } := J.kept kp
 have rv : Vals ((List.range n).map natV) vs := vals_itemsI (g := fun i => (i : Int)) hl hv
 refine wpAny_bind (wpAny_newList ?_ (by rw [hl]; exact small_size hn))
 have J2 := J1.kept (t' := tk) (h' := h1.push (seqObj "list" vs.toArray 0)) fun b o q => Heap.get?_push_of_some _ q
 have fa : FpOk X pins H h1.objs.size := J1.fpOk (Nat.le_refl _) (J1.hok.fresh (Nat.le_refl _))
 have ga : (h1.push (seqObj "list" vs.toArray 0)).get? h1.objs.size = some (seqObj "list" vs.toArray 0) := Heap.get?_push_size _ rfl
 show wpAny _ _ (holding [Value.ref h1.objs.size] (call (.builtin "list.sort") [Value.ref h1.objs.size] [(Str.ofString "key", .ref f)]) >>= _) _ _ { s with heap := h1.push (seqObj "list" vs.toArray 0), toks := tk }
 generalize h1.push (seqObj "list" vs.toArray 0) = g at *
 generalize h1.objs.size = a at *
 refine wpAny_bind (wpAny_holding (wpAny_call_entry_kw slot_list_sort ⟨_, ga, rfl⟩ entry_list_sort ?body (ksk_ok1 _ _)))
 case body =>
  show wpAny (model X.prog X.w) X.A.in1.in1 (Builtin.«list.sort» ⟨[.ref a], [(Str.ofString "key", .ref f)]⟩) _ _ _
  rw [ksk_t1]
  unfold ksk_tree
  have sb := Heap.SameBut.update g a (Obj.mapSeq fun _ => (#[] : Array Value))
  obtain ⟨e1, ga1⟩ : ∃ e1, (g.update a (Obj.mapSeq fun _ => (#[] : Array Value))).get? a = some (seqObj "list" #[] e1) := ⟨_, get?_update_seq ga fun _ => #[]⟩
  have J3 := FpOk.turn (t' := tk) fa J2 fun b o hb q => (sb.2 b hb).trans q
  refine wpAny_bind (listItems_at ga rfl (wpAny_bind (listUpdate_at ga rfl ?_ (by rw [List.size_toArray, hl]; exact small_size hn) (Nat.zero_le _))))
  refine wpAny_bind (seqEpoch_at ga1 rfl (wpAny_bind (wpAny_newTuple ?_ (by show vs.length ≤ _; rw [hl]; exact small_size hn))))
  refine wpAny_bind (wpAny_newList (wpAny_holding ?_) (Nat.zero_le _))
  have J4 := J3.kept (t' := tk) (h' := (g.update a (Obj.mapSeq fun _ => (#[] : Array Value))).push (seqObj "tuple" vs.toArray 0)) fun b o q => Heap.get?_push_of_some _ q
  have J5 := J4.kept (t' := tk) (h' := ((g.update a (Obj.mapSeq fun _ => (#[] : Array Value))).push (seqObj "tuple" vs.toArray 0)).push (seqObj "list" #[] 0)) fun b o q => Heap.get?_push_of_some _ q
  have fk : FpOk X pins H ((g.update a (Obj.mapSeq fun _ => (#[] : Array Value))).push (seqObj "tuple" vs.toArray 0)).objs.size := J4.fpOk (Nat.le_refl _) (J4.hok.fresh (Nat.le_refl _))
  have hka : ((g.update a (Obj.mapSeq fun _ => (#[] : Array Value))).push (seqObj "tuple" vs.toArray 0)).objs.size ≠ a := Nat.ne_of_gt (Heap.lt_size (Heap.get?_push_of_some (seqObj "tuple" vs.toArray 0) ga1))
  refine sort_rest (xs := (List.range n).map natV) (n := n) key J5 hR fa fk hka (Heap.get?_push_of_some _ (Heap.get?_push_of_some _ ga1)) (Heap.get?_push_size _ rfl) rv (by rw [List.length_map, List.length_range]) hn hne fun H' ix s' c rk hR' fa' J' g' => ⟨_, rfl, wpAny_pure ⟨_, rfl, ?_⟩⟩
  have hv' : Vals (ix.map natV) (ix.map fun i => vs.getD i Value.none) := by
   have key : ∀ l : List Nat, (∀ i ∈ l, i < n) → Vals (l.map natV) (l.map fun i => vs.getD i Value.none) := by
    intro l
    induction l with
    | nil => intro _; exact .nil
    | cons i l ih =>
     intro hm
     refine .cons ?_ (ih fun j hj => hm j (List.mem_cons_of_mem _ hj))
     have hi : i < vs.length := by rw [hl]; exact hm i List.mem_cons_self
     show RelV (natV i) (vs.getD i Value.none)
     rw [List.getD_eq_getElem?_getD, List.getElem?_eq_getElem hi]
     exact hv i _ (List.getElem?_eq_getElem hi)
   exact key ix fun i hi => List.mem_range.mp (rk.perm.mem_iff.mp hi)
  refine ⟨.ref a, _, J'.track (o := .lst (ix.map natV)) fa' ⟨?_, _, c, hv', g'⟩, rfl, fin H' ix a rk hR' fa'.1⟩
  rw [List.length_map, rk.perm.length_eq, List.length_range]
  exact small_size hn
end
def tSortLam (P : Addr) (lpos : Pos) (qual : Str) (j : Nat) (t : TA) (tb : TE) : TE := fun σ H Q => t σ H fun vs H1 => ∃ (r : Addr) (n : Nat) (vy : V) (ks : Nat → List Int), vs = [.ref r] ∧ H1 r = some (.rng 0 n) ∧ n ≤ 1000 ∧ σ[j]? = some (some vy) ∧ TabAt H1 P lpos qual ∧ (∀ i, ks i ≠ []) ∧
 (∀ (i : Nat) (H2 : Hp), i < n → But P H1 H2 → tb [some (natV i), some vy] H2 fun z H3 => ∃ t', z = .ref t' ∧ H3 t' = some (.tup ((ks i).map V.int)) ∧ Same H2 H3) ∧
 ∀ (ix : List Nat) (p : Addr) (H2 : Hp), Ranked ks n ix → TabAt H2 P lpos qual → But P H1 H2 → H2 p = none → Q (.ref p) (upd H2 p (.lst (ix.map natV)))
section
variable {X : Cx}
theorem pe_sortLam {e : Expr} {t : TA} {params : Arguments} {body : Expr} {scope : Scope} {p lpos kpos pos : Pos} {x y : Str} {j : Nat} {c P cy : Addr} {tb : TE} (hcalm : X.calm = true) (hB : Bm X.mg X.base) (hcode : X.env.code = .ref c) (C : PySem.W.CodeHd X.base c P) (S : LamScope x y scope)
  (hcell : X.env.cells.lookup y = some cy) (hcl : closureFor scope X.env = pure [(y, cy)]) (hy : X.N[j]? = some y) (hky : X.env.scope.names.lookup y = some .cell) (hr : Room 2 X.A)
  (hb : ∀ (c' : Addr) (pm ctv u : Value), bindArgs (PySem.W.kla_fn "<lambda>" (X.env.qual ++ "<lambda>") params body scope [(y, cy)] pm (.ref c') ctv) ⟨[u], []⟩ = pure [(x, u)])
  (ht : ∀ (s : Shared) (H : Hp) (f c' : Addr), PE (lamCx X X.A.in1.in1 s H (X.env.qual ++ "<lambda>") scope f c' [(y, cy)] [x, y]) body tb) (ha : PA X [e] t) (hg : Gl X "sorted") (hm : X.mg "sorted" = none)
  (hdef : defaultsOf params X.env = ([], []) := by rfl) (hs : starEach [e] X.env = [(false, eval e X.env)] := by rfl) :
  PE X (.Call (.Name "sorted" p) [e] [⟨some "key", .Lambda params body scope lpos, kpos⟩] pos) (tSortLam P lpos (X.env.qual ++ "<lambda>") j t tb) := by
 intro pins s σ H Q I h
 refine wpAny_Call_Name_kw (ld_blt I hg hm (u := .builtin "sorted") (by rfl) ?_)
 refine callWith_builtin_kwB (by rw [hs]; rfl) rfl ?_
 refine evalArgs_kw2 rfl (thn (ha pos pins s σ H _ I h) fun us s1 ⟨vs, H1, I1, rv, r, n, vy, ks, ev, hL, hn, hσ, hT, hne, hk, q⟩ => ?_) hs
 subst ev
 obtain ⟨u, rfl, ru⟩ := vals1 rv
 cases ru
 show wpAny _ _ (evalAll [(do let v ← eval (.Lambda params body scope lpos) X.env; standAt pos; pure v)]) _ _ s1
 refine wpAny_evalAll_cons (wpAny_bind (lam_make I1 hB hcode C hcl hdef hT fun s2 H2 f c' ctv pm I2 fp gf hc' hT2 fr => wpAny_bind (wpAny_standAt (wpAny_pure (wpAny_evalAll_nil ?_)))))
 have I3 := I2.pinMore (more := [(f, PySem.W.kla_obj "<lambda>" (X.env.qual ++ "<lambda>") params body scope [(y, cy)] pm c' ctv)]) fun p hp => by
  rw [List.mem_singleton.mp hp]
  exact ⟨fp, gf, fun v z => by cases z⟩
 have hPn : r ≠ P := fun z => by
  obtain ⟨ps, e, _⟩ := hT
  rw [z, e] at hL
  cases hL
 have key : KeyT X (pins ++ [(f, PySem.W.kla_obj "<lambda>" (X.env.qual ++ "<lambda>") params body scope [(y, cy)] pm c' ctv)]) σ (fun H' => But P H1 H' ∧ TabAt H' P lpos (X.env.qual ++ "<lambda>") ∧ H' c' = some (HoCode c' (X.env.qual ++ "<lambda>"))) X.A.in1.in1 f ((List.range n).map natV) ks := by
  intro i v u' more H4 s4 hv ru' J ⟨b4, T4, c4⟩
  have hi : i < n := by
   have := (List.getElem?_eq_some_iff.mp hv).1
   rw [List.length_map, List.length_range] at this
   exact this
  have ev : v = natV i := by
   rw [List.getElem?_map, List.getElem?_range hi] at hv
   exact (Option.some.inj hv).symm
  subst ev
  have pf := J.pin (f, PySem.W.kla_obj "<lambda>" (X.env.qual ++ "<lambda>") params body scope [(y, cy)] pm c' ctv) (List.mem_append_right _ (List.mem_append_left _ (List.mem_append_right _ (.head _))))
  refine thn (lam_call (A' := X.A.in1.in1) (Q := fun z H' => ∃ t, z = .ref t ∧ H' t = some (.tup ((ks i).map V.int)) ∧ Same H4 H') rfl hr.hd hr.depth S J pf.1 c4 hcell hy hσ hky ru' (hb c' pm ctv u') (ht s4 H4 f c') (hk i H4 hi b4)) fun z s5 hz => ?_
  obtain ⟨z', H5, J5, rz, t', ez, h5, sm⟩ := hz
  exact ⟨z', H5, J5, rz, t', ez, h5, sm, b4.same sm, T4.mono sm, sm _ _ c4⟩
 refine wpAny_mono (sorted_call (R := fun H' => But P H1 H' ∧ TabAt H' P lpos (X.env.qual ++ "<lambda>") ∧ H' c' = some (HoCode c' (X.env.qual ++ "<lambda>"))) hr.hd hn (fr _ _ hL hPn) key hne I3 ⟨fr, hT2, hc'⟩ fun H' ix p rk hR' hp => q ix p H' rk hR'.2.1 hR'.1 hp) (fun z s' hz => ?_) fun _ _ w => w
 obtain ⟨v', H', J, rz, q'⟩ := hz
 exact ⟨v', H', J.unpinned, rz, q'⟩
end
end L2
namespace L2
open PySem PySem.Spec PyProof.Rows
open PySem.W (WData Codec OpenSpec Well WellAll ReadsW ReadsAllW)
def tHook (K : Params → PySem.W.Frag) (as : List Addr) (e : ∀ P, as = (K P).map (·.1)) : PySem.W.Hook :=
 ⟨List (Option Obj) × Bool, fun s => (as.map s.heap.get?, decide (s.toks ≠ 0)), fun w => ((K w.params).map fun p => some p.2, true), PySem.W.InK K, fun w s h => PySem.W.InK.of e w s (congrArg Prod.fst h), PySem.W.InK.keeps⟩
theorem tok_of {K : Params → PySem.W.Frag} {as : List Addr} {e : ∀ P, as = (K P).map (·.1)} (w : World) (s : Shared) (h : (tHook K as e).obs s = (tHook K as e).val w) : s.toks ≠ 0 := of_decide_eq_true (congrArg Prod.snd h)
theorem tIn_of {K : Params → PySem.W.Frag} {as : List Addr} {e : ∀ P, as = (K P).map (·.1)} {w : World} {h : Heap} (Y : (tHook K as e).says w h) : (K w.params).In h := Y
abbrev WalkOT (q : Program) (loose : List Str) (XP : (Str → Option Value) → Heap → Prop) (YP : World → Heap → Prop) (r : OpenSpec) (d : DefRec) : Prop :=
 ∀ (w : World) (t₀ t₁ : Shared) (mg mb : Str → Option Value), PySem.W.Ground q loose [] XP w t₀ mg mb t₁.heap → YP w t₀.heap → YP w t₁.heap → ∀ fa : Addr, mg d.name = some (.ref fa) → t₁.gens = #[] →
  ∀ (args : List WData) (vals : List Value) (as : List Addr), r.pre args = true → WData.layableAll args = true → PySem.W.Laid [] w t₀ t₁ args vals as → t₀.toks ≠ 0 →
   wpAny (model r.prog w) callerA (PySem.call (.ref fa) vals) (fun v s' => PySem.W.GoodWG r.claim (classAt t₀.heap) (ExcName.means t₀.heap) args t₁ (.ok (.ret v)) s')
    (fun e s' => PySem.W.GoodWG r.claim (classAt t₀.heap) (ExcName.means t₀.heap) args t₁ (.error e) s') t₁
theorem holds_osT {r : OpenSpec} {q : Program} {loose : List Str} {Xt : Shared → Bool} {XP : (Str → Option Value) → Heap → Prop} {α : Type} {Yf : Shared → α} {Ya : World → α} {YP : World → Heap → Prop} {d : DefRec} {kwd : List (Str × Expr)} {N : Nat}
  (left : PySem.W.LeftO r.prog q loose Xt Yf Ya N) (hY : ∀ w s, Yf s = Ya w → YP w s.heap) (hYk : ∀ w h h', YP w h → (∀ b o, h.get? b = some o → h'.get? b = some o) → YP w h')
  (hX : ∀ s, Xt s = true → XP (s.heap.nsMap mainGlobals) s.heap) (hXk : ∀ mg h h', XP mg h → (∀ b o, h.get? b = some o → h'.get? b = some o) → XP mg h') (hdef : PySem.W.defOf q r.name = some (d, kwd)) (hp : r.prog.theDef r.name = some (d.params, d.body, d.scope))
  (hk : PySem.W.kwWritten? d.params.kwonlyargs d.params.kw_defaults = some kwd) (hRf : ∀ s, Xt s = true → PySem.W.RecFacts [] s.heap) (hsh : ∀ as, r.pre as = true → PySem.W.WShape.hasAll [] as (r.args.map Codec.shape) = true) (k1 : r.wellSaid = true)
  (ok : (PySem.W.chainsOk q && PySem.W.opensWell r.prog) = true) (hb : r.prog.bare) (hw : ∃ args, r.pre args = true ∧ WData.layableAll args = true) (call : WalkOT q loose XP YP r d)
  (hTok : ∀ (w : World) (s : Shared), Yf s = Ya w → s.toks ≠ 0 := by exact L2.tok_of) : r.Holds := by
 have hch := (Bool.and_eq_true_iff.mp ok).1
 refine ⟨k1, ⟨hb, (Bool.and_eq_true_iff.mp ok).2, rfl⟩, hw, fun w => ⟨(left.behind hX hch w).1, fun sA hA => ?_⟩⟩
 obtain ⟨sB, fenced, gB, sC, ran, slp, gC, nsC, G00, yC⟩ := (left.behind (XP := fun mg h => XP mg h ∧ PySem.W.RecFacts [] h) (fun s hs => ⟨hX s hs, hRf s hs⟩) hch w).2 sA hA
 have G0 : PySem.W.Ground q loose [] XP w sC (sC.heap.nsMap mainGlobals) (sC.heap.nsMap builtinsNs) sC.heap := ⟨G00.T, G00.B, G00.D, G00.TE, G00.TD, G00.W, G00.X.1, G00.cls, G00.has, G00.apart, G00.once, G00.K⟩
 have RF := G00.X.2
 refine ⟨sB, fenced, gB, sC, ran, fun n hn => ?_, RF.1, RF.2.1, ?_⟩
 ·have en : n = r.name := by simpa using hn
  rw [en]
  exact PySem.W.pinned_of_view nsC G0 hdef hp hk
 have gens0 : sC.gens = #[] := Array.eq_empty_of_size_eq_zero (beq_iff_eq.mp gC)
 have G := RF.ground G0
 refine PySem.W.ClaimW.callFrom_of_specG (c := r.claim) (tree := fun vs => do match ← nsGet mainNs r.name with
  | some f => do ret (← PySem.call f vs)
  | none => unsupported "claim.caller:no-such-global") slp gens0 fun args hpre hlay ord hord => ?_
 obtain ⟨⟨vs, sD⟩, hlaid⟩ := Option.isSome_iff_exists.mp (PySem.W.layAllW_isSome (P := w.params) (ord := ord) G.has args (r.args.map Codec.shape) sC (hsh _ hpre))
 have kp := PySem.W.layAllW_keeps _ _ _ hlaid
 have al := PySem.W.layAllW_rest _ _ _ hlaid
 obtain ⟨as, rd, ins, olds⟩ := PySem.W.reads_layAllW hord _ _ _ hlaid hlay sD.heap (fun _ _ e => e)
 have L : PySem.W.Laid [] w sC sD args vs as := ⟨⟨ord, hord, hlaid⟩, rd, ins, olds, kp, al.1.trans gens0, al.2.2.1⟩
 have G1 : PySem.W.Ground q loose [] XP w sC (sC.heap.nsMap mainGlobals) (sC.heap.nsMap builtinsNs) sD.heap := G.keeps hXk kp
 obtain ⟨fa, o, pm, cd, doc, dV, kV, f1, _⟩ := G1.fn hdef
 have run := call w sC sD _ _ G1 (hY w sC yC) (hYk _ _ _ (hY w sC yC) kp) fa (PySem.W.defOf_name hdef ▸ f1) L.gens args vs as hpre hlay L (hTok w sC yC)
 refine ⟨vs, sD, hlaid, wpAny_bind (wpAny_nsGet G1.T.g ?_)⟩
 rw [f1]
 refine wpAny_bind (wpAny_mono run (fun v s' g => wpAny_pure ?_) fun e s' g => ?_)
 ·have z := g.laid (c := r.claim) rfl rfl (fun _ _ => rfl) L
  exact ⟨_, rfl, z.1, z.2.1, z.2.2, fun y => Bool.noConfusion (show false = true from y)⟩
 ·have z := g.laid (c := r.claim) rfl rfl (fun _ _ => rfl) L
  exact ⟨z.1, z.2.1, z.2.2, fun y => Bool.noConfusion (show false = true from y)⟩
theorem lay_ints {R : PySem.W.WRecords} {cl : Str → Option Addr} {P : Params} {ord : List DictEntry → List DictEntry} : ∀ (ns : List Int) (s : Shared), ∃ vs : List Value, PySem.W.layAllW R cl P ord (ns.map WData.int) s = some (vs, { s with toks := s.toks + ns.length }) ∧ IntsAre vs ns ∧ ∀ (i : Int) (t : Tok), Value.int i t ∈ vs → s.toks ≤ t
 | [], s => ⟨[], rfl, .nil, fun i t h => absurd h (by simp)⟩
 | n :: ns, s => by
  obtain ⟨vs, h1, h2, h3⟩ := lay_ints (R := R) (cl := cl) (P := P) (ord := ord) ns { s with toks := s.toks + 1 }
  refine ⟨.int n s.toks :: vs, ?_, .cons n _ h2, fun i t h => ?_⟩
  ·show (match PySem.W.layAllW R cl P ord (ns.map WData.int) { s with toks := s.toks + 1 } with
    | some r => some (Value.int n s.toks :: r.1, r.2)
    | Option.none => Option.none) = _
   rw [h1]
   show some (Value.int n s.toks :: vs, ({ s with toks := s.toks + 1 + ns.length } : Shared)) = some (Value.int n s.toks :: vs, { s with toks := s.toks + (ns.length + 1) })
   rw [Nat.add_assoc, Nat.add_comm 1]
  ·rcases List.mem_cons.mp h with q | q
   ·cases q
    exact Nat.le_refl _
   ·exact Nat.le_trans (Nat.le_succ _) (h3 i t q)
theorem reads_ints {R : PySem.W.WRecords} {cl : Str → Option Addr} {h : Heap} : ∀ {ns : List Int} {its : List Value}, IntsAre its ns → ∃ as, ReadsAllW R cl h its (ns.map WData.int) as
 | _, _, .nil => ⟨_, .nil⟩
 | _, _, .cons n t r => by
  obtain ⟨as, q⟩ := reads_ints (R := R) (cl := cl) (h := h) r
  exact ⟨_, .cons (.int n t) q⟩
def startH (a : Addr) (o : Obj) (xs : List V) (tabs : List Addr) : Hp := fun b => if b = a then some (.frz o (.lst xs)) else if b ∈ tabs then some (.tbl #[]) else none
section
variable {P : Program} {w : World} {K : PySem.W.Frag} {mg mb : Str → Option Value} {k : Nat} {fa a : Addr} {fd : FuncData} {x : Str} {sp : Sp} {s₁ : Shared} {vs : List Value} {ns : List Int} {R : PySem.W.WRecords} {cl : Str → Option Addr} {rs : List Int} {tabs : List (Addr × Addr)}
theorem start_call (KX : K.In s₁.heap) (hKa : K.lookup a = none) (hKt : PySem.W.noTabs K = true) (hns : s₁.heap.Ns mainGlobals mg) (hb : s₁.heap.Ns builtinsNs mb) (hbb : ∀ x : Str, x ≠ "__name__" → mb x = bootBuiltins x) (hlim : s₁.heap.NoLimit) (hbm : Bm mg s₁.heap) (hg : s₁.gens = #[])
  (ha : s₁.heap.get? a = some { cls := .type "list", data := .seq vs.toArray }) (hi : IntsAre vs ns) (ht : ST.Toks vs) (hl : ns.length ≤ sizeLine) (hT : PySem.W.TabsAt tabs s₁.heap) (hr : Room k callerA)
  (F : ∀ base : Heap, K.In base → base.Ns mainGlobals mg → Bm mg base → (∀ q ∈ tabs, PySem.W.CodeHd base q.1 q.2) → FnOk P w K mg base CX0 k fa fd [x] sp) (hbind : ∀ (s : Shared) (u : Value), BindsTo s fd ⟨[u], []⟩ [(x, u)])
  (hsp : ∀ H : Hp, FrzL H a (ns.map V.int) → (∀ q ∈ tabs, H q.2 = some (.tbl #[])) → sp [.ref a] H (fun v H' => ∃ p, v = .ref p ∧ H' p = some (.lst (rs.map V.int))) E0) :
  codeAny (model P w) callerA (.call (.ref fa) ⟨[.ref a], []⟩) (fun r s' => ∃ u as, r = .ok (.ret u) ∧ ReadsW R cl s'.heap u (.list (rs.map WData.int)) as ∧ OldK s₁.heap s'.heap ∧ s'.os = s₁.os ∧ AllBare s'.gens) s₁ := by
 have hlen := hi.length
 have atA : startH a { cls := .type "list", data := .seq vs.toArray } (ns.map V.int) (tabs.map (·.2)) a = some (.frz { cls := .type "list", data := .seq vs.toArray } (.lst (ns.map V.int))) := if_pos rfl
 have tabNe : ∀ b ∈ tabs.map (·.2), b ≠ a := fun b hb' z => by
  obtain ⟨q, hq, rfl⟩ := List.mem_map.mp hb'
  have e := (hT q hq).2
  rw [z, ha] at e
  have e' := congrArg Obj.cls (Option.some.inj e)
  cases e'
 have atT : ∀ b ∈ tabs.map (·.2), startH a { cls := .type "list", data := .seq vs.toArray } (ns.map V.int) (tabs.map (·.2)) b = some (.tbl #[]) := fun b hb' => by
  unfold startH
  rw [if_neg (tabNe b hb'), if_pos hb']
 have is : ∀ b u, startH a { cls := .type "list", data := .seq vs.toArray } (ns.map V.int) (tabs.map (·.2)) b = some u → (b = a ∧ u = .frz { cls := .type "list", data := .seq vs.toArray } (.lst (ns.map V.int))) ∨ (b ∈ tabs.map (·.2) ∧ u = .tbl #[]) := fun b u q => by
  unfold startH at q
  by_cases e1 : b = a
  ·rw [if_pos e1] at q
   exact .inl ⟨e1, (Option.some.inj q).symm⟩
  ·rw [if_neg e1] at q
   by_cases e2 : b ∈ tabs.map (·.2)
   ·rw [if_pos e2] at q
    exact .inr ⟨e2, (Option.some.inj q).symm⟩
   ·rw [if_neg e2] at q
    cases q
 have hV : Vals (ns.map V.int) vs := vals_of_ints hi
 have hok : HOk P w (startH a { cls := .type "list", data := .seq vs.toArray } (ns.map V.int) (tabs.map (·.2))) s₁.heap := fun b u q => by
  rcases is b u q with ⟨rfl, rfl⟩ | ⟨hb', rfl⟩
  ·exact ⟨ha, by rw [List.length_map]; exact hl, vs, _, hV, ha⟩
  ·obtain ⟨tq, hq, rfl⟩ := List.mem_map.mp hb'
   exact (hT tq hq).2
 have nK : ∀ b o, K.lookup b = some o → startH a { cls := .type "list", data := .seq vs.toArray } (ns.map V.int) (tabs.map (·.2)) b = none := fun b o e => by
  cases q : startH a { cls := .type "list", data := .seq vs.toArray } (ns.map V.int) (tabs.map (·.2)) b with
  | none => rfl
  | some u =>
   rcases is b u q with ⟨rfl, _⟩ | ⟨hb', _⟩
   ·rw [hKa] at e
    cases e
   ·obtain ⟨tq, hq, rfl⟩ := List.mem_map.mp hb'
    have e2 := KX _ _ e
    rw [(hT tq hq).2] at e2
    have h2 := List.all_eq_true.mp hKt (tq.2, o) (PySem.W.mem_of_lookupK e)
    cases e2
    exact absurd (show false = true from h2) Bool.false_ne_true
 have noD : ∀ {b : Addr} {o : Obj}, s₁.heap.get? b = some o → (∀ xs n, o.data ≠ .seq xs n) → (∀ xs, o.data ≠ .fields xs) → startH a { cls := .type "list", data := .seq vs.toArray } (ns.map V.int) (tabs.map (·.2)) b = none := fun {b o} e d1 d2 => by
  cases q : startH a { cls := .type "list", data := .seq vs.toArray } (ns.map V.int) (tabs.map (·.2)) b with
  | none => rfl
  | some u =>
   rcases is b u q with ⟨rfl, _⟩ | ⟨hb', _⟩
   ·rw [ha] at e
    cases e
    exact absurd rfl (d1 _ _)
   ·obtain ⟨tq, hq, rfl⟩ := List.mem_map.mp hb'
    rw [(hT tq hq).2] at e
    cases e
    exact absurd rfl (d2 _)
 have frz : FrzL (startH a { cls := .type "list", data := .seq vs.toArray } (ns.map V.int) (tabs.map (·.2))) a (ns.map V.int) := ⟨_, atA, _, _, rfl, by rw [List.toList_toArray]; exact ht⟩
 have atT' : ∀ q ∈ tabs, startH a { cls := .type "list", data := .seq vs.toArray } (ns.map V.int) (tabs.map (·.2)) q.2 = some (.tbl #[]) := fun q hq => atT q.2 (List.mem_map_of_mem hq)
 generalize startH a { cls := .type "list", data := .seq vs.toArray } (ns.map V.int) (tabs.map (·.2)) = H at *
 have base_of : ∀ {b : Addr} {o : Obj}, s₁.heap.get? b = some o → H b = none → (hidT s₁.heap H).get? b = some o := fun e n => hidT_get e n
 have nsK : ∀ {b : Addr} {m : Str → Option Value}, s₁.heap.Ns b m → (hidT s₁.heap H).Ns b m := fun {b m} ⟨o, es, ep, e, d, r⟩ => ⟨o, es, ep, base_of e (noD e (fun _ _ z => by rw [d] at z; cases z) fun _ z => by rw [d] at z; cases z), d, r⟩
 have hKb : K.In (hidT s₁.heap H) := fun b o e => base_of (KX b o e) (nK b o e)
 have hM : Mod K mg (hidT s₁.heap H) := ⟨hKb, nsK hns, ⟨mb, nsK hb, hbb⟩, let ⟨mc, h1, h2⟩ := hlim; ⟨mc, nsK h1, h2⟩⟩
 have e0 : Env0 P w K mg (hidT s₁.heap H) callerA [] s₁ H := ⟨rfl, hM, fun b o e => of_hidT e, Nat.le_of_eq (hidT_size _ _), trivial, fun b hb => absurd (show b ∈ ([] : List Addr) from hb) (by simp), hok, .of_eq hg⟩
 have hB : Bm mg (hidT s₁.heap H) := by
  obtain ⟨bm, ob, b1, b2, b3, b4, b5, b6⟩ := hbm
  exact ⟨bm, ob, b1, b2, base_of b3 (noD b3 (fun _ _ z => by rw [b6] at z; cases z) fun _ z => by rw [b6] at z; cases z), b4, b5, b6⟩
 have hC : ∀ q ∈ tabs, PySem.W.CodeHd (hidT s₁.heap H) q.1 q.2 := fun q hq => by
  obtain ⟨o, fs, file, tf, flags, tg, inF, text, tt, e1, r1, r2, r3⟩ := (hT q hq).1
  refine ⟨o, fs, file, tf, flags, tg, inF, text, tt, base_of e1 ?_, r1, r2, r3⟩
  cases y : H q.1 with
  | none => rfl
  | some u =>
   rcases is _ _ y with ⟨z, _⟩ | ⟨z, _⟩
   ·rw [z, ha] at e1
    cases e1
    exact absurd r1 (by intro y; injection y with y; exact absurd y (by decide))
   ·obtain ⟨q', hq', z'⟩ := List.mem_map.mp z
    have e2 := (hT q' hq').2
    rw [z', e1] at e2
    have e3 := Option.some.inj e2
    rw [e3] at r1
    cases r1
 refine codeAny_mono ((F _ hKb (nsK hns) hB hC).run callerA [] s₁ H ⟨[.ref a], []⟩ [.ref a] [.ref a] _ _ hr e0 (hbind s₁ (.ref a)) (.cons rfl .nil) (hsp H frz atT')) fun r s' z => ?_
 cases r with
 | error e => exact z.elim
 | ok fl =>
  cases fl with
  | next => exact False.elim z
  | brk => exact False.elim z
  | cont => exact False.elim z
  | ret u =>
   obtain ⟨v, H', os, bare, un, hok', r', p, rfl, hp⟩ := z
   obtain rfl : u = Value.ref p := r'
   have nofr : ∀ b : Addr, b ∉ frs ([] : List Env) := fun b => by
    show b ∉ ([] : List Addr)
    simp
   have old : OldK s₁.heap s'.heap := by
    refine ⟨fun b o e => ?_, fun b o e => un.there b o e (by simp)⟩
    cases q2 : H b with
    | none => exact .inl (un.keep b o e q2 (nofr b) (by simp))
    | some u2 =>
     rcases is b u2 q2 with ⟨rfl, rfl⟩ | ⟨hb', rfl⟩
     ·have z2 := un.frzs _ _ _ q2
      obtain ⟨e2, _⟩ := hok' _ _ z2
      rw [ha] at e
      cases e
      exact .inl e2
     ·obtain ⟨more, z2⟩ := un.tbls _ _ q2
      have e2 := hok' _ _ z2
      obtain ⟨q, hq, rfl⟩ := List.mem_map.mp hb'
      have e3 := (hT q hq).2
      rw [e] at e3
      cases e3
      exact .inr (.inl ⟨((hT q hq).1.tab (hT q hq).2).isCodeTable, rfl, #[], more, rfl, e2⟩)
   obtain ⟨_, its, n, rv, ep⟩ := hok' p _ hp
   obtain ⟨as, q⟩ := reads_ints (R := R) (cl := cl) (h := s'.heap) (intsAre_of rv)
   exact ⟨.ref p, _, rfl, ReadsW.list ep rfl rfl (by rw [List.toList_toArray]; exact q), old, os, bare⟩
end
end L2
namespace PM
open PollNs
theorem mem_taken : ∀ {r : List Nat} {k : Nat} {l : List Nat}, l ∈ taken k r ↔ l.Sublist r ∧ l.length = k
 | r, 0, l => by
  unfold taken
  simp only [List.mem_singleton]
  constructor
  ·rintro rfl
   exact ⟨List.nil_sublist _, rfl⟩
  ·rintro ⟨_, h⟩
   exact List.length_eq_zero_iff.mp h
 | [], k + 1, l => by
  unfold taken
  simp only [List.not_mem_nil, false_iff, not_and]
  intro h e
  rw [List.sublist_nil.mp h] at e
  cases e
 | x :: r, k + 1, l => by
  unfold taken
  simp only [List.mem_append, List.mem_map, mem_taken (r := r)]
  constructor
  ·rintro (⟨l', ⟨h1, h2⟩, rfl⟩ | ⟨h1, h2⟩)
   ·exact ⟨h1.cons_cons x, by simp [h2]⟩
   ·exact ⟨h1.cons x, h2⟩
  ·rintro ⟨h1, h2⟩
   cases h1 with
   | cons _ h => exact .inr ⟨h, h2⟩
   | cons_cons _ h => exact .inl ⟨_, ⟨h, by simpa using h2⟩, rfl⟩
theorem findSome_at {β : Type} {g : Nat → Option β} {m : Nat} {s : β} (h0 : ∀ k, k < m → g k = none) (h1 : g m = some s) : ∀ (n : Nat), m < n → (List.range n).findSome? g = some s := by
 intro n hn
 obtain ⟨d, rfl⟩ := Nat.exists_eq_add_of_lt hn
 rw [show m + d + 1 = m + (d + 1) by omega, List.range_add, List.findSome?_append]
 have e : (List.range m).findSome? g = none := by
  rw [List.findSome?_eq_none_iff]
  intro x hx
  exact h0 x (List.mem_range.mp hx)
 rw [e, Option.none_or, List.range_succ_eq_map, List.map_cons, List.findSome?_cons]
 simp [h1]
theorem find_only {l : List (List Nat)} {p : List Nat → Bool} {s : List Nat} (hs : s ∈ l) (hp : p s = true) (h : ∀ x ∈ l, p x = true → x = s) : l.find? p = some s := by
 cases e : l.find? p with
 | none => rw [List.find?_eq_none] at e; exact absurd hp (e s hs)
 | some y => rw [h y (List.mem_of_find?_eq_some e) (List.find?_some e)]
def Dom (bt : Nat → Nat → Bool) (n : Nat) (l : List Nat) : Prop := ∀ a ∈ l, ∀ b, b < n → b ∉ l → bt a b = true
theorem tops_iff {p : Poll} {l : List Nat} : p.tops l = true ↔ Dom p.beats p.size l := by
 unfold Poll.tops Poll.all Dom
 simp only [List.all_eq_true, List.mem_range, Bool.or_eq_true, List.contains_iff_mem]
 constructor
 ·intro h a ha b hb hn
  exact (h a ha b hb).resolve_left hn
 ·intro h a ha b hb
  by_cases q : b ∈ l
  ·exact .inl q
  ·exact .inr (h a ha b hb q)
structure Least (bt : Nat → Nat → Bool) (n c : Nat) (l : List Nat) : Prop where
 up : l.Pairwise (· < ·)
 lt : ∀ m ∈ l, m < n
 has : c ∈ l
 dom : Dom bt n l
 min : ∀ t, Dom bt n t → c ∈ t → ∀ m ∈ l, m ∈ t
theorem up_sub : ∀ {l : List Nat} {n : Nat}, l.Pairwise (· < ·) → (∀ m ∈ l, m < n) → l.Sublist (List.range n) := by
 intro l n
 induction n generalizing l with
 | zero =>
  intro _ h
  cases l with
  | nil => exact List.nil_sublist _
  | cons x r => exact absurd (h x List.mem_cons_self) (Nat.not_lt_zero _)
 | succ n ih =>
  intro up lt
  rw [List.range_succ]
  by_cases q : n ∈ l
  ·obtain ⟨a, b, rfl⟩ := List.append_of_mem q
   have hb : b = [] := by
    cases b with
    | nil => rfl
    | cons y r =>
     have h1 := (List.pairwise_append.mp up).2.1
     have h2 := (List.pairwise_cons.mp h1).1 y List.mem_cons_self
     have h3 := lt y (by simp)
     omega
   subst hb
   have u1 := (List.pairwise_append.mp up).1
   have h2 := (List.pairwise_append.mp up).2.2
   refine List.Sublist.append (ih u1 fun m hm => h2 m hm n (by simp)) (List.Sublist.refl _)
  ·refine List.Sublist.trans (ih up fun m hm => ?_) (List.sublist_append_left _ _)
   have := lt m hm
   have : m ≠ n := fun z => q (z ▸ hm)
   omega
theorem sub_up {l : List Nat} {n : Nat} (h : l.Sublist (List.range n)) : l.Pairwise (· < ·) ∧ ∀ m ∈ l, m < n :=
 ⟨List.Pairwise.sublist h List.pairwise_lt_range, fun m hm => List.mem_range.mp (h.subset hm)⟩
theorem up_nodup {l : List Nat} (h : l.Pairwise (· < ·)) : l.Nodup := h.imp fun h => Nat.ne_of_lt h
theorem len_le {l t : List Nat} (hl : l.Nodup) (h : ∀ m ∈ l, m ∈ t) : l.length ≤ t.length := by
 induction l generalizing t with
 | nil => exact Nat.zero_le _
 | cons x r ih =>
  obtain ⟨a, b, rfl⟩ := List.append_of_mem (h x List.mem_cons_self)
  have hx := List.nodup_cons.mp hl
  have := ih (t := a ++ b) hx.2 fun m hm => by
   have z := h m (List.mem_cons_of_mem _ hm)
   simp only [List.mem_append, List.mem_cons] at z ⊢
   rcases z with z | z | z
   ·exact .inl z
   ·exact absurd (z ▸ hm) hx.1
   ·exact .inr z
  simp only [List.length_append, List.length_cons] at this ⊢
  omega
theorem up_ext {l t : List Nat} (hl : l.Pairwise (· < ·)) (ht : t.Pairwise (· < ·)) (h : ∀ m, m ∈ l ↔ m ∈ t) : l = t := by
 have p : l.Perm t := (List.perm_ext_iff_of_nodup (up_nodup hl) (up_nodup ht)).mpr h
 exact p.eq_of_pairwise (fun a b _ _ h1 h2 => absurd h1 (Nat.lt_asymm h2)) hl ht
theorem full_of_len {l t : List Nat} (hl : l.Nodup) (ht : t.Nodup) (h : ∀ m ∈ l, m ∈ t) (e : t.length ≤ l.length) : ∀ m ∈ t, m ∈ l := by
 intro m hm
 refine Classical.byContradiction fun q => ?_
 have := len_le (l := m :: l) (t := t) (List.nodup_cons.mpr ⟨q, hl⟩) fun x hx => by
  rcases List.mem_cons.mp hx with rfl | z
  ·exact hm
  ·exact h x z
 simp only [List.length_cons] at this
 omega
theorem dom_eq {bt : Nat → Nat → Bool} {n : Nat} (as : ∀ a b, bt a b = true → bt b a = false) {l t : List Nat} (hl : l.Pairwise (· < ·)) (ht : t.Pairwise (· < ·)) (ll : ∀ m ∈ l, m < n) (lt : ∀ m ∈ t, m < n) (dl : Dom bt n l) (dt : Dom bt n t) (e : l.length = t.length) : l = t := by
 by_cases q : ∀ m ∈ l, m ∈ t
 ·exact up_ext hl ht fun m => ⟨q m, full_of_len (up_nodup hl) (up_nodup ht) q (by omega) m⟩
 ·have q2 : ∀ m ∈ t, m ∈ l := by
   intro m hm
   refine Classical.byContradiction fun z => q fun x hx => Classical.byContradiction fun y => ?_
   have h1 := dl x hx m (lt m hm) z
   have h2 := dt m hm x (ll x hx) y
   rw [as _ _ h1] at h2
   cases h2
  exact up_ext hl ht fun m => ⟨full_of_len (up_nodup ht) (up_nodup hl) q2 (by omega) m, q2 m⟩
theorem beats_as {p : Poll} (a b : Nat) (h : p.beats a b = true) : p.beats b a = false := by
 unfold Poll.beats at h ⊢
 have := of_decide_eq_true h
 exact decide_eq_false (by omega)
theorem top_eq {p : Poll} {L : Nat → List Nat} {c : Nat} (hL : ∀ k, k < p.size → Least p.beats p.size k (L k)) (hc : c < p.size) (hm : ∀ k, k < p.size → (L c).length ≤ (L k).length) : p.top = L c := by
 unfold Poll.top
 have Lc := hL c hc
 have hpos : 0 < (L c).length := List.length_pos_of_mem Lc.has
 have dom_big : ∀ t : List Nat, t.Sublist (List.range p.size) → t ≠ [] → Dom p.beats p.size t → (L c).length ≤ t.length := by
  intro t st ne dt
  obtain ⟨x, hx⟩ := List.exists_mem_of_ne_nil t ne
  have lx := (sub_up st).2 x hx
  have h1 := hm x lx
  have h2 := len_le (up_nodup (hL x lx).up) ((hL x lx).min t dt hx)
  omega
 have hle : (L c).length ≤ p.size := by
  have := (up_sub Lc.up Lc.lt).length_le
  rwa [List.length_range] at this
 rw [List.find?_flatMap]
 have : p.all.findSome? (fun k => (taken (k + 1) p.all).find? p.tops) = some (L c) := by
  refine findSome_at (m := (L c).length - 1) ?_ ?_ p.size (by omega)
  ·intro k hk
   rw [List.find?_eq_none]
   intro t ht z
   obtain ⟨st, len⟩ := mem_taken.mp ht
   have := dom_big t st (by intro e; rw [e] at len; cases len) (tops_iff.mp z)
   omega
  ·rw [show (L c).length - 1 + 1 = (L c).length by omega]
   refine find_only (mem_taken.mpr ⟨up_sub Lc.up Lc.lt, rfl⟩) (tops_iff.mpr Lc.dom) ?_
   intro t ht z
   obtain ⟨st, len⟩ := mem_taken.mp ht
   exact dom_eq beats_as (sub_up st).1 Lc.up (sub_up st).2 Lc.lt (tops_iff.mp z) Lc.dom len
 rw [this]
 rfl
end PM
namespace PM
open PollNs
structure Sg where
 inside : List Nat
 left : Nat
 parts : Int
 quota : Int
 worths : List Int
def holder (order inside : List Nat) : Option Nat := order.find? inside.contains
def heldIn : List (Ballot × Int) → List Nat → Nat → Int
 | [], _, _ => 0
 | p :: r, ins, a => (if holder p.1.order ins = some a then p.2 else 0) + heldIn r ins a
def Sg.held (bs : List Ballot) (g : Sg) (a : Nat) : Int := heldIn (bs.zip g.worths) g.inside a
structure Rel (bs : List Ballot) (seats : Nat) (Q : Rat) (g : Sg) (c : Count) : Prop where
 pos : 0 < g.parts
 quo : Q = Rat.divInt g.quota g.parts
 len : g.worths.length = bs.length
 pap : c.papers = (bs.zip g.worths).map fun p => ⟨Rat.divInt p.2 g.parts, p.1.order⟩
 lft : c.left = g.inside
 up : g.inside.Pairwise (· < ·)
 sts : c.seated.length + g.left = seats
 le : g.left ≤ g.inside.length
theorem divInt_add_same {a b d : Int} (h : d ≠ 0) : Rat.divInt a d + Rat.divInt b d = Rat.divInt (a + b) d := by
 rw [Rat.divInt_add_divInt _ _ h h, ← Int.add_mul, Rat.divInt_mul_right h]
theorem divInt_lt {a b d : Int} (h : 0 < d) : Rat.divInt a d < Rat.divInt b d ↔ a < b := by
 rw [Rat.divInt_eq_div, Rat.divInt_eq_div, Rat.div_lt_iff (Rat.intCast_pos.mpr h), Rat.div_mul_cancel (fun z => by rw [Rat.intCast_eq_zero_iff] at z; omega), Rat.intCast_lt_intCast]
theorem divInt_le {a b d : Int} (h : 0 < d) : Rat.divInt a d ≤ Rat.divInt b d ↔ a ≤ b := by
 rw [← Rat.not_lt, divInt_lt h, Int.not_lt]
theorem tally_list {d : Int} (h : d ≠ 0) (ins : List Nat) (a : Nat) : ∀ l : List (Ballot × Int), PollNs.sum (((l.map fun p => (⟨Rat.divInt p.2 d, p.1.order⟩ : Paper)).filter fun x => x.with_ ins == some a).map fun x => x.worth) = Rat.divInt (heldIn l ins a) d
 | [] => by
  show (0 : Rat) = Rat.divInt 0 d
  rw [Rat.zero_divInt]
 | p :: r => by
  have ih := tally_list h ins a r
  rw [List.map_cons, List.filter_cons]
  show PollNs.sum (((if ((holder p.1.order ins) == some a) = true then _ else _) : List Paper).map fun x => x.worth) = Rat.divInt ((if holder p.1.order ins = some a then p.2 else 0) + heldIn r ins a) d
  by_cases e : holder p.1.order ins = some a
  ·rw [if_pos (by rw [e]; exact beq_self_eq_true _), if_pos e, List.map_cons]
   show Rat.divInt p.2 d + PollNs.sum _ = _
   rw [ih, divInt_add_same h]
  ·rw [if_neg (by intro z; exact e (eq_of_beq z)), if_neg e, Int.zero_add]
   exact ih
theorem Rel.tally {bs : List Ballot} {seats : Nat} {Q : Rat} {g : Sg} {c : Count} (R : Rel bs seats Q g c) (a : Nat) : c.tally a = Rat.divInt (g.held bs a) g.parts := by
 unfold Count.tally
 rw [R.pap, R.lft]
 exact tally_list (by have := R.pos; omega) g.inside a _
theorem fold_most (f : Nat → Int) : ∀ (r : List Nat) (x m : Nat), (x :: r).Pairwise (· < ·) → m ∈ x :: r → (∀ a ∈ x :: r, f a < f m ∨ (f a = f m ∧ m ≤ a)) → r.foldl (fun x y => if f x < f y then y else x) x = m
 | [], x, m, _, hm, _ => by
  have : m = x := by simpa using hm
  exact this.symm
 | y :: r, x, m, up, hm, best => by
  rw [List.foldl_cons]
  have up1 := List.pairwise_cons.mp up
  have up2 := List.pairwise_cons.mp up1.2
  by_cases h : f x < f y
  ·rw [if_pos h]
   refine fold_most f r y m up1.2 ?_ fun a ha => best a (List.mem_cons_of_mem _ ha)
   rcases List.mem_cons.mp hm with e | e
   ·subst e
    rcases best y (by simp) with q | q <;> omega
   ·exact e
  ·rw [if_neg h]
   have up3 : (x :: r).Pairwise (· < ·) := List.pairwise_cons.mpr ⟨fun a ha => up1.1 a (List.mem_cons_of_mem _ ha), up2.2⟩
   refine fold_most f r x m up3 ?_ fun a ha => best a ?_
   ·rcases List.mem_cons.mp hm with e | e
    ·rw [e]; exact List.mem_cons_self
    ·rcases List.mem_cons.mp e with e | e
     ·subst e
      have q1 := best x List.mem_cons_self
      have q2 := up1.1 m (by simp)
      omega
     ·exact List.mem_cons_of_mem _ e
   ·rcases List.mem_cons.mp ha with e | e
    ·rw [e]; exact List.mem_cons_self
    ·exact List.mem_cons_of_mem _ (List.mem_cons_of_mem _ e)
theorem fold_least (f : Nat → Int) : ∀ (r : List Nat) (x m : Nat), (x :: r).Pairwise (· < ·) → m ∈ x :: r → (∀ a ∈ x :: r, f m < f a ∨ (f a = f m ∧ a ≤ m)) → r.foldl (fun x y => if f y ≤ f x then y else x) x = m
 | [], x, m, _, hm, _ => by
  have : m = x := by simpa using hm
  exact this.symm
 | y :: r, x, m, up, hm, best => by
  rw [List.foldl_cons]
  have up1 := List.pairwise_cons.mp up
  have up2 := List.pairwise_cons.mp up1.2
  by_cases h : f y ≤ f x
  ·rw [if_pos h]
   refine fold_least f r y m up1.2 ?_ fun a ha => best a (List.mem_cons_of_mem _ ha)
   rcases List.mem_cons.mp hm with e | e
   ·subst e
    have q1 := best y (by simp)
    have q2 := up1.1 y (by simp)
    omega
   ·exact e
  ·rw [if_neg h]
   have up3 : (x :: r).Pairwise (· < ·) := List.pairwise_cons.mpr ⟨fun a ha => up1.1 a (List.mem_cons_of_mem _ ha), up2.2⟩
   refine fold_least f r x m up3 ?_ fun a ha => best a ?_
   ·rcases List.mem_cons.mp hm with e | e
    ·rw [e]; exact List.mem_cons_self
    ·rcases List.mem_cons.mp e with e | e
     ·subst e
      have q1 := best x List.mem_cons_self
      omega
     ·exact List.mem_cons_of_mem _ e
   ·rcases List.mem_cons.mp ha with e | e
    ·rw [e]; exact List.mem_cons_self
    ·exact List.mem_cons_of_mem _ (List.mem_cons_of_mem _ e)
structure Most (bs : List Ballot) (g : Sg) (m : Nat) : Prop where
 mem : m ∈ g.inside
 best : ∀ a ∈ g.inside, g.held bs a < g.held bs m ∨ (g.held bs a = g.held bs m ∧ m ≤ a)
structure Fewest (bs : List Ballot) (g : Sg) (m : Nat) : Prop where
 mem : m ∈ g.inside
 best : ∀ a ∈ g.inside, g.held bs m < g.held bs a ∨ (g.held bs a = g.held bs m ∧ a ≤ m)
theorem Rel.greatest {bs : List Ballot} {seats : Nat} {Q : Rat} {g : Sg} {c : Count} {m : Nat} (R : Rel bs seats Q g c) (h : Most bs g m) : c.greatest = some m := by
 unfold Count.greatest
 rw [R.lft]
 have hm := h.mem
 have hb := h.best
 have up := R.up
 match g.inside, hm, hb, up with
 | x :: r, hm, hb, up =>
  show some (r.foldl _ x) = some m
  rw [← fold_most (g.held bs) r x m up hm hb]
  congr 2
  funext a b
  rw [R.tally, R.tally]
  by_cases e : g.held bs a < g.held bs b
  ·rw [if_pos e, if_pos ((divInt_lt R.pos).mpr e)]
  ·rw [if_neg e, if_neg (fun z => e ((divInt_lt R.pos).mp z))]
theorem Rel.smallest {bs : List Ballot} {seats : Nat} {Q : Rat} {g : Sg} {c : Count} {m : Nat} (R : Rel bs seats Q g c) (h : Fewest bs g m) : c.smallest = some m := by
 unfold Count.smallest
 rw [R.lft]
 have hm := h.mem
 have hb := h.best
 have up := R.up
 match g.inside, hm, hb, up with
 | x :: r, hm, hb, up =>
  show some (r.foldl _ x) = some m
  rw [← fold_least (g.held bs) r x m up hm hb]
  congr 2
  funext a b
  rw [R.tally, R.tally]
  by_cases e : g.held bs b ≤ g.held bs a
  ·rw [if_pos e, if_pos ((divInt_le R.pos).mpr e)]
  ·rw [if_neg e, if_neg (fun z => e ((divInt_le R.pos).mp z))]
def cutW (ins : List Nat) (a : Nat) (had quota : Int) (p : Ballot × Int) : Int := p.2 * (if holder p.1.order ins = some a then had - quota else had)
def Sg.quotaed (bs : List Ballot) (g : Sg) (a : Nat) : Sg := { g with worths := (bs.zip g.worths).map (cutW g.inside a (g.held bs a) g.quota), quota := g.quota * g.held bs a, parts := g.parts * g.held bs a }
def Sg.next (bs : List Ballot) (g : Sg) (a : Nat) (byq st : Bool) : Sg :=
 let g1 := if byq = true then g.quotaed bs a else g
 { g1 with left := if st = true then g.left - 1 else g.left, inside := g.inside.filter fun b => b != a }
theorem without_len {l : List Nat} {a : Nat} (h : a ∈ l) (nd : l.Nodup) : (l.filter fun b => b != a).length + 1 = l.length := by
 induction l with
 | nil => cases h
 | cons x r ih =>
  have nd' := List.nodup_cons.mp nd
  rw [List.filter_cons]
  by_cases e : x = a
  ·subst e
   rw [if_neg (by simp)]
   have : (r.filter fun b => b != x) = r := List.filter_eq_self.mpr fun b hb => by
    have : b ≠ x := fun z => nd'.1 (z ▸ hb)
    simpa using this
   rw [this, List.length_cons]
  ·rw [if_pos (by simpa using e), List.length_cons, List.length_cons, ih ((List.mem_cons.mp h).resolve_left (fun z => e z.symm)) nd'.2]
theorem nodup_up {l : List Nat} (h : l.Pairwise (· < ·)) : l.Nodup := h.imp fun h => Nat.ne_of_lt h
theorem zip_map_snd {α β γ : Type} (f : α × β → γ) : ∀ (l : List α) (r : List β), l.zip ((l.zip r).map f) = (l.zip r).map fun p => (p.1, f p)
 | [], _ => rfl
 | _ :: _, [] => rfl
 | a :: l, b :: r => by
  show (a, f (a, b)) :: l.zip ((l.zip r).map f) = (a, f (a, b)) :: (l.zip r).map fun p => (p.1, f p)
  rw [zip_map_snd f l r]
theorem worth_cut {w h q d : Int} (hd : 0 < d) (hh : 0 < h) : Rat.divInt w d * (Rat.divInt h d - Rat.divInt q d) / Rat.divInt h d = Rat.divInt (w * (h - q)) (d * h) := by
 have d0 : (d : Rat) ≠ 0 := fun z => by rw [Rat.intCast_eq_zero_iff] at z; omega
 have h0 : (h : Rat) ≠ 0 := fun z => by rw [Rat.intCast_eq_zero_iff] at z; omega
 simp only [Rat.divInt_eq_div, Rat.intCast_mul, Rat.intCast_sub]
 grind
theorem worth_keep {w h d : Int} (hd : 0 < d) (hh : 0 < h) : Rat.divInt w d = Rat.divInt (w * h) (d * h) := (Rat.divInt_mul_right (by omega)).symm
theorem Rel.next {bs : List Ballot} {seats : Nat} {Q : Rat} {g : Sg} {c : Count} {m l : Nat} (R : Rel bs seats Q g c) (hl : 0 < g.left) (hm : Most bs g m) (hf : Fewest bs g l) (hq : 0 ≤ g.quota) {byq st : Bool} {a : Nat} (eb : byq = decide (g.quota < g.held bs m)) (es : st = (byq || decide (g.inside.length ≤ g.left))) (ea : a = if st = true then m else l) :
  ∃ c', c.turn seats Q = some (c', ⟨a, st, Rat.divInt (g.held bs a) g.parts⟩) ∧ Rel bs seats Q (g.next bs a byq st) c' ∧ c'.seated = c.seated ++ (if st = true then [a] else []) := by
 have hlen : ¬ seats ≤ c.seated.length := by have := R.sts; omega
 have tq : Q < c.tally m ↔ byq = true := by
  rw [R.quo, R.tally, divInt_lt R.pos, eb, decide_eq_true_iff]
 have ts : (Q < c.tally m ∨ c.left.length + c.seated.length ≤ seats) ↔ st = true := by
  rw [tq, R.lft, es, Bool.or_eq_true, decide_eq_true_iff]
  have := R.sts
  constructor
  ·rintro (h | h)
   ·exact .inl h
   ·exact .inr (by omega)
  ·rintro (h | h)
   ·exact .inl h
   ·exact .inr (by omega)
 have hmem : a ∈ g.inside := by
  rw [ea]
  split
  ·exact hm.mem
  ·exact hf.mem
 have wl := without_len hmem (nodup_up R.up)
 unfold Count.turn
 rw [if_neg hlen, R.greatest hm, R.smallest hf]
 show ∃ c', (if Q < c.tally m ∨ c.left.length + c.seated.length ≤ seats then _ else _) = _ ∧ _
 cases st with
 | false =>
  have nb : byq = false := by
   cases byq with
   | false => rfl
   | true => cases es
  subst nb
  rw [if_neg (fun z => Bool.false_ne_true (ts.mp z))]
  obtain rfl : a = l := by rw [ea, if_neg Bool.false_ne_true]
  refine ⟨⟨c.papers, c.without a, c.seated⟩, by rw [R.tally], ⟨R.pos, R.quo, R.len, R.pap, ?_, R.up.filter _, R.sts, ?_⟩, by simp⟩
  ·show c.without a = g.inside.filter fun b => b != a
   unfold Count.without
   rw [R.lft]
  ·show g.left ≤ (g.inside.filter fun b => b != a).length
   have : ¬ g.inside.length ≤ g.left := by
    rw [Bool.false_or] at es
    exact of_decide_eq_false es.symm
   omega
 | true =>
  rw [if_pos (ts.mpr rfl)]
  obtain rfl : a = m := by rw [ea, if_pos rfl]
  refine ⟨c.seat Q a, by rw [R.tally], ?_, ?_⟩
  ·cases byq with
   | false =>
    refine ⟨R.pos, R.quo, R.len, ?_, ?_, R.up.filter _, ?_, ?_⟩
    ·show c.papers.map _ = _
     have e : (fun (x : Paper) => if x.with_ c.left = some a ∧ Q < c.tally a then (⟨x.worth * (c.tally a - Q) / c.tally a, x.order⟩ : Paper) else x) = fun x => x := by
      funext x
      rw [if_neg (fun z => Bool.false_ne_true (tq.mp z.2))]
     rw [e, List.map_id']
     exact R.pap
    ·show c.without a = _
     unfold Count.without
     rw [R.lft]
     rfl
    ·show (c.seated ++ [a]).length + (g.left - 1) = seats
     rw [List.length_append]
     have := R.sts
     simp only [List.length_singleton]
     omega
    ·show g.left - 1 ≤ (g.inside.filter fun b => b != a).length
     have := R.le
     omega
   | true =>
    have hh : 0 < g.held bs a := by
     have := of_decide_eq_true eb.symm
     omega
    have hq2 := tq.mpr rfl
    refine ⟨Int.mul_pos R.pos hh, ?_, ?_, ?_, ?_, R.up.filter _, ?_, ?_⟩
    ·show Q = Rat.divInt (g.quota * g.held bs a) (g.parts * g.held bs a)
     rw [← worth_keep R.pos hh]
     exact R.quo
    ·show ((bs.zip g.worths).map _).length = bs.length
     rw [List.length_map, List.length_zip, R.len, Nat.min_self]
    ·show c.papers.map _ = (bs.zip ((bs.zip g.worths).map (cutW g.inside a (g.held bs a) g.quota))).map fun p => (⟨Rat.divInt p.2 (g.parts * g.held bs a), p.1.order⟩ : Paper)
     rw [zip_map_snd, R.pap, List.map_map, List.map_map]
     refine List.map_congr_left fun p hp => ?_
     show (if (holder p.1.order c.left = some a) ∧ Q < c.tally a then (⟨Rat.divInt p.2 g.parts * (c.tally a - Q) / c.tally a, p.1.order⟩ : Paper) else ⟨Rat.divInt p.2 g.parts, p.1.order⟩) = ⟨Rat.divInt (cutW g.inside a (g.held bs a) g.quota p) (g.parts * g.held bs a), p.1.order⟩
     unfold cutW
     rw [R.lft]
     by_cases e : holder p.1.order g.inside = some a
     ·rw [if_pos ⟨e, hq2⟩, if_pos e, R.tally, R.quo, worth_cut R.pos hh]
     ·rw [if_neg (fun z => e z.1), if_neg e, ← worth_keep R.pos hh]
    ·show c.without a = _
     unfold Count.without
     rw [R.lft]
     rfl
    ·show (c.seated ++ [a]).length + (g.left - 1) = seats
     rw [List.length_append]
     have := R.sts
     simp only [List.length_singleton]
     omega
    ·show g.left - 1 ≤ (g.inside.filter fun b => b != a).length
     have := R.le
     omega
  ·rfl
end PM
namespace PM
open PollNs
structure TurnD where
 who : Nat
 seat : Bool
 had : Int
 parts : Int
def TurnD.told (t : TurnD) : Turn := ⟨t.who, t.seat, Rat.divInt t.had t.parts⟩
def Bd (t : Nat) : Nat := 2 ^ (64 * 2 ^ t - 8)
theorem pow_pos2 (k : Nat) : 0 < 2 ^ k := Nat.pos_of_ne_zero (by simp)
theorem bd_exp (t : Nat) : 64 ≤ 64 * 2 ^ t := by
 have := pow_pos2 t
 omega
theorem bd_step {t x y : Nat} (hx : x < Bd t) (hy : y < 64 * Bd t) : x * y < Bd (t + 1) := by
 have e1 := bd_exp t
 have e2 : Bd t * (64 * Bd t) = 2 ^ ((64 * 2 ^ t - 8) + (6 + (64 * 2 ^ t - 8))) := by
  unfold Bd
  rw [Nat.pow_add, Nat.pow_add]
 have e3 : Bd (t + 1) = 2 ^ (64 * (2 ^ t * 2) - 8) := by
  unfold Bd
  rw [Nat.pow_succ]
 have lt : x * y < Bd t * (64 * Bd t) := Nat.mul_lt_mul'' hx hy
 refine Nat.lt_of_lt_of_le lt ?_
 rw [e2, e3]
 exact Nat.pow_le_pow_right (by decide) (by omega)
theorem bd_mono {t : Nat} : Bd t ≤ Bd (t + 1) := by
 unfold Bd
 refine Nat.pow_le_pow_right (by decide) ?_
 rw [Nat.pow_succ]
 have := pow_pos2 t
 omega
theorem bd_le {t u : Nat} (h : t ≤ u) : Bd t ≤ Bd u := by
 induction h with
 | refl => exact Nat.le_refl _
 | step _ ih => exact Nat.le_trans ih bd_mono
structure Small (t : Nat) (g : Sg) : Prop where
 pp : 0 < g.parts ∧ g.parts < (Bd t : Int)
 qq : 0 ≤ g.quota ∧ g.quota < (Bd t : Int)
 ww : ∀ w ∈ g.worths, 0 ≤ w ∧ w < (Bd t : Int)
theorem heldIn_bd {M : Int} (hM : 0 < M) (ins : List Nat) (a : Nat) : ∀ l : List (Ballot × Int), (∀ p ∈ l, 0 ≤ p.2 ∧ p.2 < M) → 0 ≤ heldIn l ins a ∧ heldIn l ins a ≤ (l.length : Int) * (M - 1)
 | [], _ => by
  show (0 : Int) ≤ 0 ∧ (0 : Int) ≤ ((0 : Nat) : Int) * (M - 1)
  simp
 | p :: r, h => by
  have ih := heldIn_bd hM ins a r fun q hq => h q (List.mem_cons_of_mem _ hq)
  have hp := h p List.mem_cons_self
  show 0 ≤ (if holder p.1.order ins = some a then p.2 else 0) + heldIn r ins a ∧ (if holder p.1.order ins = some a then p.2 else 0) + heldIn r ins a ≤ (((r.length + 1 : Nat) : Int)) * (M - 1)
  rw [Int.natCast_add, Int.add_mul]
  split <;> simp only [Int.natCast_one, Int.one_mul] <;> omega
theorem Small.held {t : Nat} {g : Sg} (S : Small t g) {bs : List Ballot} (hb : bs.length ≤ 64) (a : Nat) : 0 ≤ g.held bs a ∧ g.held bs a < ((64 * Bd t : Nat) : Int) := by
 have hM : (0 : Int) < (Bd t : Int) := by have := S.pp; omega
 have h := heldIn_bd hM g.inside a (bs.zip g.worths) fun p hp => S.ww _ (List.of_mem_zip (a := p.1) (b := p.2) hp).2
 refine ⟨h.1, ?_⟩
 have hl : ((bs.zip g.worths).length : Int) ≤ 64 := by
  rw [List.length_zip]
  omega
 have h2 : ((bs.zip g.worths).length : Int) * ((Bd t : Int) - 1) ≤ 64 * ((Bd t : Int) - 1) := Int.mul_le_mul_of_nonneg_right hl (by omega)
 have h3 := h.2
 show heldIn (bs.zip g.worths) g.inside a < _
 rw [Int.natCast_mul]
 simp only [Int.cast_ofNat_Int]
 omega
theorem mul_small {t : Nat} {x y : Int} (hx : 0 ≤ x ∧ x < (Bd t : Int)) (hy : 0 ≤ y ∧ y < ((64 * Bd t : Nat) : Int)) : 0 ≤ x * y ∧ x * y < (Bd (t + 1) : Int) := by
 refine ⟨Int.mul_nonneg hx.1 hy.1, ?_⟩
 have e1 : x = (x.toNat : Int) := by omega
 have e2 : y = (y.toNat : Int) := by omega
 have z := bd_step (t := t) (x := x.toNat) (y := y.toNat) (by omega) (by omega)
 rw [e1, e2, ← Int.natCast_mul]
 omega
theorem Small.mono {t : Nat} {g : Sg} (S : Small t g) : Small (t + 1) g := by
 have h := bd_mono (t := t)
 exact ⟨⟨S.pp.1, by have := S.pp.2; omega⟩, ⟨S.qq.1, by have := S.qq.2; omega⟩, fun w hw => ⟨(S.ww w hw).1, by have := (S.ww w hw).2; omega⟩⟩
theorem Small.next {t : Nat} {g : Sg} (S : Small t g) {bs : List Ballot} (hb : bs.length ≤ 64) {a : Nat} {byq st : Bool} (eb : byq = true → g.quota < g.held bs a) : Small (t + 1) (g.next bs a byq st) := by
 cases byq with
 | false => exact ⟨S.mono.pp, S.mono.qq, S.mono.ww⟩
 | true =>
  have hh := S.held hb a
  have hq := eb rfl
  refine ⟨⟨Int.mul_pos S.pp.1 (by have := S.qq.1; omega), (mul_small ⟨Int.le_of_lt S.pp.1, S.pp.2⟩ hh).2⟩, mul_small S.qq hh, fun w hw => ?_⟩
  obtain ⟨p, hp, rfl⟩ := List.mem_map.mp hw
  have hw' := S.ww _ (List.of_mem_zip (a := p.1) (b := p.2) hp).2
  unfold cutW
  split
  ·exact mul_small hw' ⟨by omega, by have := S.qq.1; omega⟩
  ·exact mul_small hw' hh
theorem turns_step {seats : Nat} {Q : Rat} {c c' : Count} {t : Turn} (h : c.turn seats Q = some (c', t)) (n : Nat) : turns seats Q (n + 1) c = ((turns seats Q n c').1, t :: (turns seats Q n c').2) := by
 show (match c.turn seats Q with
  | none => (c, [])
  | some x => ((turns seats Q n x.1).1, x.2 :: (turns seats Q n x.1).2)) = _
 rw [h]
theorem turns_end {seats : Nat} {Q : Rat} {c : Count} (h : seats ≤ c.seated.length) : ∀ n : Nat, turns seats Q n c = (c, [])
 | 0 => rfl
 | n + 1 => by
  show (match c.turn seats Q with
   | none => (c, [])
   | some x => ((turns seats Q n x.1).1, x.2 :: (turns seats Q n x.1).2)) = _
  unfold Count.turn
  rw [if_pos h]
structure Going (p : Poll) (seats : Nat) (g : Sg) (pre : List TurnD) : Prop where
 ex : ∃ (c : Count) (f : Nat), Rel p.ballots seats (p.quota seats) g c ∧ g.inside.length ≤ f ∧ p.count seats = ((turns seats (p.quota seats) f c).1, pre.map TurnD.told ++ (turns seats (p.quota seats) f c).2) ∧ c.seated = (pre.filter fun t => t.seat).map fun t => t.who
 small : ∃ t, Small t g ∧ t + g.inside.length = p.size
 ok : ∀ t ∈ pre, (0 ≤ t.had ∧ t.had < ((64 * Bd 7 : Nat) : Int)) ∧ (0 < t.parts ∧ t.parts < (Bd 7 : Int)) ∧ t.who < p.size
 sub : ∀ a ∈ g.inside, a < p.size
 cnt : pre.length + g.inside.length = p.size
theorem map_zip_range (bs : List Ballot) (k : Int) : bs.zip (bs.map fun b => (b.many : Int) * k) = bs.map fun b => (b, (b.many : Int) * k) := by
 induction bs with
 | nil => rfl
 | cons b r ih =>
  show (b, _) :: r.zip _ = (b, _) :: r.map _
  rw [ih]
theorem Going.start {p : Poll} {seats : Nat} (h1 : 1 ≤ seats) (h2 : seats ≤ p.size) (h8 : p.size ≤ 8) (hb : p.ballots.length ≤ 64) (hm : ∀ b ∈ p.ballots, b.many ≤ 1000000) (hv : p.voters ≤ 64000000) :
  Going p seats ⟨List.range p.size, seats, (seats : Int) + 1, (p.voters : Int), p.ballots.map fun b => (b.many : Int) * ((seats : Int) + 1)⟩ [] := by
 have b0 : Bd 0 = 72057594037927936 := by decide
 refine ⟨⟨p.begun, p.size, ⟨?_, ?_, ?_, ?_, rfl, List.pairwise_lt_range, ?_, ?_⟩, ?_, ?_, rfl⟩, ⟨0, ⟨⟨?_, ?_⟩, ⟨?_, ?_⟩, fun w hw => ?_⟩, ?_⟩, fun t ht => absurd ht (by simp), fun a ha => List.mem_range.mp ha, ?_⟩
 ·show (0 : Int) < (seats : Int) + 1
  omega
 ·show p.quota seats = Rat.divInt (p.voters : Int) ((seats : Int) + 1)
  rw [Rat.divInt_eq_div]
  show (p.voters : Rat) / ((seats + 1 : Nat) : Rat) = _
  rw [← Rat.intCast_natCast p.voters, ← Rat.intCast_natCast (seats + 1)]
  rfl
 ·show (p.ballots.map _).length = _
  rw [List.length_map]
 ·show (p.ballots.map fun (b : Ballot) => (⟨(b.many : Rat), b.order⟩ : Paper)) = _
  show _ = (p.ballots.zip (p.ballots.map fun b => (b.many : Int) * ((seats : Int) + 1))).map fun q => (⟨Rat.divInt q.2 ((seats : Int) + 1), q.1.order⟩ : Paper)
  rw [map_zip_range, List.map_map]
  refine List.map_congr_left fun b _ => ?_
  show (⟨(b.many : Rat), b.order⟩ : Paper) = ⟨Rat.divInt ((b.many : Int) * ((seats : Int) + 1)) ((seats : Int) + 1), b.order⟩
  have e : Rat.divInt ((b.many : Int) * ((seats : Int) + 1)) ((seats : Int) + 1) = (b.many : Rat) := by
   have h := Rat.divInt_mul_right (n := (b.many : Int)) (d := 1) (a := (seats : Int) + 1) (by omega)
   rw [Int.one_mul] at h
   rw [h, Rat.divInt_eq_div]
   show ((b.many : Int) : Rat) / ((1 : Int) : Rat) = _
   rw [Rat.intCast_one, Rat.intCast_natCast, Rat.div_def]
   grind
  rw [e]
 ·show 0 + seats = seats
  omega
 ·show seats ≤ (List.range p.size).length
  rw [List.length_range]
  exact h2
 ·show (List.range p.size).length ≤ p.size
  rw [List.length_range]
  exact Nat.le_refl _
 ·rfl
 ·show (0 : Int) < (seats : Int) + 1
  omega
 ·show (seats : Int) + 1 < (Bd 0 : Int)
  rw [b0]
  omega
 ·show (0 : Int) ≤ (p.voters : Int)
  omega
 ·show (p.voters : Int) < (Bd 0 : Int)
  rw [b0]
  omega
 ·obtain ⟨b, hb', rfl⟩ := List.mem_map.mp hw
  have h3 := hm b hb'
  refine ⟨Int.mul_nonneg (by omega) (by omega), ?_⟩
  have h4 : (b.many : Int) * ((seats : Int) + 1) ≤ 1000000 * 9 := Int.mul_le_mul (by omega) (by omega) (by omega) (by omega)
  rw [b0]
  omega
 ·show 0 + (List.range p.size).length = p.size
  rw [List.length_range, Nat.zero_add]
 ·show 0 + (List.range p.size).length = p.size
  rw [List.length_range, Nat.zero_add]
theorem Going.step {p : Poll} {seats : Nat} {g : Sg} {pre : List TurnD} {m l : Nat} (G : Going p seats g pre) (h8 : p.size ≤ 8) (hb : p.ballots.length ≤ 64) (hl : 0 < g.left) (hm : Most p.ballots g m) (hf : Fewest p.ballots g l) {byq st : Bool} {a : Nat} (eb : byq = decide (g.quota < g.held p.ballots m)) (es : st = (byq || decide (g.inside.length ≤ g.left))) (ea : a = if st = true then m else l) :
  Going p seats (g.next p.ballots a byq st) (pre ++ [⟨a, st, g.held p.ballots a, g.parts⟩]) := by
 obtain ⟨c, f, R, hf1, hc, hs⟩ := G.ex
 obtain ⟨t, S, ht⟩ := G.small
 obtain ⟨c', h1, R', h3⟩ := R.next hl hm hf S.qq.1 eb es ea
 have hmem : a ∈ g.inside := by
  rw [ea]
  split
  ·exact hm.mem
  ·exact hf.mem
 have wl := without_len hmem (nodup_up R.up)
 have hin : (g.next p.ballots a byq st).inside = g.inside.filter fun b => b != a := rfl
 obtain ⟨f', rfl⟩ : ∃ f', f = f' + 1 := ⟨f - 1, by omega⟩
 have hq : byq = true → g.quota < g.held p.ballots a := fun z => by
  have : st = true := by rw [es, z]; rfl
  rw [ea, if_pos this]
  rw [z] at eb
  exact of_decide_eq_true eb.symm
 have ht7 : t ≤ 7 := by omega
 have hB := bd_le ht7
 refine ⟨⟨c', f', R', by rw [hin]; omega, ?_, ?_⟩, ⟨t + 1, S.next hb hq, by rw [hin]; omega⟩, fun u hu => ?_, fun b hb' => ?_, ?_⟩
 ·rw [hc, turns_step h1, List.map_append, List.append_assoc]
  rfl
 ·rw [h3, hs, List.filter_append, List.map_append]
  cases st <;> rfl
 ·rcases List.mem_append.mp hu with q | q
  ·exact G.ok u q
  ·rw [List.mem_singleton.mp q]
   have hh := S.held hb a
   have hp := S.pp
   exact ⟨⟨hh.1, by show g.held p.ballots a < _; omega⟩, ⟨hp.1, by show g.parts < _; omega⟩, G.sub a hmem⟩
 ·exact G.sub b (List.mem_filter.mp hb').1
 ·rw [hin, List.length_append, List.length_singleton]
  have := G.cnt
  omega
theorem Going.done {p : Poll} {seats : Nat} {g : Sg} {pre : List TurnD} (G : Going p seats g pre) (hl : g.left = 0) : (p.count seats).2 = pre.map TurnD.told ∧ (p.count seats).1.seated = (pre.filter fun t => t.seat).map fun t => t.who := by
 obtain ⟨c, f, R, hf1, hc, hs⟩ := G.ex
 have := R.sts
 rw [hc, turns_end (by omega)]
 exact ⟨by rw [List.append_nil], hs⟩
theorem Going.some {p : Poll} {seats : Nat} {g : Sg} {pre : List TurnD} (G : Going p seats g pre) (hl : 0 < g.left) : 0 < g.inside.length := by
 obtain ⟨c, f, R, _⟩ := G.ex
 have := R.le
 omega
theorem Going.up {p : Poll} {seats : Nat} {g : Sg} {pre : List TurnD} (G : Going p seats g pre) : g.inside.Pairwise (· < ·) := by
 obtain ⟨c, f, R, _⟩ := G.ex
 exact R.up
theorem Going.len {p : Poll} {seats : Nat} {g : Sg} {pre : List TurnD} (G : Going p seats g pre) : g.worths.length = p.ballots.length := by
 obtain ⟨c, f, R, _⟩ := G.ex
 exact R.len
theorem low_num {n d g : Int} (hd : 0 < d) (hg : g = (Int.gcd n d : Int)) : (Rat.divInt n d).num = n / g := by
 rw [Rat.num_divInt, Int.sign_eq_one_of_pos hd, Int.one_mul, Int.gcd_comm, hg]
theorem low_den {n d g : Int} (hd : 0 < d) (hg : g = (Int.gcd n d : Int)) : ((Rat.divInt n d).den : Int) = d / g := by
 rw [Rat.den_divInt, if_neg (by omega), Int.gcd_comm, hg]
 rw [Int.natCast_ediv]
 congr 1
 omega
end PM
namespace Pl
open PySem PySem.Spec PyProof.Rows L2 PollNs
def top (i : Nat) : Stmt := PySem.Challenge.pw_orderpolls_s01_answers.main.body.getD i (.Pass ⟨0, 0, 0, 0⟩)
structure DefAt (K : PySem.W.Frag) (mg : Str → Option Value) (x : Str) (st : Stmt) (ps : List Str) : Prop where
 ex : ∃ f fd, Fun K x x st f fd ∧ mg x = some (.ref f) ∧ Binds K fd ps []
structure Callee (P : Program) (w : World) (K : PySem.W.Frag) (mg : Str → Option Value) (base : Heap) (x : Str) (k : Nat) (ps : List Str) (sp : Sp) : Prop where
 ex : ∃ f fd, FnOk P w K mg base CX0 k f fd ps sp ∧ mg x = some (.ref f) ∧ PySem.W.keepIn K (.ref f) = true ∧ Binds K fd ps []
section
variable {P : Program} {w : World} {K : PySem.W.Frag} {mg : Str → Option Value} {base : Heap}
theorem DefAt.ok {x : Str} {st : Stmt} {N ps : List Str} {k : Nat} {sp : Sp} (D : DefAt K mg x st ps) (S : FnScope N ps (defScope st)) (len : ∀ vs H Q E, sp vs H Q E → vs.length = ps.length)
  (hbody : ∀ (f : Addr) (cdv : Value) (A : Around) (outer : List Env) (s : Shared) (H : Hp) (vs : List V) (Q : VK) (E : XK), Room k (A.deeper (envOfC x (defScope st) s.heap.objs.size f cdv)) → sp vs H Q E →
   ∃ t, PSs (cxOf CX0 P w K mg base N x (defScope st) f cdv A outer s H E).nox (defBody st) t ∧ t { nx := fun _ H' => Q .non H', rt := Q } (start N vs) H) : Callee P w K mg base x (k + 1) ps sp := by
 obtain ⟨f, fd, F, m, b⟩ := D.ex
 exact ⟨f, fd, F.ok S len (hbody f), m, F.kp, b⟩
theorem Callee.imp {x : Str} {k : Nat} {ps : List Str} {sp sp' : Sp} (C : Callee P w K mg base x k ps sp) (h : ∀ vs H Q E, sp' vs H Q E → sp vs H Q E) : Callee P w K mg base x k ps sp' := by
 obtain ⟨f, fd, F, r⟩ := C.ex
 exact ⟨f, fd, F.imp h, r⟩
end
theorem pe_fn {X : Cx} {x : Str} {p pos : Pos} {e : Expr} {es : List Expr} {t : TA} {k : Nat} {ps : List Str} {sp : Sp} (C : Callee X.prog X.w X.K X.mg X.base x k ps sp) (hr : Room k X.A) (ha : PA X (e :: es) t) (hg : Gl X x := by rfl) (hdb : (x == ("__debug__" : Str)) = false := by decide)
  (he : starEach (e :: es) X.env = (false, eval e X.env) :: starEach es X.env := by rfl) (hpl : (backTo pos (starEach es X.env)).any (·.1) = false := by rfl) : PE X (.Call (.Name x p) (e :: es) [] pos) (tCall sp [] E0 t) := by
 obtain ⟨f, fd, F, m, kp, b⟩ := C.ex
 exact pe_call F hr hg m kp b .nil pass0 ha hdb he hpl
section
variable {K : PySem.W.Frag} {a : Addr} {xs : List V} {g : TG} {tt : TT} {te : TE} {vs : List Nat} {σ : L2.St} {H1 : Hp} {D : Addr} {Qd : Hp → Prop}
theorem same_new {H H' : Hp} {D : Addr} {o : HO} (s : Same H H') (hD : H D = none) : Same H (upd H' D o) := fun b u e => by
 rw [upd_ne (ne_of_none e hD)]
 exact s b u e
theorem fm_succ {F : Nat → Option V} (i : Nat) : (List.range (i + 1)).filterMap F = (List.range i).filterMap F ++ (match F i with | some y => [y] | none => []) := by
 rw [List.range_succ, List.filterMap_append, List.filterMap_cons, List.filterMap_nil]
 cases F i <;> rfl
theorem fm_len {F : Nat → Option V} (i : Nat) : ((List.range i).filterMap F).length ≤ i := by
 have := List.length_filterMap_le F (List.range i)
 rw [List.length_range] at this
 exact this
theorem lcL (F : Nat → Option V) (hD : H1 D = none) (hx : SqL K H1 a xs) (hlen : xs.length ≤ 100000)
  (hs : ∀ (i : Nat) (x : V) (H : Hp), xs[i]? = some x → Same H1 H → ∀ (R : V → Hp → Prop) (R' : Hp → Prop), (∀ y H4, F i = some y → Same H H4 → R y H4) → (∀ H3, F i = none → Same H H3 → R' H3) →
   g x (wipe σ vs) H fun σ2 H2 => wipe σ2 vs = wipe σ vs ∧ tt σ2 H2 fun b H3 => if b = true then te σ2 H3 R else R' H3)
  (hd : ∀ H, Same H1 H → H D = some (.lst ((List.range xs.length).filterMap F)) → Qd H) :
  ∃ W : Nat → Nat → Hp → Prop, (∃ m, W 0 m (upd H1 D (.lst []))) ∧ ∀ i m H, W i m H →
   ((Itl K a).stop i H ∧ Qd H) ∨ ((Itl K a).go i H ∧ ∃ Nx : Hp → Prop, (∀ H', Nx H' → ∃ m', m' < m ∧ W (i + 1) m' H') ∧ ∀ x H', (Itl K a).yld i H x H' → g x (wipe σ vs) H' fun σ2 H2 => wipe σ2 vs = wipe σ vs ∧ tt σ2 H2 fun b H3 =>
    if b = true then te σ2 H3 fun y H4 => ∃ acc, H4 D = some (.lst acc) ∧ acc.length < sizeLine ∧ Nx (upd H4 D (.lst (acc ++ [y]))) else Nx H3) := by
 refine lc_list (xs := xs) (fun i H => Same H1 H ∧ H D = some (.lst ((List.range i).filterMap F))) ⟨same_new (Same.refl _) hD, upd_same⟩ (fun i H _ p => p.1.seq hx) (fun i x H hi p => ?_) fun H p => hd H p.1 p.2
 have hil : i < xs.length := (List.getElem?_eq_some_iff.mp hi).1
 refine hs i x H hi p.1 _ _ (fun y H4 hy sm => ⟨_, sm _ _ p.2, ?_, same_new (p.1.trans sm) hD, ?_⟩) fun H3 hn sm => ⟨p.1.trans sm, ?_⟩
 ·have := fm_len (F := F) i
  rw [sizeLine_eq]
  omega
 ·rw [upd_same, fm_succ, hy]
 ·rw [sm _ _ p.2, fm_succ, hn, List.append_nil]
theorem lcR {n : Nat} (F : Nat → Option V) (hD : H1 D = none) (hlen : n ≤ 100000)
  (hs : ∀ (i : Nat) (H : Hp), i < n → Same H1 H → ∀ (R : V → Hp → Prop) (R' : Hp → Prop), (∀ y H4, F i = some y → Same H H4 → R y H4) → (∀ H3, F i = none → Same H H3 → R' H3) →
   g (natV i) (wipe σ vs) H fun σ2 H2 => wipe σ2 vs = wipe σ vs ∧ tt σ2 H2 fun b H3 => if b = true then te σ2 H3 R else R' H3)
  (hd : ∀ H, Same H1 H → H D = some (.lst ((List.range n).filterMap F)) → Qd H) :
  ∃ W : Nat → Nat → Hp → Prop, (∃ m, W 0 m (upd H1 D (.lst []))) ∧ ∀ i m H, W i m H →
   ((Itr 0 n).stop i H ∧ Qd H) ∨ ((Itr 0 n).go i H ∧ ∃ Nx : Hp → Prop, (∀ H', Nx H' → ∃ m', m' < m ∧ W (i + 1) m' H') ∧ ∀ x H', (Itr 0 n).yld i H x H' → g x (wipe σ vs) H' fun σ2 H2 => wipe σ2 vs = wipe σ vs ∧ tt σ2 H2 fun b H3 =>
    if b = true then te σ2 H3 fun y H4 => ∃ acc, H4 D = some (.lst acc) ∧ acc.length < sizeLine ∧ Nx (upd H4 D (.lst (acc ++ [y]))) else Nx H3) := by
 refine lc_range (fun i H => Same H1 H ∧ H D = some (.lst ((List.range i).filterMap F))) ⟨same_new (Same.refl _) hD, upd_same⟩ (fun i H hi p => ?_) fun H p => hd H p.1 p.2
 have e : V.int (0 + (i : Int)) = natV i := by rw [Int.zero_add]; rfl
 rw [e]
 refine hs i H hi p.1 _ _ (fun y H4 hy sm => ⟨_, sm _ _ p.2, ?_, same_new (p.1.trans sm) hD, ?_⟩) fun H3 hn sm => ⟨p.1.trans sm, ?_⟩
 ·have := fm_len (F := F) i
  rw [sizeLine_eq]
  omega
 ·rw [upd_same, fm_succ, hy]
 ·rw [sm _ _ p.2, fm_succ, hn, List.append_nil]
end
structure Cs where
 bal : Addr
 poll : Addr
 call : Addr
 reader : Addr
 turn : Addr
 seating : Addr
 desk : Addr
abbrev lk (fs : List (Str × V)) (k : Str) : Option V := fs.lookup k
def BalAt (c : Cs) (H : Hp) (a : Addr) (b : Ballot) : Prop := ∃ dx fs t, H a = some (.ins c.bal dx fs) ∧ lk fs "voters" = some (natV b.many) ∧ lk fs "order" = some (.ref t) ∧ FrzT H t (b.order.map natV)
structure BalsAt (c : Cs) (H : Hp) (as : List Addr) (bs : List Ballot) : Prop where
 len : as.length = bs.length
 at_ : ∀ (i : Nat) (a : Addr) (b : Ballot), as[i]? = some a → bs[i]? = some b → BalAt c H a b
def PollL (c : Cs) (H : Hp) (p l : Addr) (P : Poll) : Prop := ∃ dx fs as, H p = some (.ins c.poll dx fs) ∧ lk fs "candidates" = some (natV P.size) ∧ lk fs "ballots" = some (.ref l) ∧ H l = some (.lst (as.map V.ref)) ∧ BalsAt c H as P.ballots
def PollAt (c : Cs) (H : Hp) (p : Addr) (P : Poll) : Prop := ∃ l, PollL c H p l P
theorem BalAt.mono {c : Cs} {H H' : Hp} {a : Addr} {b : Ballot} (h : BalAt c H a b) (s : Same H H') : BalAt c H' a b := let ⟨dx, fs, t, e1, e2, e3, e4⟩ := h; ⟨dx, fs, t, s _ _ e1, e2, e3, e4.mono s⟩
theorem BalsAt.mono {c : Cs} {H H' : Hp} {as : List Addr} {bs : List Ballot} (h : BalsAt c H as bs) (s : Same H H') : BalsAt c H' as bs := ⟨h.len, fun i a b e1 e2 => (h.at_ i a b e1 e2).mono s⟩
theorem PollL.mono {c : Cs} {H H' : Hp} {p l : Addr} {P : Poll} (h : PollL c H p l P) (s : Same H H') : PollL c H' p l P := let ⟨dx, fs, as, e1, e2, e3, e4, e5⟩ := h; ⟨dx, fs, as, s _ _ e1, e2, e3, s _ _ e4, e5.mono s⟩
theorem PollAt.mono {c : Cs} {H H' : Hp} {p : Addr} {P : Poll} (h : PollAt c H p P) (s : Same H H') : PollAt c H' p P := let ⟨l, e⟩ := h; ⟨l, e.mono s⟩
theorem BalsAt.get {c : Cs} {H : Hp} {as : List Addr} {bs : List Ballot} (h : BalsAt c H as bs) {i : Nat} {x : V} (e : (as.map V.ref)[i]? = some x) : ∃ a b, x = .ref a ∧ bs[i]? = some b ∧ BalAt c H a b := by
 rw [List.getElem?_map] at e
 cases q : as[i]? with
 | none =>
  rw [q] at e
  cases e
 | some a =>
  rw [q] at e
  have hi : i < bs.length := by
   rw [← h.len]
   exact (List.getElem?_eq_some_iff.mp q).1
  exact ⟨a, bs[i], (Option.some.inj e).symm, List.getElem?_eq_getElem hi, h.at_ i a _ q (List.getElem?_eq_getElem hi)⟩
structure WF (P : Poll) : Prop where
 lo : 2 ≤ P.size
 hi : P.size ≤ 8
 few : P.ballots.length ≤ 64
 bal : ∀ b ∈ P.ballots, b.many ≤ 1000000 ∧ b.order.Nodup ∧ ∀ x ∈ b.order, x < P.size
structure Own (K : PySem.W.Frag) (C : Addr) (fs : List Str) : Prop where
 cl : Cls K C
 no : ∀ f ∈ fs, NoAttr K C f
structure Txt (K : PySem.W.Frag) (mg : Str → Option Value) (c : Cs) : Prop where
 bal : Own K c.bal ["voters", "order"]
 poll : Own K c.poll ["candidates", "ballots"]
 call : Own K c.call ["number", "wholes", "row"]
 reader : Own K c.reader ["numbers", "place"]
 turn : Own K c.turn ["candidate", "seated", "had", "parts"]
 seating : Own K c.seating ["ballots", "inside", "seats_left", "parts", "quota", "worths"]
 desk : Own K c.desk ["poll"]
 sum : mg "sum" = none
 len : mg "len" = none
 all : mg "all" = none
 any : mg "any" = none
 min : mg "min" = none
 max : mg "max" = none
 sorted : mg "sorted" = none
 range : mg "range" = none
 list : mg "list" = none
 tuple : mg "tuple" = none
 set : mg "set" = none
 zip : mg "zip" = none
section
variable {P : Program} {w : World} {K : PySem.W.Frag} {mg : Str → Option Value} {base : Heap} {c : Cs}
def spVoters (c : Cs) : Sp := fun vs H Q _ => ∃ p p', vs = [.ref p] ∧ PollAt c H p p' ∧ WF p' ∧ ∀ H', Same H H' → Q (natV p'.voters) H'
theorem sum_many : ∀ bs : List Ballot, (bs.map fun b => (b.many : Int)).sum = (((bs.map fun (b : Ballot) => b.many).foldr (fun x y => x + y) 0 : Nat) : Int)
 | [] => rfl
 | b :: r => by
  rw [List.map_cons, List.sum_cons, sum_many r]
  show _ = ((b.many + _ : Nat) : Int)
  rw [Int.natCast_add]
theorem fm_all {α : Type} {F : Nat → Option V} {g : α → V} : ∀ {bs : List α}, (∀ (i : Nat) (b : α), bs[i]? = some b → F i = some (g b)) → (List.range bs.length).filterMap F = bs.map g := by
 intro bs
 induction bs generalizing F with
 | nil => intro _; rfl
 | cons b r ih =>
  intro h
  rw [List.length_cons, List.range_succ_eq_map, List.filterMap_cons, h 0 b rfl, List.filterMap_map, List.map_cons]
  show g b :: (List.range r.length).filterMap (fun i => F (i + 1)) = _
  rw [ih fun i b' e => h (i + 1) b' e]
theorem sc1 : FnScope ["poll", "ballot"] ["poll"] (defScope (top 1)) := ⟨rfl, rfl, rfl, by decide +kernel, rfl, by decide +kernel, by decide +kernel⟩
theorem ok_voters (T : Txt K mg c) (D : DefAt K mg "count_voters" (top 1) ["poll"]) : Callee P w K mg base "count_voters" 1 ["poll"] (spVoters c) := by
 refine D.ok sc1 (fun vs H Q E h => ?_) fun f cdv A outer s H vs Q E hr h => ?_
 ·obtain ⟨p, p', rfl, _⟩ := h
  rfl
 ·obtain ⟨p, p', rfl, ⟨l, dx, fs, as, h1, h2, h3, h4, h5⟩, wf, k⟩ := h
  refine ⟨_, pss_one (ps_ret (pe_callB (cr_sum rfl) rfl T.sum boot_sum (pa_cons (pe_lc (own := [("ballot", 1)]) (g := gName 1) (tt := tYes) (te := tFld K (tVar 1) "voters") rfl sc1.nd (pi_list (pe_fld (pv 0) rfl)) (blkOk_by (N := ["poll", "ballot"]) (sc := defScope (top 1)) (by decide +kernel)) (fun _ _ _ _ _ => pg_name (i := 1) sc1.nd rfl (Or.inl rfl)) (fun _ _ _ _ _ => pts_nil) (fun _ _ _ _ _ => pe_fld (pv 1) rfl)) pa_nil))), ?_⟩
  refine ⟨_, rfl, p, c.poll, dx, fs, _, rfl, h1, T.poll.cl, T.poll.no _ (by decide +kernel), h3, l, rfl, ⟨_, SqL.of h4⟩, fun D hD => lcL (fun i => (p'.ballots[i]?).map fun b => natV b.many) hD (SqL.of h4) ?_ (fun i x H' hi sm R R' hR hR' => ?_) fun H' sm hD' => ?_⟩
  ·rw [List.length_map, h5.len]
   have := wf.few
   omega
  ·obtain ⟨a, b, rfl, hb, dxb, fsb, tb, e1, e2, e3, e4⟩ := h5.get hi
   refine ⟨rfl, _, rfl, a, c.bal, dxb, fsb, _, rfl, sm _ _ e1, T.bal.cl, T.bal.no _ (by decide +kernel), e2, ?_⟩
   exact hR _ _ (by rw [hb]; rfl) (Same.refl _)
  ·rw [List.length_map, h5.len, fm_all (g := fun b => natV b.many) (fun i b e => by rw [e]; rfl)] at hD'
   refine ⟨D, p'.ballots.map fun b => (b.many : Int), rfl, SqL.of (by rw [hD', List.map_map]; rfl), ?_⟩
   rw [sum_many]
   exact k H' sm
end
theorem get_list {X : Cx} : PGet X (rIxL X.K) := by
 intro pins s σ H x y v u Q I rx ry h
 obtain ⟨p, xs, i, z, rfl, rfl, hq, he, q⟩ := h
 cases rx
 obtain ⟨t, rfl⟩ := ry
 obtain ⟨its, r, pl, hz⟩ := I.list hq
 obtain ⟨j, h1, h2, h3, h4, h5⟩ := atI_get he
 obtain ⟨w, ew, rw'⟩ := r.get h2
 have hl := r.length
 have hn := line63
 by_cases h0 : 0 ≤ i
 ·have hj : i.toNat = j := by
   rw [seqIndex_of h0 h5] at h1
   exact Option.some.inj h1
  exact wpAny_getItem_list pl.isList h0 (by omega) (by rw [hj]; simpa using ew) ⟨z, H, I, rw', q⟩
 ·have hj : (i + (its.toArray.size : Int)).toNat = j := by
   rw [seqIndex_neg (by omega) h4] at h1
   rw [List.size_toArray, ← hl]
   exact Option.some.inj h1
  exact wpAny_getItem_list_neg pl.isList (by omega) (by rw [List.size_toArray] <;> omega) (by omega) (by rw [hj]; simpa using ew) ⟨z, H, I, rw', q⟩
theorem natV_ints (o : List Nat) : o.map natV = (o.map Int.ofNat).map V.int := by rw [List.map_map]; rfl
theorem flat_nats (o : List Nat) : (o.map natV).all flatV = true := by
 rw [List.all_map]
 exact List.all_eq_true.mpr fun _ _ => rfl
theorem in_nats (a : Nat) (o : List Nat) : inV (natV a) (o.map natV) = o.contains a := by
 unfold inV
 rw [List.any_map, List.contains_eq_any_beq]
 congr 1
 funext x
 show (((x : Nat) : Int) == ((a : Nat) : Int)) = (a == x)
 rw [Bool.eq_iff_iff, beq_iff_eq, beq_iff_eq]
 omega
theorem first_place {a : Nat} : ∀ {o : List Nat}, a ∈ o → ∃ j : Nat, o[j]? = some a ∧ ∀ m : Nat, m < j → o[m]? ≠ some a
 | x :: r, h => by
  by_cases e : x = a
  ·exact ⟨0, by rw [e]; rfl, fun m hm => by omega⟩
  ·obtain ⟨j, h1, h2⟩ := first_place (o := r) ((List.mem_cons.mp h).resolve_left fun z => e z.symm)
   refine ⟨j + 1, h1, fun m hm => ?_⟩
   match m with
   | 0 => intro z; exact e (Option.some.inj z)
   | m + 1 => exact h2 m (by omega)
theorem int_place {a j : Nat} {o : List Nat} (h : o[j]? = some a) (hn : ∀ m : Nat, m < j → o[m]? ≠ some a) : (o.map Int.ofNat)[j]? = some (a : Int) ∧ ∀ m : Nat, m < j → (o.map Int.ofNat)[m]? ≠ some (a : Int) := by
 refine ⟨by rw [List.getElem?_map, h]; rfl, fun m hm z => ?_⟩
 rw [List.getElem?_map] at z
 cases q : o[m]? with
 | none => rw [q] at z; cases z
 | some x =>
  rw [q] at z
  have : Int.ofNat x = (a : Int) := Option.some.inj z
  have e2 : x = a := Int.ofNat.inj this
  exact hn m hm (by rw [q, e2])
theorem prefers_place {a b : Nat} (hne : a ≠ b) : ∀ {o : List Nat} {i : Nat}, o[i]? = some a → (∀ m : Nat, m < i → o[m]? ≠ some a) → (∀ j : Nat, o[j]? = some b → (∀ m : Nat, m < j → o[m]? ≠ some b) → prefers a b o = decide (i < j)) ∧ (b ∉ o → prefers a b o = true)
 | x :: r, 0, h, _ => by
  have e : x = a := Option.some.inj h
  refine ⟨fun j hj _ => ?_, fun _ => ?_⟩
  ·show (if x = a then true else _) = _
   rw [if_pos e]
   have : j ≠ 0 := fun z => by
    rw [z] at hj
    exact hne (e.symm.trans (Option.some.inj hj))
   exact (decide_eq_true (by omega)).symm
  ·show (if x = a then true else _) = _
   rw [if_pos e]
 | x :: r, i + 1, h, hn => by
  have nx : x ≠ a := fun z => hn 0 (by omega) (by rw [z]; rfl)
  have ih := prefers_place hne (o := r) (i := i) h fun m hm => hn (m + 1) (by omega)
  refine ⟨fun j hj hm => ?_, fun hb => ?_⟩
  ·show (if x = a then true else if x = b then false else prefers a b r) = _
   rw [if_neg nx]
   match j with
   | 0 =>
    have e : x = b := Option.some.inj hj
    rw [if_pos e]
    exact (decide_eq_false (by omega)).symm
   | j + 1 =>
    have nb : x ≠ b := fun z => hm 0 (by omega) (by rw [z]; rfl)
    rw [if_neg nb, ih.1 j hj fun m hm' => hm (m + 1) (by omega)]
    by_cases q : i < j
    ·rw [decide_eq_true q, decide_eq_true (by omega)]
    ·rw [decide_eq_false q, decide_eq_false (by omega)]
  ·show (if x = a then true else if x = b then false else prefers a b r) = _
   rw [if_neg nx, if_neg (fun z => hb (by rw [z]; exact List.mem_cons_self)), ih.2 fun z => hb (List.mem_cons_of_mem _ z)]
theorem prefers_not {a b : Nat} : ∀ {o : List Nat}, a ∉ o → prefers a b o = false
 | [], _ => rfl
 | x :: r, h => by
  show (if x = a then true else if x = b then false else prefers a b r) = false
  rw [if_neg (fun z => h (by rw [z]; exact List.mem_cons_self)), prefers_not fun z => h (List.mem_cons_of_mem _ z)]
  split <;> rfl
def pf (a b : Nat) (o : List Nat) : Bool := !(a == b) && prefers a b o
section
variable {P : Program} {w : World} {K : PySem.W.Frag} {mg : Str → Option Value} {base : Heap} {c : Cs}
def spPrefers : Sp := fun vs H Q _ => ∃ t o a b, vs = [.ref t, natV a, natV b] ∧ FrzT H t (o.map natV) ∧ Q (.bl (pf a b o)) H
theorem sc3 : FnScope ["order", "a", "b"] ["order", "a", "b"] (defScope (top 3)) := ⟨rfl, rfl, rfl, by decide +kernel, rfl, by decide +kernel, by decide +kernel⟩
theorem ok_prefers (T : Txt K mg c) (D : DefAt K mg "prefers" (top 3) ["order", "a", "b"]) : Callee P w K mg base "prefers" 1 ["order", "a", "b"] spPrefers := by
 refine D.ok sc3 (fun vs H Q E h => ?_) fun f cdv A outer s H vs Q E hr h => ?_
 ·obtain ⟨t, o, a, b, rfl, _⟩ := h
  rfl
 ·obtain ⟨t, o, a, b, rfl, ht, k⟩ := h
  refine ⟨_, pss_cons (ps_if (pt_cmpR op_notIn_seq (pv 1) (pv 0) rfl) (pss_one (ps_ret pe_bl)) pss_nil)
   (pss_one (ps_ret (pe_or (pe_cmpR op_notIn_seq (pv 2) (pv 0) rfl) (pe_one (pe_cmpR op_lt (pe_tix (pv 0) (pa_cons (pv 1) pa_nil)) (pe_tix (pv 0) (pa_cons (pv 2) pa_nil)) (nomark _)))))), ?_⟩
  refine ⟨_, rfl, _, rfl, t, _, rfl, .inr ht.sq, rfl, flat_nats o, _, rfl, ?_⟩
  rw [if_pos rfl, in_nats]
  by_cases ha : a ∈ o
  ·rw [show o.contains a = true by simpa using ha]
   refine iteF ?_
   refine ⟨_, rfl, _, rfl, t, _, rfl, .inr ht.sq, rfl, flat_nats o, _, rfl, ?_⟩
   rw [if_pos rfl, in_nats]
   obtain ⟨i, hi, hi'⟩ := first_place ha
   obtain ⟨hi1, hi2⟩ := int_place hi hi'
   by_cases hb : b ∈ o
   ·rw [show o.contains b = true by simpa using hb]
    refine iteF ?_
    obtain ⟨j, hj, hj'⟩ := first_place hb
    obtain ⟨hj1, hj2⟩ := int_place hj hj'
    have ht' : FrzT H t ((o.map Int.ofNat).map V.int) := by rw [← natV_ints]; exact ht
    refine ⟨_, rfl, ⟨t, _, rfl, ht⟩, _, rfl, t, _, _, i, rfl, rfl, ht', hi1, hi2, _, rfl, ⟨t, _, rfl, ht⟩, _, rfl, t, _, _, j, rfl, rfl, ht', hj1, hj2, _, _, rfl, rfl, ?_⟩
    have e : decide (((i : Nat) : Int) < ((j : Nat) : Int)) = pf a b o := by
     unfold pf
     by_cases q : a = b
     ·subst q
      have e2 : i = j := by
       rcases Nat.lt_trichotomy i j with z | z | z
       ·exact absurd hi (hj' i z)
       ·exact z
       ·exact absurd hj (hi' j z)
      subst e2
      simp
     ·rw [(prefers_place q hi hi').1 j hj hj', show (a == b) = false by simpa using q]
      simp
    show Q (.bl (decide (((i : Nat) : Int) < ((j : Nat) : Int)))) H
    rw [e]
    exact k
   ·rw [show o.contains b = false by simpa using hb]
    refine iteT ?_
    have e : pf a b o = true := by
     unfold pf
     have q : a ≠ b := fun z => hb (z ▸ ha)
     rw [(prefers_place q hi hi').2 hb, show (a == b) = false by simpa using q]
     rfl
    rw [e] at k
    exact k
  ·rw [show o.contains a = false by simpa using ha]
   refine iteT ?_
   have e : pf a b o = false := by
    unfold pf
    rw [prefers_not ha, Bool.and_false]
   rw [e] at k
   exact k
end
def tTruth (K : PySem.W.Frag) (ta : TE) : TT := fun σ H Q => ta σ H fun x H' => ∃ k, TruV K x H' k ∧ Q k H'
theorem pt_tru {X : Cx} {a : Expr} {ta : TE} (ha : PE X a ta) (he : ∀ whole, isTrue a X.env whole = (do let v ← whole; standAt a.pos; holding [v] (truthy v)) := by intro _; rfl) : PT X a (tTruth X.K ta) := pt_truth ha he
theorem fm_filter {α : Type} {F : Nat → Option V} {q : α → Bool} {g : α → V} : ∀ {bs : List α}, (∀ (i : Nat) (b : α), bs[i]? = some b → F i = if q b = true then some (g b) else none) → (List.range bs.length).filterMap F = (bs.filter q).map g := by
 intro bs
 induction bs generalizing F with
 | nil => intro _; rfl
 | cons b r ih =>
  intro h
  rw [List.length_cons, List.range_succ_eq_map, List.filterMap_cons, List.filterMap_map, h 0 b rfl, List.filter_cons]
  have e := ih (F := fun i => F (i + 1)) fun i b' e => h (i + 1) b' e
  by_cases z : q b = true
  ·rw [if_pos z, if_pos z, List.map_cons]
   show g b :: (List.range r.length).filterMap (fun i => F (i + 1)) = _
   rw [e]
  ·rw [if_neg z, if_neg z]
   exact e
theorem pair_eq (p : Poll) (a b : Nat) : (((p.ballots.filter fun bl => pf a b bl.order).map fun bl => (bl.many : Int)).sum : Int) = ((p.pair a b : Nat) : Int) := by
 rw [sum_many]
 unfold Poll.pair pf
 by_cases e : a = b
 ·subst e
  rw [if_pos rfl]
  have : (p.ballots.filter fun bl => !(a == a) && prefers a a bl.order) = [] := List.filter_eq_nil_iff.mpr fun b _ => by simp
  rw [this]
  rfl
 ·rw [if_neg e]
  have : (fun bl : Ballot => !(a == b) && prefers a b bl.order) = fun bl => prefers a b bl.order := by
   funext bl
   rw [show (a == b) = false by simpa using e]
   rfl
  rw [this]
  rfl
section
variable {P : Program} {w : World} {K : PySem.W.Frag} {mg : Str → Option Value} {base : Heap} {c : Cs}
def spTwo (c : Cs) (f : Poll → Nat → Nat → V) : Sp := fun vs H Q _ => ∃ p p' a b, vs = [.ref p, natV a, natV b] ∧ PollAt c H p p' ∧ WF p' ∧ ∀ H', Same H H' → Q (f p' a b) H'
def spOne (c : Cs) (f : Poll → Nat → V) : Sp := fun vs H Q _ => ∃ p p' a, vs = [.ref p, natV a] ∧ PollAt c H p p' ∧ WF p' ∧ ∀ H', Same H H' → Q (f p' a) H'
theorem sc4 : FnScope ["poll", "a", "b", "ballot"] ["poll", "a", "b"] (defScope (top 4)) := ⟨rfl, rfl, rfl, by decide +kernel, rfl, by decide +kernel, by decide +kernel⟩
theorem ok_preferring (T : Txt K mg c) (D : DefAt K mg "count_preferring" (top 4) ["poll", "a", "b"]) (C : Callee P w K mg base "prefers" 1 ["order", "a", "b"] spPrefers) :
  Callee P w K mg base "count_preferring" 3 ["poll", "a", "b"] (spTwo c fun p a b => natV (p.pair a b)) := by
 refine D.ok sc4 (fun vs H Q E h => ?_) fun f cdv A outer s H vs Q E hr h => ?_
 ·obtain ⟨p, p', a, b, rfl, _⟩ := h
  rfl
 ·obtain ⟨p, p', a, b, rfl, ⟨l, dx, fs, as, h1, h2, h3, h4, h5⟩, wf, k⟩ := h
  refine ⟨_, pss_one (ps_ret (pe_callB (cr_sum rfl) rfl T.sum boot_sum (pa_cons (pe_lc (own := [("ballot", 3)]) (g := gName 3)
   (tt := tTruth K (tCall spPrefers [] E0 (tCons (tFld K (tVar 3) "order") (tCons (tVar 1) (tCons (tVar 2) tNil))))) (te := tFld K (tVar 3) "voters") rfl sc4.nd (pi_list (pe_fld (pv 0) rfl))
   (blkOk_by (N := ["poll", "a", "b", "ballot"]) (sc := defScope (top 4)) (by decide +kernel)) (fun _ _ _ _ _ => pg_name (i := 3) sc4.nd rfl (Or.inl rfl))
   (fun _ _ _ _ _ => pts_one (pt_tru (pe_fn C (hr.mono (by decide)) (pa_cons (pe_fld (pv 3) rfl) (pa_cons (pv 1) (pa_cons (pv 2) pa_nil)))))) (fun _ _ _ _ _ => pe_fld (pv 3) rfl)) pa_nil))), ?_⟩
  refine ⟨_, rfl, p, c.poll, dx, fs, _, rfl, h1, T.poll.cl, T.poll.no _ (by decide +kernel), h3, l, rfl, ⟨_, SqL.of h4⟩, fun D hD => lcL (fun i => (p'.ballots[i]?).bind fun bl => if pf a b bl.order = true then some (natV bl.many) else none) hD (SqL.of h4) ?_ (fun i x H' hi sm R R' hR hR' => ?_) fun H' sm hD' => ?_⟩
  ·rw [List.length_map, h5.len]
   have := wf.few
   omega
  ·obtain ⟨ad, bl, rfl, hb, dxb, fsb, tb, e1, e2, e3, e4⟩ := h5.get hi
   refine ⟨rfl, _, rfl, ad, c.bal, dxb, fsb, _, rfl, sm _ _ e1, T.bal.cl, T.bal.no _ (by decide +kernel), e3, _, rfl, _, rfl, tb, bl.order, a, b, rfl, e4.mono sm, _, rfl, ?_⟩
   cases q : pf a b bl.order with
   | true =>
    refine iteT ⟨_, rfl, ad, c.bal, dxb, fsb, _, rfl, sm _ _ e1, T.bal.cl, T.bal.no _ (by decide +kernel), e2, ?_⟩
    exact hR _ _ (by show Option.bind _ _ = _; rw [hb]; show (if pf a b bl.order = true then _ else _) = _; rw [if_pos q]) (Same.refl _)
   | false => exact iteF (hR' _ (by show Option.bind _ _ = _; rw [hb]; show (if pf a b bl.order = true then _ else _) = _; rw [q, if_neg Bool.false_ne_true]) (Same.refl _))
  ·rw [List.length_map, h5.len, fm_filter (q := fun bl => pf a b bl.order) (g := fun bl => natV bl.many) (fun i bl e => by show Option.bind _ _ = _; rw [e]; rfl)] at hD'
   refine ⟨D, (p'.ballots.filter fun bl => pf a b bl.order).map fun bl => (bl.many : Int), rfl, SqL.of (by rw [hD', List.map_map]; rfl), ?_⟩
   rw [pair_eq]
   exact k H' sm
theorem sc5 : FnScope ["poll", "a", "b"] ["poll", "a", "b"] (defScope (top 5)) := ⟨rfl, rfl, rfl, by decide +kernel, rfl, by decide +kernel, by decide +kernel⟩
theorem ok_beats (D : DefAt K mg "beats" (top 5) ["poll", "a", "b"]) (C : Callee P w K mg base "count_preferring" 3 ["poll", "a", "b"] (spTwo c fun p a b => natV (p.pair a b))) :
  Callee P w K mg base "beats" 5 ["poll", "a", "b"] (spTwo c fun p a b => .bl (p.beats a b)) := by
 refine D.ok sc5 (fun vs H Q E h => ?_) fun f cdv A outer s H vs Q E hr h => ?_
 ·obtain ⟨p, p', a, b, rfl, _⟩ := h
  rfl
 ·obtain ⟨p, p', a, b, rfl, hp, wf, k⟩ := h
  refine ⟨_, pss_one (ps_ret (pe_cmpR op_gt (pe_fn C (hr.mono (by decide)) (pa_cons (pv 0) (pa_cons (pv 1) (pa_cons (pv 2) pa_nil)))) (pe_fn C (hr.mono (by decide)) (pa_cons (pv 0) (pa_cons (pv 2) (pa_cons (pv 1) pa_nil)))) (nomark _))), ?_⟩
  refine ⟨_, rfl, _, rfl, _, rfl, p, p', a, b, rfl, hp, wf, fun H1 s1 => ⟨_, rfl, _, rfl, _, rfl, p, p', b, a, rfl, hp.mono s1, wf, fun H2 s2 => ⟨_, _, rfl, rfl, ?_⟩⟩⟩
  have e : decide (((p'.pair b a : Nat) : Int) < ((p'.pair a b : Nat) : Int)) = p'.beats a b := by
   unfold Poll.beats
   rw [Bool.eq_iff_iff, decide_eq_true_iff, decide_eq_true_iff]
   omega
  show Q (.bl (decide (((p'.pair b a : Nat) : Int) < ((p'.pair a b : Nat) : Int)))) H2
  rw [e]
  exact k H2 (s1.trans s2)
end
theorem fm_range {F : Nat → Option V} {q : Nat → Bool} {g : Nat → V} {n : Nat} (h : ∀ i, i < n → F i = if q i = true then some (g i) else none) : (List.range n).filterMap F = ((List.range n).filter q).map g := by
 have e := fm_filter (F := F) (q := q) (g := g) (bs := List.range n) fun i b e => by
  have hi : i < n := by
   have := (List.getElem?_eq_some_iff.mp e).1
   rw [List.length_range] at this
   exact this
  rw [List.getElem?_range hi] at e
  have : i = b := Option.some.inj e
  subst this
  exact h i hi
 rw [List.length_range] at e
 exact e
theorem ne_nat (i a : Nat) : (!decide (natV i = natV a)) = (i != a) := by
 by_cases e : i = a
 ·subst e
  simp
 ·have : natV i ≠ natV a := fun z => e (by
   have z' : ((i : Nat) : Int) = ((a : Nat) : Int) := V.int.inj z
   omega)
  rw [decide_eq_false this, show (i != a) = true by simpa using e]
  rfl
section
variable {P : Program} {w : World} {K : PySem.W.Frag} {mg : Str → Option Value} {base : Heap} {c : Cs}
def spPoll (c : Cs) (f : Poll → V) : Sp := fun vs H Q _ => ∃ p p', vs = [.ref p] ∧ PollAt c H p p' ∧ WF p' ∧ ∀ H', Same H H' → Q (f p') H'
def spList (c : Cs) (f : Poll → List Nat) : Sp := fun vs H Q _ => ∃ p p', vs = [.ref p] ∧ PollAt c H p p' ∧ WF p' ∧ ∀ H' l, Same H H' → H l = none → H' l = some (.lst ((f p').map natV)) → Q (.ref l) H'
def champ (p : Poll) (a : Nat) : Bool := p.all.all fun (b : Nat) => b == a || p.beats a b
theorem champ_eq (p : Poll) (a : Nat) : ((((List.range p.size).filter fun b => b != a).map fun b => p.beats a b).all id) = champ p a := by
 unfold champ Poll.all
 rw [Bool.eq_iff_iff, List.all_eq_true, List.all_eq_true]
 constructor
 ·intro h b hb
  by_cases e : b = a
  ·simp [e]
  ·have := h (p.beats a b) (List.mem_map.mpr ⟨b, List.mem_filter.mpr ⟨hb, by simpa using e⟩, rfl⟩)
   rw [Bool.or_eq_true]
   exact .inr this
 ·intro h v hv
  obtain ⟨b, hb, rfl⟩ := List.mem_map.mp hv
  obtain ⟨h1, h2⟩ := List.mem_filter.mp hb
  have h3 := h b h1
  rw [Bool.or_eq_true] at h3
  rcases h3 with z | z
  ·rw [show b = a from eq_of_beq z] at h2
   simp at h2
  ·exact z
theorem sc6 : FnScope ["poll", "a", "b"] ["poll", "a"] (defScope (top 6)) := ⟨rfl, rfl, rfl, by decide +kernel, rfl, by decide +kernel, by decide +kernel⟩
theorem ok_each (T : Txt K mg c) (D : DefAt K mg "beats_each_other_one" (top 6) ["poll", "a"]) (C : Callee P w K mg base "beats" 5 ["poll", "a", "b"] (spTwo c fun p a b => .bl (p.beats a b))) :
  Callee P w K mg base "beats_each_other_one" 7 ["poll", "a"] (spOne c fun p a => .bl (champ p a)) := by
 refine D.ok sc6 (fun vs H Q E h => ?_) fun f cdv A outer s H vs Q E hr h => ?_
 ·obtain ⟨p, p', a, rfl, _⟩ := h
  rfl
 ·obtain ⟨p, p', a, rfl, hp, wf, k⟩ := h
  have hp0 := hp
  obtain ⟨l, dx, fs, as, h1, h2, h3, h4, h5⟩ := hp0
  refine ⟨_, pss_one (ps_ret (pe_callB (cr_all rfl) rfl T.all boot_all (pa_cons (pe_lc (own := [("b", 2)]) (g := gName 2) (tt := tTest (tOp rNe (tVar 2) (tVar 1)))
   (te := tCall (spTwo c fun p a b => .bl (p.beats a b)) [] E0 (tCons (tVar 0) (tCons (tVar 1) (tCons (tVar 2) tNil)))) rfl sc6.nd (pi_range1 rfl T.range (pa_cons (pe_fld (pv 0) rfl) pa_nil))
   (blkOk_by (N := ["poll", "a", "b"]) (sc := defScope (top 6)) (by decide +kernel)) (fun _ _ _ _ _ => pg_name (i := 2) sc6.nd rfl (Or.inl rfl))
   (fun _ _ _ _ _ => pts_one (pt_cmpR op_ne (pv 2) (pv 1) (nomark _))) (fun _ _ _ _ _ => pe_fn C (hr.mono (by decide)) (pa_cons (pv 0) (pa_cons (pv 1) (pa_cons (pv 2) pa_nil))))) pa_nil))), ?_⟩
  refine ⟨_, rfl, p, c.poll, dx, fs, _, rfl, h1, T.poll.cl, T.poll.no _ (by decide +kernel), h2, _, rfl, by have := wf.hi; omega, by have := wf.hi; omega, fun D hD => lcR (n := p'.size) (fun i => if (i != a) = true then some (.bl (p'.beats a i)) else none) hD (by have := wf.hi; omega) (fun i H' hi sm R R' hR hR' => ?_) fun H' sm hD' => ?_⟩
  ·refine ⟨rfl, _, rfl, _, rfl, rfl, _, rfl, ?_⟩
   rw [ne_nat]
   cases q : (i != a) with
   | true => exact iteT ⟨_, rfl, _, rfl, _, rfl, p, p', a, i, rfl, hp.mono sm, wf, fun H2 s2 => hR _ _ (by show (if (i != a) = true then _ else _) = _; rw [if_pos q]) s2⟩
   | false => exact iteF (hR' _ (by show (if (i != a) = true then _ else _) = _; rw [q, if_neg Bool.false_ne_true]) (Same.refl _))
  ·rw [fm_range (q := fun i => i != a) (g := fun i => .bl (p'.beats a i)) (fun i _ => rfl)] at hD'
   refine ⟨D, ((List.range p'.size).filter fun b => b != a).map fun b => p'.beats a b, rfl, SqL.of (by rw [hD', List.map_map]; rfl), ?_⟩
   rw [champ_eq]
   exact k H' sm
def optV : Option Nat → V
 | none => .non
 | some a => natV a
theorem find_none {n : Nat} {q : Nat → Bool} (h : ∀ j, j < n → q j = false) : (List.range n).find? q = none := List.find?_eq_none.mpr fun j hj => by rw [h j (List.mem_range.mp hj)]; exact Bool.false_ne_true
theorem find_at {n i : Nat} {q : Nat → Bool} (h : ∀ j, j < i → q j = false) (hi : i < n) (hq : q i = true) : (List.range n).find? q = some i := by
 rw [List.find?_eq_some_iff_getElem]
 refine ⟨hq, i, by rw [List.length_range]; exact hi, by rw [List.getElem_range], fun j hj => ?_⟩
 rw [List.getElem_range, h j hj]
 rfl
theorem sc7 : FnScope ["poll", "candidate"] ["poll"] (defScope (top 7)) := ⟨rfl, rfl, rfl, by decide +kernel, rfl, by decide +kernel, by decide +kernel⟩
theorem ok_champion (T : Txt K mg c) (D : DefAt K mg "find_champion" (top 7) ["poll"]) (C : Callee P w K mg base "beats_each_other_one" 7 ["poll", "a"] (spOne c fun p a => .bl (champ p a))) :
  Callee P w K mg base "find_champion" 9 ["poll"] (spPoll c fun p => optV p.champion) := by
 refine D.ok sc7 (fun vs H Q E h => ?_) fun f cdv A outer s H vs Q E hr h => ?_
 ·obtain ⟨p, p', rfl, _⟩ := h
  rfl
 ·obtain ⟨p, p', rfl, hp, wf, k⟩ := h
  have hp0 := hp
  obtain ⟨l, dx, fs, as, h1, h2, h3, h4, h5⟩ := hp0
  refine ⟨_, pss_cons (ps_for PassesOwn.never rfl (pi_range1 rfl T.range (pa_cons (pe_fld (pv 0) rfl) pa_nil)) (pg_name (i := 1) sc7.nd rfl (Or.inl rfl))
   (pss_one (ps_if (pt_tru (pe_fn C (hr.mono (by decide)) (pa_cons (pv 0) (pa_cons (pv 1) pa_nil)))) (pss_one (ps_ret (pv 1))) pss_nil))) (pss_one (ps_ret pe_non)), ?_⟩
  refine ⟨_, rfl, p, c.poll, dx, fs, _, rfl, h1, T.poll.cl, T.poll.no _ (by decide +kernel), h2, _, rfl, by have := wf.hi; omega, by have := wf.hi; omega, for_range (lo := 0) (n := p'.size) (fun i σ H' => ∃ v : Option V, σ = [some (.ref p), v] ∧ Same H H' ∧ ∀ j, j < i → champ p' j = false) ⟨none, rfl, Same.refl _, fun j hj => absurd hj (Nat.not_lt_zero _)⟩ ?_ ?_⟩
  ·rintro i σ H' hi ⟨v, rfl, sm, no⟩
   have e : V.int (0 + (i : Int)) = natV i := by rw [Int.zero_add]; rfl
   rw [e]
   refine ⟨_, rfl, _, rfl, p, p', i, rfl, hp.mono sm, wf, fun H2 s2 => ⟨_, rfl, ?_⟩⟩
   cases q : champ p' i with
   | true =>
    refine iteT ⟨_, rfl, ?_⟩
    have e2 : optV p'.champion = natV i := by
     have : p'.champion = some i := find_at (q := fun a => champ p' a) no hi q
     rw [this]
     rfl
    have k2 : Q (optV p'.champion) H2 := k H2 (sm.trans s2)
    rw [e2] at k2
    exact k2
   | false =>
    refine iteF ⟨_, rfl, sm.trans s2, fun j hj => ?_⟩
    rcases Nat.lt_succ_iff_lt_or_eq.mp hj with z | z
    ·exact no j z
    ·rw [z]; exact q
  ·rintro σ H' ⟨v, rfl, sm, no⟩
   have e2 : optV p'.champion = .non := by
    have : p'.champion = none := find_none (q := fun a => champ p' a) no
    rw [this]
    rfl
   have k2 : Q (optV p'.champion) H' := k H' sm
   rw [e2] at k2
   exact k2
end
def firstsIn (bs : List Ballot) (a : Nat) : Nat := ((bs.filter fun b => b.order.head? == some a).map fun (b : Ballot) => b.many).foldr (fun x y => x + y) 0
theorem firsts_snoc : ∀ (bs : List Ballot) (b : Ballot) (a : Nat), firstsIn (bs ++ [b]) a = firstsIn bs a + (if b.order.head? = some a then b.many else 0)
 | [], b, a => by
  unfold firstsIn
  rw [List.nil_append, List.filter_cons]
  by_cases e : b.order.head? = some a
  ·rw [if_pos (by rw [e]; exact beq_self_eq_true _), if_pos e]
   simp
  ·rw [if_neg (fun z => e (eq_of_beq z)), if_neg e]
   rfl
 | x :: r, b, a => by
  have ih := firsts_snoc r b a
  unfold firstsIn at ih ⊢
  rw [List.cons_append, List.filter_cons, List.filter_cons]
  split
  ·rw [List.map_cons, List.foldr_cons, List.map_cons, List.foldr_cons, ih]
   omega
  ·exact ih
theorem set_map {n x : Nat} {g g' : Nat → V} (hx : x < n) (h1 : g' x = g' x) (h2 : ∀ a, a < n → a ≠ x → g' a = g a) : ((List.range n).map g).set x (g' x) = (List.range n).map g' := by
 refine List.ext_getElem? fun i => ?_
 rw [List.getElem?_set, List.getElem?_map, List.getElem?_map]
 by_cases e : x = i
 ·subst e
  rw [if_pos rfl, if_pos (by rw [List.length_map, List.length_range]; exact hx), List.getElem?_range hx]
  rfl
 ·rw [if_neg e]
  by_cases hi : i < n
  ·rw [List.getElem?_range hi]
   show some (g i) = some (g' i)
   rw [h2 i hi fun z => e z.symm]
  ·rw [List.getElem?_eq_none (by rw [List.length_range]; omega)]
   rfl
theorem ixN_nat {n x : Nat} (h : x < n) : ixN n ((x : Nat) : Int) = some x := by
 unfold ixN
 rw [if_pos (by omega), if_pos (by omega), Int.toNat_natCast]
section
variable {P : Program} {w : World} {K : PySem.W.Frag} {mg : Str → Option Value} {base : Heap} {c : Cs}
theorem sc2 : FnScope ["poll", "counts", "ballot"] ["poll"] (defScope (top 2)) := ⟨rfl, rfl, rfl, by decide +kernel, rfl, by decide +kernel, by decide +kernel⟩
theorem ok_firsts (T : Txt K mg c) (D : DefAt K mg "count_firsts" (top 2) ["poll"]) : Callee P w K mg base "count_firsts" 1 ["poll"] (spList c fun p => p.all.map p.firsts) := by
 refine D.ok sc2 (fun vs H Q E h => ?_) fun f cdv A outer s H vs Q E hr h => ?_
 ·obtain ⟨p, p', rfl, _⟩ := h
  rfl
 ·obtain ⟨p, p', rfl, ⟨l, dx, fs, as, h1, h2, h3, h4, h5⟩, wf, k⟩ := h
  refine ⟨_, pss_cons (ps_set (i := 1) sc2.nd rfl (Or.inl rfl) (pe_op op_rep (pe_lst (pa_cons pe_int pa_nil)) (pe_fld (pv 0) rfl)))
   (pss_cons (ps_for PassesOwn.never rfl (pi_list (pe_fld (pv 0) rfl)) (pg_name (i := 2) sc2.nd rfl (Or.inl rfl))
    (pss_one (ps_if (pt_cmpR op_gt (pe_callB call_len_seq rfl T.len PySem.boot_len (pa_cons (pe_fld (pv 2) rfl) pa_nil)) pe_int (nomark _))
     (pss_one (ps_augS (pv 1) (pe_ix ix_tup (pe_fld (pv 2) rfl) pe_int (fun _ _ => rfl)) get_list (pe_fld (pv 2) rfl) ip_add set_list)) pss_nil)))
   (pss_one (ps_ret (pv 1)))), ?_⟩
  refine ⟨(by show 1 ≤ sizeLine; decide), fun q0 hq0 => ?_⟩
  have m0 : Same H (upd H q0 (.lst [.int 0])) := same_new (Same.refl _) hq0
  have hi := wf.hi
  refine ⟨_, rfl, p, c.poll, dx, fs, _, rfl, m0 _ _ h1, T.poll.cl, T.poll.no _ (by decide +kernel), h2, q0, _, _, rfl, rfl, upd_same, by omega, by omega, ?_, fun q hq => ?_⟩
  ·rw [Int.toNat_natCast, List.length_singleton]
   exact small_size (by omega)
  have qn : H q = none := m0.free hq
  have m1 : Same H (upd (upd H q0 (.lst [.int 0])) q (.lst (List.replicate (Int.toNat (p'.size : Int)) [V.int 0]).flatten)) := same_new m0 qn
  have e0 : (List.replicate (Int.toNat (p'.size : Int)) [V.int 0]).flatten = (List.range p'.size).map fun a => natV (firstsIn [] a) := by
   rw [Int.toNat_natCast]
   clear m1 hq m0 hi k wf h5 h4 h3 h2 h1
   induction p'.size with
   | zero => rfl
   | succ n ih =>
    rw [List.replicate_succ', List.flatten_append, ih, List.range_succ, List.map_append]
    rfl
  refine ⟨_, rfl, p, c.poll, dx, fs, _, rfl, m1 _ _ h1, T.poll.cl, T.poll.no _ (by decide +kernel), h3, l, rfl, ⟨_, SqL.of (m1 _ _ h4)⟩, for_list (K := K) (a := l) (xs := as.map V.ref) (fun i σ H' => ∃ v : Option V, σ = [some (.ref p), some (.ref q), v] ∧ Same H H' ∧ H' q = some (.lst ((List.range p'.size).map fun a => natV (firstsIn (p'.ballots.take i) a))))
   ⟨none, rfl, m1, by rw [upd_same, e0]; rfl⟩ (fun i σ H' _ ⟨_, _, sm, _⟩ => SqL.of (sm _ _ h4)) ?_ ?_⟩
  ·rintro i x σ H' hx ⟨v, rfl, sm, hq'⟩
   obtain ⟨ad, bl, rfl, hb, dxb, fsb, tb, e1, e2, e3, e4⟩ := h5.get hx
   have hbm : bl ∈ p'.ballots := List.mem_of_getElem? hb
   have htake : p'.ballots.take (i + 1) = p'.ballots.take i ++ [bl] := by rw [List.take_add_one, hb]; rfl
   refine ⟨_, rfl, ad, c.bal, dxb, fsb, _, rfl, sm _ _ e1, T.bal.cl, T.bal.no _ (by decide +kernel), e3, tb, _, rfl, .inr (e4.mono sm).sq, _, _, rfl, rfl, _, rfl, ?_⟩
   match ho : bl.order with
   | [] =>
    rw [show decide ((0 : Int) < (((([] : List Nat).map natV).length : Nat) : Int)) = false by decide]
    refine iteF ⟨_, rfl, sm, ?_⟩
    rw [hq', htake]
    congr 2
    refine List.map_congr_left fun a _ => ?_
    rw [firsts_snoc, ho, if_neg (by simp)]
    rfl
   | x0 :: r0 =>
    have hx0 : x0 < p'.size := (wf.bal bl hbm).2.2 x0 (by rw [ho]; exact List.mem_cons_self)
    rw [ho] at e4
    rw [show decide ((0 : Int) < (((((x0 :: r0) : List Nat).map natV).length : Nat) : Int)) = true by rw [List.length_map, List.length_cons]; exact decide_eq_true (by omega)]
    refine iteT ⟨_, rfl, _, rfl, ad, c.bal, dxb, fsb, _, rfl, sm _ _ e1, T.bal.cl, T.bal.no _ (by decide +kernel), e3, tb, _, _, _, rfl, rfl, (e4.mono sm).sq, atI_nat (j := 0) (v := natV x0) rfl, q, _, _, natV (firstsIn (p'.ballots.take i) x0), rfl, rfl, SqL.of hq', atI_nat (by rw [List.getElem?_map, List.getElem?_range hx0]; rfl), _, rfl, ad, c.bal, dxb, fsb, _, rfl, sm _ _ e1, T.bal.cl, T.bal.no _ (by decide +kernel), e2, _, _, rfl, rfl, q, _, _, x0, rfl, rfl, hq', ixN_nat (by rw [List.length_map, List.length_range]; exact hx0), _, rfl, same_new sm qn, ?_⟩
    rw [upd_same, htake]
    congr 2
    have e5 : V.int ((firstsIn (p'.ballots.take i) x0 : Int) + (bl.many : Int)) = natV (firstsIn (p'.ballots.take i ++ [bl]) x0) := by
     rw [firsts_snoc, ho, if_pos (show (x0 :: r0).head? = some x0 from rfl)]
     show _ = V.int ((_ + _ : Nat) : Int)
     rw [Int.natCast_add]
    show ((List.range p'.size).map _).set x0 (V.int ((firstsIn (p'.ballots.take i) x0 : Int) + (bl.many : Int))) = _
    rw [e5]
    refine set_map (g' := fun a => natV (firstsIn (p'.ballots.take i ++ [bl]) a)) hx0 rfl fun a _ hne => ?_
    show natV _ = natV _
    rw [firsts_snoc, ho, if_neg (by simpa using fun z => hne z.symm)]
    rfl
  ·rintro σ H' ⟨v, rfl, sm, hq'⟩
   refine ⟨_, rfl, k H' q sm qn ?_⟩
   rw [hq', List.length_map, h5.len, List.take_length, List.map_map]
   rfl
end
structure Drawn (p : Poll) (k : Nat) (ms : List Nat) (seen j : Nat) : Prop where
 nd : ms.Nodup
 lt : ∀ m ∈ ms, m < p.size
 has : k ∈ ms
 min : ∀ t, PM.Dom p.beats p.size t → k ∈ t → ∀ m ∈ ms, m ∈ t
 old : ∀ (i x : Nat), i < seen → ms[i]? = some x → ∀ o, o < p.size → o ∉ ms → p.beats x o = true
 now : ∀ x : Nat, ms[seen]? = some x → ∀ o, o < j → o ∉ ms → p.beats x o = true
theorem Drawn.start {p : Poll} {k : Nat} (hk : k < p.size) : Drawn p k [k] 0 0 :=
 ⟨by simp, fun m hm => by rw [List.mem_singleton.mp hm]; exact hk, List.mem_singleton.mpr rfl, fun t _ h m hm => by rw [List.mem_singleton.mp hm]; exact h, fun i x h => absurd h (Nat.not_lt_zero _), fun x _ o h => absurd h (Nat.not_lt_zero _)⟩
theorem Drawn.len {p : Poll} {k : Nat} {ms : List Nat} {seen j : Nat} (D : Drawn p k ms seen j) : ms.length ≤ p.size := by
 have h := PM.len_le D.nd (t := List.range p.size) fun m hm => List.mem_range.mpr (D.lt m hm)
 rw [List.length_range] at h
 exact h
theorem Drawn.stay {p : Poll} {k : Nat} {ms : List Nat} {seen j x : Nat} (D : Drawn p k ms seen j) (hx : ms[seen]? = some x) (h : j ∈ ms ∨ p.beats x j = true) : Drawn p k ms seen (j + 1) :=
 ⟨D.nd, D.lt, D.has, D.min, D.old, fun y hy o ho hn => by
  rw [hx] at hy
  cases hy
  rcases Nat.lt_succ_iff_lt_or_eq.mp ho with z | z
  ·exact D.now x hx o z hn
  ·subst z
   exact h.resolve_left hn⟩
theorem Drawn.more {p : Poll} {k : Nat} {ms : List Nat} {seen j x : Nat} (D : Drawn p k ms seen j) (hx : ms[seen]? = some x) (hj : j < p.size) (h1 : j ∉ ms) (h2 : p.beats x j = false) : Drawn p k (ms ++ [j]) seen (j + 1) := by
 have hsl : seen < ms.length := (List.getElem?_eq_some_iff.mp hx).1
 refine ⟨?_, fun m hm => ?_, List.mem_append_left _ D.has, fun t dt kt m hm => ?_, fun i y hi hy o ho hn => ?_, fun y hy o ho hn => ?_⟩
 ·rw [List.nodup_append]
  exact ⟨D.nd, by simp, fun a ha b hb => by rw [List.mem_singleton.mp hb]; exact fun z => h1 (z ▸ ha)⟩
 ·rcases List.mem_append.mp hm with z | z
  ·exact D.lt m z
  ·rw [List.mem_singleton.mp z]; exact hj
 ·rcases List.mem_append.mp hm with z | z
  ·exact D.min t dt kt m z
  ·rw [List.mem_singleton.mp z]
   by_cases q : j ∈ t
   ·exact q
   ·have := dt x (D.min t dt kt x (List.mem_of_getElem? hx)) j hj q
    rw [h2] at this
    cases this
 ·rw [List.getElem?_append_left (by omega)] at hy
  exact D.old i y hi hy o ho fun z => hn (List.mem_append_left _ z)
 ·rw [List.getElem?_append_left hsl, hx] at hy
  cases hy
  have hn1 : o ∉ ms := fun z => hn (List.mem_append_left _ z)
  have hn2 : o ≠ j := fun z => hn (List.mem_append_right _ (by rw [z]; exact List.mem_singleton.mpr rfl))
  exact D.now x hx o (by omega) hn1
theorem Drawn.next {p : Poll} {k : Nat} {ms : List Nat} {seen : Nat} (D : Drawn p k ms seen p.size) : Drawn p k ms (seen + 1) 0 :=
 ⟨D.nd, D.lt, D.has, D.min, fun i x hi hx o ho hn => by
  rcases Nat.lt_succ_iff_lt_or_eq.mp hi with z | z
  ·exact D.old i x z hx o ho hn
  ·subst z
   exact D.now x hx o ho hn, fun x _ o h => absurd h (Nat.not_lt_zero _)⟩
theorem up_of_perm {l ns : List Nat} (hp : l.Perm ns) (nd : ns.Nodup) (h : l.Pairwise (· ≤ ·)) : l.Pairwise (· < ·) := by
 have nd' : l.Nodup := hp.nodup_iff.mpr nd
 rw [List.pairwise_iff_getElem] at h ⊢
 intro i j hi hj hij
 have h1 := h i j hi hj hij
 have h2 : l[i] ≠ l[j] := fun z => by
  have := (List.getElem_inj nd').mp z
  omega
 omega
theorem Drawn.least {p : Poll} {k : Nat} {ms l : List Nat} (D : Drawn p k ms ms.length 0) (hp : l.Perm ms) (h : l.Pairwise (· ≤ ·)) : PM.Least p.beats p.size k l := by
 refine ⟨up_of_perm hp D.nd h, fun m hm => D.lt m (hp.mem_iff.mp hm), hp.mem_iff.mpr D.has, fun a ha b hb hn => ?_, fun t dt kt m hm => D.min t dt kt m (hp.mem_iff.mp hm)⟩
 obtain ⟨i, hi⟩ := List.mem_iff_getElem?.mp (hp.mem_iff.mp ha)
 exact D.old i a (List.getElem?_eq_some_iff.mp hi).1 hi b hb fun z => hn (hp.mem_iff.mpr z)
theorem nats_of_ints {ns : List Int} {ms : List Nat} (h : ns.Perm (ms.map Int.ofNat)) : ∃ l : List Nat, ns = l.map Int.ofNat ∧ l.Perm ms := by
 obtain ⟨l, p, e⟩ := perm_map_inv h ms rfl
 exact ⟨l, e, p⟩
section
variable {P : Program} {w : World} {K : PySem.W.Frag} {mg : Str → Option Value} {base : Heap} {c : Cs}
def spLeast (c : Cs) : Sp := fun vs H Q _ => ∃ p p' k, vs = [.ref p, natV k] ∧ PollAt c H p p' ∧ WF p' ∧ k < p'.size ∧ ∀ H' l ms, Same H H' → H l = none → H' l = some (.lst (ms.map natV)) → PM.Least p'.beats p'.size k ms → Q (.ref l) H'
theorem sc8 : FnScope ["poll", "candidate", "members", "seen", "other"] ["poll", "candidate"] (defScope (top 8)) := ⟨rfl, rfl, rfl, by decide +kernel, rfl, by decide +kernel, by decide +kernel⟩
theorem ok_least (T : Txt K mg c) (D : DefAt K mg "least_set_with" (top 8) ["poll", "candidate"]) (C : Callee P w K mg base "beats" 5 ["poll", "a", "b"] (spTwo c fun p a b => .bl (p.beats a b))) : Callee P w K mg base "least_set_with" 7 ["poll", "candidate"] (spLeast c) := by
 refine D.ok sc8 (fun vs H Q E h => ?_) fun f cdv A outer s H vs Q E hr h => ?_
 ·obtain ⟨p, p', k, rfl, _⟩ := h
  rfl
 ·obtain ⟨p, p', cd, rfl, hp, wf, hcd, k⟩ := h
  have hp0 := hp
  obtain ⟨l, dx, fs, as, h1, h2, h3, h4, h5⟩ := hp0
  have hi8 := wf.hi
  refine ⟨_, pss_cons (ps_set (i := 2) sc8.nd rfl (Or.inl rfl) (pe_lst (pa_cons (pv 1) pa_nil)))
   (pss_cons (ps_set (i := 3) sc8.nd rfl (Or.inl rfl) pe_int)
   (pss_cons (ps_while PassesOwn.never (pt_cmpR op_lt (pv 3) (pe_callB call_len_seq rfl T.len PySem.boot_len (pa_cons (pv 2) pa_nil)) (nomark _))
    (pss_cons (ps_for PassesOwn.never rfl (pi_range1 rfl T.range (pa_cons (pe_fld (pv 0) rfl) pa_nil)) (pg_name (i := 4) sc8.nd rfl (Or.inl rfl))
     (pss_one (ps_if (pw_and (pt_cmpR op_notIn_seq (pv 4) (pv 2) rfl) (pw_and1 (pt_not (pt_tru (pe_fn C (hr.mono (by decide)) (pa_cons (pv 0) (pa_cons (pe_ix ix_list (pv 2) (pv 3) (fun _ _ => rfl)) (pa_cons (pv 4) pa_nil)))))))).pt
      (pss_one (ps_expr (pe_bm PySem.F.plainAttrs_list PySem.F.slot_list_append PySem.F.type_list_append mt_append (pv 2) (pa_cons (pv 4) pa_nil)))) pss_nil)))
    (pss_one (ps_aug (i := 3) sc8.nd rfl (Or.inl rfl) pe_int ip_add))))
   (pss_one (ps_ret (pe_callB cr_sorted rfl T.sorted boot_sorted (pa_cons (pv 2) pa_nil)))))), ?_⟩
  refine ⟨_, rfl, (by show 1 ≤ sizeLine; decide), fun q hq => ?_⟩
  have m0 : Same H (upd H q (.lst [natV cd])) := same_new (Same.refl _) hq
  refine ⟨fun m σ H' => ∃ (ms : List Nat) (seen : Nat) (v : Option V), m = p'.size - seen ∧ σ = [some (.ref p), some (natV cd), some (.ref q), some (natV seen), v] ∧ Same H H' ∧ H' q = some (.lst (ms.map natV)) ∧ Drawn p' cd ms seen 0 ∧ seen ≤ ms.length, ⟨_, [cd], 0, none, rfl, rfl, m0, upd_same, Drawn.start hcd, Nat.zero_le _⟩, ?_⟩
  rintro m σ H' ⟨ms, seen, v, rfl, rfl, sm, hq', dr, hsl⟩
  refine ⟨_, rfl, _, rfl, q, _, rfl, .inl (SqL.of hq'), _, _, rfl, rfl, _, rfl, ?_⟩
  rw [List.length_map]
  by_cases hlt : seen < ms.length
  ·rw [show decide (((seen : Nat) : Int) < ((ms.length : Nat) : Int)) = true from decide_eq_true (by omega)]
   have hms := dr.len
   obtain ⟨x, hx⟩ : ∃ x, ms[seen]? = some x := ⟨_, List.getElem?_eq_getElem hlt⟩
   refine iteT ⟨fun σ' H2 => ∃ (ms' : List Nat) (v : Option V), σ' = [some (.ref p), some (natV cd), some (.ref q), some (natV (seen + 1)), v] ∧ Same H H2 ∧ H2 q = some (.lst (ms'.map natV)) ∧ Drawn p' cd ms' (seen + 1) 0 ∧ seen + 1 ≤ ms'.length, ?_, ?_⟩
   ·rintro σ' H2 ⟨ms', v', rfl, s2, hq2, dr2, hl2⟩
    exact ⟨p'.size - (seen + 1), by omega, ms', seen + 1, v', rfl, rfl, s2, hq2, dr2, hl2⟩
   ·refine ⟨_, rfl, p, c.poll, dx, fs, _, rfl, sm _ _ h1, T.poll.cl, T.poll.no _ (by decide +kernel), h2, _, rfl, by omega, by omega, for_range (lo := 0) (n := p'.size) (fun j σ H2 => ∃ (ms' : List Nat) (v : Option V), σ = [some (.ref p), some (natV cd), some (.ref q), some (natV seen), v] ∧ Same H H2 ∧ H2 q = some (.lst (ms'.map natV)) ∧ Drawn p' cd ms' seen j ∧ ms'[seen]? = some x)
     ⟨ms, v, rfl, sm, hq', dr, hx⟩ ?_ ?_⟩
    ·rintro j σ H2 hj ⟨ms', v', rfl, s2, hq2, dr2, hx2⟩
     have e : V.int (0 + (j : Int)) = natV j := by rw [Int.zero_add]; rfl
     rw [e]
     have hlen2 := dr2.len
     refine ⟨_, rfl, _, rfl, q, _, rfl, .inl (SqL.of hq2), rfl, flat_nats ms', _, rfl, ?_⟩
     rw [if_pos rfl, in_nats]
     by_cases hin : j ∈ ms'
     ·rw [show ms'.contains j = true by simpa using hin]
      exact iteF (iteF ⟨ms', some (natV j), rfl, s2, hq2, dr2.stay hx2 (.inl hin), hx2⟩)
     ·rw [show ms'.contains j = false by simpa using hin]
      refine iteT ⟨_, rfl, _, rfl, _, rfl, q, _, _, _, rfl, rfl, SqL.of hq2, atI_nat (j := seen) (v := natV x) (by rw [List.getElem?_map, hx2]; rfl), _, rfl, p, p', x, j, rfl, hp.mono s2, wf, fun H3 s3 => ⟨_, rfl, ?_⟩⟩
      cases qb : p'.beats x j with
      | true => exact iteF ⟨ms', some (natV j), rfl, s2.trans s3, s3 _ _ hq2, dr2.stay hx2 (.inr qb), hx2⟩
      | false =>
       refine iteT ⟨_, rfl, .inl ⟨rfl, _, SqL.of (s3 _ _ hq2)⟩, _, rfl, q, _, _, rfl, rfl, s3 _ _ hq2, ?_, ms' ++ [j], some (natV j), rfl, same_new (s2.trans s3) hq, ?_, dr2.more hx2 hj hin qb, ?_⟩
       ·rw [List.length_map]
        exact small1000 (by omega)
       ·rw [upd_same, List.map_append]
        rfl
       ·rw [List.getElem?_append_left (List.getElem?_eq_some_iff.mp hx2).1]
        exact hx2
    ·rintro σ H2 ⟨ms', v', rfl, s2, hq2, dr2, hx2⟩
     refine ⟨_, rfl, _, _, rfl, rfl, ms', v', ?_, s2, hq2, dr2.next, (List.getElem?_eq_some_iff.mp hx2).1⟩
     show [_, _, _, some (V.int ((seen : Int) + 1)), v'] = [_, _, _, some (V.int (((seen + 1 : Nat)) : Int)), v']
     rw [Int.natCast_add]
     rfl
  ·rw [show decide (((seen : Nat) : Int) < ((ms.length : Nat) : Int)) = false from decide_eq_false (by omega)]
   have hs2 : seen = ms.length := by omega
   subst hs2
   have hms := dr.len
   refine iteF ⟨_, rfl, q, ms.map Int.ofNat, rfl, SqL.of (by rw [← natV_ints]; exact hq'), by rw [List.length_map]; omega, fun ns' pl hpm hpw hpl => ?_⟩
   obtain ⟨ls, rfl, hp2⟩ := nats_of_ints hpm
   have hpw2 : ls.Pairwise (· ≤ ·) := by
    rw [List.pairwise_map] at hpw
    exact hpw.imp fun h => Int.ofNat_le.mp h
   exact k _ pl ls (same_new sm (sm.free hpl)) (sm.free hpl) (by rw [upd_same, natV_ints]) (dr.least hp2 hpw2)
end
def GPv (H1 : Hp) (D : Addr) (G : Nat → HO → Prop) (i : Nat) (H : Hp) : Prop := ∃ as : List Addr, Same H1 H ∧ H D = some (.lst (as.map V.ref)) ∧ as.length = i ∧ as.Nodup ∧ D ∉ as ∧ (∀ a ∈ as, H1 a = none) ∧ ∀ (j : Nat) (a : Addr), as[j]? = some a → ∃ o, H a = some o ∧ G j o
theorem lcG {g : TG} {te : TE} {vs : List Nat} {σ : L2.St} {H1 : Hp} {D : Addr} {Qd : Hp → Prop} {n : Nat} (G : Nat → HO → Prop) (hD : H1 D = none) (hlen : n ≤ 100000)
  (hs : ∀ (i : Nat) (H : Hp), i < n → Same H1 H → ∀ R : V → Hp → Prop, (∀ l o H4, Same H H4 → H l = none → H4 l = some o → G i o → R (.ref l) H4) → g (natV i) (wipe σ vs) H fun σ2 H2 => wipe σ2 vs = wipe σ vs ∧ te σ2 H2 R)
  (mono : ∀ (i : Nat) (H : Hp) (Q Q' : L2.St → Hp → Prop), (∀ a b, Q a b → Q' a b) → g (natV i) (wipe σ vs) H Q → g (natV i) (wipe σ vs) H Q')
  (hd : ∀ (H : Hp) (as : List Addr), Same H1 H → H D = some (.lst (as.map V.ref)) → as.length = n → as.Nodup → D ∉ as → (∀ a ∈ as, H1 a = none) → (∀ (j : Nat) (a : Addr), as[j]? = some a → ∃ o, H a = some o ∧ G j o) → Qd H) :
  ∃ W : Nat → Nat → Hp → Prop, (∃ m, W 0 m (upd H1 D (.lst []))) ∧ ∀ i m H, W i m H →
   ((Itr 0 n).stop i H ∧ Qd H) ∨ ((Itr 0 n).go i H ∧ ∃ Nx : Hp → Prop, (∀ H', Nx H' → ∃ m', m' < m ∧ W (i + 1) m' H') ∧ ∀ x H', (Itr 0 n).yld i H x H' → g x (wipe σ vs) H' fun σ2 H2 => wipe σ2 vs = wipe σ vs ∧ tYes σ2 H2 fun b H3 =>
    if b = true then te σ2 H3 fun y H4 => ∃ acc, H4 D = some (.lst acc) ∧ acc.length < sizeLine ∧ Nx (upd H4 D (.lst (acc ++ [y]))) else Nx H3) := by
 refine lc_range (GPv H1 D G)
  ⟨[], same_new (Same.refl _) hD, upd_same, rfl, by simp, by simp, fun a ha => absurd ha (by simp), fun j a ha => absurd ha (by simp)⟩ (fun i H hi p => ?_) fun H p => ?_
 ·obtain ⟨as, sm, hDa, hl, nd, nD, fr, ob⟩ := p
  have e : V.int (0 + (i : Int)) = natV i := by rw [Int.zero_add]; rfl
  rw [e]
  refine mono i H _ _ (fun σ2 H2 q => ⟨q.1, by unfold tYes; exact iteT q.2⟩) (hs i H hi sm (fun y H4 => ∃ acc, H4 D = some (.lst acc) ∧ acc.length < sizeLine ∧ GPv H1 D G (i + 1) (upd H4 D (.lst (acc ++ [y])))) fun l o H4 s4 hl4 ho hG => ⟨_, s4 _ _ hDa, ?_, as ++ [l], same_new (sm.trans s4) hD, ?_, ?_, ?_, ?_, ?_, ?_⟩)
  ·rw [List.length_map, sizeLine_eq]
   omega
  ·rw [upd_same, List.map_append]
   rfl
  ·rw [List.length_append, hl]
   rfl
  ·rw [List.nodup_append]
   refine ⟨nd, by simp, fun a ha b hb => ?_⟩
   rw [List.mem_singleton.mp hb]
   obtain ⟨j, hj⟩ := List.mem_iff_getElem?.mp ha
   obtain ⟨o', ho', _⟩ := ob j a hj
   exact ne_of_none ho' hl4
  ·intro z
   rcases List.mem_append.mp z with z | z
   ·exact nD z
   ·rw [← List.mem_singleton.mp z, hDa] at hl4
    cases hl4
  ·intro a ha
   rcases List.mem_append.mp ha with z | z
   ·exact fr a z
   ·rw [List.mem_singleton.mp z]
    exact sm.free hl4
  ·intro j a ha
   rw [List.getElem?_append] at ha
   split at ha
   ·obtain ⟨o', ho', g'⟩ := ob j a ha
    refine ⟨o', ?_, g'⟩
    have : a ≠ D := fun z => nD (z ▸ List.mem_of_getElem? ha)
    rw [upd_ne this]
    exact s4 _ _ ho'
   ·rename_i hj
    have e2 : j = as.length := by
     have := (List.getElem?_eq_some_iff.mp ha).1
     simp at this
     omega
    rw [e2, Nat.sub_self] at ha
    have e3 : l = a := Option.some.inj ha
    subst e3
    refine ⟨o, ?_, by rw [e2, hl]; exact hG⟩
    have : l ≠ D := fun z => by
     rw [z, hDa] at hl4
     cases hl4
    rw [upd_ne this]
    exact ho
 ·obtain ⟨as, sm, hDa, hl, nd, nD, fr, ob⟩ := p
  exact hd H as sm hDa hl nd nD fr ob
theorem gName_mono {i : Nat} {x : V} {σ : L2.St} {H : Hp} {Q Q' : L2.St → Hp → Prop} (h : ∀ a b, Q a b → Q' a b) (q : gName i x σ H Q) : gName i x σ H Q' := h _ _ q
section
variable {P : Program} {w : World} {K : PySem.W.Frag} {mg : Str → Option Value} {base : Heap} {c : Cs}
theorem choose_list {as : List Addr} {H : Hp} {G : Nat → List Nat → Prop} (h : ∀ (j : Nat) (a : Addr), as[j]? = some a → ∃ o, H a = some o ∧ ∃ ms : List Nat, o = .lst (ms.map natV) ∧ G j ms) :
  ∃ ls : List (List Nat), ls.length = as.length ∧ ∀ (j : Nat) (a : Addr), as[j]? = some a → ∃ ms, ls[j]? = some ms ∧ H a = some (.lst (ms.map natV)) ∧ G j ms := by
 induction as generalizing G with
 | nil => exact ⟨[], rfl, fun j a ha => absurd ha (by simp)⟩
 | cons a r ih =>
  obtain ⟨o, ho, ms, e, g⟩ := h 0 a rfl
  obtain ⟨ls, hl, hls⟩ := ih (G := fun j => G (j + 1)) fun j b hb => h (j + 1) b hb
  refine ⟨ms :: ls, by rw [List.length_cons, List.length_cons, hl], fun j b hb => ?_⟩
  match j, hb with
  | 0, hb =>
   have : a = b := Option.some.inj hb
   subst this
   exact ⟨ms, rfl, by rw [ho, e], g⟩
  | j + 1, hb => exact hls j b hb
theorem sc9 : FnScope ["poll", "candidate"] ["poll"] (defScope (top 9)) := ⟨rfl, rfl, rfl, by decide +kernel, rfl, by decide +kernel, by decide +kernel⟩
theorem ok_top (T : Txt K mg c) (D : DefAt K mg "find_least_set" (top 9) ["poll"]) (C : Callee P w K mg base "least_set_with" 7 ["poll", "candidate"] (spLeast c)) : Callee P w K mg base "find_least_set" 9 ["poll"] (spList c fun p => p.top) := by
 refine D.ok sc9 (fun vs H Q E h => ?_) fun f cdv A outer s H vs Q E hr h => ?_
 ·obtain ⟨p, p', rfl, _⟩ := h
  rfl
 ·obtain ⟨p, p', rfl, hp, wf, k⟩ := h
  have hp0 := hp
  obtain ⟨l, dx, fs, as0, h1, h2, h3, h4, h5⟩ := hp0
  have hi8 := wf.hi
  have lo2 := wf.lo
  refine ⟨_, pss_one (ps_ret (pe_minLen rfl (pa_cons (pe_lc (own := [("candidate", 1)]) (g := gName 1) (tt := tYes) (te := tCall (spLeast c) [] E0 (tCons (tVar 0) (tCons (tVar 1) tNil))) rfl sc9.nd (pi_range1 rfl T.range (pa_cons (pe_fld (pv 0) rfl) pa_nil))
   (blkOk_by (N := ["poll", "candidate"]) (sc := defScope (top 9)) (by decide +kernel)) (fun _ _ _ _ _ => pg_name (i := 1) sc9.nd rfl (Or.inl rfl)) (fun _ _ _ _ _ => pts_nil) (fun _ _ _ _ _ => pe_fn C (hr.mono (by decide)) (pa_cons (pv 0) (pa_cons (pv 1) pa_nil)))) pa_nil) rfl T.min rfl T.len)), ?_⟩
  refine ⟨_, rfl, p, c.poll, dx, fs, _, rfl, h1, T.poll.cl, T.poll.no _ (by decide +kernel), h2, _, rfl, by omega, by omega, fun D hD => lcG (n := p'.size) (fun i o => ∃ ms : List Nat, o = .lst (ms.map natV) ∧ PM.Least p'.beats p'.size i ms) hD (by omega) (fun i H' hi sm R hR => ?_) (fun i H' Q1 Q2 h q => gName_mono h q) fun H' as sm hD' hl nd nD fr ob => ?_⟩
  ·exact ⟨rfl, _, rfl, _, rfl, p, p', i, rfl, hp.mono sm, wf, hi, fun H2 l2 ms s2 n2 e2 L => hR l2 _ H2 s2 n2 e2 ⟨ms, rfl, L⟩⟩
  ·obtain ⟨ls, hll, hls⟩ := choose_list ob
   have hn : ls.length = p'.size := by omega
   refine ⟨D, (as.zip ls).map fun q => (q.1, q.2.map natV), rfl, SqL.of (by
    rw [hD', List.map_map]
    congr 2
    rw [show (fun q : Addr × List V => V.ref q.1) ∘ (fun q : Addr × List Nat => (q.1, q.2.map natV)) = fun q => V.ref q.1 from rfl]
    rw [← List.map_fst_zip (l₁ := as) (l₂ := ls) (by omega), List.map_map]
    rw [List.map_fst_zip (by omega)]
    rfl), fun q hq => ?_, by rw [List.length_map, List.length_zip]; omega, fun i q hq hbest => ?_⟩
   ·obtain ⟨q0, hq0, rfl⟩ := List.mem_map.mp hq
    obtain ⟨j, hj⟩ := List.mem_iff_getElem?.mp hq0
    obtain ⟨ha, hb⟩ := List.getElem?_zip_eq_some.mp hj
    obtain ⟨ms, e1, e2, _⟩ := hls j _ ha
    rw [hb] at e1
    cases e1
    exact SqL.of e2
   ·rw [List.getElem?_map] at hq
    cases hz : (as.zip ls)[i]? with
    | none =>
     rw [hz] at hq
     cases hq
    | some q0 =>
     rw [hz] at hq
     cases hq
     obtain ⟨ha, hb⟩ := List.getElem?_zip_eq_some.mp hz
     obtain ⟨ms, e1, e2, L⟩ := hls i _ ha
     rw [hb] at e1
     cases e1
     have hi : i < p'.size := by
      have := (List.getElem?_eq_some_iff.mp hb).1
      omega
     have at_ : ∀ j, j < p'.size → ∃ a ms, as[j]? = some a ∧ ls[j]? = some ms ∧ PM.Least p'.beats p'.size j ms := fun j hj => by
      obtain ⟨ms, m1, m2, m3⟩ := hls j as[j] (List.getElem?_eq_getElem (by omega))
      exact ⟨_, ms, List.getElem?_eq_getElem (by omega), m1, m3⟩
     have et : p'.top = q0.2 := by
      have z := PM.top_eq (p := p') (L := fun j => (ls[j]?).getD []) (c := i) (fun j hj => by
       obtain ⟨a, ms, _, m1, m2⟩ := at_ j hj
       show PM.Least _ _ _ ((ls[j]?).getD [])
       rw [m1]
       exact m2) hi (fun j hj => by
       obtain ⟨a, ms, m0, m1, m2⟩ := at_ j hj
       show ((ls[i]?).getD []).length ≤ ((ls[j]?).getD []).length
       rw [hb, m1]
       have hz2 : (as.zip ls)[j]? = some (a, ms) := List.getElem?_zip_eq_some.mpr ⟨m0, m1⟩
       have := (hbest j (a, ms.map natV) (by rw [List.getElem?_map, hz2]; rfl)).1
       simpa using this)
      have z' : p'.top = (ls[i]?).getD [] := z
      rw [hb] at z'
      exact z'
     refine k H' q0.1 sm (fr _ (List.mem_of_getElem? ha)) ?_
     show H' q0.1 = some (.lst (p'.top.map natV))
     rw [e2, et]
end
theorem fm_some {α : Type} {g : α → V} : ∀ l : List α, l.filterMap (fun i => some (g i)) = l.map g
 | [] => rfl
 | a :: l => by rw [List.filterMap_cons, List.map_cons, fm_some l]
def tK (k : Nat) (f : Nat → Nat → Nat) : Nat → Nat → Nat := fun x y => most (f x y) (least (f x k) (f k y))
def mat (n : Nat) (f : Nat → Nat → Nat) : Strengths := (List.range n).map fun a => (List.range n).map fun b => f a b
theorem getD_range {α : Type} {n i : Nat} {g : Nat → α} {d : α} (h : i < n) : ((List.range n).map g).getD i d = g i := by
 rw [List.getD_eq_getElem?_getD, List.getElem?_map, List.getElem?_range h]
 rfl
theorem at_mat {n a b : Nat} {f : Nat → Nat → Nat} (ha : a < n) (hb : b < n) : at_ (mat n f) a b = f a b := by
 unfold at_ mat
 rw [getD_range ha, getD_range hb]
theorem through_mat {n k : Nat} {f : Nat → Nat → Nat} (hk : k < n) : through n k (mat n f) = mat n (tK k f) := by
 unfold through
 conv => rhs; unfold mat
 refine List.map_congr_left fun a ha => List.map_congr_left fun b hb => ?_
 rw [at_mat (List.mem_range.mp ha) (List.mem_range.mp hb), at_mat (List.mem_range.mp ha) hk, at_mat hk (List.mem_range.mp hb)]
 rfl
def fwN (f : Nat → Nat → Nat) : Nat → Nat → Nat → Nat
 | 0 => f
 | k + 1 => tK k (fwN f k)
theorem fold_mat {n : Nat} {f : Nat → Nat → Nat} : ∀ k, k ≤ n → (List.range k).foldl (fun (m : Strengths) (k : Nat) => through n k m) (mat n f) = mat n (fwN f k)
 | 0, _ => rfl
 | k + 1, h => by
  rw [List.range_succ, List.foldl_append, fold_mat k (by omega)]
  show through n k (mat n (fwN f k)) = _
  rw [through_mat (by omega)]
  rfl
theorem paths_mat (p : Poll) : p.paths = mat p.size (fwN p.link p.size) := fold_mat p.size (Nat.le_refl _)
theorem tK_row (k : Nat) (f : Nat → Nat → Nat) (x : Nat) : tK k f x k = f x k := by
 unfold tK most least
 by_cases h : f x k ≤ f k k
 ·rw [if_pos h]
  split <;> rfl
 ·rw [if_neg h, if_neg h]
theorem tK_col (k : Nat) (f : Nat → Nat → Nat) (y : Nat) : tK k f k y = f k y := by
 unfold tK most least
 by_cases h : f k k ≤ f k y
 ·rw [if_pos h]
  by_cases h2 : f k y ≤ f k k
  ·rw [if_pos h2]
   omega
  ·rw [if_neg h2]
 ·rw [if_neg h]
  split <;> rfl
def cur (k a b : Nat) (f : Nat → Nat → Nat) : Nat → Nat → Nat := fun x y => if x < a ∨ (x = a ∧ y < b) then tK k f x y else f x y
theorem cur_row (k a b : Nat) (f : Nat → Nat → Nat) (x : Nat) : cur k a b f x k = f x k := by
 unfold cur
 split
 ·exact tK_row k f x
 ·rfl
theorem cur_col (k a b : Nat) (f : Nat → Nat → Nat) (y : Nat) : cur k a b f k y = f k y := by
 unfold cur
 split
 ·exact tK_col k f y
 ·rfl
theorem cur_here (k a b : Nat) (f : Nat → Nat → Nat) : cur k a b f a b = f a b := by
 unfold cur
 rw [if_neg (by omega)]
structure RowsAt (H : Hp) (S : Addr) (as : List Addr) (n : Nat) (f : Nat → Nat → Nat) : Prop where
 lst : H S = some (.lst (as.map V.ref))
 len : as.length = n
 nd : as.Nodup
 nS : S ∉ as
 row : ∀ (x : Nat) (a : Addr), as[x]? = some a → H a = some (.lst ((List.range n).map fun y => natV (f x y)))
theorem RowsAt.mono {H H' : Hp} {S : Addr} {as : List Addr} {n : Nat} {f : Nat → Nat → Nat} (R : RowsAt H S as n f) (s : Same H H') : RowsAt H' S as n f := ⟨s _ _ R.lst, R.len, R.nd, R.nS, fun x a h => s _ _ (R.row x a h)⟩
theorem RowsAt.congr {H : Hp} {S : Addr} {as : List Addr} {n : Nat} {f g : Nat → Nat → Nat} (R : RowsAt H S as n f) (h : ∀ x y, x < n → y < n → f x y = g x y) : RowsAt H S as n g :=
 ⟨R.lst, R.len, R.nd, R.nS, fun x a e => by
  rw [R.row x a e]
  congr 2
  refine List.map_congr_left fun y hy => ?_
  have hx : x < n := by
   rw [← R.len]
   exact (List.getElem?_eq_some_iff.mp e).1
  rw [h x y hx (List.mem_range.mp hy)]⟩
theorem RowsAt.get {H : Hp} {S : Addr} {as : List Addr} {n : Nat} {f : Nat → Nat → Nat} (R : RowsAt H S as n f) {x : Nat} (hx : x < n) : ∃ a, as[x]? = some a ∧ H a = some (.lst ((List.range n).map fun y => natV (f x y))) := by
 have hx' : x < as.length := by rw [R.len]; exact hx
 exact ⟨as[x], List.getElem?_eq_getElem hx', R.row x _ (List.getElem?_eq_getElem hx')⟩
theorem RowsAt.put {H : Hp} {S r : Addr} {as : List Addr} {n k a b : Nat} {f : Nat → Nat → Nat} (R : RowsAt H S as n (cur k a b f)) (hr : as[a]? = some r) (hb : b < n) :
  RowsAt (upd H r (.lst (((List.range n).map fun y => natV (cur k a b f a y)).set b (natV (tK k f a b))))) S as n (cur k a (b + 1) f) := by
 have hrm : r ∈ as := List.mem_of_getElem? hr
 refine ⟨by rw [upd_ne (fun z : S = r => R.nS (by rw [z]; exact hrm))]; exact R.lst, R.len, R.nd, R.nS, fun x d hd => ?_⟩
 by_cases e : d = r
 ·subst e
  have ex : x = a := nd_ix R.nd hd hr
  subst ex
  rw [upd_same]
  congr 2
  have e1 : natV (tK k f x b) = (fun y => natV (cur k x (b + 1) f x y)) b := by
   show _ = natV (cur k x (b + 1) f x b)
   unfold cur
   rw [if_pos (by omega)]
  rw [e1]
  refine set_map (g' := fun y => natV (cur k x (b + 1) f x y)) hb rfl fun y _ hy => ?_
  show natV (cur k x (b + 1) f x y) = natV (cur k x b f x y)
  unfold cur
  by_cases h1 : y < b
  ·rw [if_pos (by omega), if_pos (by omega)]
  ·rw [if_neg (by omega), if_neg (by omega)]
 ·rw [upd_ne e, R.row x d hd]
  congr 2
  refine List.map_congr_left fun y _ => ?_
  have hx : x ≠ a := fun z => e (by
   rw [z, hr] at hd
   exact (Option.some.inj hd).symm)
  show natV (cur k a b f x y) = natV (cur k a (b + 1) f x y)
  unfold cur
  by_cases h1 : x < a
  ·rw [if_pos (by omega), if_pos (by omega)]
  ·rw [if_neg (by omega), if_neg (by omega)]
section
variable {P : Program} {w : World} {K : PySem.W.Frag} {mg : Str → Option Value} {base : Heap} {c : Cs}
theorem sc11 : FnScope ["poll", "a", "b"] ["poll", "a", "b"] (defScope (top 11)) := ⟨rfl, rfl, rfl, by decide +kernel, rfl, by decide +kernel, by decide +kernel⟩
theorem ok_step (D : DefAt K mg "find_step_strength" (top 11) ["poll", "a", "b"]) (C1 : Callee P w K mg base "beats" 5 ["poll", "a", "b"] (spTwo c fun p a b => .bl (p.beats a b))) (C2 : Callee P w K mg base "count_preferring" 3 ["poll", "a", "b"] (spTwo c fun p a b => natV (p.pair a b))) :
  Callee P w K mg base "find_step_strength" 7 ["poll", "a", "b"] (spTwo c fun p a b => natV (p.link a b)) := by
 refine D.ok sc11 (fun vs H Q E h => ?_) fun f cdv A outer s H vs Q E hr h => ?_
 ·obtain ⟨p, p', a, b, rfl, _⟩ := h
  rfl
 ·obtain ⟨p, p', a, b, rfl, hp, wf, k⟩ := h
  refine ⟨_, pss_cons (ps_if (pt_not (pt_tru (pe_fn C1 (hr.mono (by decide)) (pa_cons (pv 0) (pa_cons (pv 1) (pa_cons (pv 2) pa_nil)))))) (pss_one (ps_ret pe_int)) pss_nil)
   (pss_one (ps_ret (pe_fn C2 (hr.mono (by decide)) (pa_cons (pv 0) (pa_cons (pv 1) (pa_cons (pv 2) pa_nil)))))), ?_⟩
  refine ⟨_, rfl, _, rfl, _, rfl, p, p', a, b, rfl, hp, wf, fun H1 s1 => ⟨_, rfl, ?_⟩⟩
  have k' : ∀ H', Same H H' → Q (natV (p'.link a b)) H' := k
  unfold Poll.link at k'
  cases q : p'.beats a b with
  | true =>
   rw [q, if_pos rfl] at k'
   exact iteF ⟨_, rfl, _, rfl, _, rfl, p, p', a, b, rfl, hp.mono s1, wf, fun H2 s2 => k' H2 (s1.trans s2)⟩
  | false =>
   rw [q, if_neg Bool.false_ne_true] at k'
   exact iteT (k' H1 s1)
def spRow (c : Cs) : Sp := fun vs H Q _ => ∃ p p' a, vs = [.ref p, natV a] ∧ PollAt c H p p' ∧ WF p' ∧ ∀ H' l, Same H H' → H l = none → H' l = some (.lst ((List.range p'.size).map fun b => natV (p'.link a b))) → Q (.ref l) H'
theorem sc12 : FnScope ["poll", "a", "b"] ["poll", "a"] (defScope (top 12)) := ⟨rfl, rfl, rfl, by decide +kernel, rfl, by decide +kernel, by decide +kernel⟩
theorem ok_steps (T : Txt K mg c) (D : DefAt K mg "find_step_strengths" (top 12) ["poll", "a"]) (C : Callee P w K mg base "find_step_strength" 7 ["poll", "a", "b"] (spTwo c fun p a b => natV (p.link a b))) :
  Callee P w K mg base "find_step_strengths" 9 ["poll", "a"] (spRow c) := by
 refine D.ok sc12 (fun vs H Q E h => ?_) fun f cdv A outer s H vs Q E hr h => ?_
 ·obtain ⟨p, p', a, rfl, _⟩ := h
  rfl
 ·obtain ⟨p, p', a, rfl, hp, wf, k⟩ := h
  have hp0 := hp
  obtain ⟨l, dx, fs, as0, h1, h2, h3, h4, h5⟩ := hp0
  have hi8 := wf.hi
  refine ⟨_, pss_one (ps_ret (pe_lc (own := [("b", 2)]) (g := gName 2) (tt := tYes) (te := tCall (spTwo c fun p a b => natV (p.link a b)) [] E0 (tCons (tVar 0) (tCons (tVar 1) (tCons (tVar 2) tNil)))) rfl sc12.nd (pi_range1 rfl T.range (pa_cons (pe_fld (pv 0) rfl) pa_nil))
   (blkOk_by (N := ["poll", "a", "b"]) (sc := defScope (top 12)) (by decide +kernel)) (fun _ _ _ _ _ => pg_name (i := 2) sc12.nd rfl (Or.inl rfl)) (fun _ _ _ _ _ => pts_nil) (fun _ _ _ _ _ => pe_fn C (hr.mono (by decide)) (pa_cons (pv 0) (pa_cons (pv 1) (pa_cons (pv 2) pa_nil)))))), ?_⟩
  refine ⟨_, rfl, p, c.poll, dx, fs, _, rfl, h1, T.poll.cl, T.poll.no _ (by decide +kernel), h2, _, rfl, by omega, by omega, fun D hD => lcR (n := p'.size) (fun i => some (natV (p'.link a i))) hD (by omega) (fun i H' hi sm R R' hR hR' => ?_) fun H' sm hD' => ?_⟩
  ·exact ⟨rfl, _, rfl, _, rfl, _, rfl, p, p', a, i, rfl, hp.mono sm, wf, fun H2 s2 => hR _ _ rfl s2⟩
  ·rw [fm_some] at hD'
   exact k H' D sm hD hD'
end
theorem min_nat (x y : Nat) : V.int (if ((y : Nat) : Int) < ((x : Nat) : Int) then ((y : Nat) : Int) else ((x : Nat) : Int)) = natV (least x y) := by
 unfold natV least
 by_cases h : x ≤ y
 ·rw [if_neg (by omega), if_pos h]
 ·rw [if_pos (by omega), if_neg h]
theorem max_nat (x y : Nat) : V.int (if ((y : Nat) : Int) > ((x : Nat) : Int) then ((y : Nat) : Int) else ((x : Nat) : Int)) = natV (most x y) := by
 unfold natV most
 by_cases h : x ≤ y
 ·rw [if_pos h]
  by_cases h2 : ((y : Nat) : Int) > ((x : Nat) : Int)
  ·rw [if_pos h2]
  ·rw [if_neg h2]
   congr 1
   omega
 ·rw [if_neg (by omega), if_neg h]
theorem at_row {n y : Nat} {g : Nat → V} (h : y < n) : atI ((List.range n).map g) ((y : Nat) : Int) = some (g y) := atI_nat (by rw [List.getElem?_map, List.getElem?_range h]; rfl)
section
variable {P : Program} {w : World} {K : PySem.W.Frag} {mg : Str → Option Value} {base : Heap} {c : Cs}
def spStr (c : Cs) : Sp := fun vs H Q _ => ∃ p p', vs = [.ref p] ∧ PollAt c H p p' ∧ WF p' ∧ ∀ H' S as, Same H H' → H S = none → RowsAt H' S as p'.size (fun a b => at_ p'.paths a b) → Q (.ref S) H'
theorem RowsAt.get' {H : Hp} {S : Addr} {as : List Addr} {n : Nat} {f : Nat → Nat → Nat} (R : RowsAt H S as n f) {x : Nat} (hx : x < n) : ∃ a, (as.map V.ref)[x]? = some (.ref a) ∧ as[x]? = some a ∧ H a = some (.lst ((List.range n).map fun y => natV (f x y))) := by
 obtain ⟨a, h1, h2⟩ := R.get hx
 exact ⟨a, by rw [List.getElem?_map, h1]; rfl, h1, h2⟩
theorem sc13 : FnScope ["poll", "strengths", "middle", "a", "b", "through"] ["poll"] (defScope (top 13)) := ⟨rfl, rfl, rfl, by decide +kernel, rfl, by decide +kernel, by decide +kernel⟩
theorem ok_strengths (T : Txt K mg c) (D : DefAt K mg "find_strengths" (top 13) ["poll"]) (C : Callee P w K mg base "find_step_strengths" 9 ["poll", "a"] (spRow c)) : Callee P w K mg base "find_strengths" 11 ["poll"] (spStr c) := by
 refine D.ok sc13 (fun vs H Q E h => ?_) fun f cdv A outer s H vs Q E hr h => ?_
 ·obtain ⟨p, p', rfl, _⟩ := h
  rfl
 ·obtain ⟨p, p', rfl, hp, wf, k⟩ := h
  have hp0 := hp
  obtain ⟨l, dx, fs, as0, h1, h2, h3, h4, h5⟩ := hp0
  have hi8 := wf.hi
  refine ⟨_, pss_cons (ps_setLc (i := 1) (own := [("a", 3)]) (g := gName 3) (tt := tYes) (te := tCall (spRow c) [] E0 (tCons (tVar 0) (tCons (tVar 3) tNil))) rfl sc13.nd rfl rfl (sw_true rfl rfl rfl (by decide +kernel)) (pi_range1 rfl T.range (pa_cons (pe_fld (pv 0) rfl) pa_nil))
    (blkOk_by (N := ["poll", "strengths", "middle", "a", "b", "through"]) (sc := defScope (top 13)) (by decide +kernel)) (fun _ _ _ _ _ => pg_name (i := 3) sc13.nd rfl (Or.inl rfl)) (fun _ _ _ _ _ => pts_nil) (fun _ _ _ _ _ => pe_fn C (hr.mono (by decide)) (pa_cons (pv 0) (pa_cons (pv 3) pa_nil))))
   (pss_cons (ps_for PassesOwn.never rfl (pi_range1 rfl T.range (pa_cons (pe_fld (pv 0) rfl) pa_nil)) (pg_name (i := 2) sc13.nd rfl (Or.inl rfl))
    (pss_one (ps_for PassesOwn.never rfl (pi_range1 rfl T.range (pa_cons (pe_fld (pv 0) rfl) pa_nil)) (pg_name (i := 3) sc13.nd rfl (Or.inl rfl))
     (pss_one (ps_for PassesOwn.never rfl (pi_range1 rfl T.range (pa_cons (pe_fld (pv 0) rfl) pa_nil)) (pg_name (i := 4) sc13.nd rfl (Or.inl rfl))
      (pss_cons (ps_set (i := 5) sc13.nd rfl (Or.inl rfl) (pe_callB (call_min2 rfl) rfl T.min boot_min (pa_cons (pe_ix ix_list (pe_ix ix_list (pv 1) (pv 3) (fun _ _ => rfl)) (pv 2) (fun _ _ => rfl)) (pa_cons (pe_ix ix_list (pe_ix ix_list (pv 1) (pv 2) (fun _ _ => rfl)) (pv 4) (fun _ _ => rfl)) pa_nil))))
      (pss_one (ps_asg (pe_callB (call_max2 rfl) rfl T.max boot_max (pa_cons (pe_ix ix_list (pe_ix ix_list (pv 1) (pv 3) (fun _ _ => rfl)) (pv 4) (fun _ _ => rfl)) (pa_cons (pv 5) pa_nil))) (pg_sub (pe_ix ix_list (pv 1) (pv 3) (fun _ _ => rfl)) (pv 4) set_list)))))))))
   (pss_one (ps_ret (pv 1)))), ?_⟩
  have fld : ∀ {H' : Hp}, Same H H' → H' p = some (.ins c.poll dx fs) := fun sm => sm _ _ h1
  refine ⟨_, rfl, p, c.poll, dx, fs, _, rfl, h1, T.poll.cl, T.poll.no _ (by decide +kernel), h2, _, rfl, by omega, by omega, fun S hS => lcG (n := p'.size) (fun i o => o = .lst ((List.range p'.size).map fun b => natV (p'.link i b))) hS (by omega) (fun i H' hi sm R hR => ?_) (fun i H' Q1 Q2 h q => gName_mono h q) fun H' as sm hD' hl nd nD fr ob => ?_⟩
  ·exact ⟨rfl, _, rfl, _, rfl, p, p', i, rfl, hp.mono sm, wf, fun H2 l2 s2 n2 e2 => hR l2 _ H2 s2 n2 e2 rfl⟩
  ·have R0 : RowsAt H' S as p'.size (fwN p'.link 0) := ⟨hD', hl, nd, nD, fun x a ha => by
    obtain ⟨o, e1, e2⟩ := ob x a ha
    rw [e1, e2]
    rfl⟩
   have frS : ∀ {H2 : Hp} {r : Addr} {o : HO}, Same H H2 → r ∈ as → Same H (upd H2 r o) := fun s2 hr2 => same_new s2 (fr _ hr2)
   refine ⟨_, rfl, p, c.poll, dx, fs, _, rfl, fld sm, T.poll.cl, T.poll.no _ (by decide +kernel), h2, _, rfl, by omega, by omega, for_range (lo := 0) (n := p'.size) (fun m σ H2 => ∃ v2 v3 v4 v5 : Option V, σ = [some (.ref p), some (.ref S), v2, v3, v4, v5] ∧ Same H H2 ∧ RowsAt H2 S as p'.size (fwN p'.link m)) ⟨none, none, none, none, rfl, sm, R0⟩ ?_ ?_⟩
   ·rintro m σ H2 hm ⟨v2, v3, v4, v5, rfl, s2, R2⟩
    have e : V.int (0 + (m : Int)) = natV m := by rw [Int.zero_add]; rfl
    rw [e]
    refine ⟨_, rfl, p, c.poll, dx, fs, _, rfl, fld s2, T.poll.cl, T.poll.no _ (by decide +kernel), h2, _, rfl, by omega, by omega, for_range (lo := 0) (n := p'.size) (fun a σ H3 => ∃ v3 v4 v5 : Option V, σ = [some (.ref p), some (.ref S), some (natV m), v3, v4, v5] ∧ Same H H3 ∧ RowsAt H3 S as p'.size (cur m a 0 (fwN p'.link m))) ⟨v3, v4, v5, rfl, s2, R2.congr fun x y _ _ => by unfold cur; rw [if_neg (by omega)]⟩ ?_ ?_⟩
    ·rintro a σ H3 ha ⟨v3, v4, v5, rfl, s3, R3⟩
     have e : V.int (0 + (a : Int)) = natV a := by rw [Int.zero_add]; rfl
     rw [e]
     refine ⟨_, rfl, p, c.poll, dx, fs, _, rfl, fld s3, T.poll.cl, T.poll.no _ (by decide +kernel), h2, _, rfl, by omega, by omega, for_range (lo := 0) (n := p'.size) (fun b σ H4 => ∃ v4 v5 : Option V, σ = [some (.ref p), some (.ref S), some (natV m), some (natV a), v4, v5] ∧ Same H H4 ∧ RowsAt H4 S as p'.size (cur m a b (fwN p'.link m))) ⟨v4, v5, rfl, s3, R3⟩ ?_ ?_⟩
     ·rintro b σ H4 hb ⟨v4, v5, rfl, s4, R4⟩
      have e : V.int (0 + (b : Int)) = natV b := by rw [Int.zero_add]; rfl
      rw [e]
      obtain ⟨ra, i1, i2, i3⟩ := R4.get' ha
      obtain ⟨rm, j1, j2, j3⟩ := R4.get' hm
      have ea := cur_row m a b (fwN p'.link m) a
      have eb := cur_col m a b (fwN p'.link m) b
      have ec := cur_here m a b (fwN p'.link m)
      refine ⟨_, rfl, _, rfl, S, _, _, _, rfl, rfl, SqL.of R4.lst, atI_nat i1, _, rfl, ra, _, _, _, rfl, rfl, SqL.of i3, at_row hm, _, rfl, _, rfl, S, _, _, _, rfl, rfl, SqL.of R4.lst, atI_nat j1, _, rfl, rm, _, _, _, rfl, rfl, SqL.of j3, at_row hb, _, _, rfl, ?_⟩
      refine ⟨_, rfl, _, rfl, S, _, _, _, rfl, rfl, SqL.of R4.lst, atI_nat i1, _, rfl, ra, _, _, _, rfl, rfl, SqL.of i3, at_row hb, _, rfl, _, _, rfl, ?_⟩
      refine ⟨_, rfl, _, rfl, S, _, _, _, rfl, rfl, SqL.of R4.lst, atI_nat i1, _, rfl, ra, _, _, b, rfl, rfl, i3, ixN_nat (by rw [List.length_map, List.length_range]; exact hb), some (natV b), _, rfl, frS s4 (List.mem_of_getElem? i2), ?_⟩
      have ev : V.int (if (if ((cur m a b (fwN p'.link m) m b : Nat) : Int) < ((cur m a b (fwN p'.link m) a m : Nat) : Int) then ((cur m a b (fwN p'.link m) m b : Nat) : Int) else ((cur m a b (fwN p'.link m) a m : Nat) : Int)) > ((cur m a b (fwN p'.link m) a b : Nat) : Int) then (if ((cur m a b (fwN p'.link m) m b : Nat) : Int) < ((cur m a b (fwN p'.link m) a m : Nat) : Int) then ((cur m a b (fwN p'.link m) m b : Nat) : Int) else ((cur m a b (fwN p'.link m) a m : Nat) : Int)) else ((cur m a b (fwN p'.link m) a b : Nat) : Int)) = natV (tK m (fwN p'.link m) a b) := by
       have z := V.int.inj (min_nat (cur m a b (fwN p'.link m) a m) (cur m a b (fwN p'.link m) m b))
       rw [z, max_nat, ea, eb, ec]
       rfl
      rw [ev]
      exact R4.put i2 hb
     ·rintro σ H4 ⟨v4, v5, rfl, s4, R4⟩
      refine ⟨some (natV a), v4, v5, rfl, s4, R4.congr fun x y hx hy => ?_⟩
      unfold cur
      by_cases h1 : x < a
      ·rw [if_pos (by omega), if_pos (by omega)]
      ·by_cases h2 : x = a
       ·rw [if_pos (by omega), if_pos (by omega)]
       ·rw [if_neg (by omega), if_neg (by omega)]
    ·rintro σ H3 ⟨v3, v4, v5, rfl, s3, R3⟩
     refine ⟨some (natV m), v3, v4, v5, rfl, s3, R3.congr fun x y hx hy => ?_⟩
     unfold cur
     rw [if_pos (by omega)]
     rfl
   ·rintro σ H2 ⟨v2, v3, v4, v5, rfl, s2, R2⟩
    refine ⟨_, rfl, k H2 S as s2 hS (R2.congr fun x y hx hy => ?_)⟩
    rw [paths_mat, at_mat hx hy]
end
section
variable {P : Program} {w : World} {K : PySem.W.Frag} {mg : Str → Option Value} {base : Heap} {c : Cs}
def spAbove : Sp := fun vs H Q _ => ∃ S as n f a b, vs = [.ref S, natV a, natV b] ∧ RowsAt H S as n f ∧ a < n ∧ b < n ∧ Q (.bl (decide (f b a < f a b))) H
theorem sc14 : FnScope ["strengths", "a", "b"] ["strengths", "a", "b"] (defScope (top 14)) := ⟨rfl, rfl, rfl, by decide +kernel, rfl, by decide +kernel, by decide +kernel⟩
theorem ok_above (D : DefAt K mg "is_above" (top 14) ["strengths", "a", "b"]) : Callee P w K mg base "is_above" 1 ["strengths", "a", "b"] spAbove := by
 refine D.ok sc14 (fun vs H Q E h => ?_) fun f cdv A outer s H vs Q E hr h => ?_
 ·obtain ⟨S, as, n, g, a, b, rfl, _⟩ := h
  rfl
 ·obtain ⟨S, as, n, g, a, b, rfl, R, ha, hb, k⟩ := h
  obtain ⟨ra, i1, i2, i3⟩ := R.get' ha
  obtain ⟨rb, j1, j2, j3⟩ := R.get' hb
  refine ⟨_, pss_one (ps_ret (pe_cmpR op_gt (pe_ix ix_list (pe_ix ix_list (pv 0) (pv 1) (fun _ _ => rfl)) (pv 2) (fun _ _ => rfl)) (pe_ix ix_list (pe_ix ix_list (pv 0) (pv 2) (fun _ _ => rfl)) (pv 1) (fun _ _ => rfl)) (nomark _))), ?_⟩
  refine ⟨_, rfl, _, rfl, S, _, _, _, rfl, rfl, SqL.of R.lst, atI_nat i1, _, rfl, ra, _, _, _, rfl, rfl, SqL.of i3, at_row hb, _, rfl, _, rfl, S, _, _, _, rfl, rfl, SqL.of R.lst, atI_nat j1, _, rfl, rb, _, _, _, rfl, rfl, SqL.of j3, at_row ha, _, _, rfl, rfl, ?_⟩
  show Q (.bl (decide (((g b a : Nat) : Int) < ((g a b : Nat) : Int)))) H
  rw [show decide (((g b a : Nat) : Int) < ((g a b : Nat) : Int)) = decide (g b a < g a b) by rw [Bool.eq_iff_iff, decide_eq_true_iff, decide_eq_true_iff]; omega]
  exact k
def below (n : Nat) (f : Nat → Nat → Nat) (a : Nat) : Nat := ((List.range n).filter fun b => decide (f b a < f a b)).length
def spBelow : Sp := fun vs H Q _ => ∃ S as n f a, vs = [.ref S, natV a] ∧ RowsAt H S as n f ∧ n ≤ 8 ∧ a < n ∧ ∀ H', Same H H' → Q (natV (below n f a)) H'
theorem sc15 : FnScope ["strengths", "a", "b"] ["strengths", "a"] (defScope (top 15)) := ⟨rfl, rfl, rfl, by decide +kernel, rfl, by decide +kernel, by decide +kernel⟩
theorem ok_below (T : Txt K mg c) (D : DefAt K mg "count_others_below" (top 15) ["strengths", "a"]) (C : Callee P w K mg base "is_above" 1 ["strengths", "a", "b"] spAbove) : Callee P w K mg base "count_others_below" 3 ["strengths", "a"] spBelow := by
 refine D.ok sc15 (fun vs H Q E h => ?_) fun f cdv A outer s H vs Q E hr h => ?_
 ·obtain ⟨S, as, n, g, a, rfl, _⟩ := h
  rfl
 ·obtain ⟨S, as, n, g, a, rfl, R, hn, ha, k⟩ := h
  have hl := R.len
  have hl2 : (as.map V.ref).length = n := by rw [List.length_map, hl]
  refine ⟨_, pss_one (ps_ret (pe_callB call_len_seq rfl T.len PySem.boot_len (pa_cons (pe_lc (own := [("b", 2)]) (g := gName 2) (tt := tTruth K (tCall spAbove [] E0 (tCons (tVar 0) (tCons (tVar 1) (tCons (tVar 2) tNil))))) (te := tVar 2) rfl sc15.nd
   (pi_range1 rfl T.range (pa_cons (pe_callB call_len_seq rfl T.len PySem.boot_len (pa_cons (pv 0) pa_nil)) pa_nil)) (blkOk_by (N := ["strengths", "a", "b"]) (sc := defScope (top 15)) (by decide +kernel)) (fun _ _ _ _ _ => pg_name (i := 2) sc15.nd rfl (Or.inl rfl))
   (fun _ _ _ _ _ => pts_one (pt_tru (pe_fn C (hr.mono (by decide)) (pa_cons (pv 0) (pa_cons (pv 1) (pa_cons (pv 2) pa_nil)))))) (fun _ _ _ _ _ => pv 2)) pa_nil))), ?_⟩
  refine ⟨_, rfl, S, _, rfl, .inl (SqL.of R.lst), _, rfl, by omega, by omega, fun D hD => lcR (n := (as.map V.ref).length) (fun i => if decide (g i a < g a i) = true then some (natV i) else none) hD (by omega) (fun i H' hi sm Rr R' hR hR' => ?_) fun H' sm hD' => ?_⟩
  ·refine ⟨rfl, _, rfl, _, rfl, _, rfl, S, as, n, g, a, i, rfl, R.mono sm, ha, by omega, _, rfl, ?_⟩
   cases q : decide (g i a < g a i) with
   | true => exact iteT ⟨_, rfl, hR _ _ (by show (if decide (g i a < g a i) = true then _ else _) = _; rw [if_pos q]) (Same.refl _)⟩
   | false => exact iteF (hR' _ (by show (if decide (g i a < g a i) = true then _ else _) = _; rw [q, if_neg Bool.false_ne_true]) (Same.refl _))
  ·rw [hl2, fm_range (q := fun i => decide (g i a < g a i)) (g := natV) (fun i _ => rfl)] at hD'
   refine ⟨D, _, rfl, .inl (SqL.of hD'), ?_⟩
   rw [List.length_map]
   exact k H' sm
def unb (n : Nat) (f : Nat → Nat → Nat) (a : Nat) : Bool := !((List.range n).any fun b => decide (f a b < f b a))
def spUnb : Sp := fun vs H Q _ => ∃ S as n f a, vs = [.ref S, natV a] ∧ RowsAt H S as n f ∧ n ≤ 8 ∧ a < n ∧ ∀ H', Same H H' → Q (.bl (unb n f a)) H'
theorem sc16 : FnScope ["strengths", "a", "b"] ["strengths", "a"] (defScope (top 16)) := ⟨rfl, rfl, rfl, by decide +kernel, rfl, by decide +kernel, by decide +kernel⟩
theorem ok_unb (T : Txt K mg c) (D : DefAt K mg "is_unbeaten" (top 16) ["strengths", "a"]) (C : Callee P w K mg base "is_above" 1 ["strengths", "a", "b"] spAbove) : Callee P w K mg base "is_unbeaten" 3 ["strengths", "a"] spUnb := by
 refine D.ok sc16 (fun vs H Q E h => ?_) fun f cdv A outer s H vs Q E hr h => ?_
 ·obtain ⟨S, as, n, g, a, rfl, _⟩ := h
  rfl
 ·obtain ⟨S, as, n, g, a, rfl, R, hn, ha, k⟩ := h
  have hl := R.len
  have hl2 : (as.map V.ref).length = n := by rw [List.length_map, hl]
  refine ⟨_, pss_one (ps_ret (pe_not (pe_callB (cr_any rfl) rfl T.any boot_any (pa_cons (pe_lc (own := [("b", 2)]) (g := gName 2) (tt := tYes) (te := tCall spAbove [] E0 (tCons (tVar 0) (tCons (tVar 2) (tCons (tVar 1) tNil)))) rfl sc16.nd
   (pi_range1 rfl T.range (pa_cons (pe_callB call_len_seq rfl T.len PySem.boot_len (pa_cons (pv 0) pa_nil)) pa_nil)) (blkOk_by (N := ["strengths", "a", "b"]) (sc := defScope (top 16)) (by decide +kernel)) (fun _ _ _ _ _ => pg_name (i := 2) sc16.nd rfl (Or.inl rfl))
   (fun _ _ _ _ _ => pts_nil) (fun _ _ _ _ _ => pe_fn C (hr.mono (by decide)) (pa_cons (pv 0) (pa_cons (pv 2) (pa_cons (pv 1) pa_nil))))) pa_nil)))), ?_⟩
  refine ⟨_, rfl, S, _, rfl, .inl (SqL.of R.lst), _, rfl, by omega, by omega, fun D hD => lcR (n := (as.map V.ref).length) (fun i => some (.bl (decide (g a i < g i a)))) hD (by omega) (fun i H' hi sm Rr R' hR hR' => ?_) fun H' sm hD' => ?_⟩
  ·exact ⟨rfl, _, rfl, _, rfl, _, rfl, S, as, n, g, i, a, rfl, R.mono sm, by omega, ha, hR _ _ rfl (Same.refl _)⟩
  ·rw [hl2, fm_some] at hD'
   refine ⟨D, (List.range n).map fun i => decide (g a i < g i a), rfl, SqL.of (by rw [hD', List.map_map]; rfl), _, rfl, ?_⟩
   rw [List.any_map]
   exact k H' sm
theorem unbeaten_eq (p : Poll) : ((List.range p.size).filter fun a => unb p.size (fun a b => at_ p.paths a b) a) = p.unbeaten := by
 unfold Poll.unbeaten Poll.all
 refine List.filter_congr fun a _ => ?_
 unfold unb above
 rw [List.not_any_eq_all_not]
theorem sc18 : FnScope ["poll", "strengths", "a"] ["poll"] (defScope (top 18)) := ⟨rfl, rfl, rfl, by decide +kernel, rfl, by decide +kernel, by decide +kernel⟩
theorem ok_unbeaten (T : Txt K mg c) (D : DefAt K mg "find_unbeaten" (top 18) ["poll"]) (C1 : Callee P w K mg base "find_strengths" 11 ["poll"] (spStr c)) (C2 : Callee P w K mg base "is_unbeaten" 3 ["strengths", "a"] spUnb) : Callee P w K mg base "find_unbeaten" 13 ["poll"] (spList c fun p => p.unbeaten) := by
 refine D.ok sc18 (fun vs H Q E h => ?_) fun f cdv A outer s H vs Q E hr h => ?_
 ·obtain ⟨p, p', rfl, _⟩ := h
  rfl
 ·obtain ⟨p, p', rfl, hp, wf, k⟩ := h
  have hp0 := hp
  obtain ⟨l, dx, fs, as0, h1, h2, h3, h4, h5⟩ := hp0
  have hi8 := wf.hi
  refine ⟨_, pss_cons (ps_set (i := 1) sc18.nd rfl (Or.inr rfl) (pe_fn C1 (hr.mono (by decide)) (pa_cons (pv 0) pa_nil)))
   (pss_one (ps_ret (pe_lc (own := [("a", 2)]) (g := gName 2) (tt := tTruth K (tCall spUnb [] E0 (tCons (tVar 1) (tCons (tVar 2) tNil)))) (te := tVar 2) rfl sc18.nd (pi_range1 rfl T.range (pa_cons (pe_fld (pv 0) rfl) pa_nil))
    (blkOk_by (N := ["poll", "strengths", "a"]) (sc := defScope (top 18)) (by decide +kernel)) (fun _ _ _ _ _ => pg_name (i := 2) sc18.nd rfl (Or.inl rfl)) (fun _ _ _ _ _ => pts_one (pt_tru (pe_fn C2 (hr.mono (by decide)) (pa_cons (pv 1) (pa_cons (pv 2) pa_nil))))) (fun _ _ _ _ _ => pv 2)))), ?_⟩
  refine ⟨_, rfl, p, p', rfl, hp, wf, fun H1 S as s1 hS R => ?_⟩
  refine ⟨_, rfl, p, c.poll, dx, fs, _, rfl, s1 _ _ h1, T.poll.cl, T.poll.no _ (by decide +kernel), h2, _, rfl, by omega, by omega, fun D hD => lcR (n := p'.size) (fun i => if unb p'.size (fun a b => at_ p'.paths a b) i = true then some (natV i) else none) hD (by omega) (fun i H' hi sm Rr R' hR hR' => ?_) fun H' sm hD' => ?_⟩
  ·refine ⟨rfl, _, rfl, _, rfl, S, as, _, _, i, rfl, R.mono sm, hi8, hi, fun H2 s2 => ⟨_, rfl, ?_⟩⟩
   cases q : unb p'.size (fun a b => at_ p'.paths a b) i with
   | true => exact iteT ⟨_, rfl, hR _ _ (by show (if _ = true then _ else _) = _; rw [if_pos q]) s2⟩
   | false => exact iteF (hR' _ (by show (if _ = true then _ else _) = _; rw [q, if_neg Bool.false_ne_true]) s2)
  ·rw [fm_range (q := fun i => unb p'.size (fun a b => at_ p'.paths a b) i) (g := natV) (fun i _ => rfl), unbeaten_eq] at hD'
   exact k H' D (s1.trans sm) (s1.free hD) hD'
end
structure LamAt (K : PySem.W.Frag) (mg : Str → Option Value) (x : Str) (st : Stmt) (ps : List Str) (cd : Addr) : Prop where
 ex : ∃ (f : Addr) (oc : Value) (od : Option Addr) (kV doc pm : Value) (an : Option Addr) (ct : Value) (osl : Array (Option Value)), K.lookup f = some ⟨oc, od, .func (PySem.W.fnOf x x (defArgs st) (defBody st) (defScope st) .none kV doc pm an (.ref cd) ct), osl⟩ ∧ PySem.W.codeIn K (.ref cd) x = true ∧
  PySem.W.keepIn K (.ref f) = true ∧ mg x = some (.ref f) ∧ Binds K (PySem.W.fnOf x x (defArgs st) (defBody st) (defScope st) .none kV doc pm an (.ref cd) ct) ps []
section
variable {P : Program} {w : World} {K : PySem.W.Frag} {mg : Str → Option Value} {base : Heap} {c : Cs}
theorem LamAt.ok {x : Str} {st : Stmt} {N ps : List Str} {k : Nat} {sp : Sp} {cd : Addr} (D : LamAt K mg x st ps cd) (S : FnScope N ps (defScope st)) (len : ∀ vs H Q E, sp vs H Q E → vs.length = ps.length)
  (hbody : ∀ (f : Addr) (A : Around) (outer : List Env) (s : Shared) (H : Hp) (vs : List V) (Q : VK) (E : XK), Room k (A.deeper (envOfC x (defScope st) s.heap.objs.size f (.ref cd))) → sp vs H Q E →
   ∃ t, PSs (cxOf CX0 P w K mg base N x (defScope st) f (.ref cd) A outer s H E).nox (defBody st) t ∧ t { nx := fun _ H' => Q .non H', rt := Q } (L2.start N vs) H) : Callee P w K mg base x (k + 1) ps sp := by
 obtain ⟨f, oc, od, kV, doc, pm, an, ct, osl, l, hc, kp, m, b⟩ := D.ex
 refine ⟨f, _, fn_of l hc S len fun A outer s H vs Q E hr hsp => ?_, m, kp, b⟩
 obtain ⟨t, h, q⟩ := hbody f A outer s H vs Q E hr hsp
 exact ⟨t, h.nox, q⟩
end
def rkey (n : Nat) (f : Nat → Nat → Nat) (a : Nat) : List Int := [-((below n f a : Nat) : Int), ((a : Nat) : Int)]
theorem rkey_le {n : Nat} {f : Nat → Nat → Nat} {a b : Nat} : HT.lexLt (rkey n f b) (rkey n f a) = false ↔ below n f b < below n f a ∨ (below n f b = below n f a ∧ a ≤ b) := by
 unfold rkey
 rw [HT.lexLt_cons, HT.lexLt_cons, HT.lexLt_nil_nil]
 by_cases h : below n f b = below n f a
 ·rw [if_pos (by omega)]
  by_cases h2 : b = a
  ·rw [if_pos (by omega)]
   simp
   omega
  ·rw [if_neg (by omega)]
   simp
   omega
 ·rw [if_neg (by omega)]
  simp
  omega
theorem below_above (p : Poll) (a : Nat) : ((List.range p.size).filter fun (x : Nat) => above p.paths a x).length = below p.size (fun a b => at_ p.paths a b) a := rfl
theorem insert_perm (m : Strengths) (n a : Nat) : ∀ l : List Nat, (insertBy m n a l).Perm (a :: l)
 | [] => .refl _
 | b :: r => by
  unfold insertBy
  split
  ·exact .refl _
  ·exact ((insert_perm m n a r).cons b).trans (.swap a b r)
theorem insert_ord {p : Poll} {a : Nat} : ∀ {l : List Nat}, (∀ b ∈ l, b < a) → l.Pairwise (fun i j => HT.lexLt (rkey p.size (fun a b => at_ p.paths a b) j) (rkey p.size (fun a b => at_ p.paths a b) i) = false) →
  (insertBy p.paths p.size a l).Pairwise (fun i j => HT.lexLt (rkey p.size (fun a b => at_ p.paths a b) j) (rkey p.size (fun a b => at_ p.paths a b) i) = false)
 | [], _, _ => List.pairwise_singleton _ _
 | b :: r, hb, hp => by
  have hp' := List.pairwise_cons.mp hp
  unfold insertBy
  split
  ·rename_i h
   rw [below_above, below_above] at h
   refine List.pairwise_cons.mpr ⟨fun x hx => ?_, hp⟩
   rw [rkey_le]
   rcases List.mem_cons.mp hx with z | z
   ·subst z
    exact .inl h
   ·have := rkey_le.mp (hp'.1 x z)
    exact .inl (by omega)
  ·rename_i h
   rw [below_above, below_above] at h
   refine List.pairwise_cons.mpr ⟨fun x hx => ?_, insert_ord (fun y hy => hb y (List.mem_cons_of_mem _ hy)) hp'.2⟩
   rcases List.mem_cons.mp ((insert_perm _ _ a r).mem_iff.mp hx) with z | z
   ·rw [rkey_le, z]
    have := hb b List.mem_cons_self
    omega
   ·exact hp'.1 x z
theorem ranked_fold (p : Poll) : ∀ k, ((List.range k).foldl (fun (l : List Nat) (a : Nat) => insertBy p.paths p.size a l) []).Perm (List.range k) ∧
  ((List.range k).foldl (fun (l : List Nat) (a : Nat) => insertBy p.paths p.size a l) []).Pairwise (fun i j => HT.lexLt (rkey p.size (fun a b => at_ p.paths a b) j) (rkey p.size (fun a b => at_ p.paths a b) i) = false)
 | 0 => ⟨.refl _, .nil⟩
 | k + 1 => by
  obtain ⟨h1, h2⟩ := ranked_fold p k
  rw [List.range_succ, List.foldl_append]
  refine ⟨((insert_perm _ _ k _).trans (h1.cons k)).trans ?_, insert_ord (fun b hb => List.mem_range.mp (h1.mem_iff.mp hb)) h2⟩
  exact (List.perm_append_singleton k (List.range k)).symm
theorem ranked_eq {p : Poll} {ix : List Nat} (h : Ranked (rkey p.size fun a b => at_ p.paths a b) p.size ix) : ix = p.ranked := by
 obtain ⟨h1, h2⟩ := ranked_fold p p.size
 refine List.Perm.eq_of_pairwise (fun a b _ _ z1 z2 => ?_) h.ord h2 (h.perm.trans h1.symm)
 have := rkey_le.mp z1
 have := rkey_le.mp z2
 omega
theorem RowsAt.but {H H' : Hp} {S Pt : Addr} {as : List Addr} {n : Nat} {f : Nat → Nat → Nat} {ps : Array Value} (R : RowsAt H S as n f) (hP : H Pt = some (.tbl ps)) (b : But Pt H H') : RowsAt H' S as n f := by
 have ne : ∀ d xs, H d = some (.lst xs) → d ≠ Pt := fun d xs e z => by
  rw [z, hP] at e
  cases e
 exact ⟨b _ _ R.lst (ne _ _ R.lst), R.len, R.nd, R.nS, fun x a h => b _ _ (R.row x a h) (ne _ _ (R.row x a h))⟩
section
variable {P : Program} {w : World} {K : PySem.W.Frag} {mg : Str → Option Value} {base : Heap} {c : Cs}
abbrev rqual : Str := ("rank_candidates" : Str) ++ (".<locals>." : Str) ++ ("<lambda>" : Str)
abbrev rpos : Pos := ⟨59, 46, 59, 94⟩
def spRank (c : Cs) (Pt : Addr) : Sp := fun vs H Q _ => ∃ p p', vs = [.ref p] ∧ PollAt c H p p' ∧ WF p' ∧ TabAt H Pt rpos rqual ∧ ∀ H' l, But Pt H H' → TabAt H' Pt rpos rqual → H l = none → H' l = some (.lst (p'.ranked.map natV)) → Q (.ref l) H'
theorem sc17 : FnScope ["poll", "strengths"] ["poll"] (defScope (top 17)) := ⟨rfl, rfl, rfl, by decide +kernel, rfl, by decide +kernel, by decide +kernel⟩
theorem ok_rank {cd Pt : Addr} (T : Txt K mg c) (D : LamAt K mg "rank_candidates" (top 17) ["poll"] cd) (hB : Bm mg base) (hC : PySem.W.CodeHd base cd Pt) (C1 : Callee P w K mg base "find_strengths" 11 ["poll"] (spStr c)) (C2 : Callee P w K mg base "count_others_below" 3 ["strengths", "a"] spBelow) :
  Callee P w K mg base "rank_candidates" 13 ["poll"] (spRank c Pt) := by
 refine D.ok sc17 (fun vs H Q E h => ?_) fun f A outer s H vs Q E hr h => ?_
 ·obtain ⟨p, p', rfl, _⟩ := h
  rfl
 ·obtain ⟨p, p', rfl, hp, wf, tab, k⟩ := h
  have hp0 := hp
  obtain ⟨l, dx, fs, as0, h1, h2, h3, h4, h5⟩ := hp0
  have hi8 := wf.hi
  refine ⟨_, pss_cons (ps_set (i := 1) sc17.nd rfl (Or.inr rfl) (pe_fn C1 (hr.mono (by decide)) (pa_cons (pv 0) pa_nil)))
   (pss_one (ps_ret (pe_sortLam (x := "a") (y := "strengths") (j := 1) (c := cd) (P := Pt) (cy := s.heap.objs.size + 1) (tb := tTup (tCons (tUn (rU fun i => .int (-i)) (tCall spBelow [] E0 (tCons (tVar 1) (tCons (tVar 0) tNil)))) (tCons (tVar 0) tNil))) rfl hB rfl hC
    ⟨rfl, rfl, rfl, by decide +kernel, rfl, rfl, by decide +kernel⟩ rfl rfl rfl rfl (hr.mono (by decide)) (fun _ _ _ _ => rfl)
    (fun _ _ _ _ => pe_tup (pa_cons (pe_un un_neg (pe_fn C2 ((hr.mono (by decide : 6 ≤ 12)).in1.in1.deeper _ |>.mono (by decide)) (pa_cons (pv 1) (pa_cons (pv 0) pa_nil)))) (pa_cons (pv 0) pa_nil)))
    (pa_cons (pe_callTy call_rangeR rfl T.range boot_range (pa_cons (pe_fld (pv 0) rfl) pa_nil)) pa_nil) rfl T.sorted))), ?_⟩
  refine ⟨_, rfl, p, p', rfl, hp, wf, fun H1 S as s1 hS R => ?_⟩
  refine ⟨_, rfl, p, c.poll, dx, fs, _, rfl, s1 _ _ h1, T.poll.cl, T.poll.no _ (by decide +kernel), h2, p'.size, rfl, fun r hr0 => ?_⟩
  have s2 : Same H1 (upd H1 r (.rng 0 p'.size)) := same_new (Same.refl _) hr0
  have R2 := R.mono s2
  have tab2 := tab.mono (s1.trans s2)
  obtain ⟨ps0, hPt, _⟩ := id tab2
  refine ⟨r, p'.size, .ref S, rkey p'.size (fun a b => at_ p'.paths a b), rfl, upd_same, by omega, rfl, tab2, fun i => by unfold rkey; simp, fun i H2 hi b2 => ?_, fun ix q H2 rk tb b2 hq => ?_⟩
  ·refine ⟨_, rfl, _, rfl, S, as, _, _, i, rfl, R2.but hPt b2, hi8, hi, fun H3 s3 => ⟨_, rfl, _, rfl, (by show 2 ≤ sizeLine; decide), fun t ht => ⟨t, rfl, upd_same, ?_⟩⟩⟩
   exact same_new s3 (s3.free ht)
  ·have b3 : But Pt H H2 := ((s1.trans s2).but (P := Pt)).trans b2
   have hq0 : H q = none := by
    cases e : H q with
    | none => rfl
    | some o =>
     by_cases z : q = Pt
     ·subst z
      obtain ⟨ps1, h9, _⟩ := tb
      rw [hq] at h9
      cases h9
     ·rw [b3 q o e z] at hq
      cases hq
   refine k _ q (fun b o e ne => ?_) ?_ hq0 ?_
   ·rw [upd_ne (ne_of_none e hq0)]
    exact b3 b o e ne
   ·exact tb.mono (same_new (Same.refl _) hq)
   ·rw [upd_same, ranked_eq rk]
end
structure MakeAt (K : PySem.W.Frag) (mg : Str → Option Value) (cls : Str) (C : Addr) (qual : Str) (st : Stmt) (ps : List Str) : Prop where
 ex : ∃ f fd, Fun K "__init__" qual st f fd ∧ Mk K C f ∧ mg cls = some (.ref C) ∧ Binds K fd ps []
structure Maker (P : Program) (w : World) (K : PySem.W.Frag) (mg : Str → Option Value) (base : Heap) (cls : Str) (C : Addr) (k : Nat) (ps : List Str) (sp : Sp) : Prop where
 ex : ∃ f fd, FnOk P w K mg base CX0 k f fd ps sp ∧ Mk K C f ∧ mg cls = some (.ref C) ∧ Binds K fd ps []
section
variable {P : Program} {w : World} {K : PySem.W.Frag} {mg : Str → Option Value} {base : Heap} {c : Cs}
theorem MakeAt.ok {cls qual : Str} {C : Addr} {st : Stmt} {N ps : List Str} {k : Nat} {sp : Sp} (D : MakeAt K mg cls C qual st ps) (S : FnScope N ps (defScope st)) (len : ∀ vs H Q E, sp vs H Q E → vs.length = ps.length)
  (hbody : ∀ (f : Addr) (cdv : Value) (A : Around) (outer : List Env) (s : Shared) (H : Hp) (vs : List V) (Q : VK) (E : XK), Room k (A.deeper (envOfC qual (defScope st) s.heap.objs.size f cdv)) → sp vs H Q E →
   ∃ t, PSs (cxOf CX0 P w K mg base N qual (defScope st) f cdv A outer s H E).nox (defBody st) t ∧ t { nx := fun _ H' => Q .non H', rt := Q } (L2.start N vs) H) : Maker P w K mg base cls C (k + 1) ps sp := by
 obtain ⟨f, fd, F, mk, m, b⟩ := D.ex
 exact ⟨f, fd, F.ok S len (hbody f), mk, m, b⟩
end
theorem pe_mk {X : Cx} {cls : Str} {C : Addr} {p pos : Pos} {e : Expr} {es : List Expr} {t : TA} {k : Nat} {ps : List Str} {sp : Sp} (M : Maker X.prog X.w X.K X.mg X.base cls C k ps sp) (hr : Room (k + 1) X.A) (ha : PA X (e :: es) t) (hg : Gl X cls := by rfl) (hdb : (cls == ("__debug__" : Str)) = false := by decide)
  (he : starEach (e :: es) X.env = (false, eval e X.env) :: starEach es X.env := by rfl) (hpl : (backTo pos (starEach es X.env)).any (·.1) = false := by rfl) : PE X (.Call (.Name cls p) (e :: es) [] pos) (tMake C sp [] E0 t) := by
 obtain ⟨f, fd, F, mk, m, b⟩ := M.ex
 exact pe_make mk F hr hg m b .nil pass0 ha hdb he hpl
theorem pe_mk0 {X : Cx} {cls : Str} {C : Addr} {p pos : Pos} {k : Nat} {ps : List Str} {sp : Sp} (M : Maker X.prog X.w X.K X.mg X.base cls C k ps sp) (hr : Room (k + 1) X.A) (hg : Gl X cls := by rfl) (hdb : (cls == ("__debug__" : Str)) = false := by decide) : PE X (.Call (.Name cls p) [] [] pos) (tMake C sp [] E0 tNil) := by
 obtain ⟨f, fd, F, mk, m, b⟩ := M.ex
 exact pe_make0 mk F hr hg m b .nil pass0 hdb
structure IntAt (mg : Str → Option Value) (x : Str) (n : Int) : Prop where
 ex : ∃ t, mg x = some (.int n t)
theorem pe_cst {X : Cx} {x : Str} {n : Int} {pos : Pos} (h : IntAt X.mg x n) (hg : Gl X x := by rfl) (hd : (x == ("__debug__" : Str)) = false := by decide) : PE X (.Name x pos) (tC (.int n)) := by
 obtain ⟨t, e⟩ := h.ex
 exact pe_glob hg e (show RelV (.int n) (.int n t) from ⟨t, rfl⟩) hd
theorem new_same {H H' : Hp} {x dx C : Addr} (nx : H x = none) (nd : H dx = none) (k : ∀ b o, upd (upd H dx (.own x)) x (.ins C dx []) b = some o → b ≠ x → H' b = some o) : Same H H' := Same.made nx nd k
section
variable {P : Program} {w : World} {K : PySem.W.Frag} {mg : Str → Option Value} {base : Heap} {c : Cs}
def spBal (c : Cs) : Sp := fun vs H Q _ => ∃ x dx m o r, vs = [.ref x, natV m, .ref r] ∧ H x = some (.ins c.bal dx []) ∧ FrzL H r (o.map natV) ∧ ∀ H', BalAt c H' x ⟨m, o⟩ → (∀ b u, H b = some u → b ≠ x → H' b = some u) → Q .non H'
theorem sc24 : FnScope ["self", "voters", "order"] ["self", "voters", "order"] (defScope (inClass (top 24) 0)) := ⟨rfl, rfl, rfl, by decide +kernel, rfl, by decide +kernel, by decide +kernel⟩
theorem ok_bal (T : Txt K mg c) (D : MakeAt K mg "Ballot" c.bal "Ballot.__init__" (inClass (top 24) 0) ["self", "voters", "order"]) : Maker P w K mg base "Ballot" c.bal 1 ["self", "voters", "order"] (spBal c) := by
 refine D.ok sc24 (fun vs H Q E h => ?_) fun f cdv A outer s H vs Q E hr h => ?_
 ·obtain ⟨x, dx, m, o, r, rfl, _⟩ := h
  rfl
 ·obtain ⟨x, dx, m, o, r, rfl, hx, hr0, k⟩ := h
  refine ⟨_, pss_cons (ps_fld (pv 0) (pv 1) rfl) (pss_one (ps_fld (pv 0) (pe_callTy call_tuple_frz rfl T.tuple boot_tuple (pa_cons (pv 2) pa_nil)) rfl)), ?_⟩
  have hrx : r ≠ x := fun z => by
   obtain ⟨ob, e, _⟩ := hr0
   rw [z, hx] at e
   cases e
  have hr1 : SqL K (upd H x (.ins c.bal dx (putF "voters" (natV m) []))) r (o.map natV) := by
   obtain ⟨ob, e, _⟩ := hr0
   exact .inl (.inr ⟨ob, by rw [upd_ne hrx]; exact e⟩)
  refine ⟨_, rfl, _, rfl, x, c.bal, dx, _, rfl, hx, T.bal.cl, T.bal.no _ (by decide +kernel), (by show 0 < 1000; decide), ?_⟩
  refine ⟨_, rfl, r, _, rfl, hr1, fun t ob ht hc hd => ?_⟩
  have htx : x ≠ t := ne_of_none (upd_same) ht
  refine ⟨_, rfl, x, c.bal, dx, putF "voters" (natV m) [], rfl, by rw [upd_ne htx, upd_same], T.bal.cl, T.bal.no _ (by decide +kernel), (by show 1 < 1000; decide), ?_⟩
  refine k _ ⟨dx, _, t, upd_same, ?_, ?_, ob, ?_, hc, hd⟩ fun b u e hb => ?_
  ·show List.lookup _ (putF "order" (V.ref t) (putF "voters" (natV m) [])) = _
   rw [lookup_putF, if_neg (by decide +kernel), lookup_putF, if_pos rfl]
  ·show List.lookup _ (putF "order" (V.ref t) (putF "voters" (natV m) [])) = _
   rw [lookup_putF, if_pos rfl]
  ·rw [upd_ne (Ne.symm htx), upd_same]
  ·have hbt : b ≠ t := fun z => by
    have e2 : upd H x (.ins c.bal dx (putF "voters" (natV m) [])) b = some u := by rw [upd_ne hb]; exact e
    rw [z, ht] at e2
    cases e2
   rw [upd_ne hb, upd_ne hbt, upd_ne hb]
   exact e
def spPollI (c : Cs) : Sp := fun vs H Q _ => ∃ x dx n, vs = [.ref x, natV n] ∧ H x = some (.ins c.poll dx []) ∧ ∀ H' l, PollL c H' x l ⟨n, []⟩ → H l = none → (∀ b u, H b = some u → b ≠ x → H' b = some u) → Q .non H'
theorem sc25 : FnScope ["self", "candidates"] ["self", "candidates"] (defScope (inClass (top 25) 0)) := ⟨rfl, rfl, rfl, by decide +kernel, rfl, by decide +kernel, by decide +kernel⟩
theorem ok_poll (T : Txt K mg c) (D : MakeAt K mg "Poll" c.poll "Poll.__init__" (inClass (top 25) 0) ["self", "candidates"]) : Maker P w K mg base "Poll" c.poll 1 ["self", "candidates"] (spPollI c) := by
 refine D.ok sc25 (fun vs H Q E h => ?_) fun f cdv A outer s H vs Q E hr h => ?_
 ·obtain ⟨x, dx, n, rfl, _⟩ := h
  rfl
 ·obtain ⟨x, dx, n, rfl, hx, k⟩ := h
  refine ⟨_, pss_cons (ps_fld (pv 0) (pv 1) rfl) (pss_one (ps_fld (pv 0) (pe_lst pa_nil) rfl)), ?_⟩
  refine ⟨_, rfl, _, rfl, x, c.poll, dx, _, rfl, hx, T.poll.cl, T.poll.no _ (by decide +kernel), (by show 0 < 1000; decide), ?_⟩
  refine ⟨Nat.zero_le _, fun l hl => ?_⟩
  have hxl : x ≠ l := ne_of_none (upd_same) hl
  have hl0 : H l = none := by rw [upd_ne (Ne.symm hxl)] at hl; exact hl
  refine ⟨_, rfl, x, c.poll, dx, putF "candidates" (natV n) [], rfl, by rw [upd_ne hxl, upd_same], T.poll.cl, T.poll.no _ (by decide +kernel), (by show 1 < 1000; decide), ?_⟩
  refine k _ l ⟨dx, _, [], upd_same, ?_, ?_, ?_, rfl, fun i a b e => by cases e⟩ hl0 fun b u e hb => ?_
  ·show List.lookup _ (putF "ballots" (V.ref l) (putF "candidates" (natV n) [])) = _
   rw [lookup_putF, if_neg (by decide +kernel), lookup_putF, if_pos rfl]
  ·show List.lookup _ (putF "ballots" (V.ref l) (putF "candidates" (natV n) [])) = _
   rw [lookup_putF, if_pos rfl]
  ·rw [upd_ne (Ne.symm hxl), upd_same]
   rfl
  ·rw [upd_ne hb, upd_ne (ne_of_none e hl0), upd_ne hb]
   exact e
def spN (f : Nat → V) : Sp := fun vs H Q _ => ∃ n, vs = [natV n] ∧ Q (f n) H
theorem sc26 : FnScope ["candidates"] ["candidates"] (defScope (top 26)) := ⟨rfl, rfl, rfl, by decide +kernel, rfl, by decide +kernel, by decide +kernel⟩
theorem ok_begin (D : DefAt K mg "can_begin" (top 26) ["candidates"]) (I1 : IntAt mg "FEWEST_CANDIDATES" 2) (I2 : IntAt mg "MOST_CANDIDATES" 8) : Callee P w K mg base "can_begin" 1 ["candidates"] (spN fun n => .bl (decide (2 ≤ n ∧ n ≤ 8))) := by
 refine D.ok sc26 (fun vs H Q E h => ?_) fun f cdv A outer s H vs Q E hr h => ?_
 ·obtain ⟨n, rfl, _⟩ := h
  rfl
 ·obtain ⟨n, rfl, k⟩ := h
  refine ⟨_, pss_one (ps_ret (pe_chain op_le op_le (pe_cst I1) (pv 0) (pe_cst I2))), ?_⟩
  refine ⟨_, rfl, _, _, rfl, rfl, _, rfl, ?_⟩
  by_cases h1 : 2 ≤ n
  ·rw [show decide ((2 : Int) ≤ ((n : Nat) : Int)) = true from decide_eq_true (by omega)]
   refine iteT ⟨_, _, rfl, rfl, ?_⟩
   have e : decide (((n : Nat) : Int) ≤ 8) = decide (2 ≤ n ∧ n ≤ 8) := by rw [Bool.eq_iff_iff, decide_eq_true_iff, decide_eq_true_iff]; omega
   show Q (.bl (decide (((n : Nat) : Int) ≤ 8))) H
   rw [e]
   exact k
  ·rw [show decide ((2 : Int) ≤ ((n : Nat) : Int)) = false from decide_eq_false (by omega)]
   have e : decide (2 ≤ n ∧ n ≤ 8) = false := decide_eq_false (by omega)
   have k2 : Q (.bl (decide (2 ≤ n ∧ n ≤ 8))) H := k
   rw [e] at k2
   exact iteF k2
theorem sc31 : FnScope ["voters"] ["voters"] (defScope (top 31)) := ⟨rfl, rfl, rfl, by decide +kernel, rfl, by decide +kernel, by decide +kernel⟩
theorem ok_tvoters (D : DefAt K mg "takes_voters" (top 31) ["voters"]) (I2 : IntAt mg "MOST_VOTERS" 1000000) : Callee P w K mg base "takes_voters" 1 ["voters"] (spN fun n => .bl (decide (1 ≤ n ∧ n ≤ 1000000))) := by
 refine D.ok sc31 (fun vs H Q E h => ?_) fun f cdv A outer s H vs Q E hr h => ?_
 ·obtain ⟨n, rfl, _⟩ := h
  rfl
 ·obtain ⟨n, rfl, k⟩ := h
  refine ⟨_, pss_one (ps_ret (pe_chain op_le op_le pe_int (pv 0) (pe_cst I2))), ?_⟩
  refine ⟨_, rfl, _, _, rfl, rfl, _, rfl, ?_⟩
  by_cases h1 : 1 ≤ n
  ·rw [show decide ((1 : Int) ≤ ((n : Nat) : Int)) = true from decide_eq_true (by omega)]
   refine iteT ⟨_, _, rfl, rfl, ?_⟩
   have e : decide (((n : Nat) : Int) ≤ 1000000) = decide (1 ≤ n ∧ n ≤ 1000000) := by rw [Bool.eq_iff_iff, decide_eq_true_iff, decide_eq_true_iff]; omega
   show Q (.bl (decide (((n : Nat) : Int) ≤ 1000000))) H
   rw [e]
   exact k
  ·rw [show decide ((1 : Int) ≤ ((n : Nat) : Int)) = false from decide_eq_false (by omega)]
   have e : decide (1 ≤ n ∧ n ≤ 1000000) = false := decide_eq_false (by omega)
   have k2 : Q (.bl (decide (1 ≤ n ∧ n ≤ 1000000))) H := k
   rw [e] at k2
   exact iteF k2
def spPN (c : Cs) (f : Poll → Nat → V) : Sp := fun vs H Q _ => ∃ p p' a, vs = [.ref p, natV a] ∧ PollAt c H p p' ∧ Q (f p' a) H
theorem sc27 : FnScope ["poll", "candidate"] ["poll", "candidate"] (defScope (top 27)) := ⟨rfl, rfl, rfl, by decide +kernel, rfl, by decide +kernel, by decide +kernel⟩
theorem ok_hasc (T : Txt K mg c) (D : DefAt K mg "has_candidate" (top 27) ["poll", "candidate"]) : Callee P w K mg base "has_candidate" 1 ["poll", "candidate"] (spPN c fun p a => .bl (decide (a < p.size))) := by
 refine D.ok sc27 (fun vs H Q E h => ?_) fun f cdv A outer s H vs Q E hr h => ?_
 ·obtain ⟨p, p', a, rfl, _⟩ := h
  rfl
 ·obtain ⟨p, p', a, rfl, ⟨l, dx, fs, as0, h1, h2, h3, h4, h5⟩, k⟩ := h
  refine ⟨_, pss_one (ps_ret (pe_chain op_le op_lt pe_int (pv 1) (pe_fld (pv 0) rfl))), ?_⟩
  refine ⟨_, rfl, _, _, rfl, rfl, _, rfl, ?_⟩
  rw [show decide ((0 : Int) ≤ ((a : Nat) : Int)) = true from decide_eq_true (by omega)]
  refine iteT ⟨_, rfl, p, c.poll, dx, fs, _, rfl, h1, T.poll.cl, T.poll.no _ (by decide +kernel), h2, _, _, rfl, rfl, ?_⟩
  have e : decide (((a : Nat) : Int) < ((p'.size : Nat) : Int)) = decide (a < p'.size) := by rw [Bool.eq_iff_iff, decide_eq_true_iff, decide_eq_true_iff]; omega
  show Q (.bl (decide (((a : Nat) : Int) < ((p'.size : Nat) : Int)))) H
  rw [e]
  exact k
theorem sc33 : FnScope ["poll", "seats"] ["poll", "seats"] (defScope (top 33)) := ⟨rfl, rfl, rfl, by decide +kernel, rfl, by decide +kernel, by decide +kernel⟩
theorem ok_tseats (T : Txt K mg c) (D : DefAt K mg "takes_seats" (top 33) ["poll", "seats"]) : Callee P w K mg base "takes_seats" 1 ["poll", "seats"] (spPN c fun p a => .bl (decide (1 ≤ a ∧ a ≤ p.size))) := by
 refine D.ok sc33 (fun vs H Q E h => ?_) fun f cdv A outer s H vs Q E hr h => ?_
 ·obtain ⟨p, p', a, rfl, _⟩ := h
  rfl
 ·obtain ⟨p, p', a, rfl, ⟨l, dx, fs, as0, h1, h2, h3, h4, h5⟩, k⟩ := h
  refine ⟨_, pss_one (ps_ret (pe_chain op_le op_le pe_int (pv 1) (pe_fld (pv 0) rfl))), ?_⟩
  refine ⟨_, rfl, _, _, rfl, rfl, _, rfl, ?_⟩
  by_cases z : 1 ≤ a
  ·rw [show decide ((1 : Int) ≤ ((a : Nat) : Int)) = true from decide_eq_true (by omega)]
   refine iteT ⟨_, rfl, p, c.poll, dx, fs, _, rfl, h1, T.poll.cl, T.poll.no _ (by decide +kernel), h2, _, _, rfl, rfl, ?_⟩
   have e : decide (((a : Nat) : Int) ≤ ((p'.size : Nat) : Int)) = decide (1 ≤ a ∧ a ≤ p'.size) := by rw [Bool.eq_iff_iff, decide_eq_true_iff, decide_eq_true_iff]; omega
   show Q (.bl (decide (((a : Nat) : Int) ≤ ((p'.size : Nat) : Int)))) H
   rw [e]
   exact k
  ·rw [show decide ((1 : Int) ≤ ((a : Nat) : Int)) = false from decide_eq_false (by omega)]
   have e : decide (1 ≤ a ∧ a ≤ p'.size) = false := decide_eq_false (by omega)
   have k2 : Q (.bl (decide (1 ≤ a ∧ a ≤ p'.size))) H := k
   rw [e] at k2
   exact iteF k2
theorem sc28 : FnScope ["poll", "a", "b"] ["poll", "a", "b"] (defScope (top 28)) := ⟨rfl, rfl, rfl, by decide +kernel, rfl, by decide +kernel, by decide +kernel⟩
def spPNN (c : Cs) (f : Poll → Nat → Nat → V) : Sp := fun vs H Q _ => ∃ p p' a b, vs = [.ref p, natV a, natV b] ∧ PollAt c H p p' ∧ Q (f p' a b) H
theorem ok_both (D : DefAt K mg "has_both" (top 28) ["poll", "a", "b"]) (C : Callee P w K mg base "has_candidate" 1 ["poll", "candidate"] (spPN c fun p a => .bl (decide (a < p.size)))) : Callee P w K mg base "has_both" 3 ["poll", "a", "b"] (spPNN c fun p a b => .bl (decide (a < p.size ∧ b < p.size))) := by
 refine D.ok sc28 (fun vs H Q E h => ?_) fun f cdv A outer s H vs Q E hr h => ?_
 ·obtain ⟨p, p', a, b, rfl, _⟩ := h
  rfl
 ·obtain ⟨p, p', a, b, rfl, hp, k⟩ := h
  refine ⟨_, pss_one (ps_ret (pe_and (pe_fn C (hr.mono (by decide)) (pa_cons (pv 0) (pa_cons (pv 1) pa_nil))) (pe_one (pe_fn C (hr.mono (by decide)) (pa_cons (pv 0) (pa_cons (pv 2) pa_nil)))))), ?_⟩
  refine ⟨_, rfl, _, rfl, p, p', a, rfl, hp, _, rfl, ?_⟩
  have k2 : Q (.bl (decide (a < p'.size ∧ b < p'.size))) H := k
  by_cases z : a < p'.size
  ·rw [decide_eq_true z]
   refine iteT ⟨_, rfl, _, rfl, p, p', b, rfl, hp, ?_⟩
   rw [show decide (a < p'.size ∧ b < p'.size) = decide (b < p'.size) by rw [Bool.eq_iff_iff, decide_eq_true_iff, decide_eq_true_iff]; omega] at k2
   exact k2
  ·rw [decide_eq_false z]
   rw [show decide (a < p'.size ∧ b < p'.size) = false from decide_eq_false (by omega)] at k2
   exact iteF k2
theorem sc29 : FnScope ["poll", "place"] ["poll", "place"] (defScope (top 29)) := ⟨rfl, rfl, rfl, by decide +kernel, rfl, by decide +kernel, by decide +kernel⟩
theorem ok_hasb (T : Txt K mg c) (D : DefAt K mg "has_ballot" (top 29) ["poll", "place"]) : Callee P w K mg base "has_ballot" 1 ["poll", "place"] (spPN c fun p a => .bl (decide (a < p.ballots.length))) := by
 refine D.ok sc29 (fun vs H Q E h => ?_) fun f cdv A outer s H vs Q E hr h => ?_
 ·obtain ⟨p, p', a, rfl, _⟩ := h
  rfl
 ·obtain ⟨p, p', a, rfl, ⟨l, dx, fs, as0, h1, h2, h3, h4, h5⟩, k⟩ := h
  refine ⟨_, pss_one (ps_ret (pe_chain op_le op_lt pe_int (pv 1) (pe_callB call_len_seq rfl T.len PySem.boot_len (pa_cons (pe_fld (pv 0) rfl) pa_nil)))), ?_⟩
  refine ⟨_, rfl, _, _, rfl, rfl, _, rfl, ?_⟩
  rw [show decide ((0 : Int) ≤ ((a : Nat) : Int)) = true from decide_eq_true (by omega)]
  refine iteT ⟨_, rfl, p, c.poll, dx, fs, _, rfl, h1, T.poll.cl, T.poll.no _ (by decide +kernel), h3, l, _, rfl, .inl (SqL.of h4), _, _, rfl, rfl, ?_⟩
  have hl : (as0.map V.ref).length = p'.ballots.length := by rw [List.length_map, h5.len]
  have e : decide (((a : Nat) : Int) < (((as0.map V.ref).length : Nat) : Int)) = decide (a < p'.ballots.length) := by rw [hl, Bool.eq_iff_iff, decide_eq_true_iff, decide_eq_true_iff]; omega
  show Q (.bl (decide (((a : Nat) : Int) < (((as0.map V.ref).length : Nat) : Int)))) H
  rw [e]
  exact k
theorem sc30 : FnScope ["poll"] ["poll"] (defScope (top 30)) := ⟨rfl, rfl, rfl, by decide +kernel, rfl, by decide +kernel, by decide +kernel⟩
def spP0 (c : Cs) (f : Poll → V) : Sp := fun vs H Q _ => ∃ p p', vs = [.ref p] ∧ PollAt c H p p' ∧ Q (f p') H
theorem ok_full (T : Txt K mg c) (D : DefAt K mg "is_full" (top 30) ["poll"]) (I2 : IntAt mg "MOST_BALLOTS" 64) : Callee P w K mg base "is_full" 1 ["poll"] (spP0 c fun p => .bl (decide (64 ≤ p.ballots.length))) := by
 refine D.ok sc30 (fun vs H Q E h => ?_) fun f cdv A outer s H vs Q E hr h => ?_
 ·obtain ⟨p, p', rfl, _⟩ := h
  rfl
 ·obtain ⟨p, p', rfl, ⟨l, dx, fs, as0, h1, h2, h3, h4, h5⟩, k⟩ := h
  refine ⟨_, pss_one (ps_ret (pe_cmpR op_ge (pe_callB call_len_seq rfl T.len PySem.boot_len (pa_cons (pe_fld (pv 0) rfl) pa_nil)) (pe_cst I2) (nomark _))), ?_⟩
  have hl : (as0.map V.ref).length = p'.ballots.length := by rw [List.length_map, h5.len]
  refine ⟨_, rfl, p, c.poll, dx, fs, _, rfl, h1, T.poll.cl, T.poll.no _ (by decide +kernel), h3, l, _, rfl, .inl (SqL.of h4), _, _, rfl, rfl, ?_⟩
  have e : decide ((64 : Int) ≤ (((as0.map V.ref).length : Nat) : Int)) = decide (64 ≤ p'.ballots.length) := by rw [hl, Bool.eq_iff_iff, decide_eq_true_iff, decide_eq_true_iff]; omega
  show Q (.bl (decide ((64 : Int) ≤ (((as0.map V.ref).length : Nat) : Int)))) H
  rw [e]
  exact k
theorem sub_len {α : Type} [DecidableEq α] : ∀ {l t : List α}, l.Nodup → (∀ m ∈ l, m ∈ t) → l.length ≤ t.length := by
 intro l
 induction l with
 | nil => intro t _ _; exact Nat.zero_le _
 | cons a l ih =>
  intro t nd h
  have nd' := List.nodup_cons.mp nd
  have h1 : l.length ≤ (t.erase a).length := ih nd'.2 fun m hm => (List.mem_erase_of_ne (fun z : m = a => nd'.1 (by rw [← z]; exact hm))).mpr (h m (List.mem_cons_of_mem _ hm))
  have h2 := List.length_erase_of_mem (h a List.mem_cons_self)
  have h3 : 0 < t.length := List.length_pos_of_mem (h a List.mem_cons_self)
  rw [List.length_cons]
  omega
theorem nodup_cover {α : Type} [DecidableEq α] : ∀ {ns ks : List α}, (∀ x ∈ ks, x ∈ ns) → ks.Nodup → ns.length ≤ ks.length → ns.Nodup
 | [], _, _, _, _ => .nil
 | x :: r, ks, h, nd, hl => by
  by_cases hx : x ∈ r
  ·have := sub_len nd (t := r) fun m hm => by
    rcases List.mem_cons.mp (h m hm) with z | z
    ·rw [z]; exact hx
    ·exact z
   rw [List.length_cons] at hl
   omega
  ·refine List.nodup_cons.mpr ⟨hx, nodup_cover (ks := ks.erase x) (fun y hy => ?_) (nd.erase x) ?_⟩
   ·have hne : y ≠ x := fun z => by
     rw [z] at hy
     exact (List.Nodup.mem_erase_iff nd).mp hy |>.1 rfl
    exact (List.mem_cons.mp (h y (List.mem_of_mem_erase hy))).resolve_left hne
   ·have h1 := List.length_erase (a := x) (l := ks)
    rw [List.length_cons] at hl
    split at h1 <;> omega
theorem apart_iff : ∀ {o : List Nat}, apart o = true ↔ o.Nodup
 | [] => by simp [apart]
 | x :: r => by
  show (!r.contains x && apart r) = true ↔ _
  rw [Bool.and_eq_true, apart_iff, List.nodup_cons]
  simp
def spOrder (c : Cs) : Sp := fun vs H Q _ => ∃ p p' r o, vs = [.ref p, .ref r] ∧ PollAt c H p p' ∧ FrzL H r (o.map natV) ∧ o.length ≤ 16000 ∧ (∀ x ∈ o, x < 2 ^ 63) ∧ ∀ H', Same H H' → Q (.bl (apart o && o.all fun x => decide (x < p'.size))) H'
theorem sc32 : FnScope ["poll", "order", "none_twice", "candidate"] ["poll", "order"] (defScope (top 32)) := ⟨rfl, rfl, rfl, by decide +kernel, rfl, by decide +kernel, by decide +kernel⟩
theorem ok_torder (T : Txt K mg c) (D : DefAt K mg "takes_order" (top 32) ["poll", "order"]) (C : Callee P w K mg base "has_candidate" 1 ["poll", "candidate"] (spPN c fun p a => .bl (decide (a < p.size)))) : Callee P w K mg base "takes_order" 3 ["poll", "order"] (spOrder c) := by
 refine D.ok sc32 (fun vs H Q E h => ?_) fun f cdv A outer s H vs Q E hr h => ?_
 ·obtain ⟨p, p', r, o, rfl, _⟩ := h
  rfl
 ·obtain ⟨p, p', r, o, rfl, hp, hf, hl, hb, k⟩ := h
  refine ⟨_, pss_cons (ps_set (i := 2) sc32.nd rfl (Or.inl rfl) (pe_cmpR op_eq (pe_callB call_len_setR rfl T.len PySem.boot_len (pa_cons (pe_callTy (call_setR rfl) rfl T.set boot_set (pa_cons (pv 1) pa_nil)) pa_nil)) (pe_callB call_len_seq rfl T.len PySem.boot_len (pa_cons (pv 1) pa_nil)) (nomark _)))
   (pss_one (ps_ret (pe_and (pv 2) (pe_one (pe_callB (cr_all rfl) rfl T.all boot_all (pa_cons (pe_lc (own := [("candidate", 3)]) (g := gName 3) (tt := tYes) (te := tCall (spPN c fun p a => .bl (decide (a < p.size))) [] E0 (tCons (tVar 0) (tCons (tVar 3) tNil))) rfl sc32.nd (pi_list (pv 1))
    (blkOk_by (N := ["poll", "order", "none_twice", "candidate"]) (sc := defScope (top 32)) (by decide +kernel)) (fun _ _ _ _ _ => pg_name (i := 3) sc32.nd rfl (Or.inl rfl)) (fun _ _ _ _ _ => pts_nil) (fun _ _ _ _ _ => pe_fn C (hr.mono (by decide)) (pa_cons (pv 0) (pa_cons (pv 3) pa_nil)))) pa_nil)))))), ?_⟩
  have hf' : FrzL H r ((o.map Int.ofNat).map V.int) := by rw [← natV_ints]; exact hf
  refine ⟨_, rfl, r, o.map Int.ofNat, rfl, hf', by rw [List.length_map]; omega, fun z hz => ?_, fun q es hq hsz nd mem => ?_⟩
  ·obtain ⟨x, hx, rfl⟩ := List.mem_map.mp hz
   have := hb x hx
   exact ⟨Int.natCast_nonneg _, by show ((x : Nat) : Int) < 2 ^ 63; omega⟩
  rw [List.length_map] at hsz
  have m0 : Same H (upd H q (HoSet q es)) := same_new (Same.refl _) hq
  refine ⟨q, es, rfl, upd_same, by omega, _, rfl, r, _, rfl, .inl (hf.mono m0).sq, rfl, ?_⟩
  have e1 : decide (V.int ((es.size : Nat) : Int) = V.int (((o.map natV).length : Nat) : Int)) = apart o := by
   rw [List.length_map, Bool.eq_iff_iff, decide_eq_true_iff, apart_iff]
   have hk : (es.toList.map ST.keyOf).length = es.size := by rw [List.length_map, Array.length_toList]
   constructor
   ·intro z
    have z2 : ((es.size : Nat) : Int) = ((o.length : Nat) : Int) := V.int.inj z
    have nd2 := nodup_cover (ns := o.map Int.ofNat) (ks := es.toList.map ST.keyOf) (fun x hx => (mem x).mp hx) nd (by rw [hk, List.length_map]; omega)
    exact List.Pairwise.of_map Int.ofNat (fun a b h z => h (by rw [z])) nd2
   ·intro z
    have nd2 : (o.map Int.ofNat).Nodup := List.Pairwise.map Int.ofNat (fun a b h z => h (Int.ofNat.inj z)) z
    have h1 : (o.map Int.ofNat).length ≤ (es.toList.map ST.keyOf).length := by
     exact sub_len nd2 fun x hx => (mem x).mpr hx
    rw [hk, List.length_map] at h1
    congr 1
    omega
  rw [e1]
  refine ⟨_, rfl, _, rfl, ?_⟩
  cases ap : apart o with
  | false =>
   have k2 : ∀ H', Same H H' → Q (.bl (apart o && o.all fun x => decide (x < p'.size))) H' := k
   rw [ap, Bool.false_and] at k2
   exact iteF (k2 _ m0)
  | true =>
   refine iteT ⟨_, rfl, r, rfl, ⟨_, (hf.mono m0).sq⟩, fun D hD => lcL (fun i => (o[i]?).map fun x => .bl (decide (x < p'.size))) hD (hf.mono m0).sq (by rw [List.length_map]; omega) (fun i x H' hi sm R R' hR hR' => ?_) fun H' sm hD' => ?_⟩
   ·rw [List.getElem?_map] at hi
    cases e : o[i]? with
    | none =>
     rw [e] at hi
     cases hi
    | some a =>
     rw [e] at hi
     cases hi
     exact ⟨rfl, _, rfl, _, rfl, p, p', a, rfl, hp.mono (m0.trans sm), hR _ _ (by rw [e]; rfl) (Same.refl _)⟩
   ·rw [List.length_map, fm_all (g := fun x => .bl (decide (x < p'.size))) (fun i b e => by rw [e]; rfl)] at hD'
    refine ⟨D, o.map fun x => decide (x < p'.size), rfl, SqL.of (by rw [hD', List.map_map]; rfl), ?_⟩
    have k2 : Q (.bl (apart o && o.all fun x => decide (x < p'.size))) H' := k H' (m0.trans sm)
    rw [ap, Bool.true_and] at k2
    rw [List.all_map]
    exact k2
end
structure MethAt (K : PySem.W.Frag) (C : Addr) (m qual : Str) (st : Stmt) (ps : List Str) : Prop where
 ex : ∃ f fd, Fun K m qual st f fd ∧ Meth K C m f ∧ Binds K fd ps []
structure Method (P : Program) (w : World) (K : PySem.W.Frag) (mg : Str → Option Value) (base : Heap) (C : Addr) (m : Str) (k : Nat) (ps : List Str) (sp : Sp) : Prop where
 ex : ∃ f fd, FnOk P w K mg base CX0 k f fd ps sp ∧ Meth K C m f ∧ Binds K fd ps []
section
variable {P : Program} {w : World} {K : PySem.W.Frag} {mg : Str → Option Value} {base : Heap} {c : Cs}
theorem MethAt.ok {m qual : Str} {C : Addr} {st : Stmt} {N ps : List Str} {k : Nat} {sp : Sp} (D : MethAt K C m qual st ps) (S : FnScope N ps (defScope st)) (len : ∀ vs H Q E, sp vs H Q E → vs.length = ps.length)
  (hbody : ∀ (f : Addr) (cdv : Value) (A : Around) (outer : List Env) (s : Shared) (H : Hp) (vs : List V) (Q : VK) (E : XK), Room k (A.deeper (envOfC qual (defScope st) s.heap.objs.size f cdv)) → sp vs H Q E →
   ∃ t, PSs (cxOf CX0 P w K mg base N qual (defScope st) f cdv A outer s H E).nox (defBody st) t ∧ t { nx := fun _ H' => Q .non H', rt := Q } (L2.start N vs) H) : Method P w K mg base C m (k + 1) ps sp := by
 obtain ⟨f, fd, F, mt, b⟩ := D.ex
 exact ⟨f, fd, F.ok S len (hbody f), mt, b⟩
end
theorem pe_mt {X : Cx} {m : Str} {C : Addr} {apos pos : Pos} {o e : Expr} {es : List Expr} {ta : TE} {t : TA} {k : Nat} {ps : List Str} {sp : Sp} {pl : Sem Bool} (M : Method X.prog X.w X.K X.mg X.base C m k ps sp) (cl : Cls X.K C) (he : PE X o ta) (hr : Room k X.A) (ha : PA X (e :: es) t)
  (hst : starEach (e :: es) X.env = (false, eval e X.env) :: starEach es X.env := by rfl) (hpl : (backTo pos (starEach es X.env)).any (·.1) = false := by rfl)
  (ht : eval (.Call (.Attribute o m apos) (e :: es) [] pos) X.env = (do
   let ov ← eval o X.env
   standAt apos.atName
   let (f, first) ← holding [ov] (getMethod ov m pl)
   callWith pos f first (backTo pos (starEach (e :: es) X.env)) (backToKw pos (keywordEach [] X.env))) := by rfl) : PE X (.Call (.Attribute o m apos) (e :: es) [] pos) (tMeth C m sp [] E0 ta t) := by
 obtain ⟨f, fd, F, mt, b⟩ := M.ex
 exact pe_meth he cl mt F hr b .nil pass0 ha hst hpl ht
theorem pe_mt0 {X : Cx} {m : Str} {C : Addr} {apos pos : Pos} {o : Expr} {ta : TE} {k : Nat} {ps : List Str} {sp : Sp} {pl : Sem Bool} (M : Method X.prog X.w X.K X.mg X.base C m k ps sp) (cl : Cls X.K C) (he : PE X o ta) (hr : Room k X.A)
  (ht : eval (.Call (.Attribute o m apos) [] [] pos) X.env = (do
   let ov ← eval o X.env
   standAt apos.atName
   let (f, first) ← holding [ov] (getMethod ov m pl)
   callWith pos f first (backTo pos (starEach [] X.env)) (backToKw pos (keywordEach [] X.env))) := by rfl) : PE X (.Call (.Attribute o m apos) [] [] pos) (tMeth C m sp [] E0 ta tNil) := by
 obtain ⟨f, fd, F, mt, b⟩ := M.ex
 exact pe_meth0 he cl mt F hr b .nil pass0 ht
theorem put_as {T : Hp → Prop} {H : Hp} {x C dx : Addr} {g : Str} {fs : List (Str × V)} {v v' : V} (e : v = v') (h : T (upd H x (.ins C dx (putF g v' fs)))) : T (upd H x (.ins C dx (putF g v fs))) := by
 rw [e]
 exact h
structure RdFs (fs : List (Str × V)) (a : Addr) (i : Nat) : Prop where
 nums : lk fs "numbers" = some (.ref a)
 place : lk fs "place" = some (natV i)
 m1 : lk fs "has_more" = none
 m2 : lk fs "take" = none
 m3 : lk fs "take_call" = none
 few : fs.length ≤ 2
def ReaderAt (c : Cs) (H : Hp) (x a : Addr) (i : Nat) : Prop := ∃ dx fs, H x = some (.ins c.reader dx fs) ∧ RdFs fs a i
theorem RdFs.move {fs : List (Str × V)} {a : Addr} {i j : Nat} (h : RdFs fs a i) : RdFs (putF "place" (natV j) fs) a j := by
 have len : ∀ {fs : List (Str × V)} {v w : V}, lk fs "place" = some w → (putF "place" v fs).length = fs.length := by
  intro fs v w
  induction fs with
  | nil => intro z; cases z
  | cons p r ih =>
   intro z
   obtain ⟨g, x⟩ := p
   show (if g = ("place" : Str) then (g, v) :: r else (g, x) :: putF "place" v r).length = _
   by_cases e : g = ("place" : Str)
   ·rw [if_pos e]
    rfl
   ·rw [if_neg e, List.length_cons, List.length_cons, ih]
    have z' : List.lookup ("place" : Str) ((g, x) :: r) = some w := z
    rw [List.lookup_cons, show (("place" : Str) == g) = false from beq_eq_false_iff_ne.mpr (fun q => e q.symm)] at z'
    exact z'
 refine ⟨?_, ?_, ?_, ?_, ?_, by rw [len h.place]; exact h.few⟩
 ·show List.lookup _ (putF _ _ _) = _
  rw [lookup_putF, if_neg (by decide +kernel)]
  exact h.nums
 ·show List.lookup _ (putF _ _ _) = _
  rw [lookup_putF, if_pos rfl]
 ·show List.lookup _ (putF _ _ _) = _
  rw [lookup_putF, if_neg (by decide +kernel)]
  exact h.m1
 ·show List.lookup _ (putF _ _ _) = _
  rw [lookup_putF, if_neg (by decide +kernel)]
  exact h.m2
 ·show List.lookup _ (putF _ _ _) = _
  rw [lookup_putF, if_neg (by decide +kernel)]
  exact h.m3
theorem cut_nat (ns : List Nat) (i j : Nat) (h : j ≤ ns.length) (hi : i ≤ j) : cutV (ns.map natV) (some ((i : Nat) : Int)) (some ((j : Nat) : Int)) = ((ns.drop i).take (j - i)).map natV := by
 unfold cutV
 rw [HT.sIx_nat, HT.sIx_nat, List.length_map, Nat.min_eq_left (show i ≤ ns.length by omega), Nat.min_eq_left h, ← List.map_drop, ← List.map_take]
section
variable {P : Program} {w : World} {K : PySem.W.Frag} {mg : Str → Option Value} {base : Heap} {c : Cs}
def spCallI (c : Cs) : Sp := fun vs H Q _ => ∃ x dx k w r, vs = [.ref x, natV k, .ref w, .ref r] ∧ H x = some (.ins c.call dx []) ∧ ∀ H', (∃ fs, H' x = some (.ins c.call dx fs) ∧ lk fs "number" = some (natV k) ∧ lk fs "wholes" = some (.ref w) ∧ lk fs "row" = some (.ref r)) → (∀ b u, H b = some u → b ≠ x → H' b = some u) → Q .non H'
theorem sc37 : FnScope ["self", "number", "wholes", "row"] ["self", "number", "wholes", "row"] (defScope (inClass (top 37) 0)) := ⟨rfl, rfl, rfl, by decide +kernel, rfl, by decide +kernel, by decide +kernel⟩
theorem ok_callI (T : Txt K mg c) (D : MakeAt K mg "Call" c.call "Call.__init__" (inClass (top 37) 0) ["self", "number", "wholes", "row"]) : Maker P w K mg base "Call" c.call 1 ["self", "number", "wholes", "row"] (spCallI c) := by
 refine D.ok sc37 (fun vs H Q E h => ?_) fun f cdv A outer s H vs Q E hr h => ?_
 ·obtain ⟨x, dx, k, w, r, rfl, _⟩ := h
  rfl
 ·obtain ⟨x, dx, n, w, r, rfl, hx, k⟩ := h
  refine ⟨_, pss_cons (ps_fld (pv 0) (pv 1) rfl) (pss_cons (ps_fld (pv 0) (pv 2) rfl) (pss_one (ps_fld (pv 0) (pv 3) rfl))), ?_⟩
  refine ⟨_, rfl, _, rfl, x, c.call, dx, _, rfl, hx, T.call.cl, T.call.no _ (by decide +kernel), (by show 0 < 1000; decide), ?_⟩
  refine ⟨_, rfl, _, rfl, x, c.call, dx, _, rfl, upd_same, T.call.cl, T.call.no _ (by decide +kernel), (by show 1 < 1000; decide), ?_⟩
  refine ⟨_, rfl, _, rfl, x, c.call, dx, _, rfl, upd_same, T.call.cl, T.call.no _ (by decide +kernel), Nat.lt_of_le_of_lt (length_putF _ _ _) (by show 2 < 1000; decide), ?_⟩
  refine k _ ⟨_, upd_same, ?_, ?_, ?_⟩ fun b u e hb => by rw [upd_ne hb, upd_ne hb, upd_ne hb]; exact e
  ·show List.lookup _ (putF _ _ (putF _ _ (putF _ _ _))) = _
   rw [lookup_putF, if_neg (by decide +kernel), lookup_putF, if_neg (by decide +kernel), lookup_putF, if_pos rfl]
  ·show List.lookup _ (putF _ _ (putF _ _ (putF _ _ _))) = _
   rw [lookup_putF, if_neg (by decide +kernel), lookup_putF, if_pos rfl]
  ·show List.lookup _ (putF _ _ (putF _ _ (putF _ _ _))) = _
   rw [lookup_putF, if_pos rfl]
def spReadI (c : Cs) : Sp := fun vs H Q _ => ∃ x dx a, vs = [.ref x, .ref a] ∧ H x = some (.ins c.reader dx []) ∧ ∀ H', ReaderAt c H' x a 0 → (∀ b u, H b = some u → b ≠ x → H' b = some u) → Q .non H'
theorem sc38 : FnScope ["self", "numbers"] ["self", "numbers"] (defScope (inClass (top 38) 0)) := ⟨rfl, rfl, rfl, by decide +kernel, rfl, by decide +kernel, by decide +kernel⟩
theorem ok_readI (T : Txt K mg c) (D : MakeAt K mg "Reader" c.reader "Reader.__init__" (inClass (top 38) 0) ["self", "numbers"]) : Maker P w K mg base "Reader" c.reader 1 ["self", "numbers"] (spReadI c) := by
 refine D.ok sc38 (fun vs H Q E h => ?_) fun f cdv A outer s H vs Q E hr h => ?_
 ·obtain ⟨x, dx, a, rfl, _⟩ := h
  rfl
 ·obtain ⟨x, dx, a, rfl, hx, k⟩ := h
  refine ⟨_, pss_cons (ps_fld (pv 0) (pv 1) rfl) (pss_one (ps_fld (pv 0) pe_int rfl)), ?_⟩
  refine ⟨_, rfl, _, rfl, x, c.reader, dx, _, rfl, hx, T.reader.cl, T.reader.no _ (by decide +kernel), (by show 0 < 1000; decide), ?_⟩
  refine ⟨_, rfl, x, c.reader, dx, _, rfl, upd_same, T.reader.cl, T.reader.no _ (by decide +kernel), (by show 1 < 1000; decide), ?_⟩
  refine k _ ⟨dx, _, upd_same, ?_, ?_, ?_, ?_, ?_, Nat.le_trans (length_putF _ _ _) (Nat.succ_le_succ (length_putF _ _ _))⟩ fun b u e hb => by rw [upd_ne hb, upd_ne hb]; exact e
  ·show List.lookup _ (putF _ _ (putF _ _ _)) = _
   rw [lookup_putF, if_neg (by decide +kernel), lookup_putF, if_pos rfl]
  ·show List.lookup _ (putF _ _ (putF _ _ _)) = _
   rw [lookup_putF, if_pos rfl]
   rfl
  all_goals
   show List.lookup _ (putF _ _ (putF _ _ _)) = _
   rw [lookup_putF, if_neg (by decide +kernel), lookup_putF, if_neg (by decide +kernel)]
   rfl
def spMore (c : Cs) : Sp := fun vs H Q _ => ∃ (x a : Addr) (i : Nat) (ns : List Nat), vs = [.ref x] ∧ ReaderAt c H x a i ∧ FrzL H a (ns.map natV) ∧ Q (.bl (decide (i < ns.length))) H
theorem sc38b : FnScope ["self"] ["self"] (defScope (inClass (top 38) 1)) := ⟨rfl, rfl, rfl, by decide +kernel, rfl, by decide +kernel, by decide +kernel⟩
theorem ok_more (T : Txt K mg c) (D : MethAt K c.reader "has_more" "Reader.has_more" (inClass (top 38) 1) ["self"]) : Method P w K mg base c.reader "has_more" 1 ["self"] (spMore c) := by
 refine D.ok sc38b (fun vs H Q E h => ?_) fun f cdv A outer s H vs Q E hr h => ?_
 ·obtain ⟨x, a, i, ns, rfl, _⟩ := h
  rfl
 ·obtain ⟨x, a, i, ns, rfl, ⟨dx, fs, hx, hf⟩, hn, k⟩ := h
  refine ⟨_, pss_one (ps_ret (pe_cmpR op_lt (pe_fld (pv 0) rfl) (pe_callB call_len_seq rfl T.len PySem.boot_len (pa_cons (pe_fld (pv 0) rfl) pa_nil)) (nomark _))), ?_⟩
  refine ⟨_, rfl, x, c.reader, dx, fs, _, rfl, hx, T.reader.cl, T.reader.no _ (by decide +kernel), hf.place, _, rfl, x, c.reader, dx, fs, _, rfl, hx, T.reader.cl, T.reader.no _ (by decide +kernel), hf.nums, a, _, rfl, .inl hn.sq, _, _, rfl, rfl, ?_⟩
  have e : decide (((i : Nat) : Int) < (((ns.map natV).length : Nat) : Int)) = decide (i < ns.length) := by rw [List.length_map, Bool.eq_iff_iff, decide_eq_true_iff, decide_eq_true_iff]; omega
  show Q (.bl (decide (((i : Nat) : Int) < (((ns.map natV).length : Nat) : Int)))) H
  rw [e]
  exact k
def spTake (c : Cs) : Sp := fun vs H Q _ => ∃ (x a : Addr) (i n : Nat) (ns : List Nat), vs = [.ref x, natV n] ∧ ReaderAt c H x a i ∧ FrzL H a (ns.map natV) ∧ i + n ≤ ns.length ∧ ∀ H' r, ReaderAt c H' x a (i + n) → FrzL H' r (((ns.drop i).take n).map natV) → H r = none → (∀ b u, H b = some u → b ≠ x → H' b = some u) → Q (.ref r) H'
theorem sc38c : FnScope ["self", "length", "start"] ["self", "length"] (defScope (inClass (top 38) 2)) := ⟨rfl, rfl, rfl, by decide +kernel, rfl, by decide +kernel, by decide +kernel⟩
theorem ok_take (T : Txt K mg c) (D : MethAt K c.reader "take" "Reader.take" (inClass (top 38) 2) ["self", "length"]) : Method P w K mg base c.reader "take" 1 ["self", "length"] (spTake c) := by
 refine D.ok sc38c (fun vs H Q E h => ?_) fun f cdv A outer s H vs Q E hr h => ?_
 ·obtain ⟨x, a, i, n, ns, rfl, _⟩ := h
  rfl
 ·obtain ⟨x, a, i, n, ns, rfl, ⟨dx, fs, hx, hf⟩, hn, hl, k⟩ := h
  refine ⟨_, pss_cons (ps_set (i := 2) sc38c.nd rfl (Or.inl rfl) (pe_fld (pv 0) rfl)) (pss_cons (ps_fld (pv 0) (pe_op op_add (pv 2) (pv 1)) rfl) (pss_one (ps_ret (pe_slice sl_frz (pe_fld (pv 0) rfl) (po_some (pv 2)) (po_some (pe_fld (pv 0) rfl)))))), ?_⟩
  have hax : a ≠ x := fun z => by
   obtain ⟨ob, e, _⟩ := hn
   rw [z, hx] at e
   cases e
  have few := hf.few
  refine ⟨_, rfl, x, c.reader, dx, fs, _, rfl, hx, T.reader.cl, T.reader.no _ (by decide +kernel), hf.place, ?_⟩
  refine ⟨_, rfl, _, rfl, _, _, rfl, rfl, _, rfl, x, c.reader, dx, fs, rfl, hx, T.reader.cl, T.reader.no _ (by decide +kernel), by omega, ?_⟩
  have ev : V.int ((i : Int) + (n : Int)) = natV (i + n) := by
   show _ = V.int ((i + n : Nat) : Int)
   rw [Int.natCast_add]
  refine put_as ev ?_
  have hf2 := hf.move (j := i + n)
  have hn2 : FrzL (upd H x (.ins c.reader dx (putF "place" (natV (i + n)) fs))) a (ns.map natV) := by
   obtain ⟨ob, e, tk⟩ := hn
   exact ⟨ob, by rw [upd_ne hax]; exact e, tk⟩
  refine ⟨_, rfl, x, c.reader, dx, _, _, rfl, upd_same, T.reader.cl, T.reader.no _ (by decide +kernel), hf2.nums, _, rfl, _, rfl, _, rfl, x, c.reader, dx, _, _, rfl, upd_same, T.reader.cl, T.reader.no _ (by decide +kernel), hf2.place, _, rfl, a, _, rfl, hn2, fun r ob hr0 tk => ?_⟩
  have hxr : x ≠ r := ne_of_none upd_same hr0
  have hr1 : H r = none := by rw [upd_ne (Ne.symm hxr)] at hr0; exact hr0
  refine k _ r ⟨dx, _, by rw [upd_ne hxr, upd_same], hf2⟩ ⟨ob, ?_, tk⟩ hr1 fun b u e hb => ?_
  ·rw [upd_same, cut_nat ns i (i + n) hl (by omega)]
   rw [show i + n - i = n by omega]
  ·rw [upd_ne (ne_of_none e hr1), upd_ne hb]
   exact e
end
def wholesL : List Nat := [1, 1, 1, 1, 0, 2, 0, 0, 2, 0, 0, 1, 1, 0, 0]
def wN (k : Nat) : Nat := wholesL.getD k 0
structure Took (ns : List Nat) (i k : Nat) (ws row : List Nat) (j : Nat) : Prop where
 at_ : ns[i]? = some k
 wide : k < 15
 wlen : i + 1 + wN k ≤ ns.length
 ws_ : ws = (ns.drop (i + 1)).take (wN k)
 oth : k ≠ 1 → j = i + 1 + wN k
 vote : k = 1 → ∃ n, ns[i + 2]? = some n ∧ i + 3 + n ≤ ns.length ∧ row = (ns.drop (i + 3)).take n ∧ j = i + 3 + n
def CallAt (c : Cs) (H : Hp) (y : Addr) (k : Nat) (ws row : List Nat) : Prop := ∃ dx fs w r, H y = some (.ins c.call dx fs) ∧ lk fs "number" = some (natV k) ∧ lk fs "wholes" = some (.ref w) ∧ FrzL H w (ws.map natV) ∧ lk fs "row" = some (.ref r) ∧ (k = 1 → FrzL H r (row.map natV))
theorem frz_but {H H' : Hp} {x a : Addr} {xs : List V} (h : FrzL H a xs) (b : But x H H') (hx : a ≠ x) : FrzL H' a xs := by
 obtain ⟨o, e, t⟩ := h
 exact ⟨o, b _ _ e hx, t⟩
theorem frz_ne {H : Hp} {x a : Addr} {xs : List V} {C dx : Addr} {fs : List (Str × V)} (h : FrzL H a xs) (hx : H x = some (.ins C dx fs)) : a ≠ x := fun z => by
 obtain ⟨ob, e, _⟩ := h
 rw [z, hx] at e
 cases e
structure TupAt (K : PySem.W.Frag) (mg : Str → Option Value) (x : Str) (xs : List V) : Prop where
 ex : ∃ a, mg x = some (.ref a) ∧ ∀ H, SqT K H a xs
theorem pe_gref {X : Cx} {x : Str} {a : Addr} {pos : Pos} (h : X.mg x = some (.ref a)) (hg : Gl X x := by rfl) (hd : (x == ("__debug__" : Str)) = false := by decide) : PE X (.Name x pos) (tC (.ref a)) := pe_glob hg h (show RelV (.ref a) (.ref a) from rfl) hd
theorem take_one {ns : List Nat} {i k : Nat} (h : ns[i]? = some k) : (ns.drop i).take 1 = [k] := by
 have hi := (List.getElem?_eq_some_iff.mp h).1
 rw [List.drop_eq_getElem_cons hi, List.take_succ_cons, List.take_zero]
 rw [(List.getElem?_eq_some_iff.mp h).2]
section
variable {P : Program} {w : World} {K : PySem.W.Frag} {mg : Str → Option Value} {base : Heap} {c : Cs}
theorem But.frz {x : Addr} {H H1 H2 : Hp} (a : But x H H1) (b : But x H1 H2) : But x H H2 := fun q o h z => b q o (a q o h z) z
def spTC (c : Cs) : Sp := fun vs H Q _ => ∃ (x a : Addr) (i : Nat) (ns : List Nat) (k : Nat) (ws row : List Nat) (j : Nat), vs = [.ref x] ∧ ReaderAt c H x a i ∧ FrzL H a (ns.map natV) ∧ Took ns i k ws row j ∧ ∀ H' y, ReaderAt c H' x a j → CallAt c H' y k ws row → H y = none → But x H H' → Q (.ref y) H'
theorem sc38d : FnScope ["self", "number", "wholes", "row", "length"] ["self"] (defScope (inClass (top 38) 3)) := ⟨rfl, rfl, rfl, by decide +kernel, rfl, by decide +kernel, by decide +kernel⟩
theorem ok_takeCall (T : Txt K mg c) (W : TupAt K mg "WHOLES" (wholesL.map natV)) (I1 : IntAt mg "CALL_WITH_ROW" 1) (D : MethAt K c.reader "take_call" "Reader.take_call" (inClass (top 38) 3) ["self"])
  (M : Method P w K mg base c.reader "take" 1 ["self", "length"] (spTake c)) (MC : Maker P w K mg base "Call" c.call 1 ["self", "number", "wholes", "row"] (spCallI c)) : Method P w K mg base c.reader "take_call" 3 ["self"] (spTC c) := by
 obtain ⟨wa, hw1, hw2⟩ := W.ex
 refine D.ok sc38d (fun vs H Q E h => ?_) fun f cdv A outer s H vs Q E hr h => ?_
 ·obtain ⟨x, a, i, ns, k, ws, row, j, rfl, _⟩ := h
  rfl
 ·obtain ⟨x, a, i, ns, k, ws, row, j, rfl, hx, hn, tk, q⟩ := h
  refine ⟨_, pss_cons (ps_set (i := 1) sc38d.nd rfl (Or.inl rfl) (pe_ix ix_list (pe_mt M T.reader.cl (pv 0) (hr.mono (by decide)) (pa_cons pe_int pa_nil)) pe_int (fun _ _ => rfl)))
   (pss_cons (ps_set (i := 2) sc38d.nd rfl (Or.inl rfl) (pe_mt M T.reader.cl (pv 0) (hr.mono (by decide)) (pa_cons (pe_ix ix_tup (pe_gref hw1) (pv 1) (fun _ _ => rfl)) pa_nil)))
   (pss_cons (ps_set (i := 3) sc38d.nd rfl (Or.inl rfl) (pe_lst pa_nil))
   (pss_cons (ps_if (pt_cmpR op_eq (pv 1) (pe_cst I1) (nomark _))
    (pss_cons (ps_set (i := 4) sc38d.nd rfl (Or.inl rfl) (pe_ix ix_list (pe_mt M T.reader.cl (pv 0) (hr.mono (by decide)) (pa_cons pe_int pa_nil)) pe_int (fun _ _ => rfl)))
     (pss_one (ps_set (i := 3) sc38d.nd rfl (Or.inl rfl) (pe_mt M T.reader.cl (pv 0) (hr.mono (by decide)) (pa_cons (pv 4) pa_nil))))) pss_nil)
   (pss_one (ps_ret (pe_mk MC (hr.mono (by decide)) (pa_cons (pv 1) (pa_cons (pv 2) (pa_cons (pv 3) pa_nil))))))))), ?_⟩
  have hx0 := hx
  obtain ⟨dx, fs, e1, e2⟩ := hx0
  have hax : a ≠ x := frz_ne hn e1
  have hil := (List.getElem?_eq_some_iff.mp tk.at_).1
  refine ⟨_, rfl, x, dx, fs, rfl, e1, e2.m2, x, a, i, 1, ns, rfl, hx, hn, by omega, fun H1 r1 x1 f1 n1 b1 => ?_⟩
  rw [take_one tk.at_] at f1
  refine ⟨r1, _, _, _, rfl, rfl, f1.sq, atI_nat (j := 0) (v := natV k) rfl, ?_⟩
  have x10 := x1
  obtain ⟨dx1, fs1, e11, e12⟩ := x10
  have hn1 := frz_but hn b1 hax
  refine ⟨_, rfl, x, dx1, fs1, rfl, e11, e12.m2, _, rfl, wa, _, _, _, rfl, rfl, hw2 _, atI_nat (j := k) (v := natV (wN k)) ?_, x, a, i + 1, wN k, ns, rfl, x1, hn1, tk.wlen, fun H2 w2 x2 f2 n2 b2 => ?_⟩
  ·have hk : k < wholesL.length := tk.wide
   rw [List.getElem?_map, List.getElem?_eq_getElem hk]
   show some (natV _) = some (natV (wholesL.getD k 0))
   rw [List.getD_eq_getElem?_getD, List.getElem?_eq_getElem hk]
   rfl
  rw [← tk.ws_] at f2
  refine ⟨(by show 0 ≤ sizeLine; decide), fun r hr3 => ?_⟩
  have hn2 := frz_but hn1 b2 hax
  have b02 : But x H H2 := But.frz b1 b2
  have s3 : Same H2 (upd H2 r (.lst [])) := same_new (Same.refl _) hr3
  have x3 : ReaderAt c (upd H2 r (.lst [])) x a (i + 1 + wN k) := by
   obtain ⟨d, g, z1, z2⟩ := x2
   exact ⟨d, g, s3 _ _ z1, z2⟩
  have hw3 : FrzL (upd H2 r (.lst [])) w2 (ws.map natV) := f2.mono s3
  have b03 : But x H (upd H2 r (.lst [])) := But.frz b02 (Same.but s3)
  have fin : ∀ (H4 : Hp) (r4 : Addr) (v4 : Option V), ReaderAt c H4 x a j → FrzL H4 w2 (ws.map natV) → (k = 1 → FrzL H4 r4 (row.map natV)) → But x H H4 →
    ∀ xx dxx, H4 xx = none → H4 dxx = none → dxx ≠ xx → spCallI c [.ref xx, natV k, .ref w2, .ref r4] (upd (upd H4 dxx (.own xx)) xx (.ins c.call dxx [])) (fun v H5 => v = .non ∧ Q (.ref xx) H5) E0 := by
   intro H4 r4 v4 x4 w4 f4 b4 xx dxx n1 n2 hne
   refine ⟨xx, dxx, k, w2, r4, rfl, upd_same, fun H5 ⟨fs5, g1, g2, g3, g4⟩ b5 => ⟨rfl, ?_⟩⟩
   have s5 : Same H4 H5 := new_same n1 n2 b5
   refine q H5 xx ?_ ⟨dxx, fs5, w2, r4, g1, g2, g3, w4.mono s5, g4, fun z => (f4 z).mono s5⟩ ?_ (But.frz b4 (Same.but s5))
   ·obtain ⟨d, g, z1, z2⟩ := x4
    exact ⟨d, g, s5 _ _ z1, z2⟩
   ·cases ee : H xx with
    | none => rfl
    | some u =>
     by_cases zz : xx = x
     ·obtain ⟨d, g, z1, z2⟩ := x4
      rw [zz, z1] at n1
      cases n1
     ·rw [b4 _ _ ee zz] at n1
      cases n1
  refine ⟨_, rfl, rfl, _, rfl, ?_⟩
  by_cases hk1 : k = 1
  ·obtain ⟨n, t1, t2, t3, t4⟩ := tk.vote hk1
   have w1 : wN k = 1 := by rw [hk1]; rfl
   rw [show decide (natV k = V.int 1) = true by rw [hk1]; rfl]
   obtain ⟨dx3, fs3, e31, e32⟩ := id x3
   have hn3 := hn2.mono s3
   have hl2 := (List.getElem?_eq_some_iff.mp t1).1
   rw [w1] at x3
   refine iteT ⟨_, rfl, x, dx3, fs3, rfl, e31, e32.m2, x, a, i + 2, 1, ns, rfl, x3, hn3, by omega, fun H4 r4 x4 f4 n4 b4 => ?_⟩
   rw [take_one t1] at f4
   obtain ⟨dx4, fs4, e41, e42⟩ := id x4
   have hn4 := frz_but hn3 b4 hax
   refine ⟨r4, _, _, _, rfl, rfl, f4.sq, atI_nat (j := 0) (v := natV n) rfl, _, rfl, x, dx4, fs4, rfl, e41, e42.m2, _, rfl, x, a, i + 3, n, ns, rfl, x4, hn4, t2, fun H5 r5 x5 f5 n5 b5 => ?_⟩
   have hw2x : w2 ≠ x := fun z => by
    obtain ⟨o, e, _⟩ := hw3
    obtain ⟨d, g, z1, _⟩ := x3
    rw [z, z1] at e
    cases e
   rw [← t3] at f5
   rw [← t4] at x5
   exact ⟨_, rfl, _, rfl, _, rfl, fin H5 r5 none x5 (frz_but (frz_but hw3 b4 hw2x) b5 hw2x) (fun _ => f5) (But.frz (But.frz b03 b4) b5)⟩
  ·rw [show decide (natV k = V.int 1) = false from decide_eq_false fun z => hk1 (by have := V.int.inj z; omega)]
   refine iteF ?_
   rw [← tk.oth hk1] at x3
   exact ⟨_, rfl, _, rfl, _, rfl, fin _ r none x3 hw3 (fun z => (hk1 z).elim) b03⟩
end
def Buts (L : List Addr) (H H' : Hp) : Prop := ∀ b o, H b = some o → b ∉ L → H' b = some o
theorem Buts.refl (L : List Addr) (H : Hp) : Buts L H H := fun _ _ h _ => h
theorem Buts.trans {L : List Addr} {H H1 H2 : Hp} (a : Buts L H H1) (b : Buts L H1 H2) : Buts L H H2 := fun c o h n => b c o (a c o h n) n
theorem Buts.wide {L L' : List Addr} {H H1 : Hp} (a : Buts L H H1) (h : ∀ x ∈ L, x ∈ L') : Buts L' H H1 := fun c o e n => a c o e fun z => n (h _ z)
theorem Same.buts {L : List Addr} {H H1 : Hp} (a : Same H H1) : Buts L H H1 := fun c o h _ => a c o h
theorem But.buts {x : Addr} {L : List Addr} {H H1 : Hp} (a : But x H H1) (h : x ∈ L) : Buts L H H1 := fun c o e n => a c o e fun z => n (z ▸ h)
theorem Buts.put {L : List Addr} {H : Hp} {x : Addr} {o : HO} (h : x ∈ L) : Buts L H (upd H x o) := fun c u e n => by
 have ne : c ≠ x := fun z => n (z ▸ h)
 rw [upd_ne ne]
 exact e
theorem Buts.new {L : List Addr} {H H1 : Hp} {x : Addr} {o : HO} (a : Buts L H H1) (hx : H x = none) : Buts L H (L2.upd H1 x o) := fun c u e n => by
 rw [upd_ne (ne_of_none e hx)]
 exact a c u e n
theorem Buts.drop {L : List Addr} {x : Addr} {H H1 : Hp} (a : Buts (x :: L) H H1) (hx : H x = none) : Buts L H H1 := fun c u e n => a c u e fun z => by
 rcases List.mem_cons.mp z with q | q
 ·rw [q, hx] at e
  cases e
 ·exact n q
theorem for_zip {K : PySem.W.Frag} {a b : Addr} {xs ys : List V} {g : TG} {tb : TS} {D : Ends} {σ : L2.St} {H : Hp} (Pv : Nat → L2.St → Hp → Prop) (hxy : ys.length = xs.length) (h0 : Pv 0 σ H) (hl : ∀ i σ H, i ≤ xs.length → Pv i σ H → SqL K H a xs ∧ SqL K H b ys)
  (hs : ∀ i x y T σ H, xs[i]? = some x → ys[i]? = some y → H T = none → Pv i σ H → g (.ref T) σ (upd H T (.tup [x, y])) fun σ2 H2 => tb { D with nx := Pv (i + 1), ct := Pv (i + 1), bk := D.nx } σ2 H2) (hd : ∀ σ H, Pv xs.length σ H → D.nx σ H) :
  ∃ W : Nat → Nat → L2.St → Hp → Prop, (∃ m, W 0 m σ H) ∧ ∀ i m σ H, W i m σ H →
   ((Itz K a b).stop i H ∧ D.nx σ H) ∨ ((Itz K a b).go i H ∧ ∃ N : L2.St → Hp → Prop, (∀ σ' H', N σ' H' → ∃ m', m' < m ∧ W (i + 1) m' σ' H') ∧ ∀ x H', (Itz K a b).yld i H x H' → g x σ H' fun σ2 H2 => tb { D with nx := N, ct := N, bk := D.nx } σ2 H2) := by
 refine ⟨fun i m σ H => m = xs.length - i ∧ i ≤ xs.length ∧ Pv i σ H, ⟨xs.length, by simp, Nat.zero_le _, h0⟩, ?_⟩
 rintro i m σ H ⟨rfl, hi, p⟩
 obtain ⟨q1, q2⟩ := hl i σ H hi p
 by_cases hlt : i < xs.length
 ·have hlt2 : i < ys.length := by omega
  refine .inr ⟨⟨xs, ys, xs[i], ys[i], q1, q2, by simp [hlt], by simp [hlt2]⟩, Pv (i + 1), fun σ' H' p' => ⟨xs.length - (i + 1), by omega, rfl, hlt, p'⟩, fun v H' y => ?_⟩
  obtain ⟨t, u, v, e1, e2, e3, e4, e5⟩ := y
  subst e1 e3
  exact hs i u v t σ _ (e4 xs q1) (e5 ys q2) e2 p
 ·have e : i = xs.length := by omega
  subst e
  exact .inl ⟨⟨xs, ys, q1, q2, .inl (Nat.le_refl _)⟩, hd σ H p⟩
section
variable {P : Program} {w : World} {K : PySem.W.Frag} {mg : Str → Option Value} {base : Heap} {c : Cs}
def spHold : Sp := fun vs H Q _ => ∃ t I o ins, vs = [.ref t, .ref I] ∧ FrzT H t (o.map natV) ∧ H I = some (.lst (ins.map natV)) ∧ Q (optV (PM.holder o ins)) H
theorem sc42 : FnScope ["order", "inside", "candidate"] ["order", "inside"] (defScope (top 42)) := ⟨rfl, rfl, rfl, by decide +kernel, rfl, by decide +kernel, by decide +kernel⟩
theorem ok_holder (D : DefAt K mg "find_holder" (top 42) ["order", "inside"]) : Callee P w K mg base "find_holder" 1 ["order", "inside"] spHold := by
 refine D.ok sc42 (fun vs H Q E h => ?_) fun f cdv A outer s H vs Q E hr h => ?_
 ·obtain ⟨t, I, o, ins, rfl, _⟩ := h
  rfl
 ·obtain ⟨t, I, o, ins, rfl, ht, hI, k⟩ := h
  refine ⟨_, pss_cons (ps_for PassesOwn.never rfl (pi_tup (pv 0)) (pg_name (i := 2) sc42.nd rfl (Or.inl rfl)) (pss_one (ps_if (pt_cmpR op_in_seq (pv 2) (pv 1) rfl) (pss_one (ps_ret (pv 2))) pss_nil))) (pss_one (ps_ret pe_non)), ?_⟩
  refine ⟨_, rfl, t, rfl, ⟨_, ht.sq⟩, for_tup (K := K) (a := t) (xs := o.map natV) (fun i σ H' => H' = H ∧ (∃ v : Option V, σ = [some (.ref t), some (.ref I), v]) ∧ ∀ j x, j < i → o[j]? = some x → ins.contains x = false) ⟨rfl, ⟨none, rfl⟩, fun j x hj => absurd hj (Nat.not_lt_zero _)⟩ (fun i σ H' _ ⟨e, _⟩ => by rw [e]; exact ht.sq) ?_ ?_⟩
  ·rintro i x σ H' hx ⟨e, ⟨v, rfl⟩, no⟩
   subst e
   rw [List.getElem?_map] at hx
   cases ho : o[i]? with
   | none => rw [ho] at hx; cases hx
   | some y =>
    rw [ho] at hx
    cases hx
    refine ⟨_, rfl, _, rfl, I, _, rfl, .inl (SqL.of hI), rfl, flat_nats ins, _, rfl, ?_⟩
    rw [if_neg (by decide), in_nats]
    cases hc : ins.contains y with
    | true =>
     refine iteT ⟨_, rfl, ?_⟩
     have e2 : PM.holder o ins = some y := by
      unfold PM.holder
      rw [List.find?_eq_some_iff_getElem]
      have hi := (List.getElem?_eq_some_iff.mp ho).1
      refine ⟨hc, i, hi, (List.getElem?_eq_some_iff.mp ho).2, fun j hj => ?_⟩
      rw [no j o[j] hj (List.getElem?_eq_getElem (by omega))]
      rfl
     rw [e2] at k
     exact k
    | false =>
     refine iteF ⟨rfl, ⟨_, rfl⟩, fun j x hj hjx => ?_⟩
     by_cases z : j = i
     ·subst z
      rw [ho] at hjx
      cases hjx
      exact hc
     ·exact no j x (by omega) hjx
  ·rintro σ H' ⟨e, ⟨v, rfl⟩, no⟩
   subst e
   have e2 : PM.holder o ins = none := by
    unfold PM.holder
    rw [List.find?_eq_none]
    intro x hx
    obtain ⟨j, hj, ej⟩ := List.mem_iff_getElem.mp hx
    rw [no j x (by rw [List.length_map]; exact hj) (by rw [List.getElem?_eq_getElem hj, ej])]
    decide
   rw [e2] at k
   exact k
end
structure SgFs (fs : List (Str × V)) (l I W : Addr) (g : PM.Sg) : Prop where
 bal : lk fs "ballots" = some (.ref l)
 ins : lk fs "inside" = some (.ref I)
 left : lk fs "seats_left" = some (natV g.left)
 parts : lk fs "parts" = some (.int g.parts)
 quota : lk fs "quota" = some (.int g.quota)
 worths : lk fs "worths" = some (.ref W)
 few : fs.length ≤ 6
structure SeatAt (c : Cs) (H : Hp) (x l I : Addr) (g : PM.Sg) (bs : List Ballot) (z : Addr) : Prop where
 ex : ∃ dx fs W as, H x = some (.ins c.seating dx fs) ∧ SgFs fs l I W g ∧ H W = some (.lst (g.worths.map V.int)) ∧ W ≠ I ∧ W ∉ [l, z] ∧ H l = some (.lst (as.map V.ref)) ∧ BalsAt c H as bs
 ins : H I = some (.lst (g.inside.map natV))
 nI : I ≠ l
def heldKs (ins : List Nat) (f : Nat → Int) : List (Key × V) := ins.map fun (a : Nat) => ((Sum.inl (a : Int) : Key), V.int (f a))
theorem heldKs_val {f : Nat → Int} {a : Nat} : ∀ {ins : List Nat}, a ∈ ins → valV (heldKs ins f) (.inl (a : Int)) = some (.int (f a))
 | [], h => absurd h (by simp)
 | x :: r, h => by
  by_cases e : x = a
  ·subst e
   exact valV_pos (κ := Key) (p := ((Sum.inl (x : Int) : Key), V.int (f x))) rfl
  ·refine (valV_neg (κ := Key) (p := ((Sum.inl (x : Int) : Key), V.int (f x))) (r := heldKs r f) fun z => e ?_).trans (heldKs_val ((List.mem_cons.mp h).resolve_left fun z => e z.symm))
   have := Sum.inl.inj z
   omega
theorem heldKs_none {f : Nat → Int} {a : Nat} : ∀ {ins : List Nat}, a ∉ ins → valV (heldKs ins f) (.inl (a : Int)) = none
 | [], h => rfl
 | x :: r, h => by
  have h' : a ≠ x ∧ a ∉ r := by simpa using h
  refine (valV_neg (κ := Key) (p := ((Sum.inl (x : Int) : Key), V.int (f x))) (r := heldKs r f) fun z => h'.1 ?_).trans (heldKs_none h'.2)
  have := Sum.inl.inj z
  omega
theorem heldKs_put {f g : Nat → Int} {a : Nat} {ins : List Nat} (ha : a ∈ ins) (hg : g a = g a) (h : ∀ x, x ≠ a → g x = f x) : putK (heldKs ins f) (.inl (a : Int)) (.int (g a)) = heldKs ins g := by
 unfold putK
 rw [valV_any, heldKs_val ha, if_pos (show (some (V.int (f a))).isSome = true from rfl)]
 unfold heldKs
 rw [List.map_map]
 refine List.map_congr_left fun x _ => ?_
 show (if Sum.inl (x : Int) = Sum.inl (a : Int) then (Sum.inl (x : Int), V.int (g a)) else (Sum.inl (x : Int), V.int (f x))) = _
 by_cases e : x = a
 ·subst e
  rw [if_pos rfl]
 ·rw [if_neg (fun z => e (by have := Sum.inl.inj z; omega)), h x e]
theorem heldIn_snoc (ins : List Nat) (a : Nat) (p : Ballot × Int) : ∀ l : List (Ballot × Int), PM.heldIn (l ++ [p]) ins a = PM.heldIn l ins a + (if PM.holder p.1.order ins = some a then p.2 else 0)
 | [] => by
  show (if PM.holder p.1.order ins = some a then p.2 else 0) + 0 = 0 + _
  omega
 | q :: r => by
  show _ + PM.heldIn (r ++ [p]) ins a = _ + PM.heldIn r ins a + _
  rw [heldIn_snoc ins a p r]
  omega
section
variable {P : Program} {w : World} {K : PySem.W.Frag} {mg : Str → Option Value} {base : Heap} {c : Cs}
def spHeld (c : Cs) : Sp := fun vs H Q _ => ∃ x l I g bs z, vs = [.ref x] ∧ SeatAt c H x l I g bs z ∧ g.worths.length = bs.length ∧ g.inside.length ≤ 8 ∧ bs.length ≤ 64 ∧ g.inside.Nodup ∧ ∀ H' d, Same H H' → H d = none → H' d = some (.dK (heldKs g.inside (g.held bs))) → Q (.ref d) H'
theorem sc43 : FnScope ["seating", "held", "candidate", "ballot", "worth", "holder"] ["seating"] (defScope (top 43)) := ⟨rfl, rfl, rfl, by decide +kernel, rfl, by decide +kernel, by decide +kernel⟩
theorem ok_held (T : Txt K mg c) (D : DefAt K mg "count_held" (top 43) ["seating"]) (C : Callee P w K mg base "find_holder" 1 ["order", "inside"] spHold) : Callee P w K mg base "count_held" 3 ["seating"] (spHeld c) := by
 refine D.ok sc43 (fun vs H Q E h => ?_) fun f cdv A outer s H vs Q E hr h => ?_
 ·obtain ⟨x, l, I, g, bs, zz, rfl, _⟩ := h
  rfl
 ·obtain ⟨x, l, I, g, bs, zz, rfl, S, hw, h8, h64, nd, k⟩ := h
  obtain ⟨dx, fs, W, as, h1, F, hW, nWI, nWl, hL, hB⟩ := S.ex
  have hI := S.ins
  have hu := hr.units
  refine ⟨_, pss_cons (ps_set (i := 1) sc43.nd rfl (Or.inl rfl) pe_dnewK)
   (pss_cons (ps_for PassesOwn.never rfl (pi_list (pe_fld (pv 0) rfl)) (pg_name (i := 2) sc43.nd rfl (Or.inl rfl)) (pss_one (ps_dput (by show _ < cLine; exact Nat.lt_of_le_of_lt (Nat.add_le_add_left (by decide) _) hu) (pv 1) (pv 2) pe_int rfl)))
   (pss_cons (ps_for PassesOwn.never rfl (pi_zip rfl T.zip (pa_cons (pe_fld (pv 0) rfl) (pa_cons (pe_fld (pv 0) rfl) pa_nil))) (pg_tup rfl (pgs_cons (pg_name (i := 3) sc43.nd rfl (Or.inl rfl)) (pgs_cons (pg_name (i := 4) sc43.nd rfl (Or.inl rfl)) pgs_nil)))
    (pss_cons (ps_set (i := 5) sc43.nd rfl (Or.inl rfl) (pe_fn C (hr.mono (by decide)) (pa_cons (pe_fld (pv 3) rfl) (pa_cons (pe_fld (pv 0) rfl) pa_nil))))
    (pss_one (ps_if (pt_cmpR op_notN (pv 5) pe_non (nomark _)) (pss_one (ps_daug (by show _ < cLine; exact Nat.lt_of_le_of_lt (Nat.add_le_add_left (by decide) _) hu) (pv 1) (pv 5) (pv 4) in_add (fun _ _ _ => rfl))) pss_nil))))
   (pss_one (ps_ret (pv 1))))), ?_⟩
  refine fun d hd => ?_
  have s1 : Same H (upd H d (.dK [])) := same_new (Same.refl _) hd
  refine ⟨_, rfl, x, c.seating, dx, fs, _, rfl, s1 _ _ h1, T.seating.cl, T.seating.no _ (by decide +kernel), F.ins, I, rfl, ⟨_, SqL.of (s1 _ _ hI)⟩, for_list (K := K) (a := I) (xs := g.inside.map natV) (fun i σ H' => (∃ v : Option V, σ = [some (.ref x), some (.ref d), v, none, none, none]) ∧ Same H H' ∧ H' d = some (.dK (heldKs (g.inside.take i) fun _ => 0))) ⟨⟨none, rfl⟩, s1, by rw [upd_same]; rfl⟩ (fun i σ H' _ ⟨_, sm, _⟩ => SqL.of (sm _ _ hI)) ?_ ?_⟩
  ·rintro i y σ H' hy ⟨⟨v, rfl⟩, sm, hd'⟩
   rw [List.getElem?_map] at hy
   cases ho : g.inside[i]? with
   | none => rw [ho] at hy; cases hy
   | some a =>
    rw [ho] at hy
    cases hy
    have hlen : (heldKs (g.inside.take i) fun _ => 0).length < sizeLine := by
     unfold heldKs
     rw [List.length_map, sizeLine_eq]
     have := List.length_take_le i g.inside
     have := List.length_take_le' i g.inside
     omega
    refine ⟨_, rfl, _, rfl, d, _, rfl, DPut.k (k := .inl (a : Int)) hd' hlen, ⟨_, rfl⟩, same_new sm hd, ?_⟩
    rw [upd_same, putK_new]
    ·rw [List.take_add_one, ho]
     unfold heldKs
     rw [List.map_append]
     rfl
    ·refine heldKs_none fun z => ?_
     have := List.getElem?_eq_some_iff.mp ho
     obtain ⟨j, hj, ej⟩ := List.mem_iff_getElem.mp z
     rw [List.getElem_take] at ej
     rw [List.length_take] at hj
     exact (List.pairwise_iff_getElem.mp nd) j i (by omega) this.1 (by omega) (ej.trans this.2.symm)
  ·rintro σ H1 ⟨⟨v, rfl⟩, s2, hd2⟩
   rw [List.length_map, List.take_length] at hd2
   refine ⟨_, rfl, x, c.seating, dx, fs, _, rfl, s2 _ _ h1, T.seating.cl, T.seating.no _ (by decide +kernel), F.bal, _, rfl, x, c.seating, dx, fs, _, rfl, s2 _ _ h1, T.seating.cl, T.seating.no _ (by decide +kernel), F.worths, l, W, _, _, rfl, SqL.of (s2 _ _ hL), SqL.of (s2 _ _ hW),
    for_zip (K := K) (a := l) (b := W) (xs := as.map V.ref) (ys := g.worths.map V.int) (fun i σ H' => (∃ v2 v3 v4 v5 : Option V, σ = [some (.ref x), some (.ref d), v2, v3, v4, v5]) ∧ Same H H' ∧ H' d = some (.dK (heldKs g.inside fun a => PM.heldIn ((bs.zip g.worths).take i) g.inside a))) (by rw [List.length_map, List.length_map, hB.len, hw]) ⟨⟨_, _, _, _, rfl⟩, s2, by rw [hd2]; rfl⟩ (fun i σ H' _ ⟨_, sm, _⟩ => ⟨SqL.of (sm _ _ hL), SqL.of (sm _ _ hW)⟩) ?_ ?_⟩
   ·rintro i y z t σ H' hy hz ht ⟨⟨v2, v3, v4, v5, rfl⟩, sm, hd'⟩
    obtain ⟨ad, bl, rfl, hb, dxb, fsb, tb, e1, e2, e3, e4⟩ := hB.get hy
    rw [List.getElem?_map] at hz
    cases ho : g.worths[i]? with
    | none => rw [ho] at hz; cases hz
    | some wo =>
     rw [ho] at hz
     cases hz
     have s3 : Same H' (upd H' t (.tup [.ref ad, .int wo])) := same_new (Same.refl _) ht
     have s4 := sm.trans s3
     have hzip : (bs.zip g.worths)[i]? = some (bl, wo) := by
      rw [List.getElem?_zip_eq_some]
      exact ⟨hb, ho⟩
     have htk : (bs.zip g.worths).take (i + 1) = (bs.zip g.worths).take i ++ [(bl, wo)] := by rw [List.take_add_one, hzip]; rfl
     refine ⟨t, _, rfl, SqT.of upd_same, rfl, _, _, rfl, _, _, rfl, rfl, ?_⟩
     refine ⟨_, rfl, ad, c.bal, dxb, fsb, _, rfl, s4 _ _ e1, T.bal.cl, T.bal.no _ (by decide +kernel), e3, _, rfl, x, c.seating, dx, fs, _, rfl, s4 _ _ h1, T.seating.cl, T.seating.no _ (by decide +kernel), F.ins, tb, I, bl.order, g.inside, rfl, e4.mono s4, s4 _ _ hI, ?_⟩
     refine ⟨_, rfl, rfl, _, rfl, ?_⟩
     cases hh : PM.holder bl.order g.inside with
     | none =>
      refine iteF ⟨⟨_, _, _, _, rfl⟩, s4, ?_⟩
      rw [s3 _ _ hd', htk]
      congr 3
      funext a
      rw [heldIn_snoc, hh, if_neg (by simp)]
      omega
     | some a =>
      have ham : a ∈ g.inside := by
       have := List.find?_some hh
       simpa using this
      refine iteT ⟨_, rfl, _, rfl, d, .int (PM.heldIn ((bs.zip g.worths).take i) g.inside a), rfl, ?_⟩
      have gv := DGet.k (k := .inl (a : Int)) (s3 _ _ hd')
      rw [heldKs_val ham] at gv
      refine ⟨gv, _, rfl, _, _, rfl, rfl, _, DPut.k (k := .inl (a : Int)) (s3 _ _ hd') ?_, ⟨_, _, _, _, rfl⟩, same_new s4 hd, ?_⟩
      ·unfold heldKs
       rw [List.length_map, sizeLine_eq]
       omega
      ·rw [upd_same, htk]
       congr 2
       have e5 : V.int (PM.heldIn ((bs.zip g.worths).take i) g.inside a + wo) = V.int (PM.heldIn ((bs.zip g.worths).take i ++ [(bl, wo)]) g.inside a) := by rw [heldIn_snoc, hh, if_pos rfl]
       show putK _ _ (V.int (PM.heldIn ((bs.zip g.worths).take i) g.inside a + wo)) = _
       rw [e5]
       refine heldKs_put (g := fun a => PM.heldIn ((bs.zip g.worths).take i ++ [(bl, wo)]) g.inside a) ham rfl fun y hy => ?_
       show PM.heldIn _ _ _ = PM.heldIn _ _ _
       rw [heldIn_snoc, hh, if_neg (fun z => hy (Option.some.inj z).symm)]
       omega
   ·rintro σ H' ⟨⟨v2, v3, v4, v5, rfl⟩, sm, hd'⟩
    refine ⟨_, rfl, k H' d sm hd ?_⟩
    rw [hd', List.length_map, hB.len, List.take_of_length_le (by rw [List.length_zip]; omega)]
    rfl
end
theorem un1 {k : Nat} {A : Around} (r : Room k A) : A.units + 1 < cLine := by have := r.un; omega
def mkey (f : Nat → Int) (a : Nat) : List Int := [-(f a), (a : Int)]
def lkey (f : Nat → Int) (a : Nat) : List Int := [f a, -(a : Int)]
theorem mkey_le {f : Nat → Int} {a m : Nat} (h : HT.lexLt (mkey f a) (mkey f m) = false) : f a < f m ∨ (f a = f m ∧ m ≤ a) := by
 unfold mkey at h
 rw [HT.lexLt_cons, HT.lexLt_cons, HT.lexLt_nil_nil] at h
 by_cases e : f a = f m
 ·rw [if_pos (by omega)] at h
  by_cases e2 : a = m
  ·omega
  ·rw [if_neg (by omega)] at h
   simp at h
   omega
 ·rw [if_neg (by omega)] at h
  simp at h
  omega
theorem lkey_le {f : Nat → Int} {a m : Nat} (h : HT.lexLt (lkey f a) (lkey f m) = false) : f m < f a ∨ (f a = f m ∧ a ≤ m) := by
 unfold lkey at h
 rw [HT.lexLt_cons, HT.lexLt_cons, HT.lexLt_nil_nil] at h
 by_cases e : f a = f m
 ·rw [if_pos (by omega)] at h
  by_cases e2 : a = m
  ·omega
  ·rw [if_neg (by omega)] at h
   simp at h
   omega
 ·rw [if_neg (by omega)] at h
  simp at h
  omega
theorem heldKs_keys (ins : List Nat) (f : Nat → Int) : ((heldKs ins f).map fun p => kV p.1) = ins.map natV := by
 unfold heldKs
 rw [List.map_map]
 rfl
section
variable {P : Program} {w : World} {K : PySem.W.Frag} {mg : Str → Option Value} {base : Heap} {c : Cs}
abbrev mqual : Str := ("find_most" : Str) ++ (".<locals>." : Str) ++ ("<lambda>" : Str)
abbrev mpos : Pos := ⟨158, 31, 158, 78⟩
abbrev lqual : Str := ("find_least" : Str) ++ (".<locals>." : Str) ++ ("<lambda>" : Str)
abbrev lpos : Pos := ⟨160, 31, 160, 78⟩
def spPick (Pt : Addr) (pos : Pos) (qual : Str) (r : (Nat → Int) → Nat → Nat → Prop) : Sp := fun vs H Q _ => ∃ d ins f, vs = [.ref d] ∧ H d = some (.dK (heldKs ins f)) ∧ 0 < ins.length ∧ TabAt H Pt pos qual ∧ ∀ H' m, m ∈ ins → (∀ a ∈ ins, r f a m) → But Pt H H' → TabAt H' Pt pos qual → Q (natV m) H'
theorem sc44 : FnScope ["held"] ["held"] (defScope (top 44)) := ⟨rfl, rfl, rfl, by decide +kernel, rfl, by decide +kernel, by decide +kernel⟩
theorem sc45 : FnScope ["held"] ["held"] (defScope (top 45)) := ⟨rfl, rfl, rfl, by decide +kernel, rfl, by decide +kernel, by decide +kernel⟩
theorem ok_most {cd Pt : Addr} (T : Txt K mg c) (D : LamAt K mg "find_most" (top 44) ["held"] cd) (hB : Bm mg base) (hC : PySem.W.CodeHd base cd Pt) :
  Callee P w K mg base "find_most" 9 ["held"] (spPick Pt mpos mqual fun f a m => f a < f m ∨ (f a = f m ∧ m ≤ a)) := by
 refine D.ok sc44 (fun vs H Q E h => ?_) fun f A outer s H vs Q E hr h => ?_
 ·obtain ⟨d, ins, f, rfl, _⟩ := h
  rfl
 ·obtain ⟨d, ins, f, rfl, hd, hn, tab, k⟩ := h
  refine ⟨_, pss_one (ps_ret (pe_minLam (x := "candidate") (y := "held") (j := 0) (c := cd) (P := Pt) (cy := s.heap.objs.size + 1) (tb := tTup (tCons (tUn (rU fun i => .int (-i)) (tDGet (tVar 1) (tVar 0))) (tCons (tVar 0) tNil))) rfl hB rfl hC
    ⟨rfl, rfl, rfl, by decide +kernel, rfl, rfl, by decide +kernel⟩ rfl rfl rfl rfl (hr.mono (by decide)) (fun _ _ _ _ => rfl)
    (fun _ _ _ _ => pe_tup (pa_cons (pe_un un_neg (pe_dget (un1 ((hr.mono (by decide : 6 ≤ 8)).in1.deeper _)) (pv 1) (pv 0) (fun _ _ => rfl))) (pa_cons (pv 0) pa_nil)))
    (pa_cons (pe_callTy (call_list_dict rfl) rfl T.list boot_list (pa_cons (pv 0) pa_nil)) pa_nil) rfl T.min)), ?_⟩
  refine ⟨_, rfl, d, _, rfl, hd, fun l hl => ?_⟩
  rw [heldKs_keys]
  have s2 : Same H (upd H l (.lst (ins.map natV))) := same_new (Same.refl _) hl
  have tab2 := tab.mono s2
  obtain ⟨ps0, hPt, _⟩ := id tab2
  have hdP : d ≠ Pt := fun z => by
   have := s2 _ _ hd
   rw [z, hPt] at this
   cases this
  refine ⟨l, _, .ref d, fun i => mkey f (ins.getD i 0), rfl, upd_same, by rw [List.length_map]; exact hn, rfl, tab2, fun i j => rfl, fun i v H2 hv b2 => ?_, fun i v H2 hv hbest tb b2 => ?_⟩
  ·rw [List.getElem?_map] at hv
   cases ho : ins[i]? with
   | none => rw [ho] at hv; cases hv
   | some a =>
    rw [ho] at hv
    cases hv
    have gv := DGet.k (k := .inl (a : Int)) (b2 _ _ (s2 _ _ hd) hdP)
    rw [heldKs_val (List.mem_of_getElem? ho)] at gv
    refine ⟨_, rfl, _, rfl, d, .int (f a), rfl, gv, _, rfl, _, rfl, (by show 2 ≤ sizeLine; decide), fun t ht => ⟨t, rfl, ?_, same_new (Same.refl _) ht⟩⟩
    have eg : ins.getD i 0 = a := by rw [List.getD_eq_getElem?_getD, ho]; rfl
    show _ = some (HO.tup (List.map V.int (mkey f (ins.getD i 0))))
    rw [upd_same, eg]
    rfl
  ·rw [List.getElem?_map] at hv
   cases ho : ins[i]? with
   | none => rw [ho] at hv; cases hv
   | some m =>
    rw [ho] at hv
    cases hv
    refine k H2 m (List.mem_of_getElem? ho) (fun a ha => ?_) ((s2.but (P := Pt)).trans b2) tb
    obtain ⟨j, hj, ej⟩ := List.mem_iff_getElem.mp ha
    have hb : HT.lexLt (mkey f (ins.getD j 0)) (mkey f (ins.getD i 0)) = false := hbest j (by rw [List.length_map]; exact hj)
    rw [List.getD_eq_getElem?_getD, List.getD_eq_getElem?_getD, ho, List.getElem?_eq_getElem hj, ej] at hb
    exact mkey_le hb
theorem ok_fewest {cd Pt : Addr} (T : Txt K mg c) (D : LamAt K mg "find_least" (top 45) ["held"] cd) (hB : Bm mg base) (hC : PySem.W.CodeHd base cd Pt) :
  Callee P w K mg base "find_least" 9 ["held"] (spPick Pt lpos lqual fun f a m => f m < f a ∨ (f a = f m ∧ a ≤ m)) := by
 refine D.ok sc45 (fun vs H Q E h => ?_) fun f A outer s H vs Q E hr h => ?_
 ·obtain ⟨d, ins, f, rfl, _⟩ := h
  rfl
 ·obtain ⟨d, ins, f, rfl, hd, hn, tab, k⟩ := h
  refine ⟨_, pss_one (ps_ret (pe_minLam (x := "candidate") (y := "held") (j := 0) (c := cd) (P := Pt) (cy := s.heap.objs.size + 1) (tb := tTup (tCons (tDGet (tVar 1) (tVar 0)) (tCons (tUn (rU fun i => .int (-i)) (tVar 0)) tNil))) rfl hB rfl hC
    ⟨rfl, rfl, rfl, by decide +kernel, rfl, rfl, by decide +kernel⟩ rfl rfl rfl rfl (hr.mono (by decide)) (fun _ _ _ _ => rfl)
    (fun _ _ _ _ => pe_tup (pa_cons (pe_dget (un1 ((hr.mono (by decide : 6 ≤ 8)).in1.deeper _)) (pv 1) (pv 0) (fun _ _ => rfl)) (pa_cons (pe_un un_neg (pv 0)) pa_nil)))
    (pa_cons (pe_callTy (call_list_dict rfl) rfl T.list boot_list (pa_cons (pv 0) pa_nil)) pa_nil) rfl T.min)), ?_⟩
  refine ⟨_, rfl, d, _, rfl, hd, fun l hl => ?_⟩
  rw [heldKs_keys]
  have s2 : Same H (upd H l (.lst (ins.map natV))) := same_new (Same.refl _) hl
  have tab2 := tab.mono s2
  obtain ⟨ps0, hPt, _⟩ := id tab2
  have hdP : d ≠ Pt := fun z => by
   have := s2 _ _ hd
   rw [z, hPt] at this
   cases this
  refine ⟨l, _, .ref d, fun i => lkey f (ins.getD i 0), rfl, upd_same, by rw [List.length_map]; exact hn, rfl, tab2, fun i j => rfl, fun i v H2 hv b2 => ?_, fun i v H2 hv hbest tb b2 => ?_⟩
  ·rw [List.getElem?_map] at hv
   cases ho : ins[i]? with
   | none => rw [ho] at hv; cases hv
   | some a =>
    rw [ho] at hv
    cases hv
    have gv := DGet.k (k := .inl (a : Int)) (b2 _ _ (s2 _ _ hd) hdP)
    rw [heldKs_val (List.mem_of_getElem? ho)] at gv
    refine ⟨_, rfl, _, rfl, d, .int (f a), rfl, gv, _, rfl, _, rfl, (by show 2 ≤ sizeLine; decide), fun t ht => ⟨t, rfl, ?_, same_new (Same.refl _) ht⟩⟩
    have eg : ins.getD i 0 = a := by rw [List.getD_eq_getElem?_getD, ho]; rfl
    show _ = some (HO.tup (List.map V.int (lkey f (ins.getD i 0))))
    rw [upd_same, eg]
    rfl
  ·rw [List.getElem?_map] at hv
   cases ho : ins[i]? with
   | none => rw [ho] at hv; cases hv
   | some m =>
    rw [ho] at hv
    cases hv
    refine k H2 m (List.mem_of_getElem? ho) (fun a ha => ?_) ((s2.but (P := Pt)).trans b2) tb
    obtain ⟨j, hj, ej⟩ := List.mem_iff_getElem.mp ha
    have hb : HT.lexLt (lkey f (ins.getD j 0)) (lkey f (ins.getD i 0)) = false := hbest j (by rw [List.length_map]; exact hj)
    rw [List.getD_eq_getElem?_getD, List.getD_eq_getElem?_getD, ho, List.getElem?_eq_getElem hj, ej] at hb
    exact lkey_le hb
end
structure Dif (c : Cs) : Prop where
 nd : [c.bal, c.poll, c.call, c.reader, c.turn, c.seating, c.desk].Nodup
theorem Dif.sb {c : Cs} (d : Dif c) : c.seating ≠ c.bal ∧ c.seating ≠ c.poll := by
 have := d.nd
 simp at this
 refine ⟨fun z => ?_, fun z => ?_⟩ <;> simp [z] at this
theorem Dif.db {c : Cs} (d : Dif c) : c.desk ≠ c.bal ∧ c.desk ≠ c.poll := by
 have := d.nd
 simp at this
 refine ⟨fun z => ?_, fun z => ?_⟩ <;> simp [z] at this
theorem Dif.rb {c : Cs} (d : Dif c) : c.reader ≠ c.bal ∧ c.reader ≠ c.poll := by
 have := d.nd
 simp at this
 refine ⟨fun z => ?_, fun z => ?_⟩ <;> simp [z] at this
theorem Dif.rd {c : Cs} (d : Dif c) : c.reader ≠ c.desk := by
 have := d.nd
 simp at this
 exact fun z => by simp [z] at this
theorem Dif.st {c : Cs} (d : Dif c) : c.seating ≠ c.turn := by
 have := d.nd
 simp at this
 exact fun z => by simp [z] at this
def nb (c : Cs) : HO → Prop
 | .ins C _ _ => C ≠ c.bal ∧ C ≠ c.poll
 | .frz _ _ => False
 | .ext _ => False
 | _ => True
def NB (c : Cs) (L : List Addr) (H : Hp) : Prop := ∀ x ∈ L, ∀ o, H x = some o → nb c o
theorem BalAt.buts {c : Cs} {L : List Addr} {H H' : Hp} {a : Addr} {b : Ballot} (h : BalAt c H a b) (B : Buts L H H') (n : NB c L H) : BalAt c H' a b := by
 obtain ⟨dx, fs, t, e1, e2, e3, ob, e4, e5⟩ := h
 exact ⟨dx, fs, t, B _ _ e1 fun z => (n _ z _ e1).1 rfl, e2, e3, ob, B _ _ e4 fun z => n _ z _ e4, e5⟩
theorem BalsAt.buts {c : Cs} {L : List Addr} {H H' : Hp} {as : List Addr} {bs : List Ballot} (h : BalsAt c H as bs) (B : Buts L H H') (n : NB c L H) : BalsAt c H' as bs := ⟨h.len, fun i a b e1 e2 => (h.at_ i a b e1 e2).buts B n⟩
theorem PollL.buts {c : Cs} {L : List Addr} {H H' : Hp} {p l : Addr} {P : Poll} (h : PollL c H p l P) (B : Buts L H H') (n : NB c L H) (hl : l ∉ L) : PollL c H' p l P := by
 obtain ⟨dx, fs, as, e1, e2, e3, e4, e5⟩ := h
 exact ⟨dx, fs, as, B _ _ e1 fun z => (n _ z _ e1).2 rfl, e2, e3, B _ _ e4 hl, e5.buts B n⟩
theorem tab_buts {c : Cs} {L : List Addr} {H H' : Hp} {P : Addr} {pos : Pos} {qual : Str} (h : TabAt H P pos qual) (B : Buts L H H') (n : NB c L H) (hP : P ∉ L) : TabAt H' P pos qual := by
 obtain ⟨ps, e, r⟩ := h
 refine ⟨ps, B _ _ e hP, ?_⟩
 rcases r with r | ⟨c', r, q⟩
 ·exact .inl r
 ·exact .inr ⟨c', r, B _ _ q fun z => n _ z _ q⟩
theorem frz_buts {c : Cs} {L : List Addr} {H H' : Hp} {a : Addr} {xs : List V} (h : FrzL H a xs) (B : Buts L H H') (n : NB c L H) : FrzL H' a xs := by
 obtain ⟨o, e, t⟩ := h
 exact ⟨o, B _ _ e fun z => n _ z _ e, t⟩
theorem nb1 {c : Cs} {x : Addr} {H : Hp} {o : HO} (e : H x = some o) (h : nb c o) : NB c [x] H := fun y hy u eu => by
 rw [List.mem_singleton.mp hy, e] at eu
 cases eu
 exact h
theorem NB.cons {c : Cs} {x : Addr} {L : List Addr} {H : Hp} {o : HO} (e : H x = some o) (h : nb c o) (n : NB c L H) : NB c (x :: L) H := fun y hy u eu => by
 rcases List.mem_cons.mp hy with z | z
 ·rw [z, e] at eu
  cases eu
  exact h
 ·exact n y z u eu
theorem NB.nil {c : Cs} {H : Hp} : NB c [] H := fun y hy => absurd hy (by simp)
theorem SeatAt.mono {c : Cs} {H H' : Hp} {x l I : Addr} {g : PM.Sg} {bs : List Ballot} {z : Addr} (h : SeatAt c H x l I g bs z) (s : Same H H') : SeatAt c H' x l I g bs z := by
 obtain ⟨⟨dx, fs, W, as, e1, e2, e3, e4, e5, e6, e7⟩, i, n⟩ := h
 exact ⟨⟨dx, fs, W, as, s _ _ e1, e2, s _ _ e3, e4, e5, s _ _ e6, e7.mono s⟩, s _ _ i, n⟩
theorem SeatAt.tbl {c : Cs} {H H' : Hp} {x l I Pt : Addr} {g : PM.Sg} {bs : List Ballot} {z : Addr} {ps : Array Value} (h : SeatAt c H x l I g bs z) (hP : H Pt = some (.tbl ps)) (b : But Pt H H') : SeatAt c H' x l I g bs z := by
 obtain ⟨⟨dx, fs, W, as, e1, e2, e3, e4, e5, e6, e7⟩, i, n⟩ := h
 have ne : ∀ y o, H y = some o → (∀ ps, o ≠ .tbl ps) → y ≠ Pt := fun y o e q z => by
  rw [z, hP] at e
  exact q ps (Option.some.inj e).symm
 have B : Buts [Pt] H H' := But.buts b (List.mem_singleton_self _)
 exact ⟨⟨dx, fs, W, as, b _ _ e1 (ne _ _ e1 fun _ z => by cases z), e2, b _ _ e3 (ne _ _ e3 fun _ z => by cases z), e4, e5, b _ _ e6 (ne _ _ e6 fun _ z => by cases z), e7.buts B (nb1 hP True.intro)⟩, b _ _ i (ne _ _ i fun _ z => by cases z), n⟩
theorem len_put {f : Str} {v w : V} : ∀ {fs : List (Str × V)}, lk fs f = some w → (putF f v fs).length = fs.length
 | [], h => by cases h
 | (g, x) :: r, h => by
  show (if g = f then (g, v) :: r else (g, x) :: putF f v r).length = _
  by_cases e : g = f
  ·rw [if_pos e]
   rfl
  ·rw [if_neg e, List.length_cons, List.length_cons, len_put (fs := r) (w := w)]
   have h' : List.lookup f ((g, x) :: r) = some w := h
   rw [List.lookup_cons, show (f == g) = false from beq_eq_false_iff_ne.mpr (fun q => e q.symm)] at h'
   exact h'
theorem lk_put_ne {f g : Str} {v : V} {fs : List (Str × V)} (h : g ≠ f) : lk (putF f v fs) g = lk fs g := by
 show List.lookup _ (putF _ _ _) = _
 rw [lookup_putF, if_neg h]
theorem lk_put {f : Str} {v : V} {fs : List (Str × V)} : lk (putF f v fs) f = some v := by
 show List.lookup _ (putF _ _ _) = _
 rw [lookup_putF, if_pos rfl]
theorem bd_big : 64 * PM.Bd 7 ≤ 2 ^ 9000 := by
 unfold PM.Bd
 rw [show (64 : Nat) = 2 ^ 6 from rfl, ← Nat.pow_add]
 exact Nat.pow_le_pow_right (by decide) (by decide)
theorem big_of {t : Nat} (ht : t ≤ 7) {x : Int} (h0 : 0 ≤ x) (h : x < ((64 * PM.Bd t : Nat) : Int)) : x.natAbs < 2 ^ 9000 := by
 have h1 : 64 * PM.Bd t ≤ 64 * PM.Bd 7 := Nat.mul_le_mul_left _ (PM.bd_le ht)
 have h2 := bd_big
 generalize 2 ^ 9000 = B at h2 ⊢
 generalize 64 * PM.Bd 7 = C at h1 h2
 generalize 64 * PM.Bd t = D at h1 h
 omega
theorem big_lift {x : Nat} (h : x < 2 ^ 9000) : x < 2 ^ 40000 := Nat.lt_of_lt_of_le h (Nat.pow_le_pow_right (by decide) (by decide))
theorem big_of1 {t : Nat} (ht : t ≤ 7) {x : Int} (h0 : 0 ≤ x) (h : x < (PM.Bd t : Int)) : x.natAbs < 2 ^ 9000 := big_of ht h0 (by
 have : PM.Bd t ≤ 64 * PM.Bd t := Nat.le_mul_of_pos_left _ (by decide)
 omega)
section
variable {P : Program} {w : World} {K : PySem.W.Frag} {mg : Str → Option Value} {base : Heap} {c : Cs}
def spQuota (c : Cs) : Sp := fun vs H Q _ => ∃ x l I g bs z a t, vs = [.ref x, natV a, .int (PM.Sg.held bs g a)] ∧ SeatAt c H x l I g bs z ∧ H z ≠ none ∧ g.worths.length = bs.length ∧ bs.length ≤ 64 ∧ PM.Small t g ∧ t ≤ 7 ∧ g.quota < PM.Sg.held bs g a ∧ ∀ H', SeatAt c H' x l I (g.quotaed bs a) bs z → Buts [x] H H' → Q .non H'
theorem sc46 : FnScope ["seating", "candidate", "had", "fresh", "ballot", "worth", "lies_there"] ["seating", "candidate", "had"] (defScope (top 46)) := ⟨rfl, rfl, rfl, by decide +kernel, rfl, by decide +kernel, by decide +kernel⟩
theorem ok_quota (T : Txt K mg c) (Df : Dif c) (D : DefAt K mg "take_quota" (top 46) ["seating", "candidate", "had"]) (C : Callee P w K mg base "find_holder" 1 ["order", "inside"] spHold) : Callee P w K mg base "take_quota" 3 ["seating", "candidate", "had"] (spQuota c) := by
 refine D.ok sc46 (fun vs H Q E h => ?_) fun f cdv A outer s H vs Q E hr h => ?_
 ·obtain ⟨x, l, I, g, bs, zz, a, t, rfl, _⟩ := h
  rfl
 ·obtain ⟨x, l, I, g, bs, zz, a, t, rfl, S, hzz, hw, h64, sm, ht, hq, k⟩ := h
  obtain ⟨dx, fs, W, as, h1, F, hW, nWI, nWl, hL, hB⟩ := S.ex
  have hI := S.ins
  have hh := sm.held h64 a
  have hbig := big_of ht hh.1 hh.2
  refine ⟨_, pss_cons (ps_set (i := 3) sc46.nd rfl (Or.inl rfl) (pe_lst pa_nil))
   (pss_cons (ps_for PassesOwn.never rfl (pi_zip rfl T.zip (pa_cons (pe_fld (pv 0) rfl) (pa_cons (pe_fld (pv 0) rfl) pa_nil))) (pg_tup rfl (pgs_cons (pg_name (i := 4) sc46.nd rfl (Or.inl rfl)) (pgs_cons (pg_name (i := 5) sc46.nd rfl (Or.inl rfl)) pgs_nil)))
    (pss_cons (ps_set (i := 6) sc46.nd rfl (Or.inl rfl) (pe_cmpR op_eq (pe_fn C (hr.mono (by decide)) (pa_cons (pe_fld (pv 4) rfl) (pa_cons (pe_fld (pv 0) rfl) pa_nil))) (pv 1) (nomark _)))
    (pss_one (ps_expr (pe_bm PySem.F.plainAttrs_list PySem.F.slot_list_append PySem.F.type_list_append mt_append (pv 3) (pa_cons (pe_op op_mulB (pv 5) (pe_ifExp (pt_tru (pv 6)) (pe_op op_sub (pv 2) (pe_fld (pv 0) rfl)) (pv 2))) pa_nil))))))
   (pss_cons (ps_fld (pv 0) (pv 3) rfl)
   (pss_cons (ps_fldaug (pv 0) (pv 2) iop_mulB) (pss_one (ps_fldaug (pv 0) (pv 2) iop_mulB))))), ?_⟩
  refine ⟨(by show 0 ≤ sizeLine; decide), fun q hq0 => ?_⟩
  have s1 : Same H (upd H q (.lst [])) := same_new (Same.refl _) hq0
  refine ⟨_, rfl, x, c.seating, dx, fs, _, rfl, s1 _ _ h1, T.seating.cl, T.seating.no _ (by decide +kernel), F.bal, _, rfl, x, c.seating, dx, fs, _, rfl, s1 _ _ h1, T.seating.cl, T.seating.no _ (by decide +kernel), F.worths, l, W, _, _, rfl, SqL.of (s1 _ _ hL), SqL.of (s1 _ _ hW),
   for_zip (K := K) (a := l) (b := W) (xs := as.map V.ref) (ys := g.worths.map V.int) (fun i σ H' => (∃ v4 v5 v6 : Option V, σ = [some (.ref x), some (natV a), some (.int (PM.Sg.held bs g a)), some (.ref q), v4, v5, v6]) ∧ Same H H' ∧ H' q = some (.lst ((((bs.zip g.worths).take i).map (PM.cutW g.inside a (PM.Sg.held bs g a) g.quota)).map V.int))) (by rw [List.length_map, List.length_map, hB.len, hw]) ⟨⟨none, none, none, rfl⟩, s1, by rw [upd_same]; rfl⟩ (fun i σ H' _ ⟨_, sm, _⟩ => ⟨SqL.of (sm _ _ hL), SqL.of (sm _ _ hW)⟩) ?_ ?_⟩
  ·rintro i y z t' σ H' hy hz ht' ⟨⟨v4, v5, v6, rfl⟩, s2, hq'⟩
   obtain ⟨ad, bl, rfl, hb, dxb, fsb, tb, e1, e2, e3, e4⟩ := hB.get hy
   rw [List.getElem?_map] at hz
   cases ho : g.worths[i]? with
   | none => rw [ho] at hz; cases hz
   | some wo =>
    rw [ho] at hz
    cases hz
    have s3 : Same H' (upd H' t' (.tup [.ref ad, .int wo])) := same_new (Same.refl _) ht'
    have s4 := s2.trans s3
    have hzip : (bs.zip g.worths)[i]? = some (bl, wo) := by
     rw [List.getElem?_zip_eq_some]
     exact ⟨hb, ho⟩
    have htk : (bs.zip g.worths).take (i + 1) = (bs.zip g.worths).take i ++ [(bl, wo)] := by rw [List.take_add_one, hzip]; rfl
    have hwo := sm.ww wo (List.mem_of_getElem? ho)
    have hwb := big_of1 ht hwo.1 hwo.2
    have hi64 : i < bs.length := (List.getElem?_eq_some_iff.mp hb).1
    have hsz : (((((bs.zip g.worths).take i).map (PM.cutW g.inside a (PM.Sg.held bs g a) g.quota)).map V.int)).length < sizeLine := by
     rw [List.length_map, List.length_map, List.length_take, sizeLine_eq]
     omega
    refine ⟨t', _, rfl, SqT.of upd_same, rfl, _, _, rfl, _, _, rfl, rfl, ?_⟩
    refine ⟨_, rfl, ad, c.bal, dxb, fsb, _, rfl, s4 _ _ e1, T.bal.cl, T.bal.no _ (by decide +kernel), e3, _, rfl, x, c.seating, dx, fs, _, rfl, s4 _ _ h1, T.seating.cl, T.seating.no _ (by decide +kernel), F.ins, tb, I, bl.order, g.inside, rfl, e4.mono s4, s4 _ _ hI, ?_⟩
    refine ⟨_, rfl, by cases PM.holder bl.order g.inside <;> rfl, _, rfl, .inl ⟨rfl, _, SqL.of (s3 _ _ hq')⟩, _, rfl, _, rfl, _, rfl, ?_⟩
    by_cases hhold : PM.holder bl.order g.inside = some a
    ·rw [show decide (optV (PM.holder bl.order g.inside) = natV a) = true by rw [hhold]; exact decide_eq_true rfl]
     refine iteT ⟨_, rfl, _, rfl, x, c.seating, dx, fs, _, rfl, s4 _ _ h1, T.seating.cl, T.seating.no _ (by decide +kernel), F.quota, _, _, rfl, rfl, _, _, rfl, rfl, ⟨big_lift hwb, ?_⟩, q, _, _, rfl, rfl, s3 _ _ hq', hsz, ⟨_, _, _, rfl⟩, same_new s4 hq0, ?_⟩
     ·have hqq := sm.qq.1
      refine big_lift (Nat.lt_of_le_of_lt ?_ hbig)
      omega
     ·rw [upd_same, htk, List.map_append, List.map_append]
      congr 3
      show [V.int (wo * (PM.Sg.held bs g a - g.quota))] = [V.int (wo * _)]
      rw [if_pos hhold]
    ·rw [show decide (optV (PM.holder bl.order g.inside) = natV a) = false from decide_eq_false fun z => hhold (by
      cases hx : PM.holder bl.order g.inside with
      | none => rw [hx] at z; cases z
      | some b =>
       rw [hx] at z
       have := V.int.inj z
       rw [show b = a by omega])]
     refine iteF ⟨_, rfl, _, _, rfl, rfl, ⟨big_lift hwb, big_lift hbig⟩, q, _, _, rfl, rfl, s3 _ _ hq', hsz, ⟨_, _, _, rfl⟩, same_new s4 hq0, ?_⟩
     rw [upd_same, htk, List.map_append, List.map_append]
     congr 3
     show [V.int (wo * PM.Sg.held bs g a)] = [V.int (wo * _)]
     rw [if_neg hhold]
  ·rintro σ H' ⟨⟨v4, v5, v6, rfl⟩, s2, hq'⟩
   rw [List.length_map, hB.len, List.take_of_length_le (by rw [List.length_zip]; omega)] at hq'
   have hqx : q ≠ x := (ne_of_none h1 hq0).symm
   have hqI : q ≠ I := (ne_of_none hI hq0).symm
   have hql : q ∉ [l, zz] := fun z => by
    rcases List.mem_cons.mp z with z | z
    ·exact ne_of_none hL hq0 z.symm
    ·rw [List.mem_singleton.mp z] at hq0
     exact hzz hq0
   have hxI : I ≠ x := fun z => by rw [z, h1] at hI; cases hI
   have hxl : l ≠ x := fun z => by rw [z, h1] at hL; cases hL
   have few := F.few
   refine ⟨_, rfl, _, rfl, x, c.seating, dx, fs, rfl, s2 _ _ h1, T.seating.cl, T.seating.no _ (by decide +kernel), by omega, ?_⟩
   refine ⟨_, rfl, x, c.seating, dx, putF "worths" (.ref q) fs, .int g.quota, rfl, upd_same, T.seating.cl, T.seating.no _ (by decide +kernel), (lk_put_ne (by decide +kernel)).trans F.quota, _, rfl, _, _, rfl, rfl, ⟨big_lift (big_of1 ht sm.qq.1 sm.qq.2), big_lift hbig⟩, dx, _, upd_same, by rw [len_put F.worths]; omega, ?_⟩
   have hl2 : (putF "quota" (V.int (g.quota * PM.Sg.held bs g a)) (putF "worths" (.ref q) fs)).length = fs.length := by
    rw [len_put (w := .int g.quota) ((lk_put_ne (by decide +kernel)).trans F.quota), len_put F.worths]
   refine ⟨_, rfl, x, c.seating, dx, putF "quota" (V.int (g.quota * PM.Sg.held bs g a)) (putF "worths" (.ref q) fs), .int g.parts, rfl, upd_same, T.seating.cl, T.seating.no _ (by decide +kernel), (lk_put_ne (by decide +kernel)).trans ((lk_put_ne (by decide +kernel)).trans F.parts), _, rfl, _, _, rfl, rfl, ⟨big_lift (big_of1 ht (Int.le_of_lt sm.pp.1) sm.pp.2), big_lift hbig⟩, dx, _, upd_same, by rw [hl2]; omega, ?_⟩
   have up3 : ∀ b, b ≠ x → upd (upd (upd H' x (.ins c.seating dx (putF "worths" (.ref q) fs))) x (.ins c.seating dx (putF "quota" (V.int (g.quota * PM.Sg.held bs g a)) (putF "worths" (.ref q) fs)))) x (.ins c.seating dx (putF "parts" (V.int (g.parts * PM.Sg.held bs g a)) (putF "quota" (V.int (g.quota * PM.Sg.held bs g a)) (putF "worths" (.ref q) fs)))) b = H' b := fun b hb => by rw [upd_ne hb, upd_ne hb, upd_ne hb]
   have B : Buts [x] H' (upd (upd (upd H' x (.ins c.seating dx (putF "worths" (.ref q) fs))) x (.ins c.seating dx (putF "quota" (V.int (g.quota * PM.Sg.held bs g a)) (putF "worths" (.ref q) fs)))) x (.ins c.seating dx (putF "parts" (V.int (g.parts * PM.Sg.held bs g a)) (putF "quota" (V.int (g.quota * PM.Sg.held bs g a)) (putF "worths" (.ref q) fs))))) := fun b o e n => by
    rw [up3 b fun z => n (by rw [z]; exact List.mem_singleton_self _)]
    exact e
   refine k _ ⟨⟨dx, _, q, as, upd_same, ⟨?_, ?_, ?_, ?_, ?_, ?_, ?_⟩, ?_, hqI, hql, ?_, ?_⟩, ?_, S.nI⟩ (Buts.trans (Same.buts s2) B)
   ·exact (lk_put_ne (by decide +kernel)).trans ((lk_put_ne (by decide +kernel)).trans ((lk_put_ne (by decide +kernel)).trans F.bal))
   ·exact (lk_put_ne (by decide +kernel)).trans ((lk_put_ne (by decide +kernel)).trans ((lk_put_ne (by decide +kernel)).trans F.ins))
   ·exact (lk_put_ne (by decide +kernel)).trans ((lk_put_ne (by decide +kernel)).trans ((lk_put_ne (by decide +kernel)).trans F.left))
   ·exact lk_put
   ·exact (lk_put_ne (by decide +kernel)).trans lk_put
   ·exact (lk_put_ne (by decide +kernel)).trans ((lk_put_ne (by decide +kernel)).trans lk_put)
   ·rw [len_put (w := .int g.parts) ((lk_put_ne (by decide +kernel)).trans ((lk_put_ne (by decide +kernel)).trans F.parts)), hl2]
    exact few
   ·rw [up3 q hqx, hq']
    rfl
   ·rw [up3 l hxl]
    exact s2 _ _ hL
   ·exact (hB.mono s2).buts B (nb1 (s2 _ _ h1) Df.sb)
   ·rw [up3 I hxI]
    exact s2 _ _ hI
end
def TurnAt (c : Cs) (H : Hp) (y : Addr) (t : PM.TurnD) : Prop := ∃ dx fs, H y = some (.ins c.turn dx fs) ∧ lk fs "candidate" = some (natV t.who) ∧ lk fs "seated" = some (.bl t.seat) ∧ lk fs "had" = some (.int t.had) ∧ lk fs "parts" = some (.int t.parts)
theorem TurnAt.mono {c : Cs} {H H' : Hp} {y : Addr} {t : PM.TurnD} (h : TurnAt c H y t) (s : Same H H') : TurnAt c H' y t := by
 obtain ⟨dx, fs, e, r⟩ := h
 exact ⟨dx, fs, s _ _ e, r⟩
theorem few_ex (f : Nat → Int) : ∀ ins : List Nat, 0 < ins.length → ∃ m ∈ ins, ∀ a ∈ ins, f m < f a ∨ (f a = f m ∧ a ≤ m)
 | [], h => absurd h (by simp)
 | [x], _ => ⟨x, List.mem_singleton_self _, fun a ha => .inr (by rw [List.mem_singleton.mp ha]; exact ⟨rfl, Nat.le_refl _⟩)⟩
 | x :: y :: r, _ => by
  obtain ⟨m, hm, hb⟩ := few_ex f (y :: r) (by simp)
  by_cases h : f x < f m ∨ (f m = f x ∧ m ≤ x)
  ·refine ⟨x, List.mem_cons_self, fun a ha => ?_⟩
   rcases List.mem_cons.mp ha with z | z
   ·subst z
    exact .inr ⟨rfl, Nat.le_refl _⟩
   ·have := hb a z
    omega
  ·refine ⟨m, List.mem_cons_of_mem _ hm, fun a ha => ?_⟩
   rcases List.mem_cons.mp ha with z | z
   ·subst z
    omega
   ·exact hb a z
theorem erase_filter {a : Nat} : ∀ {ins : List Nat} {j : Nat}, ins.Nodup → ins[j]? = some a → ins.eraseIdx j = ins.filter fun b => b != a
 | [], j, _, h => by simp at h
 | x :: r, 0, nd, h => by
  have e : x = a := Option.some.inj h
  have nd' := List.nodup_cons.mp nd
  subst e
  rw [List.filter_cons, if_neg (by simp)]
  show r = _
  refine (List.filter_eq_self.mpr fun b hb => ?_).symm
  have : b ≠ x := fun z => nd'.1 (z ▸ hb)
  simpa using this
 | x :: r, j + 1, nd, h => by
  have nd' := List.nodup_cons.mp nd
  have h' : r[j]? = some a := h
  have : x ≠ a := fun z => nd'.1 (by rw [z]; exact List.mem_of_getElem? h')
  rw [List.filter_cons, if_pos (by simpa using this)]
  show x :: r.eraseIdx j = _
  rw [erase_filter nd'.2 h']
theorem SeatAt.setLeft {c : Cs} {H : Hp} {x l I : Addr} {g : PM.Sg} {bs : List Ballot} {z : Addr} {n : Nat} {dx : Addr} {fs : List (Str × V)} (Df : Dif c) (h : SeatAt c H x l I g bs z) (hx : H x = some (.ins c.seating dx fs)) : SeatAt c (upd H x (.ins c.seating dx (putF "seats_left" (natV n) fs))) x l I { g with left := n } bs z := by
 obtain ⟨⟨dx', fs', W, as, e1, F, e3, e4, e5, e6, e7⟩, i, nI⟩ := h
 rw [hx] at e1
 cases e1
 have B : Buts [x] H (upd H x (.ins c.seating dx (putF "seats_left" (natV n) fs))) := Buts.put (List.mem_singleton_self _)
 have ne : ∀ y xs, H y = some (.lst xs) → y ≠ x := fun y xs e z => by rw [z, hx] at e; cases e
 refine ⟨⟨dx, _, W, as, upd_same, ⟨?_, ?_, lk_put, ?_, ?_, ?_, ?_⟩, by rw [upd_ne (ne _ _ e3)]; exact e3, e4, e5, by rw [upd_ne (ne _ _ e6)]; exact e6, e7.buts B (nb1 hx Df.sb)⟩, by rw [upd_ne (ne _ _ i)]; exact i, nI⟩
 ·exact (lk_put_ne (by decide +kernel)).trans F.bal
 ·exact (lk_put_ne (by decide +kernel)).trans F.ins
 ·exact (lk_put_ne (by decide +kernel)).trans F.parts
 ·exact (lk_put_ne (by decide +kernel)).trans F.quota
 ·exact (lk_put_ne (by decide +kernel)).trans F.worths
 ·rw [len_put F.left]
  exact F.few
theorem SeatAt.setIns {c : Cs} {H : Hp} {x l I : Addr} {g : PM.Sg} {bs : List Ballot} {z : Addr} {ins : List Nat} (h : SeatAt c H x l I g bs z) : SeatAt c (upd H I (.lst (ins.map natV))) x l I { g with inside := ins } bs z := by
 obtain ⟨⟨dx, fs, W, as, e1, F, e3, e4, e5, e6, e7⟩, i, nI⟩ := h
 have B : Buts [I] H (upd H I (.lst (ins.map natV))) := Buts.put (List.mem_singleton_self _)
 have nx : x ≠ I := fun z => by rw [← z, e1] at i; cases i
 exact ⟨⟨dx, fs, W, as, by rw [upd_ne nx]; exact e1, ⟨F.bal, F.ins, F.left, F.parts, F.quota, F.worths, F.few⟩, by rw [upd_ne e4]; exact e3, e4, e5, by rw [upd_ne (Ne.symm nI)]; exact e6, e7.buts B (nb1 i True.intro)⟩, upd_same, nI⟩
section
variable {P : Program} {w : World} {K : PySem.W.Frag} {mg : Str → Option Value} {base : Heap} {c : Cs}
def spTurnI (c : Cs) : Sp := fun vs H Q _ => ∃ x dx t, vs = [.ref x, natV t.who, .bl t.seat, .int t.had, .int t.parts] ∧ H x = some (.ins c.turn dx []) ∧ ∀ H', TurnAt c H' x t → (∀ b u, H b = some u → b ≠ x → H' b = some u) → Q .non H'
theorem sc40 : FnScope ["self", "candidate", "seated", "had", "parts"] ["self", "candidate", "seated", "had", "parts"] (defScope (inClass (top 40) 0)) := ⟨rfl, rfl, rfl, by decide +kernel, rfl, by decide +kernel, by decide +kernel⟩
theorem ok_turnI (T : Txt K mg c) (D : MakeAt K mg "Turn" c.turn "Turn.__init__" (inClass (top 40) 0) ["self", "candidate", "seated", "had", "parts"]) : Maker P w K mg base "Turn" c.turn 1 ["self", "candidate", "seated", "had", "parts"] (spTurnI c) := by
 refine D.ok sc40 (fun vs H Q E h => ?_) fun f cdv A outer s H vs Q E hr h => ?_
 ·obtain ⟨x, dx, t, rfl, _⟩ := h
  rfl
 ·obtain ⟨x, dx, t, rfl, hx, k⟩ := h
  refine ⟨_, pss_cons (ps_fld (pv 0) (pv 1) rfl) (pss_cons (ps_fld (pv 0) (pv 2) rfl) (pss_cons (ps_fld (pv 0) (pv 3) rfl) (pss_one (ps_fld (pv 0) (pv 4) rfl)))), ?_⟩
  refine ⟨_, rfl, _, rfl, x, c.turn, dx, _, rfl, hx, T.turn.cl, T.turn.no _ (by decide +kernel), (by show 0 < 1000; decide), ?_⟩
  refine ⟨_, rfl, _, rfl, x, c.turn, dx, _, rfl, upd_same, T.turn.cl, T.turn.no _ (by decide +kernel), (by show 1 < 1000; decide), ?_⟩
  refine ⟨_, rfl, _, rfl, x, c.turn, dx, _, rfl, upd_same, T.turn.cl, T.turn.no _ (by decide +kernel), Nat.lt_of_le_of_lt (length_putF _ _ _) (by show 2 < 1000; decide), ?_⟩
  refine ⟨_, rfl, _, rfl, x, c.turn, dx, _, rfl, upd_same, T.turn.cl, T.turn.no _ (by decide +kernel), Nat.lt_of_le_of_lt (length_putF _ _ _) (Nat.lt_of_le_of_lt (Nat.succ_le_succ (length_putF _ _ _)) (by show 3 < 1000; decide)), ?_⟩
  refine k _ ⟨dx, _, upd_same, ?_, ?_, ?_, lk_put⟩ fun b u e hb => by rw [upd_ne hb, upd_ne hb, upd_ne hb, upd_ne hb]; exact e
  ·exact (lk_put_ne (by decide +kernel)).trans ((lk_put_ne (by decide +kernel)).trans ((lk_put_ne (by decide +kernel)).trans lk_put))
  ·exact (lk_put_ne (by decide +kernel)).trans ((lk_put_ne (by decide +kernel)).trans lk_put)
  ·exact (lk_put_ne (by decide +kernel)).trans lk_put
def spTurn (c : Cs) (Pm Pl : Addr) : Sp := fun vs H Q _ => ∃ x l I g bs z t, vs = [.ref x] ∧ SeatAt c H x l I g bs z ∧ H z ≠ none ∧ g.worths.length = bs.length ∧ bs.length ≤ 64 ∧ g.inside.Nodup ∧ g.inside.length ≤ 8 ∧ 0 < g.inside.length ∧ 0 < g.left ∧ PM.Small t g ∧ t ≤ 7 ∧ TabAt H Pm mpos mqual ∧ TabAt H Pl lpos lqual ∧
 ∀ H' y m lo byq st a, PM.Most bs g m → PM.Fewest bs g lo → byq = decide (g.quota < PM.Sg.held bs g m) → st = (byq || decide (g.inside.length ≤ g.left)) → a = (if st = true then m else lo) →
  SeatAt c H' x l I (g.next bs a byq st) bs z → TurnAt c H' y ⟨a, st, PM.Sg.held bs g a, g.parts⟩ → H y = none → TabAt H' Pm mpos mqual → TabAt H' Pl lpos lqual → Buts [x, I, Pm, Pl] H H' → Q (.ref y) H'
theorem sc47 : FnScope ["seating", "held", "most", "by_quota", "seated", "candidate", "turn"] ["seating"] (defScope (top 47)) := ⟨rfl, rfl, rfl, by decide +kernel, rfl, by decide +kernel, by decide +kernel⟩
end
section
variable {P : Program} {w : World} {K : PySem.W.Frag} {mg : Str → Option Value} {base : Heap} {c : Cs}
abbrev sMost (f : Nat → Int) (a m : Nat) : Prop := f a < f m ∨ (f a = f m ∧ m ≤ a)
abbrev sLeast (f : Nat → Int) (a m : Nat) : Prop := f m < f a ∨ (f a = f m ∧ a ≤ m)
theorem ok_turn {Pm Pl : Addr} (T : Txt K mg c) (Df : Dif c) (hml : Pm ≠ Pl) (D : DefAt K mg "take_turn" (top 47) ["seating"]) (Ch : Callee P w K mg base "count_held" 3 ["seating"] (spHeld c)) (Cm : Callee P w K mg base "find_most" 9 ["held"] (spPick Pm mpos mqual sMost)) (Cl : Callee P w K mg base "find_least" 9 ["held"] (spPick Pl lpos lqual sLeast))
  (MT : Maker P w K mg base "Turn" c.turn 1 ["self", "candidate", "seated", "had", "parts"] (spTurnI c)) (Cq : Callee P w K mg base "take_quota" 3 ["seating", "candidate", "had"] (spQuota c)) : Callee P w K mg base "take_turn" 11 ["seating"] (spTurn c Pm Pl) := by
 refine D.ok sc47 (fun vs H Q E h => ?_) fun f cdv A outer s H vs Q E hr h => ?_
 ·obtain ⟨x, l, I, g, bs, z, t, rfl, _⟩ := h
  rfl
 ·obtain ⟨x, l, I, g, bs, z, t, rfl, S, hz, hw, h64, nd, h8, h0, hleft, sm, ht, tm, tl, k⟩ := h
  have T4 : ∃ t4, PSs (cxOf CX0 P w K mg base ["seating", "held", "most", "by_quota", "seated", "candidate", "turn"] "take_turn" (defScope (top 47)) f cdv A outer s H E).nox ((defBody (top 47)).drop 8) t4 ∧
    ∀ (d y : Addr) (m a : Nat) (byq st : Bool) (H6 : Hp) (g2 : PM.Sg), SeatAt c H6 x l I g2 bs z → g2.inside = g.inside → a ∈ g.inside → Q (.ref y) (upd H6 I (.lst ((g.inside.filter fun b => b != a).map natV))) →
     t4 { nx := fun _ H' => Q .non H', rt := Q } [some (.ref x), some (.ref d), some (natV m), some (.bl byq), some (.bl st), some (natV a), some (.ref y)] H6 := by
   refine ⟨_, pss_cons (ps_expr (pe_bm PySem.F.plainAttrs_list PySem.F.slot_list_remove PySem.F.type_list_remove mt_remove (pe_fld (pv 0) rfl) (pa_cons (pv 5) pa_nil))) (pss_one (ps_ret (pv 6))), ?_⟩
   intro d y m a byq st H6 g2 S6 e6 ha q
   obtain ⟨dx, fs, W, as, h1, F, hW, nWI, nWl, hL, hB⟩ := S6.ex
   have hI := S6.ins
   rw [e6] at hI
   obtain ⟨j, hj, hno⟩ := first_place ha
   obtain ⟨j1, j2⟩ := int_place hj hno
   refine ⟨_, rfl, x, c.seating, dx, fs, _, rfl, h1, T.seating.cl, T.seating.no _ (by decide +kernel), F.ins, .inl ⟨rfl, _, SqL.of hI⟩, _, rfl, I, g.inside.map Int.ofNat, (a : Int), j, rfl, rfl, by rw [hI, natV_ints], j1, j2, _, rfl, ?_⟩
   rw [← eraseIdx_map, ← natV_ints, eraseIdx_map, erase_filter nd hj]
   exact q
  obtain ⟨t4, p4, r4⟩ := T4
  have T3 : ∃ t3, PSs (cxOf CX0 P w K mg base ["seating", "held", "most", "by_quota", "seated", "candidate", "turn"] "take_turn" (defScope (top 47)) f cdv A outer s H E).nox ((defBody (top 47)).drop 7) t3 ∧
    ∀ (d y : Addr) (m a : Nat) (byq st : Bool) (H5 : Hp) (g1 : PM.Sg), SeatAt c H5 x l I g1 bs z → g1.inside = g.inside → g1.left = g.left → a ∈ g.inside → (∀ H7, SeatAt c H7 x l I { g1 with left := if st = true then g.left - 1 else g.left, inside := g.inside.filter fun b => b != a } bs z → Buts [x, I] H5 H7 → Q (.ref y) H7) →
     t3 { nx := fun _ H' => Q .non H', rt := Q } [some (.ref x), some (.ref d), some (natV m), some (.bl byq), some (.bl st), some (natV a), some (.ref y)] H5 := by
   refine ⟨_, pss_cons (ps_if (pt_tru (pv 4)) (pss_one (ps_fldaug (pv 0) pe_int in_sub)) pss_nil) p4, ?_⟩
   intro d y m a byq st H5 g1 S5 e5 e5l ha q
   refine ⟨_, rfl, _, rfl, ?_⟩
   cases st with
   | true =>
    obtain ⟨dx, fs, W, as, h1, F, hW, nWI, nWl, hL, hB⟩ := S5.ex
    have few := F.few
    have fl := F.left
    refine iteT ⟨_, rfl, x, c.seating, dx, fs, _, rfl, h1, T.seating.cl, T.seating.no _ (by decide +kernel), fl, _, _, rfl, rfl, dx, fs, h1, by omega, ?_⟩
    have ev : V.int ((g1.left : Int) - 1) = natV (g.left - 1) := by
     show _ = V.int ((g.left - 1 : Nat) : Int)
     rw [e5l]
     congr 1
     omega
    refine put_as ev ?_
    have S6 := SeatAt.setLeft (n := g.left - 1) Df S5 h1
    refine r4 d y m a byq true _ _ S6 e5 ha ?_
    refine q _ (S6.setIns) ?_
    exact Buts.trans (Buts.put (by simp)) (Buts.put (by simp))
   | false =>
    refine iteF ?_
    refine r4 d y m a byq false _ _ S5 e5 ha ?_
    refine q _ ?_ (Buts.put (by simp))
    have S6 := S5.setIns (ins := g.inside.filter fun b => b != a)
    have e : ({ g1 with left := if false = true then g.left - 1 else g.left, inside := g.inside.filter fun b => b != a } : PM.Sg) = { g1 with inside := g.inside.filter fun b => b != a } := by
     rw [if_neg (by decide), ← e5l]
    rw [e]
    exact S6
  obtain ⟨t3, p3, r3⟩ := T3
  have T2 : ∃ t2, PSs (cxOf CX0 P w K mg base ["seating", "held", "most", "by_quota", "seated", "candidate", "turn"] "take_turn" (defScope (top 47)) f cdv A outer s H E).nox ((defBody (top 47)).drop 5) t2 ∧
    ∀ (d : Addr) (m a : Nat) (byq st : Bool) (H3 : Hp), SeatAt c H3 x l I g bs z → H3 z ≠ none → H3 d = some (.dK (heldKs g.inside (PM.Sg.held bs g))) → a ∈ g.inside → (byq = true → g.quota < PM.Sg.held bs g a) →
     (∀ H7 y, SeatAt c H7 x l I (g.next bs a byq st) bs z → TurnAt c H7 y ⟨a, st, PM.Sg.held bs g a, g.parts⟩ → H3 y = none → Buts [x, I] H3 H7 → Q (.ref y) H7) →
     t2 { nx := fun _ H' => Q .non H', rt := Q } [some (.ref x), some (.ref d), some (natV m), some (.bl byq), some (.bl st), some (natV a), none] H3 := by
   refine ⟨_, pss_cons (ps_set (i := 6) sc47.nd rfl (Or.inl rfl) (pe_mk MT (hr.mono (by decide)) (pa_cons (pv 5) (pa_cons (pv 4) (pa_cons (pe_dget (un1 hr) (pv 1) (pv 5) (fun _ _ => rfl)) (pa_cons (pe_fld (pv 0) rfl) pa_nil))))))
    (pss_cons (ps_if (pt_tru (pv 3)) (pss_one (ps_expr (pe_fn Cq (hr.mono (by decide)) (pa_cons (pv 0) (pa_cons (pv 5) (pa_cons (pe_dget (un1 hr) (pv 1) (pv 5) (fun _ _ => rfl)) pa_nil)))))) pss_nil) p3), ?_⟩
   intro d m a byq st H3 S3 hz3 hd ha hq q
   obtain ⟨dx, fs, W, as, h1, F, hW, nWI, nWl, hL, hB⟩ := S3.ex
   have gv := DGet.k (k := .inl (a : Int)) hd
   rw [heldKs_val ha] at gv
   refine ⟨_, rfl, _, rfl, _, rfl, _, rfl, d, .int (PM.Sg.held bs g a), rfl, gv, _, rfl, x, c.seating, dx, fs, _, rfl, h1, T.seating.cl, T.seating.no _ (by decide +kernel), F.parts, fun y dy ny ndy hne => ?_⟩
   refine ⟨y, dy, ⟨a, st, PM.Sg.held bs g a, g.parts⟩, rfl, upd_same, fun H4 t4' k4 => ⟨rfl, ?_⟩⟩
   have s4 : Same H3 H4 := new_same ny ndy k4
   have S4 := S3.mono s4
   have yx : y ≠ x := (ne_of_none h1 ny).symm
   have yI : y ≠ I := (ne_of_none S3.ins ny).symm
   have tk : ∀ {Ha Hb : Hp}, TurnAt c Ha y ⟨a, st, PM.Sg.held bs g a, g.parts⟩ → Buts [x, I] Ha Hb → TurnAt c Hb y ⟨a, st, PM.Sg.held bs g a, g.parts⟩ := fun h b => by
    obtain ⟨d1, f1, z1, z2⟩ := h
    exact ⟨d1, f1, b _ _ z1 (by simp [yx, yI]), z2⟩
   refine ⟨_, rfl, _, rfl, ?_⟩
   cases byq with
   | true =>
    have gv4 := DGet.k (k := .inl (a : Int)) (s4 _ _ hd)
    rw [heldKs_val ha] at gv4
    refine iteT ⟨_, rfl, _, rfl, _, rfl, _, rfl, d, .int (PM.Sg.held bs g a), rfl, gv4, x, l, I, g, bs, z, a, t, rfl, S4, fun e => hz3 (s4.free e), hw, h64, sm, ht, hq rfl, fun H5 S5 B5 => ?_⟩
    have B5' : Buts [x, I] H4 H5 := B5.wide (by simp)
    refine r3 d y m a true st H5 _ S5 rfl rfl ha fun H7 S7 B7 => q H7 y S7 (tk t4' (B5'.trans B7)) ny (Buts.trans (Same.buts s4) (B5'.trans B7))
   | false =>
    refine iteF ?_
    exact r3 d y m a false st H4 _ S4 rfl rfl ha fun H7 S7 B7 => q H7 y S7 (tk t4' B7) ny (Buts.trans (Same.buts s4) B7)
  obtain ⟨t2, p2, r2⟩ := T2
  refine ⟨_, pss_cons (ps_set (i := 1) sc47.nd rfl (Or.inl rfl) (pe_fn Ch (hr.mono (by decide)) (pa_cons (pv 0) pa_nil)))
   (pss_cons (ps_set (i := 2) sc47.nd rfl (Or.inl rfl) (pe_fn Cm (hr.mono (by decide)) (pa_cons (pv 1) pa_nil)))
   (pss_cons (ps_set (i := 3) sc47.nd rfl (Or.inl rfl) (pe_cmpR op_gt (pe_dget (un1 hr) (pv 1) (pv 2) (fun _ _ => rfl)) (pe_fld (pv 0) rfl) (nomark _)))
   (pss_cons (ps_set (i := 4) sc47.nd rfl (Or.inl rfl) (pe_or (pv 3) (pe_one (pe_cmpR op_le (pe_callB call_len_seq rfl T.len PySem.boot_len (pa_cons (pe_fld (pv 0) rfl) pa_nil)) (pe_fld (pv 0) rfl) (nomark _)))))
   (pss_cons (ps_set (i := 5) sc47.nd rfl (Or.inl rfl) (pe_ifExp (pt_tru (pv 4)) (pv 2) (pe_fn Cl (hr.mono (by decide)) (pa_cons (pv 1) pa_nil)))) p2)))), ?_⟩
  refine ⟨_, rfl, x, l, I, g, bs, z, rfl, S, hw, h8, h64, nd, fun H1 d s1 nd1 hd1 => ?_⟩
  have tm1 := tm.mono s1
  have tl1 := tl.mono s1
  obtain ⟨psm, hPm, _⟩ := id tm1
  obtain ⟨psl, hPl, _⟩ := id tl1
  refine ⟨_, rfl, d, g.inside, PM.Sg.held bs g, rfl, hd1, h0, tm1, fun H2 m hm hbest b2 tm2 => ?_⟩
  have S1 := S.mono s1
  have S2 := S1.tbl hPm b2
  have hdm : d ≠ Pm := fun z => by rw [z, hPm] at hd1; cases hd1
  have hd2 := b2 _ _ hd1 hdm
  have B2 : Buts [Pm] H1 H2 := But.buts b2 (List.mem_singleton_self _)
  have tl2 : TabAt H2 Pl lpos lqual := tab_buts (c := c) tl1 B2 (nb1 hPm True.intro) (by simp [Ne.symm hml])
  obtain ⟨dx, fs, W, as, h1, F, hW, nWI, nWl, hL, hB⟩ := S2.ex
  have gv := DGet.k (k := .inl (m : Int)) hd2
  rw [heldKs_val hm] at gv
  refine ⟨_, rfl, _, rfl, d, .int (PM.Sg.held bs g m), rfl, gv, _, rfl, x, c.seating, dx, fs, _, rfl, h1, T.seating.cl, T.seating.no _ (by decide +kernel), F.quota, _, _, rfl, rfl, ?_⟩
  have e9 : decide ((((g.inside.map natV).length : Nat) : Int) ≤ (g.left : Int)) = decide (g.inside.length ≤ g.left) := by rw [List.length_map, Bool.eq_iff_iff, decide_eq_true_iff, decide_eq_true_iff]; omega
  have hmost : PM.Most bs g m := ⟨hm, fun a ha => hbest a ha⟩
  obtain ⟨lo0, hlo0, hlob0⟩ := few_ex (PM.Sg.held bs g) g.inside h0
  have hfew0 : PM.Fewest bs g lo0 := ⟨hlo0, hlob0⟩
  have hS : Buts [x, I, Pm, Pl] H H2 := Buts.trans (Same.buts s1) (B2.wide (by simp))
  have nB : ∀ {Ha : Hp}, SeatAt c Ha x l I g bs z → NB c [x, I] Ha := fun sa => by
   obtain ⟨dx', fs', W', as', z1, _⟩ := sa.ex
   exact NB.cons z1 Df.sb (nb1 sa.ins True.intro)
  have pne : ∀ {Ha : Hp} {Pt : Addr} {ps : Array Value}, SeatAt c Ha x l I g bs z → Ha Pt = some (.tbl ps) → Pt ∉ [x, I] := fun sa hp zq => by
   obtain ⟨dx', fs', W', as', z1, _⟩ := sa.ex
   rcases List.mem_cons.mp zq with q | q
   ·rw [q, z1] at hp; cases hp
   ·rw [List.mem_singleton.mp q, sa.ins] at hp; cases hp
  have fin : ∀ (v4 : V) (a lo : Nat) (H3 : Hp) (st : Bool), v4 = .bl st → st = (decide (g.quota < PM.Sg.held bs g m) || decide (g.inside.length ≤ g.left)) → PM.Fewest bs g lo → a = (if st = true then m else lo) → SeatAt c H3 x l I g bs z → H3 d = some (.dK (heldKs g.inside (PM.Sg.held bs g))) → Buts [x, I, Pm, Pl] H H3 → TabAt H3 Pm mpos mqual → TabAt H3 Pl lpos lqual → (∀ y, H3 y = none → H y = none) →
    t2 { nx := fun _ H' => Q .non H', rt := Q } [some (.ref x), some (.ref d), some (natV m), some (.bl (decide (g.quota < PM.Sg.held bs g m))), some v4, some (natV a), none] H3 := by
   intro v4 a lo H3 st ev4 est hf ea S3 hd3 B3 tm3 tl3 fr
   subst ev4
   have ham : a ∈ g.inside := by
    rw [ea]
    split
    ·exact hm
    ·exact hf.mem
   refine r2 d m a _ st H3 S3 (fun e => hz (fr _ e)) hd3 ham (fun hb => ?_) fun H7 y S7 t7 ny B7 => ?_
   ·have hb' := of_decide_eq_true hb
    have : a = m := by rw [ea, if_pos (by rw [est, hb]; rfl)]
    rw [this]
    exact hb'
   ·obtain ⟨ps3, hp3, _⟩ := id tm3
    obtain ⟨ps4, hp4, _⟩ := id tl3
    exact k H7 y m lo _ st a hmost hf rfl est ea S7 t7 (fr y ny) (tab_buts tm3 B7 (nB S3) (pne S3 hp3)) (tab_buts tl3 B7 (nB S3) (pne S3 hp4)) (B3.trans (B7.wide (by simp)))
  have free2 : ∀ y, H2 y = none → H y = none := fun y e => by
   cases z : H y with
   | none => rfl
   | some o =>
    by_cases q : y = Pm
    ·obtain ⟨ps, hp, _⟩ := tm2
     rw [q, hp] at e
     cases e
    ·rw [b2 _ _ (s1 _ _ z) q] at e
     cases e
  refine ⟨_, rfl, _, rfl, ?_⟩
  by_cases hbq : decide (g.quota < PM.Sg.held bs g m) = true
  ·rw [if_pos hbq]
   exact ⟨_, rfl, _, rfl, iteT ⟨_, rfl, fin _ m lo0 H2 true rfl (by rw [hbq]; rfl) hfew0 rfl S2 hd2 hS tm2 tl2 free2⟩⟩
  rw [if_neg hbq]
  refine ⟨_, rfl, x, c.seating, dx, fs, _, rfl, h1, T.seating.cl, T.seating.no _ (by decide +kernel), F.ins, I, _, rfl, .inl (SqL.of S2.ins), _, rfl, x, c.seating, dx, fs, _, rfl, h1, T.seating.cl, T.seating.no _ (by decide +kernel), F.left, _, _, rfl, rfl, ?_⟩
  refine ⟨_, rfl, _, rfl, ?_⟩
  by_cases hst : g.inside.length ≤ g.left
  ·rw [show decide ((((g.inside.map natV).length : Nat) : Int) ≤ (g.left : Int)) = true by rw [e9]; exact decide_eq_true hst]
   exact iteT ⟨_, rfl, fin _ m lo0 H2 true (by show V.bl (decide ((((g.inside.map natV).length : Nat) : Int) ≤ (g.left : Int))) = _; rw [e9, decide_eq_true hst]) (by rw [decide_eq_true hst, Bool.or_true]) hfew0 rfl S2 hd2 hS tm2 tl2 free2⟩
  ·rw [show decide ((((g.inside.map natV).length : Nat) : Int) ≤ (g.left : Int)) = false by rw [e9]; exact decide_eq_false hst]
   have hst2 : false = (decide (g.quota < PM.Sg.held bs g m) || decide (g.inside.length ≤ g.left)) := by rw [decide_eq_false hst, Bool.or_false]; exact (Bool.eq_false_iff.mpr hbq).symm
   refine iteF ⟨_, rfl, d, g.inside, PM.Sg.held bs g, rfl, hd2, h0, tl2, fun H3 lo hlo hlob b3 tl3 => ?_⟩
   obtain ⟨psl2, hPl2, _⟩ := id tl2
   have hdl : d ≠ Pl := fun z => by rw [z, hPl2] at hd2; cases hd2
   have B3 : Buts [Pl] H2 H3 := But.buts b3 (List.mem_singleton_self _)
   refine fin _ lo lo H3 false (by show V.bl (decide ((((g.inside.map natV).length : Nat) : Int) ≤ (g.left : Int))) = _; rw [e9, decide_eq_false hst]) hst2 ⟨hlo, fun a ha => hlob a ha⟩ rfl (S2.tbl hPl2 b3) (b3 _ _ hd2 hdl) (hS.trans (B3.wide (by simp))) (tab_buts (c := c) tm2 B3 (nb1 hPl2 True.intro) (by simp [hml])) tl3 fun y e => ?_
   refine free2 y ?_
   cases z : H2 y with
   | none => rfl
   | some o =>
    by_cases q : y = Pl
    ·obtain ⟨ps, hp, _⟩ := tl3
     rw [q, hp] at e
     cases e
    ·rw [b3 _ _ z q] at e
     cases e
end
section
variable {P : Program} {w : World} {K : PySem.W.Frag} {mg : Str → Option Value} {base : Heap} {c : Cs}
def sg0 (p : Poll) (n : Nat) : PM.Sg := ⟨List.range p.size, n, (n : Int) + 1, (p.voters : Int), p.ballots.map fun b => (b.many : Int) * ((n : Int) + 1)⟩
def spSeatI (c : Cs) : Sp := fun vs H Q _ => ∃ x dx p l p' n z, vs = [.ref x, .ref p, natV n] ∧ H x = some (.ins c.seating dx []) ∧ PollL c H p l p' ∧ WF p' ∧ n ≤ p'.size ∧ H z ≠ none ∧
 ∀ H' I, SeatAt c H' x l I (sg0 p' n) p'.ballots z → H I = none → (∀ b u, H b = some u → b ≠ x → H' b = some u) → Q .non H'
theorem sc41 : FnScope ["self", "poll", "seats", "ballot"] ["self", "poll", "seats"] (defScope (inClass (top 41) 0)) := ⟨rfl, rfl, rfl, by decide +kernel, rfl, by decide +kernel, by decide +kernel⟩
theorem ok_seatI (T : Txt K mg c) (Df : Dif c) (D : MakeAt K mg "Seating" c.seating "Seating.__init__" (inClass (top 41) 0) ["self", "poll", "seats"]) (Cv : Callee P w K mg base "count_voters" 1 ["poll"] (spVoters c)) : Maker P w K mg base "Seating" c.seating 3 ["self", "poll", "seats"] (spSeatI c) := by
 refine D.ok sc41 (fun vs H Q E h => ?_) fun f cdv A outer s H vs Q E hr h => ?_
 ·obtain ⟨x, dx, p, l, p', n, z, rfl, _⟩ := h
  rfl
 ·obtain ⟨x, dx, p, l, p', n, z, rfl, hx, hp, wf, hn, hz, k⟩ := h
  refine ⟨_, pss_cons (ps_fld (pv 0) (pe_fld (pv 1) rfl) rfl)
   (pss_cons (ps_fld (pv 0) (pe_callTy (call_list_rng rfl) rfl T.list boot_list (pa_cons (pe_callTy call_rangeR rfl T.range boot_range (pa_cons (pe_fld (pv 1) rfl) pa_nil)) pa_nil)) rfl)
   (pss_cons (ps_fld (pv 0) (pv 2) rfl)
   (pss_cons (ps_fld (pv 0) (pe_op op_add (pv 2) pe_int) rfl)
   (pss_cons (ps_fld (pv 0) (pe_fn Cv (hr.mono (by decide)) (pa_cons (pv 1) pa_nil)) rfl)
   (pss_one (ps_fld (pv 0) (pe_lc (own := [("ballot", 3)]) (g := gName 3) (tt := tYes) (te := tOp (rI CBig fun i j => .int (i * j)) (tFld K (tVar 3) "voters") (tFld K (tVar 0) "parts")) rfl sc41.nd (pi_list (pe_fld (pv 1) rfl)) (blkOk_by (N := ["self", "poll", "seats", "ballot"]) (sc := defScope (inClass (top 41) 0)) (by decide +kernel)) (fun _ _ _ _ _ => pg_name (i := 3) sc41.nd rfl (Or.inl rfl)) (fun _ _ _ _ _ => pts_nil) (fun _ _ _ _ _ => pe_op op_mulB (pe_fld (pv 3) rfl) (pe_fld (pv 0) rfl))) rfl)))))), ?_⟩
  have hi8 := wf.hi
  have nbx : ∀ {Ha : Hp} {fs : List (Str × V)}, Ha x = some (.ins c.seating dx fs) → NB c [x] Ha := fun e => nb1 e Df.sb
  have lx : ∀ {Ha : Hp} {fs : List (Str × V)}, Ha x = some (.ins c.seating dx fs) → PollL c Ha p l p' → l ∉ [x] := fun e hh zz => by
   obtain ⟨_, _, _, _, _, _, e4, _⟩ := hh
   rw [List.mem_singleton.mp zz, e] at e4
   cases e4
  have step : ∀ {Ha : Hp} {fs fs' : List (Str × V)}, Ha x = some (.ins c.seating dx fs) → PollL c Ha p l p' → Buts [x] H Ha → PollL c (upd Ha x (.ins c.seating dx fs')) p l p' ∧ Buts [x] H (upd Ha x (.ins c.seating dx fs')) := fun e hh B => ⟨hh.buts (Buts.put (List.mem_singleton_self _)) (nbx e) (lx e hh), B.trans (Buts.put (List.mem_singleton_self _))⟩
  obtain ⟨dp, fp, as0, h1, h2, h3, h4, h5⟩ := id hp
  refine ⟨_, rfl, p, c.poll, dp, fp, _, rfl, h1, T.poll.cl, T.poll.no _ (by decide +kernel), h3, _, rfl, x, c.seating, dx, _, rfl, hx, T.seating.cl, T.seating.no _ (by decide +kernel), (by show 0 < 1000; decide), ?_⟩
  obtain ⟨hp1, B1⟩ := step (fs' := putF "ballots" (.ref l) []) hx hp (Buts.refl _ _)
  generalize hH1 : upd H x (.ins c.seating dx (putF "ballots" (.ref l) [])) = H1 at hp1 B1 ⊢
  have hx1 : H1 x = some (.ins c.seating dx (putF "ballots" (.ref l) [])) := by rw [← hH1]; exact upd_same
  obtain ⟨dp1, fp1, as1, g1, g2, g3, g4, g5⟩ := id hp1
  refine ⟨_, rfl, p, c.poll, dp1, fp1, _, rfl, g1, T.poll.cl, T.poll.no _ (by decide +kernel), g2, p'.size, rfl, fun r hr1 => ?_⟩
  refine ⟨r, p'.size, rfl, upd_same, by omega, fun I hI => ?_⟩
  have s2 : Same H1 (upd (upd H1 r (.rng 0 p'.size)) I (.lst ((List.range p'.size).map natV))) := (same_new (Same.refl _) hr1).trans (same_new (Same.refl _) hI)
  have hI1 : H1 I = none := (same_new (Same.refl _) hr1).free hI
  have hIx : I ≠ x := (ne_of_none hx1 hI1).symm
  refine ⟨_, rfl, x, c.seating, dx, _, rfl, s2 _ _ hx1, T.seating.cl, T.seating.no _ (by decide +kernel), (by show 1 < 1000; decide), ?_⟩
  obtain ⟨hp2, B2⟩ := step (fs' := putF "inside" (.ref I) (putF "ballots" (.ref l) [])) (s2 _ _ hx1) (hp1.mono s2) (B1.trans (Same.buts s2))
  have eI2 : upd (upd (upd H1 r (.rng 0 p'.size)) I (.lst ((List.range p'.size).map natV))) x (.ins c.seating dx (putF "inside" (.ref I) (putF "ballots" (.ref l) []))) I = some (.lst ((List.range p'.size).map natV)) := by rw [upd_ne hIx, upd_same]
  generalize hH2 : upd (upd (upd H1 r (.rng 0 p'.size)) I (.lst ((List.range p'.size).map natV))) x (.ins c.seating dx (putF "inside" (.ref I) (putF "ballots" (.ref l) []))) = H2 at hp2 B2 eI2 ⊢
  have hx2 : H2 x = some (.ins c.seating dx (putF "inside" (.ref I) (putF "ballots" (.ref l) []))) := by rw [← hH2]; exact upd_same
  refine ⟨_, rfl, _, rfl, x, c.seating, dx, _, rfl, hx2, T.seating.cl, T.seating.no _ (by decide +kernel), (by show 2 < 1000; decide), ?_⟩
  obtain ⟨hp3, B3⟩ := step (fs' := putF "seats_left" (natV n) (putF "inside" (.ref I) (putF "ballots" (.ref l) []))) hx2 hp2 B2
  refine ⟨_, rfl, _, _, rfl, rfl, _, rfl, x, c.seating, dx, _, rfl, upd_same, T.seating.cl, T.seating.no _ (by decide +kernel), (by show 3 < 1000; decide), ?_⟩
  refine put_as (v' := .int ((n : Int) + 1)) rfl ?_
  obtain ⟨hp4, B4⟩ := step (fs' := putF "parts" (.int ((n : Int) + 1)) (putF "seats_left" (natV n) (putF "inside" (.ref I) (putF "ballots" (.ref l) [])))) upd_same hp3 B3
  have eI4 : upd (upd H2 x (.ins c.seating dx (putF "seats_left" (natV n) (putF "inside" (.ref I) (putF "ballots" (.ref l) []))))) x (.ins c.seating dx (putF "parts" (.int ((n : Int) + 1)) (putF "seats_left" (natV n) (putF "inside" (.ref I) (putF "ballots" (.ref l) []))))) I = some (.lst ((List.range p'.size).map natV)) := by rw [upd_ne hIx, upd_ne hIx]; exact eI2
  generalize hH4 : upd (upd H2 x (.ins c.seating dx (putF "seats_left" (natV n) (putF "inside" (.ref I) (putF "ballots" (.ref l) []))))) x (.ins c.seating dx (putF "parts" (.int ((n : Int) + 1)) (putF "seats_left" (natV n) (putF "inside" (.ref I) (putF "ballots" (.ref l) []))))) = H4 at hp4 B4 eI4 ⊢
  have hx4 : H4 x = some (.ins c.seating dx (putF "parts" (.int ((n : Int) + 1)) (putF "seats_left" (natV n) (putF "inside" (.ref I) (putF "ballots" (.ref l) []))))) := by rw [← hH4]; exact upd_same
  refine ⟨_, rfl, p, p', rfl, ⟨l, hp4⟩, wf, fun H5 s5 => ?_⟩
  refine ⟨_, rfl, x, c.seating, dx, _, rfl, s5 _ _ hx4, T.seating.cl, T.seating.no _ (by decide +kernel), (by show 4 < 1000; decide), ?_⟩
  obtain ⟨hp6, B6⟩ := step (fs' := putF "quota" (natV p'.voters) (putF "parts" (.int ((n : Int) + 1)) (putF "seats_left" (natV n) (putF "inside" (.ref I) (putF "ballots" (.ref l) []))))) (s5 _ _ hx4) (hp4.mono s5) (B4.trans (Same.buts s5))
  have eI6 : upd H5 x (.ins c.seating dx (putF "quota" (natV p'.voters) (putF "parts" (.int ((n : Int) + 1)) (putF "seats_left" (natV n) (putF "inside" (.ref I) (putF "ballots" (.ref l) [])))))) I = some (.lst ((List.range p'.size).map natV)) := by rw [upd_ne hIx]; exact s5 _ _ eI4
  generalize hH6 : upd H5 x (.ins c.seating dx (putF "quota" (natV p'.voters) (putF "parts" (.int ((n : Int) + 1)) (putF "seats_left" (natV n) (putF "inside" (.ref I) (putF "ballots" (.ref l) [])))))) = H6 at hp6 B6 eI6 ⊢
  have hx6 : H6 x = some (.ins c.seating dx (putF "quota" (natV p'.voters) (putF "parts" (.int ((n : Int) + 1)) (putF "seats_left" (natV n) (putF "inside" (.ref I) (putF "ballots" (.ref l) [])))))) := by rw [← hH6]; exact upd_same
  have hpa : lk (putF "quota" (natV p'.voters) (putF "parts" (.int ((n : Int) + 1)) (putF "seats_left" (natV n) (putF "inside" (.ref I) (putF "ballots" (.ref l) []))))) "parts" = some (.int ((n : Int) + 1)) := (lk_put_ne (by decide +kernel)).trans lk_put
  obtain ⟨dp6, fp6, as6, q1, q2, q3, q4, q5⟩ := id hp6
  refine ⟨_, rfl, p, c.poll, dp6, fp6, _, rfl, q1, T.poll.cl, T.poll.no _ (by decide +kernel), q3, l, rfl, ⟨_, SqL.of q4⟩, fun W hW => lcL (fun i => (p'.ballots[i]?).map fun b => V.int ((b.many : Int) * ((n : Int) + 1))) hW (SqL.of q4) ?_ (fun i y H' hi sm R R' hR hR' => ?_) fun H' sm hD' => ?_⟩
  ·rw [List.length_map, q5.len]
   have := wf.few
   omega
  ·obtain ⟨a, b, rfl, hb, dxb, fsb, tb, e1, e2, e3, e4⟩ := q5.get hi
   have hm := (wf.bal b (List.mem_of_getElem? hb)).1
   refine ⟨rfl, _, rfl, a, c.bal, dxb, fsb, _, rfl, sm _ _ e1, T.bal.cl, T.bal.no _ (by decide +kernel), e2, _, rfl, x, c.seating, dx, _, _, rfl, sm _ _ hx6, T.seating.cl, T.seating.no _ (by decide +kernel), hpa, _, _, rfl, rfl, ⟨?_, ?_⟩, ?_⟩
   ·exact Nat.lt_of_lt_of_le (show ((b.many : Nat) : Int).natAbs < 2 ^ 20 by omega) (Nat.pow_le_pow_right (by decide) (by decide))
   ·exact Nat.lt_of_lt_of_le (show ((n : Int) + 1).natAbs < 2 ^ 20 by omega) (Nat.pow_le_pow_right (by decide) (by decide))
   ·exact hR _ _ (by rw [hb]; rfl) (Same.refl _)
  ·rw [List.length_map, q5.len, fm_all (g := fun (b : Ballot) => V.int ((b.many : Int) * ((n : Int) + 1))) (fun i b e => by rw [e]; rfl)] at hD'
   refine ⟨_, rfl, x, c.seating, dx, _, rfl, sm _ _ hx6, T.seating.cl, T.seating.no _ (by decide +kernel), (by show 5 < 1000; decide), ?_⟩
   obtain ⟨hp7, B7⟩ := step (fs' := putF "worths" (.ref W) (putF "quota" (natV p'.voters) (putF "parts" (.int ((n : Int) + 1)) (putF "seats_left" (natV n) (putF "inside" (.ref I) (putF "ballots" (.ref l) [])))))) (sm _ _ hx6) (hp6.mono sm) (B6.trans (Same.buts sm))
   have hWx : W ≠ x := (ne_of_none hx6 hW).symm
   have hWI : W ≠ I := (ne_of_none eI6 hW).symm
   have hWl : W ≠ l := (ne_of_none q4 hW).symm
   have hH0 : H I = none := by
    cases e : H I with
    | none => rfl
    | some o =>
     rw [B1 _ _ e (by simp [hIx])] at hI1
     cases hI1
   obtain ⟨dp7, fp7, as7, r1, r2, r3, r4, r5⟩ := id hp7
   refine k _ I ⟨⟨dx, _, W, as7, upd_same, ⟨?_, ?_, ?_, ?_, ?_, lk_put, ?_⟩, ?_, hWI, ?_, r4, r5⟩, ?_, ?_⟩ hH0 fun b u e ne => B7 b u e (by simp [ne])
   ·exact (lk_put_ne (by decide +kernel)).trans ((lk_put_ne (by decide +kernel)).trans ((lk_put_ne (by decide +kernel)).trans ((lk_put_ne (by decide +kernel)).trans ((lk_put_ne (by decide +kernel)).trans lk_put))))
   ·exact (lk_put_ne (by decide +kernel)).trans ((lk_put_ne (by decide +kernel)).trans ((lk_put_ne (by decide +kernel)).trans ((lk_put_ne (by decide +kernel)).trans lk_put)))
   ·exact (lk_put_ne (by decide +kernel)).trans ((lk_put_ne (by decide +kernel)).trans ((lk_put_ne (by decide +kernel)).trans lk_put))
   ·exact (lk_put_ne (by decide +kernel)).trans ((lk_put_ne (by decide +kernel)).trans lk_put)
   ·exact (lk_put_ne (by decide +kernel)).trans lk_put
   ·show 6 ≤ 6
    decide
   ·rw [upd_ne hWx, hD']
    show _ = some (HO.lst ((p'.ballots.map fun b => (b.many : Int) * ((n : Int) + 1)).map V.int))
    rw [List.map_map]
    rfl
   ·intro zz
    rcases List.mem_cons.mp zz with zz | zz
    ·exact hWl zz
    ·rw [List.mem_singleton.mp zz] at hW
     by_cases e : z = x
     ·rw [e, hx6] at hW
      cases hW
     ·cases e2 : H z with
      | none => exact hz e2
      | some o =>
       rw [B6 _ _ e2 (by simp [e])] at hW
       cases hW
   ·rw [upd_ne hIx]
    exact sm _ _ eI6
   ·exact fun zz => by
     obtain ⟨_, _, _, _, _, _, e4, _⟩ := hp1
     rw [← zz, hI1] at e4
     cases e4
end
structure TurnsAt (c : Cs) (H : Hp) (r : Addr) (ys : List Addr) (ts : List PM.TurnD) : Prop where
 lst : H r = some (.lst (ys.map V.ref))
 len : ys.length = ts.length
 at_ : ∀ (i : Nat) (y : Addr) (t : PM.TurnD), ys[i]? = some y → ts[i]? = some t → TurnAt c H y t
theorem TurnsAt.mono {c : Cs} {H H' : Hp} {r : Addr} {ys : List Addr} {ts : List PM.TurnD} (h : TurnsAt c H r ys ts) (s : Same H H') : TurnsAt c H' r ys ts := ⟨s _ _ h.lst, h.len, fun i y t e1 e2 => (h.at_ i y t e1 e2).mono s⟩
theorem TurnsAt.get {c : Cs} {H : Hp} {r : Addr} {ys : List Addr} {ts : List PM.TurnD} (h : TurnsAt c H r ys ts) {i : Nat} {x : V} (e : (ys.map V.ref)[i]? = some x) : ∃ y t, x = .ref y ∧ ts[i]? = some t ∧ TurnAt c H y t := by
 rw [List.getElem?_map] at e
 cases q : ys[i]? with
 | none => rw [q] at e; cases e
 | some y =>
  rw [q] at e
  have hi : i < ts.length := by
   rw [← h.len]
   exact (List.getElem?_eq_some_iff.mp q).1
  exact ⟨y, ts[i], (Option.some.inj e).symm, List.getElem?_eq_getElem hi, h.at_ i y _ q (List.getElem?_eq_getElem hi)⟩
theorem SeatAt.setZ {c : Cs} {H : Hp} {x l I : Addr} {g : PM.Sg} {bs : List Ballot} {z : Addr} {xs ys : List V} (h : SeatAt c H x l I g bs z) (hz : H z = some (.lst xs)) (hI : z ≠ I) (hl : z ≠ l) : SeatAt c (upd H z (.lst ys)) x l I g bs z := by
 obtain ⟨⟨dx, fs, W, as, e1, F, e3, e4, e5, e6, e7⟩, i, nI⟩ := h
 have B : Buts [z] H (upd H z (.lst ys)) := Buts.put (List.mem_singleton_self _)
 have nx : x ≠ z := fun q => by rw [← q, e1] at hz; cases hz
 have nW : W ≠ z := fun q => e5 (by simp [q])
 exact ⟨⟨dx, fs, W, as, by rw [upd_ne nx]; exact e1, F, by rw [upd_ne nW]; exact e3, e4, e5, by rw [upd_ne (Ne.symm hl)]; exact e6, e7.buts B (nb1 hz True.intro)⟩, by rw [upd_ne (Ne.symm hI)]; exact i, nI⟩
theorem SeatAt.toZ {c : Cs} {H : Hp} {x l I : Addr} {g : PM.Sg} {bs : List Ballot} {z z' : Addr} (h : SeatAt c H x l I g bs z) (hz : H z' = none) : SeatAt c H x l I g bs z' := by
 obtain ⟨⟨dx, fs, W, as, e1, F, e3, e4, e5, e6, e7⟩, i, nI⟩ := h
 refine ⟨⟨dx, fs, W, as, e1, F, e3, e4, fun q => ?_, e6, e7⟩, i, nI⟩
 rcases List.mem_cons.mp q with q | q
 ·exact e5 (by simp [q])
 ·exact ne_of_none e3 hz (List.mem_singleton.mp q)
theorem voters_le : ∀ {bs : List Ballot}, (∀ b ∈ bs, b.many ≤ 1000000) → (bs.map fun (b : Ballot) => b.many).foldr (fun (x y : Nat) => x + y) 0 ≤ 1000000 * bs.length
 | [], _ => Nat.le_refl _
 | b :: r, h => by
  have h1 := h b List.mem_cons_self
  have h2 := voters_le (bs := r) fun x hx => h x (List.mem_cons_of_mem _ hx)
  rw [List.map_cons, List.foldr_cons, List.length_cons]
  omega
section
variable {P : Program} {w : World} {K : PySem.W.Frag} {mg : Str → Option Value} {base : Heap} {c : Cs}
def spTurns (c : Cs) (Pm Pl : Addr) : Sp := fun vs H Q _ => ∃ p p' n, vs = [.ref p, natV n] ∧ PollAt c H p p' ∧ WF p' ∧ 1 ≤ n ∧ n ≤ p'.size ∧ TabAt H Pm mpos mqual ∧ TabAt H Pl lpos lqual ∧
 ∀ H' r ys ts g, TurnsAt c H' r ys ts → PM.Going p' n g ts → g.left = 0 → Buts [Pm, Pl] H H' → TabAt H' Pm mpos mqual → TabAt H' Pl lpos lqual → H r = none → Q (.ref r) H'
theorem sc48 : FnScope ["poll", "seats", "seating", "turns"] ["poll", "seats"] (defScope (top 48)) := ⟨rfl, rfl, rfl, by decide +kernel, rfl, by decide +kernel, by decide +kernel⟩
theorem ok_turns {Pm Pl : Addr} (T : Txt K mg c) (Df : Dif c) (D : DefAt K mg "take_turns" (top 48) ["poll", "seats"]) (MS : Maker P w K mg base "Seating" c.seating 3 ["self", "poll", "seats"] (spSeatI c)) (Ct : Callee P w K mg base "take_turn" 11 ["seating"] (spTurn c Pm Pl)) : Callee P w K mg base "take_turns" 13 ["poll", "seats"] (spTurns c Pm Pl) := by
 refine D.ok sc48 (fun vs H Q E h => ?_) fun f cdv A outer s H vs Q E hr h => ?_
 ·obtain ⟨p, p', n, rfl, _⟩ := h
  rfl
 ·obtain ⟨p, p', n, rfl, ⟨l, hp⟩, wf, hn1, hn2, tm, tl, k⟩ := h
  have hi8 := wf.hi
  have h64 := wf.few
  refine ⟨_, pss_cons (ps_set (i := 2) sc48.nd rfl (Or.inl rfl) (pe_mk MS (hr.mono (by decide)) (pa_cons (pv 0) (pa_cons (pv 1) pa_nil))))
   (pss_cons (ps_set (i := 3) sc48.nd rfl (Or.inl rfl) (pe_lst pa_nil))
   (pss_cons (ps_while PassesOwn.never (pt_cmpR op_gt (pe_fld (pv 2) rfl) pe_int (nomark _)) (pss_one (ps_expr (pe_bm PySem.F.plainAttrs_list PySem.F.slot_list_append PySem.F.type_list_append mt_append (pv 3) (pa_cons (pe_fn Ct (hr.mono (by decide)) (pa_cons (pv 2) pa_nil)) pa_nil)))))
   (pss_one (ps_ret (pv 3))))), ?_⟩
  obtain ⟨dp, fp, as0, h1, h2, h3, h4, h5⟩ := id hp
  refine ⟨_, rfl, _, rfl, fun x dx nx ndx hne => ?_⟩
  have sM : Same H (upd (upd H dx (.own x)) x (.ins c.seating dx [])) := (same_new (same_new (Same.refl _) ndx) nx)
  refine ⟨x, dx, p, l, p', n, l, rfl, upd_same, hp.mono sM, wf, hn2, by rw [sM _ _ h4]; exact fun z => (by cases z), fun H1 I S1 hI k1 => ⟨rfl, ?_⟩⟩
  have s1 : Same H H1 := new_same nx ndx k1
  have hI0 : H I = none := sM.free hI
  refine ⟨(by show 0 ≤ sizeLine; decide), fun r hr1 => ?_⟩
  have s2 : Same H1 (upd H1 r (.lst [])) := same_new (Same.refl _) hr1
  have hr0 : H r = none := s1.free hr1
  have S2 : SeatAt c (upd H1 r (.lst [])) x l I (sg0 p' n) p'.ballots r := (S1.toZ hr1).mono s2
  have rI : r ≠ I := (ne_of_none S1.ins hr1).symm
  have rl : r ≠ l := (ne_of_none (s1 _ _ h4) hr1).symm
  have hv : p'.voters ≤ 64000000 := by
   have := voters_le (bs := p'.ballots) fun b hb => (wf.bal b hb).1
   unfold Poll.voters
   omega
  have G0 : PM.Going p' n (sg0 p' n) [] := PM.Going.start hn1 hn2 hi8 h64 (fun b hb => (wf.bal b hb).1) hv
  refine ⟨fun m σ H' => ∃ g pre ys, m = g.inside.length ∧ σ = [some (.ref p), some (natV n), some (.ref x), some (.ref r)] ∧ SeatAt c H' x l I g p'.ballots r ∧ PM.Going p' n g pre ∧ TurnsAt c H' r ys pre ∧ TabAt H' Pm mpos mqual ∧ TabAt H' Pl lpos lqual ∧ Buts [x, I, r, Pm, Pl] H H',
   ⟨_, sg0 p' n, [], [], rfl, rfl, S2, G0, ⟨upd_same, rfl, fun i y t e => by simp at e⟩, tm.mono (s1.trans s2), tl.mono (s1.trans s2), Same.buts (s1.trans s2)⟩, ?_⟩
  rintro m σ H' ⟨g, pre, ys, rfl, rfl, S, G, Ty, tm', tl', B⟩
  obtain ⟨dx', fs, W, as, e1, F, e3, e4, e5, e6, e7⟩ := S.ex
  refine ⟨_, rfl, x, c.seating, dx', fs, _, rfl, e1, T.seating.cl, T.seating.no _ (by decide +kernel), F.left, _, _, rfl, rfl, _, rfl, ?_⟩
  have hr' := Ty.lst
  have up := G.up
  have nd := PM.nodup_up up
  by_cases hl : 0 < g.left
  ·rw [show decide ((0 : Int) < (g.left : Int)) = true from decide_eq_true (by omega)]
   have hpos := G.some hl
   obtain ⟨t, sm, htt⟩ := G.small
   have hcnt := G.cnt
   refine iteT ⟨fun σ' H2 => ∃ g2 pre2 ys2, g2.inside.length < g.inside.length ∧ σ' = [some (.ref p), some (natV n), some (.ref x), some (.ref r)] ∧ SeatAt c H2 x l I g2 p'.ballots r ∧ PM.Going p' n g2 pre2 ∧ TurnsAt c H2 r ys2 pre2 ∧ TabAt H2 Pm mpos mqual ∧ TabAt H2 Pl lpos lqual ∧ Buts [x, I, r, Pm, Pl] H H2, ?_, ?_⟩
   ·rintro σ' H2 ⟨g2, pre2, ys2, q1, q2⟩
    exact ⟨_, q1, g2, pre2, ys2, rfl, q2⟩
   ·refine ⟨_, rfl, .inl ⟨rfl, _, SqL.of hr'⟩, _, rfl, x, l, I, g, p'.ballots, r, t, rfl, S, by rw [hr']; exact fun z => (by cases z), G.len, h64, nd, by omega, hpos, hl, sm, by omega, tm', tl', fun H2 y mm lo byq st a hmost hfew eb es ea S2' t2 ny tm2 tl2 B2 => ?_⟩
    have ham : a ∈ g.inside := by
     rw [ea]
     split
     ·exact hmost.mem
     ·exact hfew.mem
    have rx : r ≠ x := fun q => by rw [q, e1] at hr'; cases hr'
    have rPm : r ≠ Pm := fun q => by
     obtain ⟨_, hp, _⟩ := tm'
     rw [← q, hr'] at hp
     cases hp
    have rPl : r ≠ Pl := fun q => by
     obtain ⟨_, hp, _⟩ := tl'
     rw [← q, hr'] at hp
     cases hp
    have hr2 : H2 r = some (.lst (ys.map V.ref)) := B2 _ _ hr' (by simp [rx, rI, rPm, rPl])
    have hlen := Ty.len
    refine ⟨r, _, _, rfl, rfl, hr2, ?_, ?_⟩
    ·rw [List.length_map, sizeLine_eq]
     omega
    have s3 : Buts [r] H2 (upd H2 r (.lst (ys.map V.ref ++ [.ref y]))) := Buts.put (List.mem_singleton_self _)
    have nr : NB c [r] H2 := nb1 hr2 True.intro
    have yr : y ≠ r := (ne_of_none hr' ny).symm
    refine ⟨g.next p'.ballots a byq st, pre ++ [⟨a, st, PM.Sg.held p'.ballots g a, g.parts⟩], ys ++ [y], ?_, rfl, S2'.setZ hr2 rI rl, G.step hi8 h64 hl hmost hfew eb es ea, ⟨?_, ?_, ?_⟩, tab_buts tm2 s3 nr (by simp [Ne.symm rPm]), tab_buts tl2 s3 nr (by simp [Ne.symm rPl]), ?_⟩
    ·have := PM.without_len ham nd
     show (g.inside.filter fun b => b != a).length < _
     omega
    ·rw [upd_same, List.map_append]
     rfl
    ·rw [List.length_append, List.length_append, hlen]
     rfl
    ·intro i y' t' hy ht
     by_cases hi : i < ys.length
     ·rw [List.getElem?_append_left hi] at hy
      rw [List.getElem?_append_left (by omega)] at ht
      obtain ⟨d1, f1, z1, z2⟩ := Ty.at_ i y' t' hy ht
      have n1 : y' ∉ [x, I, Pm, Pl] := by
       obtain ⟨_, hp1, _⟩ := tm'
       obtain ⟨_, hp2, _⟩ := tl'
       intro q
       simp only [List.mem_cons, List.not_mem_nil, or_false] at q
       rcases q with q | q | q | q
       ·rw [q, e1] at z1
        have := Option.some.inj z1
        exact Df.st (HO.ins.inj this).1
       ·rw [q, S.ins] at z1; cases z1
       ·rw [q, hp1] at z1; cases z1
       ·rw [q, hp2] at z1; cases z1
      have n2 : y' ≠ r := fun q => by rw [q, hr'] at z1; cases z1
      exact ⟨d1, f1, by rw [upd_ne n2]; exact B2 _ _ z1 n1, z2⟩
     ·have ei : i = ys.length := by
       have := (List.getElem?_eq_some_iff.mp hy).1
       rw [List.length_append] at this
       simp at this
       omega
      subst ei
      rw [List.getElem?_append_right (Nat.le_refl _), Nat.sub_self] at hy
      rw [hlen, List.getElem?_append_right (Nat.le_refl _), Nat.sub_self] at ht
      cases hy
      cases ht
      obtain ⟨d1, f1, z1, z2⟩ := t2
      exact ⟨d1, f1, by rw [upd_ne yr]; exact z1, z2⟩
    ·exact Buts.trans B (Buts.trans (B2.wide fun q hq => by simp at hq ⊢; rcases hq with h | h | h | h <;> simp [h]) (s3.wide fun q hq => by simp at hq ⊢; simp [hq]))
  ·rw [show decide ((0 : Int) < (g.left : Int)) = false from decide_eq_false (by omega)]
   refine iteF ⟨_, rfl, k H' r ys pre g Ty G (by omega) ?_ tm' tl' hr0⟩
   exact ((B.drop nx).drop hI0).drop hr0
end
section
variable {P : Program} {w : World} {K : PySem.W.Frag} {mg : Str → Option Value} {base : Heap} {c : Cs}
def spPicked (c : Cs) (sel : Bool → Bool) : Sp := fun vs H Q _ => ∃ r ys ts, vs = [.ref r] ∧ TurnsAt c H r ys ts ∧ ts.length ≤ 8 ∧ ∀ H' q, Same H H' → H q = none → H' q = some (.lst (((ts.filter fun t => sel t.seat).map fun t => t.who).map natV)) → Q (.ref q) H'
theorem sc49 : FnScope ["turns", "turn"] ["turns"] (defScope (top 49)) := ⟨rfl, rfl, rfl, by decide +kernel, rfl, by decide +kernel, by decide +kernel⟩
theorem sc50 : FnScope ["turns", "turn"] ["turns"] (defScope (top 50)) := ⟨rfl, rfl, rfl, by decide +kernel, rfl, by decide +kernel, by decide +kernel⟩
theorem ok_seated (T : Txt K mg c) (D : DefAt K mg "find_seated" (top 49) ["turns"]) : Callee P w K mg base "find_seated" 1 ["turns"] (spPicked c fun b => b) := by
 refine D.ok sc49 (fun vs H Q E h => ?_) fun f cdv A outer s H vs Q E hr h => ?_
 ·obtain ⟨r, ys, ts, rfl, _⟩ := h
  rfl
 ·obtain ⟨r, ys, ts, rfl, Ty, h8, k⟩ := h
  refine ⟨_, pss_one (ps_ret (pe_lc (own := [("turn", 1)]) (g := gName 1) (tt := tTruth K (tFld K (tVar 1) "seated")) (te := tFld K (tVar 1) "candidate") rfl sc49.nd (pi_list (pv 0))
   (blkOk_by (N := ["turns", "turn"]) (sc := defScope (top 49)) (by decide +kernel)) (fun _ _ _ _ _ => pg_name (i := 1) sc49.nd rfl (Or.inl rfl))
   (fun _ _ _ _ _ => pts_one (pt_tru (pe_fld (pv 1) rfl))) (fun _ _ _ _ _ => pe_fld (pv 1) rfl))), ?_⟩
  refine ⟨_, rfl, r, rfl, ⟨_, SqL.of Ty.lst⟩, fun D hD => lcL (fun i => (ts[i]?).bind fun t => if t.seat = true then some (natV t.who) else none) hD (SqL.of Ty.lst) ?_ (fun i x H' hi sm R R' hR hR' => ?_) fun H' sm hD' => ?_⟩
  ·rw [List.length_map, Ty.len]
   omega
  ·obtain ⟨y, t, rfl, ht, dx, fs, e1, e2, e3, e4, e5⟩ := Ty.get hi
   refine ⟨rfl, _, rfl, y, c.turn, dx, fs, _, rfl, sm _ _ e1, T.turn.cl, T.turn.no _ (by decide +kernel), e3, _, rfl, ?_⟩
   cases q : t.seat with
   | true =>
    refine iteT ⟨_, rfl, y, c.turn, dx, fs, _, rfl, sm _ _ e1, T.turn.cl, T.turn.no _ (by decide +kernel), e2, ?_⟩
    exact hR _ _ (by show Option.bind _ _ = _; rw [ht]; show (if t.seat = true then _ else _) = _; rw [if_pos q]) (Same.refl _)
   | false => exact iteF (hR' _ (by show Option.bind _ _ = _; rw [ht]; show (if t.seat = true then _ else _) = _; rw [q, if_neg Bool.false_ne_true]) (Same.refl _))
  ·rw [List.length_map, Ty.len, fm_filter (q := fun t => t.seat) (g := fun t => natV t.who) (fun i t e => by show Option.bind _ _ = _; rw [e]; rfl)] at hD'
   refine k H' D sm hD ?_
   rw [hD', List.map_map]
   rfl
theorem ok_unseated (T : Txt K mg c) (D : DefAt K mg "find_unseated" (top 50) ["turns"]) : Callee P w K mg base "find_unseated" 1 ["turns"] (spPicked c fun b => !b) := by
 refine D.ok sc50 (fun vs H Q E h => ?_) fun f cdv A outer s H vs Q E hr h => ?_
 ·obtain ⟨r, ys, ts, rfl, _⟩ := h
  rfl
 ·obtain ⟨r, ys, ts, rfl, Ty, h8, k⟩ := h
  refine ⟨_, pss_one (ps_ret (pe_lc (own := [("turn", 1)]) (g := gName 1) (tt := tNot (tTruth K (tFld K (tVar 1) "seated"))) (te := tFld K (tVar 1) "candidate") rfl sc50.nd (pi_list (pv 0))
   (blkOk_by (N := ["turns", "turn"]) (sc := defScope (top 50)) (by decide +kernel)) (fun _ _ _ _ _ => pg_name (i := 1) sc50.nd rfl (Or.inl rfl))
   (fun _ _ _ _ _ => pts_one (pt_not (pt_tru (pe_fld (pv 1) rfl)))) (fun _ _ _ _ _ => pe_fld (pv 1) rfl))), ?_⟩
  refine ⟨_, rfl, r, rfl, ⟨_, SqL.of Ty.lst⟩, fun D hD => lcL (fun i => (ts[i]?).bind fun t => if (!t.seat) = true then some (natV t.who) else none) hD (SqL.of Ty.lst) ?_ (fun i x H' hi sm R R' hR hR' => ?_) fun H' sm hD' => ?_⟩
  ·rw [List.length_map, Ty.len]
   omega
  ·obtain ⟨y, t, rfl, ht, dx, fs, e1, e2, e3, e4, e5⟩ := Ty.get hi
   refine ⟨rfl, _, rfl, y, c.turn, dx, fs, _, rfl, sm _ _ e1, T.turn.cl, T.turn.no _ (by decide +kernel), e3, _, rfl, ?_⟩
   cases q : t.seat with
   | false =>
    refine iteT ⟨_, rfl, y, c.turn, dx, fs, _, rfl, sm _ _ e1, T.turn.cl, T.turn.no _ (by decide +kernel), e2, ?_⟩
    exact hR _ _ (by show Option.bind _ _ = _; rw [ht]; show (if (!t.seat) = true then _ else _) = _; rw [q, if_pos (by decide)]) (Same.refl _)
   | true => exact iteF (hR' _ (by show Option.bind _ _ = _; rw [ht]; show (if (!t.seat) = true then _ else _) = _; rw [q, if_neg (by decide)]) (Same.refl _))
  ·rw [List.length_map, Ty.len, fm_filter (q := fun t => !t.seat) (g := fun t => natV t.who) (fun i t e => by show Option.bind _ _ = _; rw [e]; rfl)] at hD'
   refine k H' D sm hD ?_
   rw [hD', List.map_map]
   rfl
def spLow : Sp := fun vs H Q _ => ∃ n d : Nat, vs = [natV n, natV d] ∧ 0 < d ∧ d < 2 ^ 9000 ∧ ∀ H' q, Same H H' → H q = none → H' q = some (.lst [natV (n / Nat.gcd n d), natV (d / Nat.gcd n d)]) → Q (.ref q) H'
theorem mod_nat (a b : Nat) : V.int ((a : Int) % (b : Int)) = natV (a % b) := by
 show _ = V.int ((a % b : Nat) : Int)
 rw [Int.natCast_emod]
theorem div_nat (a b : Nat) : V.int ((a : Int) / (b : Int)) = natV (a / b) := by
 show _ = V.int ((a / b : Nat) : Int)
 rw [Int.natCast_ediv]
theorem sc51 : FnScope ["number", "divisor", "common", "rest", "smaller"] ["number", "divisor"] (defScope (top 51)) := ⟨rfl, rfl, rfl, by decide +kernel, rfl, by decide +kernel, by decide +kernel⟩
theorem ok_low (D : DefAt K mg "bring_to_lowest_terms" (top 51) ["number", "divisor"]) : Callee P w K mg base "bring_to_lowest_terms" 1 ["number", "divisor"] spLow := by
 refine D.ok sc51 (fun vs H Q E h => ?_) fun f cdv A outer s H vs Q E hr h => ?_
 ·obtain ⟨n, d, rfl, _⟩ := h
  rfl
 ·obtain ⟨n, d, rfl, hd, hbig, k⟩ := h
  refine ⟨_, pss_cons (ps_set (i := 2) sc51.nd rfl (Or.inl rfl) (pv 1))
   (pss_cons (ps_set (i := 3) sc51.nd rfl (Or.inl rfl) (pe_op op_mod (pv 0) (pv 1)))
   (pss_cons (ps_while PassesOwn.never (pt_cmpR op_gt (pv 3) pe_int (nomark _))
    (pss_cons (ps_set (i := 4) sc51.nd rfl (Or.inl rfl) (pe_op op_mod (pv 2) (pv 3)))
    (pss_cons (ps_set (i := 2) sc51.nd rfl (Or.inl rfl) (pv 3)) (pss_one (ps_set (i := 3) sc51.nd rfl (Or.inl rfl) (pv 4))))))
   (pss_one (ps_ret (pe_lst (pa_cons (pe_op op_fdivB (pv 0) (pv 2)) (pa_cons (pe_op op_fdivB (pv 1) (pv 2)) pa_nil))))))), ?_⟩
  refine ⟨_, rfl, _, rfl, _, rfl, _, _, rfl, rfl, (by show (0 : Int) < (d : Int); omega), ?_⟩
  refine ⟨fun m σ H' => H' = H ∧ ∃ (a b : Nat) (v : Option V), m = b ∧ σ = [some (natV n), some (natV d), some (natV a), some (natV b), v] ∧ 0 < a ∧ a ≤ d ∧ b ≤ d ∧ Nat.gcd a b = Nat.gcd n d, ⟨n % d, rfl, d, n % d, none, rfl, ?_, hd, Nat.le_refl _, Nat.le_of_lt (Nat.mod_lt n hd), ?_⟩, ?_⟩
  ·show [_, _, _, some (V.int ((n : Int) % (d : Int))), _] = _
   rw [mod_nat]
  ·rw [Nat.gcd_comm, ← Nat.gcd_rec, Nat.gcd_comm]
  ·rintro m σ H' ⟨rfl, a, b, v, rfl, rfl, ha, had, hbd, hg⟩
   refine ⟨_, rfl, _, _, rfl, rfl, _, rfl, ?_⟩
   by_cases hb : 0 < m
   ·rw [show decide ((0 : Int) < ((m : Nat) : Int)) = true from decide_eq_true (by omega)]
    refine iteT ⟨fun σ' H2 => H2 = H' ∧ ∃ (a2 b2 : Nat) (v : Option V), b2 < m ∧ σ' = [some (natV n), some (natV d), some (natV a2), some (natV b2), v] ∧ 0 < a2 ∧ a2 ≤ d ∧ b2 ≤ d ∧ Nat.gcd a2 b2 = Nat.gcd n d, ?_, ?_⟩
    ·rintro σ' H2 ⟨q1, a2, b2, v2, q2, q3⟩
     exact ⟨b2, q2, q1, a2, b2, v2, rfl, q3⟩
    ·refine ⟨_, rfl, _, rfl, _, _, rfl, rfl, (by show (0 : Int) < (m : Int); omega), ?_⟩
     have hlt := Nat.mod_lt a hb
     refine ⟨_, rfl, _, rfl, rfl, m, a % m, some (natV (a % m)), hlt, ?_, hb, hbd, by omega, ?_⟩
     ·show [_, _, _, some (V.int ((a : Int) % (m : Int))), some (V.int ((a : Int) % (m : Int)))] = _
      rw [mod_nat]
     ·rw [Nat.gcd_comm, ← Nat.gcd_rec, Nat.gcd_comm]
      exact hg
   ·rw [show decide ((0 : Int) < ((m : Nat) : Int)) = false from decide_eq_false (by omega)]
    have hm0 : m = 0 := by omega
    subst hm0
    rw [Nat.gcd_zero_right] at hg
    have hab : ((a : Nat) : Int).natAbs < 2 ^ 9000 := by
     rw [Int.natAbs_natCast]
     exact Nat.lt_of_le_of_lt had hbig
    refine iteF ⟨_, rfl, _, rfl, _, _, rfl, rfl, ⟨by omega, hab⟩, _, rfl, _, rfl, _, _, rfl, rfl, ⟨by omega, hab⟩, (by show 2 ≤ sizeLine; decide), fun q hq => k _ q (same_new (Same.refl _) hq) hq ?_⟩
    rw [upd_same]
    show some (HO.lst [V.int ((n : Int) / (a : Int)), V.int ((d : Int) / (a : Int))]) = _
    rw [div_nat, div_nat, hg]
theorem nums_low {t : PM.TurnD} {n d : Nat} (hn : t.had = (n : Int)) (hd : t.parts = (d : Int)) (h0 : 0 < d) : turnNums t.told = [(t.who : Int), if t.seat = true then 1 else 0, ((n / Nat.gcd n d : Nat) : Int), ((d / Nat.gcd n d : Nat) : Int)] := by
 have hg : ((Nat.gcd n d : Nat) : Int) = (Int.gcd t.had t.parts : Int) := by rw [hn, hd, Int.gcd_natCast_natCast]
 have hp : 0 < t.parts := by omega
 show [(t.who : Int), _, (Rat.divInt t.had t.parts).num, ((Rat.divInt t.had t.parts).den : Int)] = _
 rw [PM.low_num hp hg, PM.low_den hp hg, hn, hd, Int.natCast_ediv, Int.natCast_ediv]
 rfl
def spDesc (c : Cs) : Sp := fun vs H Q _ => ∃ r ys ts, vs = [.ref r] ∧ TurnsAt c H r ys ts ∧ ts.length ≤ 8 ∧ (∀ t ∈ ts, (0 ≤ t.had ∧ t.had < ((64 * PM.Bd 7 : Nat) : Int)) ∧ (0 < t.parts ∧ t.parts < (PM.Bd 7 : Int))) ∧ ∀ H' q, Same H H' → H q = none → H' q = some (.lst (((ts.map PM.TurnD.told).flatMap turnNums).map V.int)) → Q (.ref q) H'
theorem sc52 : FnScope ["turns", "numbers", "turn"] ["turns"] (defScope (top 52)) := ⟨rfl, rfl, rfl, by decide +kernel, rfl, by decide +kernel, by decide +kernel⟩
theorem flat_len : ∀ ts : List PM.TurnD, (((ts.map PM.TurnD.told).flatMap turnNums).map V.int).length = 4 * ts.length
 | [] => rfl
 | t :: r => by
  rw [List.map_cons, List.flatMap_cons, List.map_append, List.length_append, flat_len r, List.length_cons]
  show 4 + _ = _
  omega
theorem ok_desc (T : Txt K mg c) (D : DefAt K mg "describe_turns" (top 52) ["turns"]) (C : Callee P w K mg base "bring_to_lowest_terms" 1 ["number", "divisor"] spLow) : Callee P w K mg base "describe_turns" 3 ["turns"] (spDesc c) := by
 refine D.ok sc52 (fun vs H Q E h => ?_) fun f cdv A outer s H vs Q E hr h => ?_
 ·obtain ⟨r, ys, ts, rfl, _⟩ := h
  rfl
 ·obtain ⟨r, ys, ts, rfl, Ty, h8, hb, k⟩ := h
  refine ⟨_, pss_cons (ps_set (i := 1) sc52.nd rfl (Or.inl rfl) (pe_lst pa_nil))
   (pss_cons (ps_for PassesOwn.never rfl (pi_list (pv 0)) (pg_name (i := 2) sc52.nd rfl (Or.inl rfl))
    (pss_cons (ps_expr (pe_bm PySem.F.plainAttrs_list PySem.F.slot_list_append PySem.F.type_list_append mt_append (pv 1) (pa_cons (pe_fld (pv 2) rfl) pa_nil)))
    (pss_cons (ps_expr (pe_bm PySem.F.plainAttrs_list PySem.F.slot_list_append PySem.F.type_list_append mt_append (pv 1) (pa_cons (pe_ifExp (pt_tru (pe_fld (pv 2) rfl)) pe_int pe_int) pa_nil)))
    (pss_one (ps_expr (pe_bm PySem.F.plainAttrs_list PySem.F.slot_list_extend PySem.F.type_list_extend mt_extend (pv 1) (pa_cons (pe_fn C (hr.mono (by decide)) (pa_cons (pe_fld (pv 2) rfl) (pa_cons (pe_fld (pv 2) rfl) pa_nil))) pa_nil)))))))
   (pss_one (ps_ret (pv 1)))), ?_⟩
  refine ⟨(by show 0 ≤ sizeLine; decide), fun q hq => ?_⟩
  have s1 : Same H (upd H q (.lst [])) := same_new (Same.refl _) hq
  refine ⟨_, rfl, r, rfl, ⟨_, SqL.of (s1 _ _ Ty.lst)⟩, for_list (K := K) (a := r) (xs := ys.map V.ref) (fun i σ H' => (∃ v : Option V, σ = [some (.ref r), some (.ref q), v]) ∧ Same H H' ∧ H' q = some (.lst ((((ts.take i).map PM.TurnD.told).flatMap turnNums).map V.int))) ⟨⟨none, rfl⟩, s1, by rw [upd_same]; rfl⟩ (fun i σ H' _ ⟨_, sm, _⟩ => SqL.of (sm _ _ Ty.lst)) ?_ ?_⟩
  ·rintro i x σ H' hx ⟨⟨v, rfl⟩, sm, hq'⟩
   obtain ⟨y, t, rfl, ht, dx, fs, e1, e2, e3, e4, e5⟩ := Ty.get hx
   have htm := hb t (List.mem_of_getElem? ht)
   obtain ⟨n, hn⟩ : ∃ n : Nat, t.had = (n : Int) := ⟨t.had.toNat, by omega⟩
   obtain ⟨d, hd⟩ : ∃ d : Nat, t.parts = (d : Int) := ⟨t.parts.toNat, by omega⟩
   have hd0 : 0 < d := by omega
   have hbig : d < 2 ^ 9000 := by
    have := big_of1 (Nat.le_refl 7) (Int.le_of_lt htm.2.1) htm.2.2
    rw [hd, Int.natAbs_natCast] at this
    exact this
   have hil : i < ts.length := (List.getElem?_eq_some_iff.mp ht).1
   have hlen : ((((ts.take i).map PM.TurnD.told).flatMap turnNums).map V.int).length ≤ 32 := by
    rw [flat_len, List.length_take]
    omega
   have yq : y ≠ q := fun z => by rw [z, hq] at e1; cases e1
   have s2 : Same H (upd H' q (.lst ((((ts.take i).map PM.TurnD.told).flatMap turnNums).map V.int ++ [natV t.who]))) := same_new sm hq
   refine ⟨_, rfl, .inl ⟨rfl, _, SqL.of hq'⟩, _, rfl, y, c.turn, dx, fs, _, rfl, sm _ _ e1, T.turn.cl, T.turn.no _ (by decide +kernel), e2, q, _, _, rfl, rfl, hq', by rw [sizeLine_eq]; omega, ?_⟩
   refine ⟨_, rfl, .inl ⟨rfl, _, SqL.of upd_same⟩, _, rfl, y, c.turn, dx, fs, _, rfl, s2 _ _ e1, T.turn.cl, T.turn.no _ (by decide +kernel), e3, _, rfl, ?_⟩
   have key : ∀ v2 : V, v2 = V.int (if t.seat = true then 1 else 0) → ∀ H3, H3 = upd (upd H' q (.lst ((((ts.take i).map PM.TurnD.told).flatMap turnNums).map V.int ++ [natV t.who]))) q (.lst (((((ts.take i).map PM.TurnD.told).flatMap turnNums).map V.int ++ [natV t.who]) ++ [v2])) →
     Same H H3 ∧ H3 q = some (.lst (((((ts.take i).map PM.TurnD.told).flatMap turnNums).map V.int ++ [natV t.who]) ++ [V.int (if t.seat = true then 1 else 0)])) := by
    rintro v2 rfl H3 rfl
    exact ⟨same_new s2 hq, upd_same⟩
   have last : ∀ H3, Same H H3 → H3 q = some (.lst (((((ts.take i).map PM.TurnD.told).flatMap turnNums).map V.int ++ [natV t.who]) ++ [V.int (if t.seat = true then 1 else 0)])) → ∀ H4 z, Same H3 H4 → H3 z = none → H4 z = some (.lst [natV (n / Nat.gcd n d), natV (d / Nat.gcd n d)]) →
     H4 q = some (.lst (((((ts.take i).map PM.TurnD.told).flatMap turnNums).map V.int ++ [natV t.who]) ++ [V.int (if t.seat = true then 1 else 0)])) ∧ (((((ts.take i).map PM.TurnD.told).flatMap turnNums).map V.int ++ [natV t.who]) ++ [V.int (if t.seat = true then 1 else 0)]).length + 2 ≤ sizeLine ∧
     Same H (upd H4 q (.lst ((((((ts.take i).map PM.TurnD.told).flatMap turnNums).map V.int ++ [natV t.who]) ++ [V.int (if t.seat = true then 1 else 0)]) ++ [natV (n / Nat.gcd n d), natV (d / Nat.gcd n d)]))) ∧
     upd H4 q (.lst ((((((ts.take i).map PM.TurnD.told).flatMap turnNums).map V.int ++ [natV t.who]) ++ [V.int (if t.seat = true then 1 else 0)]) ++ [natV (n / Nat.gcd n d), natV (d / Nat.gcd n d)])) q = some (.lst ((((ts.take (i + 1)).map PM.TurnD.told).flatMap turnNums).map V.int)) := by
    intro H3 s3 h3 H4 z s4 hz h4
    refine ⟨s4 _ _ h3, ?_, same_new (s3.trans s4) hq, ?_⟩
    ·rw [List.length_append, List.length_append, sizeLine_eq]
     show _ + 1 + 1 + 2 ≤ _
     omega
    ·rw [upd_same, List.take_add_one, ht]
     show _ = some (HO.lst (List.map V.int (List.flatMap turnNums (List.map PM.TurnD.told (ts.take i ++ [t])))))
     rw [List.map_append, List.flatMap_append, List.map_append]
     show _ = some (HO.lst (_ ++ List.map V.int (turnNums t.told ++ [])))
     rw [nums_low hn hd hd0, List.append_assoc, List.append_assoc]
     rfl
   have eh : e4 = e4 := rfl
   rw [hn] at e4
   rw [hd] at e5
   cases q2 : t.seat with
   | true =>
    refine iteT ⟨q, _, _, rfl, rfl, upd_same, by rw [List.length_append, sizeLine_eq]; show _ + 1 < _; omega, ?_⟩
    obtain ⟨s3, h3⟩ := key (V.int 1) (by rw [q2]; rfl) _ rfl
    refine ⟨_, rfl, .inl ⟨rfl, _, SqL.of h3⟩, _, rfl, y, c.turn, dx, fs, _, rfl, s3 _ _ e1, T.turn.cl, T.turn.no _ (by decide +kernel), e4, _, rfl, y, c.turn, dx, fs, _, rfl, s3 _ _ e1, T.turn.cl, T.turn.no _ (by decide +kernel), e5, n, d, rfl, hd0, hbig, fun H4 z s4 hz h4 => ?_⟩
    obtain ⟨l1, l2, l3, l4⟩ := last _ s3 h3 H4 z s4 hz h4
    exact ⟨q, z, _, _, rfl, rfl, l1, h4, l2, ⟨_, rfl⟩, l3, l4⟩
   | false =>
    refine iteF ⟨q, _, _, rfl, rfl, upd_same, by rw [List.length_append, sizeLine_eq]; show _ + 1 < _; omega, ?_⟩
    obtain ⟨s3, h3⟩ := key (V.int 0) (by rw [q2]; rfl) _ rfl
    refine ⟨_, rfl, .inl ⟨rfl, _, SqL.of h3⟩, _, rfl, y, c.turn, dx, fs, _, rfl, s3 _ _ e1, T.turn.cl, T.turn.no _ (by decide +kernel), e4, _, rfl, y, c.turn, dx, fs, _, rfl, s3 _ _ e1, T.turn.cl, T.turn.no _ (by decide +kernel), e5, n, d, rfl, hd0, hbig, fun H4 z s4 hz h4 => ?_⟩
    obtain ⟨l1, l2, l3, l4⟩ := last _ s3 h3 H4 z s4 hz h4
    exact ⟨q, z, _, _, rfl, rfl, l1, h4, l2, ⟨_, rfl⟩, l3, l4⟩
  ·rintro σ H' ⟨⟨v, rfl⟩, sm, hq'⟩
   refine ⟨_, rfl, k H' q sm hq ?_⟩
   rw [hq', List.length_map, Ty.len, List.take_length]
end
structure DeskAt (c : Cs) (H : Hp) (x : Addr) (s : State) (z : Addr) : Prop where
 ex : ∃ dx fs, H x = some (.ins c.desk dx fs) ∧ fs.length ≤ 1 ∧ (s = none → lk fs "poll" = some .non) ∧ ∀ p', s = some p' → ∃ p l, lk fs "poll" = some (.ref p) ∧ PollL c H p l p' ∧ l ≠ z
structure Tabs (H : Hp) (Pr Pm Pl : Addr) : Prop where
 r : TabAt H Pr rpos rqual
 m : TabAt H Pm mpos mqual
 l : TabAt H Pl lpos lqual
def kept (c : Cs) : HO → Prop
 | .ins C _ _ => C ≠ c.desk
 | .frz _ _ => True
 | _ => False
def Keep (c : Cs) (z : Addr) (H H' : Hp) : Prop := ∀ b o, H b = some o → (b = z ∨ kept c o) → H' b = some o
def TlL (H : Hp) (L : List Addr) : Prop := ∀ a ∈ L, ∃ ps, H a = some (.tbl ps)
def IsLst (H : Hp) (z : Addr) : Prop := ∃ xs, H z = some (.lst xs)
theorem DeskAt.mono {c : Cs} {H H' : Hp} {x : Addr} {s : State} {z : Addr} (h : DeskAt c H x s z) (sm : Same H H') : DeskAt c H' x s z := by
 obtain ⟨dx, fs, e1, e2, e3, e4⟩ := h.ex
 refine ⟨dx, fs, sm _ _ e1, e2, e3, fun p' e => ?_⟩
 obtain ⟨p, l, q1, q2, q3⟩ := e4 p' e
 exact ⟨p, l, q1, q2.mono sm, q3⟩
theorem TlL.nb {c : Cs} {H : Hp} {L : List Addr} (t : TlL H L) : NB c L H := fun a ha o e => by
 obtain ⟨ps, q⟩ := t a ha
 rw [q] at e
 cases e
 exact True.intro
theorem DeskAt.tl {c : Cs} {H H' : Hp} {x : Addr} {s : State} {z : Addr} {L : List Addr} (h : DeskAt c H x s z) (B : Buts L H H') (t : TlL H L) : DeskAt c H' x s z := by
 obtain ⟨dx, fs, e1, e2, e3, e4⟩ := h.ex
 have ne : ∀ y o, H y = some o → (∀ ps, o ≠ .tbl ps) → y ∉ L := fun y o e q hy => by
  obtain ⟨ps, e'⟩ := t y hy
  rw [e'] at e
  exact q ps (Option.some.inj e).symm
 refine ⟨dx, fs, B _ _ e1 (ne _ _ e1 fun _ q => by cases q), e2, e3, fun p' e => ?_⟩
 obtain ⟨p, l, q1, q2, q3⟩ := e4 p' e
 refine ⟨p, l, q1, q2.buts B t.nb ?_, q3⟩
 obtain ⟨_, _, _, _, _, _, r4, _⟩ := q2
 exact ne _ _ r4 fun _ q => by cases q
theorem Keep.tl {c : Cs} {H H' : Hp} {z : Addr} {L : List Addr} (B : Buts L H H') (t : TlL H L) (hz : IsLst H z) : Keep c z H H' := fun b o e k => by
 refine B b o e fun hb => ?_
 obtain ⟨ps, e'⟩ := t b hb
 rcases k with k | k
 ·subst k
  obtain ⟨xs, q⟩ := hz
  rw [q] at e'
  cases e'
 ·rw [e'] at e
  cases e
  exact k
theorem Keep.same {c : Cs} {H H' : Hp} {z : Addr} (s : Same H H') : Keep c z H H' := fun b o e _ => s b o e
theorem Keep.trans {c : Cs} {H H1 H2 : Hp} {z : Addr} (a : Keep c z H H1) (b : Keep c z H1 H2) : Keep c z H H2 := fun q o e k => b q o (a q o e k) k
theorem Tabs.mono {H H' : Hp} {Pr Pm Pl : Addr} (t : Tabs H Pr Pm Pl) (s : Same H H') : Tabs H' Pr Pm Pl := ⟨t.r.mono s, t.m.mono s, t.l.mono s⟩
theorem Tabs.tl {H : Hp} {Pr Pm Pl : Addr} (t : Tabs H Pr Pm Pl) : TlL H [Pr, Pm, Pl] := fun a ha => by
 obtain ⟨⟨p1, h1, _⟩, ⟨p2, h2, _⟩, ⟨p3, h3, _⟩⟩ := t
 simp only [List.mem_cons, List.not_mem_nil, or_false] at ha
 rcases ha with q | q | q
 ·exact ⟨p1, q ▸ h1⟩
 ·exact ⟨p2, q ▸ h2⟩
 ·exact ⟨p3, q ▸ h3⟩
theorem Tabs.buts {c : Cs} {H H' : Hp} {Pr Pm Pl : Addr} {L : List Addr} (t : Tabs H Pr Pm Pl) (B : Buts L H H') (n : NB c L H) (nt : ∀ a ∈ L, ∀ o, H a = some o → ∀ ps, o ≠ .tbl ps) : Tabs H' Pr Pm Pl := by
 obtain ⟨p1, h1, _⟩ := id t.r
 obtain ⟨p2, h2, _⟩ := id t.m
 obtain ⟨p3, h3, _⟩ := id t.l
 exact ⟨tab_buts t.r B n fun z => nt _ z _ h1 _ rfl, tab_buts t.m B n fun z => nt _ z _ h2 _ rfl, tab_buts t.l B n fun z => nt _ z _ h3 _ rfl⟩
def cl : Nat → List Nat → List Nat → PollNs.Call
 | 0, [n], _ => .begin_ n
 | 1, [m], l => .vote m l
 | 2, [i], _ => .drop i
 | 3, [i], _ => .ballot i
 | 4, _, _ => .firsts
 | 5, [a, b], _ => .pair a b
 | 6, _, _ => .champion
 | 7, _, _ => .top
 | 8, [a, b], _ => .path a b
 | 9, _, _ => .ranked
 | 10, _, _ => .unbeaten
 | 11, [n], _ => .seats n
 | 12, [n], _ => .turns n
 | 13, _, _ => .runoff
 | _, _, _ => .count
def WFS (s : State) : Prop := ∀ p', s = some p' → WF p'
def told (s : State) (a : PollNs.Call) : List Int := PollNeutral.shown (PollNs.step s a).2
structure AnsH (c : Cs) (Pr Pm Pl : Addr) (H : Hp) (x y : Addr) (s : State) (z k : Nat) (ws row : List Nat) : Prop where
 dk : DeskAt c H x s z
 lz : IsLst H z
 wf : WFS s
 ca : CallAt c H y k ws row
 wl : ws.length = wN k
 rw_ : k = 1 → row.length ≤ 16000 ∧ ∀ v ∈ row, v < 2 ^ 63
 tb : Tabs H Pr Pm Pl
structure AnsD (c : Cs) (Pr Pm Pl : Addr) (H H' : Hp) (x r : Addr) (s : State) (z : Nat) (a : PollNs.Call) : Prop where
 dk : DeskAt c H' x (PollNs.step s a).1 z
 wf : WFS (PollNs.step s a).1
 tb : Tabs H' Pr Pm Pl
 kp : Keep c z H H'
 fr : H r = none
 ls : H' r = some (.lst ((told s a).map V.int))
 few : (told s a).length ≤ 1000
def spAns (c : Cs) (Pr Pm Pl : Addr) (k : Nat) : Sp := fun vs H Q _ => ∃ x y s z ws row, vs = [.ref x, .ref y] ∧ AnsH c Pr Pm Pl H x y s z k ws row ∧ (k ≠ 0 → s ≠ none) ∧ ∀ H' r, AnsD c Pr Pm Pl H H' x r s z (cl k ws row) → Q (.ref r) H'
theorem AnsD.of {c : Cs} {Pr Pm Pl : Addr} {H H' : Hp} {x y r : Addr} {s : State} {z k : Nat} {ws row : List Nat} {a : PollNs.Call} {ans : List Int} (h : AnsH c Pr Pm Pl H x y s z k ws row) (e1 : (PollNs.step s a).1 = s) (e2 : told s a = ans) (B : Buts [Pr, Pm, Pl] H H') (t : Tabs H' Pr Pm Pl) (hr : H r = none) (hl : H' r = some (.lst (ans.map V.int))) (few : ans.length ≤ 1000) : AnsD c Pr Pm Pl H H' x r s z a := by
 refine ⟨by rw [e1]; exact h.dk.tl B h.tb.tl, by rw [e1]; exact h.wf, t, Keep.tl B h.tb.tl h.lz, hr, by rw [e2]; exact hl, by rw [e2]; exact few⟩
theorem AnsD.same {c : Cs} {Pr Pm Pl : Addr} {H H' : Hp} {x y r : Addr} {s : State} {z k : Nat} {ws row : List Nat} {a : PollNs.Call} {ans : List Int} (h : AnsH c Pr Pm Pl H x y s z k ws row) (e1 : (PollNs.step s a).1 = s) (e2 : told s a = ans) (sm : Same H H') (hr : H r = none) (hl : H' r = some (.lst (ans.map V.int))) (few : ans.length ≤ 1000) : AnsD c Pr Pm Pl H H' x r s z a :=
 AnsD.of h e1 e2 (Same.buts sm) (h.tb.mono sm) hr hl few
theorem natV_int (o : List Nat) : (PollNs.«ints» o).map V.int = o.map natV := by
 unfold PollNs.«ints»
 rw [List.map_map]
 rfl
section
variable {P : Program} {w : World} {K : PySem.W.Frag} {mg : Str → Option Value} {base : Heap} {c : Cs}
def spDeskI (c : Cs) : Sp := fun vs H Q _ => ∃ x dx, vs = [.ref x] ∧ H x = some (.ins c.desk dx []) ∧ ∀ H', (∀ z, DeskAt c H' x none z) → (∀ b u, H b = some u → b ≠ x → H' b = some u) → Q .non H'
theorem sc60 : FnScope ["self"] ["self"] (defScope (inClass (top 60) 0)) := ⟨rfl, rfl, rfl, by decide +kernel, rfl, by decide +kernel, by decide +kernel⟩
theorem ok_deskI (T : Txt K mg c) (D : MakeAt K mg "Desk" c.desk "Desk.__init__" (inClass (top 60) 0) ["self"]) : Maker P w K mg base "Desk" c.desk 1 ["self"] (spDeskI c) := by
 refine D.ok sc60 (fun vs H Q E h => ?_) fun f cdv A outer s H vs Q E hr h => ?_
 ·obtain ⟨x, dx, rfl, _⟩ := h
  rfl
 ·obtain ⟨x, dx, rfl, hx, k⟩ := h
  refine ⟨_, pss_one (ps_fld (pv 0) pe_non rfl), ?_⟩
  refine ⟨_, rfl, x, c.desk, dx, _, rfl, hx, T.desk.cl, T.desk.no _ (by decide +kernel), (by show 0 < 1000; decide), ?_⟩
  refine k _ (fun z => ⟨dx, _, upd_same, (by show 1 ≤ 1; decide), fun _ => lk_put, fun p' e => by cases e⟩) fun b u e hb => by rw [upd_ne hb]; exact e
def spWith (K : PySem.W.Frag) : Sp := fun vs H Q _ => ∃ (f : Int) (q : Addr) (xs : List Int), vs = [.int f, .ref q] ∧ (SqL K H q (xs.map V.int) ∨ SqT K H q (xs.map V.int)) ∧ xs.length ≤ 900 ∧ ∀ H' r, Same H H' → H r = none → H' r = some (.lst ((f :: (xs.length : Int) :: xs).map V.int)) → Q (.ref r) H'
theorem sc61 : FnScope ["first", "numbers"] ["first", "numbers"] (defScope (top 61)) := ⟨rfl, rfl, rfl, by decide +kernel, rfl, by decide +kernel, by decide +kernel⟩
theorem SqT_mono {K : PySem.W.Frag} {H H' : Hp} {a : Addr} {xs : List V} (e : Same H H') (h : SqT K H a xs) : SqT K H' a xs := by
 rcases h with h | h
 ·rcases h with h | ⟨o, h⟩
  ·exact .inl (.inl (e _ _ h))
  ·exact .inl (.inr ⟨o, e _ _ h⟩)
 ·exact .inr h
theorem ok_with (T : Txt K mg c) (D : DefAt K mg "with_list" (top 61) ["first", "numbers"]) : Callee P w K mg base "with_list" 1 ["first", "numbers"] (spWith K) := by
 refine D.ok sc61 (fun vs H Q E h => ?_) fun f cdv A outer s H vs Q E hr h => ?_
 ·obtain ⟨f, q, xs, rfl, _⟩ := h
  rfl
 ·obtain ⟨f, q, xs, rfl, hq, h9, k⟩ := h
  refine ⟨_, pss_one (ps_ret (pe_op op_cat (pe_lst (pa_cons (pv 0) (pa_cons (pe_callB call_len_seq rfl T.len PySem.boot_len (pa_cons (pv 1) pa_nil)) pa_nil))) (pe_callTy call_list_of rfl T.list boot_list (pa_cons (pv 1) pa_nil)))), ?_⟩
  refine ⟨_, rfl, _, rfl, q, _, rfl, hq, (by show 2 ≤ sizeLine; decide), fun a ha => ?_⟩
  have s1 : Same H (upd H a (.lst [.int f, .int ((xs.map V.int).length : Nat)])) := same_new (Same.refl _) ha
  have hq1 : SqL K (upd H a (.lst [.int f, .int ((xs.map V.int).length : Nat)])) q (xs.map V.int) ∨ SqT K (upd H a (.lst [.int f, .int ((xs.map V.int).length : Nat)])) q (xs.map V.int) := by
   rcases hq with z | z
   ·exact .inl (s1.seq z)
   ·exact .inr (SqT_mono s1 z)
  refine ⟨_, rfl, q, _, rfl, hq1, fun b hb => ?_⟩
  have s2 : Same (upd H a (.lst [.int f, .int ((xs.map V.int).length : Nat)])) (upd (upd H a (.lst [.int f, .int ((xs.map V.int).length : Nat)])) b (.lst (xs.map V.int))) := same_new (Same.refl _) hb
  refine ⟨a, b, _, _, rfl, rfl, s2 _ _ upd_same, upd_same, ?_, fun r hr1 => ?_⟩
  ·rw [List.length_map, sizeLine_eq]
   show 2 + _ ≤ _
   omega
  refine k _ r ((s1.trans s2).trans (same_new (Same.refl _) hr1)) ((s1.trans s2).free hr1) ?_
  rw [upd_same, List.length_map]
  rfl
end
theorem one_of {ws : List Nat} (h : ws.length = 1) : ∃ n, ws = [n] := by
 match ws, h with
 | [n], _ => exact ⟨n, rfl⟩
theorem two_of {ws : List Nat} (h : ws.length = 2) : ∃ a b, ws = [a, b] := by
 match ws, h with
 | [a, b], _ => exact ⟨a, b, rfl⟩
theorem shown_one (z : Int) (l : List Int) : PollNeutral.shown ⟨z, [l]⟩ = z :: (l.length : Int) :: l := by
 show z :: ((l.length : Int) :: l ++ []) = _
 rw [List.append_nil]
section
variable {P : Program} {w : World} {K : PySem.W.Frag} {mg : Str → Option Value} {base : Heap} {c : Cs} {Pr Pm Pl : Addr}
theorem sc62 : FnScope ["desk", "call", "candidates"] ["desk", "call"] (defScope (top 62)) := ⟨rfl, rfl, rfl, by decide +kernel, rfl, by decide +kernel, by decide +kernel⟩
theorem ok_aBegin (T : Txt K mg c) (Df : Dif c) (I1 : IntAt mg "BAD_VALUE" (-1)) (D : DefAt K mg "answer_begin" (top 62) ["desk", "call"]) (Cb : Callee P w K mg base "can_begin" 1 ["candidates"] (spN fun n => .bl (decide (2 ≤ n ∧ n ≤ 8)))) (MP : Maker P w K mg base "Poll" c.poll 1 ["self", "candidates"] (spPollI c)) :
  Callee P w K mg base "answer_begin" 17 ["desk", "call"] (spAns c Pr Pm Pl 0) := by
 refine D.ok sc62 (fun vs H Q E h => ?_) fun f cdv A outer s H vs Q E hr h => ?_
 ·obtain ⟨x, y, s, z, ws, row, rfl, _⟩ := h
  rfl
 ·obtain ⟨x, y, st, z, ws, row, rfl, h, hs, k⟩ := h
  obtain ⟨dy, fy, wa, ra, y1, y2, y3, y4, y5, y6⟩ := h.ca
  obtain ⟨n, rfl⟩ := one_of h.wl
  obtain ⟨dx, fs, x1, x2, x3, x4⟩ := h.dk.ex
  refine ⟨_, pss_cons (ps_set (i := 2) sc62.nd rfl (Or.inl rfl) (pe_ix ix_list (pe_fld (pv 1) rfl) pe_int (fun _ _ => rfl)))
   (pss_cons (ps_if (pt_not (pt_tru (pe_fn Cb (hr.mono (by decide)) (pa_cons (pv 2) pa_nil)))) (pss_one (ps_ret (pe_lst (pa_cons (pe_cst I1) pa_nil)))) pss_nil)
   (pss_cons (ps_fld (pv 0) (pe_mk MP (hr.mono (by decide)) (pa_cons (pv 2) pa_nil)) rfl)
   (pss_one (ps_ret (pe_lst (pa_cons (pv 2) pa_nil)))))), ?_⟩
  refine ⟨_, rfl, y, c.call, dy, fy, _, rfl, y1, T.call.cl, T.call.no _ (by decide +kernel), y3, wa, _, _, _, rfl, rfl, y4.sq, atI_nat (j := 0) (v := natV n) rfl, ?_⟩
  refine ⟨_, rfl, n, rfl, _, rfl, ?_⟩
  by_cases hn : 2 ≤ n ∧ n ≤ 8
  ·have e : PollNs.step st (cl 0 [n] row) = (some ⟨n, []⟩, says (n : Nat)) := if_neg (by show ¬ (n < 2 ∨ 8 < n); omega)
   rw [decide_eq_true hn]
   refine iteF ⟨_, rfl, fun p dp np ndp hne => ?_⟩
   have sM : Same H (upd (upd H dp (.own p)) p (.ins c.poll dp [])) := same_new (same_new (Same.refl _) ndp) np
   refine ⟨p, dp, n, rfl, upd_same, fun H1 l hp hl k1 => ⟨rfl, ?_⟩⟩
   have s1 : Same H H1 := new_same np ndp k1
   refine ⟨_, rfl, x, c.desk, dx, fs, rfl, s1 _ _ x1, T.desk.cl, T.desk.no _ (by decide +kernel), by omega, ?_⟩
   have B : Buts [x] H1 (upd H1 x (.ins c.desk dx (putF "poll" (.ref p) fs))) := Buts.put (List.mem_singleton_self _)
   have nbx : NB c [x] H1 := nb1 (s1 _ _ x1) Df.db
   have lx : l ∉ [x] := fun q => by
    obtain ⟨_, _, _, _, _, _, r4, _⟩ := hp
    rw [List.mem_singleton.mp q, s1 _ _ x1] at r4
    cases r4
   have hp2 := hp.buts B nbx lx
   refine ⟨_, rfl, (by show 1 ≤ sizeLine; decide), fun r hr1 => ?_⟩
   have s2 : Same (upd H1 x (.ins c.desk dx (putF "poll" (.ref p) fs))) (upd (upd H1 x (.ins c.desk dx (putF "poll" (.ref p) fs))) r (.lst [natV n])) := same_new (Same.refl _) hr1
   have rx : r ≠ x := fun q => by rw [q, upd_same] at hr1; cases hr1
   have hr0 : H r = none := by
    rw [upd_ne rx] at hr1
    exact s1.free hr1
   obtain ⟨zs, hz⟩ := h.lz
   refine k _ r ⟨?_, ?_, ?_, ?_, hr0, ?_, ?_⟩
   ·rw [e]
    refine DeskAt.mono ?_ s2
    refine ⟨dx, _, upd_same, ?_, fun q => (by cases q), fun p2 q => ?_⟩
    ·by_cases hst : st = none
     ·rw [len_put (x3 hst)]; exact x2
     ·obtain ⟨p0, e0⟩ := Option.ne_none_iff_exists'.mp hst
      obtain ⟨pp, ll, q1, _⟩ := x4 p0 e0
      rw [len_put q1]
      exact x2
    ·cases q
     refine ⟨p, l, lk_put, hp2, fun q => ?_⟩
     rw [q, sM _ _ hz] at hl
     cases hl
   ·rw [e]
    intro p' q
    cases q
    exact ⟨hn.1, hn.2, Nat.zero_le _, fun b hb => by simp at hb⟩
   ·refine Tabs.mono ?_ s2
    exact Tabs.buts (h.tb.mono s1) B nbx fun a ha o ea ps q => by
     rw [List.mem_singleton.mp ha, s1 _ _ x1] at ea
     rw [q] at ea
     cases ea
   ·intro b o eb kk
    have bx : b ≠ x := fun q => by
     rcases kk with kk | kk
     ·rw [← kk, q, x1] at hz
      cases hz
     ·rw [q, x1] at eb
      cases eb
      exact kk rfl
    exact s2 _ _ (B _ _ (s1 _ _ eb) (by simp [bx]))
   ·show _ = some (HO.lst ((PollNeutral.shown (PollNs.step st (cl 0 [n] row)).2).map V.int))
    rw [e, upd_same]
    rfl
   ·show (PollNeutral.shown (PollNs.step st (cl 0 [n] row)).2).length ≤ 1000
    rw [e]
    show 1 ≤ 1000
    decide
  ·have e : PollNs.step st (cl 0 [n] row) = (st, says (-1)) := if_pos (by show n < 2 ∨ 8 < n; omega)
   rw [decide_eq_false hn]
   refine iteT ⟨(by show 1 ≤ sizeLine; decide), fun r hr1 => k _ r (AnsD.same h (by rw [e]) (ans := [-1]) (by show PollNeutral.shown _ = _; rw [e]; rfl) (same_new (Same.refl _) hr1) hr1 (by rw [upd_same]; rfl) (by show 1 ≤ 1000; decide))⟩
theorem sc65 : FnScope ["desk", "call", "place", "ballot"] ["desk", "call"] (defScope (top 65)) := ⟨rfl, rfl, rfl, by decide +kernel, rfl, by decide +kernel, by decide +kernel⟩
theorem order_few {P' : Poll} (wf : WF P') {b : Ballot} (hb : b ∈ P'.ballots) : b.order.length ≤ 8 := by
 have := wf.bal b hb
 have h1 := sub_len this.2.1 (t := List.range P'.size) fun m hm => List.mem_range.mpr (this.2.2 m hm)
 rw [List.length_range] at h1
 have := wf.hi
 omega
theorem ok_aBallot (T : Txt K mg c) (I1 : IntAt mg "NOT_THERE" (-4)) (D : DefAt K mg "answer_ballot" (top 65) ["desk", "call"]) (Cb : Callee P w K mg base "has_ballot" 1 ["poll", "place"] (spPN c fun p a => .bl (decide (a < p.ballots.length)))) (Cw : Callee P w K mg base "with_list" 1 ["first", "numbers"] (spWith K)) :
  Callee P w K mg base "answer_ballot" 17 ["desk", "call"] (spAns c Pr Pm Pl 3) := by
 refine D.ok sc65 (fun vs H Q E h => ?_) fun f cdv A outer s H vs Q E hr h => ?_
 ·obtain ⟨x, y, s, z, ws, row, rfl, _⟩ := h
  rfl
 ·obtain ⟨x, y, st, z, ws, row, rfl, h, hs, k⟩ := h
  obtain ⟨dy, fy, wa, ra, y1, y2, y3, y4, y5, y6⟩ := h.ca
  obtain ⟨n, rfl⟩ := one_of h.wl
  obtain ⟨dx, fs, x1, x2, x3, x4⟩ := h.dk.ex
  obtain ⟨p', rfl⟩ := Option.ne_none_iff_exists'.mp (hs (by decide))
  obtain ⟨p, l, q1, hp, q3⟩ := x4 p' rfl
  have wf := h.wf p' rfl
  obtain ⟨dp, fp, as, p1, p2, p3, p4, p5⟩ := id hp
  refine ⟨_, pss_cons (ps_set (i := 2) sc65.nd rfl (Or.inl rfl) (pe_ix ix_list (pe_fld (pv 1) rfl) pe_int (fun _ _ => rfl)))
   (pss_cons (ps_if (pt_not (pt_tru (pe_fn Cb (hr.mono (by decide)) (pa_cons (pe_fld (pv 0) rfl) (pa_cons (pv 2) pa_nil))))) (pss_one (ps_ret (pe_lst (pa_cons (pe_cst I1) pa_nil)))) pss_nil)
   (pss_cons (ps_set (i := 3) sc65.nd rfl (Or.inl rfl) (pe_ix ix_list (pe_fld (pe_fld (pv 0) rfl) rfl) (pv 2) (fun _ _ => rfl)))
   (pss_one (ps_ret (pe_fn Cw (hr.mono (by decide)) (pa_cons (pe_fld (pv 3) rfl) (pa_cons (pe_fld (pv 3) rfl) pa_nil))))))), ?_⟩
  refine ⟨_, rfl, y, c.call, dy, fy, _, rfl, y1, T.call.cl, T.call.no _ (by decide +kernel), y3, wa, _, _, _, rfl, rfl, y4.sq, atI_nat (j := 0) (v := natV n) rfl, ?_⟩
  refine ⟨_, rfl, x, c.desk, dx, fs, _, rfl, x1, T.desk.cl, T.desk.no _ (by decide +kernel), q1, _, rfl, p, p', n, rfl, ⟨l, hp⟩, _, rfl, ?_⟩
  by_cases hn : n < p'.ballots.length
  ·rw [decide_eq_true hn]
   have hb : p'.ballots[n]? = some p'.ballots[n] := List.getElem?_eq_getElem hn
   generalize p'.ballots[n] = bl at hb
   have hx : (as.map V.ref)[n]? = some (.ref (as[n]'(by rw [p5.len]; exact hn))) := by
    rw [List.getElem?_map, List.getElem?_eq_getElem (by rw [p5.len]; exact hn)]
    rfl
   obtain ⟨a, b2, ea, hb2, db, fb, tb, e1, e2, e3, e4⟩ := p5.get hx
   rw [hb] at hb2
   cases hb2
   rw [ea] at hx
   have e : PollNs.step (some p') (cl 3 [n] row) = (some p', ⟨(bl.many : Nat), [PollNs.«ints» bl.order]⟩) := by
    show (some p', match p'.ballots[n]? with | none => says (-4) | some b => ⟨(b.many : Nat), [PollNs.«ints» b.order]⟩) = _
    rw [hb]
   have ho := order_few wf (List.mem_of_getElem? hb)
   refine iteF ⟨_, rfl, x, c.desk, dx, fs, _, rfl, x1, T.desk.cl, T.desk.no _ (by decide +kernel), q1, p, c.poll, dp, fp, _, rfl, p1, T.poll.cl, T.poll.no _ (by decide +kernel), p3, _, rfl, l, _, _, _, rfl, rfl, SqL.of p4, atI_nat hx, ?_⟩
   have hil : (PollNs.«ints» bl.order).length = bl.order.length := by unfold PollNs.«ints»; rw [List.length_map]
   refine ⟨_, rfl, a, c.bal, db, fb, _, rfl, e1, T.bal.cl, T.bal.no _ (by decide +kernel), e2, _, rfl, a, c.bal, db, fb, _, rfl, e1, T.bal.cl, T.bal.no _ (by decide +kernel), e3, _, tb, PollNs.«ints» bl.order, rfl, .inr (by rw [natV_int]; exact e4.sq), by omega, fun H' r sm hr1 hl => k H' r ?_⟩
   refine AnsD.same h (by rw [e]) (ans := (bl.many : Int) :: ((PollNs.«ints» bl.order).length : Int) :: PollNs.«ints» bl.order) (by show PollNeutral.shown _ = _; rw [e]; exact shown_one _ _) sm hr1 hl (by show _ + 1 + 1 ≤ 1000; omega)
  ·rw [decide_eq_false hn]
   have e : PollNs.step (some p') (cl 3 [n] row) = (some p', says (-4)) := by
    show (some p', match p'.ballots[n]? with | none => says (-4) | some b => ⟨(b.many : Nat), [PollNs.«ints» b.order]⟩) = _
    rw [List.getElem?_eq_none (by omega)]
   refine iteT ⟨(by show 1 ≤ sizeLine; decide), fun r hr1 => k _ r (AnsD.same h (by rw [e]) (ans := [-4]) (by show PollNeutral.shown _ = _; rw [e]; rfl) (same_new (Same.refl _) hr1) hr1 (by rw [upd_same]; rfl) (by show 1 ≤ 1000; decide))⟩
end
theorem any_all (o : List Nat) (n : Nat) : (o.all fun x => decide (x < n)) = !(o.any fun x => decide (n ≤ x)) := by
 induction o with
 | nil => rfl
 | cons x r ih =>
  rw [List.all_cons, List.any_cons, ih, Bool.not_or]
  congr 1
  rw [Bool.eq_iff_iff, decide_eq_true_iff, Bool.not_eq_true', decide_eq_false_iff_not]
  omega
section
variable {P : Program} {w : World} {K : PySem.W.Frag} {mg : Str → Option Value} {base : Heap} {c : Cs} {Pr Pm Pl : Addr}
theorem AnsD.list {H H2 H3 : Hp} {x y r p l : Addr} {p' p2 : Poll} {z k : Nat} {ws row : List Nat} {a : PollNs.Call} {ans : List Int} {dx dp : Addr} {fs fp : List (Str × V)} {as as2 : List Addr} (h : AnsH c Pr Pm Pl H x y (some p') z k ws row)
  (x1 : H x = some (.ins c.desk dx fs)) (x2 : fs.length ≤ 1) (q1 : lk fs "poll" = some (.ref p)) (q3 : l ≠ z) (p1 : H p = some (.ins c.poll dp fp)) (p2' : lk fp "candidates" = some (natV p2.size)) (p3 : lk fp "ballots" = some (.ref l)) (p4 : H l = some (.lst (as.map V.ref)))
  (s2 : Same H H2) (hb : BalsAt c H2 as2 p2.ballots) (s3 : Same (upd H2 l (.lst (as2.map V.ref))) H3) (e1 : (PollNs.step (some p') a).1 = some p2) (e2 : told (some p') a = ans) (wf : WF p2) (hr : H r = none) (hl : H3 r = some (.lst (ans.map V.int))) (few : ans.length ≤ 1000) : AnsD c Pr Pm Pl H H3 x r (some p') z a := by
 have B : Buts [l] H2 (upd H2 l (.lst (as2.map V.ref))) := Buts.put (List.mem_singleton_self _)
 have nl : NB c [l] H2 := nb1 (s2 _ _ p4) True.intro
 have xl : x ≠ l := fun q => by rw [q, p4] at x1; cases x1
 have pl : p ≠ l := fun q => by rw [q, p4] at p1; cases p1
 refine ⟨?_, ?_, ?_, ?_, hr, by rw [e2]; exact hl, by rw [e2]; exact few⟩
 ·rw [e1]
  refine DeskAt.mono ?_ s3
  refine ⟨dx, fs, by rw [upd_ne xl]; exact s2 _ _ x1, x2, fun q => (by cases q), fun p3' q => ?_⟩
  cases q
  exact ⟨p, l, q1, ⟨dp, fp, as2, by rw [upd_ne pl]; exact s2 _ _ p1, p2', p3, upd_same, hb.buts B nl⟩, q3⟩
 ·rw [e1]
  intro q eq
  cases eq
  exact wf
 ·refine Tabs.mono ?_ s3
  exact Tabs.buts (h.tb.mono s2) B nl fun a ha o ea ps q => by
   rw [List.mem_singleton.mp ha, s2 _ _ p4] at ea
   rw [q] at ea
   cases ea
 ·intro b o eb kk
  have bl : b ≠ l := fun q => by
   rcases kk with kk | kk
   ·exact q3 (q.symm.trans kk)
   ·rw [q, p4] at eb
    cases eb
    exact kk
  exact s3 _ _ (B _ _ (s2 _ _ eb) (by simp [bl]))
theorem sc63 : FnScope ["desk", "call", "poll", "voters"] ["desk", "call"] (defScope (top 63)) := ⟨rfl, rfl, rfl, by decide +kernel, rfl, by decide +kernel, by decide +kernel⟩
theorem ok_aVote (T : Txt K mg c) (I1 : IntAt mg "BAD_VALUE" (-1)) (I2 : IntAt mg "FULL" (-6)) (D : DefAt K mg "answer_vote" (top 63) ["desk", "call"]) (Cv : Callee P w K mg base "takes_voters" 1 ["voters"] (spN fun n => .bl (decide (1 ≤ n ∧ n ≤ 1000000)))) (Co : Callee P w K mg base "takes_order" 3 ["poll", "order"] (spOrder c))
  (Cf : Callee P w K mg base "is_full" 1 ["poll"] (spP0 c fun p => .bl (decide (64 ≤ p.ballots.length)))) (MB : Maker P w K mg base "Ballot" c.bal 1 ["self", "voters", "order"] (spBal c)) :
  Callee P w K mg base "answer_vote" 17 ["desk", "call"] (spAns c Pr Pm Pl 1) := by
 refine D.ok sc63 (fun vs H Q E h => ?_) fun f cdv A outer s H vs Q E hr h => ?_
 ·obtain ⟨x, y, s, z, ws, row, rfl, _⟩ := h
  rfl
 ·obtain ⟨x, y, st, z, ws, row, rfl, h, hs, k⟩ := h
  obtain ⟨dy, fy, wa, ra, y1, y2, y3, y4, y5, y6⟩ := h.ca
  obtain ⟨n, rfl⟩ := one_of h.wl
  obtain ⟨dx, fs, x1, x2, x3, x4⟩ := h.dk.ex
  obtain ⟨p', rfl⟩ := Option.ne_none_iff_exists'.mp (hs (by decide))
  obtain ⟨p, l, q1, hp, q3⟩ := x4 p' rfl
  have wf := h.wf p' rfl
  obtain ⟨hrl, hrv⟩ := h.rw_ rfl
  have hrow := y6 rfl
  obtain ⟨dp, fp, as, p1, p2, p3, p4, p5⟩ := id hp
  have h64 := wf.few
  have hlen : (as.map V.ref).length = p'.ballots.length := by rw [List.length_map, p5.len]
  refine ⟨_, pss_cons (ps_set (i := 2) sc63.nd rfl (Or.inl rfl) (pe_fld (pv 0) rfl))
   (pss_cons (ps_set (i := 3) sc63.nd rfl (Or.inl rfl) (pe_ix ix_list (pe_fld (pv 1) rfl) pe_int (fun _ _ => rfl)))
   (pss_cons (ps_if (pw_or (pt_not (pt_tru (pe_fn Cv (hr.mono (by decide)) (pa_cons (pv 3) pa_nil)))) (pw_or1 (pt_not (pt_tru (pe_fn Co (hr.mono (by decide)) (pa_cons (pv 2) (pa_cons (pe_fld (pv 1) rfl) pa_nil))))))).pt (pss_one (ps_ret (pe_lst (pa_cons (pe_cst I1) pa_nil)))) pss_nil)
   (pss_cons (ps_if (pt_tru (pe_fn Cf (hr.mono (by decide)) (pa_cons (pv 2) pa_nil))) (pss_one (ps_ret (pe_lst (pa_cons (pe_cst I2) pa_nil)))) pss_nil)
   (pss_cons (ps_expr (pe_bm PySem.F.plainAttrs_list PySem.F.slot_list_append PySem.F.type_list_append mt_append (pe_fld (pv 2) rfl) (pa_cons (pe_mk MB (hr.mono (by decide)) (pa_cons (pv 3) (pa_cons (pe_fld (pv 1) rfl) pa_nil))) pa_nil)))
   (pss_one (ps_ret (pe_lst (pa_cons (pe_op op_sub (pe_callB call_len_seq rfl T.len PySem.boot_len (pa_cons (pe_fld (pv 2) rfl) pa_nil)) pe_int) pa_nil)))))))), ?_⟩
  refine ⟨_, rfl, x, c.desk, dx, fs, _, rfl, x1, T.desk.cl, T.desk.no _ (by decide +kernel), q1, ?_⟩
  refine ⟨_, rfl, y, c.call, dy, fy, _, rfl, y1, T.call.cl, T.call.no _ (by decide +kernel), y3, wa, _, _, _, rfl, rfl, y4.sq, atI_nat (j := 0) (v := natV n) rfl, ?_⟩
  refine ⟨_, rfl, n, rfl, _, rfl, ?_⟩
  have stp : PollNs.step (some p') (cl 1 [n] row) = if n = 0 ∨ 1000000 < n ∨ apart row = false ∨ row.any (fun (x : Nat) => decide (p'.size ≤ x)) = true then (some p', says (-1)) else if 64 ≤ p'.ballots.length then (some p', says (-6)) else (some ⟨p'.size, p'.ballots ++ [⟨n, row⟩]⟩, says (p'.ballots.length : Nat)) := rfl
  have bad : ∀ (H1 : Hp), Same H H1 → PollNs.step (some p') (cl 1 [n] row) = (some p', says (-1)) → ∀ r, H1 r = none → Q (.ref r) (upd H1 r (.lst [.int (-1)])) := fun H1 s1 e r hr1 => k _ r (AnsD.same h (by rw [e]) (ans := [-1]) (by show PollNeutral.shown _ = _; rw [e]; rfl) (s1.trans (same_new (Same.refl _) hr1)) (s1.free hr1) (by rw [upd_same]; rfl) (by show 1 ≤ 1000; decide))
  by_cases hv : 1 ≤ n ∧ n ≤ 1000000
  ·rw [decide_eq_true hv]
   refine iteF ⟨_, rfl, _, rfl, y, c.call, dy, fy, _, rfl, y1, T.call.cl, T.call.no _ (by decide +kernel), y5, p, p', ra, row, rfl, ⟨l, hp⟩, hrow, hrl, hrv, fun H1 s1 => ⟨_, rfl, ?_⟩⟩
   rw [any_all]
   by_cases ho : apart row = true ∧ row.any (fun (x : Nat) => decide (p'.size ≤ x)) = false
   ·rw [ho.1, ho.2]
    refine iteF ⟨_, rfl, p, p', rfl, ⟨l, hp.mono s1⟩, _, rfl, ?_⟩
    by_cases hf : 64 ≤ p'.ballots.length
    ·rw [decide_eq_true hf]
     have e : PollNs.step (some p') (cl 1 [n] row) = (some p', says (-6)) := by
      rw [stp, if_neg (by rw [ho.1, ho.2]; simp; omega), if_pos hf]
     exact iteT ⟨(by show 1 ≤ sizeLine; decide), fun r hr1 => k _ r (AnsD.same h (by rw [e]) (ans := [-6]) (by show PollNeutral.shown _ = _; rw [e]; rfl) (s1.trans (same_new (Same.refl _) hr1)) (s1.free hr1) (by rw [upd_same]; rfl) (by show 1 ≤ 1000; decide))⟩
    ·rw [decide_eq_false hf]
     have e : PollNs.step (some p') (cl 1 [n] row) = (some ⟨p'.size, p'.ballots ++ [⟨n, row⟩]⟩, says (p'.ballots.length : Nat)) := by
      rw [stp, if_neg (by rw [ho.1, ho.2]; simp; omega), if_neg hf]
     refine iteF ⟨_, rfl, p, c.poll, dp, fp, _, rfl, s1 _ _ p1, T.poll.cl, T.poll.no _ (by decide +kernel), p3, .inl ⟨rfl, _, SqL.of (s1 _ _ p4)⟩, _, rfl, _, rfl, y, c.call, dy, fy, _, rfl, s1 _ _ y1, T.call.cl, T.call.no _ (by decide +kernel), y5, fun b db nb' ndb hne => ?_⟩
     have sM : Same H1 (upd (upd H1 db (.own b)) b (.ins c.bal db [])) := same_new (same_new (Same.refl _) ndb) nb'
     refine ⟨b, db, n, row, ra, rfl, upd_same, hrow.mono (s1.trans sM), fun H2 hb2 k2 => ⟨rfl, ?_⟩⟩
     have s2 : Same H H2 := s1.trans (new_same nb' ndb k2)
     refine ⟨l, _, _, rfl, rfl, s2 _ _ p4, by rw [hlen, sizeLine_eq]; omega, ?_⟩
     have pl : p ≠ l := fun q => by rw [q, p4] at p1; cases p1
     refine ⟨_, rfl, p, c.poll, dp, fp, _, rfl, by rw [upd_ne pl]; exact s2 _ _ p1, T.poll.cl, T.poll.no _ (by decide +kernel), p3, l, _, rfl, .inl (SqL.of upd_same), _, _, rfl, rfl, (by show 1 ≤ sizeLine; decide), fun r hr1 => k _ r ?_⟩
     have rl : r ≠ l := fun q => by rw [q, upd_same] at hr1; cases hr1
     have hr0 : H r = none := by
      rw [upd_ne rl] at hr1
      exact s2.free hr1
     have em : as.map V.ref ++ [V.ref b] = (as ++ [b]).map V.ref := by rw [List.map_append]; rfl
     refine AnsD.list (as := as) (as2 := as ++ [b]) (p2 := ⟨p'.size, p'.ballots ++ [⟨n, row⟩]⟩) (H2 := H2) (ans := [(p'.ballots.length : Int)]) h x1 x2 q1 q3 p1 p2 p3 p4 s2 ⟨?_, ?_⟩ (by rw [← em]; exact same_new (Same.refl _) hr1) (by rw [e]) (by show PollNeutral.shown _ = _; rw [e]; rfl) ⟨wf.lo, wf.hi, ?_, ?_⟩ hr0 ?_ (by show 1 ≤ 1000; decide)
     ·show (as ++ [b]).length = (p'.ballots ++ [_]).length
      rw [List.length_append, List.length_append, p5.len]
      rfl
     ·intro i a b3 ha hb3
      have hb3' : (p'.ballots ++ [⟨n, row⟩])[i]? = some b3 := hb3
      by_cases hi : i < as.length
      ·rw [List.getElem?_append_left hi] at ha
       rw [List.getElem?_append_left (by rw [← p5.len]; exact hi)] at hb3'
       exact (p5.at_ i a b3 ha hb3').mono s2
      ·have ei : i = as.length := by
        have := (List.getElem?_eq_some_iff.mp ha).1
        rw [List.length_append] at this
        simp at this
        omega
       subst ei
       rw [List.getElem?_append_right (Nat.le_refl _), Nat.sub_self] at ha
       rw [p5.len, List.getElem?_append_right (Nat.le_refl _), Nat.sub_self] at hb3'
       cases ha
       cases hb3'
       exact hb2
     ·show (p'.ballots ++ [_]).length ≤ 64
      rw [List.length_append]
      show _ + 1 ≤ 64
      omega
     ·intro b3 hb3
      rcases List.mem_append.mp hb3 with q | q
      ·exact wf.bal b3 q
      ·rw [List.mem_singleton.mp q]
       refine ⟨hv.2, apart_iff.mp ho.1, fun v hvm => ?_⟩
       have := List.any_eq_false.mp ho.2 v hvm
       simp at this
       exact this
     ·rw [upd_same]
      show some (HO.lst [V.int ((((as.map V.ref ++ [V.ref b]).length : Nat) : Int) - 1)]) = some (HO.lst [V.int (p'.ballots.length : Int)])
      rw [List.length_append, hlen]
      congr 4
      show ((p'.ballots.length + 1 : Nat) : Int) - 1 = _
      omega
   ·have e : PollNs.step (some p') (cl 1 [n] row) = (some p', says (-1)) := by
     rw [stp, if_pos]
     right
     right
     cases ha : apart row with
     | false => exact .inl rfl
     | true =>
      right
      cases hb : row.any (fun (x : Nat) => decide (p'.size ≤ x)) with
      | true => rfl
      | false => exact (ho ⟨ha, hb⟩).elim
    rw [show (apart row && !(row.any fun x => decide (p'.size ≤ x))) = false by
     cases ha : apart row with
     | false => rfl
     | true =>
      cases hb : row.any (fun (x : Nat) => decide (p'.size ≤ x)) with
      | true => rfl
      | false => exact (ho ⟨ha, hb⟩).elim]
    exact iteT ⟨(by show 1 ≤ sizeLine; decide), bad H1 s1 e⟩
  ·rw [decide_eq_false hv]
   have e : PollNs.step (some p') (cl 1 [n] row) = (some p', says (-1)) := by rw [stp, if_pos (by omega)]
   exact iteT (iteT ⟨(by show 1 ≤ sizeLine; decide), bad H (Same.refl _) e⟩)
theorem sc64 : FnScope ["desk", "call", "poll", "place"] ["desk", "call"] (defScope (top 64)) := ⟨rfl, rfl, rfl, by decide +kernel, rfl, by decide +kernel, by decide +kernel⟩
theorem BalsAt.erase {H : Hp} {as : List Addr} {bs : List Ballot} (h : BalsAt c H as bs) (n : Nat) : BalsAt c H (as.eraseIdx n) (bs.eraseIdx n) := by
 refine ⟨?_, fun i a b ha hb => ?_⟩
 ·rw [List.length_eraseIdx, List.length_eraseIdx, h.len]
 ·rw [List.getElem?_eraseIdx] at ha hb
  by_cases z : i < n
  ·rw [if_pos z] at ha hb
   exact h.at_ i a b ha hb
  ·rw [if_neg z] at ha hb
   exact h.at_ (i + 1) a b ha hb
theorem ok_aDrop (T : Txt K mg c) (I1 : IntAt mg "NOT_THERE" (-4)) (D : DefAt K mg "answer_drop" (top 64) ["desk", "call"]) (Cb : Callee P w K mg base "has_ballot" 1 ["poll", "place"] (spPN c fun p a => .bl (decide (a < p.ballots.length)))) :
  Callee P w K mg base "answer_drop" 17 ["desk", "call"] (spAns c Pr Pm Pl 2) := by
 refine D.ok sc64 (fun vs H Q E h => ?_) fun f cdv A outer s H vs Q E hr h => ?_
 ·obtain ⟨x, y, s, z, ws, row, rfl, _⟩ := h
  rfl
 ·obtain ⟨x, y, st, z, ws, row, rfl, h, hs, k⟩ := h
  obtain ⟨dy, fy, wa, ra, y1, y2, y3, y4, y5, y6⟩ := h.ca
  obtain ⟨n, rfl⟩ := one_of h.wl
  obtain ⟨dx, fs, x1, x2, x3, x4⟩ := h.dk.ex
  obtain ⟨p', rfl⟩ := Option.ne_none_iff_exists'.mp (hs (by decide))
  obtain ⟨p, l, q1, hp, q3⟩ := x4 p' rfl
  have wf := h.wf p' rfl
  obtain ⟨dp, fp, as, p1, p2, p3, p4, p5⟩ := id hp
  have h64 := wf.few
  have hlen : (as.map V.ref).length = p'.ballots.length := by rw [List.length_map, p5.len]
  refine ⟨_, pss_cons (ps_set (i := 2) sc64.nd rfl (Or.inl rfl) (pe_fld (pv 0) rfl))
   (pss_cons (ps_set (i := 3) sc64.nd rfl (Or.inl rfl) (pe_ix ix_list (pe_fld (pv 1) rfl) pe_int (fun _ _ => rfl)))
   (pss_cons (ps_if (pt_not (pt_tru (pe_fn Cb (hr.mono (by decide)) (pa_cons (pv 2) (pa_cons (pv 3) pa_nil))))) (pss_one (ps_ret (pe_lst (pa_cons (pe_cst I1) pa_nil)))) pss_nil)
   (pss_cons (ps_expr (pe_bm PySem.F.plainAttrs_list PySem.F.slot_list_pop PySem.F.type_list_pop mt_popAt (pe_fld (pv 2) rfl) (pa_cons (pv 3) pa_nil)))
   (pss_one (ps_ret (pe_lst (pa_cons (pe_callB call_len_seq rfl T.len PySem.boot_len (pa_cons (pe_fld (pv 2) rfl) pa_nil)) pa_nil))))))), ?_⟩
  refine ⟨_, rfl, x, c.desk, dx, fs, _, rfl, x1, T.desk.cl, T.desk.no _ (by decide +kernel), q1, ?_⟩
  refine ⟨_, rfl, y, c.call, dy, fy, _, rfl, y1, T.call.cl, T.call.no _ (by decide +kernel), y3, wa, _, _, _, rfl, rfl, y4.sq, atI_nat (j := 0) (v := natV n) rfl, ?_⟩
  refine ⟨_, rfl, _, rfl, p, p', n, rfl, ⟨l, hp⟩, _, rfl, ?_⟩
  have stp : PollNs.step (some p') (cl 2 [n] row) = if p'.ballots.length ≤ n then (some p', says (-4)) else (some ⟨p'.size, p'.ballots.eraseIdx n⟩, says ((p'.ballots.length - 1 : Nat) : Int)) := rfl
  by_cases hn : n < p'.ballots.length
  ·rw [decide_eq_true hn]
   have e : PollNs.step (some p') (cl 2 [n] row) = (some ⟨p'.size, p'.ballots.eraseIdx n⟩, says ((p'.ballots.length - 1 : Nat) : Int)) := by rw [stp, if_neg (by omega)]
   have hx : (as.map V.ref)[n]? = some (.ref (as[n]'(by rw [p5.len]; exact hn))) := by
    rw [List.getElem?_map, List.getElem?_eq_getElem (by rw [p5.len]; exact hn)]
    rfl
   refine iteF ⟨_, rfl, p, c.poll, dp, fp, _, rfl, p1, T.poll.cl, T.poll.no _ (by decide +kernel), p3, .inl ⟨rfl, _, SqL.of p4⟩, _, rfl, l, _, _, n, _, rfl, rfl, p4, by omega, by omega, ?_, hx, ?_⟩
   ·rw [seqIndex_of (by omega) (by rw [hlen]; omega), Int.toNat_natCast]
   have pl : p ≠ l := fun q => by rw [q, p4] at p1; cases p1
   refine ⟨_, rfl, p, c.poll, dp, fp, _, rfl, by rw [upd_ne pl]; exact p1, T.poll.cl, T.poll.no _ (by decide +kernel), p3, l, _, rfl, .inl (SqL.of upd_same), (by show 1 ≤ sizeLine; decide), fun r hr1 => k _ r ?_⟩
   have rl : r ≠ l := fun q => by rw [q, upd_same] at hr1; cases hr1
   have hr0 : H r = none := by
    rw [upd_ne rl] at hr1
    exact hr1
   have em : (as.map V.ref).eraseIdx n = (as.eraseIdx n).map V.ref := eraseIdx_map _ _ _
   refine AnsD.list (as := as) (as2 := as.eraseIdx n) (p2 := ⟨p'.size, p'.ballots.eraseIdx n⟩) (H2 := H) (ans := [((p'.ballots.length - 1 : Nat) : Int)]) h x1 x2 q1 q3 p1 p2 p3 p4 (Same.refl _) (p5.erase n) (by rw [← em]; exact same_new (Same.refl _) hr1) (by rw [e]) (by show PollNeutral.shown _ = _; rw [e]; rfl) ⟨wf.lo, wf.hi, ?_, ?_⟩ hr0 ?_ (by show 1 ≤ 1000; decide)
   ·show (p'.ballots.eraseIdx n).length ≤ 64
    rw [List.length_eraseIdx]
    split <;> omega
   ·intro b hb
    exact wf.bal b (List.mem_of_mem_eraseIdx hb)
   ·rw [upd_same]
    show some (HO.lst [V.int ((((as.map V.ref).eraseIdx n).length : Nat) : Int)]) = some (HO.lst [V.int ((p'.ballots.length - 1 : Nat) : Int)])
    rw [List.length_eraseIdx, hlen, if_pos hn]
  ·rw [decide_eq_false hn]
   have e : PollNs.step (some p') (cl 2 [n] row) = (some p', says (-4)) := by rw [stp, if_pos (by omega)]
   refine iteT ⟨(by show 1 ≤ sizeLine; decide), fun r hr1 => k _ r (AnsD.same h (by rw [e]) (ans := [-4]) (by show PollNeutral.shown _ = _; rw [e]; rfl) (same_new (Same.refl _) hr1) hr1 (by rw [upd_same]; rfl) (by show 1 ≤ 1000; decide))⟩
end
theorem taken_len : ∀ (n : Nat) (r : List Nat), ∀ l ∈ taken n r, l.length = n
 | 0, _, l, h => by
  rw [show taken 0 _ = [[]] by unfold taken; rfl] at h
  rw [List.mem_singleton.mp h]
  rfl
 | n + 1, [], l, h => by
  rw [show taken (n + 1) [] = [] by unfold taken; rfl] at h
  simp at h
 | n + 1, x :: r, l, h => by
  unfold taken at h
  rcases List.mem_append.mp h with q | q
  ·obtain ⟨l', h1, h2⟩ := List.mem_map.mp q
   rw [← h2, List.length_cons, taken_len n r l' h1]
  ·exact taken_len (n + 1) r l q
theorem top_few {p : Poll} (wf : WF p) : p.top.length ≤ 8 := by
 have hi := wf.hi
 unfold Poll.top
 cases h : (p.all.flatMap fun (n : Nat) => taken (n + 1) p.all).find? p.tops with
 | none => exact Nat.zero_le _
 | some l =>
  show l.length ≤ 8
  obtain ⟨n, h1, h2⟩ := List.mem_flatMap.mp (List.mem_of_find?_eq_some h)
  have h3 : n < p.size := List.mem_range.mp h1
  rw [taken_len _ _ _ h2]
  omega
theorem ranked_few {p : Poll} (wf : WF p) : p.ranked.length ≤ 8 := by
 have hi := wf.hi
 have := (ranked_fold p p.size).1.length_eq
 rw [List.length_range] at this
 show (p.all.foldl (fun (l : List Nat) (a : Nat) => insertBy p.paths p.size a l) []).length ≤ 8
 unfold Poll.all
 omega
theorem unbeaten_few {p : Poll} (wf : WF p) : p.unbeaten.length ≤ 8 := by
 have hi := wf.hi
 have h := List.length_filter_le (fun (a : Nat) => p.all.all fun (b : Nat) => !above p.paths b a) p.all
 have h2 : p.all.length = p.size := List.length_range
 show (p.all.filter fun (a : Nat) => p.all.all fun (b : Nat) => !above p.paths b a).length ≤ 8
 omega
theorem ints_len (l : List Nat) : (PollNs.«ints» l).length = l.length := by unfold PollNs.«ints»; rw [List.length_map]
section
variable {P : Program} {w : World} {K : PySem.W.Frag} {mg : Str → Option Value} {base : Heap} {c : Cs} {Pr Pm Pl : Addr}
theorem AnsD.tell {H H' : Hp} {x y r : Addr} {p' : Poll} {z k : Nat} {ws row : List Nat} {a : PollNs.Call} {f : Int} {xs : List Int} (h : AnsH c Pr Pm Pl H x y (some p') z k ws row) (e : PollNs.step (some p') a = (some p', ⟨f, [xs]⟩)) (B : Buts [Pr, Pm, Pl] H H') (t : Tabs H' Pr Pm Pl) (hr : H r = none) (hl : H' r = some (.lst ((f :: (xs.length : Int) :: xs).map V.int))) (few : xs.length ≤ 900) : AnsD c Pr Pm Pl H H' x r (some p') z a :=
 AnsD.of h (by rw [e]) (by show PollNeutral.shown _ = _; rw [e]; exact shown_one _ _) B t hr hl (by show xs.length + 1 + 1 ≤ 1000; omega)
theorem AnsD.say {H H' : Hp} {x y r : Addr} {p' : Poll} {z k : Nat} {ws row : List Nat} {a : PollNs.Call} {f : Int} (h : AnsH c Pr Pm Pl H x y (some p') z k ws row) (e : PollNs.step (some p') a = (some p', says f)) (sm : Same H H') (hr : H' r = none) : AnsD c Pr Pm Pl H (upd H' r (.lst [.int f])) x r (some p') z a :=
 AnsD.same h (by rw [e]) (ans := [f]) (by show PollNeutral.shown _ = _; rw [e]; rfl) (sm.trans (same_new (Same.refl _) hr)) (sm.free hr) (by rw [upd_same]; rfl) (by show 1 ≤ 1000; decide)
theorem sc66 : FnScope ["desk", "call"] ["desk", "call"] (defScope (top 66)) := ⟨rfl, rfl, rfl, by decide +kernel, rfl, by decide +kernel, by decide +kernel⟩
theorem ok_aFirsts (T : Txt K mg c) (D : DefAt K mg "answer_firsts" (top 66) ["desk", "call"]) (Cv : Callee P w K mg base "count_voters" 1 ["poll"] (spVoters c)) (Cf : Callee P w K mg base "count_firsts" 1 ["poll"] (spList c fun p => p.all.map p.firsts)) (Cw : Callee P w K mg base "with_list" 1 ["first", "numbers"] (spWith K)) :
  Callee P w K mg base "answer_firsts" 17 ["desk", "call"] (spAns c Pr Pm Pl 4) := by
 refine D.ok sc66 (fun vs H Q E h => ?_) fun f cdv A outer s H vs Q E hr h => ?_
 ·obtain ⟨x, y, s, z, ws, row, rfl, _⟩ := h
  rfl
 ·obtain ⟨x, y, st, z, ws, row, rfl, h, hs, k⟩ := h
  obtain ⟨dx, fs, x1, x2, x3, x4⟩ := h.dk.ex
  obtain ⟨p', rfl⟩ := Option.ne_none_iff_exists'.mp (hs (by decide))
  obtain ⟨p, l, q1, hp, q3⟩ := x4 p' rfl
  have wf := h.wf p' rfl
  have hi := wf.hi
  refine ⟨_, pss_one (ps_ret (pe_fn Cw (hr.mono (by decide)) (pa_cons (pe_fn Cv (hr.mono (by decide)) (pa_cons (pe_fld (pv 0) rfl) pa_nil)) (pa_cons (pe_fn Cf (hr.mono (by decide)) (pa_cons (pe_fld (pv 0) rfl) pa_nil)) pa_nil)))), ?_⟩
  refine ⟨_, rfl, x, c.desk, dx, fs, _, rfl, x1, T.desk.cl, T.desk.no _ (by decide +kernel), q1, p, p', rfl, ⟨l, hp⟩, wf, fun H1 s1 => ?_⟩
  refine ⟨_, rfl, x, c.desk, dx, fs, _, rfl, s1 _ _ x1, T.desk.cl, T.desk.no _ (by decide +kernel), q1, p, p', rfl, ⟨l, hp.mono s1⟩, wf, fun H2 q s2 hq eq => ?_⟩
  have hlen : (PollNs.«ints» (p'.all.map p'.firsts)).length = p'.size := by rw [ints_len, List.length_map]; exact List.length_range
  refine ⟨_, q, PollNs.«ints» (p'.all.map p'.firsts), rfl, .inl (SqL.of (by rw [eq, natV_int])), by omega, fun H3 r s3 hr3 hl => k H3 r ?_⟩
  have s13 := (s1.trans s2).trans s3
  exact AnsD.tell h rfl (Same.buts s13) (h.tb.mono s13) ((s1.trans s2).free hr3) hl (by omega)
theorem sc67 : FnScope ["desk", "call", "a", "b"] ["desk", "call"] (defScope (top 67)) := ⟨rfl, rfl, rfl, by decide +kernel, rfl, by decide +kernel, by decide +kernel⟩
theorem ok_aPair (T : Txt K mg c) (I1 : IntAt mg "NOT_THERE" (-4)) (D : DefAt K mg "answer_pair" (top 67) ["desk", "call"]) (Cb : Callee P w K mg base "has_both" 3 ["poll", "a", "b"] (spPNN c fun p a b => .bl (decide (a < p.size ∧ b < p.size)))) (Cp : Callee P w K mg base "count_preferring" 3 ["poll", "a", "b"] (spTwo c fun p a b => natV (p.pair a b))) :
  Callee P w K mg base "answer_pair" 17 ["desk", "call"] (spAns c Pr Pm Pl 5) := by
 refine D.ok sc67 (fun vs H Q E h => ?_) fun f cdv A outer s H vs Q E hr h => ?_
 ·obtain ⟨x, y, s, z, ws, row, rfl, _⟩ := h
  rfl
 ·obtain ⟨x, y, st, z, ws, row, rfl, h, hs, k⟩ := h
  obtain ⟨dy, fy, wa, ra, y1, y2, y3, y4, y5, y6⟩ := h.ca
  obtain ⟨a, b, rfl⟩ := two_of h.wl
  obtain ⟨dx, fs, x1, x2, x3, x4⟩ := h.dk.ex
  obtain ⟨p', rfl⟩ := Option.ne_none_iff_exists'.mp (hs (by decide))
  obtain ⟨p, l, q1, hp, q3⟩ := x4 p' rfl
  have wf := h.wf p' rfl
  refine ⟨_, pss_cons (ps_set (i := 2) sc67.nd rfl (Or.inl rfl) (pe_ix ix_list (pe_fld (pv 1) rfl) pe_int (fun _ _ => rfl)))
   (pss_cons (ps_set (i := 3) sc67.nd rfl (Or.inl rfl) (pe_ix ix_list (pe_fld (pv 1) rfl) pe_int (fun _ _ => rfl)))
   (pss_cons (ps_if (pt_not (pt_tru (pe_fn Cb (hr.mono (by decide)) (pa_cons (pe_fld (pv 0) rfl) (pa_cons (pv 2) (pa_cons (pv 3) pa_nil)))))) (pss_one (ps_ret (pe_lst (pa_cons (pe_cst I1) pa_nil)))) pss_nil)
   (pss_one (ps_ret (pe_lst (pa_cons (pe_fn Cp (hr.mono (by decide)) (pa_cons (pe_fld (pv 0) rfl) (pa_cons (pv 2) (pa_cons (pv 3) pa_nil)))) pa_nil)))))), ?_⟩
  refine ⟨_, rfl, y, c.call, dy, fy, _, rfl, y1, T.call.cl, T.call.no _ (by decide +kernel), y3, wa, _, _, _, rfl, rfl, y4.sq, atI_nat (j := 0) (v := natV a) rfl, ?_⟩
  refine ⟨_, rfl, y, c.call, dy, fy, _, rfl, y1, T.call.cl, T.call.no _ (by decide +kernel), y3, wa, _, _, _, rfl, rfl, y4.sq, atI_nat (j := 1) (v := natV b) rfl, ?_⟩
  refine ⟨_, rfl, x, c.desk, dx, fs, _, rfl, x1, T.desk.cl, T.desk.no _ (by decide +kernel), q1, _, rfl, _, rfl, p, p', a, b, rfl, ⟨l, hp⟩, _, rfl, ?_⟩
  have stp : PollNs.step (some p') (cl 5 [a, b] row) = (some p', if p'.size ≤ a ∨ p'.size ≤ b then says (-4) else says (p'.pair a b : Nat)) := rfl
  by_cases hn : a < p'.size ∧ b < p'.size
  ·rw [decide_eq_true hn]
   refine iteF ⟨_, rfl, x, c.desk, dx, fs, _, rfl, x1, T.desk.cl, T.desk.no _ (by decide +kernel), q1, _, rfl, _, rfl, p, p', a, b, rfl, ⟨l, hp⟩, wf, fun H1 s1 => ⟨(by show 1 ≤ sizeLine; decide), fun r hr1 => k _ r (AnsD.say h (by rw [stp, if_neg (by omega)]) s1 hr1)⟩⟩
  ·rw [decide_eq_false hn]
   exact iteT ⟨(by show 1 ≤ sizeLine; decide), fun r hr1 => k _ r (AnsD.say h (by rw [stp, if_pos (by omega)]) (Same.refl _) hr1)⟩
theorem sc68 : FnScope ["desk", "call", "champion"] ["desk", "call"] (defScope (top 68)) := ⟨rfl, rfl, rfl, by decide +kernel, rfl, by decide +kernel, by decide +kernel⟩
theorem ok_aChamp (T : Txt K mg c) (I1 : IntAt mg "NOBODY" (-5)) (D : DefAt K mg "answer_champion" (top 68) ["desk", "call"]) (Cc : Callee P w K mg base "find_champion" 9 ["poll"] (spPoll c fun p => optV p.champion)) :
  Callee P w K mg base "answer_champion" 17 ["desk", "call"] (spAns c Pr Pm Pl 6) := by
 refine D.ok sc68 (fun vs H Q E h => ?_) fun f cdv A outer s H vs Q E hr h => ?_
 ·obtain ⟨x, y, s, z, ws, row, rfl, _⟩ := h
  rfl
 ·obtain ⟨x, y, st, z, ws, row, rfl, h, hs, k⟩ := h
  obtain ⟨dx, fs, x1, x2, x3, x4⟩ := h.dk.ex
  obtain ⟨p', rfl⟩ := Option.ne_none_iff_exists'.mp (hs (by decide))
  obtain ⟨p, l, q1, hp, q3⟩ := x4 p' rfl
  have wf := h.wf p' rfl
  refine ⟨_, pss_cons (ps_set (i := 2) sc68.nd rfl (Or.inl rfl) (pe_fn Cc (hr.mono (by decide)) (pa_cons (pe_fld (pv 0) rfl) pa_nil)))
   (pss_cons (ps_if (pt_cmpR op_isN (pv 2) pe_non (nomark _)) (pss_one (ps_ret (pe_lst (pa_cons (pe_cst I1) pa_nil)))) pss_nil)
   (pss_one (ps_ret (pe_lst (pa_cons (pv 2) pa_nil))))), ?_⟩
  refine ⟨_, rfl, x, c.desk, dx, fs, _, rfl, x1, T.desk.cl, T.desk.no _ (by decide +kernel), q1, p, p', rfl, ⟨l, hp⟩, wf, fun H1 s1 => ?_⟩
  refine ⟨_, rfl, rfl, _, rfl, ?_⟩
  have stp : PollNs.step (some p') (cl 6 ws row) = (some p', match p'.champion with | none => says (-5) | some a => says (a : Nat)) := rfl
  obtain ⟨o, hc⟩ : ∃ o, p'.champion = o := ⟨_, rfl⟩
  cases o with
  | none =>
   rw [hc] at stp
   rw [show decide ((fun p : Poll => optV p.champion) p' = V.non) = true by show decide (optV p'.champion = V.non) = true; rw [hc]; rfl]
   exact iteT ⟨(by show 1 ≤ sizeLine; decide), fun r hr1 => k _ r (AnsD.say h stp s1 hr1)⟩
  | some a =>
   rw [hc] at stp
   rw [show decide ((fun p : Poll => optV p.champion) p' = V.non) = false by show decide (optV p'.champion = V.non) = false; rw [hc]; rfl]
   refine iteF ⟨_, rfl, (by show 1 ≤ sizeLine; decide), fun r hr1 => k _ r ?_⟩
   have e9 := AnsD.say h stp s1 hr1
   show AnsD c Pr Pm Pl H (upd H1 r (.lst [optV p'.champion])) x r (some p') z (cl 6 ws row)
   rw [hc]
   exact e9
theorem sc69 : FnScope ["desk", "call", "members"] ["desk", "call"] (defScope (top 69)) := ⟨rfl, rfl, rfl, by decide +kernel, rfl, by decide +kernel, by decide +kernel⟩
theorem ok_aTop (T : Txt K mg c) (D : DefAt K mg "answer_top" (top 69) ["desk", "call"]) (Ct : Callee P w K mg base "find_least_set" 9 ["poll"] (spList c fun p => p.top)) (Cw : Callee P w K mg base "with_list" 1 ["first", "numbers"] (spWith K)) :
  Callee P w K mg base "answer_top" 17 ["desk", "call"] (spAns c Pr Pm Pl 7) := by
 refine D.ok sc69 (fun vs H Q E h => ?_) fun f cdv A outer s H vs Q E hr h => ?_
 ·obtain ⟨x, y, s, z, ws, row, rfl, _⟩ := h
  rfl
 ·obtain ⟨x, y, st, z, ws, row, rfl, h, hs, k⟩ := h
  obtain ⟨dx, fs, x1, x2, x3, x4⟩ := h.dk.ex
  obtain ⟨p', rfl⟩ := Option.ne_none_iff_exists'.mp (hs (by decide))
  obtain ⟨p, l, q1, hp, q3⟩ := x4 p' rfl
  have wf := h.wf p' rfl
  refine ⟨_, pss_cons (ps_set (i := 2) sc69.nd rfl (Or.inl rfl) (pe_fn Ct (hr.mono (by decide)) (pa_cons (pe_fld (pv 0) rfl) pa_nil)))
   (pss_one (ps_ret (pe_fn Cw (hr.mono (by decide)) (pa_cons (pe_callB call_len_seq rfl T.len PySem.boot_len (pa_cons (pv 2) pa_nil)) (pa_cons (pv 2) pa_nil))))), ?_⟩
  refine ⟨_, rfl, x, c.desk, dx, fs, _, rfl, x1, T.desk.cl, T.desk.no _ (by decide +kernel), q1, p, p', rfl, ⟨l, hp⟩, wf, fun H1 q s1 hq eq => ?_⟩
  have hlen := top_few wf
  have hl2 : (PollNs.«ints» p'.top).length = p'.top.length := ints_len _
  refine ⟨_, rfl, q, _, rfl, .inl (SqL.of eq), _, rfl, _, q, PollNs.«ints» p'.top, rfl, .inl (SqL.of (by rw [eq, natV_int])), by omega, fun H3 r s3 hr3 hl => k H3 r ?_⟩
  have s13 := s1.trans s3
  refine AnsD.tell (f := ((p'.top.map natV).length : Nat)) h ?_ (Same.buts s13) (h.tb.mono s13) (s1.free hr3) hl (by omega)
  rw [List.length_map]
  rfl
theorem sc70 : FnScope ["desk", "call", "a", "b"] ["desk", "call"] (defScope (top 70)) := ⟨rfl, rfl, rfl, by decide +kernel, rfl, by decide +kernel, by decide +kernel⟩
theorem ok_aPath (T : Txt K mg c) (I1 : IntAt mg "NOT_THERE" (-4)) (D : DefAt K mg "answer_path" (top 70) ["desk", "call"]) (Cb : Callee P w K mg base "has_both" 3 ["poll", "a", "b"] (spPNN c fun p a b => .bl (decide (a < p.size ∧ b < p.size)))) (Cs : Callee P w K mg base "find_strengths" 11 ["poll"] (spStr c)) :
  Callee P w K mg base "answer_path" 17 ["desk", "call"] (spAns c Pr Pm Pl 8) := by
 refine D.ok sc70 (fun vs H Q E h => ?_) fun f cdv A outer s H vs Q E hr h => ?_
 ·obtain ⟨x, y, s, z, ws, row, rfl, _⟩ := h
  rfl
 ·obtain ⟨x, y, st, z, ws, row, rfl, h, hs, k⟩ := h
  obtain ⟨dy, fy, wa, ra, y1, y2, y3, y4, y5, y6⟩ := h.ca
  obtain ⟨a, b, rfl⟩ := two_of h.wl
  obtain ⟨dx, fs, x1, x2, x3, x4⟩ := h.dk.ex
  obtain ⟨p', rfl⟩ := Option.ne_none_iff_exists'.mp (hs (by decide))
  obtain ⟨p, l, q1, hp, q3⟩ := x4 p' rfl
  have wf := h.wf p' rfl
  refine ⟨_, pss_cons (ps_set (i := 2) sc70.nd rfl (Or.inl rfl) (pe_ix ix_list (pe_fld (pv 1) rfl) pe_int (fun _ _ => rfl)))
   (pss_cons (ps_set (i := 3) sc70.nd rfl (Or.inl rfl) (pe_ix ix_list (pe_fld (pv 1) rfl) pe_int (fun _ _ => rfl)))
   (pss_cons (ps_if (pt_not (pt_tru (pe_fn Cb (hr.mono (by decide)) (pa_cons (pe_fld (pv 0) rfl) (pa_cons (pv 2) (pa_cons (pv 3) pa_nil)))))) (pss_one (ps_ret (pe_lst (pa_cons (pe_cst I1) pa_nil)))) pss_nil)
   (pss_one (ps_ret (pe_lst (pa_cons (pe_ix ix_list (pe_ix ix_list (pe_fn Cs (hr.mono (by decide)) (pa_cons (pe_fld (pv 0) rfl) pa_nil)) (pv 2) (fun _ _ => rfl)) (pv 3) (fun _ _ => rfl)) pa_nil)))))), ?_⟩
  refine ⟨_, rfl, y, c.call, dy, fy, _, rfl, y1, T.call.cl, T.call.no _ (by decide +kernel), y3, wa, _, _, _, rfl, rfl, y4.sq, atI_nat (j := 0) (v := natV a) rfl, ?_⟩
  refine ⟨_, rfl, y, c.call, dy, fy, _, rfl, y1, T.call.cl, T.call.no _ (by decide +kernel), y3, wa, _, _, _, rfl, rfl, y4.sq, atI_nat (j := 1) (v := natV b) rfl, ?_⟩
  refine ⟨_, rfl, x, c.desk, dx, fs, _, rfl, x1, T.desk.cl, T.desk.no _ (by decide +kernel), q1, _, rfl, _, rfl, p, p', a, b, rfl, ⟨l, hp⟩, _, rfl, ?_⟩
  have stp : PollNs.step (some p') (cl 8 [a, b] row) = (some p', if p'.size ≤ a ∨ p'.size ≤ b then says (-4) else says (at_ p'.paths a b : Nat)) := rfl
  by_cases hn : a < p'.size ∧ b < p'.size
  ·rw [decide_eq_true hn]
   refine iteF ⟨_, rfl, x, c.desk, dx, fs, _, rfl, x1, T.desk.cl, T.desk.no _ (by decide +kernel), q1, p, p', rfl, ⟨l, hp⟩, wf, fun H1 S as s1 hS R => ?_⟩
   obtain ⟨ra, i1, i2, i3⟩ := R.get' hn.1
   exact ⟨_, rfl, S, _, _, _, rfl, rfl, SqL.of R.lst, atI_nat i1, _, rfl, ra, _, _, _, rfl, rfl, SqL.of i3, at_row hn.2, (by show 1 ≤ sizeLine; decide), fun r hr1 => k _ r (AnsD.say h (by rw [stp, if_neg (by omega)]) s1 hr1)⟩
  ·rw [decide_eq_false hn]
   exact iteT ⟨(by show 1 ≤ sizeLine; decide), fun r hr1 => k _ r (AnsD.say h (by rw [stp, if_pos (by omega)]) (Same.refl _) hr1)⟩
end
theorem going_full {p : Poll} {n : Nat} {g : PM.Sg} {ts : List PM.TurnD} (G : PM.Going p n g ts) (h : g.left = 0) : ((ts.filter fun t => t.seat).map fun t => t.who).length = n := by
 obtain ⟨c, f, R, _, _, hs⟩ := G.ex
 have := R.sts
 rw [← hs]
 omega
theorem going_few {p : Poll} {n : Nat} {g : PM.Sg} {ts : List PM.TurnD} (G : PM.Going p n g ts) (wf : WF p) : ts.length ≤ 8 := by
 have := G.cnt
 have := wf.hi
 omega
section
variable {P : Program} {w : World} {K : PySem.W.Frag} {mg : Str → Option Value} {base : Heap} {c : Cs} {Pr Pm Pl : Addr}
theorem sc71 : FnScope ["desk", "call", "ranking"] ["desk", "call"] (defScope (top 71)) := ⟨rfl, rfl, rfl, by decide +kernel, rfl, by decide +kernel, by decide +kernel⟩
theorem ok_aRanked (T : Txt K mg c) (hm : Pm ≠ Pr) (hl0 : Pl ≠ Pr) (D : DefAt K mg "answer_ranked" (top 71) ["desk", "call"]) (Ct : Callee P w K mg base "rank_candidates" 13 ["poll"] (spRank c Pr)) (Cw : Callee P w K mg base "with_list" 1 ["first", "numbers"] (spWith K)) :
  Callee P w K mg base "answer_ranked" 17 ["desk", "call"] (spAns c Pr Pm Pl 9) := by
 refine D.ok sc71 (fun vs H Q E h => ?_) fun f cdv A outer s H vs Q E hr h => ?_
 ·obtain ⟨x, y, s, z, ws, row, rfl, _⟩ := h
  rfl
 ·obtain ⟨x, y, st, z, ws, row, rfl, h, hs, k⟩ := h
  obtain ⟨dx, fs, x1, x2, x3, x4⟩ := h.dk.ex
  obtain ⟨p', rfl⟩ := Option.ne_none_iff_exists'.mp (hs (by decide))
  obtain ⟨p, l, q1, hp, q3⟩ := x4 p' rfl
  have wf := h.wf p' rfl
  refine ⟨_, pss_cons (ps_set (i := 2) sc71.nd rfl (Or.inl rfl) (pe_fn Ct (hr.mono (by decide)) (pa_cons (pe_fld (pv 0) rfl) pa_nil)))
   (pss_one (ps_ret (pe_fn Cw (hr.mono (by decide)) (pa_cons (pe_callB call_len_seq rfl T.len PySem.boot_len (pa_cons (pv 2) pa_nil)) (pa_cons (pv 2) pa_nil))))), ?_⟩
  refine ⟨_, rfl, x, c.desk, dx, fs, _, rfl, x1, T.desk.cl, T.desk.no _ (by decide +kernel), q1, p, p', rfl, ⟨l, hp⟩, wf, h.tb.r, fun H1 q b1 tr1 hq eq => ?_⟩
  have hlen := ranked_few wf
  have hl2 : (PollNs.«ints» p'.ranked).length = p'.ranked.length := ints_len _
  obtain ⟨psr, hPr, _⟩ := id h.tb.r
  have B1 : Buts [Pr] H H1 := But.buts b1 (List.mem_singleton_self _)
  have tb1 : Tabs H1 Pr Pm Pl := ⟨tr1, tab_buts (c := c) h.tb.m B1 (nb1 hPr True.intro) (by simp [hm]), tab_buts (c := c) h.tb.l B1 (nb1 hPr True.intro) (by simp [hl0])⟩
  refine ⟨_, rfl, q, _, rfl, .inl (SqL.of eq), _, rfl, _, q, PollNs.«ints» p'.ranked, rfl, .inl (SqL.of (by rw [eq, natV_int])), by omega, fun H3 r s3 hr3 hl => k H3 r ?_⟩
  have hr0 : H r = none := by
   cases e : H r with
   | none => rfl
   | some o =>
    by_cases qq : r = Pr
    ·obtain ⟨_, hp1, _⟩ := tr1
     rw [qq, hp1] at hr3
     cases hr3
    ·rw [b1 _ _ e qq] at hr3
     cases hr3
  refine AnsD.tell (f := ((p'.ranked.map natV).length : Nat)) h ?_ (Buts.trans (B1.wide (by simp)) (Same.buts s3)) (tb1.mono s3) hr0 hl (by omega)
  rw [List.length_map]
  rfl
theorem sc72 : FnScope ["desk", "call", "members"] ["desk", "call"] (defScope (top 72)) := ⟨rfl, rfl, rfl, by decide +kernel, rfl, by decide +kernel, by decide +kernel⟩
theorem ok_aUnbeaten (T : Txt K mg c) (D : DefAt K mg "answer_unbeaten" (top 72) ["desk", "call"]) (Ct : Callee P w K mg base "find_unbeaten" 13 ["poll"] (spList c fun p => p.unbeaten)) (Cw : Callee P w K mg base "with_list" 1 ["first", "numbers"] (spWith K)) :
  Callee P w K mg base "answer_unbeaten" 17 ["desk", "call"] (spAns c Pr Pm Pl 10) := by
 refine D.ok sc72 (fun vs H Q E h => ?_) fun f cdv A outer s H vs Q E hr h => ?_
 ·obtain ⟨x, y, s, z, ws, row, rfl, _⟩ := h
  rfl
 ·obtain ⟨x, y, st, z, ws, row, rfl, h, hs, k⟩ := h
  obtain ⟨dx, fs, x1, x2, x3, x4⟩ := h.dk.ex
  obtain ⟨p', rfl⟩ := Option.ne_none_iff_exists'.mp (hs (by decide))
  obtain ⟨p, l, q1, hp, q3⟩ := x4 p' rfl
  have wf := h.wf p' rfl
  refine ⟨_, pss_cons (ps_set (i := 2) sc72.nd rfl (Or.inl rfl) (pe_fn Ct (hr.mono (by decide)) (pa_cons (pe_fld (pv 0) rfl) pa_nil)))
   (pss_one (ps_ret (pe_fn Cw (hr.mono (by decide)) (pa_cons (pe_callB call_len_seq rfl T.len PySem.boot_len (pa_cons (pv 2) pa_nil)) (pa_cons (pv 2) pa_nil))))), ?_⟩
  refine ⟨_, rfl, x, c.desk, dx, fs, _, rfl, x1, T.desk.cl, T.desk.no _ (by decide +kernel), q1, p, p', rfl, ⟨l, hp⟩, wf, fun H1 q s1 hq eq => ?_⟩
  have hlen := unbeaten_few wf
  have hl2 : (PollNs.«ints» p'.unbeaten).length = p'.unbeaten.length := ints_len _
  refine ⟨_, rfl, q, _, rfl, .inl (SqL.of eq), _, rfl, _, q, PollNs.«ints» p'.unbeaten, rfl, .inl (SqL.of (by rw [eq, natV_int])), by omega, fun H3 r s3 hr3 hl => k H3 r ?_⟩
  have s13 := s1.trans s3
  refine AnsD.tell (f := ((p'.unbeaten.map natV).length : Nat)) h ?_ (Same.buts s13) (h.tb.mono s13) (s1.free hr3) hl (by omega)
  rw [List.length_map]
  rfl
theorem turns_tabs {H H1 : Hp} (hm : Pm ≠ Pr) (hl0 : Pl ≠ Pr) (t : Tabs H Pr Pm Pl) (B : Buts [Pm, Pl] H H1) (m1 : TabAt H1 Pm mpos mqual) (l1 : TabAt H1 Pl lpos lqual) : Tabs H1 Pr Pm Pl ∧ ∀ r, H1 r = none → H r = none := by
 have tl : TlL H [Pm, Pl] := fun a ha => t.tl a (by simp at ha ⊢; rcases ha with q | q <;> simp [q])
 refine ⟨⟨tab_buts (c := ⟨0, 0, 0, 0, 0, 0, 0⟩) t.r B tl.nb (by simp [Ne.symm hm, Ne.symm hl0]), m1, l1⟩, fun r hr => ?_⟩
 cases e : H r with
 | none => rfl
 | some o =>
  by_cases qq : r ∈ [Pm, Pl]
  ·obtain ⟨_, h1, _⟩ := m1
   obtain ⟨_, h2, _⟩ := l1
   simp at qq
   rcases qq with q | q
   ·rw [q, h1] at hr; cases hr
   ·rw [q, h2] at hr; cases hr
  ·rw [B _ _ e qq] at hr
   cases hr
theorem sc73 : FnScope ["desk", "call", "seats"] ["desk", "call"] (defScope (top 73)) := ⟨rfl, rfl, rfl, by decide +kernel, rfl, by decide +kernel, by decide +kernel⟩
theorem ok_aSeats (T : Txt K mg c) (I1 : IntAt mg "BAD_VALUE" (-1)) (hm : Pm ≠ Pr) (hl0 : Pl ≠ Pr) (D : DefAt K mg "answer_seats" (top 73) ["desk", "call"]) (Cs : Callee P w K mg base "takes_seats" 1 ["poll", "seats"] (spPN c fun p a => .bl (decide (1 ≤ a ∧ a ≤ p.size)))) (Ct : Callee P w K mg base "take_turns" 13 ["poll", "seats"] (spTurns c Pm Pl)) (Cf : Callee P w K mg base "find_seated" 1 ["turns"] (spPicked c fun b => b)) (Cw : Callee P w K mg base "with_list" 1 ["first", "numbers"] (spWith K)) :
  Callee P w K mg base "answer_seats" 17 ["desk", "call"] (spAns c Pr Pm Pl 11) := by
 refine D.ok sc73 (fun vs H Q E h => ?_) fun f cdv A outer s H vs Q E hr h => ?_
 ·obtain ⟨x, y, s, z, ws, row, rfl, _⟩ := h
  rfl
 ·obtain ⟨x, y, st, z, ws, row, rfl, h, hs, k⟩ := h
  obtain ⟨dy, fy, wa, ra, y1, y2, y3, y4, y5, y6⟩ := h.ca
  obtain ⟨n, rfl⟩ := one_of h.wl
  obtain ⟨dx, fs, x1, x2, x3, x4⟩ := h.dk.ex
  obtain ⟨p', rfl⟩ := Option.ne_none_iff_exists'.mp (hs (by decide))
  obtain ⟨p, l, q1, hp, q3⟩ := x4 p' rfl
  have wf := h.wf p' rfl
  refine ⟨_, pss_cons (ps_set (i := 2) sc73.nd rfl (Or.inl rfl) (pe_ix ix_list (pe_fld (pv 1) rfl) pe_int (fun _ _ => rfl)))
   (pss_cons (ps_if (pt_not (pt_tru (pe_fn Cs (hr.mono (by decide)) (pa_cons (pe_fld (pv 0) rfl) (pa_cons (pv 2) pa_nil))))) (pss_one (ps_ret (pe_lst (pa_cons (pe_cst I1) pa_nil)))) pss_nil)
   (pss_one (ps_ret (pe_fn Cw (hr.mono (by decide)) (pa_cons (pv 2) (pa_cons (pe_fn Cf (hr.mono (by decide)) (pa_cons (pe_fn Ct (hr.mono (by decide)) (pa_cons (pe_fld (pv 0) rfl) (pa_cons (pv 2) pa_nil))) pa_nil)) pa_nil)))))), ?_⟩
  refine ⟨_, rfl, y, c.call, dy, fy, _, rfl, y1, T.call.cl, T.call.no _ (by decide +kernel), y3, wa, _, _, _, rfl, rfl, y4.sq, atI_nat (j := 0) (v := natV n) rfl, ?_⟩
  refine ⟨_, rfl, x, c.desk, dx, fs, _, rfl, x1, T.desk.cl, T.desk.no _ (by decide +kernel), q1, _, rfl, p, p', n, rfl, ⟨l, hp⟩, _, rfl, ?_⟩
  have stp : PollNs.step (some p') (cl 11 [n] row) = (some p', if n = 0 ∨ p'.size < n then says (-1) else PollNs.lists (p'.count n).1.seated) := rfl
  by_cases hn : 1 ≤ n ∧ n ≤ p'.size
  ·rw [decide_eq_true hn]
   refine iteF ⟨_, rfl, _, rfl, x, c.desk, dx, fs, _, rfl, x1, T.desk.cl, T.desk.no _ (by decide +kernel), q1, _, rfl, p, p', n, rfl, ⟨l, hp⟩, wf, hn.1, hn.2, h.tb.m, h.tb.l, fun H1 t0 ys ts g Ty G hg B1 m1 l1 ht0 => ?_⟩
   have h8 := going_few G wf
   obtain ⟨tb1, fr1⟩ := turns_tabs hm hl0 h.tb B1 m1 l1
   refine ⟨t0, ys, ts, rfl, Ty, h8, fun H2 q s2 hq eq => ?_⟩
   have hfull := going_full G hg
   obtain ⟨gd1, gd2⟩ := G.done hg
   have hlen : (PollNs.«ints» ((ts.filter fun t => t.seat).map fun t => t.who)).length = n := by rw [ints_len, hfull]
   have hn8 := wf.hi
   refine ⟨_, q, PollNs.«ints» ((ts.filter fun t => t.seat).map fun t => t.who), rfl, .inl (SqL.of (by rw [eq, natV_int])), by omega, fun H3 r s3 hr3 hl => k H3 r ?_⟩
   refine AnsD.tell h ?_ (Buts.trans (B1.wide (by simp)) (Same.buts (s2.trans s3))) (tb1.mono (s2.trans s3)) (fr1 r (s2.free hr3)) hl (by omega)
   rw [stp, if_neg (by omega), gd2]
   show (some p', (⟨((((ts.filter fun t => t.seat).map fun t => t.who).length : Nat) : Int), [PollNs.«ints» ((ts.filter fun t => t.seat).map fun t => t.who)]⟩ : Answer)) = _
   rw [hfull]
  ·rw [decide_eq_false hn]
   exact iteT ⟨(by show 1 ≤ sizeLine; decide), fun r hr1 => k _ r (AnsD.say h (by rw [stp, if_pos (by omega)]) (Same.refl _) hr1)⟩
theorem sc74 : FnScope ["desk", "call", "seats", "turns"] ["desk", "call"] (defScope (top 74)) := ⟨rfl, rfl, rfl, by decide +kernel, rfl, by decide +kernel, by decide +kernel⟩
theorem ok_aTurns (T : Txt K mg c) (I1 : IntAt mg "BAD_VALUE" (-1)) (hm : Pm ≠ Pr) (hl0 : Pl ≠ Pr) (D : DefAt K mg "answer_turns" (top 74) ["desk", "call"]) (Cs : Callee P w K mg base "takes_seats" 1 ["poll", "seats"] (spPN c fun p a => .bl (decide (1 ≤ a ∧ a ≤ p.size)))) (Ct : Callee P w K mg base "take_turns" 13 ["poll", "seats"] (spTurns c Pm Pl)) (Cd : Callee P w K mg base "describe_turns" 3 ["turns"] (spDesc c)) (Cw : Callee P w K mg base "with_list" 1 ["first", "numbers"] (spWith K)) :
  Callee P w K mg base "answer_turns" 17 ["desk", "call"] (spAns c Pr Pm Pl 12) := by
 refine D.ok sc74 (fun vs H Q E h => ?_) fun f cdv A outer s H vs Q E hr h => ?_
 ·obtain ⟨x, y, s, z, ws, row, rfl, _⟩ := h
  rfl
 ·obtain ⟨x, y, st, z, ws, row, rfl, h, hs, k⟩ := h
  obtain ⟨dy, fy, wa, ra, y1, y2, y3, y4, y5, y6⟩ := h.ca
  obtain ⟨n, rfl⟩ := one_of h.wl
  obtain ⟨dx, fs, x1, x2, x3, x4⟩ := h.dk.ex
  obtain ⟨p', rfl⟩ := Option.ne_none_iff_exists'.mp (hs (by decide))
  obtain ⟨p, l, q1, hp, q3⟩ := x4 p' rfl
  have wf := h.wf p' rfl
  refine ⟨_, pss_cons (ps_set (i := 2) sc74.nd rfl (Or.inl rfl) (pe_ix ix_list (pe_fld (pv 1) rfl) pe_int (fun _ _ => rfl)))
   (pss_cons (ps_if (pt_not (pt_tru (pe_fn Cs (hr.mono (by decide)) (pa_cons (pe_fld (pv 0) rfl) (pa_cons (pv 2) pa_nil))))) (pss_one (ps_ret (pe_lst (pa_cons (pe_cst I1) pa_nil)))) pss_nil)
   (pss_cons (ps_set (i := 3) sc74.nd rfl (Or.inl rfl) (pe_fn Ct (hr.mono (by decide)) (pa_cons (pe_fld (pv 0) rfl) (pa_cons (pv 2) pa_nil))))
   (pss_one (ps_ret (pe_fn Cw (hr.mono (by decide)) (pa_cons (pe_callB call_len_seq rfl T.len PySem.boot_len (pa_cons (pv 3) pa_nil)) (pa_cons (pe_fn Cd (hr.mono (by decide)) (pa_cons (pv 3) pa_nil)) pa_nil))))))), ?_⟩
  refine ⟨_, rfl, y, c.call, dy, fy, _, rfl, y1, T.call.cl, T.call.no _ (by decide +kernel), y3, wa, _, _, _, rfl, rfl, y4.sq, atI_nat (j := 0) (v := natV n) rfl, ?_⟩
  refine ⟨_, rfl, x, c.desk, dx, fs, _, rfl, x1, T.desk.cl, T.desk.no _ (by decide +kernel), q1, _, rfl, p, p', n, rfl, ⟨l, hp⟩, _, rfl, ?_⟩
  have stp : PollNs.step (some p') (cl 12 [n] row) = (some p', if n = 0 ∨ p'.size < n then says (-1) else ⟨((p'.count n).2.length : Nat), [(p'.count n).2.flatMap turnNums]⟩) := rfl
  by_cases hn : 1 ≤ n ∧ n ≤ p'.size
  ·rw [decide_eq_true hn]
   refine iteF ⟨_, rfl, x, c.desk, dx, fs, _, rfl, x1, T.desk.cl, T.desk.no _ (by decide +kernel), q1, _, rfl, p, p', n, rfl, ⟨l, hp⟩, wf, hn.1, hn.2, h.tb.m, h.tb.l, fun H1 t0 ys ts g Ty G hg B1 m1 l1 ht0 => ?_⟩
   have h8 := going_few G wf
   obtain ⟨tb1, fr1⟩ := turns_tabs hm hl0 h.tb B1 m1 l1
   obtain ⟨gd1, gd2⟩ := G.done hg
   refine ⟨_, rfl, t0, _, rfl, .inl (SqL.of Ty.lst), _, rfl, t0, ys, ts, rfl, Ty, h8, fun t ht => ⟨(G.ok t ht).1, (G.ok t ht).2.1⟩, fun H2 q s2 hq eq => ?_⟩
   have hlen : ((ts.map PM.TurnD.told).flatMap turnNums).length ≤ 32 := by
    have := flat_len ts
    rw [List.length_map] at this
    omega
   refine ⟨_, q, (ts.map PM.TurnD.told).flatMap turnNums, rfl, .inl (SqL.of eq), by omega, fun H3 r s3 hr3 hl => k H3 r ?_⟩
   refine AnsD.tell h ?_ (Buts.trans (B1.wide (by simp)) (Same.buts (s2.trans s3))) (tb1.mono (s2.trans s3)) (fr1 r (s2.free hr3)) hl (by omega)
   rw [stp, if_neg (by omega), gd1, List.length_map, List.length_map, Ty.len]
  ·rw [decide_eq_false hn]
   exact iteT ⟨(by show 1 ≤ sizeLine; decide), fun r hr1 => k _ r (AnsD.say h (by rw [stp, if_pos (by omega)]) (Same.refl _) hr1)⟩
theorem sc75 : FnScope ["desk", "call", "unseated"] ["desk", "call"] (defScope (top 75)) := ⟨rfl, rfl, rfl, by decide +kernel, rfl, by decide +kernel, by decide +kernel⟩
theorem ok_aRunoff (T : Txt K mg c) (hm : Pm ≠ Pr) (hl0 : Pl ≠ Pr) (D : DefAt K mg "answer_runoff" (top 75) ["desk", "call"]) (Ct : Callee P w K mg base "take_turns" 13 ["poll", "seats"] (spTurns c Pm Pl)) (Cf : Callee P w K mg base "find_unseated" 1 ["turns"] (spPicked c fun b => !b)) (Cw : Callee P w K mg base "with_list" 1 ["first", "numbers"] (spWith K)) :
  Callee P w K mg base "answer_runoff" 17 ["desk", "call"] (spAns c Pr Pm Pl 13) := by
 refine D.ok sc75 (fun vs H Q E h => ?_) fun f cdv A outer s H vs Q E hr h => ?_
 ·obtain ⟨x, y, s, z, ws, row, rfl, _⟩ := h
  rfl
 ·obtain ⟨x, y, st, z, ws, row, rfl, h, hs, k⟩ := h
  obtain ⟨dx, fs, x1, x2, x3, x4⟩ := h.dk.ex
  obtain ⟨p', rfl⟩ := Option.ne_none_iff_exists'.mp (hs (by decide))
  obtain ⟨p, l, q1, hp, q3⟩ := x4 p' rfl
  have wf := h.wf p' rfl
  have hlo := wf.lo
  refine ⟨_, pss_cons (ps_set (i := 2) sc75.nd rfl (Or.inl rfl) (pe_fn Cf (hr.mono (by decide)) (pa_cons (pe_fn Ct (hr.mono (by decide)) (pa_cons (pe_fld (pv 0) rfl) (pa_cons pe_int pa_nil))) pa_nil)))
   (pss_one (ps_ret (pe_fn Cw (hr.mono (by decide)) (pa_cons (pe_callB call_len_seq rfl T.len PySem.boot_len (pa_cons (pv 2) pa_nil)) (pa_cons (pv 2) pa_nil))))), ?_⟩
  refine ⟨_, rfl, x, c.desk, dx, fs, _, rfl, x1, T.desk.cl, T.desk.no _ (by decide +kernel), q1, p, p', 1, rfl, ⟨l, hp⟩, wf, Nat.le_refl _, by omega, h.tb.m, h.tb.l, fun H1 t0 ys ts g Ty G hg B1 m1 l1 ht0 => ?_⟩
  have h8 := going_few G wf
  obtain ⟨tb1, fr1⟩ := turns_tabs hm hl0 h.tb B1 m1 l1
  obtain ⟨gd1, gd2⟩ := G.done hg
  refine ⟨t0, ys, ts, rfl, Ty, h8, fun H2 q s2 hq eq => ?_⟩
  have hfl := List.length_filter_le (fun t : PM.TurnD => !t.seat) ts
  have hlen : (PollNs.«ints» ((ts.filter fun t => !t.seat).map fun t => t.who)).length ≤ 8 := by
   rw [ints_len, List.length_map]
   omega
  refine ⟨_, rfl, q, _, rfl, .inl (SqL.of eq), _, rfl, _, q, PollNs.«ints» ((ts.filter fun t => !t.seat).map fun t => t.who), rfl, .inl (SqL.of (by rw [eq, natV_int])), by omega, fun H3 r s3 hr3 hl => k H3 r ?_⟩
  refine AnsD.tell h ?_ (Buts.trans (B1.wide (by simp)) (Same.buts (s2.trans s3))) (tb1.mono (s2.trans s3)) (fr1 r (s2.free hr3)) hl (by omega)
  have e1 : ((p'.count 1).2.filter fun (t : Turn) => !t.seat).map (fun (t : Turn) => t.who) = (ts.filter fun t => !t.seat).map fun t => t.who := by
   rw [gd1, List.filter_map, List.map_map]
   rfl
  show (some p', PollNs.lists (((p'.count 1).2.filter fun (t : Turn) => !t.seat).map fun (t : Turn) => t.who)) = _
  rw [e1]
  show (some p', (⟨((((ts.filter fun t => !t.seat).map fun t => t.who).length : Nat) : Int), [PollNs.«ints» ((ts.filter fun t => !t.seat).map fun t => t.who)]⟩ : Answer)) = _
  rw [List.length_map (as := (ts.filter fun t => !t.seat).map fun t => t.who)]
theorem sc76 : FnScope ["desk", "call", "poll"] ["desk", "call"] (defScope (top 76)) := ⟨rfl, rfl, rfl, by decide +kernel, rfl, by decide +kernel, by decide +kernel⟩
theorem ok_aCount (T : Txt K mg c) (D : DefAt K mg "answer_count" (top 76) ["desk", "call"]) (Cv : Callee P w K mg base "count_voters" 1 ["poll"] (spVoters c)) (Cw : Callee P w K mg base "with_list" 1 ["first", "numbers"] (spWith K)) :
  Callee P w K mg base "answer_count" 17 ["desk", "call"] (spAns c Pr Pm Pl 14) := by
 refine D.ok sc76 (fun vs H Q E h => ?_) fun f cdv A outer s H vs Q E hr h => ?_
 ·obtain ⟨x, y, s, z, ws, row, rfl, _⟩ := h
  rfl
 ·obtain ⟨x, y, st, z, ws, row, rfl, h, hs, k⟩ := h
  obtain ⟨dx, fs, x1, x2, x3, x4⟩ := h.dk.ex
  obtain ⟨p', rfl⟩ := Option.ne_none_iff_exists'.mp (hs (by decide))
  obtain ⟨p, l, q1, hp, q3⟩ := x4 p' rfl
  have wf := h.wf p' rfl
  obtain ⟨dp, fp, as, p1, p2, p3, p4, p5⟩ := id hp
  refine ⟨_, pss_cons (ps_set (i := 2) sc76.nd rfl (Or.inl rfl) (pe_fld (pv 0) rfl))
   (pss_one (ps_ret (pe_fn Cw (hr.mono (by decide)) (pa_cons (pe_fld (pv 2) rfl) (pa_cons (pe_lst (pa_cons (pe_callB call_len_seq rfl T.len PySem.boot_len (pa_cons (pe_fld (pv 2) rfl) pa_nil)) (pa_cons (pe_fn Cv (hr.mono (by decide)) (pa_cons (pv 2) pa_nil)) pa_nil))) pa_nil))))), ?_⟩
  refine ⟨_, rfl, x, c.desk, dx, fs, _, rfl, x1, T.desk.cl, T.desk.no _ (by decide +kernel), q1, ?_⟩
  refine ⟨_, rfl, p, c.poll, dp, fp, _, rfl, p1, T.poll.cl, T.poll.no _ (by decide +kernel), p2, _, rfl, p, c.poll, dp, fp, _, rfl, p1, T.poll.cl, T.poll.no _ (by decide +kernel), p3, l, _, rfl, .inl (SqL.of p4), _, rfl, p, p', rfl, ⟨l, hp⟩, wf, fun H1 s1 => ⟨(by show 2 ≤ sizeLine; decide), fun q hq => ?_⟩⟩
  have s2 : Same H1 (upd H1 q (.lst [.int ((as.map V.ref).length : Nat), natV p'.voters])) := same_new (Same.refl _) hq
  have s12 := s1.trans s2
  refine ⟨_, q, PollNs.«ints» [p'.ballots.length, p'.voters], rfl, .inl (SqL.of ?_), (by show 2 ≤ 900; decide), fun H3 r s3 hr3 hl => k H3 r ?_⟩
  ·rw [upd_same, List.length_map, p5.len]
   rfl
  ·exact AnsD.tell h rfl (Same.buts (s12.trans s3)) (h.tb.mono (s12.trans s3)) (s12.free hr3) hl (by show 2 ≤ 900; decide)
end
theorem shape_nat (n : Nat) : PyWrpoll.shape (n : Int) = if n < 15 then some (wN n, if n = 1 then 1 else 0) else none := by
 by_cases h : n < 15
 ·rw [if_pos h]
  have : n = 0 ∨ n = 1 ∨ n = 2 ∨ n = 3 ∨ n = 4 ∨ n = 5 ∨ n = 6 ∨ n = 7 ∨ n = 8 ∨ n = 9 ∨ n = 10 ∨ n = 11 ∨ n = 12 ∨ n = 13 ∨ n = 14 := by omega
  rcases this with q | q | q | q | q | q | q | q | q | q | q | q | q | q | q <;> (subst q; decide)
 ·rw [if_neg h]
  unfold PyWrpoll.shape
  rw [if_neg (by omega), if_neg (by omega), if_neg (by omega), if_neg (by omega), if_neg (by omega), if_neg (by omega), if_neg (by omega), if_neg (by omega), if_neg (by omega), if_neg (by omega), if_neg (by omega), if_neg (by omega), if_neg (by omega), if_neg (by omega), if_neg (by omega)]
def nI (l : List Nat) : List Int := l.map fun (n : Nat) => (n : Int)
theorem nn1 (a : Nat) : PollNeutral.whole [(a : Int)] = true := by simp [PollNeutral.whole]
theorem nn2 (a b : Nat) : PollNeutral.whole [(a : Int), (b : Int)] = true := by simp [PollNeutral.whole]
theorem nnl (l : List Nat) : PollNeutral.whole (nI l) = true := by simp [PollNeutral.whole, nI]
theorem nats_nI (l : List Nat) : PollNeutral.nats (nI l) = l := by
 unfold PollNeutral.nats nI
 rw [List.map_map]
 exact (List.map_congr_left fun x _ => Int.toNat_natCast x).trans (List.map_id l)
theorem callOf_cl {k : Nat} {ws row : List Nat} (hk : k < 15) (hw : ws.length = wN k) : PollNeutral.callOf (PyWrpoll.whole (((k : Int) :: nI ws) :: (if k = 1 then [nI row] else []))) = some (cl k ws row) := by
 have : k = 0 ∨ k = 1 ∨ k = 2 ∨ k = 3 ∨ k = 4 ∨ k = 5 ∨ k = 6 ∨ k = 7 ∨ k = 8 ∨ k = 9 ∨ k = 10 ∨ k = 11 ∨ k = 12 ∨ k = 13 ∨ k = 14 := by omega
 rcases this with q | q | q | q | q | q | q | q | q | q | q | q | q | q | q <;> subst q
 ·obtain ⟨a, rfl⟩ := one_of hw
  show (if PollNeutral.whole [(a : Int)] = true then some (PollNs.Call.begin_ (a : Int).toNat) else none) = _
  rw [if_pos (nn1 a), Int.toNat_natCast]
  rfl
 ·obtain ⟨a, rfl⟩ := one_of hw
  show (if (PollNeutral.whole [(a : Int)] && PollNeutral.whole (nI row)) = true then some (PollNs.Call.vote (a : Int).toNat (PollNeutral.nats (nI row))) else none) = _
  rw [nn1, nnl, if_pos (by decide), Int.toNat_natCast, nats_nI]
  rfl
 ·obtain ⟨a, rfl⟩ := one_of hw
  show (if PollNeutral.whole [(a : Int)] = true then some (PollNs.Call.drop (a : Int).toNat) else none) = _
  rw [if_pos (nn1 a), Int.toNat_natCast]
  rfl
 ·obtain ⟨a, rfl⟩ := one_of hw
  show (if PollNeutral.whole [(a : Int)] = true then some (PollNs.Call.ballot (a : Int).toNat) else none) = _
  rw [if_pos (nn1 a), Int.toNat_natCast]
  rfl
 ·rw [List.length_eq_zero_iff.mp hw]
  rfl
 ·obtain ⟨a, b, rfl⟩ := two_of hw
  show (if PollNeutral.whole [(a : Int), (b : Int)] = true then some (PollNs.Call.pair (a : Int).toNat (b : Int).toNat) else none) = _
  rw [if_pos (nn2 a b), Int.toNat_natCast, Int.toNat_natCast]
  rfl
 ·rw [List.length_eq_zero_iff.mp hw]
  rfl
 ·rw [List.length_eq_zero_iff.mp hw]
  rfl
 ·obtain ⟨a, b, rfl⟩ := two_of hw
  show (if PollNeutral.whole [(a : Int), (b : Int)] = true then some (PollNs.Call.path (a : Int).toNat (b : Int).toNat) else none) = _
  rw [if_pos (nn2 a b), Int.toNat_natCast, Int.toNat_natCast]
  rfl
 ·rw [List.length_eq_zero_iff.mp hw]
  rfl
 ·rw [List.length_eq_zero_iff.mp hw]
  rfl
 ·obtain ⟨a, rfl⟩ := one_of hw
  show (if PollNeutral.whole [(a : Int)] = true then some (PollNs.Call.seats (a : Int).toNat) else none) = _
  rw [if_pos (nn1 a), Int.toNat_natCast]
  rfl
 ·obtain ⟨a, rfl⟩ := one_of hw
  show (if PollNeutral.whole [(a : Int)] = true then some (PollNs.Call.turns (a : Int).toNat) else none) = _
  rw [if_pos (nn1 a), Int.toNat_natCast]
  rfl
 ·rw [List.length_eq_zero_iff.mp hw]
  rfl
 ·rw [List.length_eq_zero_iff.mp hw]
  rfl
theorem nI_drop (l : List Nat) (i : Nat) : (nI l).drop i = nI (l.drop i) := by unfold nI; rw [List.map_drop]
theorem nI_take (l : List Nat) (i : Nat) : (nI l).take i = nI (l.take i) := by unfold nI; rw [List.map_take]
theorem nI_len (l : List Nat) : (nI l).length = l.length := by unfold nI; rw [List.length_map]
theorem parse {ns : List Nat} {i : Nat} {cc : List (List Int)} {t : List Int} (h : PyFlat.call PyWrpoll.shape (nI (ns.drop i)) = some (cc, t)) (hb : ∀ v ∈ ns, v < 2 ^ 63) :
  ∃ k ws row j, Took ns i k ws row j ∧ ws.length = wN k ∧ t = nI (ns.drop j) ∧ i < j ∧ j ≤ ns.length ∧ PollNeutral.callOf (PyWrpoll.whole cc) = some (cl k ws row) ∧ (k = 1 → row.length ≤ ns.length ∧ ∀ v ∈ row, v < 2 ^ 63) := by
 by_cases hi : i < ns.length
 ·rw [List.drop_eq_getElem_cons hi] at h
  have hk0 : ns[i]? = some ns[i] := List.getElem?_eq_getElem hi
  generalize ns[i] = k at h hk0
  have h' : (match PyWrpoll.shape (k : Int) with
   | none => none
   | some (n, m) => if (nI (ns.drop (i + 1))).length < n then none else match PyFlat.rows m ((nI (ns.drop (i + 1))).drop n) with
    | none => none
    | some (xs, t) => some (((k : Int) :: (nI (ns.drop (i + 1))).take n) :: xs, t)) = some (cc, t) := h
  rw [shape_nat] at h'
  by_cases hk : k < 15
  ·rw [if_pos hk] at h'
   have h2 : (if (nI (ns.drop (i + 1))).length < wN k then none else match PyFlat.rows (if k = 1 then 1 else 0) ((nI (ns.drop (i + 1))).drop (wN k)) with
    | none => none
    | some (xs, t) => some (((k : Int) :: (nI (ns.drop (i + 1))).take (wN k)) :: xs, t)) = some (cc, t) := h'
   by_cases hl : (nI (ns.drop (i + 1))).length < wN k
   ·rw [if_pos hl] at h2
    cases h2
   ·rw [if_neg hl] at h2
    rw [nI_len, List.length_drop] at hl
    have hwl : i + 1 + wN k ≤ ns.length := by omega
    have hws : ((ns.drop (i + 1)).take (wN k)).length = wN k := by
     rw [List.length_take, List.length_drop]
     omega
    rw [nI_drop, nI_take, List.drop_drop] at h2
    by_cases h1 : k = 1
    ·have hw1 : wN k = 1 := by rw [h1]; rfl
     rw [if_pos h1] at h2
     have h3 : (match PyFlat.row (nI (ns.drop (i + 1 + wN k))) with
      | none => none
      | some (x, s) => some (((k : Int) :: nI ((ns.drop (i + 1)).take (wN k))) :: [x], s)) = some (cc, t) := by
      rw [← h2]
      show _ = (match (match PyFlat.row (nI (ns.drop (i + 1 + wN k))) with
       | none => none
       | some (x, s) => match PyFlat.rows 0 s with
        | none => none
        | some (xs, t) => some (x :: xs, t)) with
       | none => none
       | some (xs, t) => some (((k : Int) :: nI ((ns.drop (i + 1)).take (wN k))) :: xs, t))
      cases PyFlat.row (nI (ns.drop (i + 1 + wN k))) with
      | none => rfl
      | some q => rfl
     rw [show i + 1 + wN k = i + 2 by omega] at h3
     by_cases hj : i + 2 < ns.length
     ·rw [List.drop_eq_getElem_cons hj] at h3
      have hn0 : ns[i + 2]? = some ns[i + 2] := List.getElem?_eq_getElem hj
      generalize ns[i + 2] = n at h3 hn0
      have h4 : (match (if 0 ≤ (n : Int) ∧ (n : Int).toNat ≤ (nI (ns.drop (i + 2 + 1))).length then some ((nI (ns.drop (i + 2 + 1))).take (n : Int).toNat, (nI (ns.drop (i + 2 + 1))).drop (n : Int).toNat) else none) with
       | none => none
       | some (x, s) => some (((k : Int) :: nI ((ns.drop (i + 1)).take (wN k))) :: [x], s)) = some (cc, t) := h3
      rw [Int.toNat_natCast, nI_len, List.length_drop] at h4
      by_cases hnl : n ≤ ns.length - (i + 2 + 1)
      ·rw [if_pos ⟨by omega, hnl⟩, nI_drop, nI_take, List.drop_drop] at h4
       have h5 : (((k : Int) :: nI ((ns.drop (i + 1)).take (wN k))) :: [nI ((ns.drop (i + 2 + 1)).take n)], nI (ns.drop (i + 2 + 1 + n))) = (cc, t) := Option.some.inj h4
       have e1 : (((k : Int) :: nI ((ns.drop (i + 1)).take (wN k))) :: [nI ((ns.drop (i + 2 + 1)).take n)]) = cc := congrArg Prod.fst h5
       have e2 := congrArg Prod.snd h5
       refine ⟨k, (ns.drop (i + 1)).take (wN k), (ns.drop (i + 3)).take n, i + 3 + n, ⟨hk0, hk, hwl, rfl, fun z => (z h1).elim, fun _ => ⟨n, hn0, by omega, rfl, rfl⟩⟩, hws, e2.symm, by omega, by omega, ?_, fun _ => ⟨?_, fun v hv => hb v (List.mem_of_mem_drop (List.mem_of_mem_take hv))⟩⟩
       ·rw [← e1, ← callOf_cl (row := (ns.drop (i + 3)).take n) hk hws, if_pos h1]
       ·rw [List.length_take, List.length_drop]
        omega
      ·rw [if_neg fun z => hnl z.2] at h4
       cases h4
     ·rw [List.drop_eq_nil_of_le (by omega)] at h3
      cases h3
    ·rw [if_neg h1] at h2
     have h5 : ((((k : Int) :: nI ((ns.drop (i + 1)).take (wN k))) :: ([] : List (List Int))), nI (ns.drop (i + 1 + wN k))) = (cc, t) := Option.some.inj h2
     have e1 : (((k : Int) :: nI ((ns.drop (i + 1)).take (wN k))) :: ([] : List (List Int))) = cc := congrArg Prod.fst h5
     have e2 := congrArg Prod.snd h5
     refine ⟨k, (ns.drop (i + 1)).take (wN k), [], i + 1 + wN k, ⟨hk0, hk, hwl, rfl, fun _ => rfl, fun z => (h1 z).elim⟩, hws, e2.symm, by omega, by omega, ?_, fun z => (h1 z).elim⟩
     rw [← e1, ← callOf_cl (row := []) hk hws, if_neg h1]
  ·rw [if_neg hk] at h'
   cases h'
 ·rw [List.drop_eq_nil_of_le (by omega)] at h
  cases h
def ansNames : List Str := ["answer_begin", "answer_vote", "answer_drop", "answer_ballot", "answer_firsts", "answer_pair", "answer_champion", "answer_top", "answer_path", "answer_ranked", "answer_unbeaten", "answer_seats", "answer_turns", "answer_runoff", "answer_count"]
def nm (k : Nat) : Str := ansNames.getD k ""
structure AnsAt (K : PySem.W.Frag) (mg : Str → Option Value) : Prop where
 ex : ∃ dA, mg "ANSWERS" = some (.ref dA) ∧ ∀ k : Nat, k < 15 → ∃ f, mg (nm k) = some (.ref f) ∧ KDict K dA (k : Int) (.ref f)
theorem step_none {k : Nat} {ws row : List Nat} (hk : k < 15) (h0 : k ≠ 0) (hw : ws.length = wN k) : PollNs.step none (cl k ws row) = (none, says (-9)) := by
 have : k = 1 ∨ k = 2 ∨ k = 3 ∨ k = 4 ∨ k = 5 ∨ k = 6 ∨ k = 7 ∨ k = 8 ∨ k = 9 ∨ k = 10 ∨ k = 11 ∨ k = 12 ∨ k = 13 ∨ k = 14 := by omega
 rcases this with q | q | q | q | q | q | q | q | q | q | q | q | q | q <;> subst q
 ·obtain ⟨a, rfl⟩ := one_of hw
  rfl
 ·obtain ⟨a, rfl⟩ := one_of hw
  rfl
 ·obtain ⟨a, rfl⟩ := one_of hw
  rfl
 ·rfl
 ·obtain ⟨a, b, rfl⟩ := two_of hw
  rfl
 ·rfl
 ·rfl
 ·obtain ⟨a, b, rfl⟩ := two_of hw
  rfl
 ·rfl
 ·rfl
 ·obtain ⟨a, rfl⟩ := one_of hw
  rfl
 ·obtain ⟨a, rfl⟩ := one_of hw
  rfl
 ·rfl
 ·rfl
section
variable {P : Program} {w : World} {K : PySem.W.Frag} {mg : Str → Option Value} {base : Heap} {c : Cs} {Pr Pm Pl : Addr}
def spAC (c : Cs) (Pr Pm Pl : Addr) : Sp := fun vs H Q _ => ∃ x y s z k ws row, vs = [.ref x, .ref y] ∧ k < 15 ∧ AnsH c Pr Pm Pl H x y s z k ws row ∧ ∀ H' r, AnsD c Pr Pm Pl H H' x r s z (cl k ws row) → Q (.ref r) H'
theorem sc78 : FnScope ["desk", "call"] ["desk", "call"] (defScope (top 78)) := ⟨rfl, rfl, rfl, by decide +kernel, rfl, by decide +kernel, by decide +kernel⟩
theorem ok_aCall (T : Txt K mg c) (I0 : IntAt mg "BEGIN" 0) (I9 : IntAt mg "NO_POLL" (-9)) (D : DefAt K mg "answer_call" (top 78) ["desk", "call"]) (AA : AnsAt K mg) (CA : ∀ k, k < 15 → Callee P w K mg base (nm k) 17 ["desk", "call"] (spAns c Pr Pm Pl k)) :
  Callee P w K mg base "answer_call" 19 ["desk", "call"] (spAC c Pr Pm Pl) := by
 obtain ⟨dA, hA, hK⟩ := AA.ex
 refine D.ok sc78 (fun vs H Q E h => ?_) fun f cdv A outer s H vs Q E hr h => ?_
 ·obtain ⟨x, y, s, z, k, ws, row, rfl, _⟩ := h
  rfl
 ·obtain ⟨x, y, st, z, kk, ws, row, rfl, hk, h, k⟩ := h
  obtain ⟨dy, fy, wa, ra, y1, y2, y3, y4, y5, y6⟩ := h.ca
  obtain ⟨dx, fs, x1, x2, x3, x4⟩ := h.dk.ex
  refine ⟨_, pss_cons (ps_if (pw_and (pt_cmpR op_isN (pe_fld (pv 0) rfl) pe_non (nomark _)) (pw_and1 (pt_cmpR op_ne (pe_fld (pv 1) rfl) (pe_cst I0) (nomark _)))).pt (pss_one (ps_ret (pe_lst (pa_cons (pe_cst I9) pa_nil)))) pss_nil)
   (pss_one (ps_ret (pe_callV (R := fun f sp => ∃ k, k < 15 ∧ mg (nm k) = some (.ref f) ∧ sp = spAns c Pr Pm Pl k) (fun f sp ⟨k, hk, hm, he⟩ => ?_) pass0 (pe_kget (pe_gref hA) (pe_fld (pv 1) rfl) (fun _ _ => rfl)) (pa_cons (pv 0) (pa_cons (pv 1) pa_nil))))), ?_⟩
  ·obtain ⟨f', fd, F, m, kp, b⟩ := (CA k hk).ex
   rw [m] at hm
   cases hm
   rw [he]
   exact ⟨17, fd, _, F, hr.mono (by decide), kp, b⟩
  have go : (kk ≠ 0 → st ≠ none) → ∃ d k' v u, V.ref dA = .ref d ∧ natV kk = .int k' ∧ KDict K d k' u ∧ RelV v u ∧ ∃ f sp, v = .ref f ∧ (∃ k, k < 15 ∧ mg (nm k) = some (.ref f) ∧ sp = spAns c Pr Pm Pl k) ∧ sp [.ref x, .ref y] H Q E0 := fun hs => by
   obtain ⟨fa, m1, m2⟩ := hK kk hk
   exact ⟨dA, kk, .ref fa, .ref fa, rfl, rfl, m2, rfl, fa, _, rfl, ⟨kk, hk, m1, rfl⟩, x, y, st, z, ws, row, rfl, h, hs, k⟩
  cases hst : st with
  | none =>
   refine ⟨_, rfl, x, c.desk, dx, fs, _, rfl, x1, T.desk.cl, T.desk.no _ (by decide +kernel), x3 hst, rfl, _, rfl, ?_⟩
   refine iteT ⟨_, rfl, y, c.call, dy, fy, _, rfl, y1, T.call.cl, T.call.no _ (by decide +kernel), y2, rfl, _, rfl, ?_⟩
   by_cases h0 : kk = 0
   ·rw [show decide (natV kk = V.int 0) = true by rw [h0]; rfl]
    obtain ⟨d, k', v, u, g1, g2, g3, g4, fa, sp, g5, g6, g7⟩ := go fun z => (z h0).elim
    cases g1
    cases g2
    exact iteF ⟨_, rfl, y, c.call, dy, fy, _, rfl, y1, T.call.cl, T.call.no _ (by decide +kernel), y2, dA, _, v, u, rfl, rfl, g3, g4, fa, sp, g5, g6, _, rfl, _, rfl, g7⟩
   ·rw [show decide (natV kk = V.int 0) = false from decide_eq_false fun z => h0 (by have := V.int.inj z; omega)]
    have e := step_none (row := row) hk h0 h.wl
    rw [← hst] at e
    refine iteT ⟨(by show 1 ≤ sizeLine; decide), fun r hr1 => k _ r (AnsD.same h (by rw [e]) (ans := [-9]) (by show PollNeutral.shown _ = _; rw [e]; rfl) (same_new (Same.refl _) hr1) hr1 (by rw [upd_same]; rfl) (by show 1 ≤ 1000; decide))⟩
  | some p' =>
   obtain ⟨p, l, q1, hp, q3⟩ := x4 p' hst
   refine ⟨_, rfl, x, c.desk, dx, fs, _, rfl, x1, T.desk.cl, T.desk.no _ (by decide +kernel), q1, rfl, _, rfl, ?_⟩
   obtain ⟨d, k', v, u, g1, g2, g3, g4, fa, sp, g5, g6, g7⟩ := go fun _ z => by rw [hst] at z; cases z
   cases g1
   cases g2
   exact iteF (iteF ⟨_, rfl, y, c.call, dy, fy, _, rfl, y1, T.call.cl, T.call.no _ (by decide +kernel), y2, dA, _, v, u, rfl, rfl, g3, g4, fa, sp, g5, g6, _, rfl, _, rfl, g7⟩)
end
abbrev due (s : State) (cs : List (List (List Int))) : List Int := PyFlat.told (PyFlat.played PollNeutral.step s (cs.map PyWrpoll.whole))
theorem due_cons {s : State} {c : List (List Int)} {cs : List (List (List Int))} {a : PollNs.Call} (h : PollNeutral.callOf (PyWrpoll.whole c) = some a) : due s (c :: cs) = (((told s a).length : Int) :: told s a) ++ due (PollNs.step s a).1 cs := by
 have e : PollNeutral.step s (PyWrpoll.whole c) = ((PollNs.step s a).1, told s a) := by
  unfold PollNeutral.step
  rw [h]
  rfl
 show (((PollNeutral.step s (PyWrpoll.whole c)).2.length : Int) :: (PollNeutral.step s (PyWrpoll.whole c)).2) ++ PyFlat.told (PyFlat.played PollNeutral.step (PollNeutral.step s (PyWrpoll.whole c)).1 (cs.map PyWrpoll.whole)) = _
 rw [e]
section
variable {P : Program} {w : World} {K : PySem.W.Frag} {mg : Str → Option Value} {base : Heap} {c : Cs} {Pr Pm Pl : Addr}
def spMain (Pr Pm Pl : Addr) : Sp := fun vs H Q _ => ∃ (a : Addr) (ns : List Nat) (f : Nat) (cs : List (List (List Int))), vs = [.ref a] ∧ FrzL H a (ns.map natV) ∧ ns.length ≤ 16000 ∧ (∀ v ∈ ns, v < 2 ^ 63) ∧ PyFlat.calls PyWrpoll.shape f (nI ns) = some cs ∧ cs.length ≤ 100 ∧ Tabs H Pr Pm Pl ∧
 ∀ H' r, H' r = some (.lst ((due none cs).map V.int)) → Q (.ref r) H'
theorem sc79 : FnScope ["calls", "desk", "reader", "told", "answer"] ["calls"] (defScope (top 79)) := ⟨rfl, rfl, rfl, by decide +kernel, rfl, by decide +kernel, by decide +kernel⟩
theorem ok_main {fa : Addr} {fd : FuncData} (T : Txt K mg c) (Df : Dif c) (D : Fun K "answers" "answers" (top 79) fa fd) (MD : Maker P w K mg base "Desk" c.desk 1 ["self"] (spDeskI c)) (MR : Maker P w K mg base "Reader" c.reader 1 ["self", "numbers"] (spReadI c)) (Mm : Method P w K mg base c.reader "has_more" 1 ["self"] (spMore c)) (Mt : Method P w K mg base c.reader "take_call" 3 ["self"] (spTC c))
  (Ca : Callee P w K mg base "answer_call" 19 ["desk", "call"] (spAC c Pr Pm Pl)) : FnOk P w K mg base CX0 21 fa fd ["calls"] (spMain Pr Pm Pl) := by
 refine D.ok sc79 (fun vs H Q E h => ?_) fun cdv A outer s H vs Q E hr h => ?_
 ·obtain ⟨a, ns, f, cs, rfl, _⟩ := h
  rfl
 ·obtain ⟨a, ns, fuel, cs, rfl, hn, hlen, hb, hc, h100, tb, k⟩ := h
  refine ⟨_, pss_cons (ps_set (i := 1) sc79.nd rfl (Or.inl rfl) (pe_mk0 MD (hr.mono (by decide))))
   (pss_cons (ps_set (i := 2) sc79.nd rfl (Or.inl rfl) (pe_mk MR (hr.mono (by decide)) (pa_cons (pv 0) pa_nil)))
   (pss_cons (ps_set (i := 3) sc79.nd rfl (Or.inl rfl) (pe_lst pa_nil))
   (pss_cons (ps_while PassesOwn.never (pt_tru (pe_mt0 Mm T.reader.cl (pv 2) (hr.mono (by decide))))
    (pss_cons (ps_set (i := 4) sc79.nd rfl (Or.inl rfl) (pe_fn Ca (hr.mono (by decide)) (pa_cons (pv 1) (pa_cons (pe_mt0 Mt T.reader.cl (pv 2) (hr.mono (by decide))) pa_nil))))
    (pss_cons (ps_expr (pe_bm PySem.F.plainAttrs_list PySem.F.slot_list_append PySem.F.type_list_append mt_append (pv 3) (pa_cons (pe_callB call_len_seq rfl T.len PySem.boot_len (pa_cons (pv 4) pa_nil)) pa_nil)))
    (pss_one (ps_expr (pe_bm PySem.F.plainAttrs_list PySem.F.slot_list_extend PySem.F.type_list_extend mt_extend (pv 3) (pa_cons (pv 4) pa_nil)))))))
   (pss_one (ps_ret (pv 3)))))), ?_⟩
  refine fun x dx nx ndx hne => ⟨x, dx, rfl, upd_same, fun H1 hd k1 => ⟨rfl, ?_⟩⟩
  have s1 : Same H H1 := new_same nx ndx k1
  refine ⟨_, rfl, fun rd dr nrd ndr hne2 => ⟨rd, dr, a, rfl, upd_same, fun H2 hrd k2 => ⟨rfl, ?_⟩⟩⟩
  have s2 : Same H1 H2 := new_same nrd ndr k2
  refine ⟨(by show 0 ≤ sizeLine; decide), fun tl htl => ?_⟩
  have s3 : Same H2 (upd H2 tl (.lst [])) := same_new (Same.refl _) htl
  have s13 := (s1.trans s2).trans s3
  have rk : ∀ {Ha Hb : Hp} {i : Nat}, ReaderAt c Ha rd a i → (∀ d g, Ha rd = some (.ins c.reader d g) → Hb rd = some (.ins c.reader d g)) → ReaderAt c Hb rd a i := fun h q => by
   obtain ⟨d, g, z1, z2⟩ := h
   exact ⟨d, g, q _ _ z1, z2⟩
  have R0 : ReaderAt c (upd H2 tl (.lst [])) rd a 0 := rk hrd fun d g e => s3 _ _ e
  have rdx : rd ≠ x := fun q => by
   obtain ⟨⟨d, g, z1, _⟩⟩ := (hd 0)
   rw [q, z1] at nrd
   cases nrd
  refine ⟨fun m σ H' => ∃ (i : Nat) (st : State) (acc : List Int) (f2 : Nat) (cs2 : List (List (List Int))) (v : Option V), m = ns.length - i ∧ σ = [some (.ref a), some (.ref x), some (.ref rd), some (.ref tl), v] ∧ ReaderAt c H' rd a i ∧ FrzL H' a (ns.map natV) ∧ DeskAt c H' x st tl ∧ WFS st ∧ Tabs H' Pr Pm Pl ∧ H' tl = some (.lst (acc.map V.int)) ∧ i ≤ ns.length ∧
    PyFlat.calls PyWrpoll.shape f2 (nI (ns.drop i)) = some cs2 ∧ acc ++ due st cs2 = due none cs ∧ acc.length + 1001 * cs2.length ≤ 100100,
   ⟨_, 0, none, [], fuel, cs, none, rfl, rfl, R0, hn.mono s13, (hd tl).mono (s2.trans s3), (fun p' e => by cases e), tb.mono s13, upd_same, Nat.zero_le _, hc, rfl, by rw [List.length_nil]; omega⟩, ?_⟩
  rintro m σ H' ⟨i, st, acc, f2, cs2, v, rfl, rfl, hR, hN, hD, hW, hT, hL, hil, hcs, hdue, hsz⟩
  obtain ⟨dR, gR, r1, r2⟩ := id hR
  refine ⟨_, rfl, rd, dR, gR, rfl, r1, r2.m1, rd, a, i, ns, rfl, hR, hN, _, rfl, ?_⟩
  by_cases hi : i < ns.length
  ·rw [decide_eq_true hi]
   have hne' : nI (ns.drop i) = (ns[i] : Int) :: nI (ns.drop (i + 1)) := by rw [List.drop_eq_getElem_cons hi]; rfl
   obtain ⟨f3, cc, t, cs3, e1, e2, e3, e4⟩ : ∃ f3 cc t cs3, f2 = f3 + 1 ∧ PyFlat.call PyWrpoll.shape (nI (ns.drop i)) = some (cc, t) ∧ PyFlat.calls PyWrpoll.shape f3 t = some cs3 ∧ cs2 = cc :: cs3 := by
    rw [hne'] at hcs ⊢
    match f2, hcs with
    | 0, h => cases h
    | f3 + 1, h =>
     have h' : (match PyFlat.call PyWrpoll.shape ((ns[i] : Int) :: nI (ns.drop (i + 1))) with
      | none => none
      | some (c, t) => match PyFlat.calls PyWrpoll.shape f3 t with
       | none => none
       | some cs => some (c :: cs)) = some cs2 := h
     cases h1 : PyFlat.call PyWrpoll.shape ((ns[i] : Int) :: nI (ns.drop (i + 1))) with
     | none => rw [h1] at h'; cases h'
     | some q =>
      obtain ⟨cc, t⟩ := q
      rw [h1] at h'
      have h'' : (match PyFlat.calls PyWrpoll.shape f3 t with
       | none => none
       | some cs => some (cc :: cs)) = some cs2 := h'
      cases h2 : PyFlat.calls PyWrpoll.shape f3 t with
      | none => rw [h2] at h''; cases h''
      | some cs3 =>
       rw [h2] at h''
       exact ⟨f3, cc, t, cs3, rfl, rfl, h2, (Option.some.inj h'').symm⟩
   obtain ⟨kk, ws, row, j, tk, hws, ht, hij, hjl, hcall, hrow⟩ := parse e2 hb
   subst e4 ht
   rw [due_cons hcall] at hdue
   rw [List.length_cons] at hsz
   refine iteT ⟨fun σ' H3 => ∃ (i2 : Nat) (st : State) (acc : List Int) (f2 : Nat) (cs2 : List (List (List Int))) (v : Option V), i < i2 ∧ σ' = [some (.ref a), some (.ref x), some (.ref rd), some (.ref tl), v] ∧ ReaderAt c H3 rd a i2 ∧ FrzL H3 a (ns.map natV) ∧ DeskAt c H3 x st tl ∧ WFS st ∧ Tabs H3 Pr Pm Pl ∧ H3 tl = some (.lst (acc.map V.int)) ∧ i2 ≤ ns.length ∧
    PyFlat.calls PyWrpoll.shape f2 (nI (ns.drop i2)) = some cs2 ∧ acc ++ due st cs2 = due none cs ∧ acc.length + 1001 * cs2.length ≤ 100100, ?_, ?_⟩
   ·rintro σ' H3 ⟨i2, st2, acc2, f4, cs4, v2, q1, q2⟩
    exact ⟨ns.length - i2, by omega, i2, st2, acc2, f4, cs4, v2, rfl, q2⟩
   ·refine ⟨_, rfl, _, rfl, rd, dR, gR, rfl, r1, r2.m3, rd, a, i, ns, kk, ws, row, j, rfl, hR, hN, tk, fun H3 y hR3 hC3 ny b3 => ?_⟩
    have rne : ∀ {b : Addr} {o : HO}, H' b = some o → (∀ d g, o ≠ .ins c.reader d g) → H3 b = some o := fun {b o} e q => b3 b o e fun z => by
     rw [z, r1] at e
     exact q _ _ (Option.some.inj e).symm
    have B3 : Buts [rd] H' H3 := But.buts b3 (List.mem_singleton_self _)
    have nB3 : NB c [rd] H' := nb1 r1 Df.rb
    have hN3 : FrzL H3 a (ns.map natV) := frz_buts hN B3 nB3
    have hL3 : H3 tl = some (.lst (acc.map V.int)) := rne hL fun _ _ z => by cases z
    have hT3 : Tabs H3 Pr Pm Pl := Tabs.buts hT B3 nB3 fun b hb' o eo ps q => by
     rw [List.mem_singleton.mp hb', r1] at eo
     rw [q] at eo
     cases eo
    have hD3 : DeskAt c H3 x st tl := by
     obtain ⟨dx', fs', z1, z2, z3, z4⟩ := hD.ex
     refine ⟨dx', fs', B3 _ _ z1 (by simp [Ne.symm rdx]), z2, z3, fun p' e => ?_⟩
     obtain ⟨p, l, w1, w2, w3⟩ := z4 p' e
     refine ⟨p, l, w1, w2.buts B3 nB3 ?_, w3⟩
     obtain ⟨_, _, _, _, _, _, u4, _⟩ := w2
     intro z
     rw [List.mem_singleton.mp z, r1] at u4
     cases u4
    refine ⟨x, y, st, tl, kk, ws, row, rfl, tk.wide, ⟨hD3, ⟨_, hL3⟩, hW, hC3, hws, fun z => ⟨by have := (hrow z).1; omega, (hrow z).2⟩, hT3⟩, fun H4 r D4 => ?_⟩
    have hL4 : H4 tl = some (.lst (acc.map V.int)) := D4.kp _ _ hL3 (.inl rfl)
    have rtl : r ≠ tl := fun q => by
     have := D4.fr
     rw [q, hL3] at this
     cases this
    have hR4 : ReaderAt c H4 rd a j := rk hR3 fun d g e => D4.kp _ _ e (.inr Df.rd)
    have hN4 : FrzL H4 a (ns.map natV) := by
     obtain ⟨o, e, tt⟩ := hN3
     exact ⟨o, D4.kp _ _ e (.inr True.intro), tt⟩
    have few := D4.few
    have e10 : (acc.map V.int).length = acc.length := List.length_map _
    have e11 : ((told st (cl kk ws row)).map V.int).length = (told st (cl kk ws row)).length := List.length_map _
    refine ⟨_, rfl, .inl ⟨rfl, _, SqL.of hL4⟩, _, rfl, r, _, rfl, .inl (SqL.of D4.ls), tl, _, _, rfl, rfl, hL4, by rw [sizeLine_eq]; omega, ?_⟩
    have B5 : Buts [tl] H4 (upd H4 tl (.lst (acc.map V.int ++ [.int (((told st (cl kk ws row)).map V.int).length : Nat)]))) := Buts.put (List.mem_singleton_self _)
    refine ⟨_, rfl, .inl ⟨rfl, _, SqL.of upd_same⟩, _, rfl, tl, r, _, _, rfl, rfl, upd_same, by rw [upd_ne rtl]; exact D4.ls, ?_, ?_⟩
    ·rw [List.length_append, sizeLine_eq]
     show _ + 1 + _ ≤ _
     omega
    rw [upd_upd]
    have em : acc.map V.int ++ [V.int (((told st (cl kk ws row)).map V.int).length : Nat)] ++ (told st (cl kk ws row)).map V.int = (acc ++ (((told st (cl kk ws row)).length : Int) :: told st (cl kk ws row))).map V.int := by
     rw [List.map_append, List.map_cons, List.length_map, List.append_assoc]
     rfl
    rw [em]
    have B6 : Buts [tl] H4 (upd H4 tl (.lst ((acc ++ (((told st (cl kk ws row)).length : Int) :: told st (cl kk ws row))).map V.int))) := Buts.put (List.mem_singleton_self _)
    have nB6 : NB c [tl] H4 := nb1 hL4 True.intro
    refine ⟨j, (PollNs.step st (cl kk ws row)).1, acc ++ (((told st (cl kk ws row)).length : Int) :: told st (cl kk ws row)), f3, cs3, some (.ref r), hij, rfl, ?_, frz_buts hN4 B6 nB6, ?_, D4.wf, ?_, upd_same, hjl, e3, ?_, ?_⟩
    ·refine rk hR4 fun d g e => B6 _ _ e ?_
     intro z
     rw [List.mem_singleton.mp z, hL4] at e
     cases e
    ·obtain ⟨dx', fs', z1, z2, z3, z4⟩ := D4.dk.ex
     have xt : x ∉ [tl] := fun z => by
      rw [List.mem_singleton.mp z, hL4] at z1
      cases z1
     refine ⟨dx', fs', B6 _ _ z1 xt, z2, z3, fun p' e => ?_⟩
     obtain ⟨p, l, w1, w2, w3⟩ := z4 p' e
     exact ⟨p, l, w1, w2.buts B6 nB6 (by simp [w3]), w3⟩
    ·exact Tabs.buts D4.tb B6 nB6 fun b hb' o eo ps q => by
      rw [List.mem_singleton.mp hb', hL4] at eo
      rw [q] at eo
      cases eo
    ·rw [List.append_assoc]
     exact hdue
    ·rw [List.length_append, List.length_cons]
     omega
  ·rw [decide_eq_false hi]
   have hi2 : i = ns.length := by omega
   have hnil : nI (ns.drop i) = [] := by rw [hi2, List.drop_length]; rfl
   rw [hnil] at hcs
   have hcs2 : cs2 = [] := by
    cases f2 <;> exact (Option.some.inj hcs).symm
   rw [hcs2] at hdue
   have hd2 : acc = due none cs := by rw [← hdue]; exact (List.append_nil acc).symm
   exact iteF ⟨_, rfl, k H' tl (by rw [hL, hd2])⟩
end
structure Facts (K : PySem.W.Frag) (mg : Str → Option Value) (c : Cs) (cr cm cl : Addr) : Prop where
 T : Txt K mg c
 Df : Dif c
 d1 : DefAt K mg "count_voters" (top 1) ["poll"]
 d2 : DefAt K mg "count_firsts" (top 2) ["poll"]
 d3 : DefAt K mg "prefers" (top 3) ["order", "a", "b"]
 d4 : DefAt K mg "count_preferring" (top 4) ["poll", "a", "b"]
 d5 : DefAt K mg "beats" (top 5) ["poll", "a", "b"]
 d6 : DefAt K mg "beats_each_other_one" (top 6) ["poll", "a"]
 d7 : DefAt K mg "find_champion" (top 7) ["poll"]
 d8 : DefAt K mg "least_set_with" (top 8) ["poll", "candidate"]
 d9 : DefAt K mg "find_least_set" (top 9) ["poll"]
 d11 : DefAt K mg "find_step_strength" (top 11) ["poll", "a", "b"]
 d12 : DefAt K mg "find_step_strengths" (top 12) ["poll", "a"]
 d13 : DefAt K mg "find_strengths" (top 13) ["poll"]
 d14 : DefAt K mg "is_above" (top 14) ["strengths", "a", "b"]
 d15 : DefAt K mg "count_others_below" (top 15) ["strengths", "a"]
 d16 : DefAt K mg "is_unbeaten" (top 16) ["strengths", "a"]
 d17 : LamAt K mg "rank_candidates" (top 17) ["poll"] cr
 d18 : DefAt K mg "find_unbeaten" (top 18) ["poll"]
 i1 : IntAt mg "FEWEST_CANDIDATES" 2
 i2 : IntAt mg "MOST_CANDIDATES" 8
 i3 : IntAt mg "MOST_VOTERS" 1000000
 i4 : IntAt mg "MOST_BALLOTS" 64
 m24 : MakeAt K mg "Ballot" c.bal "Ballot.__init__" (inClass (top 24) 0) ["self", "voters", "order"]
 m25 : MakeAt K mg "Poll" c.poll "Poll.__init__" (inClass (top 25) 0) ["self", "candidates"]
 d26 : DefAt K mg "can_begin" (top 26) ["candidates"]
 d27 : DefAt K mg "has_candidate" (top 27) ["poll", "candidate"]
 d28 : DefAt K mg "has_both" (top 28) ["poll", "a", "b"]
 d29 : DefAt K mg "has_ballot" (top 29) ["poll", "place"]
 d30 : DefAt K mg "is_full" (top 30) ["poll"]
 d31 : DefAt K mg "takes_voters" (top 31) ["voters"]
 d32 : DefAt K mg "takes_order" (top 32) ["poll", "order"]
 d33 : DefAt K mg "takes_seats" (top 33) ["poll", "seats"]
 tw : TupAt K mg "WHOLES" (wholesL.map natV)
 i5 : IntAt mg "CALL_WITH_ROW" 1
 m37 : MakeAt K mg "Call" c.call "Call.__init__" (inClass (top 37) 0) ["self", "number", "wholes", "row"]
 m38 : MakeAt K mg "Reader" c.reader "Reader.__init__" (inClass (top 38) 0) ["self", "numbers"]
 e1 : MethAt K c.reader "has_more" "Reader.has_more" (inClass (top 38) 1) ["self"]
 e2 : MethAt K c.reader "take" "Reader.take" (inClass (top 38) 2) ["self", "length"]
 e3 : MethAt K c.reader "take_call" "Reader.take_call" (inClass (top 38) 3) ["self"]
 m40 : MakeAt K mg "Turn" c.turn "Turn.__init__" (inClass (top 40) 0) ["self", "candidate", "seated", "had", "parts"]
 m41 : MakeAt K mg "Seating" c.seating "Seating.__init__" (inClass (top 41) 0) ["self", "poll", "seats"]
 d42 : DefAt K mg "find_holder" (top 42) ["order", "inside"]
 d43 : DefAt K mg "count_held" (top 43) ["seating"]
 d44 : LamAt K mg "find_most" (top 44) ["held"] cm
 d45 : LamAt K mg "find_least" (top 45) ["held"] cl
 d46 : DefAt K mg "take_quota" (top 46) ["seating", "candidate", "had"]
 d47 : DefAt K mg "take_turn" (top 47) ["seating"]
 d48 : DefAt K mg "take_turns" (top 48) ["poll", "seats"]
 d49 : DefAt K mg "find_seated" (top 49) ["turns"]
 d50 : DefAt K mg "find_unseated" (top 50) ["turns"]
 d51 : DefAt K mg "bring_to_lowest_terms" (top 51) ["number", "divisor"]
 d52 : DefAt K mg "describe_turns" (top 52) ["turns"]
 j1 : IntAt mg "BAD_VALUE" (-1)
 j4 : IntAt mg "NOT_THERE" (-4)
 j5 : IntAt mg "NOBODY" (-5)
 j6 : IntAt mg "FULL" (-6)
 j9 : IntAt mg "NO_POLL" (-9)
 j0 : IntAt mg "BEGIN" 0
 m60 : MakeAt K mg "Desk" c.desk "Desk.__init__" (inClass (top 60) 0) ["self"]
 d61 : DefAt K mg "with_list" (top 61) ["first", "numbers"]
 d62 : DefAt K mg "answer_begin" (top 62) ["desk", "call"]
 d63 : DefAt K mg "answer_vote" (top 63) ["desk", "call"]
 d64 : DefAt K mg "answer_drop" (top 64) ["desk", "call"]
 d65 : DefAt K mg "answer_ballot" (top 65) ["desk", "call"]
 d66 : DefAt K mg "answer_firsts" (top 66) ["desk", "call"]
 d67 : DefAt K mg "answer_pair" (top 67) ["desk", "call"]
 d68 : DefAt K mg "answer_champion" (top 68) ["desk", "call"]
 d69 : DefAt K mg "answer_top" (top 69) ["desk", "call"]
 d70 : DefAt K mg "answer_path" (top 70) ["desk", "call"]
 d71 : DefAt K mg "answer_ranked" (top 71) ["desk", "call"]
 d72 : DefAt K mg "answer_unbeaten" (top 72) ["desk", "call"]
 d73 : DefAt K mg "answer_seats" (top 73) ["desk", "call"]
 d74 : DefAt K mg "answer_turns" (top 74) ["desk", "call"]
 d75 : DefAt K mg "answer_runoff" (top 75) ["desk", "call"]
 d76 : DefAt K mg "answer_count" (top 76) ["desk", "call"]
 aa : AnsAt K mg
 d78 : DefAt K mg "answer_call" (top 78) ["desk", "call"]
section
variable {P : Program} {w : World} {K : PySem.W.Frag} {mg : Str → Option Value} {base : Heap} {c : Cs} {cr cm cl Pr Pm Pl fa : Addr} {fd : FuncData}
theorem Facts.main (F : Facts K mg c cr cm cl) (D : Fun K "answers" "answers" (top 79) fa fd) (hB : Bm mg base) (h1 : PySem.W.CodeHd base cr Pr) (h2 : PySem.W.CodeHd base cm Pm) (h3 : PySem.W.CodeHd base cl Pl) (nml : Pm ≠ Pl) (nmr : Pm ≠ Pr) (nlr : Pl ≠ Pr) :
  FnOk P w K mg base CX0 21 fa fd ["calls"] (spMain Pr Pm Pl) := by
 have T := F.T
 have voters := ok_voters (P := P) (w := w) (base := base) T F.d1
 have firsts := ok_firsts (P := P) (w := w) (base := base) T F.d2
 have prefers := ok_prefers (P := P) (w := w) (base := base) T F.d3
 have preferring := ok_preferring T F.d4 prefers
 have beats := ok_beats F.d5 preferring
 have each := ok_each T F.d6 beats
 have champion := ok_champion T F.d7 each
 have least := ok_least T F.d8 beats
 have top_ := ok_top T F.d9 least
 have step := ok_step F.d11 beats preferring
 have steps := ok_steps T F.d12 step
 have strengths := ok_strengths T F.d13 steps
 have above := ok_above (P := P) (w := w) (base := base) F.d14
 have below := ok_below T F.d15 above
 have unb := ok_unb T F.d16 above
 have rank := ok_rank T F.d17 hB h1 strengths below
 have unbeaten := ok_unbeaten T F.d18 strengths unb
 have bal := ok_bal (P := P) (w := w) (base := base) T F.m24
 have poll := ok_poll (P := P) (w := w) (base := base) T F.m25
 have begin_ := ok_begin (P := P) (w := w) (base := base) F.d26 F.i1 F.i2
 have hasc := ok_hasc (P := P) (w := w) (base := base) T F.d27
 have both := ok_both F.d28 hasc
 have hasb := ok_hasb (P := P) (w := w) (base := base) T F.d29
 have full := ok_full (P := P) (w := w) (base := base) T F.d30 F.i4
 have tvoters := ok_tvoters (P := P) (w := w) (base := base) F.d31 F.i3
 have torder := ok_torder T F.d32 hasc
 have tseats := ok_tseats (P := P) (w := w) (base := base) T F.d33
 have callI := ok_callI (P := P) (w := w) (base := base) T F.m37
 have readI := ok_readI (P := P) (w := w) (base := base) T F.m38
 have more := ok_more (P := P) (w := w) (base := base) T F.e1
 have take := ok_take (P := P) (w := w) (base := base) T F.e2
 have takeCall := ok_takeCall T F.tw F.i5 F.e3 take callI
 have turnI := ok_turnI (P := P) (w := w) (base := base) T F.m40
 have seatI := ok_seatI T F.Df F.m41 voters
 have holder := ok_holder (P := P) (w := w) (base := base) F.d42
 have held := ok_held T F.d43 holder
 have most := ok_most (P := P) (w := w) T F.d44 hB h2
 have fewest := ok_fewest (P := P) (w := w) T F.d45 hB h3
 have quota := ok_quota T F.Df F.d46 holder
 have turn := ok_turn T F.Df nml F.d47 held most fewest turnI quota
 have turns := ok_turns T F.Df F.d48 seatI turn
 have seated := ok_seated (P := P) (w := w) (base := base) T F.d49
 have unseated := ok_unseated (P := P) (w := w) (base := base) T F.d50
 have low := ok_low (P := P) (w := w) (base := base) F.d51
 have desc := ok_desc T F.d52 low
 have deskI := ok_deskI (P := P) (w := w) (base := base) T F.m60
 have with_ := ok_with (P := P) (w := w) (base := base) T F.d61
 have a0 := ok_aBegin (Pr := Pr) (Pm := Pm) (Pl := Pl) T F.Df F.j1 F.d62 begin_ poll
 have a1 := ok_aVote (Pr := Pr) (Pm := Pm) (Pl := Pl) T F.j1 F.j6 F.d63 tvoters torder full bal
 have a2 := ok_aDrop (Pr := Pr) (Pm := Pm) (Pl := Pl) T F.j4 F.d64 hasb
 have a3 := ok_aBallot (Pr := Pr) (Pm := Pm) (Pl := Pl) T F.j4 F.d65 hasb with_
 have a4 := ok_aFirsts (Pr := Pr) (Pm := Pm) (Pl := Pl) T F.d66 voters firsts with_
 have a5 := ok_aPair (Pr := Pr) (Pm := Pm) (Pl := Pl) T F.j4 F.d67 both preferring
 have a6 := ok_aChamp (Pr := Pr) (Pm := Pm) (Pl := Pl) T F.j5 F.d68 champion
 have a7 := ok_aTop (Pr := Pr) (Pm := Pm) (Pl := Pl) T F.d69 top_ with_
 have a8 := ok_aPath (Pr := Pr) (Pm := Pm) (Pl := Pl) T F.j4 F.d70 both strengths
 have a9 := ok_aRanked T nmr nlr F.d71 rank with_
 have a10 := ok_aUnbeaten (Pr := Pr) (Pm := Pm) (Pl := Pl) T F.d72 unbeaten with_
 have a11 := ok_aSeats T F.j1 nmr nlr F.d73 tseats turns seated with_
 have a12 := ok_aTurns T F.j1 nmr nlr F.d74 tseats turns desc with_
 have a13 := ok_aRunoff T nmr nlr F.d75 turns unseated with_
 have a14 := ok_aCount (Pr := Pr) (Pm := Pm) (Pl := Pl) T F.d76 voters with_
 have CA : ∀ k, k < 15 → Callee P w K mg base (nm k) 17 ["desk", "call"] (spAns c Pr Pm Pl k) := fun k hk => by
  have : k = 0 ∨ k = 1 ∨ k = 2 ∨ k = 3 ∨ k = 4 ∨ k = 5 ∨ k = 6 ∨ k = 7 ∨ k = 8 ∨ k = 9 ∨ k = 10 ∨ k = 11 ∨ k = 12 ∨ k = 13 ∨ k = 14 := by omega
  rcases this with q | q | q | q | q | q | q | q | q | q | q | q | q | q | q <;> subst q
  ·exact a0
  ·exact a1
  ·exact a2
  ·exact a3
  ·exact a4
  ·exact a5
  ·exact a6
  ·exact a7
  ·exact a8
  ·exact a9
  ·exact a10
  ·exact a11
  ·exact a12
  ·exact a13
  ·exact a14
 have aCall := ok_aCall T F.j0 F.j9 F.d78 F.aa CA
 exact ok_main T F.Df D deskI readI more takeCall aCall
end
open PySem.W (WData Codec OpenSpec)
theorem nI_of {ns : List Int} (h : ∀ z ∈ ns, 0 ≤ z) : nI (ns.map Int.toNat) = ns := by
 unfold nI
 rw [List.map_map]
 refine (List.map_congr_left fun z hz => ?_).trans (List.map_id ns)
 show ((z.toNat : Nat) : Int) = z
 have := h z hz
 omega
theorem natV_of {ns : List Int} (h : ∀ z ∈ ns, 0 ≤ z) : (ns.map Int.toNat).map natV = ns.map V.int := by
 rw [List.map_map]
 refine List.map_congr_left fun z hz => ?_
 show V.int ((z.toNat : Nat) : Int) = V.int z
 have := h z hz
 congr 1
 omega
theorem walk {q : Program} {loose : List Str} {XP : (Str → Option Value) → Heap → Prop} {YP : World → Heap → Prop} {d : DefRec} {Kf : Params → PySem.W.Frag} (hd : d.name = "answers") (hY : ∀ (w : World) (h : Heap), YP w h → (Kf w.params).In h) {c : Cs} {cr cm cl Pr Pm Pl : Addr} (nml : Pm ≠ Pl) (nmr : Pm ≠ Pr) (nlr : Pl ≠ Pr)
  (hF : ∀ (P : Params) (mg : Str → Option Value) (h : Heap), (Kf P).In h → h.Ns mainGlobals mg → Facts (Kf P) mg c cr cm cl)
  (hA : ∀ (P : Params) (mg : Str → Option Value) (h : Heap), (Kf P).In h → h.Ns mainGlobals mg → ∃ (fa : Addr) (fd : FuncData), mg "answers" = some (.ref fa) ∧ Fun (Kf P) "answers" "answers" (top 79) fa fd ∧ ∀ (s : Shared) (u : Value), BindsTo s fd ⟨[u], []⟩ [("calls", u)])
  (hN : ∀ P : Params, PySem.W.noTabs (Kf P) = true)
  (hT : ∀ (P : Params) (mean : ExcName → Option Value) (mg mb : Str → Option Value) (h : Heap), Top q (PySem.W.looseW q loose) mean mg mb h → (Kf P).In h → PySem.W.TabsAt [(cr, Pr), (cm, Pm), (cl, Pl)] h) :
  L2.WalkOT q loose XP YP PySem.Challenge.rw_orderpolls_s01_answers d := by
 intro w t₀ t₁ mg mb G Y0 Y1 fa hfa hg args vals as hpre hlay L ht0
 obtain ⟨a, e1, e2⟩ := PySem.W.os_pre_some hpre
 obtain ⟨e3, hwi⟩ := Codec.encAll_of_decAll PySem.Challenge.rw_orderpolls_s01_answers.args args a e1
 subst e3
 obtain ⟨ns, un⟩ := a
 have ens : Codec.encAll PySem.Challenge.rw_orderpolls_s01_answers.args (ns, un) = [.list (ns.map WData.int)] := rfl
 have hwell : PySem.Challenge.rw_orderpolls_s01_answers.wellSaid = true := by decide +kernel
 have KX0 := hY w _ Y0
 have KX := hY w _ Y1
 obtain ⟨ord, hord, hl⟩ := L.laid
 obtain ⟨vs, h1, h2, h3⟩ := lay_ints (R := []) (cl := classAt t₀.heap) (P := w.params) (ord := ord) ns t₀
 have hl2 : PySem.W.layAllW [] (classAt t₀.heap) w.params ord [.list (ns.map WData.int)] t₀ = some ([.ref t₀.heap.objs.size], { t₀ with toks := t₀.toks + ns.length, heap := t₀.heap.push { cls := .type "list", data := .seq vs.toArray } }) := by
  show (match (match PySem.W.layAllW [] (classAt t₀.heap) w.params ord (ns.map WData.int) t₀ with
   | some r => some (Value.ref r.2.heap.objs.size, ({ r.2 with heap := r.2.heap.push { cls := .type "list", data := .seq r.1.toArray } } : Shared))
   | Option.none => Option.none) with
   | some r => (match PySem.W.layAllW [] (classAt t₀.heap) w.params ord [] r.2 with
    | some r' => some (r.1 :: r'.1, r'.2)
    | Option.none => Option.none)
   | Option.none => Option.none) = _
  rw [h1]
  rfl
 rw [ens, hl2] at hl
 have hp := Option.some.inj hl
 have ev : [Value.ref t₀.heap.objs.size] = vals := congrArg Prod.fst hp
 have et : ({ t₀ with toks := t₀.toks + ns.length, heap := t₀.heap.push { cls := .type "list", data := .seq vs.toArray } } : Shared) = t₁ := congrArg Prod.snd hp
 subst ev
 have hsz : t₁.heap.get? t₀.heap.objs.size = some { cls := .type "list", data := .seq vs.toArray } := by
  rw [← et]
  exact Heap.get?_push_size _ rfl
 have hKa : (Kf w.params).lookup t₀.heap.objs.size = none := by
  cases e : (Kf w.params).lookup t₀.heap.objs.size with
  | none => rfl
  | some o => exact absurd (Heap.lt_size (KX0 _ _ e)) (Nat.lt_irrefl _)
 have hwi2 : ((Codec.inLen 0 16000 ns && ns.all (Codec.inInt 0 9223372036854775807)) && true) = true := hwi
 rw [Bool.and_eq_true, Bool.and_eq_true] at hwi2
 have hlen : ns.length ≤ 16000 := (Codec.inNat_iff.mp hwi2.1.1).2
 have hin : ∀ z ∈ ns, 0 ≤ z ∧ z ≤ 9223372036854775807 := fun z hz => by
  have h9 := List.all_eq_true.mp hwi2.1.2 z hz
  have h9' : (decide ((0 : Int) ≤ z) && decide (z ≤ 9223372036854775807)) = true := h9
  rw [Bool.and_eq_true, decide_eq_true_iff, decide_eq_true_iff] at h9'
  exact h9'
 have hask : PyWrpoll.answers_asked ns = true := e2
 obtain ⟨cs, hcs, hc100⟩ : ∃ cs, PyFlat.calls PyWrpoll.shape ns.length ns = some cs ∧ cs.length ≤ 100 := by
  unfold PyWrpoll.answers_asked PyWrpoll.calls at hask
  cases h9 : PyFlat.calls PyWrpoll.shape ns.length ns with
  | none =>
   rw [h9] at hask
   cases hask
  | some cs =>
   rw [h9] at hask
   have h8 : (PyFlat.atMost 100 (cs.map PyWrpoll.whole) && PollNeutral.asked (cs.map PyWrpoll.whole)) = true := hask
   rw [Bool.and_eq_true] at h8
   have h7 : (cs.map PyWrpoll.whole).length ≤ 100 := of_decide_eq_true h8.1
   rw [List.length_map] at h7
   exact ⟨cs, rfl, h7⟩
 have hans : PyWrpoll.answers ns = due none cs := by
  unfold PyWrpoll.answers PyWrpoll.calls
  rw [hcs]
  rfl
 obtain ⟨fa', fd, m1, m2, m3⟩ := hA w.params mg _ KX G.T.g
 rw [hd, m1] at hfa
 cases hfa
 have hToks : ST.Toks vs := fun i t h e => by
  have h9 := h3 i t h
  rw [e] at h9
  exact ht0 (Nat.le_zero.mp h9)
 refine PySem.W.enter_call (codeAny_mono (start_call (R := []) (cl := classAt t₀.heap) (rs := PyWrpoll.answers ns) (k := 21) (x := "calls") (sp := spMain Pr Pm Pl) (fd := fd) (ns := ns) KX hKa (hN _) G.T.g G.T.b G.T.builtins G.T.nolimit G.T.bmain hg hsz h2 hToks
  (by rw [sizeLine_eq]; omega) (hT w.params _ _ _ _ G.T KX) ⟨rfl, by decide, by decide⟩ (fun base hK hns hB hC => (hF w.params mg _ hK hns).main m2 hB (hC (cr, Pr) (by simp)) (hC (cm, Pm) (by simp)) (hC (cl, Pl) (by simp)) nml nmr nlr) m3
  (fun H hfz htb => ?_)) fun r' s' hq => ?_)
 ·have hnn : ∀ z ∈ ns, 0 ≤ z := fun z hz => (hin z hz).1
  refine ⟨_, ns.map Int.toNat, ns.length, cs, rfl, by rw [natV_of hnn]; exact hfz, by rw [List.length_map]; exact hlen, fun v hv => ?_, by rw [nI_of hnn]; exact hcs, hc100, ⟨⟨_, htb (cr, Pr) (by simp), .inl rfl⟩, ⟨_, htb (cm, Pm) (by simp), .inl rfl⟩, ⟨_, htb (cl, Pl) (by simp), .inl rfl⟩⟩, fun H' r hr => ⟨r, rfl, by rw [hans]; exact hr⟩⟩
  obtain ⟨z, hz, rfl⟩ := List.mem_map.mp hv
  have h5 : (z : Int) ≤ 9223372036854775807 := (hin z hz).2
  have h6 : (0 : Int) ≤ (z : Int) := (hin z hz).1
  show Int.toNat z < 9223372036854775808
  exact (Int.toNat_lt' (by decide)).mpr (Int.lt_of_le_of_lt h5 (by decide))
 ·obtain ⟨u, as', rfl, q1, q2, q3, q4⟩ := hq
  exact ⟨.inl ⟨u, _, as', rfl, fun _ => rfl, q1, (OpenSpec.post_iff hwell hwi _ _).mpr rfl, fun z => Bool.noConfusion (show false = true from z)⟩, q2, q3, q4⟩
def Bn (x qual : Str) (st : Stmt) (ps : List Str) : Prop := ∀ (kV doc pm : Value) (an : Option Addr) (cdv ct : Value) (us : List Value), us.length = ps.length → bindArgs (PySem.W.fnOf x qual (defArgs st) (defBody st) (defScope st) .none kV doc pm an cdv ct) ⟨us, []⟩ = pure (ps.zip us)
theorem ln1 {us : List Value} (h : us.length = 1) : ∃ a, us = [a] := match us, h with | [a], _ => ⟨a, rfl⟩
theorem ln2 {us : List Value} (h : us.length = 2) : ∃ a b, us = [a, b] := match us, h with | [a, b], _ => ⟨a, b, rfl⟩
theorem ln3 {us : List Value} (h : us.length = 3) : ∃ a b c, us = [a, b, c] := match us, h with | [a, b, c], _ => ⟨a, b, c, rfl⟩
theorem ln4 {us : List Value} (h : us.length = 4) : ∃ a b c d, us = [a, b, c, d] := match us, h with | [a, b, c, d], _ => ⟨a, b, c, d, rfl⟩
theorem ln5 {us : List Value} (h : us.length = 5) : ∃ a b c d e, us = [a, b, c, d, e] := match us, h with | [a, b, c, d, e], _ => ⟨a, b, c, d, e, rfl⟩
theorem bn1 {x qual p0 : Str} {st : Stmt} (h : ∀ (kV doc pm : Value) (an : Option Addr) (cdv ct a : Value), bindArgs (PySem.W.fnOf x qual (defArgs st) (defBody st) (defScope st) .none kV doc pm an cdv ct) ⟨[a], []⟩ = pure [(p0, a)]) : Bn x qual st [p0] := fun kV doc pm an cdv ct us hl => by
 obtain ⟨a, rfl⟩ := ln1 hl
 exact h kV doc pm an cdv ct a
theorem bn2 {x qual p0 p1 : Str} {st : Stmt} (h : ∀ (kV doc pm : Value) (an : Option Addr) (cdv ct a b : Value), bindArgs (PySem.W.fnOf x qual (defArgs st) (defBody st) (defScope st) .none kV doc pm an cdv ct) ⟨[a, b], []⟩ = pure [(p0, a), (p1, b)]) : Bn x qual st [p0, p1] := fun kV doc pm an cdv ct us hl => by
 obtain ⟨a, b, rfl⟩ := ln2 hl
 exact h kV doc pm an cdv ct a b
theorem bn3 {x qual p0 p1 p2 : Str} {st : Stmt} (h : ∀ (kV doc pm : Value) (an : Option Addr) (cdv ct a b c : Value), bindArgs (PySem.W.fnOf x qual (defArgs st) (defBody st) (defScope st) .none kV doc pm an cdv ct) ⟨[a, b, c], []⟩ = pure [(p0, a), (p1, b), (p2, c)]) : Bn x qual st [p0, p1, p2] := fun kV doc pm an cdv ct us hl => by
 obtain ⟨a, b, c, rfl⟩ := ln3 hl
 exact h kV doc pm an cdv ct a b c
theorem bn4 {x qual p0 p1 p2 p3 : Str} {st : Stmt} (h : ∀ (kV doc pm : Value) (an : Option Addr) (cdv ct a b c d : Value), bindArgs (PySem.W.fnOf x qual (defArgs st) (defBody st) (defScope st) .none kV doc pm an cdv ct) ⟨[a, b, c, d], []⟩ = pure [(p0, a), (p1, b), (p2, c), (p3, d)]) : Bn x qual st [p0, p1, p2, p3] := fun kV doc pm an cdv ct us hl => by
 obtain ⟨a, b, c, d, rfl⟩ := ln4 hl
 exact h kV doc pm an cdv ct a b c d
theorem bn5 {x qual p0 p1 p2 p3 p4 : Str} {st : Stmt} (h : ∀ (kV doc pm : Value) (an : Option Addr) (cdv ct a b c d e : Value), bindArgs (PySem.W.fnOf x qual (defArgs st) (defBody st) (defScope st) .none kV doc pm an cdv ct) ⟨[a, b, c, d, e], []⟩ = pure [(p0, a), (p1, b), (p2, c), (p3, d), (p4, e)]) : Bn x qual st [p0, p1, p2, p3, p4] := fun kV doc pm an cdv ct us hl => by
 obtain ⟨a, b, c, d, e, rfl⟩ := ln5 hl
 exact h kV doc pm an cdv ct a b c d e
theorem b_main : Bn "answers" "answers" (top 79) ["calls"] := bn1 fun _ _ _ _ _ _ _ => rfl
section
variable {K : PySem.W.Frag} {mg : Str → Option Value} {h : Heap} {x qual cls : Str} {st : Stmt} {ps : List Str} {f C cd : Addr} {oc kV doc pm cdv ct : Value} {od an : Option Addr} {osl : Array (Option Value)}
theorem mkDef (X : K.In h) (G : h.Ns mainGlobals mg) (b : Bn x x st ps) (a : PySem.W.nsIn K mainGlobals x = some (some (.ref f))) (l : K.lookup f = some ⟨oc, od, .func (PySem.W.fnOf x x (defArgs st) (defBody st) (defScope st) .none kV doc pm an cdv ct), osl⟩) (c : PySem.W.codeIn K cdv x = true) (k : PySem.W.keepIn K (.ref f) = true) : DefAt K mg x st ps :=
 ⟨f, _, fun_mk l c k, PySem.W.mg_of X G a, (fun_mk l c k).binds b⟩
theorem mkLam (X : K.In h) (G : h.Ns mainGlobals mg) (b : Bn x x st ps) (a : PySem.W.nsIn K mainGlobals x = some (some (.ref f))) (l : K.lookup f = some ⟨oc, od, .func (PySem.W.fnOf x x (defArgs st) (defBody st) (defScope st) .none kV doc pm an (.ref cd) ct), osl⟩) (c : PySem.W.codeIn K (.ref cd) x = true) (k : PySem.W.keepIn K (.ref f) = true) : LamAt K mg x st ps cd :=
 ⟨f, oc, od, kV, doc, pm, an, ct, osl, l, c, k, PySem.W.mg_of X G a, (fun_mk l c k).binds b⟩
theorem mkMake (X : K.In h) (G : h.Ns mainGlobals mg) (b : Bn "__init__" qual st ps) (aC : PySem.W.nsIn K mainGlobals cls = some (some (.ref C))) (a : PySem.W.findIn K (.ref C) "__init__" = some (some (.ref f))) (l : K.lookup f = some ⟨oc, od, .func (PySem.W.fnOf "__init__" qual (defArgs st) (defBody st) (defScope st) .none kV doc pm an cdv ct), osl⟩) (c : PySem.W.codeIn K cdv qual = true) (k : PySem.W.keepIn K (.ref f) = true)
  (i : PySem.W.isFn K (.ref f) = true) (m : PySem.W.makesIn K C = true) (kc : PySem.W.keepIn K (.ref C) = true) : MakeAt K mg cls C qual st ps :=
 ⟨f, _, fun_mk l c k, ⟨m, a, i, kc⟩, PySem.W.mg_of X G aC, (fun_mk l c k).binds b⟩
theorem mkMeth (b : Bn x qual st ps) (a : PySem.W.findIn K (.ref C) x = some (some (.ref f))) (l : K.lookup f = some ⟨oc, od, .func (PySem.W.fnOf x qual (defArgs st) (defBody st) (defScope st) .none kV doc pm an cdv ct), osl⟩) (c : PySem.W.codeIn K cdv qual = true) (k : PySem.W.keepIn K (.ref f) = true) (i : PySem.W.isFn K (.ref f) = true) : MethAt K C x qual st ps :=
 ⟨f, _, fun_mk l c k, ⟨a, i, k⟩, (fun_mk l c k).binds b⟩
theorem mkMain (X : K.In h) (G : h.Ns mainGlobals mg) (a : PySem.W.nsIn K mainGlobals "answers" = some (some (.ref f))) (l : K.lookup f = some ⟨oc, od, .func (PySem.W.fnOf "answers" "answers" (defArgs (top 79)) (defBody (top 79)) (defScope (top 79)) .none kV doc pm an cdv ct), osl⟩) (c : PySem.W.codeIn K cdv "answers" = true) (k : PySem.W.keepIn K (.ref f) = true) :
  ∃ (fa : Addr) (fd : FuncData), mg "answers" = some (.ref fa) ∧ Fun K "answers" "answers" (top 79) fa fd ∧ ∀ (s : Shared) (u : Value), BindsTo s fd ⟨[u], []⟩ [("calls", u)] :=
 ⟨f, _, PySem.W.mg_of X G a, fun_mk l c k, fun _ u => .of_eq (b_main kV doc pm an cdv ct [u] rfl)⟩
theorem mkInt {n : Int} {t : Tok} (X : K.In h) (G : h.Ns mainGlobals mg) (a : PySem.W.nsIn K mainGlobals x = some (some (.int n t))) : IntAt mg x n := ⟨t, PySem.W.mg_of X G a⟩
theorem mkNone (X : K.In h) (G : h.Ns mainGlobals mg) (a : PySem.W.nsIn K mainGlobals x = some none) : mg x = none := PySem.W.mg_none_of X G a
theorem noCons {g : Str} {fs : List Str} (a : PySem.W.findIn K (.ref C) g = some none) (t : ∀ g ∈ fs, NoAttr K C g) : ∀ y ∈ g :: fs, NoAttr K C y := fun y hy => by
 rcases List.mem_cons.mp hy with z | z
 ·rw [z]
  exact a
 ·exact t y z
theorem noNil : ∀ y ∈ ([] : List Str), NoAttr K C y := fun y hy => absurd hy (by simp)
theorem mkOwn {fs : List Str} (pg : PySem.W.plainGet K C Str.empty = true) (hd : PySem.W.hasDictIn K C = true) (po : PySem.W.plainOver K C = true) (sa : PySem.W.findIn K (.ref C) "__setattr__" = some (some (.builtin "object.__setattr__"))) (no : ∀ y ∈ fs, NoAttr K C y) : Own K C fs := ⟨⟨pg, hd, po, sa⟩, no⟩
def intOf : Value → Option Int
 | .int i _ => some i
 | _ => none
theorem intOf_some {v : Value} {i : Int} (h : intOf v = some i) : ∃ t, v = .int i t := by
 cases v <;> first | (cases h; exact ⟨_, rfl⟩) | cases h
def chkI (its : List Value) (ns : List Nat) : Bool := decide (its.map intOf = ns.map fun (n : Nat) => some (n : Int))
theorem chkI_vals : ∀ {its : List Value} {ns : List Nat}, chkI its ns = true → Vals (ns.map natV) its
 | [], [], _ => .nil
 | v :: r, n :: ns, e => by
  have e' : intOf v :: r.map intOf = some (n : Int) :: ns.map fun (n : Nat) => some (n : Int) := of_decide_eq_true e
  have e1 := List.cons.inj e'
  obtain ⟨t, ht⟩ := intOf_some e1.1
  exact .cons ⟨t, ht⟩ (chkI_vals (decide_eq_true e1.2))
 | [], _ :: _, e => by
  have e' := of_decide_eq_true e
  cases e'
 | _ :: _, [], e => by
  have e' := of_decide_eq_true e
  cases e'
theorem mkTup {its : Array Value} {n : Nat} {ns : List Nat} (X : K.In h) (G : h.Ns mainGlobals mg) (a : PySem.W.nsIn K mainGlobals x = some (some (.ref f))) (l : K.lookup f = some ⟨.type "tuple", od, .seq its n, osl⟩) (hs : its.size ≤ sizeLine) (hv : chkI its.toList ns = true) : TupAt K mg x (ns.map natV) :=
 ⟨f, PySem.W.mg_of X G a, fun _ => .inr ⟨_, its, n, l, rfl, rfl, hs, chkI_vals hv⟩⟩
def isE (k : Nat) (e : DictEntry) (f : Addr) : Bool := Value.isInt (k : Int) e.key && decide (e.hash = hashInt (k : Int)) && (match e.val with | .ref a => decide (a = f) | _ => false)
def chkE : Nat → List DictEntry → List Addr → Bool
 | _, [], [] => true
 | k, e :: r, f :: fs => isE k e f && chkE (k + 1) r fs
 | _, _, _ => false
theorem isE_of {k : Nat} {e : DictEntry} {f : Addr} (h : isE k e f = true) : (∃ t, e.key = .int (k : Int) t) ∧ e.hash = hashInt (k : Int) ∧ e.val = .ref f := by
 unfold isE at h
 rw [Bool.and_eq_true, Bool.and_eq_true, decide_eq_true_iff] at h
 obtain ⟨⟨h1, h2⟩, h3⟩ := h
 refine ⟨?_, h2, ?_⟩
 ·cases q : e.key <;> rw [q] at h1 <;> first | (cases h1; done) | skip
  case int i t =>
   have := eq_of_beq (show (i == (k : Int)) = true from h1)
   exact ⟨t, by rw [this]⟩
 ·cases q : e.val <;> rw [q] at h3 <;> first | (cases h3; done) | skip
  case ref a =>
   rw [of_decide_eq_true (show decide (a = f) = true from h3)]
theorem chkE_of : ∀ {es : List DictEntry} {fs : List Addr} {k : Nat}, chkE k es fs = true → (∀ e ∈ es, ∃ i t, e.key = .int i t ∧ e.hash = hashInt i) ∧ ∀ (j : Nat) (f : Addr), fs[j]? = some f → (es.find? fun e => Value.isInt ((k + j : Nat) : Int) e.key).map (·.val) = some (.ref f)
 | [], [], _, _ => ⟨fun e he => by simp at he, fun j f hf => by simp at hf⟩
 | e :: r, f :: fs, k, h => by
  have h' : (isE k e f && chkE (k + 1) r fs) = true := h
  rw [Bool.and_eq_true] at h'
  obtain ⟨⟨t, e1⟩, e2, e3⟩ := isE_of h'.1
  obtain ⟨r1, r2⟩ := chkE_of h'.2
  refine ⟨fun e' he => ?_, fun j f' hf => ?_⟩
  ·rcases List.mem_cons.mp he with z | z
   ·rw [z]
    exact ⟨_, t, e1, e2⟩
   ·exact r1 e' z
  ·match j, hf with
   | 0, hf =>
    cases hf
    rw [List.find?_cons_of_pos (by rw [e1]; exact beq_self_eq_true _)]
    show some e.val = _
    rw [e3]
   | j + 1, hf =>
    have h9 := r2 j f' hf
    rw [List.find?_cons_of_neg]
    ·rw [show k + (j + 1) = k + 1 + j by omega]
     exact h9
    ·rw [e1]
     show ¬ ((k : Int) == ((k + (j + 1) : Nat) : Int)) = true
     intro z
     have := eq_of_beq z
     omega
 | [], _ :: _, _, h => by cases h
 | _ :: _, [], _, h => by cases h
theorem mkAns {es : Array DictEntry} {ep : Nat} {fs : List Addr} (X : K.In h) (G : h.Ns mainGlobals mg) (a : PySem.W.nsIn K mainGlobals "ANSWERS" = some (some (.ref f))) (l : K.lookup f = some ⟨.type "dict", none, .dict es ep, #[]⟩) (hc : chkE 0 es.toList fs = true) (hl : fs.length = 15)
  (hn : ∀ k < 15, PySem.W.nsIn K mainGlobals (nm k) = some (some (.ref (fs.getD k 0)))) : AnsAt K mg := by
 obtain ⟨h1, h2⟩ := chkE_of hc
 refine ⟨f, PySem.W.mg_of X G a, fun k hk => ⟨fs.getD k 0, PySem.W.mg_of X G (hn k hk), _, es, ep, l, ⟨rfl, rfl, rfl⟩, rfl, fun e he => h1 e (Array.mem_def.mp he), ?_⟩⟩
 have hk2 : k < fs.length := by omega
 have h3 := h2 k (fs.getD k 0) (by rw [List.getD_eq_getElem?_getD, List.getElem?_eq_getElem hk2]; rfl)
 rw [Nat.zero_add] at h3
 unfold findBy
 rw [← Array.find?_toList]
 exact h3
end
section
variable {K : PySem.W.Frag} {mg : Str → Option Value} {h : Heap} {x : Str}
theorem tabAt {q : Program} {loose : List Str} {mean : ExcName → Option Value} {mb : Str → Option Value} {c P : Addr} (T : Top q loose mean mg mb h) (X : K.In h) (hs : ((recsOf q).find? (fun e => e.name == x)).isSome = true) (ht : PySem.W.tabIn K x = some (c, P)) : PySem.W.CodeHd h c P ∧ h.get? P = some (PySem.W.tabObj #[]) := by
 obtain ⟨d, hd⟩ := Option.isSome_iff_exists.mp hs
 exact PySem.W.tab_of T X hd ht
theorem tabs3 {a b c : Addr × Addr} (t1 : PySem.W.CodeHd h a.1 a.2 ∧ h.get? a.2 = some (PySem.W.tabObj #[])) (t2 : PySem.W.CodeHd h b.1 b.2 ∧ h.get? b.2 = some (PySem.W.tabObj #[])) (t3 : PySem.W.CodeHd h c.1 c.2 ∧ h.get? c.2 = some (PySem.W.tabObj #[])) : PySem.W.TabsAt [a, b, c] h := fun q hq => by
 simp only [List.mem_cons, List.not_mem_nil, or_false] at hq
 rcases hq with z | z | z
 ·rw [z]; exact t1
 ·rw [z]; exact t2
 ·rw [z]; exact t3
theorem mkAns15 {es : Array DictEntry} {ep : Nat} {f f0 f1 f2 f3 f4 f5 f6 f7 f8 f9 f10 f11 f12 f13 f14 : Addr} (X : K.In h) (G : h.Ns mainGlobals mg) (a : PySem.W.nsIn K mainGlobals "ANSWERS" = some (some (.ref f))) (l : K.lookup f = some ⟨.type "dict", none, .dict es ep, #[]⟩)
  (a0 : PySem.W.nsIn K mainGlobals "answer_begin" = some (some (.ref f0))) (a1 : PySem.W.nsIn K mainGlobals "answer_vote" = some (some (.ref f1))) (a2 : PySem.W.nsIn K mainGlobals "answer_drop" = some (some (.ref f2))) (a3 : PySem.W.nsIn K mainGlobals "answer_ballot" = some (some (.ref f3))) (a4 : PySem.W.nsIn K mainGlobals "answer_firsts" = some (some (.ref f4))) (a5 : PySem.W.nsIn K mainGlobals "answer_pair" = some (some (.ref f5))) (a6 : PySem.W.nsIn K mainGlobals "answer_champion" = some (some (.ref f6))) (a7 : PySem.W.nsIn K mainGlobals "answer_top" = some (some (.ref f7))) (a8 : PySem.W.nsIn K mainGlobals "answer_path" = some (some (.ref f8))) (a9 : PySem.W.nsIn K mainGlobals "answer_ranked" = some (some (.ref f9))) (a10 : PySem.W.nsIn K mainGlobals "answer_unbeaten" = some (some (.ref f10))) (a11 : PySem.W.nsIn K mainGlobals "answer_seats" = some (some (.ref f11))) (a12 : PySem.W.nsIn K mainGlobals "answer_turns" = some (some (.ref f12))) (a13 : PySem.W.nsIn K mainGlobals "answer_runoff" = some (some (.ref f13))) (a14 : PySem.W.nsIn K mainGlobals "answer_count" = some (some (.ref f14)))
  (hc : chkE 0 es.toList [f0, f1, f2, f3, f4, f5, f6, f7, f8, f9, f10, f11, f12, f13, f14] = true) : AnsAt K mg := by
 refine mkAns X G a l hc rfl fun k hk => ?_
 have : k = 0 ∨ k = 1 ∨ k = 2 ∨ k = 3 ∨ k = 4 ∨ k = 5 ∨ k = 6 ∨ k = 7 ∨ k = 8 ∨ k = 9 ∨ k = 10 ∨ k = 11 ∨ k = 12 ∨ k = 13 ∨ k = 14 := by omega
 rcases this with q | q | q | q | q | q | q | q | q | q | q | q | q | q | q <;> subst q
 ·exact a0
 ·exact a1
 ·exact a2
 ·exact a3
 ·exact a4
 ·exact a5
 ·exact a6
 ·exact a7
 ·exact a8
 ·exact a9
 ·exact a10
 ·exact a11
 ·exact a12
 ·exact a13
 ·exact a14
end
end Pl
open PySem PySem.W PyProof.Rows
local macro_rules | `(tactic| refine PySem.W.holds_os $args*) => `(tactic| refine L2.holds_osT $args*)
local macro_rules | `(tactic| o_headS (kHook $k $a $e)) => `(tactic| o_headS (L2.tHook $k $a $e))
set_option maxRecDepth 100000 in
set_option maxHeartbeats 0 in
theorem PySem.Challenge.cw_orderpolls_s01_answers_holds : PySem.Challenge.rw_orderpolls_s01_answers.Holds := by
 w_on; k_headS; (case hw => exact ⟨[.list []], by decide +kernel, by decide +kernel⟩)
 k_fillS
 refine Pl.walk (Kf := PySem.Challenge.cw_orderpolls_s01_answers_holds.heap_1) (c := ⟨132, 153, 229, 271, 292, 311, 405⟩) (cr := 109) (cm := 335) (cl := 342) (Pr := 105) (Pm := 331) (Pl := 338) rfl (fun w h Y => L2.tIn_of Y) (by decide) (by decide) (by decide) ?wF ?wA ?wN ?wT
 case wF =>
  intro P mg h X G
  exact ⟨⟨by refine' Pl.mkOwn (C := 132) ?_ ?_ ?_ ?_ (Pl.noCons ?_ (Pl.noCons ?_ Pl.noNil)) <;> try k_is,
   by refine' Pl.mkOwn (C := 153) ?_ ?_ ?_ ?_ (Pl.noCons ?_ (Pl.noCons ?_ Pl.noNil)) <;> try k_is,
   by refine' Pl.mkOwn (C := 229) ?_ ?_ ?_ ?_ (Pl.noCons ?_ (Pl.noCons ?_ (Pl.noCons ?_ Pl.noNil))) <;> try k_is,
   by refine' Pl.mkOwn (C := 271) ?_ ?_ ?_ ?_ (Pl.noCons ?_ (Pl.noCons ?_ Pl.noNil)) <;> try k_is,
   by refine' Pl.mkOwn (C := 292) ?_ ?_ ?_ ?_ (Pl.noCons ?_ (Pl.noCons ?_ (Pl.noCons ?_ (Pl.noCons ?_ Pl.noNil)))) <;> try k_is,
   by refine' Pl.mkOwn (C := 311) ?_ ?_ ?_ ?_ (Pl.noCons ?_ (Pl.noCons ?_ (Pl.noCons ?_ (Pl.noCons ?_ (Pl.noCons ?_ (Pl.noCons ?_ Pl.noNil)))))) <;> try k_is,
   by refine' Pl.mkOwn (C := 405) ?_ ?_ ?_ ?_ (Pl.noCons ?_ Pl.noNil) <;> try k_is,
   by refine' Pl.mkNone X G ?_ <;> try k_is,
   by refine' Pl.mkNone X G ?_ <;> try k_is,
   by refine' Pl.mkNone X G ?_ <;> try k_is,
   by refine' Pl.mkNone X G ?_ <;> try k_is,
   by refine' Pl.mkNone X G ?_ <;> try k_is,
   by refine' Pl.mkNone X G ?_ <;> try k_is,
   by refine' Pl.mkNone X G ?_ <;> try k_is,
   by refine' Pl.mkNone X G ?_ <;> try k_is,
   by refine' Pl.mkNone X G ?_ <;> try k_is,
   by refine' Pl.mkNone X G ?_ <;> try k_is,
   by refine' Pl.mkNone X G ?_ <;> try k_is,
   by refine' Pl.mkNone X G ?_ <;> try k_is⟩,
    ⟨by decide⟩,
    by refine' Pl.mkDef X G (Pl.bn1 fun _ _ _ _ _ _ _ => rfl) ?_ ?_ ?_ ?_ <;> try k_is,
    by refine' Pl.mkDef X G (Pl.bn1 fun _ _ _ _ _ _ _ => rfl) ?_ ?_ ?_ ?_ <;> try k_is,
    by refine' Pl.mkDef X G (Pl.bn3 fun _ _ _ _ _ _ _ _ _ => rfl) ?_ ?_ ?_ ?_ <;> try k_is,
    by refine' Pl.mkDef X G (Pl.bn3 fun _ _ _ _ _ _ _ _ _ => rfl) ?_ ?_ ?_ ?_ <;> try k_is,
    by refine' Pl.mkDef X G (Pl.bn3 fun _ _ _ _ _ _ _ _ _ => rfl) ?_ ?_ ?_ ?_ <;> try k_is,
    by refine' Pl.mkDef X G (Pl.bn2 fun _ _ _ _ _ _ _ _ => rfl) ?_ ?_ ?_ ?_ <;> try k_is,
    by refine' Pl.mkDef X G (Pl.bn1 fun _ _ _ _ _ _ _ => rfl) ?_ ?_ ?_ ?_ <;> try k_is,
    by refine' Pl.mkDef X G (Pl.bn2 fun _ _ _ _ _ _ _ _ => rfl) ?_ ?_ ?_ ?_ <;> try k_is,
    by refine' Pl.mkDef X G (Pl.bn1 fun _ _ _ _ _ _ _ => rfl) ?_ ?_ ?_ ?_ <;> try k_is,
    by refine' Pl.mkDef X G (Pl.bn3 fun _ _ _ _ _ _ _ _ _ => rfl) ?_ ?_ ?_ ?_ <;> try k_is,
    by refine' Pl.mkDef X G (Pl.bn2 fun _ _ _ _ _ _ _ _ => rfl) ?_ ?_ ?_ ?_ <;> try k_is,
    by refine' Pl.mkDef X G (Pl.bn1 fun _ _ _ _ _ _ _ => rfl) ?_ ?_ ?_ ?_ <;> try k_is,
    by refine' Pl.mkDef X G (Pl.bn3 fun _ _ _ _ _ _ _ _ _ => rfl) ?_ ?_ ?_ ?_ <;> try k_is,
    by refine' Pl.mkDef X G (Pl.bn2 fun _ _ _ _ _ _ _ _ => rfl) ?_ ?_ ?_ ?_ <;> try k_is,
    by refine' Pl.mkDef X G (Pl.bn2 fun _ _ _ _ _ _ _ _ => rfl) ?_ ?_ ?_ ?_ <;> try k_is,
    by refine' Pl.mkLam X G (Pl.bn1 fun _ _ _ _ _ _ _ => rfl) ?_ ?_ ?_ ?_ <;> try k_is,
    by refine' Pl.mkDef X G (Pl.bn1 fun _ _ _ _ _ _ _ => rfl) ?_ ?_ ?_ ?_ <;> try k_is,
    by refine' Pl.mkInt X G ?_ <;> try k_is,
    by refine' Pl.mkInt X G ?_ <;> try k_is,
    by refine' Pl.mkInt X G ?_ <;> try k_is,
    by refine' Pl.mkInt X G ?_ <;> try k_is,
    by refine' Pl.mkMake (C := 132) X G (Pl.bn3 fun _ _ _ _ _ _ _ _ _ => rfl) ?_ ?_ ?_ ?_ ?_ ?_ ?_ ?_ <;> try k_is,
    by refine' Pl.mkMake (C := 153) X G (Pl.bn2 fun _ _ _ _ _ _ _ _ => rfl) ?_ ?_ ?_ ?_ ?_ ?_ ?_ ?_ <;> try k_is,
    by refine' Pl.mkDef X G (Pl.bn1 fun _ _ _ _ _ _ _ => rfl) ?_ ?_ ?_ ?_ <;> try k_is,
    by refine' Pl.mkDef X G (Pl.bn2 fun _ _ _ _ _ _ _ _ => rfl) ?_ ?_ ?_ ?_ <;> try k_is,
    by refine' Pl.mkDef X G (Pl.bn3 fun _ _ _ _ _ _ _ _ _ => rfl) ?_ ?_ ?_ ?_ <;> try k_is,
    by refine' Pl.mkDef X G (Pl.bn2 fun _ _ _ _ _ _ _ _ => rfl) ?_ ?_ ?_ ?_ <;> try k_is,
    by refine' Pl.mkDef X G (Pl.bn1 fun _ _ _ _ _ _ _ => rfl) ?_ ?_ ?_ ?_ <;> try k_is,
    by refine' Pl.mkDef X G (Pl.bn1 fun _ _ _ _ _ _ _ => rfl) ?_ ?_ ?_ ?_ <;> try k_is,
    by refine' Pl.mkDef X G (Pl.bn2 fun _ _ _ _ _ _ _ _ => rfl) ?_ ?_ ?_ ?_ <;> try k_is,
    by refine' Pl.mkDef X G (Pl.bn2 fun _ _ _ _ _ _ _ _ => rfl) ?_ ?_ ?_ ?_ <;> try k_is,
    by refine' Pl.mkTup X G ?ta ?tl ?ts ?tv; (case ta => k_is); (case tl => k_is); (case ts => decide +kernel); (case tv => decide +kernel),
    by refine' Pl.mkInt X G ?_ <;> try k_is,
    by refine' Pl.mkMake (C := 229) X G (Pl.bn4 fun _ _ _ _ _ _ _ _ _ _ => rfl) ?_ ?_ ?_ ?_ ?_ ?_ ?_ ?_ <;> try k_is,
    by refine' Pl.mkMake (C := 271) X G (Pl.bn2 fun _ _ _ _ _ _ _ _ => rfl) ?_ ?_ ?_ ?_ ?_ ?_ ?_ ?_ <;> try k_is,
    by refine' Pl.mkMeth (C := 271) (Pl.bn1 fun _ _ _ _ _ _ _ => rfl) ?_ ?_ ?_ ?_ ?_ <;> try k_is,
    by refine' Pl.mkMeth (C := 271) (Pl.bn2 fun _ _ _ _ _ _ _ _ => rfl) ?_ ?_ ?_ ?_ ?_ <;> try k_is,
    by refine' Pl.mkMeth (C := 271) (Pl.bn1 fun _ _ _ _ _ _ _ => rfl) ?_ ?_ ?_ ?_ ?_ <;> try k_is,
    by refine' Pl.mkMake (C := 292) X G (Pl.bn5 fun _ _ _ _ _ _ _ _ _ _ _ => rfl) ?_ ?_ ?_ ?_ ?_ ?_ ?_ ?_ <;> try k_is,
    by refine' Pl.mkMake (C := 311) X G (Pl.bn3 fun _ _ _ _ _ _ _ _ _ => rfl) ?_ ?_ ?_ ?_ ?_ ?_ ?_ ?_ <;> try k_is,
    by refine' Pl.mkDef X G (Pl.bn2 fun _ _ _ _ _ _ _ _ => rfl) ?_ ?_ ?_ ?_ <;> try k_is,
    by refine' Pl.mkDef X G (Pl.bn1 fun _ _ _ _ _ _ _ => rfl) ?_ ?_ ?_ ?_ <;> try k_is,
    by refine' Pl.mkLam X G (Pl.bn1 fun _ _ _ _ _ _ _ => rfl) ?_ ?_ ?_ ?_ <;> try k_is,
    by refine' Pl.mkLam X G (Pl.bn1 fun _ _ _ _ _ _ _ => rfl) ?_ ?_ ?_ ?_ <;> try k_is,
    by refine' Pl.mkDef X G (Pl.bn3 fun _ _ _ _ _ _ _ _ _ => rfl) ?_ ?_ ?_ ?_ <;> try k_is,
    by refine' Pl.mkDef X G (Pl.bn1 fun _ _ _ _ _ _ _ => rfl) ?_ ?_ ?_ ?_ <;> try k_is,
    by refine' Pl.mkDef X G (Pl.bn2 fun _ _ _ _ _ _ _ _ => rfl) ?_ ?_ ?_ ?_ <;> try k_is,
    by refine' Pl.mkDef X G (Pl.bn1 fun _ _ _ _ _ _ _ => rfl) ?_ ?_ ?_ ?_ <;> try k_is,
    by refine' Pl.mkDef X G (Pl.bn1 fun _ _ _ _ _ _ _ => rfl) ?_ ?_ ?_ ?_ <;> try k_is,
    by refine' Pl.mkDef X G (Pl.bn2 fun _ _ _ _ _ _ _ _ => rfl) ?_ ?_ ?_ ?_ <;> try k_is,
    by refine' Pl.mkDef X G (Pl.bn1 fun _ _ _ _ _ _ _ => rfl) ?_ ?_ ?_ ?_ <;> try k_is,
    by refine' Pl.mkInt X G ?_ <;> try k_is,
    by refine' Pl.mkInt X G ?_ <;> try k_is,
    by refine' Pl.mkInt X G ?_ <;> try k_is,
    by refine' Pl.mkInt X G ?_ <;> try k_is,
    by refine' Pl.mkInt X G ?_ <;> try k_is,
    by refine' Pl.mkInt X G ?_ <;> try k_is,
    by refine' Pl.mkMake (C := 405) X G (Pl.bn1 fun _ _ _ _ _ _ _ => rfl) ?_ ?_ ?_ ?_ ?_ ?_ ?_ ?_ <;> try k_is,
    by refine' Pl.mkDef X G (Pl.bn2 fun _ _ _ _ _ _ _ _ => rfl) ?_ ?_ ?_ ?_ <;> try k_is,
    by refine' Pl.mkDef X G (Pl.bn2 fun _ _ _ _ _ _ _ _ => rfl) ?_ ?_ ?_ ?_ <;> try k_is,
    by refine' Pl.mkDef X G (Pl.bn2 fun _ _ _ _ _ _ _ _ => rfl) ?_ ?_ ?_ ?_ <;> try k_is,
    by refine' Pl.mkDef X G (Pl.bn2 fun _ _ _ _ _ _ _ _ => rfl) ?_ ?_ ?_ ?_ <;> try k_is,
    by refine' Pl.mkDef X G (Pl.bn2 fun _ _ _ _ _ _ _ _ => rfl) ?_ ?_ ?_ ?_ <;> try k_is,
    by refine' Pl.mkDef X G (Pl.bn2 fun _ _ _ _ _ _ _ _ => rfl) ?_ ?_ ?_ ?_ <;> try k_is,
    by refine' Pl.mkDef X G (Pl.bn2 fun _ _ _ _ _ _ _ _ => rfl) ?_ ?_ ?_ ?_ <;> try k_is,
    by refine' Pl.mkDef X G (Pl.bn2 fun _ _ _ _ _ _ _ _ => rfl) ?_ ?_ ?_ ?_ <;> try k_is,
    by refine' Pl.mkDef X G (Pl.bn2 fun _ _ _ _ _ _ _ _ => rfl) ?_ ?_ ?_ ?_ <;> try k_is,
    by refine' Pl.mkDef X G (Pl.bn2 fun _ _ _ _ _ _ _ _ => rfl) ?_ ?_ ?_ ?_ <;> try k_is,
    by refine' Pl.mkDef X G (Pl.bn2 fun _ _ _ _ _ _ _ _ => rfl) ?_ ?_ ?_ ?_ <;> try k_is,
    by refine' Pl.mkDef X G (Pl.bn2 fun _ _ _ _ _ _ _ _ => rfl) ?_ ?_ ?_ ?_ <;> try k_is,
    by refine' Pl.mkDef X G (Pl.bn2 fun _ _ _ _ _ _ _ _ => rfl) ?_ ?_ ?_ ?_ <;> try k_is,
    by refine' Pl.mkDef X G (Pl.bn2 fun _ _ _ _ _ _ _ _ => rfl) ?_ ?_ ?_ ?_ <;> try k_is,
    by refine' Pl.mkDef X G (Pl.bn2 fun _ _ _ _ _ _ _ _ => rfl) ?_ ?_ ?_ ?_ <;> try k_is,
    by refine' Pl.mkDef X G (Pl.bn2 fun _ _ _ _ _ _ _ _ => rfl) ?_ ?_ ?_ ?_ <;> try k_is,
    by (refine' Pl.mkAns15 X G ?_ ?_ ?_ ?_ ?_ ?_ ?_ ?_ ?_ ?_ ?_ ?_ ?_ ?_ ?_ ?_ ?_ ?av <;> try k_is); (case av => decide +kernel),
    by refine' Pl.mkDef X G (Pl.bn2 fun _ _ _ _ _ _ _ _ => rfl) ?_ ?_ ?_ ?_ <;> try k_is⟩
 case wA =>
  intro P mg h X G
  refine' Pl.mkMain X G ?_ ?_ ?_ ?_ <;> try k_is
 case wN =>
  intro P
  kernel_rfl
 case wT =>
  intro P mean mg mb h T X
  exact Pl.tabs3 (Pl.tabAt (x := "rank_candidates") T X (by kernel_rfl) (by kernel_rfl)) (Pl.tabAt (x := "find_most") T X (by kernel_rfl) (by kernel_rfl)) (Pl.tabAt (x := "find_least") T X (by kernel_rfl) (by kernel_rfl))
