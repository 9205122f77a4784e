import PyProof.Rows.All
import Wide.All
import OpenK.AllK
import Wide.FinOn
import PyProof.EqAt
import PyProof.EqKinds
import PyProof.TupleCall
import KE.BitLaws
import OpenK.KOwn
import KE.KLam
import Open.SpecLaws
import KE.OsHead
import KE.OsGo
import KE.SpHead
import KE.OsShapes
import PySem.Challenge.RW_strictvolume_s01_list_of
set_option Elab.async false
set_option linter.all false
set_option maxRecDepth 100000
set_option maxHeartbeats 8000000
theorem dk {p : Prop} (h : p := by decide +kernel) : p := h
namespace PySem.W.Fast
def tw9089549797184034841 := 0
def tw756181159361184877 := 0
def tw201148040507647961 := 0
def tw9001462898984628476 := 0
def tw8362001290375118199 := 0
def tw13632860754265715519 := 0
def tw3427806141816188380 := 0
def tw14892792533364676228 := 0
def tw908570684216177163 := 0
def tw10160754855186705813 := 0
def tw7479193564718327607 := 0
def tw13516490458726137903 := 0
def tw14728258856163583857 := 0
def tw11094234414310812594 := 0
def tw6200569572099094251 := 0
def tw6859098836942212059 := 0
def tw16447703566849315443 := 0
def tw17731644935918089911 := 0
def tw5937512924987670448 := 0
def tw4971092342708723617 := 0
def tw4008619295322327400 := 0
def tw14178557809134897379 := 0
def tw17386399116990881539 := 0
def tw9639535052168709107 := 0
def tw3010967719412983436 := 0
def tw17342010485745007403 := 0
def tw12694272595137204029 := 0
def tw2954249976079604414 := 0
def tw18442573880724231192 := 0
def tw6666814147151051048 := 0
def tw475155641849498475 := 0
def tw13528973172412524037 := 0
def tw14793485575833573745 := 0
def tw15696598736124807460 := 0
def tw2167611724441654225 := 0
def tw3590080857256927107 := 0
def tw12982666404696728491 := 0
def tw7953813205370736155 := 0
def tw17478299475454709494 := 0
def tw10418638666511998042 := 0
def tw14701999732751727575 := 0
def tw14346133154973198776 := 0
def tw11962617364041055821 := 0
def tw13002442849205892654 := 0
def tw14453652688616558449 := 0
def tw16808335894221373685 := 0
def tw4195892203210856484 := 0
def tw1705011867737207346 := 0
def tw8734379181190052928 := 0
def tw13376928428335718541 := 0
def tw12822034094836799869 := 0
def tw1934309418605164799 := 0
def tw9163431798520055350 := 0
def tw11899388996569119731 := 0
def tw14855462292793527663 := 0
def tw13378049495627929890 := 0
def tw2160812275708639463 := 0
def tw4732756891410754538 := 0
def tw1365487103774048053 := 0
def tw5755755601989680332 := 0
def tw11966567816881823061 := 0
def tw3146182725130418999 := 0
def tw11986092061127429613 := 0
def tw3159023846009984132 := 0
def tw5956663850574960422 := 0
def tw10323131758942241605 := 0
def tw4558123226600231837 := 0
def tw10934798465331062693 := 0
def tw12521921107745046573 := 0
def tw9040671007401531219 := 0
def tw8406274626736327339 := 0
def tw9493234670304337713 := 0
def tw13019148972293726991 := 0
def tw1434354603593016826 := 0
def tw18073129111410210793 := 0
def tw5655130623189616371 := 0
def tw1971623443304149341 := 0
def tw8520273533780449658 := 0
def tw1854239770119187620 := 0
def tw3307005911835475980 := 0
def tw8570616479680057984 := 0
def tw18102968483082758088 := 0
def tw497134300592228124 := 0
def tw12181582365865396760 := 0
def tw4010251325968398850 := 0
def tw8426879958123629512 := 0
def tw1695792369795046806 := 0
def tw1760024069199650348 := 0
def tw12702952796664371621 := 0
def tw6094633082552044027 := 0
def tw2792062926701735594 := 0
def tw5230551882725951041 := 0
def tw12238377542793828182 := 0
def tw5264918199615215301 := 0
def tw233560601178410704 := 0
def tw9391772620255416815 := 0
def tw7021350882723911087 := 0
def tw12026280286154721085 := 0
def tw2306121292118139132 := 0
def tw13807571189680678877 := 0
def tw2775218133149187752 := 0
def tw17828665308989141464 := 0
def tw17446753306382755364 := 0
def tw158528151539500756 := 0
def tw15406606081874541068 := 0
def tw7368555603480898830 := 0
def tw5403141818375172070 := 0
def tw11133818410359884666 := 0
def tw3292184654315559616 := 0
def tw4355095569761973524 := 0
def tw14591635144802648202 := 0
def tw7759933938627028332 := 0
def tw15351973291385094571 := 0
def tw5326916112988461574 := 0
def tw2284269648819616232 := 0
def tw3356387154619007468 := 0
def tw6057145273350383209 := 0
def tw13168694491555162405 := 0
def tw18020091111895285360 := 0
def tw343295781207348818 := 0
def tw12035521944311642496 := 0
def tw18255030914859540630 := 0
def tw1472926276689140596 := 0
def tw4356348728512908021 := 0
def tw9507667548865166448 := 0
def tw15085713229273899416 := 0
def tw6443282328217544136 := 0
def tw15460257296083762973 := 0
def tw9374166015934386061 := 0
def tw16408751702442432864 := 0
def tw8509352192361071698 := 0
def tw5029233660358871256 := 0
def tw14201952687657787389 := 0
def tw18258788094157062198 := 0
def tw7298326994559106356 := 0
def tw3077619063158690983 := 0
def tw11128629613651594031 := 0
def tw14677957180299727810 := 0
def tw6100593873481271872 := 0
def tw13025837697898681465 := 0
def tw8358866690981283242 := 0
def tw11355519096801513840 := 0
def tw10784206471535231513 := 0
def tw2603152130562149636 := 0
def tw5472342454835869134 := 0
def tw3503157450113253813 := 0
def tw8498848271708712574 := 0
def tw12850331208882605596 := 0
def tw5918929237669857970 := 0
def tw6365869766843981051 := 0
def tw2823687834995432150 := 0
def tw16764943443837484542 := 0
def tw5284583136598944519 := 0
def tw18072913830888025935 := 0
def tw9579649081117367683 := 0
def tw85049281023393094 := 0
end PySem.W.Fast
section
namespace L2
open PySem PySem.Spec PyProof.Rows
noncomputable abbrev Key := Sum Int Str
noncomputable def keyIs : Key → Value → Bool
 | .inl k, v => Value.isInt k v
 | .inr x, v => Value.isStrOf x v
noncomputable def keyH (w : World) : Key → Int
 | .inl k => hashInt k
 | .inr x => hashStr w x
theorem keyIs_shape : ∀ {k : Key} {v : Value}, keyIs k v = true → (∃ i t, k = Sum.inl i ∧ v = Value.int i t) ∨ (∃ x t, k = Sum.inr x ∧ v = Value.str x t)
 | .inl i, v, h => by
  obtain ⟨t, e⟩ := Value.isInt_shape (k := i) (v := v) h
  exact .inl ⟨i, t, rfl, e⟩
 | .inr x, v, h => by
  obtain ⟨t, e⟩ := Value.isStrOf_shape (x := x) (v := v) h
  exact .inr ⟨x, t, rfl, e⟩
theorem keyIs_int (i : Int) (t : Tok) : keyIs (.inl i) (.int i t) = true := by simp [keyIs, Value.isInt]
theorem keyIs_str (x : Str) (t : Tok) : keyIs (.inr x) (.str x t) = true := by simp [keyIs, Value.isStrOf]
theorem key_ll (a b : Int) : decide ((Sum.inl a : Key) = Sum.inl b) = (a == b) := by
 by_cases e : a = b
 ·subst e; simp
 ·have h : ¬ (Sum.inl a : Key) = Sum.inl b := fun q => e (Sum.inl.inj q)
  rw [decide_eq_false h]
  exact (beq_eq_false_iff_ne.mpr e).symm
theorem key_rr (a b : Str) : decide ((Sum.inr a : Key) = Sum.inr b) = decide (a = b) := by
 by_cases e : a = b
 ·subst e; simp
 ·have h : ¬ (Sum.inr a : Key) = Sum.inr b := fun q => e (Sum.inr.inj q)
  rw [decide_eq_false h, decide_eq_false e]
theorem key_lr (a : Int) (b : Str) : decide ((Sum.inl a : Key) = Sum.inr b) = false := decide_eq_false (fun q => nomatch q)
theorem key_rl (a : Str) (b : Int) : decide ((Sum.inr a : Key) = Sum.inl b) = false := decide_eq_false (fun q => nomatch q)
noncomputable def mixKind (prog : Program) (w : World) : PySem.KeyKind prog w Key where
 is := keyIs
 hash := keyH w
 inj := fun v a b ha hb => by
  rcases keyIs_shape ha with ⟨i, t, rfl, rfl⟩ | ⟨x, t, rfl, rfl⟩
  ·rcases keyIs_shape hb with ⟨j, u, rfl, e⟩ | ⟨y, u, rfl, e⟩
   ·injection e with e1 _; rw [e1]
   ·exact nomatch e
  ·rcases keyIs_shape hb with ⟨j, u, rfl, e⟩ | ⟨y, u, rfl, e⟩
   ·exact nomatch e
   ·injection e with e1 _; rw [e1]
 byValue := fun k v h => by
  rcases keyIs_shape h with ⟨i, t, rfl, rfl⟩ | ⟨x, t, rfl, rfl⟩ <;> rfl
 pyHash := fun hv h => by
  rcases keyIs_shape hv with ⟨i, t, rfl, rfl⟩ | ⟨x, t, rfl, rfl⟩
  ·exact wpAny_pyHash_int h
  ·exact wpAny_pyHash_str h
 eqBool := fun hu hv h => by
  rcases keyIs_shape hu with ⟨i, t, rfl, rfl⟩ | ⟨x, t, rfl, rfl⟩
  ·rcases keyIs_shape hv with ⟨j, u, rfl, rfl⟩ | ⟨y, u, rfl, rfl⟩
   ·rw [key_ll] at h; exact wpAny_eqBool_int h
   ·rw [key_lr] at h; exact SeqAt.EqAt.int_str i t y u _ _ _ _ h
  ·rcases keyIs_shape hv with ⟨j, u, rfl, rfl⟩ | ⟨y, u, rfl, rfl⟩
   ·rw [key_rl] at h; exact SeqAt.EqAt.str_int x t j u _ _ _ _ h
   ·rw [key_rr] at h; exact wpAny_eqBool_str h
 «strs» := fun k x t v h => by
  rcases keyIs_shape h with ⟨i, u, rfl, e⟩ | ⟨y, u, rfl, e⟩
  ·exact nomatch e
  ·injection e with e1 _
   subst e1
   cases v <;> rfl
theorem mixKind_int (prog : Program) (w : World) (i : Int) (t : Tok) : (mixKind prog w).is (.inl i) (.int i t) = true := keyIs_int i t
theorem mixKind_str (prog : Program) (w : World) (x : Str) (t : Tok) : (mixKind prog w).is (.inr x) (.str x t) = true := keyIs_str x t
end L2
namespace L2
open PySem PySem.Spec PyProof.Rows
inductive V where
 | non | bl (b : Bool) | int (i : Int) | str (x : Str) | byt (b : Array UInt8) | flt (b : UInt64) | ref (a : Addr) | ty (n : String)
 deriving DecidableEq
noncomputable def RelV : V → Value → Prop
 | .non, u => u = Value.none
 | .bl b, u => u = Value.bool b
 | .int i, u => ∃ t, u = Value.int i t
 | .str x, u => ∃ t, u = Value.str x t
 | .byt b, u => ∃ t, u = Value.bytes b t
 | .flt b, u => ∃ t, u = Value.float b t
 | .ref a, u => u = Value.ref a
 | .ty n, u => u = Value.type n
noncomputable abbrev Vals : List V → List Value → Prop := Paired RelV
theorem Vals.length {xs : List V} {us : List Value} (r : Vals xs us) : xs.length = us.length := Paired.length r
theorem Vals.get : ∀ {xs : List V} {us : List Value} {i : Nat} {x : V}, Vals xs us → xs[i]? = some x → ∃ u, us[i]? = some u ∧ RelV x u
 | _, _, _, _, .nil, e => by simp at e
 | _, _, 0, _, .cons r _, e => by simp at e; subst e; exact ⟨_, rfl, r⟩
 | _, _, i + 1, x, .cons _ t, e => by
  obtain ⟨u, h1, h2⟩ := Vals.get (i := i) (x := x) t (by simpa using e)
  exact ⟨u, by simpa using h1, h2⟩
theorem Vals.set {x : V} {u : Value} (r : RelV x u) : ∀ {xs : List V} {us : List Value} (i : Nat), Vals xs us → Vals (xs.set i x) (us.set i u)
 | _, _, _, .nil => .nil
 | _, _, 0, .cons _ t => .cons r t
 | _, _, i + 1, .cons q t => .cons q (Vals.set r i t)
theorem Vals.append : ∀ {xs ys : List V} {us ws : List Value}, Vals xs us → Vals ys ws → Vals (xs ++ ys) (us ++ ws)
 | _, _, _, _, .nil, s => s
 | _, _, _, _, .cons r t, s => .cons r (Vals.append t s)
theorem Vals.take : ∀ {xs : List V} {us : List Value} (n : Nat), Vals xs us → Vals (xs.take n) (us.take n)
 | _, _, 0, _ => .nil
 | _, _, _ + 1, .nil => .nil
 | _, _, n + 1, .cons r t => .cons r (Vals.take n t)
theorem Vals.drop : ∀ {xs : List V} {us : List Value} (n : Nat), Vals xs us → Vals (xs.drop n) (us.drop n)
 | _, _, 0, r => r
 | _, _, _ + 1, .nil => .nil
 | _, _, n + 1, .cons _ t => Vals.drop n t
noncomputable def RelO : Option V → Option Value → Prop
 | some v, some u => RelV v u
 | none, none => True
 | _, _ => False
noncomputable def KV {κ : Type} : List (κ × V) → List (κ × Value) → Prop := Paired fun (p : κ × V) (q : κ × Value) => p.1 = q.1 ∧ RelV p.2 q.2
noncomputable def kV : Key → V
 | .inl i => .int i
 | .inr x => .str x
inductive HO where
  | lst (xs : List V)
  | tup (xs : List V)
  | dK (kvs : List (Key × V)) | dT (kvs : List (List Key × V))
  | set (S : Int → Bool) (n : Nat)
  | ins (C dx : Addr) (fs : List (Str × V))
  | own (x : Addr)
  | xd (fs : List (Str × V))
  | met (f x : Addr)
  | rng (lo hi : Int)
  | frz (o : Obj) (u : HO)
  | tbl (ps : Array Value)
  | ext (φ : Heap → Prop)
noncomputable abbrev Hp := Addr → Option HO
noncomputable def upd (H : Hp) (a : Addr) (o : HO) : Hp := fun b => if b = a then some o else H b
theorem upd_same {H : Hp} {a : Addr} {o : HO} : upd H a o a = some o := by unfold upd; rw [if_pos rfl]
theorem upd_ne {H : Hp} {a b : Addr} {o : HO} (h : b ≠ a) : upd H a o b = H b := by unfold upd; rw [if_neg h]
theorem upd_upd {H : Hp} {a : Addr} {o u : HO} : upd (upd H a o) a u = upd H a u := by
 funext b; unfold upd; split <;> rfl
theorem ne_of {H : Hp} {a b : Addr} {o u : HO} (h : H a = some o) (h' : H b = some u) (d : o ≠ u) : a ≠ b := by
 intro e; subst e; rw [h] at h'; exact d (Option.some.inj h')
theorem ne_of_none {H : Hp} {a b : Addr} {o : HO} (h : H a = some o) (h' : H b = none) : a ≠ b := by
 intro e; subst e; rw [h] at h'; cases h'
section
variable (P : Program) (w : World)
noncomputable def ObjOk (H : Hp) (h : Heap) (a : Addr) : HO → Prop
 | .lst xs => xs.length ≤ sizeLine ∧ ∃ (its : List Value) (n : Nat), Vals xs its ∧ h.get? a = some { cls := .type "list", data := .seq its.toArray n }
 | .tup xs => xs.length ≤ sizeLine ∧ ∃ its : List Value, Vals xs its ∧ IsTup h a its.toArray
 | .dK kvs => kvs.length ≤ sizeLine ∧ (a == sysModules) = false ∧ ∃ vs, KV kvs vs ∧ h.DictOf (mixKind P w) a vs
 | .dT kvs => kvs.length ≤ sizeLine ∧ (a == sysModules) = false ∧ ∃ xs : List (List Key × Addr × Value),
   Paired (fun (p : List Key × V) (q : List Key × Addr × Value) => p.1 = q.1 ∧ H q.2.1 = some (.tup (p.1.map kV)) ∧ RelV p.2 q.2.2) kvs xs ∧
   ∃ o es ep, h.get? a = some o ∧ o.ExactDict ∧ o.data = .dict es ep ∧ es.toList = xs.map (entryOfKey (tupleKind (mixKind P w))) ∧ (xs.map (·.1)).Nodup
 | .set S n => h.SetOf (intKind P w) a S n
 | .ins C dx fs => H dx = some (.own a) ∧ fs.length ≤ 1000 ∧ dx ≠ a ∧ h.get? a = some (PySem.W.instObj C dx) ∧
   ∃ mA, h.Ns1 dx mA ∧ (∀ f, RelO (fs.lookup f) (mA f)) ∧ PySem.Within mA (fs.map (·.1))
 | .own _ => ∃ o, h.get? a = some o
 | .xd fs => ∃ mA, h.Ns1 a mA ∧ ∀ f, RelO (fs.lookup f) (mA f)
 | .rng lo hi => ∃ t u v, h.get? a = some { cls := .type "range", data := .fields #[.int lo t, .int hi u, .int 1 v] }
 | .frz o u => h.get? a = some o ∧ ObjOk H h a u
 | .tbl ps => h.get? a = some { cls := .none, data := .fields ps }
 | .met f x => h.get? a = some (PySem.W.methodObj (.ref f) (.ref x))
 | .ext φ => φ h ∧ (∃ o, h.get? a = some o) ∧ ∀ h1 h2 : Heap, φ h1 → (∀ o, h1.get? a = some o → h2.get? a = some o) → φ h2
noncomputable def HOk (H : Hp) (h : Heap) : Prop := ∀ a o, H a = some o → ObjOk P w H h a o
end
section
variable {P : Program} {w : World} {H H' : Hp} {h h' : Heap} {a : Addr} {o : HO}
theorem ObjOk.lt (x : ObjOk P w H h a o) : a < h.objs.size := by
 cases o with
 | lst xs => obtain ⟨_, _, _, _, e⟩ := x; exact Heap.lt_size e
 | tup xs => obtain ⟨_, _, _, p⟩ := x; exact p.lt
 | dK kvs => obtain ⟨_, _, _, _, o, _, _, e, _⟩ := x; exact Heap.lt_size e
 | dT kvs => obtain ⟨_, _, _, _, o, _, _, e, _⟩ := x; exact Heap.lt_size e
 | set S n => obtain ⟨o, _, _, _, e, _⟩ := x; exact Heap.lt_size e
 | ins C dx fs => obtain ⟨_, _, _, e, _⟩ := x; exact Heap.lt_size e
 | own y => obtain ⟨_, e⟩ := x; exact Heap.lt_size e
 | xd fs => obtain ⟨_, ⟨_, _, _, e, _⟩, _⟩ := x; exact Heap.lt_size e
 | rng lo hi => obtain ⟨_, _, _, e⟩ := x; exact Heap.lt_size e
 | frz ob u => obtain ⟨e, _⟩ := x; exact Heap.lt_size e
 | tbl ps => exact Heap.lt_size (show h.get? a = some _ from x)
 | met f y => exact Heap.lt_size (show h.get? a = some _ from x)
 | ext φ => obtain ⟨_, ⟨_, e⟩, _⟩ := x; exact Heap.lt_size e
theorem Paired.mapP {α β : Type} {F G : α → β → Prop} : ∀ {l₁ : List α} {l₂ : List β}, Paired F l₁ l₂ → (∀ a b, F a b → G a b) → Paired G l₁ l₂
 | _, _, .nil, _ => .nil
 | _, _, .cons r t, f => .cons (f _ _ r) (Paired.mapP t f)
theorem ObjOk.stay (x : ObjOk P w H h a o) (k : ∀ b u, (b = a ∨ H b = some (.own a)) → h.get? b = some u → h'.get? b = some u)
  (ho : ∀ b, H b = some (.own a) → H' b = some (.own a)) (ht : ∀ b xs, H b = some (.tup xs) → H' b = some (.tup xs)) : ObjOk P w H' h' a o := by
 induction o with
 | lst xs => obtain ⟨z, its, n, r, e⟩ := x; exact ⟨z, its, n, r, k _ _ (.inl rfl) e⟩
 | tup xs => obtain ⟨z, its, r, ob, e, c⟩ := x; exact ⟨z, its, r, ob, k _ _ (.inl rfl) e, c⟩
 | dK kvs => obtain ⟨z, y, vs, r, ob, es, ep, e, c⟩ := x; exact ⟨z, y, vs, r, ob, es, ep, k _ _ (.inl rfl) e, c⟩
 | dT kvs =>
  obtain ⟨z, y, xs, r, ob, es, ep, e, c⟩ := x
  exact ⟨z, y, xs, Paired.mapP r fun p q z => ⟨z.1, ht _ _ z.2.1, z.2.2⟩, ob, es, ep, k _ _ (.inl rfl) e, c⟩
 | set S n => obtain ⟨ob, es, ep, t, e, c⟩ := x; exact ⟨ob, es, ep, t, k _ _ (.inl rfl) e, c⟩
 | ins C dx fs =>
  obtain ⟨d, z, ne, e, mA, ⟨od, es, ep, e2, c⟩, r⟩ := x
  exact ⟨ho _ d, z, ne, k _ _ (.inl rfl) e, mA, ⟨od, es, ep, k _ _ (.inr d) e2, c⟩, r⟩
 | own y => obtain ⟨ob, e⟩ := x; exact ⟨ob, k _ _ (.inl rfl) e⟩
 | xd fs => obtain ⟨mA, ⟨od, es, ep, e, c⟩, r⟩ := x; exact ⟨mA, ⟨od, es, ep, k _ _ (.inl rfl) e, c⟩, r⟩
 | rng lo hi => obtain ⟨t, u, v, e⟩ := x; exact ⟨t, u, v, k _ _ (.inl rfl) e⟩
 | frz ob u ih => obtain ⟨e, q⟩ := x; exact ⟨k _ _ (.inl rfl) e, ih q⟩
 | tbl ps =>
  have e : h.get? a = some { cls := .none, data := .fields ps } := x
  show h'.get? a = some { cls := .none, data := .fields ps }
  exact k a _ (.inl rfl) e
 | met f y =>
  have e : h.get? a = some (PySem.W.methodObj (.ref f) (.ref y)) := x
  show h'.get? a = some (PySem.W.methodObj (.ref f) (.ref y))
  exact k a _ (.inl rfl) e
 | ext φ => obtain ⟨p, ⟨o, e⟩, st⟩ := x; exact ⟨st _ _ p fun o q => k _ _ (.inl rfl) q, ⟨o, k _ _ (.inl rfl) e⟩, st⟩
theorem HOk.lt (x : HOk P w H h) (e : H a = some o) : a < h.objs.size := (x a o e).lt
theorem HOk.fresh (x : HOk P w H h) (e : h.objs.size ≤ a) : H a = none := by
 cases q : H a with
 | none => rfl
 | some u => exact absurd (Nat.lt_of_lt_of_le (x.lt q) e) (Nat.lt_irrefl _)
theorem HOk.kept (x : HOk P w H h) (k : ∀ b u, h.get? b = some u → h'.get? b = some u) : HOk P w H h' := fun a o e =>
 (x a o e).stay (fun b u _ q => k b u q) (fun _ q => q) fun _ _ q => q
theorem HOk.laid (x : HOk P w H h) (k : ∀ b u, h.get? b = some u → h'.get? b = some u) (hp : h.objs.size ≤ a) (new : ObjOk P w (upd H a o) h' a o) : HOk P w (upd H a o) h' := fun b u e => by
 have hn := x.fresh hp
 by_cases hb : b = a
 ·subst hb; rw [upd_same] at e; cases e; exact new
 ·rw [upd_ne hb] at e
  exact (x b u e).stay (fun c v _ q => k c v q) (fun c q => by rw [upd_ne (ne_of_none q hn)]; exact q) fun c xs q => by rw [upd_ne (ne_of_none q hn)]; exact q
end
noncomputable def Rd (H : Hp) (a : Addr) (u : HO) : Prop := H a = some u ∨ ∃ o, H a = some (.frz o u)
theorem Rd.ok {P : Program} {w : World} {H : Hp} {h : Heap} {a : Addr} {u : HO} (r : Rd H a u) (x : HOk P w H h) : ObjOk P w H h a u := by
 rcases r with r | ⟨o, r⟩
 ·exact x a u r
 ·obtain ⟨_, q⟩ := x a _ r
  exact q
noncomputable def Mut : Option HO → Prop
 | some (.lst _) => True
 | some (.dK _) => True
 | some (.dT _) => True
 | some (.set _ _) => True
 | some (.ins _ _ _) => True
 | some (.ext _) => True
 | _ => False
section
variable {P : Program} {w : World} {H : Hp} {h h' : Heap} {x e : Addr} {o' : HO}
theorem HOk.write (ok : HOk P w H h) (mu : Mut (H x)) (he : e = x ∨ H e = some (.own x)) (k : ∀ b u, b ≠ e → h.get? b = some u → h'.get? b = some u) (heo : ∃ u, h'.get? e = some u)
  (new : ObjOk P w (upd H x o') h' x o') : HOk P w (upd H x o') h' := fun b u q => by
 have nown : ∀ c y, H c = some (.own y) → c ≠ x := fun c y r z => by subst z; rw [r] at mu; exact mu
 have ntup : ∀ c xs, H c = some (.tup xs) → c ≠ x := fun c xs r z => by subst z; rw [r] at mu; exact mu
 by_cases hb : b = x
 ·subst hb; rw [upd_same] at q; cases q; exact new
 ·rw [upd_ne hb] at q
  by_cases hbe : b = e
  ·have q' : H b = some (.own x) := by
    rcases he with z | z
    ·exact absurd (hbe.trans z) hb
    ·rw [hbe]; exact z
   rw [q] at q'; cases q'
   obtain ⟨v, hv⟩ := heo
   exact ⟨v, by rw [hbe]; exact hv⟩
  ·refine (ok b u q).stay (fun c v hc r => k c v ?_ r) (fun c r => by rw [upd_ne (nown c b r)]; exact r) fun c xs r => by rw [upd_ne (ntup c xs r)]; exact r
   rcases hc with rfl | hc
   ·exact hbe
   ·rintro rfl
    rcases he with z | z
    ·exact nown c b hc z
    ·rw [hc] at z; cases z; exact hb rfl
end
structure Un (fs ex : List Addr) (H H' : Hp) (h h' : Heap) : Prop where
 keep : ∀ b o, h.get? b = some o → H b = none → b ∉ fs → b ∉ ex → h'.get? b = some o
 slot : ∀ b o, h.get? b = some o → H b = none → b ∈ fs → b ∉ ex → ∃ sl, h'.get? b = some { o with slots := sl }
 free : ∀ b o, h.get? b = some o → H b = none → b ∉ ex → H' b = none
 there : ∀ b o, h.get? b = some o → b ∉ ex → ∃ o', h'.get? b = some o'
 tups : ∀ b xs, H b = some (.tup xs) → H' b = some (.tup xs)
 frzs : ∀ b o u, H b = some (.frz o u) → H' b = some (.frz o u)
 tbls : ∀ b ps, H b = some (.tbl ps) → ∃ more, H' b = some (.tbl (ps ++ more))
section
variable {fs fs' ex ex' : List Addr} {H H1 H2 : Hp} {h h1 h2 h' : Heap} {a x e : Addr} {o : HO}
theorem Un.any (u : Un fs ex H H1 h h1) {b : Addr} {ob : Obj} (q : h.get? b = some ob) (n : H b = none) (hx : b ∉ ex) : ∃ sl, h1.get? b = some { ob with slots := sl } := by
 by_cases hb : b ∈ fs
 ·exact u.slot b ob q n hb hx
 ·exact ⟨ob.slots, u.keep b ob q n hb hx⟩
theorem Un.kept (k : ∀ b u, h.get? b = some u → h'.get? b = some u) : Un fs ex H H h h' :=
 ⟨fun b ob q _ _ _ => k b ob q, fun b ob q _ _ _ => ⟨ob.slots, k b ob q⟩, fun _ _ _ n _ => n, fun b ob q _ => ⟨ob, k b ob q⟩, fun _ _ q => q, fun _ _ _ q => q, fun _ ps q => ⟨#[], by rw [q]; simp⟩⟩
theorem Un.refl : Un fs ex H H h h := Un.kept fun _ _ q => q
theorem Un.laid (k : ∀ b u, h.get? b = some u → h'.get? b = some u) (hp : h.objs.size ≤ a) (hn : H a = none) : Un fs ex H (upd H a o) h h' where
 keep := fun b u q _ _ _ => k b u q
 slot := fun b u q _ _ _ => ⟨u.slots, k b u q⟩
 free := fun b u q n _ => by rw [upd_ne (Nat.ne_of_lt (Nat.lt_of_lt_of_le (Heap.lt_size q) hp))]; exact n
 there := fun b u q _ => ⟨u, k b u q⟩
 tups := fun b xs q => by rw [upd_ne (ne_of_none q hn)]; exact q
 frzs := fun b u xs q => by rw [upd_ne (ne_of_none q hn)]; exact q
 tbls := fun b ps q => ⟨#[], by rw [upd_ne (ne_of_none q hn), q]; simp⟩
theorem Un.write (mu : Mut (H x)) (he : e = x ∨ H e = some (.own x)) (k : ∀ b u, b ≠ e → h.get? b = some u → h'.get? b = some u) (heo : ∃ u, h'.get? e = some u) : Un fs ex H (upd H x o) h h' := by
 have hx : ∀ b, H b = none → b ≠ x := fun b n z => by subst z; rw [n] at mu; exact mu
 have hb : ∀ b, H b = none → b ≠ e := fun b n z => by
  subst z
  rcases he with r | r
  ·exact hx b n r
  ·rw [n] at r; cases r
 have hm : ∀ b u, H b = some u → ¬ Mut (some u) → b ≠ x := fun b u q nm z => by subst z; rw [q] at mu; exact nm mu
 refine ⟨fun b u q n _ _ => k b u (hb b n) q, fun b u q n _ _ => ⟨u.slots, k b u (hb b n) q⟩, fun b u q n _ => by rw [upd_ne (hx b n)]; exact n, fun b u q _ => ?_,
  fun b xs q => by rw [upd_ne (hm b _ q fun z => z)]; exact q, fun b u xs q => by rw [upd_ne (hm b _ q fun z => z)]; exact q, fun b ps q => ⟨#[], by rw [upd_ne (hm b _ q fun z => z), q]; simp⟩⟩
 by_cases hbe : b = e
 ·subst hbe; exact heo
 ·exact ⟨u, k b u hbe q⟩
end
noncomputable def trk (h : Heap) (H : Hp) : List Addr := (List.range h.objs.size).filter fun a => (H a).isSome
noncomputable def hidT (h : Heap) (H : Hp) : Heap := PySem.W.hideAll h (trk h H)
theorem hidT_size (h : Heap) (H : Hp) : (hidT h H).objs.size = h.objs.size := PySem.W.hideAll_size _ _
theorem hidT_get {h : Heap} {H : Hp} {b : Addr} {o : Obj} (e : h.get? b = some o) (n : H b = none) : (hidT h H).get? b = some o :=
 PySem.W.hideAll_get _ e fun hm => by
  have q : (H b).isSome = true := (List.mem_filter.mp hm).2
  rw [n] at q; simp at q
theorem of_hidT {h : Heap} {H : Hp} {b : Addr} {o : Obj} (e : (hidT h H).get? b = some o) : h.get? b = some o ∧ H b = none := by
 have e' : h.get? b = some o := PySem.W.of_hideAll (trk h H) e
 refine ⟨e', ?_⟩
 cases q : H b with
 | none => rfl
 | some x =>
  have hm : b ∈ trk h H := List.mem_filter.mpr ⟨List.mem_range.mpr (Heap.lt_size e'), by simp [q]⟩
  have z : (hidT h H).get? b = none := PySem.W.hideAll_none (trk h H) hm
  rw [z] at e; cases e
end L2
namespace L2
open PySem PySem.Spec PyProof.Rows
structure Mod (K : PySem.W.Frag) (mg : Str → Option Value) (base : Heap) : Prop where
 kin : K.In base
 glob : base.Ns mainGlobals mg
 blt : ∃ mb, base.Ns builtinsNs mb ∧ ∀ x : Str, x ≠ "__name__" → mb x = bootBuiltins x
 nolimit : base.NoLimit
structure Cx where
 prog : Program
 w : World
 K : PySem.W.Frag
 mg : Str → Option Value
 base : Heap
 A : Around
 N : List Str
 s_0 : Shared
 H_0 : Hp
 env : Env
 outer : List Env
 stack : List Env
 ex : List Addr
 fn : Str → Bool
 calm : Bool
 pn : List (Addr × Obj)
 xe : Value → Shared → Prop
noncomputable def frs (l : List Env) : List Addr := l.filterMap (·.frame)
noncomputable abbrev Cx.fs (X : Cx) : List Addr := frs X.outer
noncomputable def Vis (sc : Scope) (x : Str) : Prop := sc.names.lookup x = some .local ∨ sc.names.lookup x = some .cell ∨ sc.names.lookup x = some .free
noncomputable def Loc (sc : Scope) (x : Str) : Prop := sc.names.lookup x = some .local ∨ sc.names.lookup x = some .cell
noncomputable def Look (env : Env) (h : Heap) (m : Str → Option Value) (x : Str) (u : Value) : Prop :=
 (env.kindOf x = some .local ∧ m x = some u) ∨ ((env.kindOf x = some .cell ∨ env.kindOf x = some .free) ∧ ∃ c, env.cells.lookup x = some c ∧ h.IsCell c (some u))
structure Cx.Ok (X : Cx) : Prop where
 mod : Mod X.K X.mg X.base
 kind : X.env.scope.kind = .function
 glob : X.env.globals = mainGlobals
 blt : X.env.builtins = builtinsNs
 above : X.s_0.heap.objs.size ≤ X.env.locals
 inj : ∀ x y c, X.env.cells.lookup x = some c → X.env.cells.lookup y = some c → x = y
 has : ∀ x, (X.env.kindOf x = some .cell ∨ X.env.kindOf x = some .free) → ∃ c, X.env.cells.lookup x = some c
 cab : ∀ x c, X.fn x = true → X.env.cells.lookup x = some c → X.s_0.heap.objs.size ≤ c
 hd : X.calm = true → X.A.handled = none
 frames : X.A.frames = some X.stack
 stk : X.stack = X.outer ∨ (X.stack = X.env :: X.outer ∧ X.env.frame = some X.env.locals)
 exf : ∀ b ∈ X.ex, b ≠ X.env.locals ∧ ∀ x c, X.env.cells.lookup x = some c → c ≠ b
 bs : ∀ b o, X.base.get? b = some o → X.s_0.heap.get? b = some o ∧ X.H_0 b = none
 bsz : X.base.objs.size ≤ X.s_0.heap.objs.size
 noex : ∀ b o, X.base.get? b = some o → b ∉ X.ex
 exfs : ∀ b ∈ X.ex, b ∉ X.fs
 funs : X.s_0.heap.FunFrames X.base X.outer
 frf : ∀ b ∈ X.fs, X.H_0 b = none
structure Inv (X : Cx) (pins : List (Addr × Obj)) (σ : List (Option V)) (H : Hp) (s : Shared) : Prop where
 ok : X.Ok
 os : s.os = X.s_0.os
 bare : AllBare s.gens
 base : Un X.fs X.ex X.H_0 H X.s_0.heap s.heap
 loc : ∃ m, s.heap.Ns X.env.locals m ∧ ∀ (i : Nat) (x : Str) (v : V), X.N[i]? = some x → σ[i]? = some (some v) → Vis X.env.scope x → ∃ u, RelV v u ∧ Look X.env s.heap m x u
 cell : ∀ x c, X.env.cells.lookup x = some c → ∃ v, s.heap.IsCell c v
 free : H X.env.locals = none
 freeC : ∀ x c, X.env.cells.lookup x = some c → H c = none
 pin : ∀ p ∈ X.pn ++ pins, s.heap.get? p.1 = some p.2 ∧ H p.1 = none ∧ p.1 ≠ X.env.locals ∧ p.1 ∉ X.fs ∧ ∀ v, p.2.data ≠ .cell v
 hok : HOk X.prog X.w H s.heap
 len : σ.length = X.N.length
section
variable {X : Cx} {pins : List (Addr × Obj)} {σ : List (Option V)} {H H' : Hp} {s : Shared} {h' : Heap}
theorem Cx.Ok.nofr (ok : X.Ok) {b : Addr} {o : Obj} (e : X.base.get? b = some o) : b ∉ X.fs := fun hb => by
 have := (ok.funs.mem hb).1
 rw [e] at this; cases this
theorem Inv.bs (I : Inv X pins σ H s) : ∀ b o, X.base.get? b = some o → s.heap.get? b = some o ∧ H b = none := fun b o e =>
 ⟨I.base.keep b o (I.ok.bs b o e).1 (I.ok.bs b o e).2 (I.ok.nofr e) (I.ok.noex b o e), I.base.free b o (I.ok.bs b o e).1 (I.ok.bs b o e).2 (I.ok.noex b o e)⟩
theorem Inv.bk (I : Inv X pins σ H s) : ∀ b o, X.base.get? b = some o → s.heap.get? b = some o := fun b o e => (I.bs b o e).1
theorem Inv.mod (I : Inv X pins σ H s) : Mod X.K X.mg X.base := I.ok.mod
theorem Inv.kIn (I : Inv X pins σ H s) : X.K.In s.heap := I.ok.mod.kin.keeps I.bk
theorem Inv.lt (I : Inv X pins σ H s) : X.env.locals < s.heap.objs.size := let ⟨_, hn, _⟩ := I.loc; hn.lt
theorem Inv.sz (I : Inv X pins σ H s) : X.s_0.heap.objs.size ≤ s.heap.objs.size := Nat.le_trans I.ok.above (Nat.le_of_lt I.lt)
theorem Inv.nofs (I : Inv X pins σ H s) {a : Addr} (h : s.heap.objs.size ≤ a) : a ∉ X.fs := fun hb => by
 obtain ⟨_, o, ho, _⟩ := I.ok.funs.mem hb
 exact absurd (Nat.lt_of_lt_of_le (Heap.lt_size ho) (Nat.le_trans I.sz h)) (Nat.lt_irrefl _)
theorem Inv.cne (I : Inv X pins σ H s) : ∀ x c, X.env.cells.lookup x = some c → c ≠ X.env.locals := fun x c e z => by
 obtain ⟨v, o, ho, hd⟩ := I.cell x c e
 obtain ⟨m, ⟨o', es, ep, ho', hd', _⟩, _⟩ := I.loc
 rw [z, ho'] at ho; cases ho; rw [hd'] at hd; cases hd
theorem Inv.funs (I : Inv X pins σ H s) : s.heap.FunFrames X.base X.outer := by
 have all : ∀ (l : List Env), (∀ b ∈ frs l, b ∈ X.fs) → X.s_0.heap.FunFrames X.base l → s.heap.FunFrames X.base l := by
  intro l
  induction l with
  | nil => intro _ _; trivial
  | cons env r ih =>
   intro hs hl
   obtain ⟨hk, ⟨L, o, hf, hn, ho, hd⟩, hr⟩ := hl
   have hL : L ∈ X.fs := hs L (by unfold frs; rw [List.filterMap_cons, hf]; exact List.mem_cons_self)
   obtain ⟨sl, e⟩ := I.base.slot L o ho (I.ok.frf L hL) hL fun z => I.ok.exfs L z hL
   exact ⟨hk, ⟨L, _, hf, hn, e, hd⟩, ih (fun b hb => hs b (by unfold frs; rw [List.filterMap_cons, hf]; exact List.mem_cons_of_mem _ hb)) hr⟩
 exact all X.outer (fun _ hb => hb) I.ok.funs
theorem Inv.stack (I : Inv X pins σ H s) : s.heap.FunFrames X.base X.stack := by
 rcases I.ok.stk with e | ⟨e, hf⟩
 ·rw [e]; exact I.funs
 ·rw [e]
  obtain ⟨m, hn, _⟩ := I.loc
  refine .cons (by rw [I.ok.kind]; decide) hf hn ?_ I.funs
  exact Heap.get?_none_of_le (Nat.le_trans I.ok.bsz I.ok.above)
theorem Inv.stkSub (I : Inv X pins σ H s) : ∀ b ∈ frs X.stack, b ∈ X.env.locals :: X.fs := fun b hb => by
 rcases I.ok.stk with e | ⟨e, hf⟩
 ·rw [e] at hb; exact List.mem_cons_of_mem _ hb
 ·rw [e] at hb
  unfold frs at hb
  rw [List.filterMap_cons, hf] at hb
  exact hb
theorem Inv.stkFree (I : Inv X pins σ H s) : ∀ b ∈ frs X.stack, H b = none := fun b hb => by
 rcases List.mem_cons.mp (I.stkSub b hb) with e | hb
 ·rw [e]; exact I.free
 ·obtain ⟨_, o, ho, _⟩ := I.ok.funs.mem hb
  exact I.base.free b o ho (I.ok.frf b hb) fun z => I.ok.exfs b z hb
theorem Inv.step {g' : Array GenState} {t' : Nat} {d' : Drawn} {ch : List Addr} (I : Inv X pins σ H s)
  (hch : ∀ b ∈ ch, (b ∈ X.ex ∨ X.s_0.heap.objs.size ≤ b) ∧ b ≠ X.env.locals ∧ (∀ x c, X.env.cells.lookup x = some c → c ≠ b) ∧ ∀ p ∈ X.pn ++ pins, p.1 ≠ b)
  (keep : ∀ b o, b ≠ X.env.locals → b ∉ X.fs → b ∉ ch → s.heap.get? b = some o → H b = none → h'.get? b = some o)
  (slot : ∀ b o, b ≠ X.env.locals → b ∈ X.fs → b ∉ ch → s.heap.get? b = some o → H b = none → ∃ sl, h'.get? b = some { o with slots := sl }) (free : ∀ b o, b ∉ ch → s.heap.get? b = some o → H b = none → H' b = none)
  (there : ∀ b o, b ∉ ch → s.heap.get? b = some o → ∃ o', h'.get? b = some o')
  (tups : ∀ b xs, H b = some (.tup xs) → H' b = some (.tup xs)) (frzs : ∀ b o u, H b = some (.frz o u) → H' b = some (.frz o u)) (tbls : ∀ b ps, H b = some (.tbl ps) → ∃ more, H' b = some (.tbl (ps ++ more)))
  (ns : ∀ m, s.heap.Ns X.env.locals m → h'.Ns X.env.locals m) (hok : HOk X.prog X.w H' h') (hg : AllBare g') :
  Inv X pins σ H' { s with heap := h', gens := g', drawn := d', toks := t' } := by
 have neL : ∀ b o, X.s_0.heap.get? b = some o → b ≠ X.env.locals := fun b o e => Nat.ne_of_lt (Nat.lt_of_lt_of_le (Heap.lt_size e) I.ok.above)
 have neC : ∀ b o, X.s_0.heap.get? b = some o → b ∉ X.ex → b ∉ ch := fun b o e hx hb => by
  rcases (hch b hb).1 with z | z
  ·exact hx z
  ·exact absurd (Nat.lt_of_lt_of_le (Heap.lt_size e) z) (Nat.lt_irrefl _)
 have cellK : ∀ x c, X.env.cells.lookup x = some c → ∀ v, s.heap.IsCell c v → h'.IsCell c v := fun x c e v ⟨o, ho, hd⟩ => by
  have nch : c ∉ ch := fun z => (hch c z).2.2.1 x c e rfl
  by_cases hc : c ∈ X.fs
  ·obtain ⟨sl, q⟩ := slot c o (I.cne x c e) hc nch ho (I.freeC x c e)
   exact ⟨_, q, hd⟩
  ·exact ⟨o, keep c o (I.cne x c e) hc nch ho (I.freeC x c e), hd⟩
 refine ⟨I.ok, I.os, hg, ⟨fun b o e n hb hx => ?_, fun b o e n hb hx => ?_, fun b o e n hx => ?_, fun b o e hx => ?_, fun b xs e => tups b xs (I.base.tups b xs e), fun b o xs e => frzs b o xs (I.base.frzs b o xs e), fun b ps e => ?_⟩, ?_, fun x c e => ?_, ?_, fun x c e => ?_, fun p hp => ?_, hok, I.len⟩
 ·exact keep b o (neL b o e) hb (neC b o e hx) (I.base.keep b o e n hb hx) (I.base.free b o e n hx)
 ·obtain ⟨sl, e1⟩ := I.base.slot b o e n hb hx
  obtain ⟨sl', e2⟩ := slot b _ (neL b o e) hb (neC b o e hx) e1 (I.base.free b o e n hx)
  exact ⟨sl', e2⟩
 ·obtain ⟨o', e1⟩ := I.base.there b o e hx
  exact free b o' (neC b o e hx) e1 (I.base.free b o e n hx)
 ·obtain ⟨o', e1⟩ := I.base.there b o e hx
  exact there b o' (neC b o e hx) e1
 ·obtain ⟨m1, e1⟩ := I.base.tbls b ps e
  obtain ⟨m2, e2⟩ := tbls b _ e1
  exact ⟨m1 ++ m2, by rw [e2, Array.append_assoc]⟩
 ·obtain ⟨m, hn, hl⟩ := I.loc
  refine ⟨m, ns m hn, fun i x v e1 e2 e3 => ?_⟩
  obtain ⟨u, r, l⟩ := hl i x v e1 e2 e3
  refine ⟨u, r, ?_⟩
  rcases l with l | ⟨k, c, e, z⟩
  ·exact .inl l
  ·exact .inr ⟨k, c, e, cellK x c e _ z⟩
 ·obtain ⟨v, z⟩ := I.cell x c e
  exact ⟨v, cellK x c e v z⟩
 ·obtain ⟨m, ⟨o, _, _, ho, _⟩, _⟩ := I.loc
  exact free _ o (fun z => (hch _ z).2.1 rfl) ho I.free
 ·obtain ⟨v, o, ho, hd⟩ := I.cell x c e
  exact free c o (fun z => (hch c z).2.2.1 x c e rfl) ho (I.freeC x c e)
 ·obtain ⟨e, n, ne, nf, d⟩ := I.pin p hp
  have nch : p.1 ∉ ch := fun z => (hch p.1 z).2.2.2 p hp rfl
  exact ⟨keep p.1 p.2 ne nf nch e n, free p.1 p.2 nch e n, ne, nf, d⟩
theorem Inv.un {t' : Nat} (I : Inv X pins σ H s) (u : Un X.fs [] H H' s.heap h') (hok : HOk X.prog X.w H' h') : Inv X pins σ H' { s with heap := h', toks := t' } := by
 obtain ⟨m, ⟨o, es, ep, ho, r⟩, _⟩ := id I.loc
 obtain ⟨sl, hL⟩ := u.any ho I.free (by simp)
 exact I.step (g' := s.gens) (d' := s.drawn) (ch := []) (fun _ z => nomatch z) (fun b o _ hb _ e n => u.keep b o e n hb (by simp)) (fun b o _ hb _ e n => u.slot b o e n hb (by simp)) (fun b o _ e n => u.free b o e n (by simp)) (fun b o _ e => u.there b o e (by simp)) u.tups u.frzs u.tbls (fun m' hm => by
  obtain ⟨o', es', ep', ho', r'⟩ := hm
  rw [ho] at ho'; cases ho'
  exact ⟨_, es', ep', hL, r'⟩) hok I.bare
theorem Inv.call {g' : Array GenState} {t' : Nat} {d' : Drawn} {ch : List Addr} (I : Inv X pins σ H s) (u : Un (frs X.stack) ch H H' s.heap h') (hok : HOk X.prog X.w H' h') (hg : AllBare g')
  (hch : ∀ b ∈ ch, (b ∈ X.ex ∨ X.s_0.heap.objs.size ≤ b) ∧ b ≠ X.env.locals ∧ (∀ x c, X.env.cells.lookup x = some c → c ≠ b) ∧ ∀ p ∈ X.pn ++ pins, p.1 ≠ b) :
  Inv X pins σ H' { s with heap := h', gens := g', drawn := d', toks := t' } := by
 obtain ⟨m, ⟨o, es, ep, ho, r⟩, _⟩ := id I.loc
 obtain ⟨sl, hL⟩ := u.any ho I.free fun z => (hch _ z).2.1 rfl
 exact I.step (ch := ch) hch (fun b o hL hb hc e n => u.keep b o e n (fun z => (List.mem_cons.mp (I.stkSub b z)).elim hL hb) hc) (fun b o _ _ hc e n => u.any e n hc) (fun b o hc e n => u.free b o e n hc) (fun b o hc e => u.there b o e hc) u.tups u.frzs u.tbls (fun m' hm => by
  obtain ⟨o', es', ep', ho', r'⟩ := hm
  rw [ho] at ho'; cases ho'
  exact ⟨_, es', ep', hL, r'⟩) hok hg
theorem Inv.turned {t' : Nat} {it : Addr} (I : Inv X pins σ H s) (k : ∀ b o, b ≠ it → s.heap.get? b = some o → h'.get? b = some o) (hn : H it = none) (hL : it ≠ X.env.locals)
  (h1 : it ∈ X.ex ∨ X.s_0.heap.objs.size ≤ it) (h2 : ∀ x c, X.env.cells.lookup x = some c → c ≠ it) (h3 : ∀ p ∈ X.pn ++ pins, p.1 ≠ it) : Inv X pins σ H { s with heap := h', toks := t' } := by
 have nit : ∀ b u, H b = some u → b ≠ it := fun b u e z => by rw [z, hn] at e; cases e
 refine I.step (g' := s.gens) (d' := s.drawn) (ch := [it]) (fun b hb => ?_) (fun b o _ _ hc e _ => k b o (fun z => hc (by simp [z])) e) (fun b o _ _ hc e _ => ⟨o.slots, k b o (fun z => hc (by simp [z])) e⟩) (fun _ _ _ _ n => n)
  (fun b o hc e => ⟨o, k b o (fun z => hc (by simp [z])) e⟩) (fun _ _ e => e) (fun _ _ _ e => e) (fun b ps e => ⟨#[], by rw [e]; simp⟩) (fun m hm => ?_) (fun b u e => ?_) I.bare
 ·have e : b = it := by simpa using hb
  subst e
  exact ⟨h1, hL, h2, h3⟩
 ·obtain ⟨o, es, ep, ho, r⟩ := hm
  exact ⟨o, es, ep, k _ o (Ne.symm hL) ho, r⟩
 ·refine (I.hok b u e).stay (fun c v hc q => k c v ?_ q) (fun _ q => q) fun _ _ q => q
  rcases hc with z | z
  ·rw [z]; exact nit b u e
  ·exact nit c _ z
theorem Inv.tok (I : Inv X pins σ H s) (t : Nat) : Inv X pins σ H { s with toks := t } := I.un (h' := s.heap) (t' := t) Un.refl I.hok
theorem Inv.kept {t' : Nat} (I : Inv X pins σ H s) (k : ∀ b u, s.heap.get? b = some u → h'.get? b = some u) : Inv X pins σ H { s with heap := h', toks := t' } := I.un (Un.kept k) (I.hok.kept k)
theorem Inv.laid {a : Addr} {o : HO} {t' : Nat} (I : Inv X pins σ H s) (k : ∀ b u, s.heap.get? b = some u → h'.get? b = some u) (hp : s.heap.objs.size ≤ a) (new : ObjOk X.prog X.w (upd H a o) h' a o) :
  Inv X pins σ (upd H a o) { s with heap := h', toks := t' } := I.un (Un.laid k hp (I.hok.fresh hp)) (I.hok.laid k hp new)
theorem Inv.write {x e : Addr} {o : HO} {t' : Nat} (I : Inv X pins σ H s) (mu : Mut (H x)) (he : e = x ∨ H e = some (.own x)) (k : ∀ b u, b ≠ e → s.heap.get? b = some u → h'.get? b = some u) (heo : ∃ u, h'.get? e = some u)
  (new : ObjOk X.prog X.w (upd H x o) h' x o) : Inv X pins σ (upd H x o) { s with heap := h', toks := t' } := I.un (Un.write mu he k heo) (I.hok.write mu he k heo new)
theorem Inv.weak {σ' : List (Option V)} (I : Inv X pins σ H s) (hl : σ'.length = σ.length) (w : ∀ (i : Nat) v, σ'[i]? = some (some v) → σ[i]? = some (some v)) : Inv X pins σ' H s :=
 ⟨I.ok, I.os, I.bare, I.base, let ⟨m, hn, hl'⟩ := I.loc; ⟨m, hn, fun i x v e1 e2 e3 => hl' i x v e1 (w i v e2) e3⟩, I.cell, I.free, I.freeC, I.pin, I.hok, hl.trans I.len⟩
theorem Inv.pins_of {pins' : List (Addr × Obj)} (I : Inv X pins σ H s) (h : ∀ p ∈ pins', s.heap.get? p.1 = some p.2 ∧ H p.1 = none ∧ p.1 ≠ X.env.locals ∧ p.1 ∉ X.fs ∧ ∀ v, p.2.data ≠ .cell v) : Inv X pins' σ H s :=
 ⟨I.ok, I.os, I.bare, I.base, I.loc, I.cell, I.free, I.freeC, fun p hp => (List.mem_append.mp hp).elim (fun z => I.pin p (List.mem_append_left _ z)) (h p), I.hok, I.len⟩
theorem nodup_ix {N : List Str} (hN : N.Nodup) {i j : Nat} {x : Str} (a : N[i]? = some x) (b : N[j]? = some x) : i = j := by
 obtain ⟨h1, e1⟩ := List.getElem?_eq_some_iff.mp a
 obtain ⟨h2, e2⟩ := List.getElem?_eq_some_iff.mp b
 exact (List.getElem_inj hN).mp (e1.trans e2.symm)
theorem store_ok2 {M : Model} {A : Around} {E : Value → Shared → Prop} {i : Nat} {x : Str} {v : V} {u : Value} {Q : Unit → Shared → Prop} (I : Inv X pins σ H s) (hN : X.N.Nodup) (hi : X.N[i]? = some x) (hx : Loc X.env.scope x) (r : RelV v u)
  (h : ∀ s', Inv X pins (σ.set i (some v)) H s' → (∃ a, Heap.SameBut a s.heap s'.heap ∧ (a = X.env.locals ∨ X.env.cells.lookup x = some a)) → Q () s') (hf : X.fn x = true ∨ X.env.scope.names.lookup x = some .local := by first | exact .inl rfl | exact .inr rfl | assumption) : wpAny M A (storeName X.env x u) Q E s := by
 obtain ⟨m, hn, hl⟩ := id I.loc
 have hcls : (X.env.scope.kind == .class || (X.env.scope.kind == .module && X.env.locals != X.env.globals)) = false := by rw [I.ok.kind]; rfl
 have hiσ : i < σ.length := by rw [I.len]; exact (List.getElem?_eq_some_iff.mp hi).1
 have cne := I.cne
 have tracked : ∀ {a : Addr} {h' : Heap}, (∃ o, s.heap.get? a = some o ∧ H a = none) → Heap.SameBut a s.heap h' → HOk X.prog X.w H h' := fun {a h'} ha hs b ob e => by
  obtain ⟨_, _, hfree⟩ := ha
  refine (I.hok b ob e).stay (fun c w' hc q => (hs.2 c ?_).trans q) (fun _ q => q) fun _ _ q => q
  rintro rfl
  rcases hc with rfl | hc
  ·rw [hfree] at e; cases e
  ·rw [hfree] at hc; cases hc
 rcases hx with hk | hk
 ·refine wpAny_storeName_local hk hn (fun h' hn' hs => ?_) hcls
  obtain ⟨oL, _, _, hoL, _⟩ := id hn
  refine h _ ⟨I.ok, I.os, I.bare, ⟨fun b o e n hb hx => ?_, fun b o e n hb hx => ?_, I.base.free, fun b o e hx => ?_, I.base.tups, I.base.frzs, I.base.tbls⟩, ⟨_, hn', fun j y v' e1 e2 e3 => ?_⟩, fun y c e => ?_, I.free, I.freeC, fun p hp => ?_, tracked ⟨oL, hoL, I.free⟩ hs, by simpa using I.len⟩ ⟨_, hs, .inl rfl⟩
  ·exact (hs.2 b (Nat.ne_of_lt (Nat.lt_of_lt_of_le (Heap.lt_size e) I.ok.above))).trans (I.base.keep b o e n hb hx)
  ·obtain ⟨sl, e1⟩ := I.base.slot b o e n hb hx
   exact ⟨sl, (hs.2 b (Nat.ne_of_lt (Nat.lt_of_lt_of_le (Heap.lt_size e) I.ok.above))).trans e1⟩
  ·obtain ⟨o', e1⟩ := I.base.there b o e hx
   exact ⟨o', (hs.2 b (Nat.ne_of_lt (Nat.lt_of_lt_of_le (Heap.lt_size e) I.ok.above))).trans e1⟩
  ·by_cases hj : j = i
   ·subst hj
    rw [hi] at e1; cases e1
    rw [List.getElem?_set_self hiσ] at e2
    cases e2
    exact ⟨u, r, .inl ⟨hk, by simp⟩⟩
   ·rw [List.getElem?_set_ne (Ne.symm hj)] at e2
    obtain ⟨u', r', q⟩ := hl j y v' e1 e2 e3
    refine ⟨u', r', ?_⟩
    rcases q with ⟨k, e⟩ | ⟨k, c, e, z⟩
    ·refine .inl ⟨k, ?_⟩
     have : y ≠ x := fun e => hj (nodup_ix hN e1 (e ▸ hi))
     simp [this, e]
    ·exact .inr ⟨k, c, e, z.sameBut hs (cne y c e)⟩
  ·obtain ⟨w', z⟩ := I.cell y c e
   exact ⟨w', z.sameBut hs (cne y c e)⟩
  ·obtain ⟨e, n, ne, nf, d⟩ := I.pin p hp
   exact ⟨(hs.2 p.1 ne).trans e, n, ne, nf, d⟩
 ·have hfn : X.fn x = true := by
   rcases hf with z | z
   ·exact z
   ·rw [z] at hk; cases hk
  obtain ⟨c, hc⟩ := I.ok.has x (.inl hk)
  obtain ⟨w', z⟩ := I.cell x c hc
  refine wpAny_storeName_cell I.ok.kind hk hc z (fun h' hc' hs => ?_)
  obtain ⟨oc, hoc, hocd⟩ := id z
  refine h { s with heap := h' } ⟨I.ok, I.os, I.bare, ⟨fun b o e n hb hx => ?_, fun b o e n hb hx => ?_, I.base.free, fun b o e hx => ?_, I.base.tups, I.base.frzs, I.base.tbls⟩, ⟨m, hn.sameBut hs (Ne.symm (cne x c hc)), fun j y v' e1 e2 e3 => ?_⟩, fun y c' e => ?_, I.free, I.freeC, fun p hp => ?_, tracked ⟨oc, hoc, I.freeC x c hc⟩ hs, by simpa using I.len⟩ ⟨c, hs, .inr hc⟩
  ·exact (hs.2 b (Nat.ne_of_lt (Nat.lt_of_lt_of_le (Heap.lt_size e) (I.ok.cab x c hfn hc)))).trans (I.base.keep b o e n hb hx)
  ·obtain ⟨sl, e1⟩ := I.base.slot b o e n hb hx
   exact ⟨sl, (hs.2 b (Nat.ne_of_lt (Nat.lt_of_lt_of_le (Heap.lt_size e) (I.ok.cab x c hfn hc)))).trans e1⟩
  ·obtain ⟨o', e1⟩ := I.base.there b o e hx
   exact ⟨o', (hs.2 b (Nat.ne_of_lt (Nat.lt_of_lt_of_le (Heap.lt_size e) (I.ok.cab x c hfn hc)))).trans e1⟩
  ·by_cases hj : j = i
   ·subst hj
    rw [hi] at e1; cases e1
    rw [List.getElem?_set_self hiσ] at e2
    cases e2
    exact ⟨u, r, .inr ⟨.inl hk, c, hc, hc'⟩⟩
   ·rw [List.getElem?_set_ne (Ne.symm hj)] at e2
    obtain ⟨u', r', q⟩ := hl j y v' e1 e2 e3
    refine ⟨u', r', ?_⟩
    rcases q with q | ⟨k, c', e, z'⟩
    ·exact .inl q
    ·refine .inr ⟨k, c', e, z'.sameBut hs ?_⟩
     rintro rfl
     exact hj (nodup_ix hN e1 (I.ok.inj _ _ _ e hc ▸ hi))
  ·by_cases hcc : c' = c
   ·subst hcc; exact ⟨_, hc'⟩
   ·obtain ⟨w2, z2⟩ := I.cell y c' e
    exact ⟨w2, z2.sameBut hs hcc⟩
  ·obtain ⟨e, n, ne, nf, d⟩ := I.pin p hp
   refine ⟨(hs.2 p.1 ?_).trans e, n, ne, nf, d⟩
   intro q
   rw [q, hoc] at e
   have q' : oc = p.2 := Option.some.inj e
   exact d w' (by rw [← q']; exact hocd)
theorem store_ok {M : Model} {A : Around} {E : Value → Shared → Prop} {i : Nat} {x : Str} {v : V} {u : Value} {Q : Unit → Shared → Prop} (I : Inv X pins σ H s) (hN : X.N.Nodup) (hi : X.N[i]? = some x) (hx : Loc X.env.scope x) (r : RelV v u)
  (h : ∀ s', Inv X pins (σ.set i (some v)) H s' → Q () s') (hf : X.fn x = true ∨ X.env.scope.names.lookup x = some .local := by first | exact .inl rfl | exact .inr rfl | assumption) : wpAny M A (storeName X.env x u) Q E s :=
 store_ok2 I hN hi hx r (fun s' I' _ => h s' I') hf
theorem Inv.call' {s' : Shared} {ch : List Addr} (I : Inv X pins σ H s) (ho : s'.os = s.os) (u : Un (frs X.stack) ch H H' s.heap s'.heap) (hok : HOk X.prog X.w H' s'.heap) (hg : AllBare s'.gens)
  (hch : ∀ b ∈ ch, (b ∈ X.ex ∨ X.s_0.heap.objs.size ≤ b) ∧ b ≠ X.env.locals ∧ (∀ x c, X.env.cells.lookup x = some c → c ≠ b) ∧ ∀ p ∈ X.pn ++ pins, p.1 ≠ b) : Inv X pins σ H' s' := by
 obtain ⟨h', g', d', t', o'⟩ := s'
 have e : o' = s.os := ho
 subst e
 exact I.call (g' := g') (t' := t') (d' := d') u hok hg hch
end
noncomputable abbrev XK := Value → Option Addr → Hp → Prop
noncomputable abbrev St := List (Option V)
noncomputable abbrev VK := V → Hp → Prop
noncomputable abbrev TE := St → Hp → VK → Prop
noncomputable abbrev TT := St → Hp → (Bool → Hp → Prop) → Prop
noncomputable abbrev TA := St → Hp → (List V → Hp → Prop) → Prop
structure Ends where
 nx : St → Hp → Prop
 rt : VK
 bk : St → Hp → Prop := fun _ _ => False
 ct : St → Hp → Prop := fun _ _ => False
noncomputable abbrev TS := Ends → St → Hp → Prop
noncomputable def EP (X : Cx) (pins : List (Addr × Obj)) (σ : St) (Q : VK) (u : Value) (s' : Shared) : Prop := ∃ v H', Inv X pins σ H' s' ∧ RelV v u ∧ Q v H'
noncomputable def TP (X : Cx) (pins : List (Addr × Obj)) (σ : St) (Q : Bool → Hp → Prop) (b : Bool) (s' : Shared) : Prop := ∃ H', Inv X pins σ H' s' ∧ Q b H'
noncomputable def AP (X : Cx) (pins : List (Addr × Obj)) (σ : St) (Q : List V → Hp → Prop) (us : List Value) (s' : Shared) : Prop := ∃ vs H', Inv X pins σ H' s' ∧ Vals vs us ∧ Q vs H'
noncomputable def SP (X : Cx) (pins : List (Addr × Obj)) (D : Ends) (f : Flow) (s' : Shared) : Prop :=
 match f with
 | .next => ∃ σ' H', Inv X pins σ' H' s' ∧ D.nx σ' H'
 | .brk => ∃ σ' H', Inv X pins σ' H' s' ∧ D.bk σ' H'
 | .cont => ∃ σ' H', Inv X pins σ' H' s' ∧ D.ct σ' H'
 | .ret u => ∃ v σ' H', Inv X pins σ' H' s' ∧ RelV v u ∧ D.rt v H'
noncomputable def PE (X : Cx) (e : Expr) (t : TE) : Prop :=
 ∀ (pins : List (Addr × Obj)) (s : Shared) (σ : St) (H : Hp) (Q : VK), Inv X pins σ H s → t σ H Q → wpAny (model X.prog X.w) X.A (eval e X.env) (EP X pins σ Q) X.xe s
noncomputable def PT (X : Cx) (e : Expr) (t : TT) : Prop :=
 ∀ (pins : List (Addr × Obj)) (s : Shared) (σ : St) (H : Hp) (Q : Bool → Hp → Prop), Inv X pins σ H s → t σ H Q → wpAny (model X.prog X.w) X.A (isTrue e X.env (eval e X.env)) (TP X pins σ Q) X.xe s
noncomputable def PW (X : Cx) (e : Expr) (t : TT) : Prop :=
 ∀ (whole : Sem Value) (pins : List (Addr × Obj)) (s : Shared) (σ : St) (H : Hp) (Q : Bool → Hp → Prop), Inv X pins σ H s → t σ H Q → wpAny (model X.prog X.w) X.A (isTrue e X.env whole) (TP X pins σ Q) X.xe s
theorem PW.pt {X : Cx} {e : Expr} {t : TT} (h : PW X e t) : PT X e t := h _
noncomputable def PA (X : Cx) (es : List Expr) (t : TA) : Prop :=
 ∀ (pos : Pos) (pins : List (Addr × Obj)) (s : Shared) (σ : St) (H : Hp) (Q : List V → Hp → Prop), Inv X pins σ H s → t σ H Q → wpAny (model X.prog X.w) X.A (spliced (backTo pos (starEach es X.env))) (AP X pins σ Q) X.xe s
noncomputable def PS (X : Cx) (st : Stmt) (t : TS) : Prop :=
 ∀ (pins : List (Addr × Obj)) (s : Shared) (σ : St) (H : Hp) (D : Ends), Inv X pins σ H s → t D σ H → wpAny (model X.prog X.w) X.A (exec st X.env) (SP X pins D) X.xe s
noncomputable def PSs (X : Cx) (st : List Stmt) (t : TS) : Prop :=
 ∀ (pins : List (Addr × Obj)) (s : Shared) (σ : St) (H : Hp) (D : Ends), Inv X pins σ H s → t D σ H → wpAny (model X.prog X.w) X.A (execs st X.env) (SP X pins D) X.xe s
theorem thn {α : Type} {t : Sem α} {Q Q' : α → Shared → Prop} {M : Model} {A : Around} {E : Value → Shared → Prop} {s : Shared} (h : wpAny M A t Q E s) (hQ : ∀ a s, Q a s → Q' a s) : wpAny M A t Q' E s := wpAny_mono h hQ fun _ _ x => x
end L2
namespace L2
open PySem PySem.Spec PyProof.Rows
section
variable {X : Cx}
noncomputable def tVar (i : Nat) : TE := fun σ H Q => ∃ v, σ[i]? = some (some v) ∧ Q v H
noncomputable def tC (v : V) : TE := fun _ H Q => Q v H
theorem pe_var {i : Nat} {x : Str} {pos : Pos} (hN : X.N[i]? = some x) (hv : Vis X.env.scope x) (hd : (x == ("__debug__" : Str)) = false := by decide) (hcd : (x == ("__classdict__" : Str)) = false := by decide) : PE X (.Name x pos) (tVar i) := by
 intro pins s σ H Q I h
 obtain ⟨v, e, h⟩ := h
 obtain ⟨m, hn, hl⟩ := I.loc
 obtain ⟨u, r, l⟩ := hl i x v hN e hv
 have fin : EP X pins σ Q u s := ⟨v, H, I, r, h⟩
 rcases l with ⟨hk, hm⟩ | ⟨hk, c, hc, hcell⟩
 ·exact wpAny_Name (wpAny_loadName_local I.ok.kind hk hn hm fin) hd
 ·rcases hk with hk | hk
  ·exact wpAny_Name (wpAny_loadName_cell I.ok.kind hk hc hcell fin) hd
  ·exact wpAny_Name (wpAny_loadName_free I.ok.kind hk hc hcell fin hcd) hd
theorem pe_int {i j pos} : PE X (.Constant (.int i) j pos) (tC (.int i)) := fun _ _ _ H _ I h => wpAny_Constant_int ⟨.int i, H, I.tok _, ⟨_, rfl⟩, h⟩
theorem pe_bl {b j pos} : PE X (.Constant (.bool b) j pos) (tC (.bl b)) := fun _ _ _ H _ I h => Constant_bool ⟨.bl b, H, I, rfl, h⟩
theorem pe_non {j pos} : PE X (.Constant .none j pos) (tC .non) := fun _ _ _ H _ I h => Constant_none ⟨.non, H, I, rfl, h⟩
theorem pe_str {x j pos} : PE X (.Constant (.str x) j pos) (tC (.str x)) := fun _ _ _ H _ I h => Calls.Constant_str ⟨.str x, H, I.tok _, ⟨_, rfl⟩, h⟩
noncomputable def Gl (X : Cx) (x : Str) : Prop := X.env.kindOf x = some .globalImplicit
theorem ld_glob {E : Value → Shared → Prop} {pins : List (Addr × Obj)} {s : Shared} {σ : St} {H : Hp} {x : Str} {u : Value} {pos : Pos} {Q : Value → Shared → Prop} (I : Inv X pins σ H s) (hg : Gl X x) (hm : X.mg x = some u) (h : Q u s)
  (hd : (x == ("__debug__" : Str)) = false := by decide) : wpAny (model X.prog X.w) X.A (eval (.Name x pos) X.env) Q E s :=
 Calls.Name_function_global I.ok.kind hg (Calls.loadGlobal_global (by rw [I.ok.glob]; exact I.mod.glob.keeps I.bk) hm h) hd
theorem ld_blt {E : Value → Shared → Prop} {pins : List (Addr × Obj)} {s : Shared} {σ : St} {H : Hp} {x : Str} {u : Value} {pos : Pos} {Q : Value → Shared → Prop} (I : Inv X pins σ H s) (hg : Gl X x) (hm : X.mg x = none) (hv : bootBuiltins x = some u) (h : Q u s)
  (hn : x ≠ "__name__" := by decide) (hd : (x == ("__debug__" : Str)) = false := by decide) : wpAny (model X.prog X.w) X.A (eval (.Name x pos) X.env) Q E s := by
 obtain ⟨mb, h1, h2⟩ := I.mod.blt
 exact Calls.Name_function_global I.ok.kind hg (Calls.loadGlobal_builtin (by rw [I.ok.glob]; exact I.mod.glob.keeps I.bk) hm (by rw [I.ok.blt]; exact h1.keeps I.bk) ((h2 x hn).trans hv) h) hd
theorem pe_glob {x : Str} {v : V} {u : Value} {pos : Pos} (hg : Gl X x) (hm : X.mg x = some u) (r : RelV v u) (hd : (x == ("__debug__" : Str)) = false := by decide) : PE X (.Name x pos) (tC v) :=
 fun _ _ _ H _ I h => ld_glob I hg hm ⟨v, H, I, r, h⟩ hd
variable {a b : Expr} {ta tb : TE} {pos : Pos}
noncomputable def PC (X : Cx) (op : CmpOp) (a b : Expr) (t : TE) : Prop :=
 ∀ (pins : List (Addr × Obj)) (s : Shared) (σ : St) (H : Hp) (Q : VK), Inv X pins σ H s → t σ H Q →
  wpAny (model X.prog X.w) X.A (eval a X.env) (fun v s₁ => wpAny (model X.prog X.w) X.A (eval b X.env) (fun u s₂ => wpAny (model X.prog X.w) X.A (compareOp op v u) (EP X pins σ Q) X.xe s₂) X.xe s₁) X.xe s
noncomputable def tB (t : TE) : TT := fun σ H Q => t σ H fun x H1 => ∃ c, x = .bl c ∧ Q c H1
theorem pt_cmp {op : CmpOp} {t : TE} (h : PC X op a b t) (h1 : behindInMarks op b = false := by first | exact nobehind _ (by decide) (by decide) | rfl) : PT X (.Compare a [op] [b] pos) (tB t) := by
 intro pins s σ H Q I hw
 refine wpAny_isTrue_Compare1 (thn (h pins s σ H _ I hw) fun v s1 h1 => thn h1 fun u s2 h2 => thn h2 fun c s3 ⟨x, H1, I1, r1, q1⟩ => ?_) h1
 obtain ⟨d, rfl, q⟩ := q1
 cases r1
 exact wpAny_truthy_bool ⟨H1, I1, q⟩
theorem pt_val {e : Expr} {t : TE} (h : PE X e t) (he : ∀ whole, isTrue e X.env whole = (do let v ← whole; standAt e.pos; holding [v] (truthy v)) := by intro _; rfl) : PT X e (tB t) := by
 intro pins s σ H Q I hw
 refine isTrue_plain (thn (h pins s σ H _ I hw) fun v s1 ⟨x, H1, I1, r1, q1⟩ => ?_) (he _)
 obtain ⟨d, rfl, q⟩ := q1
 cases r1
 exact wpAny_truthy_bool ⟨H1, I1, q⟩
variable {tA tB' : TT} {rest : List Expr}
noncomputable def tAnd (t u : TT) : TT := fun σ H Q => t σ H fun c H1 => if c = true then u σ H1 Q else Q false H1
noncomputable def tNot (t : TT) : TT := fun σ H Q => t σ H fun c H1 => Q (!c) H1
theorem pw_and1 (ha : PT X a tA) : PW X (.BoolOp .And [a] pos) tA := by
 intro wh pins s σ H Q I h
 refine isTrue_and (thn (ha pins s σ H Q I h) fun c s1 e => ?_)
 cases c with
 | true => exact isTrue_and_nil e
 | false => exact e
theorem pw_and (ha : PT X a tA) (hb : PW X (.BoolOp .And (b :: rest) pos) tB') : PW X (.BoolOp .And (a :: b :: rest) pos) (tAnd tA tB') := by
 intro wh pins s σ H Q I h
 refine isTrue_and (thn (ha pins s σ H _ I h) fun c s1 ⟨H1, I1, q1⟩ => ?_)
 cases c with
 | true => exact hb wh pins s1 σ H1 Q I1 q1
 | false => exact ⟨H1, I1, q1⟩
theorem pt_not (ha : PT X a tA) : PT X (.UnaryOp .Not a pos) (tNot tA) := by
 intro pins s σ H Q I h
 exact isTrue_not (ha pins s σ H (fun c H1 => Q (!c) H1) I h)
noncomputable def tAndV (ta tb : TE) : TE := fun σ H Q => ta σ H fun x H1 => ∃ c, x = .bl c ∧ if c = true then tb σ H1 Q else Q (.bl false) H1
noncomputable def tOrV (ta tb : TE) : TE := fun σ H Q => ta σ H fun x H1 => ∃ c, x = .bl c ∧ if c = true then Q (.bl true) H1 else tb σ H1 Q
noncomputable def tNotV (ta : TE) : TE := fun σ H Q => ta σ H fun x H1 => ∃ c, x = .bl c ∧ Q (.bl (!c)) H1
theorem pe_one {op} {t : TE} (h : PE X a t) : PE X (.BoolOp op [a] pos) t := fun pins s σ H Q I hw => BoolOp_one (h pins s σ H Q I hw)
theorem pe_and (ha : PE X a ta) (hb : PE X (.BoolOp .And (b :: rest) pos) tb) : PE X (.BoolOp .And (a :: b :: rest) pos) (tAndV ta tb) := by
 intro pins s σ H Q I h
 refine BoolOp_and (thn (ha pins s σ H _ I h) fun v s1 ⟨x, H1, I1, r1, q1⟩ => ?_)
 obtain ⟨c, rfl, q1⟩ := q1
 cases r1
 refine wpAny_truthy_bool ?_
 cases c with
 | true => exact hb pins s1 σ H1 Q I1 q1
 | false => exact ⟨.bl false, H1, I1, rfl, q1⟩
theorem pe_or (ha : PE X a ta) (hb : PE X (.BoolOp .Or (b :: rest) pos) tb) : PE X (.BoolOp .Or (a :: b :: rest) pos) (tOrV ta tb) := by
 intro pins s σ H Q I h
 refine BoolOp_or (thn (ha pins s σ H _ I h) fun v s1 ⟨x, H1, I1, r1, q1⟩ => ?_)
 obtain ⟨c, rfl, q1⟩ := q1
 cases r1
 refine wpAny_truthy_bool ?_
 cases c with
 | false => exact hb pins s1 σ H1 Q I1 q1
 | true => exact ⟨.bl true, H1, I1, rfl, q1⟩
theorem pe_not (ha : PE X a ta) : PE X (.UnaryOp .Not a pos) (tNotV ta) := by
 intro pins s σ H Q I h
 refine UnaryOp_ (thn (ha pins s σ H _ I h) fun v s1 ⟨x, H1, I1, r1, q1⟩ => ?_)
 obtain ⟨c, rfl, q1⟩ := q1
 cases r1
 exact not_of (wpAny_truthy_bool ⟨.bl (!c), H1, I1, rfl, q1⟩)
noncomputable def tIf (t : TT) (ta tb : TE) : TE := fun σ H Q => t σ H fun c H1 => if c = true then ta σ H1 Q else tb σ H1 Q
theorem pe_ifExp {c : Expr} (hc : PT X c tA) (ha : PE X a ta) (hb : PE X b tb) : PE X (.IfExp c a b pos) (tIf tA ta tb) := by
 intro pins s σ H Q I h
 refine wpAny_IfExp (thn (hc pins s σ H _ I h) fun d s1 ⟨H1, I1, q1⟩ => ?_)
 cases d with
 | true => exact ha pins s1 σ H1 Q I1 q1
 | false => exact hb pins s1 σ H1 Q I1 q1
end
end L2
namespace L2
open PySem PySem.Spec PyProof.Rows
noncomputable def SqL (K : PySem.W.Frag) (H : Hp) (a : Addr) (xs : List V) : Prop :=
 Rd H a (.lst xs) ∨
  ∃ (o : Obj) (its : Array Value) (n : Nat), K.lookup a = some o ∧ o.cls = .type "list" ∧ o.dict = none ∧ o.data = .seq its n ∧ its.size ≤ sizeLine ∧ Vals xs its.toList
noncomputable def SqT (K : PySem.W.Frag) (H : Hp) (a : Addr) (xs : List V) : Prop :=
 Rd H a (.tup xs) ∨
  ∃ (o : Obj) (its : Array Value) (n : Nat), K.lookup a = some o ∧ o.cls = .type "tuple" ∧ o.data = .seq its n ∧ its.size ≤ sizeLine ∧ Vals xs its.toList
noncomputable def absV : Value → Option V
 | .none => some .non
 | .bool b => some (.bl b)
 | .int i _ => some (.int i)
 | .str x _ => some (.str x)
 | .bytes b _ => some (.byt b)
 | .float b _ => some (.flt b)
 | .ref a => some (.ref a)
 | .type n => some (.ty n)
 | _ => none
theorem RelV.abs {x : V} {u : Value} (r : RelV x u) : absV u = some x := by
 cases x with
 | non => cases r; rfl
 | bl _ => cases r; rfl
 | int _ => obtain ⟨t, rfl⟩ := r; rfl
 | str _ => obtain ⟨t, rfl⟩ := r; rfl
 | byt _ => obtain ⟨t, rfl⟩ := r; rfl
 | flt _ => obtain ⟨t, rfl⟩ := r; rfl
 | ref _ => cases r; rfl
 | ty _ => cases r; rfl
theorem RelV.inj {x y : V} {u : Value} (r : RelV x u) (q : RelV y u) : x = y := Option.some.inj (r.abs.symm.trans q.abs)
theorem Vals.inj : ∀ {xs ys : List V} {us : List Value}, Vals xs us → Vals ys us → xs = ys
 | _, _, _, .nil, .nil => rfl
 | _, _, _, .cons r t, .cons r' t' => by rw [r.inj r', Vals.inj t t']
section
variable {X : Cx} {pins : List (Addr × Obj)} {σ : St} {H : Hp} {s : Shared} {a : Addr} {xs ys : List V}
theorem SqL.of {K : PySem.W.Frag} (h : H a = some (.lst xs)) : SqL K H a xs := .inl (.inl h)
theorem SqT.of {K : PySem.W.Frag} (h : H a = some (.tup xs)) : SqT K H a xs := .inl (.inl h)
theorem Inv.list (I : Inv X pins σ H s) (h : SqL X.K H a xs) : ∃ its : List Value, Vals xs its ∧ PlainL s.heap a its.toArray ∧ xs.length ≤ sizeLine := by
 rcases h with h | ⟨o, its, n, hk, hc, hd, hs, hz, r⟩
 ·obtain ⟨z, its, n, r, e⟩ := h.ok I.hok
  exact ⟨its, r, ⟨_, n, e, rfl, rfl, rfl⟩, z⟩
 ·refine ⟨its.toList, r, ⟨o, n, I.kIn a o hk, hc, hd, by simpa using hs⟩, ?_⟩
  have e := r.length
  simp only [Array.length_toList] at e
  omega
theorem Inv.tuple (I : Inv X pins σ H s) (h : SqT X.K H a xs) : ∃ its : List Value, Vals xs its ∧ IsTup s.heap a its.toArray ∧ xs.length ≤ sizeLine := by
 rcases h with h | ⟨o, its, n, hk, hc, hs, hz, r⟩
 ·obtain ⟨z, its, r, p⟩ := h.ok I.hok
  exact ⟨its, r, p, z⟩
 ·refine ⟨its.toList, r, ⟨o, I.kIn a o hk, hc, n, by simpa using hs⟩, ?_⟩
  have e := r.length
  simp only [Array.length_toList] at e
  omega
theorem Inv.list_inj (I : Inv X pins σ H s) (h : SqL X.K H a xs) (h' : SqL X.K H a ys) : xs = ys := by
 obtain ⟨its, r, ⟨o, n, e, _, _, d⟩, _⟩ := I.list h
 obtain ⟨its', r', ⟨o', n', e', _, _, d'⟩, _⟩ := I.list h'
 rw [e] at e'; cases e'
 rw [d] at d'
 injection d' with d1 _
 have : its = its' := by simpa using congrArg Array.toList d1
 subst this
 exact r.inj r'
end
noncomputable abbrev Cx.wish (X : Cx) (E : Value → Shared → Prop) : Cx := { X with xe := E }
theorem Cx.Ok.wish {X : Cx} (ok : X.Ok) (E : Value → Shared → Prop) : (X.wish E).Ok :=
 ⟨ok.mod, ok.kind, ok.glob, ok.blt, ok.above, ok.inj, ok.has, ok.cab, ok.hd, ok.frames, ok.stk, ok.exf, ok.bs, ok.bsz, ok.noex, ok.exfs, ok.funs, ok.frf⟩
section
variable {X : Cx} {pins : List (Addr × Obj)} {σ : St} {H : Hp} {s : Shared} {E : Value → Shared → Prop}
theorem Inv.wish (I : Inv X pins σ H s) (E : Value → Shared → Prop) : Inv (X.wish E) pins σ H s := ⟨I.ok.wish E, I.os, I.bare, I.base, I.loc, I.cell, I.free, I.freeC, I.pin, I.hok, I.len⟩
end
section
variable {X : Cx} {st : Stmt} {rest : List Stmt} {t u : TS} {e : Expr} {te : TE} {pos : Pos}
noncomputable def tNext : TS := fun D σ H => D.nx σ H
noncomputable def tSeq (t u : TS) : TS := fun D σ H => t { D with nx := u D } σ H
theorem pss_nil : PSs X [] tNext := fun _ _ σ H _ I h => wpAny_execs_nil ⟨σ, H, I, h⟩
theorem pss_cons (h1 : PS X st t) (h2 : PSs X rest u) : PSs X (st :: rest) (tSeq t u) := by
 intro pins s σ H D I h
 refine wpAny_execs_cons (thn (h1 pins s σ H { D with nx := u D } I h) fun f s1 q => ?_)
 cases f with
 | next =>
  obtain ⟨σ', H', I', q⟩ := q
  exact h2 pins s1 σ' H' D I' q
 | ret v => exact q
 | brk => exact q
 | cont => exact q
theorem pss_one (h1 : PS X st t) : PSs X [st] t := by
 intro pins s σ H D I h
 refine wpAny_execs_cons (thn (h1 pins s σ H D I h) fun f s1 q => ?_)
 cases f with
 | next => exact wpAny_execs_nil q
 | ret v => exact q
 | brk => exact q
 | cont => exact q
theorem Inv.quiet {pins : List (Addr × Obj)} {σ : St} {H : Hp} {s : Shared} (I : Inv X pins σ H s) : interactive X.env = false := by simp [interactive, I.ok.kind]
noncomputable def tDrop (te : TE) : TS := fun D σ H => te σ H fun _ H1 => D.nx σ H1
theorem ps_expr (he : PE X e te) (hs : swapsWith e none pos.line X.env = pure false := by rfl) : PS X (.Expr e pos) (tDrop te) := by
 intro pins s σ H D I h
 exact wpAny_Expr_any (thn (he pins s σ H _ I h) fun v s1 ⟨x, H1, I1, r1, q1⟩ => ⟨σ, H1, I1, q1⟩) I.quiet hs
noncomputable def tRet (te : TE) : TS := fun D σ H => te σ H D.rt
theorem ps_ret (he : PE X e te) : PS X (.Return (some e) pos) (tRet te) := by
 intro pins s σ H D I h
 exact wpAny_Return_some (thn (he pins s σ H _ I h) fun v s1 ⟨x, H1, I1, r1, q1⟩ => ⟨x, σ, H1, I1, r1, q1⟩)
noncomputable def tIfS (c : TT) (t u : TS) : TS := fun D σ H => c σ H fun b H1 => if b = true then t D σ H1 else u D σ H1
theorem ps_if {c : Expr} {a b : List Stmt} {tc : TT} (hc : PT X c tc) (ha : PSs X a t) (hb : PSs X b u) : PS X (.If c a b pos) (tIfS tc t u) := by
 intro pins s σ H D I h
 refine wpAny_If (thn (hc pins s σ H _ I h) fun d s1 ⟨H1, I1, q1⟩ => ?_)
 cases d with
 | true => exact ha pins s1 σ H1 D I1 q1
 | false => exact hb pins s1 σ H1 D I1 q1
end
noncomputable abbrev TG := V → St → Hp → (St → Hp → Prop) → Prop
noncomputable def PG (X : Cx) (target : Expr) (t : TG) : Prop :=
 ∀ (pins : List (Addr × Obj)) (s : Shared) (σ : St) (H : Hp) (v : V) (u : Value) (Q : St → Hp → Prop), Inv X pins σ H s → RelV v u → t v σ H Q →
  wpAny (model X.prog X.w) X.A (assign target X.env u) (fun _ s' => ∃ σ' H', Inv X pins σ' H' s' ∧ Q σ' H') X.xe s
noncomputable abbrev TSet := V → V → V → Hp → (Hp → Prop) → Prop
noncomputable def PSet (X : Cx) (t : TSet) : Prop :=
 ∀ (pins : List (Addr × Obj)) (s : Shared) (σ : St) (H : Hp) (o i v : V) (ov iv u : Value) (Q : Hp → Prop), Inv X pins σ H s → RelV o ov → RelV i iv → RelV v u → t o i v H Q →
  wpAny (model X.prog X.w) X.A (setItem ov iv u) (fun _ s' => ∃ H', Inv X pins σ H' s' ∧ Q H') X.xe s
section
variable {X : Cx} {pos : Pos}
noncomputable def gName (i : Nat) : TG := fun v σ H Q => Q (σ.set i (some v)) H
theorem pg_name {i : Nat} {x : Str} (hN : X.N.Nodup) (hi : X.N[i]? = some x) (hx : Loc X.env.scope x) (hf : X.fn x = true ∨ X.env.scope.names.lookup x = some .local := by first | exact .inl rfl | exact .inr rfl | assumption) : PG X (.Name x pos) (gName i) := by
 intro pins s σ H v u Q I r h
 exact wpAny_assign_Name (store_ok I hN hi hx r (fun s' I' => ⟨_, H, I', h⟩) hf)
noncomputable def gSub (to ti : TE) (t : TSet) : TG := fun v σ H Q => to σ H fun o H1 => ti σ H1 fun i H2 => t o i v H2 fun H3 => Q σ H3
theorem pg_sub {o i : Expr} {to ti : TE} {t : TSet} (ho : PE X o to) (hi : PE X i ti) (hs : PSet X t)
  (ha : ∀ v, assign (.Subscript o i pos) X.env v = (do
   let ov ← holding [v] (eval o X.env)
   let iv ← holding [v, ov] (eval i X.env)
   standAt pos
   holding [v, ov, iv] (setItem ov iv v)
   release [v, ov, iv] []) := by intro _; rfl) : PG X (.Subscript o i pos) (gSub to ti t) := by
 intro pins s σ H v u Q I r h
 rw [ha]
 refine wpAny_bind (wpAny_holding (thn (ho pins s σ H _ I h) fun ov s1 ⟨x, H1, I1, r1, q1⟩ => ?_))
 refine wpAny_bind (wpAny_holding (thn (hi pins s1 σ H1 _ I1 q1) fun iv s2 ⟨y, H2, I2, r2, q2⟩ => ?_))
 refine wpAny_bind (wpAny_standAt (wpAny_bind (wpAny_holding (thn (hs pins s2 σ H2 x y v ov iv u _ I2 r1 r2 r q2) fun _ s3 ⟨H3, I3, q3⟩ => ?_))))
 exact wpAny_release ⟨σ, H3, I3, q3⟩
noncomputable def tAsg (te : TE) (g : TG) : TS := fun D σ H => te σ H fun x H1 => g x σ H1 D.nx
theorem ps_asg {tg e : Expr} {te : TE} {g : TG} (he : PE X e te) (hg : PG X tg g) (hs : swapsWithSole [tg] e pos.line X.env = pure false := by rfl) (hw : swappedStores [tg] e X.env = pure none := by rfl)
  (h1 : (assignEach [tg] X.env).map (·.2) = [assign tg X.env] := by rfl) : PS X (.Assign [tg] e pos) (tAsg te g) := by
 intro pins s σ H D I h
 refine wpAny_Assign_stores (thn (he pins s σ H _ I h) fun v s1 ⟨x, H1, I1, r1, q1⟩ => ?_) hs hw
 rw [h1]
 exact thn (hg pins s1 σ H1 x v _ I1 r1 q1) fun _ s2 q => q
theorem ps_set {i : Nat} {x : Str} {e : Expr} {te : TE} {pos' : Pos} (hN : X.N.Nodup) (hi : X.N[i]? = some x) (hx : Loc X.env.scope x) (he : PE X e te) (hs : swapsWith e (some (.Name x pos')) pos.line X.env = pure false := by rfl) (hf : X.fn x = true ∨ X.env.scope.names.lookup x = some .local := by first | exact .inl rfl | exact .inr rfl | assumption) :
  PS X (.Assign [.Name x pos'] e pos) (tAsg te (gName i)) := by
 intro pins s σ H D I h
 refine wpAny_Assign_Name (thn (he pins s σ H _ I h) fun v s1 ⟨y, H1, I1, r1, q1⟩ => ?_) hs
 exact store_ok I1 hN hi hx r1 (fun s2 I2 => ⟨_, H1, I2, q1⟩) hf
end
section
variable {X : Cx} {pos : Pos}
noncomputable def tWhile (c : TT) (tb : TS) : TS := fun D σ H => ∃ W : Nat → St → Hp → Prop, (∃ m, W m σ H) ∧ ∀ m σ H, W m σ H →
 c σ H fun b H1 => if b = true then ∃ N : St → Hp → Prop, (∀ σ' H', N σ' H' → ∃ m', m' < m ∧ W m' σ' H') ∧ tb { D with nx := N, ct := N, bk := D.nx } σ H1 else D.nx σ H1
theorem ps_while {c : Expr} {body : List Stmt} {tc : TT} {tb : TS} (hp : PassesOwn (model X.prog X.w) X.A X.env X.xe) (hc : PT X c tc) (hb : PSs X body tb) : PS X (.While c body [] pos) (tWhile tc tb) := by
 intro pins s σ H D I h
 obtain ⟨W, ⟨m0, w0⟩, turn⟩ := h
 refine wpAny_While (codeAny_whileLoop (fun n s' => ∃ σ' H', Inv X pins σ' H' s' ∧ W n σ' H') ?_ m0 ⟨σ, H, I, w0⟩)
 rintro n s1 ⟨σ1, H1, I1, w1⟩
 refine wpAny_passesOwn hp (thn (hc pins s1 σ1 H1 _ I1 (turn n σ1 H1 w1)) fun b s2 ⟨H2, I2, q2⟩ => ?_)
 cases b with
 | true =>
  obtain ⟨N, hN, q2⟩ := q2
  rw [if_pos rfl]
  refine wpAny_passesOwn hp (thn (hb pins s2 σ1 H2 _ I2 q2) fun f s3 q3 => ?_)
  cases f with
  | next =>
   obtain ⟨σ3, H3, I3, n3⟩ := q3
   obtain ⟨m', hm, w3⟩ := hN σ3 H3 n3
   exact ⟨m', hm, σ3, H3, I3, w3⟩
  | cont =>
   obtain ⟨σ3, H3, I3, n3⟩ := q3
   obtain ⟨m', hm, w3⟩ := hN σ3 H3 n3
   exact ⟨m', hm, σ3, H3, I3, w3⟩
  | brk => exact q3
  | ret v => exact q3
 | false =>
  rw [if_neg Bool.false_ne_true]
  exact wpAny_execs_nil ⟨σ1, H2, I2, q2⟩
end
structure It where
 go : Nat → Hp → Prop
 yld : Nat → Hp → V → Hp → Prop
 stop : Nat → Hp → Prop
noncomputable def FpOk (X : Cx) (pins : List (Addr × Obj)) (H : Hp) (b : Addr) : Prop :=
 H b = none ∧ b ≠ X.env.locals ∧ b ∉ X.fs ∧ (b ∈ X.ex ∨ X.s_0.heap.objs.size ≤ b) ∧ (∀ x c, X.env.cells.lookup x = some c → c ≠ b) ∧ ∀ p ∈ X.pn ++ pins, p.1 ≠ b
theorem Inv.fpOk {X : Cx} {pins : List (Addr × Obj)} {σ : St} {H H' : Hp} {s : Shared} {b : Addr} (I : Inv X pins σ H s) (hb : s.heap.objs.size ≤ b) (hn : H' b = none) : FpOk X pins H' b := by
 refine ⟨hn, Nat.ne_of_gt (Nat.lt_of_lt_of_le I.lt hb), I.nofs hb, .inr (Nat.le_trans I.sz hb), fun x c e z => ?_, fun p hp z => ?_⟩
 ·obtain ⟨v, q⟩ := I.cell x c e
  exact absurd (Nat.lt_of_lt_of_le q.lt (by rw [z]; exact hb)) (Nat.lt_irrefl _)
 ·exact absurd (Nat.lt_of_lt_of_le (Heap.lt_size (I.pin p hp).1) (by rw [z]; exact hb)) (Nat.lt_irrefl _)
structure Turn (P : Program) (w : World) (K : PySem.W.Frag) (tg : Expr) (J : It) (fp : List Addr) (it : Addr) (tn : Nat → Heap → Prop) : Prop where
 mem : it ∈ fp
 obj : ∀ i h, tn i h → ∀ b ∈ fp, ∃ o, h.get? b = some o ∧ ∀ v, o.data ≠ .cell v
 keep : ∀ i h h', tn i h → (∀ b ∈ fp, ∀ o, h.get? b = some o → h'.get? b = some o) → tn i h'
 item : ∀ (X : Cx), X.prog = P → X.w = w → X.K = K → X.calm = true → ∀ (i : Nat) (pins : List (Addr × Obj)) (s : Shared) (σ : St) (H : Hp) (E : Value → Shared → Prop), Inv X pins σ H s → (∀ b ∈ fp, FpOk X pins H b) → tn i s.heap → J.go i H →
  wpAny (model P w) X.A (pyNext (.ref it)) (fun r s1 => ∃ u, r = some u ∧
   wpAny (model P w) X.A (letOwnedTupleGo tg (.ref it) u) (fun _ s2 => ∃ x H', Inv X pins σ H' s2 ∧ RelV x u ∧ J.yld i H x H' ∧ tn (i + 1) s2.heap ∧ ∀ b ∈ fp, H' b = none) E s1) E s
 done : ∀ (X : Cx), X.prog = P → X.w = w → X.K = K → X.calm = true → ∀ (i : Nat) (pins : List (Addr × Obj)) (s : Shared) (σ : St) (H : Hp) (E : Value → Shared → Prop), Inv X pins σ H s → (∀ b ∈ fp, FpOk X pins H b) → tn i s.heap → J.stop i H →
  wpAny (model P w) X.A (pyNext (.ref it)) (fun r s1 => r = none ∧ Inv X pins σ H s1) E s
 self : ∀ (A : Around) (i : Nat) (s : Shared) (Q : Value → Shared → Prop) (E : Value → Shared → Prop), tn i s.heap → Q (.ref it) s → wpAny (model P w) A (pyIter (.ref it)) Q E s
noncomputable abbrev TI := St → Hp → (It → Hp → Prop) → Prop
noncomputable def PIE (X : Cx) (pins : List (Addr × Obj)) (σ : St) (tg : Expr) (R : It → Hp → Prop) (itv : Value) (s2 : Shared) : Prop :=
 ∃ (it : Addr) (fp : List Addr) (tn : Nat → Heap → Prop) (J : It) (H' : Hp), itv = .ref it ∧ Inv X pins σ H' s2 ∧ Turn X.prog X.w X.K tg J fp it tn ∧ tn 0 s2.heap ∧ (∀ b ∈ fp, FpOk X pins H' b) ∧ R J H'
noncomputable def PI (X : Cx) (tg iter : Expr) (wi : TI) : Prop :=
 ∀ (pins : List (Addr × Obj)) (s : Shared) (σ : St) (H : Hp) (R : It → Hp → Prop), Inv X pins σ H s → wi σ H R →
  wpAny (model X.prog X.w) X.A (eval iter X.env) (fun v s1 => wpAny (model X.prog X.w) X.A (pyIter v) (PIE X pins σ tg R) X.xe s1) X.xe s
theorem go_of {M : Model} {A : Around} {E : Value → Shared → Prop} {s : Shared} {tg : Expr} {it : Addr} {u : Value} {o : Obj} {n : String} {vs : Array Value} {Q : Unit → Shared → Prop} (ho : s.heap.get? it = some o) (hc : o.cls = .type n) (hd : o.data = .fields vs)
    (hn : ["enumerate", "zip", "dict_itemiterator", "dict_reverseitemiterator", "odict_iterator", "itertools.zip_longest", "itertools.pairwise"].contains n = false) (hQ : Q () s) : wpAny M A (letOwnedTupleGo tg (.ref it) u) Q E s := by
  unfold letOwnedTupleGo
  cases tg <;> first
    | exact wpAny_pure hQ
    | (cases u <;> first
        | exact wpAny_pure hQ
        | (refine wpAny_bind (wpAny_load ho ?_)
           rw [hc, hd]
           show wpAny M A (if (["enumerate", "zip", "dict_itemiterator", "dict_reverseitemiterator", "odict_iterator", "itertools.zip_longest", "itertools.pairwise"].contains n && vs[0]? == some (rawInt _)) = true then _ else _) Q E s
           rw [if_neg (by intro h; rw [hn, Bool.false_and] at h; cases h)]
           exact wpAny_pure hQ))
noncomputable def Itl (K : PySem.W.Frag) (a : Addr) : It :=
 ⟨fun i H => ∃ xs x, SqL K H a xs ∧ xs[i]? = some x, fun i H x H' => H' = H ∧ ∀ xs, SqL K H a xs → xs[i]? = some x, fun i H => ∃ xs, SqL K H a xs ∧ xs.length ≤ i⟩
noncomputable def Itr (lo : Int) (n : Nat) : It := ⟨fun i _ => i < n, fun i H x H' => H' = H ∧ x = .int (lo + i), fun i _ => n ≤ i⟩
theorem turn_list {P : Program} {w : World} {K : PySem.W.Frag} {tg : Expr} (a it : Addr) : Turn P w K tg (Itl K a) [it] it (fun i h => h.IsListIter it a i) where
 mem := by simp
 obj := fun i h st b hb => by
  have e : b = it := by simpa using hb
  subst e
  obtain ⟨o, e, c, d⟩ := st
  exact ⟨o, e, fun v z => by rw [d] at z; cases z⟩
 keep := fun i h h' st k => st.at fun o e => k it (by simp) o e
 item := by
  intro X hP hw hK hc i pins s σ H E I hf st hg
  subst hP hw hK
  obtain ⟨xs, x, hq, hx⟩ := hg
  obtain ⟨its, rv, p, hz⟩ := I.list hq
  obtain ⟨u, hu, ru⟩ := rv.get hx
  obtain ⟨f0, f1, f2, f3, f4, f5⟩ := hf it (by simp)
  refine wpAny_pyNext_list_item st p.isList (x := u) (by simpa using hu) fun h' st' sb => ?_
  have I1 : Inv X pins σ H { s with heap := h' } := I.turned (t' := s.toks) (fun b o hb e => (sb.2 b hb).trans e) f0 f1 f3 f4 f5
  obtain ⟨o, e, c, d⟩ := id st'
  exact ⟨u, rfl, go_of (s := { s with heap := h' }) e c d (by decide) ⟨x, H, I1, ru, ⟨rfl, fun ys hy => by rw [I.list_inj hy hq]; exact hx⟩, st', fun b hb => (hf b hb).1⟩⟩
 done := by
  intro X hP hw hK hc i pins s σ H E I hf st hg
  subst hP hw hK
  obtain ⟨xs, hq, hx⟩ := hg
  obtain ⟨its, rv, p, hz⟩ := I.list hq
  obtain ⟨f0, f1, f2, f3, f4, f5⟩ := hf it (by simp)
  have hl := rv.length
  exact wpAny_pyNext_list_end (I.ok.hd hc) st p.isList (by simp; omega) fun h' eb => ⟨rfl, I.turned (t' := s.toks) (fun b o hb e => eb b o hb e) f0 f1 f3 f4 f5⟩
 self := fun _ _ _ _ _ st h => wpAny_pyIter_listiter st h
theorem turn_range {P : Program} {w : World} {K : PySem.W.Frag} {tg : Expr} (it : Addr) (lo : Int) (n : Nat) : Turn P w K tg (Itr lo n) [it] it (fun i h => IsRangeIter h it (lo + (i : Nat) * 1) ((n : Int) - (i : Nat)) 1) where
 mem := by simp
 obj := fun i h st b hb => by
  have e : b = it := by simpa using hb
  subst e
  exact ⟨_, st, fun v z => by
   have z' : Data.fields _ = Data.cell v := z
   cases z'⟩
 keep := fun i h h' st k => k it (by simp) _ st
 item := by
  intro X hP hw hK hc i pins s σ H E I hf st hg
  subst hP hw hK
  obtain ⟨f0, f1, f2, f3, f4, f5⟩ := hf it (by simp)
  have W := Walks.range (prog := X.prog) (w := X.w) (I.ok.hd hc) it lo 1 n
  refine W.item i s _ _ hg st fun v h' tk hv st' kk => ?_
  obtain ⟨t, rfl⟩ := hv
  have I1 : Inv X pins σ H { s with heap := h', toks := tk } := I.turned (fun b o hb e => kk b o (by simpa using hb) e) f0 f1 f3 f4 f5
  refine ⟨_, rfl, go_of (s := { s with heap := h', toks := tk }) (n := "range_iterator") st' rfl rfl (by decide) ⟨.int (lo + i), H, I1, ⟨t, ?_⟩, ⟨rfl, rfl⟩, st', fun b hb => (hf b hb).1⟩⟩
  rw [Int.mul_one]
 done := by
  intro X hP hw hK hc i pins s σ H E I hf st hg
  subst hP hw hK
  obtain ⟨f0, f1, f2, f3, f4, f5⟩ := hf it (by simp)
  exact wpAny_pyNext_range_end (I.ok.hd hc) st (by have : n ≤ i := hg; omega) fun h' eb => ⟨rfl, I.turned (t' := s.toks) (fun b o hb e => eb b o hb e) f0 f1 f3 f4 f5⟩
 self := fun _ _ _ _ _ st h => wpAny_pyIter_rangeiter st h
end L2
namespace L2
open PySem PySem.Spec PyProof.Rows
section
variable {X : Cx} {tg : Expr}
noncomputable def iList (K : PySem.W.Frag) (tl : TE) : TI := fun σ H R => tl σ H fun x H1 => ∃ a, x = .ref a ∧ (∃ xs, SqL K H1 a xs) ∧ R (Itl K a) H1
theorem pi_list {l : Expr} {tl : TE} (hl : PE X l tl) : PI X tg l (iList X.K tl) := by
 intro pins s σ H R I h
 refine thn (hl pins s σ H _ I h) fun v s1 ⟨x, H1, I1, r1, q1⟩ => ?_
 obtain ⟨a, e, ⟨xs, hq⟩, q⟩ := q1
 subst e
 cases r1
 obtain ⟨its, rv, p, hz⟩ := I1.list hq
 refine wpAny_pyIter_list p.isList ?_
 refine ⟨s1.heap.objs.size, [s1.heap.objs.size], _, _, H1, rfl, I1.kept (t' := s1.toks) fun b o e => Heap.get?_push_of_some _ e, turn_list a _, ⟨_, Heap.get?_push_size _ rfl, rfl, rfl⟩, fun b hb => ?_, q⟩
 have e : b = s1.heap.objs.size := by simpa using hb
 subst e
 exact I1.fpOk (Nat.le_refl _) (I1.hok.fresh (Nat.le_refl _))
theorem range_it {pins : List (Addr × Obj)} {σ : St} {H : Hp} {s : Shared} {R : It → Hp → Prop} {E : Value → Shared → Prop} {lo hi : Int} {t u v : Tok} {tk : Nat} (I : Inv X pins σ H s) (h1 : -(2 ^ 62) ≤ lo) (h2 : lo < 2 ^ 62) (h3 : -(2 ^ 62) ≤ hi) (h4 : hi < 2 ^ 62)
  (q : R (Itr lo (hi - lo).toNat) H) : wpAny (model X.prog X.w) X.A (pyIter (.ref s.heap.objs.size)) (PIE X pins σ tg R) E { s with heap := s.heap.push { cls := .type "range", data := .fields #[.int lo t, .int hi u, .int 1 v] }, toks := tk } := by
 refine wpAny_pyIter_range (IsRange.new ..) (small_one h1 h2 h3 h4) ?_
 have I1 : Inv X pins σ H { s with heap := s.heap.push { cls := .type "range", data := .fields #[.int lo t, .int hi u, .int 1 v] }, toks := tk } := I.kept fun b o e => Heap.get?_push_of_some _ e
 refine ⟨(s.heap.push { cls := .type "range", data := .fields #[.int lo t, .int hi u, .int 1 v] }).objs.size, [(s.heap.push { cls := .type "range", data := .fields #[.int lo t, .int hi u, .int 1 v] }).objs.size], _, _, H, rfl,
  I1.kept (t' := tk) fun b o e => Heap.get?_push_of_some _ e, turn_range _ lo (hi - lo).toNat, ?_, fun b hb => ?_, q⟩
 ·have e1 : lo + ((0 : Nat) : Int) * 1 = lo := by simp
  have e2 : (((hi - lo).toNat : Nat) : Int) - ((0 : Nat) : Int) = Builtin.Range.rangeSize lo hi 1 := by rw [rangeSize_one]; split <;> omega
  show IsRangeIter _ _ (lo + ((0 : Nat) : Int) * 1) ((((hi - lo).toNat : Nat) : Int) - ((0 : Nat) : Int)) 1
  rw [e1, e2]
  exact Heap.get?_push_size _ rfl
 ·have e : b = (s.heap.push { cls := .type "range", data := .fields #[.int lo t, .int hi u, .int 1 v] }).objs.size := by simpa using hb
  subst e
  exact I1.fpOk (Nat.le_refl _) (I1.hok.fresh (Nat.le_refl _))
noncomputable def iRng1 (ta : TA) : TI := fun σ H R => ta σ H fun vs H1 => ∃ j : Int, vs = [.int j] ∧ -(2 ^ 62) ≤ j ∧ j < 2 ^ 62 ∧ R (Itr 0 j.toNat) H1
theorem pi_range1 {a : Expr} {ta : TA} {p pos : Pos} (hg : Gl X "range") (hm : X.mg "range" = none) (ha : PA X [a] ta) (hs : starEach [a] X.env = [(false, eval a X.env)] := by rfl) : PI X tg (.Call (.Name "range" p) [a] [] pos) (iRng1 ta) := by
 intro pins s σ H R I h
 refine Call_ (ld_blt I hg hm boot_range (PyProof.Rows.callWith_type1 (thn (ha pos pins s σ H _ I h) fun us s1 ⟨vs, H1, I1, r1, q1⟩ => ?_) hs rfl))
 obtain ⟨j, e, q1, q2, q⟩ := q1
 subst e
 cases r1 with
 | cons r rr =>
  cases rr
  obtain ⟨t, rfl⟩ := r
  exact call_range_1 (range_it I1 (by omega) (by omega) q1 q2 (by simpa using q))
noncomputable def tFor (wi : TI) (g : TG) (tb : TS) : TS := fun D σ H => wi σ H fun J H1 => ∃ W : Nat → Nat → St → Hp → Prop, (∃ m, W 0 m σ H1) ∧ ∀ i m σ H, W i m σ H →
 (J.stop i H ∧ D.nx σ H) ∨ (J.go i H ∧ ∃ N : St → Hp → Prop, (∀ σ' H', N σ' H' → ∃ m', m' < m ∧ W (i + 1) m' σ' H') ∧ ∀ x H', J.yld i H x H' → g x σ H' fun σ2 H2 => tb { D with nx := N, ct := N, bk := D.nx } σ2 H2)
noncomputable def pinsAt (fp : List Addr) (h : Heap) : List (Addr × Obj) := fp.filterMap fun b => (h.get? b).map fun o => (b, o)
theorem mem_pinsAt {fp : List Addr} {h : Heap} {b : Addr} {o : Obj} (hb : b ∈ fp) (e : h.get? b = some o) : (b, o) ∈ pinsAt fp h := List.mem_filterMap.mpr ⟨b, hb, by rw [e]; rfl⟩
theorem of_pinsAt {fp : List Addr} {h : Heap} {p : Addr × Obj} (hp : p ∈ pinsAt fp h) : p.1 ∈ fp ∧ h.get? p.1 = some p.2 := by
 obtain ⟨b, hb, e⟩ := List.mem_filterMap.mp hp
 cases q : h.get? b with
 | none => rw [q] at e; cases e
 | some o =>
  rw [q] at e
  have e' : (b, o) = p := Option.some.inj e
  subst e'
  exact ⟨hb, q⟩
theorem Inv.pinned {pins : List (Addr × Obj)} {σ : St} {H : Hp} {s : Shared} {fp : List Addr} (I : Inv X pins σ H s) (hf : ∀ b ∈ fp, FpOk X pins H b) (ho : ∀ b ∈ fp, ∃ o, s.heap.get? b = some o ∧ ∀ v, o.data ≠ .cell v) : Inv X (pins ++ pinsAt fp s.heap) σ H s :=
 I.pins_of fun p hp => (List.mem_append.mp hp).elim (fun z => I.pin p (List.mem_append_right _ z)) fun z => by
  obtain ⟨hb, e⟩ := of_pinsAt z
  obtain ⟨f0, f1, f2, _⟩ := hf p.1 hb
  obtain ⟨o, e', d⟩ := ho p.1 hb
  rw [e] at e'; cases e'
  exact ⟨e, f0, f1, f2, d⟩
theorem Inv.unpinned {pins pl : List (Addr × Obj)} {σ : St} {H : Hp} {s : Shared} (I : Inv X (pins ++ pl) σ H s) : Inv X pins σ H s := I.pins_of fun p hp => I.pin p (List.mem_append_right _ (List.mem_append_left _ hp))
theorem ps_for {iter : Expr} {body : List Stmt} {wi : TI} {g : TG} {tb : TS} {pos : Pos} (hp : PassesOwn (model X.prog X.w) X.A X.env X.xe) (hc : X.calm = true) (hi : PI X tg iter wi) (hg : PG X tg g) (hb : PSs X body tb)
  (hs : ∀ x, foldedSetIterable iter X.env x = pure x := by intro _; rfl) : PS X (.For tg iter body [] pos) (tFor wi g tb) := by
 intro pins s σ H D I h
 refine wpAny_For (thn (hi pins s σ H _ I h) fun v s1 h1 => thn h1 fun itv s2 h2 => ?_) hs
 obtain ⟨it, fp, tn, J, H2, e, I2, T, st2, f2, W, ⟨m0, w0⟩, turn⟩ := h2
 subst e
 have stat : ∀ {H' : Hp}, (∀ b ∈ fp, H' b = none) → ∀ b ∈ fp, FpOk X pins H' b := fun hn b hb => ⟨hn b hb, (f2 b hb).2⟩
 refine codeAny_forLoop_any (fun n s' => ∃ i σ' H', Inv X pins σ' H' s' ∧ tn i s'.heap ∧ (∀ b ∈ fp, H' b = none) ∧ W i n σ' H') ?_ m0 ⟨0, σ, H2, I2, st2, fun b hb => (f2 b hb).1, w0⟩
 rintro n s3 ⟨i, σ3, H3, I3, st3, fr3, w3⟩
 rcases turn i n σ3 H3 w3 with ⟨stop, qn⟩ | ⟨go, N, hN, step⟩
 ·refine wpAny_passesOwn hp (thn (T.done X rfl rfl rfl hc i pins s3 σ3 H3 X.xe I3 (stat fr3) st3 stop) fun r s4 ⟨hr, I4⟩ => ?_)
  subst hr
  exact wpAny_execs_nil ⟨σ3, H3, I4, qn⟩
 ·refine wpAny_passesOwn hp (thn (T.item X rfl rfl rfl hc i pins s3 σ3 H3 X.xe I3 (stat fr3) st3 go) fun r s4 ⟨u, hr, h4⟩ => ?_)
  subst hr
  refine wpAny_passesOwn hp (thn h4 fun _ s5 ⟨x, H5, I5, r5, y5, st5, fr5⟩ => ?_)
  have I5' := I5.pinned (stat fr5) (T.obj _ _ st5)
  refine wpAny_passesOwn hp (thn (hg _ s5 σ3 H5 x u _ I5' r5 (step x H5 y5)) fun _ s6 ⟨σ6, H6, I6, q6⟩ => ?_)
  refine wpAny_passesOwn hp (thn (hb _ s6 σ6 H6 _ I6 q6) fun f s7 q7 => ?_)
  have again : ∀ {σ7 : St} {H7 : Hp}, Inv X (pins ++ pinsAt fp s5.heap) σ7 H7 s7 → N σ7 H7 → ∃ m, m < n ∧ ∃ i σ' H', Inv X pins σ' H' s7 ∧ tn i s7.heap ∧ (∀ b ∈ fp, H' b = none) ∧ W i m σ' H' := fun {σ7 H7} I7 n7 => by
   obtain ⟨m', hm, w7⟩ := hN σ7 H7 n7
   refine ⟨m', hm, i + 1, σ7, H7, I7.unpinned, T.keep _ _ _ st5 fun b hb o e => (I7.pin (b, o) (List.mem_append_right _ (List.mem_append_right _ (mem_pinsAt hb e)))).1, fun b hb => ?_, w7⟩
   obtain ⟨o, e, d⟩ := T.obj _ _ st5 b hb
   exact (I7.pin (b, o) (List.mem_append_right _ (List.mem_append_right _ (mem_pinsAt hb e)))).2.1
  cases f with
  | next => obtain ⟨σ7, H7, I7, n7⟩ := q7; exact again I7 n7
  | cont => obtain ⟨σ7, H7, I7, n7⟩ := q7; exact again I7 n7
  | brk => obtain ⟨σ7, H7, I7, q7⟩ := q7; exact ⟨σ7, H7, I7.unpinned, q7⟩
  | ret v => obtain ⟨x7, σ7, H7, I7, r7, q7⟩ := q7; exact ⟨x7, σ7, H7, I7.unpinned, r7, q7⟩
end
theorem for_list {K : PySem.W.Frag} {a : Addr} {xs : List V} {g : TG} {tb : TS} {D : Ends} {σ : St} {H : Hp} (Pv : Nat → St → Hp → Prop) (h0 : Pv 0 σ H) (hl : ∀ i σ H, i ≤ xs.length → Pv i σ H → SqL K H a xs)
  (hs : ∀ i x σ H, xs[i]? = some x → Pv i σ H → g x σ H fun σ2 H2 => tb { D with nx := Pv (i + 1), ct := Pv (i + 1), bk := D.nx } σ2 H2) (hd : ∀ σ H, Pv xs.length σ H → D.nx σ H) :
  ∃ W : Nat → Nat → St → Hp → Prop, (∃ m, W 0 m σ H) ∧ ∀ i m σ H, W i m σ H →
   ((Itl K a).stop i H ∧ D.nx σ H) ∨ ((Itl K a).go i H ∧ ∃ N : St → Hp → Prop, (∀ σ' H', N σ' H' → ∃ m', m' < m ∧ W (i + 1) m' σ' H') ∧ ∀ x H', (Itl K a).yld i H x H' → g x σ H' fun σ2 H2 => tb { D with nx := N, ct := N, bk := D.nx } σ2 H2) := by
 refine ⟨fun i m σ H => m = xs.length - i ∧ i ≤ xs.length ∧ Pv i σ H, ⟨xs.length, by simp, Nat.zero_le _, h0⟩, ?_⟩
 rintro i m σ H ⟨rfl, hi, p⟩
 have q := hl i σ H hi p
 by_cases hlt : i < xs.length
 ·refine .inr ⟨⟨xs, xs[i], q, by simp [hlt]⟩, Pv (i + 1), fun σ' H' p' => ⟨xs.length - (i + 1), by omega, rfl, hlt, p'⟩, fun x H' y => ?_⟩
  obtain ⟨e, y⟩ := y
  subst e
  exact hs i x σ _ (y xs q) p
 ·have e : i = xs.length := by omega
  subst e
  exact .inl ⟨⟨xs, q, Nat.le_refl _⟩, hd σ H p⟩
theorem for_range {lo : Int} {n : Nat} {g : TG} {tb : TS} {D : Ends} {σ : St} {H : Hp} (Pv : Nat → St → Hp → Prop) (h0 : Pv 0 σ H)
  (hs : ∀ i σ H, i < n → Pv i σ H → g (.int (lo + i)) σ H fun σ2 H2 => tb { D with nx := Pv (i + 1), ct := Pv (i + 1), bk := D.nx } σ2 H2) (hd : ∀ σ H, Pv n σ H → D.nx σ H) :
  ∃ W : Nat → Nat → St → Hp → Prop, (∃ m, W 0 m σ H) ∧ ∀ i m σ H, W i m σ H →
   ((Itr lo n).stop i H ∧ D.nx σ H) ∨ ((Itr lo n).go i H ∧ ∃ N : St → Hp → Prop, (∀ σ' H', N σ' H' → ∃ m', m' < m ∧ W (i + 1) m' σ' H') ∧ ∀ x H', (Itr lo n).yld i H x H' → g x σ H' fun σ2 H2 => tb { D with nx := N, ct := N, bk := D.nx } σ2 H2) := by
 refine ⟨fun i m σ H => m = n - i ∧ i ≤ n ∧ Pv i σ H, ⟨n, by simp, Nat.zero_le _, h0⟩, ?_⟩
 rintro i m σ H ⟨rfl, hi, p⟩
 by_cases hlt : i < n
 ·refine .inr ⟨hlt, Pv (i + 1), fun σ' H' p' => ⟨n - (i + 1), by omega, rfl, hlt, p'⟩, fun x H' y => ?_⟩
  obtain ⟨e, y⟩ := y
  subst e y
  exact hs i σ _ hlt p
 ·have e : i = n := by omega
  subst e
  exact .inl ⟨Nat.le_refl _, hd σ H p⟩
end L2
namespace L2
open PySem PySem.Spec PyProof.Rows
noncomputable abbrev R2 := V → V → Hp → VK → Prop
noncomputable def OpR (X : Cx) (f : Value → Value → Sem Value) (r : R2) : Prop :=
 ∀ (pins : List (Addr × Obj)) (s : Shared) (σ : St) (H : Hp) (x y : V) (v u : Value) (Q : VK), Inv X pins σ H s → RelV x v → RelV y u → r x y H Q →
  wpAny (model X.prog X.w) X.A (f v u) (EP X pins σ Q) X.xe s
noncomputable def UnR (X : Cx) (f : Value → Sem Value) (r : V → Hp → VK → Prop) : Prop :=
 ∀ (pins : List (Addr × Obj)) (s : Shared) (σ : St) (H : Hp) (x : V) (v : Value) (Q : VK), Inv X pins σ H s → RelV x v → r x H Q →
  wpAny (model X.prog X.w) X.A (f v) (EP X pins σ Q) X.xe s
noncomputable def CallR (X : Cx) (f : Value) (r : List V → Hp → VK → Prop) : Prop :=
 ∀ (pins : List (Addr × Obj)) (s : Shared) (σ : St) (H : Hp) (xs : List V) (us : List Value) (Q : VK), Inv X pins σ H s → Vals xs us → r xs H Q →
  wpAny (model X.prog X.w) X.A (call f us) (EP X pins σ Q) X.xe s
noncomputable def tOp (r : R2) (ta tb : TE) : TE := fun σ H Q => ta σ H fun x H1 => tb σ H1 fun y H2 => r x y H2 Q
noncomputable def tUn (r : V → Hp → VK → Prop) (ta : TE) : TE := fun σ H Q => ta σ H fun x H1 => r x H1 Q
noncomputable def rI (C : Int → Int → Prop) (g : Int → Int → V) : R2 := fun x y H Q => ∃ i j, x = .int i ∧ y = .int j ∧ C i j ∧ Q (g i j) H
noncomputable def rI0 (g : Int → Int → V) : R2 := fun x y H Q => ∃ i j, x = .int i ∧ y = .int j ∧ Q (g i j) H
noncomputable def rU (g : Int → V) : V → Hp → VK → Prop := fun x H Q => ∃ i, x = .int i ∧ Q (g i) H
section
variable {X : Cx} {a b c : Expr} {ta tb tc : TE} {pos : Pos}
theorem binT (ha : PE X a ta) (hb : PE X b tb) {pins : List (Addr × Obj)} {s : Shared} {σ : St} {H : Hp} {R : V → V → Hp → Prop} (I : Inv X pins σ H s)
  (h : ta σ H fun x H1 => tb σ H1 fun y H2 => R x y H2) {Q : Value → Shared → Prop} {f : Value → Value → Sem Value}
  (hf : ∀ v u s2 x y H2, Inv X pins σ H2 s2 → RelV x v → RelV y u → R x y H2 → wpAny (model X.prog X.w) X.A (f v u) Q X.xe s2) :
  wpAny (model X.prog X.w) X.A (eval a X.env) (fun v s₁ => wpAny (model X.prog X.w) X.A (eval b X.env) (fun u s₂ => wpAny (model X.prog X.w) X.A (f v u) Q X.xe s₂) X.xe s₁) X.xe s := by
 refine thn (ha pins s σ H _ I h) fun v s1 ⟨x, H1, I1, r1, q1⟩ => ?_
 refine thn (hb pins s1 σ H1 _ I1 q1) fun u s2 ⟨y, H2, I2, r2, q2⟩ => ?_
 exact hf v u s2 x y H2 I2 r1 r2 q2
theorem pe_op {op : Operator} {r : R2} (ho : OpR X (binaryOp op) r) (ha : PE X a ta) (hb : PE X b tb) : PE X (.BinOp a op b pos) (tOp r ta tb) := by
 intro pins s σ H Q I h
 exact wpAny_BinOp (binT ha hb I h fun v u s2 x y H2 I2 rx ry q => ho pins s2 σ H2 x y v u Q I2 rx ry q)
theorem pe_un {op : UnaryOp} {r : V → Hp → VK → Prop} (ho : UnR X (unaryOp op) r) (ha : PE X a ta) : PE X (.UnaryOp op a pos) (tUn r ta) := by
 intro pins s σ H Q I h
 exact UnaryOp_ (thn (ha pins s σ H _ I h) fun v s1 ⟨x, H1, I1, r1, q1⟩ => ho pins s1 σ H1 x v Q I1 r1 q1)
theorem opI {f : Value → Value → Sem Value} {C : Int → Int → Prop} {g : Int → Int → Int}
  (rule : ∀ (i j : Int) (t u : Tok) (s : Shared) (Q : Value → Shared → Prop) (E : Value → Shared → Prop), C i j → Q (.int (g i j) s.toks) { s with toks := s.toks + 1 } → wpAny (model X.prog X.w) X.A (f (.int i t) (.int j u)) Q E s) :
  OpR X f (rI C fun i j => .int (g i j)) := by
 intro pins s σ H x y v u Q I rx ry h
 obtain ⟨i, j, rfl, rfl, hc, q⟩ := h
 obtain ⟨t, rfl⟩ := rx
 obtain ⟨t', rfl⟩ := ry
 exact rule i j t t' s _ _ hc ⟨.int (g i j), H, I.tok _, ⟨_, rfl⟩, q⟩
theorem opI0 {f : Value → Value → Sem Value} {g : Int → Int → Int}
  (rule : ∀ (i j : Int) (t u : Tok) (s : Shared) (Q : Value → Shared → Prop) (E : Value → Shared → Prop), Q (.int (g i j) s.toks) { s with toks := s.toks + 1 } → wpAny (model X.prog X.w) X.A (f (.int i t) (.int j u)) Q E s) :
  OpR X f (rI0 fun i j => .int (g i j)) := by
 intro pins s σ H x y v u Q I rx ry h
 obtain ⟨i, j, rfl, rfl, q⟩ := h
 obtain ⟨t, rfl⟩ := rx
 obtain ⟨t', rfl⟩ := ry
 exact rule i j t t' s _ _ ⟨.int (g i j), H, I.tok _, ⟨_, rfl⟩, q⟩
theorem opB0 {f : Value → Value → Sem Value} {g : Int → Int → Bool}
  (rule : ∀ (i j : Int) (t u : Tok) (s : Shared) (Q : Value → Shared → Prop) (E : Value → Shared → Prop), Q (.bool (g i j)) s → wpAny (model X.prog X.w) X.A (f (.int i t) (.int j u)) Q E s) :
  OpR X f (rI0 fun i j => .bl (g i j)) := by
 intro pins s σ H x y v u Q I rx ry h
 obtain ⟨i, j, rfl, rfl, q⟩ := h
 obtain ⟨t, rfl⟩ := rx
 obtain ⟨t', rfl⟩ := ry
 exact rule i j t t' s _ _ ⟨.bl (g i j), H, I, rfl, q⟩
noncomputable def CDiv (i j : Int) : Prop := 0 < j ∧ j < 1073741824
noncomputable def CMul (i j : Int) : Prop := (-(2 ^ 64) < i ∧ i < 2 ^ 64) ∨ (-(2 ^ 64) < j ∧ j < 2 ^ 64)
theorem CMul.ok {i j : Int} (h : CMul i j) : IntMulOk i j := by
 rcases h with ⟨h1, h2⟩ | ⟨h1, h2⟩
 ·exact .of_left (intBits_le_64 h1 h2)
 ·exact .of_right (intBits_le_64 h1 h2)
theorem op_add : OpR X (binaryOp .Add) (rI0 fun i j => .int (i + j)) := opI0 fun _ _ _ _ _ _ _ q => add_int q
theorem op_sub : OpR X (binaryOp .Sub) (rI0 fun i j => .int (i - j)) := opI0 fun _ _ _ _ _ _ _ q => sub_int q
theorem op_mul : OpR X (binaryOp .Mult) (rI CMul fun i j => .int (i * j)) := opI fun _ _ _ _ _ _ _ hc q => mul_int q hc.ok
theorem op_fdiv : OpR X (binaryOp .FloorDiv) (rI CDiv fun i j => .int (i / j)) := opI fun i j _ _ _ _ _ hc q => by
 have h1 : (0 : Int) < j := hc.1
 have h2 : j < 1073741824 := hc.2
 exact floordiv_int (by omega) (by rw [Int.fdiv_eq_ediv_of_nonneg i (by omega)]; exact q) (.inl (PyProof.noPylong_small (by omega)))
theorem op_mod : OpR X (binaryOp .Mod) (rI (fun _ j => 0 < j) fun i j => .int (i % j)) := opI fun i j _ _ _ _ _ hc q => by
 have h1 : (0 : Int) < j := hc
 exact mod_int' (by omega) (by rw [Int.fmod_eq_emod_of_nonneg i (by omega)]; exact q)
theorem op_and : OpR X (binaryOp .BitAnd) (rI0 fun i j => .int (Builtin.bitAnd i j)) := opI0 fun _ _ _ _ _ _ _ q => and_int q
theorem unI {f : Value → Sem Value} {g : Int → Int}
  (rule : ∀ (i : Int) (t : Tok) (s : Shared) (Q : Value → Shared → Prop) (E : Value → Shared → Prop), Q (.int (g i) s.toks) { s with toks := s.toks + 1 } → wpAny (model X.prog X.w) X.A (f (.int i t)) Q E s) :
  UnR X f (rU fun i => .int (g i)) := by
 intro pins s σ H x v Q I rx h
 obtain ⟨i, rfl, q⟩ := h
 obtain ⟨t, rfl⟩ := rx
 exact rule i t s _ _ ⟨.int (g i), H, I.tok _, ⟨_, rfl⟩, q⟩
theorem un_neg : UnR X (unaryOp .USub) (rU fun i => .int (-i)) := unI fun _ _ _ _ _ q => neg_int q
end
noncomputable def scal : V → V → Bool
 | .non, .non => true | .non, .int _ => true | .int _, .non => true | .non, .bl _ => true | .bl _, .non => true | .non, .str _ => true | .str _, .non => true
 | .int _, .int _ => true | .bl _, .bl _ => true | .str _, .str _ => true | .byt _, .byt _ => true
 | .int _, .str _ => true | .str _, .int _ => true | .bl _, .str _ => true | .str _, .bl _ => true
 | _, _ => false
noncomputable def rEq : R2 := fun x y H Q => scal x y = true ∧ Q (.bl (decide (x = y))) H
noncomputable def rNe : R2 := fun x y H Q => scal x y = true ∧ Q (.bl (!decide (x = y))) H
theorem dec_int {i j : Int} : decide (V.int i = V.int j) = (i == j) := by
 rw [Bool.eq_iff_iff]
 simp
theorem dec_bl {i j : Bool} : decide (V.bl i = V.bl j) = (i == j) := by
 rw [Bool.eq_iff_iff]
 simp
theorem dec_str {i j : Str} : decide (V.str i = V.str j) = (i == j) := by
 rw [Bool.eq_iff_iff]
 simp
theorem dec_byt {i j : Array UInt8} : decide (V.byt i = V.byt j) = (i.toList == j.toList) := by
 rw [Bool.eq_iff_iff]
 cases i
 cases j
 simp
section
variable {X : Cx} {a b c : Expr} {ta tb tc : TE} {pos : Pos}
theorem fin_bl {pins : List (Addr × Obj)} {σ : St} {H : Hp} {s : Shared} {Q : VK} {k k' : Bool} (I : Inv X pins σ H s) (q : Q (.bl k) H) (e : k = k') : EP X pins σ Q (.bool k') s := by
 subst e
 exact ⟨.bl k, H, I, rfl, q⟩
theorem op_eq : OpR X (compareOp .Eq) rEq := by
 intro pins s σ H x y v u Q I rx ry h
 obtain ⟨hs, q⟩ := h
 cases x with
 | non =>
  cases rx
  cases y with
  | non => cases ry; exact PySem.EqNone.eq_none_none (fin_bl I q (by simp))
  | bl j => cases ry; exact PySem.EqNone.eq_none_bool (fin_bl I q (by simp))
  | int j => obtain ⟨t', rfl⟩ := ry; exact PySem.EqNone.eq_none_int (fin_bl I q (by simp))
  | str j => obtain ⟨t', rfl⟩ := ry; exact PySem.EqNone.eq_none_str (fin_bl I q (by simp))
  | _ => exact absurd (show false = true from hs) Bool.false_ne_true
 | bl i =>
  cases rx
  cases y with
  | non => cases ry; exact PySem.EqNone.eq_bool_none (fin_bl I q (by simp))
  | bl j => cases ry; exact eq_bool (fin_bl I q dec_bl)
  | str j => obtain ⟨t', rfl⟩ := ry; exact PySem.EqMixed.eq_bool_str (fin_bl I q (by simp))
  | _ => exact absurd (show false = true from hs) Bool.false_ne_true
 | int i =>
  obtain ⟨t, rfl⟩ := rx
  cases y with
  | non => cases ry; exact PySem.EqNone.eq_int_none (fin_bl I q (by simp))
  | int j => obtain ⟨t', rfl⟩ := ry; exact eq_int (fin_bl I q dec_int)
  | str j => obtain ⟨t', rfl⟩ := ry; exact PySem.EqMixed.eq_int_str (fin_bl I q (by simp))
  | _ => exact absurd (show false = true from hs) Bool.false_ne_true
 | str i =>
  obtain ⟨t, rfl⟩ := rx
  cases y with
  | non => cases ry; exact PySem.EqNone.eq_str_none (fin_bl I q (by simp))
  | bl j => cases ry; exact PySem.EqMixed.eq_str_bool (fin_bl I q (by simp))
  | int j => obtain ⟨t', rfl⟩ := ry; exact PySem.EqMixed.eq_str_int (fin_bl I q (by simp))
  | str j => obtain ⟨t', rfl⟩ := ry; exact eq_str (fin_bl I q dec_str)
  | _ => exact absurd (show false = true from hs) Bool.false_ne_true
 | byt i =>
  obtain ⟨t, rfl⟩ := rx
  cases y with
  | byt j => obtain ⟨t', rfl⟩ := ry; exact PySem.W.eq_bytes (fin_bl I q dec_byt)
  | _ => exact absurd (show false = true from hs) Bool.false_ne_true
 | _ => cases y <;> exact absurd (show false = true from hs) Bool.false_ne_true
theorem op_ne : OpR X (compareOp .NotEq) rNe := by
 intro pins s σ H x y v u Q I rx ry h
 obtain ⟨hs, q⟩ := h
 cases x with
 | non =>
  cases rx
  cases y with
  | non => cases ry; exact PySem.EqNone.ne_none_none (fin_bl I q (by simp))
  | bl j => cases ry; exact PySem.EqNone.ne_none_bool (fin_bl I q (by simp))
  | int j => obtain ⟨t', rfl⟩ := ry; exact PySem.EqNone.ne_none_int (fin_bl I q (by simp))
  | str j => obtain ⟨t', rfl⟩ := ry; exact PySem.EqNone.ne_none_str (fin_bl I q (by simp))
  | _ => exact absurd (show false = true from hs) Bool.false_ne_true
 | bl i =>
  cases rx
  cases y with
  | non => cases ry; exact PySem.EqNone.ne_bool_none (fin_bl I q (by simp))
  | bl j => cases ry; exact ne_bool (fin_bl I q (congrArg not dec_bl))
  | str j => obtain ⟨t', rfl⟩ := ry; exact PySem.EqMixed.ne_bool_str (fin_bl I q (by simp))
  | _ => exact absurd (show false = true from hs) Bool.false_ne_true
 | int i =>
  obtain ⟨t, rfl⟩ := rx
  cases y with
  | non => cases ry; exact PySem.EqNone.ne_int_none (fin_bl I q (by simp))
  | int j => obtain ⟨t', rfl⟩ := ry; exact ne_int (fin_bl I q (congrArg not dec_int))
  | str j => obtain ⟨t', rfl⟩ := ry; exact PySem.EqMixed.ne_int_str (fin_bl I q (by simp))
  | _ => exact absurd (show false = true from hs) Bool.false_ne_true
 | str i =>
  obtain ⟨t, rfl⟩ := rx
  cases y with
  | non => cases ry; exact PySem.EqNone.ne_str_none (fin_bl I q (by simp))
  | bl j => cases ry; exact PySem.EqMixed.ne_str_bool (fin_bl I q (by simp))
  | int j => obtain ⟨t', rfl⟩ := ry; exact PySem.EqMixed.ne_str_int (fin_bl I q (by simp))
  | str j => obtain ⟨t', rfl⟩ := ry; exact ne_str (fin_bl I q (congrArg not dec_str))
  | _ => exact absurd (show false = true from hs) Bool.false_ne_true
 | byt i =>
  obtain ⟨t, rfl⟩ := rx
  cases y with
  | byt j => obtain ⟨t', rfl⟩ := ry; exact PySem.W.ne_bytes (fin_bl I q (congrArg not dec_byt))
  | _ => exact absurd (show false = true from hs) Bool.false_ne_true
 | _ => cases y <;> exact absurd (show false = true from hs) Bool.false_ne_true
theorem op_lt : OpR X (compareOp .Lt) (rI0 fun i j => .bl (decide (i < j))) := opB0 fun _ _ _ _ _ _ _ q => lt_int q
theorem op_le : OpR X (compareOp .LtE) (rI0 fun i j => .bl (decide (i ≤ j))) := opB0 fun _ _ _ _ _ _ _ q => le_int q
theorem op_gt : OpR X (compareOp .Gt) (rI0 fun i j => .bl (decide (j < i))) := opB0 fun _ _ _ _ _ _ _ q => gt_int q
theorem op_ge : OpR X (compareOp .GtE) (rI0 fun i j => .bl (decide (j ≤ i))) := opB0 fun _ _ _ _ _ _ _ q => ge_int q
theorem op_isN : OpR X (compareOp .Is) (fun x y H Q => y = .non ∧ Q (.bl (decide (x = .non))) H) := by
 intro pins s σ H x y v u Q I rx ry h
 obtain ⟨rfl, q⟩ := h
 cases ry
 refine is_none_gen (fin_bl I q ?_)
 cases x <;> first
  | (cases rx; rfl)
  | (obtain ⟨t, rfl⟩ := rx; rfl)
theorem op_notN : OpR X (compareOp .IsNot) (fun x y H Q => y = .non ∧ Q (.bl (!decide (x = .non))) H) := by
 intro pins s σ H x y v u Q I rx ry h
 obtain ⟨rfl, q⟩ := h
 cases ry
 refine isnot_none_gen (fin_bl I q ?_)
 cases x <;> first
  | (cases rx; rfl)
  | (obtain ⟨t, rfl⟩ := rx; rfl)
theorem nomark (b : Expr) {op : CmpOp} (h : op ≠ .In := by decide) (h2 : op ≠ .NotIn := by decide) : behindInMarks op b = false := by
 have e1 : (op == CmpOp.In) = false := by cases op <;> first | rfl | exact absurd rfl h
 have e2 : (op == CmpOp.NotIn) = false := by cases op <;> first | rfl | exact absurd rfl h2
 cases b <;> simp [behindInMarks, e1, e2]
theorem pe_cmpR {op : CmpOp} {r : R2} (ho : OpR X (compareOp op) r) (ha : PE X a ta) (hb : PE X b tb) (hm : behindInMarks op b = false) : PE X (.Compare a [op] [b] pos) (tOp r ta tb) := by
 intro pins s σ H Q I h
 exact wpAny_Compare1 (binT ha hb I h fun v u s2 x y H2 I2 rx ry q => ho pins s2 σ H2 x y v u Q I2 rx ry q) hm
noncomputable def tTest (t : TE) : TT := fun σ H Q => t σ H fun x H' => ∃ k, x = .bl k ∧ Q k H'
theorem pt_cmpR {op : CmpOp} {r : R2} (ho : OpR X (compareOp op) r) (ha : PE X a ta) (hb : PE X b tb) (hm : behindInMarks op b = false) : PT X (.Compare a [op] [b] pos) (tTest (tOp r ta tb)) := by
 intro pins s σ H Q I h
 refine wpAny_isTrue_Compare1 (thn (ha pins s σ H _ I h) fun v s1 ⟨x, H1, I1, r1, q1⟩ => thn (hb pins s1 σ H1 _ I1 q1) fun u s2 ⟨y, H2, I2, r2, q2⟩ =>
  thn (ho pins s2 σ H2 x y v u _ I2 r1 r2 q2) fun c s3 ⟨z, H3, I3, r3, k, e, q3⟩ => ?_) hm
 subst e
 cases r3
 exact wpAny_truthy_bool ⟨H3, I3, q3⟩
noncomputable def tChain (r r' : R2) (ta tb tc : TE) : TE := fun σ H Q => ta σ H fun x H1 => tb σ H1 fun y H2 => r x y H2 fun z H3 => ∃ k, z = .bl k ∧
 (if k = true then tc σ H3 fun w' H4 => r' y w' H4 Q else Q (.bl false) H3)
theorem pe_chain {op op' : CmpOp} {r r' : R2} (ho : OpR X (compareOp op) r) (ho' : OpR X (compareOp op') r') (ha : PE X a ta) (hb : PE X b tb) (hc : PE X c tc)
  (hm : lastMarks [op, op'] [b, c] = false := by with_unfolding_all rfl) : PE X (.Compare a [op, op'] [b, c] pos) (tChain r r' ta tb tc) := by
 intro pins s σ H Q I h
 refine Compare_chain (thn (ha pins s σ H _ I h) fun v s1 ⟨x, H1, I1, r1, q1⟩ => chain_link (thn (hb pins s1 σ H1 _ I1 q1) fun u s2 ⟨y, H2, I2, r2, q2⟩ =>
  thn (ho pins s2 σ H2 x y v u _ I2 r1 r2 q2) fun d s3 ⟨z, H3, I3, r3, k, e, q3⟩ => ?_)) hm
 subst e
 cases r3
 refine wpAny_truthy_bool ?_
 cases k with
 | false => exact ite_ff ⟨.bl false, H3, I3, rfl, q3⟩
 | true => exact ite_tt (chain_last (thn (hc pins s3 σ H3 _ I3 q3) fun w' s4 ⟨z', H4, I4, r4, q4⟩ => ho' pins s4 σ H4 y z' u w' Q I4 r2 r4 q4))
theorem pt_chain {op op' : CmpOp} {r r' : R2} (ho : OpR X (compareOp op) r) (ho' : OpR X (compareOp op') r') (ha : PE X a ta) (hb : PE X b tb) (hc : PE X c tc)
  (hm : lastMarks [op, op'] [b, c] = false := by with_unfolding_all rfl) : PT X (.Compare a [op, op'] [b, c] pos) (tTest (tChain r r' ta tb tc)) := by
 intro pins s σ H Q I h
 refine isTrue_chain (thn (ha pins s σ H _ I h) fun v s1 ⟨x, H1, I1, r1, q1⟩ => test_link (thn (hb pins s1 σ H1 _ I1 q1) fun u s2 ⟨y, H2, I2, r2, q2⟩ =>
  thn (ho pins s2 σ H2 x y v u _ I2 r1 r2 q2) fun d s3 ⟨z, H3, I3, r3, k, e, q3⟩ => ?_)) hm
 subst e
 cases r3
 refine wpAny_truthy_bool ?_
 cases k with
 | false =>
  obtain ⟨k', e', q'⟩ := q3
  cases e'
  exact ite_ff ⟨H3, I3, q'⟩
 | true =>
  refine ite_tt (test_last (thn (hc pins s3 σ H3 _ I3 q3) fun w' s4 ⟨z', H4, I4, r4, q4⟩ => thn (ho' pins s4 σ H4 y z' u w' _ I4 r2 r4 q4) fun d' s5 ⟨z2, H5, I5, r5, k2, e2, q5⟩ => ?_))
  subst e2
  cases r5
  exact wpAny_truthy_bool ⟨H5, I5, q5⟩
theorem line63 : (sizeLine : Nat) < 2 ^ 63 := by rw [sizeLine_eq]; decide
theorem op_add_str : OpR X (binaryOp .Add) (fun x y H Q => ∃ i j, x = .str i ∧ y = .str j ∧ i.length + j.length ≤ sizeLine ∧ Q (.str (i ++ j)) H) := by
 intro pins s σ H x y v u Q I rx ry h
 obtain ⟨i, j, rfl, rfl, hz, q⟩ := h
 obtain ⟨t, rfl⟩ := rx
 obtain ⟨t', rfl⟩ := ry
 exact add_str (fun t' tk => ⟨.str (i ++ j), H, I.tok _, ⟨_, rfl⟩, q⟩) hz
theorem vals1 {x : V} {us : List Value} (r : Vals [x] us) : ∃ u, us = [u] ∧ RelV x u := by
 cases r with
 | cons r1 r2 => cases r2; exact ⟨_, rfl, r1⟩
theorem vals2 {x y : V} {us : List Value} (r : Vals [x, y] us) : ∃ u w', us = [u, w'] ∧ RelV x u ∧ RelV y w' := by
 cases r with
 | cons r1 r2 =>
  cases r2 with
  | cons r3 r4 => cases r4; exact ⟨_, _, rfl, r1, r3⟩
theorem call_max2 (hc : X.calm = true) : CallR X (.builtin "max") (fun xs H Q => ∃ i j, xs = [.int i, .int j] ∧ Q (.int (if j > i then j else i)) H) := by
 intro pins s σ H xs us Q I r h
 obtain ⟨i, j, rfl, q⟩ := h
 obtain ⟨u, w', rfl, ⟨t, rfl⟩, ⟨t', rfl⟩⟩ := vals2 r
 refine max_two_ints (I.ok.hd hc) fun h' tk k => ⟨_, H, I.kept k, ?_, q⟩
 by_cases hj : j > i
 ·rw [if_pos hj, if_pos hj]; exact ⟨_, rfl⟩
 ·rw [if_neg hj, if_neg hj]; exact ⟨_, rfl⟩
theorem call_min2 (hc : X.calm = true) : CallR X (.builtin "min") (fun xs H Q => ∃ i j, xs = [.int i, .int j] ∧ Q (.int (if j < i then j else i)) H) := by
 intro pins s σ H xs us Q I r h
 obtain ⟨i, j, rfl, q⟩ := h
 obtain ⟨u, w', rfl, ⟨t, rfl⟩, ⟨t', rfl⟩⟩ := vals2 r
 refine min_two_ints (I.ok.hd hc) fun h' tk k => ⟨_, H, I.kept k, ?_, q⟩
 by_cases hj : j < i
 ·rw [if_pos hj, if_pos hj]; exact ⟨_, rfl⟩
 ·rw [if_neg hj, if_neg hj]; exact ⟨_, rfl⟩
theorem call_str_int : CallR X (.type "str") (fun xs H Q => ∃ i, xs = [.int i] ∧ i.natAbs.log2 < 1920 ∧ Q (.str (toString i)) H) := by
 intro pins s σ H xs us Q I r h
 obtain ⟨i, rfl, hz, q⟩ := h
 obtain ⟨u, rfl, t, rfl⟩ := vals1 r
 exact PySem.P.str_of_int hz ⟨.str _, H, I.tok _, ⟨_, rfl⟩, q⟩
theorem call_ord : CallR X (.builtin "ord") (fun xs H Q => ∃ x, xs = [.str x] ∧ x.length = 1 ∧ Q (.int (x.cps.getD 0 0 : Nat)) H) := by
 intro pins s σ H xs us Q I r h
 obtain ⟨x, rfl, hz, q⟩ := h
 obtain ⟨u, rfl, t, rfl⟩ := vals1 r
 exact ord_of_one hz ⟨.int _, H, I.tok _, ⟨_, rfl⟩, q⟩
end
end L2
namespace L2
open PySem PySem.Spec PyProof.Rows
structure ObjM (h : Heap) (x dx C : Addr) (mA : Str → Option Value) : Prop where
 obj : h.get? x = some (PySem.W.instObj C dx)
 ns : h.Ns1 dx mA
 ne : dx ≠ x
theorem lookIn_ns {h : Heap} {dx : Addr} {mA : Str → Option Value} (n : h.Ns1 dx mA) : ∃ od, h.get? dx = some od ∧ ∀ name, PySem.W.lookIn name od = some (mA name) := by
 obtain ⟨o, es, ep, ho, hd, hk, _, hm⟩ := n
 refine ⟨o, ho, fun name => ?_⟩
 have e := hm name
 unfold nsFind findBy at e
 rw [← Array.find?_toList] at e
 unfold PySem.W.lookIn
 rw [hd]
 dsimp only
 split
 ·rename_i y q
  rw [q] at e
  exact congrArg some e
 ·rename_i q
  rw [q] at e
  have a : es.toList.any (·.refKey) = false := by
   rw [List.any_eq_false]
   intro y hy
   obtain ⟨z, t, hkey⟩ := hk y (Array.mem_toList_iff.mp hy)
   simp [DictEntry.refKey, hkey]
  have a' : ¬ es.toList.any (·.refKey) = true := by rw [a]; exact Bool.false_ne_true
  rw [if_neg a']
  exact congrArg some e
theorem ObjM.look {h : Heap} {x dx C : Addr} {mA : Str → Option Value} (I : ObjM h x dx C mA) : ∃ od, PySem.W.InstAt h x (PySem.W.instObj C dx) C (some od) ∧ ∀ name, PySem.W.lookIn name od = some (mA name) :=
 let ⟨od, ho, hl⟩ := lookIn_ns I.ns
 ⟨od, ⟨I.obj, rfl, rfl, ho⟩, hl⟩
section
variable {prog : Program} {w : World} {A : Around} {E : Value → Shared → Prop} {s : Shared} {K : PySem.W.Frag} {x dx C f : Addr} {mA : Str → Option Value} {name : Str} {v : Value}
theorem get_map {expr : Bool} {Q : Value → Shared → Prop} (X : K.In s.heap) (I : ObjM s.heap x dx C mA) (hg : PySem.W.plainGet K C name = true) (hh : PySem.W.hasDictIn K C = true)
  (ha : PySem.W.findIn K (.ref C) name = some none) (hv : mA name = some v) (hv' : PySem.W.handedIn v = true) (h : Q v { s with toks := s.toks + 1 }) :
  wpAny (model prog w) A (getAttr (.ref x) name expr) Q E s := by
 obtain ⟨od, J, hl⟩ := I.look
 exact PySem.W.get_value X J (PySem.W.plainGet_of hg).1 (PySem.W.findObj_own hh ha rfl (by rw [hl, hv])) hv' h
theorem get_meth {pl : Sem Bool} {Q : Value × List Value → Shared → Prop} (X : K.In s.heap) (I : ObjM s.heap x dx C mA) (hg : PySem.W.plainGet K C name = true)
  (hf : PySem.W.findIn K (.ref C) name = some (some (.ref f))) (ht : PySem.W.isFn K (.ref f) = true) (hv : mA name = none) (h : Q (.ref f, [.ref x]) s) :
  wpAny (model prog w) A (getMethod (.ref x) name pl) Q E s := by
 obtain ⟨od, J, hl⟩ := I.look
 exact PySem.W.method_fn X J (PySem.W.plainGet_of hg).1 (PySem.W.plainGet_of hg).2 hf (beq_iff_eq.mp ht) (by show (PySem.W.lookIn name od).map (·.isSome) = some false; rw [hl, hv]; rfl) h
theorem set_map {ns : List Str} {Q : Unit → Shared → Prop} (X : K.In s.heap) (I : ObjM s.heap x dx C mA)
  (hs : PySem.W.findIn K (.ref C) "__setattr__" = some (some (.builtin "object.__setattr__"))) (hp : PySem.W.plainOver K C = true) (ht : PySem.W.takerIn K C name = some none) (hh : PySem.W.hasDictIn K C = true)
  (hw : PySem.Within mA ns) (hsz : ns.length ≤ sizeLine)
  (h : ∀ h', ObjM h' x dx C (fun y => if y = name then some v else mA y) → Heap.SameBut dx s.heap h' → Q () { s with heap := h', toks := s.toks + 2 }) :
  wpAny (model prog w) A (setAttr (.ref x) name v) Q E s := by
 obtain ⟨od, J, hl⟩ := I.look
 refine PySem.W.set_plain X J hs (PySem.W.osa_open (s := { s with toks := s.toks + 1 }) (r := none) X J hp ht fun b => ?_)
 obtain ⟨cd, hc, hd'⟩ := PySem.W.any_some hh
 have hx : s.heap.get? x = some ⟨.ref C, some dx, .plain, #[]⟩ := I.obj
 refine wpAny_bind (wpAny_pure (wpAny_bind (wpAny_bind (wpAny_loadPart hx (wpAny_bind (PySem.W.Looks.here (s := { s with toks := s.toks + 1 }) (PySem.W.looks_clsIn X hc) ?_))))))
 rw [hd']
 refine wpAny_pure (a := some dx) (wpAny_bind (wpAny_pure (wpAny_bind ?_)))
 refine wpAny_nsSet1 (s := { s with toks := s.toks + 1 }) I.ns fun h' hn2 hs2 => ?_
 obtain ⟨oD, esD, epD, hoD, hdD, hcD⟩ := hn2.count (PySem.Within.cons name v hw)
 refine wpAny_bind (wpAny_lookBehind hoD (by rw [hdD]; exact pastItsLine_dict (Nat.le_trans hcD (by rw [List.length_cons]; omega))) ?_)
 exact wpAny_pure (h _ ⟨(hs2.2 _ (Ne.symm I.ne)).trans I.obj, hn2, I.ne⟩ hs2)
theorem make_map {R : Result → Shared → Prop} {vs : List Value} {kw : List (Str × Value)} (X : K.In s.heap) (hm : PySem.W.makesIn K C = true)
  (hi : PySem.W.findIn K (.ref C) "__init__" = some (some (.ref f))) (hf : PySem.W.typeIn K (.ref f) = some (.type "function"))
  (h : codeAny (model prog w) (A.under (.builtin "type.__call__" ⟨.ref C :: vs, kw⟩)) (.call (.ref f) ⟨.ref (s.heap.objs.size + 1) :: vs, kw⟩) (PySem.W.InitBack (s.heap.objs.size + 1) R)
   { s with heap := (s.heap.push PySem.W.emptyDict).push (PySem.W.instObj C s.heap.objs.size) }) :
  codeAny (model prog w) A (.call (.ref C) ⟨vs, kw⟩) R s := by
 obtain ⟨hh, g, d, t, os⟩ := s
 exact PySem.W.make_core (PySem.W.makes_of X hm) (PySem.W.looks_findIn X hi) (fun self => PySem.W.bind_fn X self hf) (.inl rfl) h
end
noncomputable def putF (f : Str) (v : V) : List (Str × V) → List (Str × V)
 | [] => [(f, v)]
 | (g, x) :: r => if g = f then (g, v) :: r else (g, x) :: putF f v r
theorem lookup_putF (f g : Str) (v : V) : ∀ fs : List (Str × V), (putF f v fs).lookup g = if g = f then some v else fs.lookup g
 | [] => by
  show List.lookup g [(f, v)] = _
  by_cases h : g = f
  ·have hb : (g == f) = true := beq_iff_eq.mpr h
   simp only [List.lookup, hb, if_pos h]
  ·have hb : (g == f) = false := beq_eq_false_iff_ne.mpr h
   simp only [List.lookup, hb, if_neg h]
 | (k, x) :: r => by
  have ih := lookup_putF f g v r
  rw [show putF f v ((k, x) :: r) = (if k = f then (k, v) :: r else (k, x) :: putF f v r) from rfl]
  by_cases hk : k = f
  ·rw [if_pos hk]
   by_cases h : g = k
   ·have hb : (g == k) = true := beq_iff_eq.mpr h
    simp only [List.lookup, hb, if_pos (h.trans hk)]
   ·have hb : (g == k) = false := beq_eq_false_iff_ne.mpr h
    simp only [List.lookup, hb, if_neg (fun e : g = f => h (e.trans hk.symm))]
  ·rw [if_neg hk]
   by_cases h : g = k
   ·have hb : (g == k) = true := beq_iff_eq.mpr h
    simp only [List.lookup, hb, if_neg (fun e : g = f => hk (h.symm.trans e))]
   ·have hb : (g == k) = false := beq_eq_false_iff_ne.mpr h
    simp only [List.lookup, hb]
    exact ih
theorem keys_putF (f : Str) (v : V) : ∀ fs : List (Str × V), f ∈ (putF f v fs).map (·.1) ∧ ∀ g, g ∈ fs.map (·.1) → g ∈ (putF f v fs).map (·.1)
 | [] => ⟨by simp [putF], fun g h => by simp at h⟩
 | (k, x) :: r => by
  obtain ⟨i1, i2⟩ := keys_putF f v r
  rw [show putF f v ((k, x) :: r) = (if k = f then (k, v) :: r else (k, x) :: putF f v r) from rfl]
  by_cases hk : k = f
  ·rw [if_pos hk]
   subst hk
   exact ⟨by simp, fun g h => by simpa using h⟩
  ·rw [if_neg hk]
   refine ⟨?_, fun g h => ?_⟩
   ·rw [List.map_cons]
    exact List.mem_cons_of_mem _ i1
   ·rw [List.map_cons] at h ⊢
    rcases List.mem_cons.mp h with e | e
    ·exact List.mem_cons.mpr (.inl e)
    ·exact List.mem_cons_of_mem _ (i2 g e)
theorem length_putF (f : Str) (v : V) : ∀ fs : List (Str × V), (putF f v fs).length ≤ fs.length + 1
 | [] => by simp [putF]
 | (k, x) :: r => by
  have ih := length_putF f v r
  rw [show putF f v ((k, x) :: r) = (if k = f then (k, v) :: r else (k, x) :: putF f v r) from rfl]
  by_cases hk : k = f
  ·rw [if_pos hk, List.length_cons, List.length_cons]; omega
  ·rw [if_neg hk, List.length_cons, List.length_cons]; omega
theorem RelO.some_of {v : V} {o : Option Value} (r : RelO (some v) o) : ∃ u, o = some u ∧ RelV v u := by
 cases o with
 | none => exact (show False from r).elim
 | some u => exact ⟨u, rfl, r⟩
theorem RelO.none_of {o : Option Value} (r : RelO none o) : o = none := by
 cases o with
 | none => rfl
 | some u => exact (show False from r).elim
theorem handed_of {v : V} {u : Value} (r : RelV v u) : PySem.W.handedIn u = true := by
 cases v with
 | non => cases (show u = Value.none from r); rfl
 | bl b => cases (show u = Value.bool b from r); rfl
 | int i => obtain ⟨t, e⟩ := (show ∃ t, u = Value.int i t from r); cases e; rfl
 | str x => obtain ⟨t, e⟩ := (show ∃ t, u = Value.str x t from r); cases e; rfl
 | byt b => obtain ⟨t, e⟩ := (show ∃ t, u = Value.bytes b t from r); cases e; rfl
 | flt b => obtain ⟨t, e⟩ := (show ∃ t, u = Value.float b t from r); cases e; rfl
 | ref a => cases (show u = Value.ref a from r); rfl
 | ty n => cases (show u = Value.type n from r); rfl
section
variable {P : Program} {w : World} {H H' : Hp} {h h' : Heap} {a C dx : Addr} {fs fs' : List (Str × V)}
theorem ins_get (hok : HOk P w H h) (e : H a = some (.ins C dx fs)) : ∃ mA, ObjM h a dx C mA ∧ (∀ f, RelO (fs.lookup f) (mA f)) ∧ PySem.Within mA (fs.map (·.1)) ∧ fs.length ≤ 1000 ∧ H dx = some (.own a) := by
 obtain ⟨d, z, ne, ob, mA, n, r, q⟩ := (show ObjOk P w H h a (.ins C dx fs) from hok a _ e)
 exact ⟨mA, ⟨ob, n, ne⟩, r, q, z, d⟩
end
structure Cls (K : PySem.W.Frag) (C : Addr) : Prop where
 pg : PySem.W.plainGet K C Str.empty = true
 hd : PySem.W.hasDictIn K C = true
 po : PySem.W.plainOver K C = true
 sa : PySem.W.findIn K (.ref C) "__setattr__" = some (some (.builtin "object.__setattr__"))
theorem Cls.get {K : PySem.W.Frag} {C : Addr} (c : Cls K C) (f : Str) : PySem.W.plainGet K C f = true := c.pg
noncomputable def NoAttr (K : PySem.W.Frag) (C : Addr) (f : Str) : Prop := PySem.W.findIn K (.ref C) f = some none
theorem NoAttr.taker {K : PySem.W.Frag} {C : Addr} {f : Str} (n : NoAttr K C f) : PySem.W.takerIn K C f = some none := by
 unfold PySem.W.takerIn
 rw [show PySem.W.findIn K (.ref C) f = some none from n]
 rfl
structure Meth (K : PySem.W.Frag) (C : Addr) (m : Str) (f : Addr) : Prop where
 at_ : PySem.W.findIn K (.ref C) m = some (some (.ref f))
 fn : PySem.W.isFn K (.ref f) = true
 kp : PySem.W.keepIn K (.ref f) = true
section
variable {X : Cx} {pins : List (Addr × Obj)} {σ : St} {H : Hp} {s : Shared} {a C dx : Addr} {fs : List (Str × V)} {f : Str} {v : V} {A : Around} {E : Value → Shared → Prop}
theorem getattr_ok {b : Bool} {Q : Value → Shared → Prop} (I : Inv X pins σ H s) (e : H a = some (.ins C dx fs)) (c : Cls X.K C) (n : NoAttr X.K C f) (l : fs.lookup f = some v)
  (h : ∀ u s', Inv X pins σ H s' → RelV v u → Q u s') : wpAny (model X.prog X.w) A (getAttr (.ref a) f b) Q E s := by
 obtain ⟨mA, O, r, _, _, _⟩ := ins_get I.hok e
 obtain ⟨u, hu, ru⟩ := RelO.some_of (v := v) (o := mA f) (by rw [← l]; exact r f)
 exact get_map I.kIn O (c.get f) c.hd n hu (handed_of ru) (h u _ (I.tok _) ru)
theorem getmeth_ok {m : Str} {g : Addr} {pl : Sem Bool} {Q : Value × List Value → Shared → Prop} (I : Inv X pins σ H s) (e : H a = some (.ins C dx fs)) (c : Cls X.K C) (k : Meth X.K C m g) (l : fs.lookup m = none)
  (h : Q (.ref g, [.ref a]) s) : wpAny (model X.prog X.w) A (getMethod (.ref a) m pl) Q E s := by
 obtain ⟨mA, O, r, _, _, _⟩ := ins_get I.hok e
 have hn : mA m = none := RelO.none_of (by rw [← l]; exact r m)
 exact get_meth I.kIn O (c.get m) k.at_ k.fn hn h
theorem setattr_ok {y : V} {u : Value} {Q : Unit → Shared → Prop} (I : Inv X pins σ H s) (e : H a = some (.ins C dx fs)) (c : Cls X.K C) (n : NoAttr X.K C f) (hl : fs.length < 1000) (ry : RelV y u)
  (h : ∀ s', Inv X pins σ (upd H a (.ins C dx (putF f y fs))) s' → Q () s') : wpAny (model X.prog X.w) A (setAttr (.ref a) f u) Q E s := by
 obtain ⟨mA, O, r, wi, _, ho⟩ := ins_get I.hok e
 have hz : (fs.map (·.1)).length ≤ sizeLine := by rw [List.length_map, sizeLine_eq]; omega
 refine set_map I.kIn O c.sa c.po n.taker c.hd wi hz fun h' O' sb => h _ ?_
 have hd : ∃ o, h'.get? dx = some o := let ⟨o, _, _, e', _⟩ := O'.ns; ⟨o, e'⟩
 refine I.write (x := a) (e := dx) (by rw [e]; exact True.intro) (.inr ho) (fun b q hb z => (sb.2 b hb).trans z) hd ?_
 refine ⟨by rw [upd_ne O.ne]; exact ho, ?_, O.ne, O'.obj, _, O'.ns, fun g => ?_, fun g hg => ?_⟩
 ·have := length_putF f y fs; omega
 ·show RelO ((putF f y fs).lookup g) (if g = f then some u else mA g)
  rw [lookup_putF]
  by_cases q : g = f
  ·rw [if_pos q, if_pos q]; exact ry
  ·rw [if_neg q, if_neg q]; exact r g
 ·by_cases q : g = f
  ·rw [q]; exact (keys_putF f y fs).1
  ·refine (keys_putF f y fs).2 g (wi g fun z => hg ?_)
   show (if g = f then some u else mA g) = none
   rw [if_neg q]; exact z
theorem Inv.made (I : Inv X pins σ H s) : Inv X pins σ (upd (upd H s.heap.objs.size (.own (s.heap.objs.size + 1))) (s.heap.objs.size + 1) (.ins C s.heap.objs.size []))
  { s with heap := (s.heap.push PySem.W.emptyDict).push (PySem.W.instObj C s.heap.objs.size) } := by
 have e1 : (s.heap.push PySem.W.emptyDict).get? s.heap.objs.size = some PySem.W.emptyDict := Heap.get?_push_size s.heap rfl
 have e2 : ((s.heap.push PySem.W.emptyDict).push (PySem.W.instObj C s.heap.objs.size)).get? (s.heap.objs.size + 1) = some (PySem.W.instObj C s.heap.objs.size) := by
  have := Heap.get?_push_size (s.heap.push PySem.W.emptyDict) (o := PySem.W.instObj C s.heap.objs.size) rfl
  rwa [Heap.size_push] at this
 have e3 : (s.heap.push PySem.W.emptyDict).Ns s.heap.objs.size (fun _ => none) := ⟨PySem.W.emptyDict, #[], _, e1, rfl, (fun e he => absurd he (by simp)), fun _ => rfl⟩
 have I1 := I.laid (a := s.heap.objs.size) (o := .own (s.heap.objs.size + 1)) (h' := s.heap.push PySem.W.emptyDict) (t' := s.toks) (fun b u q => Heap.get?_push_of_some _ q) (Nat.le_refl _) ⟨_, e1⟩
 refine I1.laid (a := s.heap.objs.size + 1) (o := .ins C s.heap.objs.size []) (t' := s.toks) (fun b u q => Heap.get?_push_of_some _ q) (Nat.le_of_eq (Heap.size_push _ _)) ?_
 have ne : s.heap.objs.size ≠ s.heap.objs.size + 1 := Nat.ne_of_lt (Nat.lt_succ_self _)
 refine ⟨by rw [upd_ne ne, upd_same], Nat.zero_le _, ne, e2, fun _ => none, (Heap.Ns1.of_empty e3).at fun o q => Heap.get?_push_of_some _ q, fun _ => True.intro, fun y hy => absurd rfl hy⟩
theorem attr_of {prog : Program} {w : World} {env : Env} {e : Expr} {f : Str} {pos : Pos} {s : Shared} {Q : Value → Shared → Prop} (hb : attributeBase e f env (eval e env) = eval e env)
  (h : wpAny (model prog w) A (eval e env) (fun o s₁ => wpAny (model prog w) A (getAttr o f true) Q E s₁) E s) : wpAny (model prog w) A (eval (.Attribute e f pos) env) Q E s :=
 Attribute_any_ h (by rw [arm_eval_Attribute, hb])
end
noncomputable def tFld (K : PySem.W.Frag) (ta : TE) (f : Str) : TE := fun σ H Q => ta σ H fun x H1 => ∃ a C dx fs v, x = .ref a ∧ H1 a = some (.ins C dx fs) ∧ Cls K C ∧ NoAttr K C f ∧ fs.lookup f = some v ∧ Q v H1
noncomputable def sFld (K : PySem.W.Frag) (ta tv : TE) (f : Str) : TS := fun D σ H => tv σ H fun y H1 => ta σ H1 fun x H2 => ∃ a C dx fs, x = .ref a ∧ H2 a = some (.ins C dx fs) ∧ Cls K C ∧ NoAttr K C f ∧ fs.length < 1000 ∧
 D.nx σ (upd H2 a (.ins C dx (putF f y fs)))
section
variable {X : Cx} {o e value : Expr} {f : Str} {pos pos' tpos : Pos} {ta tv : TE}
theorem pe_fld (he : PE X e ta) (hb : attributeBase e f X.env (eval e X.env) = eval e X.env) : PE X (.Attribute e f pos) (tFld X.K ta f) := by
 intro pins s σ H Q I h
 refine attr_of hb (thn (he pins s σ H _ I h) fun u s1 ⟨x, H1, I1, rx, a, C, dx, fs, v, ex, ea, c, n, l, q⟩ => ?_)
 subst ex
 obtain rfl : u = Value.ref a := rx
 exact getattr_ok I1 ea c n l fun u' s2 I2 ru => ⟨v, H1, I2, ru, q⟩
theorem ps_fld (ha : PE X o ta) (hv : PE X value tv) (hs : swapsWith value (some (.Attribute o f pos')) pos.line X.env = pure false) : PS X (.Assign [.Attribute o f pos'] value pos) (sFld X.K ta tv f) := by
 intro pins s σ H D I h
 refine plainObj_wpAny_Assign_Attribute (thn (hv pins s σ H _ I h) fun u s1 ⟨y, H1, I1, ry, q⟩ => thn (ha pins s1 σ H1 _ I1 q) fun ov s2 ⟨x, H2, I2, rx, a, C, dx, fs, ex, ea, c, n, l, q2⟩ => ?_) hs
 subst ex
 obtain rfl : ov = Value.ref a := rx
 exact setattr_ok I2 ea c n l ry fun s3 I3 => ⟨σ, _, I3, q2⟩
end
end L2
namespace L2
open PySem PySem.Spec PyProof.Rows
structure Room (k : Nat) (A : Around) : Prop where
 hd : A.handled = none
 dp : A.depth + 3 * k + 5 < recursionLimit
 un : A.units + 16 * k + 200 < cLine
theorem Room.mono {j k : Nat} {A : Around} (r : Room k A) (h : j ≤ k) : Room j A := ⟨r.hd, by have := r.dp; omega, by have := r.un; omega⟩
theorem Room.deeper {k : Nat} {A : Around} (r : Room (k + 1) A) (env : Env) : Room k (A.deeper env) :=
 ⟨r.hd, by have := r.dp; show A.depth + 1 + 3 * k + 5 < _; omega, by have := r.un; show A.units + 3 + 16 * k + 200 < _; omega⟩
theorem make_depth {A : Around} {C : Addr} {us : List Value} {kw : List (Str × Value)} : (A.under (.builtin "type.__call__" ⟨.ref C :: us, kw⟩)).depth = A.depth + 1 := by
 first | rfl | simp [Around.under, Code.weight, Code.isCreation, Code.isGuard, Code.isCaller, Code.frames, Code.isFrame, guardIds]
theorem make_units {A : Around} {C : Addr} {us : List Value} {kw : List (Str × Value)} : (A.under (.builtin "type.__call__" ⟨.ref C :: us, kw⟩)).units = A.units + 1 := by
 first | rfl | simp [Around.under, Code.cUnits, Code.frames, Code.isFrame]
theorem Room.make {k : Nat} {A : Around} (r : Room (k + 1) A) (C : Addr) (us : List Value) (kw : List (Str × Value)) : Room k (A.under (.builtin "type.__call__" ⟨.ref C :: us, kw⟩)) :=
 ⟨r.hd, by have := r.dp; rw [make_depth]; omega, by have := r.un; rw [make_units]; omega⟩
theorem Room.depth {k : Nat} {A : Around} (r : Room k A) : A.depth < recursionLimit := by have := r.dp; omega
theorem Room.units {k : Nat} {A : Around} (r : Room k A) : A.units + 64 < cLine := by have := r.un; omega
noncomputable def tNil : TA := fun _ H Q => Q [] H
noncomputable def tCons (ta : TE) (tr : TA) : TA := fun σ H Q => ta σ H fun x H1 => tr σ H1 fun xs H2 => Q (x :: xs) H2
section
variable {X : Cx} {e : Expr} {es : List Expr} {te : TE} {t : TA} {pos : Pos}
theorem pa_nil : PA X [] tNil := fun _ _ _ _ H Q I h => Calls.spliced_nil ⟨[], H, I, .nil, h⟩
theorem pa_cons (ha : PE X e te) (hr : PA X es t) (hs : starEach (e :: es) X.env = (false, eval e X.env) :: starEach es X.env := by rfl) : PA X (e :: es) (tCons te t) := by
 intro pos pins s σ H Q I h
 rw [hs]
 show wpAny _ _ (spliced ((false, eval e X.env) :: backTo pos (starEach es X.env))) _ _ s
 refine Calls.spliced_cons (thn (ha pins s σ H _ I h) fun u s1 ⟨x, H1, I1, r1, q1⟩ => ?_)
 exact thn (hr pos pins s1 σ H1 _ I1 q1) fun us s2 ⟨xs, H2, I2, r2, q2⟩ => ⟨x :: xs, H2, I2, .cons r1 r2, q2⟩
noncomputable def tTup (t : TA) : TE := fun σ H Q => t σ H fun xs H1 => xs.length ≤ sizeLine ∧ ∀ p, H1 p = none → Q (.ref p) (upd H1 p (.tup xs))
noncomputable def tLst (t : TA) : TE := fun σ H Q => t σ H fun xs H1 => xs.length ≤ sizeLine ∧ ∀ p, H1 p = none → Q (.ref p) (upd H1 p (.lst xs))
theorem pe_tup {x1} (h : PA X es t) : PE X (.Tuple es x1 pos) (tTup t) := by
 intro pins s σ H Q I hq
 refine wpAny_Tuple_spliced (thn (h pos pins s σ H _ I hq) fun us s1 ⟨xs, H1, I1, r, z, q⟩ => ⟨by rw [← r.length]; exact z, ?_⟩)
 have hf : H1 s1.heap.objs.size = none := I1.hok.fresh (Nat.le_refl _)
 refine ⟨.ref s1.heap.objs.size, upd H1 s1.heap.objs.size (.tup xs), I1.laid (t' := s1.toks) (fun b u e => Heap.get?_push_of_some _ e) (Nat.le_refl _) ?_, rfl, q _ hf⟩
 exact ⟨z, us, r, ⟨_, Heap.get?_push_size _ rfl, rfl, _, rfl⟩⟩
theorem pe_lst (h : PA X es t) : PE X (.List es pos) (tLst t) := by
 intro pins s σ H Q I hq
 refine wpAny_List_spliced (thn (h pos pins s σ H _ I hq) fun us s1 ⟨xs, H1, I1, r, z, q⟩ => ⟨by rw [← r.length]; exact z, ?_⟩)
 have hf : H1 s1.heap.objs.size = none := I1.hok.fresh (Nat.le_refl _)
 refine ⟨.ref s1.heap.objs.size, upd H1 s1.heap.objs.size (.lst xs), I1.laid (t' := s1.toks) (fun b u e => Heap.get?_push_of_some _ e) (Nat.le_refl _) ?_, rfl, q _ hf⟩
 exact ⟨z, us, 0, r, Heap.get?_push_size _ rfl⟩
end
noncomputable abbrev Sp := List V → Hp → VK → XK → Prop
noncomputable abbrev CXT := List Env → Hp → Shared → XK → Value → Shared → Prop
structure Env0 (P : Program) (w : World) (K : PySem.W.Frag) (mg : Str → Option Value) (base : Heap) (A : Around) (outer : List Env) (s : Shared) (H : Hp) : Prop where
 frames : A.frames = some outer
 mod : Mod K mg base
 bs : ∀ b o, base.get? b = some o → s.heap.get? b = some o ∧ H b = none
 bsz : base.objs.size ≤ s.heap.objs.size
 funs : s.heap.FunFrames base outer
 frf : ∀ b ∈ frs outer, H b = none
 hok : HOk P w H s.heap
 bare : AllBare s.gens
noncomputable def CE (outer : List Env) (P : Program) (w : World) (H : Hp) (s : Shared) (Q : VK) (u : Value) (s' : Shared) : Prop :=
 ∃ v H', s'.os = s.os ∧ AllBare s'.gens ∧ Un (frs outer) [] H H' s.heap s'.heap ∧ HOk P w H' s'.heap ∧ RelV v u ∧ Q v H'
noncomputable def CR (CX : CXT) (outer : List Env) (P : Program) (w : World) (H : Hp) (s : Shared) (Q : VK) (E : XK) (r : Result) (s' : Shared) : Prop :=
 match r with
 | .ok (.ret u) => CE outer P w H s Q u s'
 | .ok _ => False
 | .error e => CX outer H s E e s'
structure FnOk (P : Program) (w : World) (K : PySem.W.Frag) (mg : Str → Option Value) (base : Heap) (CX : CXT) (k : Nat) (f : Addr) (fd : FuncData) (ps : List Str) (sp : Sp) : Prop where
 len : ∀ vs H Q E, sp vs H Q E → vs.length = ps.length
 run : ∀ (A : Around) (outer : List Env) (s : Shared) (H : Hp) (args : Args) (us : List Value) (vs : List V) (Q : VK) (E : XK), Room k A → Env0 P w K mg base A outer s H → BindsTo s fd args (ps.zip us) → Vals vs us → sp vs H Q E →
  codeAny (model P w) A (.call (.ref f) args) (CR CX outer P w H s Q E) s
theorem Env0.make {P : Program} {w : World} {K : PySem.W.Frag} {mg : Str → Option Value} {base : Heap} {A : Around} {outer : List Env} {s : Shared} {H : Hp} (e : Env0 P w K mg base A outer s H) (C : Addr) (us : List Value) (kw : List (Str × Value)) :
  Env0 P w K mg base (A.under (.builtin "type.__call__" ⟨.ref C :: us, kw⟩)) outer s H := ⟨by first | exact e.frames | (simpa [Around.under, Code.envs, Code.isFrame, pushEnvs] using e.frames), e.mod, e.bs, e.bsz, e.funs, e.frf, e.hok, e.bare⟩
section
variable {X : Cx} {pins : List (Addr × Obj)} {σ : St} {H : Hp} {s s' : Shared}
theorem Inv.env0 (I : Inv X pins σ H s) : Env0 X.prog X.w X.K X.mg X.base X.A X.stack s H :=
 ⟨I.ok.frames, I.ok.mod, I.bs, Nat.le_trans I.ok.bsz I.sz, I.stack, I.stkFree, I.hok, I.bare⟩
theorem Inv.after {Q : VK} {u : Value} (I : Inv X pins σ H s) (h : CE X.stack X.prog X.w H s Q u s') : EP X pins σ Q u s' := by
 obtain ⟨v, H', os, bare, un, hok, r, q⟩ := h
 obtain ⟨hh, g, d, t, os'⟩ := s'
 obtain rfl : os' = s.os := os
 exact ⟨v, H', I.call (h' := hh) (g' := g) (d' := d) (t' := t) (ch := []) un hok bare (fun b z => absurd z (by simp)), r, q⟩
end
noncomputable def tCall (sp : Sp) (dvs : List V) (E : XK) (t : TA) : TE := fun σ H Q => t σ H fun vs H1 => sp (vs ++ dvs) H1 Q E
noncomputable def tMeth (C : Addr) (m : Str) (sp : Sp) (dvs : List V) (E : XK) (ta : TE) (t : TA) : TE := fun σ H Q => ta σ H fun x H1 => ∃ a dx fs, x = .ref a ∧ H1 a = some (.ins C dx fs) ∧ fs.lookup m = none ∧
 t σ H1 fun vs H2 => sp (x :: (vs ++ dvs)) H2 Q E
noncomputable def tMake (C : Addr) (sp : Sp) (dvs : List V) (E : XK) (t : TA) : TE := fun σ H Q => t σ H fun vs H1 => ∀ x dx, H1 x = none → H1 dx = none → dx ≠ x →
 sp (.ref x :: (vs ++ dvs)) (upd (upd H1 dx (.own x)) x (.ins C dx [])) (fun v H2 => v = .non ∧ Q (.ref x) H2) E
noncomputable def Binds (K : PySem.W.Frag) (fd : FuncData) (ps : List Str) (ds : List Value) : Prop :=
 ∀ (s : Shared) (us : List Value), K.In s.heap → (us ++ ds).length = ps.length → BindsTo s fd ⟨us, []⟩ (ps.zip (us ++ ds))
theorem Binds.all {K : PySem.W.Frag} {fd : FuncData} {ps : List Str} (h : ∀ us : List Value, us.length = ps.length → bindArgs fd ⟨us, []⟩ = pure (ps.zip us)) : Binds K fd ps [] := fun s us _ hl => by
 rw [List.append_nil] at hl ⊢
 exact .of_eq (h us hl)
noncomputable def Passes (CX : CXT) (X : Cx) (E : XK) : Prop := ∀ (pins : List (Addr × Obj)) (σ : St) (H : Hp) (s : Shared) (e : Value) (s' : Shared), Inv X pins σ H s → CX X.stack H s E e s' → X.xe e s'
section
variable {X : Cx} {CX : CXT} {k : Nat} {f C : Addr} {fd : FuncData} {ps : List Str} {sp : Sp} {dvs : List V} {ds : List Value} {E : XK} {x m : Str} {p pos apos : Pos} {e o : Expr} {es : List Expr} {ta : TE} {t : TA}
theorem run_fn {pins : List (Addr × Obj)} {σ : St} {H : Hp} {s : Shared} {Q : VK} {us : List Value} {vs : List V} (F : FnOk X.prog X.w X.K X.mg X.base CX k f fd ps sp) (hr : Room k X.A) (hb : Binds X.K fd ps ds) (hd : Vals dvs ds) (hx : Passes CX X E)
  (I : Inv X pins σ H s) (r : Vals vs us) (h : sp (vs ++ dvs) H Q E) : wpAny (model X.prog X.w) X.A (call (.ref f) us) (EP X pins σ Q) X.xe s := by
 have r2 : Vals (vs ++ dvs) (us ++ ds) := r.append hd
 have hl : (us ++ ds).length = ps.length := by rw [← r2.length]; exact F.len _ _ _ _ h
 refine wpAny_call (codeAny_mono (F.run X.A X.stack s H ⟨us, []⟩ (us ++ ds) (vs ++ dvs) Q E hr I.env0 (hb s us I.kIn hl) r2 h) fun r s' hq => ?_)
 cases r with
 | error e => exact hx pins σ H s e s' I hq
 | ok fl =>
  cases fl with
  | ret u => exact I.after hq
  | next => exact False.elim hq
  | brk => exact False.elim hq
  | cont => exact False.elim hq
theorem pe_call (F : FnOk X.prog X.w X.K X.mg X.base CX k f fd ps sp) (hr : Room k X.A) (hg : Gl X x) (hm : X.mg x = some (.ref f)) (hk : PySem.W.keepIn X.K (.ref f) = true) (hb : Binds X.K fd ps ds) (hd : Vals dvs ds) (hx : Passes CX X E)
  (ha : PA X (e :: es) t) (hdb : (x == ("__debug__" : Str)) = false := by decide) (he : starEach (e :: es) X.env = (false, eval e X.env) :: starEach es X.env := by rfl) (hpl : (backTo pos (starEach es X.env)).any (·.1) = false := by rfl) :
  PE X (.Call (.Name x p) (e :: es) [] pos) (tCall sp dvs E t) := by
 intro pins s σ H Q I h
 refine wpAny_Call_Name_kw (ld_glob I hg hm ?_ hdb)
 refine PySem.W.callWith_K (h₀ := X.base) I.ok.mod.kin hk (thn (ha pos pins s σ H _ I h) fun us s1 ⟨vs, H1, I1, r, q⟩ => ⟨I1.kIn, ?_⟩) he hpl
 exact run_fn F hr hb hd hx I1 r q
theorem pe_meth {pl : Sem Bool} (he : PE X o ta) (c : Cls X.K C) (hm : Meth X.K C m f) (F : FnOk X.prog X.w X.K X.mg X.base CX k f fd ps sp) (hr : Room k X.A) (hb : Binds X.K fd ps ds) (hd : Vals dvs ds) (hx : Passes CX X E) (ha : PA X (e :: es) t)
  (hst : starEach (e :: es) X.env = (false, eval e X.env) :: starEach es X.env := by rfl) (hpl : (backTo pos (starEach es X.env)).any (·.1) = false := by rfl)
  (ht : eval (.Call (.Attribute o m apos) (e :: es) [] pos) X.env = (do
   let ov ← eval o X.env
   standAt apos.atName
   let (f, first) ← holding [ov] (getMethod ov m pl)
   callWith pos f first (backTo pos (starEach (e :: es) X.env)) (backToKw pos (keywordEach [] X.env))) := by rfl) :
  PE X (.Call (.Attribute o m apos) (e :: es) [] pos) (tMeth C m sp dvs E ta t) := by
 intro pins s σ H Q I h
 refine PySem.W.methodCall_KW (pl := pl) (thn (he pins s σ H _ I h) fun u s1 ⟨x, H1, I1, rx, a, dx, fs, ex, ea, l, q⟩ => ?_) ht
 subst ex
 obtain rfl : u = Value.ref a := rx
 refine getmeth_ok I1 ea c hm l ?_
 refine PySem.W.callWith_K (first := [.ref a]) (h₀ := X.base) I.ok.mod.kin hm.kp (thn (ha pos pins s1 σ H1 _ I1 q) fun us s2 ⟨vs, H2, I2, r, q2⟩ => ⟨I2.kIn, ?_⟩) hst hpl
 exact run_fn (us := .ref a :: us) (vs := .ref a :: vs) F hr hb hd hx I2 (.cons rfl r) q2
structure Mk (K : PySem.W.Frag) (C f : Addr) : Prop where
 makes : PySem.W.makesIn K C = true
 init : PySem.W.findIn K (.ref C) "__init__" = some (some (.ref f))
 fn : PySem.W.isFn K (.ref f) = true
 kp : PySem.W.keepIn K (.ref C) = true
theorem run_make {pins : List (Addr × Obj)} {σ : St} {H : Hp} {s : Shared} {Q : VK} {us : List Value} {vs : List V} (M : Mk X.K C f) (F : FnOk X.prog X.w X.K X.mg X.base CX k f fd ps sp) (hr : Room (k + 1) X.A) (hb : Binds X.K fd ps ds) (hd : Vals dvs ds)
  (hx : Passes CX X E) (I : Inv X pins σ H s) (r : Vals vs us)
  (h : ∀ x dx, H x = none → H dx = none → dx ≠ x → sp (.ref x :: (vs ++ dvs)) (upd (upd H dx (.own x)) x (.ins C dx [])) (fun v H2 => v = .non ∧ Q (.ref x) H2) E) :
  wpAny (model X.prog X.w) X.A (call (.ref C) us) (EP X pins σ Q) X.xe s := by
 have hq := h (s.heap.objs.size + 1) s.heap.objs.size (I.hok.fresh (Nat.le_succ _)) (I.hok.fresh (Nat.le_refl _)) (Nat.ne_of_lt (Nat.lt_succ_self _))
 have I2 := Inv.made (C := C) I
 have r2 : Vals (V.ref (s.heap.objs.size + 1) :: (vs ++ dvs)) (Value.ref (s.heap.objs.size + 1) :: (us ++ ds)) := .cons rfl (r.append hd)
 have hl : (Value.ref (s.heap.objs.size + 1) :: us ++ ds).length = ps.length := by
  have e := r2.length
  rw [F.len _ _ _ _ hq] at e
  exact e.symm
 refine wpAny_call (make_map (f := f) I.kIn M.makes M.init (beq_iff_eq.mp M.fn) (codeAny_mono (F.run _ X.stack _ _ ⟨Value.ref (s.heap.objs.size + 1) :: us, []⟩ (Value.ref (s.heap.objs.size + 1) :: (us ++ ds)) _ _ E (hr.make C us [])
  (I2.env0.make C us []) (hb _ (Value.ref (s.heap.objs.size + 1) :: us) I2.kIn hl) r2 hq) fun r s' hq' => ?_))
 cases r with
 | error e => exact hx pins σ _ _ e s' I2 hq'
 | ok fl =>
  cases fl with
  | ret u =>
   obtain ⟨v, H', I3, rv, ev, q3⟩ := I2.after hq'
   subst ev
   exact ⟨rv, ⟨V.ref (s.heap.objs.size + 1), H', I3, rfl, q3⟩⟩
  | next => exact False.elim hq'
  | brk => exact False.elim hq'
  | cont => exact False.elim hq'
theorem pe_make (M : Mk X.K C f) (F : FnOk X.prog X.w X.K X.mg X.base CX k f fd ps sp) (hr : Room (k + 1) X.A) (hg : Gl X x) (hm : X.mg x = some (.ref C)) (hb : Binds X.K fd ps ds) (hd : Vals dvs ds) (hx : Passes CX X E)
  (ha : PA X (e :: es) t) (hdb : (x == ("__debug__" : Str)) = false := by decide) (he : starEach (e :: es) X.env = (false, eval e X.env) :: starEach es X.env := by rfl) (hpl : (backTo pos (starEach es X.env)).any (·.1) = false := by rfl) :
  PE X (.Call (.Name x p) (e :: es) [] pos) (tMake C sp dvs E t) := by
 intro pins s σ H Q I h
 refine wpAny_Call_Name_kw (ld_glob I hg hm ?_ hdb)
 refine PySem.W.callWith_K (h₀ := X.base) I.ok.mod.kin M.kp (thn (ha pos pins s σ H _ I h) fun us s1 ⟨vs, H1, I1, r, q⟩ => ⟨I1.kIn, ?_⟩) he hpl
 exact run_make M F hr hb hd hx I1 r q
end
structure FnScope (N P : List Str) (sc : Scope) : Prop where
 kind : sc.kind = .function
 co : sc.isCoroutine = false
 gen : sc.isGenerator = false
 nd : N.Nodup
 pre : N.take P.length = P
 par : ∀ x ∈ P, sc.names.lookup x = some .local ∨ sc.names.lookup x = some .cell
 nofree : ∀ y ∈ sc.names, y.2 ≠ .free
theorem bindL_out {kindOf : Str → Option NameKind} {x : Str} : ∀ {binds : List (Str × Value)} {m : Str → Option Value}, (∀ v, (x, v) ∉ binds) → bindL kindOf binds m x = m x
 | [], _, _ => rfl
 | (n, v) :: r, m, h => by
  unfold bindL
  rw [bindL_out fun w hw => h w (List.mem_cons_of_mem _ hw)]
  split
  ·have : x ≠ n := by rintro rfl; exact h v List.mem_cons_self
   simp [this]
  ·rfl
theorem bindC_out {kindOf : Str → Option NameKind} {x : Str} : ∀ {binds : List (Str × Value)} {m : Str → Option Value}, (∀ v, (x, v) ∉ binds) → bindC kindOf binds m x = m x
 | [], _, _ => rfl
 | (n, v) :: r, m, h => by
  unfold bindC
  rw [bindC_out fun w hw => h w (List.mem_cons_of_mem _ hw)]
  split
  ·rfl
  ·have : x ≠ n := by rintro rfl; exact h v List.mem_cons_self
   simp [this]
theorem bindL_get {kindOf : Str → Option NameKind} {x : Str} {v : Value} : ∀ {P : List Str} {vs : List Value} {i : Nat} {m : Str → Option Value}, P.Nodup → P[i]? = some x → vs[i]? = some v → kindOf x = some .local →
  bindL kindOf (P.zip vs) m x = some v
 | [], _, _, _, _, h, _, _ => by simp at h
 | _ :: _, [], _, _, _, _, h, _ => by simp at h
 | p :: P, w :: vs, 0, m, nd, h1, h2, hk => by
  simp at h1 h2; subst h1; subst h2
  show bindL kindOf ((p, w) :: P.zip vs) m p = _
  unfold bindL
  rw [bindL_out fun v hv => (List.nodup_cons.mp nd).1 (List.of_mem_zip hv).1, if_pos hk]
  simp
 | p :: P, w :: vs, i + 1, m, nd, h1, h2, hk => by
  show bindL kindOf ((p, w) :: P.zip vs) m x = _
  unfold bindL
  exact bindL_get (i := i) (List.nodup_cons.mp nd).2 (by simpa using h1) (by simpa using h2) hk
theorem bindC_get {kindOf : Str → Option NameKind} {x : Str} {v : Value} : ∀ {P : List Str} {vs : List Value} {i : Nat} {m : Str → Option Value}, P.Nodup → P[i]? = some x → vs[i]? = some v → kindOf x ≠ some .local →
  bindC kindOf (P.zip vs) m x = some v
 | [], _, _, _, _, h, _, _ => by simp at h
 | _ :: _, [], _, _, _, _, h, _ => by simp at h
 | p :: P, w :: vs, 0, m, nd, h1, h2, hk => by
  simp at h1 h2; subst h1; subst h2
  show bindC kindOf ((p, w) :: P.zip vs) m p = _
  unfold bindC
  rw [bindC_out fun v hv => (List.nodup_cons.mp nd).1 (List.of_mem_zip hv).1, if_neg hk]
  simp
 | p :: P, w :: vs, i + 1, m, nd, h1, h2, hk => by
  show bindC kindOf ((p, w) :: P.zip vs) m x = _
  unfold bindC
  exact bindC_get (i := i) (List.nodup_cons.mp nd).2 (by simpa using h1) (by simpa using h2) hk
noncomputable def start (N : List Str) (vs : List V) : St := vs.map some ++ List.replicate (N.length - vs.length) none
noncomputable def cxOf (CX : CXT) (P : Program) (w : World) (K : PySem.W.Frag) (mg : Str → Option Value) (base : Heap) (N : List Str) (qual : Str) (scope : Scope) (f : Addr) (cd : Value) (A : Around) (outer : List Env) (s : Shared) (H : Hp) (E : XK) : Cx where
 prog := P
 w := w
 K := K
 mg := mg
 base := base
 A := A.deeper (envOfC qual scope s.heap.objs.size f cd)
 N := N
 s_0 := s
 H_0 := H
 env := envOfC qual scope s.heap.objs.size f cd
 outer := outer
 stack := envOfC qual scope s.heap.objs.size f cd :: outer
 ex := []
 calm := true
 fn := fun _ => true
 pn := []
 xe := fun e s' => wpAny (model P w) (A.deeper (envOfC qual scope s.heap.objs.size f cd)) (leaving (envOfC qual scope s.heap.objs.size f cd) e) (fun _ s'' => CX outer H s E e s'') (fun e' s'' => CX outer H s E e' s'') s'
theorem cell_has {sc : Scope} {n : Nat} {x : Str} (h : sc.names.lookup x = some .cell) : ∃ c, (cellsFrom n sc.names []).lookup x = some c := by
 have q := PySem.W.cellsFrom_some sc.names n [] (.inl h)
 exact Option.isSome_iff_exists.mp q
theorem inv_start {CX : CXT} {P : Program} {w : World} {K : PySem.W.Frag} {mg : Str → Option Value} {base : Heap} {N ps : List Str} {qual : Str} {scope : Scope} {f : Addr} {cd : Value} {A : Around} {outer : List Env} {s s1 : Shared} {H : Hp} {E : XK} {us : List Value} {vs : List V}
  (S : FnScope N ps scope) (hd : A.handled = none) (e0 : Env0 P w K mg base A outer s H) (hl : vs.length = ps.length) (r : Vals vs us)
  (x : InCallC s s.heap.objs.size (bindL (envOfC qual scope s.heap.objs.size f cd).kindOf (ps.zip us) fun _ => none) (cellsFrom (s.heap.objs.size + 1) scope.names []) (bindC (envOfC qual scope s.heap.objs.size f cd).kindOf (ps.zip us) fun _ => none) s1) :
  Inv (cxOf CX P w K mg base N qual scope f cd A outer s H E) [] (start N vs) H s1 := by
 have hpl : ps.length ≤ N.length := by have := congrArg List.length S.pre; rw [List.length_take] at this; omega
 obtain ⟨h1, tk, rfl, hk⟩ := x.done
 have noA : ∀ b : Addr, b ∉ (cxOf CX P w K mg base N qual scope f cd A outer s H E).ex := fun b z => absurd (show b ∈ ([] : List Addr) from z) (by simp)
 refine ⟨⟨e0.mod, S.kind, rfl, rfl, Nat.le_refl _, fun y z c h1 h2 => ?_, fun y hy => ?_, fun y c _ h => ?_, fun _ => hd, Around.frames_deeper e0.frames, .inr ⟨rfl, rfl⟩, fun b z => absurd z (noA b), e0.bs, e0.bsz, fun b _ _ => noA b, fun b z => absurd z (noA b), e0.funs, e0.frf⟩,
  rfl, e0.bare, Un.kept hk, ⟨_, x.toInCall.ns, fun i y v h1 h2 h3 => ?_⟩, fun y c h => ⟨_, x.cell y c h⟩, e0.hok.fresh (Nat.le_refl _), fun y c h => ?_, fun p hp => absurd (show p ∈ ([] : List (Addr × Obj)) from hp) (by simp), e0.hok.kept hk, ?_⟩
 ·exact name_of_addr x.apart (PySem.mem_of_lookup h1) (PySem.mem_of_lookup h2)
 ·have hy : scope.names.lookup y = some .cell ∨ scope.names.lookup y = some .free := hy
  rcases hy with hy | hy
  ·exact cell_has hy
  ·exact absurd rfl (S.nofree _ (PySem.mem_of_lookup hy))
 ·exact Nat.le_of_lt (x.above y c (PySem.mem_of_lookup h))
 ·have hi : i < vs.length := by
   unfold start at h2
   by_cases hi : i < vs.length
   ·exact hi
   ·rw [List.getElem?_append_right (by simpa using hi)] at h2
    rw [List.getElem?_replicate] at h2
    split at h2 <;> cases h2
  have ha : vs[i]? = some v := by
   unfold start at h2
   rw [List.getElem?_append_left (by simpa using hi), List.getElem?_map] at h2
   cases e : vs[i]? with
   | none => rw [e] at h2; cases h2
   | some a => rw [e] at h2; cases h2; rfl
  obtain ⟨u, hu, rv⟩ := r.get ha
  have hp : ps[i]? = some y := by
   rw [← S.pre, List.getElem?_take_of_lt (by omega)]; exact h1
  have ndP : ps.Nodup := by rw [← S.pre]; exact S.nd.sublist (List.take_sublist _ _)
  refine ⟨u, rv, ?_⟩
  rcases S.par y (List.mem_of_getElem? hp) with k | k
  ·exact .inl ⟨k, bindL_get ndP hp hu k⟩
  ·obtain ⟨c, e⟩ := cell_has (n := s.heap.objs.size + 1) k
   refine .inr ⟨.inl k, c, e, ?_⟩
   have q := x.cell y c e
   rw [bindC_get ndP hp hu (by show scope.names.lookup y ≠ _; rw [k]; decide)] at q
   exact q
 ·exact e0.hok.fresh (Nat.le_of_lt (x.above y c (PySem.mem_of_lookup h)))
 ·unfold start
  show _ = N.length
  rw [List.length_append, List.length_map, List.length_replicate]
  omega
theorem fn_of {CX : CXT} {P : Program} {w : World} {K : PySem.W.Frag} {mg : Str → Option Value} {base : Heap} {k : Nat} {f : Addr} {name qual : Str} {params : Arguments} {body : List Stmt} {scope : Scope} {dV kV doc pm cdv ct oc : Value} {an od : Option Addr}
  {osl : Array (Option Value)} {N ps : List Str} {sp : Sp} (lk : K.lookup f = some ⟨oc, od, .func (PySem.W.fnOf name qual params body scope dV kV doc pm an cdv ct), osl⟩) (hcd : PySem.W.codeIn K cdv qual = true) (S : FnScope N ps scope)
  (len : ∀ vs H Q E, sp vs H Q E → vs.length = ps.length)
  (hbody : ∀ (A : Around) (outer : List Env) (s : Shared) (H : Hp) (vs : List V) (Q : VK) (E : XK), Room k (A.deeper (envOfC qual scope s.heap.objs.size f cdv)) → sp vs H Q E →
   ∃ t, PSs (cxOf CX P w K mg base N qual scope f cdv A outer s H E) body t ∧ t { nx := fun _ H' => Q .non H', rt := Q } (start N vs) H) :
  FnOk P w K mg base CX (k + 1) f (PySem.W.fnOf name qual params body scope dV kV doc pm an cdv ct) ps sp := by
 refine ⟨len, fun A outer s H args us vs Q E hr e0 hb r hsp => ?_⟩
 have hl := len _ _ _ _ hsp
 have KX : K.In s.heap := e0.mod.kin.keeps fun b o e => (e0.bs b o e).1
 have lim : s.heap.NoLimit := e0.mod.nolimit.keeps fun b o e => (e0.bs b o e).1
 have hkind : ∀ y ∈ ps.zip us, scope.names.lookup y.1 = some .local ∨ (scope.names.lookup y.1 = some .cell ∧ ((cellsFrom (s.heap.objs.size + 1) scope.names []).lookup y.1).isSome = true) := fun ⟨n, v⟩ hy => by
  rcases S.par n (List.of_mem_zip hy).1 with q | q
  ·exact .inl q
  ·exact .inr ⟨q, PySem.W.cellsFrom_some _ _ _ (.inl q)⟩
 refine codeAny_call_function hr.depth (KX _ _ lk) rfl S.co S.gen rfl (PySem.W.codeRec_of KX hcd) (hb _ _ _ _ ?_)
 refine wpAny_newFunctionEnv_cells S.kind hkind fun env he s1 x => ?_
 subst he
 refine ⟨lim.keeps x.toInCall.keep, codeAny_func ?_⟩
 obtain ⟨t, ht, hq⟩ := hbody A outer s H vs Q E (hr.deeper _) hsp
 have I : Inv (cxOf CX P w K mg base N qual scope f cdv A outer s H E) [] (start N vs) H s1 := inv_start S hr.hd e0 hl r x
 refine wpAny_mono (ht [] s1 (start N vs) H _ I hq) (fun fl s' hs => ?_) fun e s' hs => hs
 have fin : ∀ {σ' : St} {H' : Hp} {v : V} {u : Value}, Inv (cxOf CX P w K mg base N qual scope f cdv A outer s H E) [] σ' H' s' → RelV v u → Q v H' → CE outer P w H s Q u s' :=
  fun {σ' H' v u} J rv q => ⟨v, H', J.os, J.bare, J.base, J.hok, rv, q⟩
 cases fl with
 | ret u =>
  obtain ⟨v, σ', H', J, rv, q⟩ := hs
  exact fin J rv q
 | next =>
  obtain ⟨σ', H', J, q⟩ := hs
  exact fin (v := V.non) (u := Value.none) J rfl q
 | brk =>
  obtain ⟨_, _, _, q⟩ := hs
  exact False.elim q
 | cont =>
  obtain ⟨_, _, _, q⟩ := hs
  exact False.elim q
end L2
namespace L2
open PySem PySem.Spec PyProof.Rows
section
variable {X : Cx} {x : Str} {p pos : Pos} {e : Expr} {es : List Expr} {t : TA} {id T : String} {r : List V → Hp → VK → Prop}
noncomputable def tCB (r : List V → Hp → VK → Prop) (t : TA) : TE := fun σ H Q => t σ H fun vs H1 => r vs H1 Q
theorem pe_callB (hc : CallR X (.builtin id) r) (hg : Gl X x) (hm : X.mg x = none) (hv : bootBuiltins x = some (.builtin id)) (ha : PA X (e :: es) t) (hn : x ≠ "__name__" := by decide) (hdb : (x == ("__debug__" : Str)) = false := by decide)
  (he : starEach (e :: es) X.env = (false, eval e X.env) :: starEach es X.env := by rfl) (hpl : (backTo pos (starEach es X.env)).any (·.1) = false := by rfl) : PE X (.Call (.Name x p) (e :: es) [] pos) (tCB r t) := by
 intro pins s σ H Q I h
 refine wpAny_Call_Name_kw (ld_blt I hg hm hv ?_ hn hdb)
 exact PyProof.Rows.callWith_builtin1 (thn (ha pos pins s σ H _ I h) fun us s1 ⟨vs, H1, I1, r1, q1⟩ => hc pins s1 σ H1 vs us Q I1 r1 q1) he hpl
theorem pe_callTy (hc : CallR X (.type T) r) (hg : Gl X x) (hm : X.mg x = none) (hv : bootBuiltins x = some (.type T)) (ha : PA X (e :: es) t) (hn : x ≠ "__name__" := by decide) (hdb : (x == ("__debug__" : Str)) = false := by decide)
  (he : starEach (e :: es) X.env = (false, eval e X.env) :: starEach es X.env := by rfl) (hpl : (backTo pos (starEach es X.env)).any (·.1) = false := by rfl) : PE X (.Call (.Name x p) (e :: es) [] pos) (tCB r t) := by
 intro pins s σ H Q I h
 refine wpAny_Call_Name_kw (ld_blt I hg hm hv ?_ hn hdb)
 exact PyProof.Rows.callWith_type1 (thn (ha pos pins s σ H _ I h) fun us s1 ⟨vs, H1, I1, r1, q1⟩ => hc pins s1 σ H1 vs us Q I1 r1 q1) he hpl
end
end L2
namespace HT
open PySem PyProof.Rows
noncomputable def lexLt : List Int → List Int → Bool
 | [], [] => false
 | [], _ :: _ => true
 | _ :: _, [] => false
 | x :: xs, y :: ys => if x = y then lexLt xs ys else decide (x < y)
theorem lexLt_cons (x y : Int) (xs ys : List Int) : lexLt (x :: xs) (y :: ys) = if x = y then lexLt xs ys else decide (x < y) := rfl
theorem lexLt_nil_nil : lexLt [] [] = false := rfl
theorem lexLt_nil_cons (y : Int) (ys : List Int) : lexLt [] (y :: ys) = true := rfl
theorem lexLt_cons_nil (x : Int) (xs : List Int) : lexLt (x :: xs) [] = false := rfl
theorem eqAt_int (A : Around) (s : Shared) (a : Int) (t : Tok) (c : Int) (u : Tok) : ∃ e, SeqAt.EqAt A s (.int a t) (.int c u) e ∧ (e = true ↔ a = c) :=
 ⟨(a == c), SeqAt.EqAt.int_int a t c u, by simp⟩
theorem rcLt_int (A : Around) (s : Shared) (a : Int) (t : Tok) (c : Int) (u : Tok) (prog : Program) (w : World) (E : Value → Shared → Prop) (Q : Value → Shared → Prop) (h : Q (.bool (decide (a < c))) s) :
  wpAny (model prog w) A (richCompare .Lt (.int a t) (.int c u)) Q E s :=
 (PyProof.Rows.lt_int h : wpAny (model prog w) A (compareOp .Lt (.int a t) (.int c u)) Q E s)
section
variable {prog : Program} {w : World} {A : Around} {E : Value → Shared → Prop} {s : Shared}
noncomputable def sIx (n d : Nat) : Option Int → Nat
 | none => d
 | some v => if v < 0 then (v + (n : Int)).toNat else min v.toNat n
theorem sIx_none (n d : Nat) : sIx n d none = d := rfl
theorem sIx_nat (n d k : Nat) : sIx n d (some (k : Int)) = min k n := by
 show (if (k : Int) < 0 then ((k : Int) + (n : Int)).toNat else min (k : Int).toNat n) = min k n
 rw [if_neg (by omega), Int.toNat_natCast]
end
end HT
namespace L2
open PySem PySem.Spec PyProof.Rows
noncomputable abbrev TO := St → Hp → (Option Int → Hp → Prop) → Prop
noncomputable def PO (X : Cx) (e : Option Expr) (t : TO) : Prop :=
 ∀ (pins : List (Addr × Obj)) (s : Shared) (σ : St) (H : Hp) (Q : Option Int → Hp → Prop), Inv X pins σ H s → t σ H Q →
  wpAny (model X.prog X.w) X.A (evalPart e X.env) (fun u s' => ∃ o H', Inv X pins σ H' s' ∧ IsPart u o ∧ Q o H') X.xe s
noncomputable def tNoPart : TO := fun _ H Q => Q none H
noncomputable def tPart (t : TE) : TO := fun σ H Q => t σ H fun x H1 => ∃ i, x = .int i ∧ Q (some i) H1
theorem intsAre_of {ns : List Int} : ∀ {us : List Value}, Vals (ns.map V.int) us → IntsAre us ns := by
 induction ns with
 | nil => intro us r; rw [List.map_nil] at r; cases r; exact .nil
 | cons n ns ih =>
  intro us r
  rw [List.map_cons] at r
  cases r with
  | cons r1 r2 =>
   obtain ⟨t, e⟩ := r1
   subst e
   exact .cons n t (ih r2)
section
variable {X : Cx} {e : Expr} {te : TE} {lo hi : Option Expr} {tl th : TO} {pos p2 : Pos}
theorem po_none : PO X none tNoPart := by
 intro pins s σ H Q I h
 rw [evalPart_none]
 exact wpAny_pure ⟨none, H, I, .none, h⟩
theorem po_some (h : PE X e te) : PO X (some e) (tPart te) := by
 intro pins s σ H Q I hw
 rw [evalPart_some]
 refine thn (h pins s σ H _ I hw) fun u s1 ⟨x, H1, I1, r1, q1⟩ => ?_
 obtain ⟨i, rfl, q⟩ := q1
 obtain ⟨t, rfl⟩ := r1
 exact ⟨some i, H1, I1, .int i t, q⟩
noncomputable def SlR (X : Cx) (r : V → Option Int → Option Int → Hp → VK → Prop) : Prop :=
 ∀ (pins : List (Addr × Obj)) (s : Shared) (σ : St) (H : Hp) (x : V) (v vl vu : Value) (lo hi : Option Int) (sl : Addr) (Q : VK), Inv X pins σ H s → RelV x v → s.heap.IsSliceOf sl vl vu .none → IsPart vl lo → IsPart vu hi → r x lo hi H Q →
  ∃ T id, typeLookup (.type T) "__getitem__" = pure (some (.builtin id)) ∧ s.TypeIs v T ∧ wpAny (model X.prog X.w) X.A (getItem v (.ref sl)) (EP X pins σ Q) X.xe s
noncomputable def tSl (r : V → Option Int → Option Int → Hp → VK → Prop) (te : TE) (tl th : TO) : TE := fun σ H Q => te σ H fun x H1 => tl σ H1 fun l H2 => th σ H2 fun u H3 => r x l u H3 Q
theorem pe_slice {r : V → Option Int → Option Int → Hp → VK → Prop} (hr : SlR X r) (he : PE X e te) (hl : PO X lo tl) (hu : PO X hi th) : PE X (.Subscript e (.Slice lo hi none p2) pos) (tSl r te tl th) := by
 intro pins s σ H Q I h
 refine Subscript_ (thn (he pins s σ H _ I h) fun v s1 ⟨x, H1, I1, r1, q1⟩ => ?_)
 refine wpAny_Slice (thn (hl pins s1 σ H1 _ I1 q1) fun vl s2 ⟨l, H2, I2, pl, q2⟩ => thn (hu pins s2 σ H2 _ I2 q2) fun vu s3 ⟨u, H3, I3, pu, q3⟩ => ?_)
 rw [evalPart_none]
 refine wpAny_pure ?_
 have I4 : Inv X pins σ H3 { s3 with heap := s3.heap.push { cls := .type "slice", data := .fields #[vl, vu, .none] } } := I3.kept (t' := s3.toks) fun b ob q => Heap.get?_push_of_some _ q
 obtain ⟨T, id, hT, ht, hg⟩ := hr pins { s3 with heap := s3.heap.push { cls := .type "slice", data := .fields #[vl, vu, .none] } } σ H3 x v vl vu l u s3.heap.objs.size Q I4 r1 (Heap.IsSliceOf.new ..) pl pu q3
 show wpAny (model X.prog X.w) X.A (subscriptTail e (.Slice lo hi none p2) v (.ref s3.heap.objs.size)) (EP X pins σ Q) X.xe { s3 with heap := s3.heap.push { cls := .type "slice", data := .fields #[vl, vu, .none] } }
 exact tail_any (ops := [.ref s3.heap.objs.size, v]) ht hT hg (by with_unfolding_all rfl)
noncomputable def cutV (xs : List V) (lo hi : Option Int) : List V := (xs.drop (HT.sIx xs.length 0 lo)).take (HT.sIx xs.length xs.length hi - HT.sIx xs.length 0 lo)
theorem cutV_length (xs : List V) (lo hi : Option Int) : (cutV xs lo hi).length ≤ xs.length := by
 unfold cutV
 rw [List.length_take, List.length_drop]
 omega
end
end L2
namespace L2
open PySem PySem.Spec PyProof.Rows
noncomputable def ixN (n : Nat) (i : Int) : Option Nat := if 0 ≤ i then (if i < n then some i.toNat else none) else if -(n : Int) ≤ i then some (i + n).toNat else none
noncomputable def atI {α : Type} (xs : List α) (i : Int) : Option α := (ixN xs.length i).bind fun j => xs[j]?
theorem ixN_seq {n : Nat} {i : Int} {j : Nat} (h : ixN n i = some j) : seqIndex? i n = some j ∧ j < n ∧ -(n : Int) ≤ i ∧ i < n := by
 unfold ixN at h
 by_cases h0 : 0 ≤ i
 ·rw [if_pos h0] at h
  by_cases h1 : i < n
  ·rw [if_pos h1] at h
   have e : i.toNat = j := Option.some.inj h
   exact ⟨by rw [seqIndex_of h0 h1, e], by omega, by omega, h1⟩
  ·rw [if_neg h1] at h; cases h
 ·rw [if_neg h0] at h
  by_cases h1 : -(n : Int) ≤ i
  ·rw [if_pos h1] at h
   have e : (i + n).toNat = j := Option.some.inj h
   exact ⟨by rw [seqIndex_neg (by omega) h1, e], by omega, h1, by omega⟩
  ·rw [if_neg h1] at h; cases h
theorem atI_get {α : Type} {xs : List α} {i : Int} {v : α} (h : atI xs i = some v) : ∃ j, seqIndex? i xs.length = some j ∧ xs[j]? = some v ∧ j < xs.length ∧ -(xs.length : Int) ≤ i ∧ i < xs.length := by
 unfold atI at h
 cases e : ixN xs.length i with
 | none => rw [e] at h; cases h
 | some j =>
  rw [e] at h
  obtain ⟨h1, h2, h3, h4⟩ := ixN_seq e
  exact ⟨j, h1, h, h2, h3, h4⟩
theorem atI_nat {α : Type} {xs : List α} {j : Nat} {v : α} (h : xs[j]? = some v) : atI xs (j : Int) = some v := by
 have hj : j < xs.length := (List.getElem?_eq_some_iff.mp h).1
 have e : ixN xs.length (j : Int) = some j := by
  unfold ixN
  rw [if_pos (by omega), if_pos (by omega)]; simp
 unfold atI; rw [e]; exact h
noncomputable def PlainIx (b : Expr) : Prop := ∀ o i, subscripted b false o i = operate [o, i] (getItem o i)
noncomputable def IxR (X : Cx) (r : R2) : Prop :=
 ∀ (value slice : Expr) (pins : List (Addr × Obj)) (s : Shared) (σ : St) (H : Hp) (x y : V) (v u : Value) (Q : VK), Inv X pins σ H s → RelV x v → RelV y u → r x y H Q →
  subscripted slice false v u = operate [v, u] (getItem v u) → wpAny (model X.prog X.w) X.A (subscriptTail value slice v u) (EP X pins σ Q) X.xe s
noncomputable def MtR (X : Cx) (id : String) (r : V → List V → Hp → VK → Prop) : Prop :=
 ∀ (pins : List (Addr × Obj)) (s : Shared) (σ : St) (H : Hp) (x : V) (xs : List V) (v : Value) (us : List Value) (Q : VK), Inv X pins σ H s → RelV x v → Vals xs us → r x xs H Q →
  wpAny (model X.prog X.w) X.A (call (.builtin id) (v :: us)) (EP X pins σ Q) X.xe s
section
variable {X : Cx} {a b : Expr} {ta tb : TE} {pos : Pos}
theorem pe_ix {r : R2} (hr : IxR X r) (ha : PE X a ta) (hb : PE X b tb) (hs : PlainIx b) : PE X (.Subscript a b pos) (tOp r ta tb) := by
 intro pins s σ H Q I h
 exact Subscript_ (binT ha hb I h fun v u s2 x y H2 I2 rx ry q => hr a b pins s2 σ H2 x y v u Q I2 rx ry q (hs _ _))
noncomputable def rIxL (K : PySem.W.Frag) : R2 := fun x y H Q => ∃ p xs i v, x = .ref p ∧ y = .int i ∧ SqL K H p xs ∧ atI xs i = some v ∧ Q v H
theorem ix_list : IxR X (rIxL X.K) := by
 intro value slice pins s σ H x y v u Q I rx ry h hs
 obtain ⟨p, xs, i, z, rfl, rfl, hq, he, q⟩ := h
 cases rx
 obtain ⟨t, rfl⟩ := ry
 obtain ⟨its, r, pl, hz⟩ := I.list hq
 obtain ⟨j, h1, h2, h3, h4, h5⟩ := atI_get he
 obtain ⟨w, ew, rw'⟩ := r.get h2
 have hl := r.length
 have hn := line63
 have fin : EP X pins σ Q w s := ⟨z, H, I, rw', q⟩
 by_cases h0 : 0 ≤ i
 ·have hj : i.toNat = j := by
   rw [seqIndex_of h0 h5] at h1
   exact Option.some.inj h1
  exact item_listR pl.isList h0 (by omega) (by rw [hj]; simpa using ew) fin hs
 ·have hj : (i + (its.toArray.size : Int)).toNat = j := by
   rw [seqIndex_neg (by omega) h4] at h1
   rw [List.size_toArray, ← hl]
   exact Option.some.inj h1
  exact subscriptTail_builtinR (x := w) pl.isList.typeIs slot_list_getitem.lookup
   (wpAny_getItem_list_neg (Q := fun r s' => r = w ∧ EP X pins σ Q r s') pl.isList (by omega) (by rw [List.size_toArray] <;> omega) (by omega) (by rw [hj]; simpa using ew) ⟨rfl, fin⟩) hs
theorem mapSeq_set (its : List Value) (n j : Nat) (u : Value) : Obj.mapSeq (·.setIfInBounds j u) { cls := .type "list", data := .seq its.toArray n } = { cls := .type "list", data := .seq (its.set j u).toArray n } := by
 simp [Obj.mapSeq]
theorem Inv.lst {pins : List (Addr × Obj)} {σ : St} {H : Hp} {s : Shared} {p : Addr} {xs : List V} (I : Inv X pins σ H s) (h : H p = some (.lst xs)) :
  ∃ (its : List Value) (n : Nat), Vals xs its ∧ s.heap.get? p = some { cls := .type "list", data := .seq its.toArray n } ∧ xs.length ≤ sizeLine := by
 obtain ⟨z, its, n, r, e⟩ := I.hok p _ h
 exact ⟨its, n, r, e, z⟩
theorem Inv.lstUpd {pins : List (Addr × Obj)} {σ : St} {H : Hp} {s : Shared} {p : Addr} {xs ys : List V} {its its' : List Value} {n n' : Nat} {f : Obj → Obj} (I : Inv X pins σ H s) (h : H p = some (.lst xs))
  (ho : s.heap.get? p = some { cls := .type "list", data := .seq its.toArray n }) (hf : f { cls := .type "list", data := .seq its.toArray n } = { cls := .type "list", data := .seq its'.toArray n' }) (r : Vals ys its') (hz : ys.length ≤ sizeLine) (t : Nat) :
  Inv X pins σ (upd H p (.lst ys)) { s with heap := s.heap.update p f, toks := t } := by
 have e : (s.heap.update p f).get? p = some { cls := .type "list", data := .seq its'.toArray n' } := by
  rw [Heap.get?_update_self f ho (by rw [hf] <;> rfl), hf]
 refine I.write (x := p) (e := p) (by rw [h]; trivial) (.inl rfl) (fun b u hb q => (Heap.get?_update_other _ _ (Ne.symm hb)).trans q) ⟨_, e⟩ ?_
 exact ⟨hz, its', n', r, e⟩
noncomputable def rSetL : V → V → V → Hp → (Hp → Prop) → Prop := fun o i v H Q => ∃ p xs k j, o = .ref p ∧ i = .int k ∧ H p = some (.lst xs) ∧ ixN xs.length k = some j ∧ Q (upd H p (.lst (xs.set j v)))
theorem set_list : PSet X rSetL := by
 intro pins s σ H o i v ov iv u Q I ro ri rv h
 obtain ⟨p, xs, k, j, rfl, rfl, hp, hj, q⟩ := h
 cases ro
 obtain ⟨t, rfl⟩ := ri
 obtain ⟨its, n, r, ho, hz⟩ := I.lst hp
 obtain ⟨h1, h2, h3, h4⟩ := ixN_seq hj
 have hl := r.length
 have hn := line63
 have I' : Inv X pins σ (upd H p (.lst (xs.set j v))) { s with heap := s.heap.update p (Obj.mapSeq (·.setIfInBounds j u)) } :=
  I.lstUpd hp ho (mapSeq_set its n j u) (r.set rv j) (by rw [List.length_set]; exact hz) s.toks
 by_cases h0 : 0 ≤ k
 ·have hk : k.toNat = j := by
   rw [seqIndex_of h0 h4] at h1
   exact Option.some.inj h1
  exact PySem.W.ki_setAt ho h0 (by omega) (by rw [List.size_toArray, ← hl]; exact h4) (by rw [hk]; exact ⟨_, I', q⟩)
 ·have hk : (k + (its.toArray.size : Int)).toNat = j := by
   rw [seqIndex_neg (by omega) h3] at h1
   rw [List.size_toArray, ← hl]
   exact Option.some.inj h1
  exact PySem.W.ki_setBack ho (by omega) (by rw [List.size_toArray, ← hl]; exact h3) (by omega) (by rw [hk]; exact ⟨_, I', q⟩)
theorem slice_bounds (lo hi : Option Int) (n : Nat) : (sliceBounds lo hi none n).1 = ((HT.sIx n 0 lo : Nat) : Int) ∧ (sliceBounds lo hi none n).2.1 = ((HT.sIx n n hi : Nat) : Int) ∧ (sliceBounds lo hi none n).2.2 = 1 := by
 refine ⟨?_, ?_, rfl⟩
 ·cases lo with
  | none => simp [sliceBounds, HT.sIx]
  | some i =>
   simp only [sliceBounds, HT.sIx, Option.getD_none, show (1 : Int) > 0 by decide, if_true]
   by_cases h : i < 0
   ·simp only [h, if_true] <;> omega
   ·simp only [h, if_false] <;> omega
 ·cases hi with
  | none => simp [sliceBounds, HT.sIx]
  | some i =>
   simp only [sliceBounds, HT.sIx, Option.getD_none, show (1 : Int) > 0 by decide, if_true]
   by_cases h : i < 0
   ·simp only [h, if_true] <;> omega
   ·simp only [h, if_false] <;> omega
theorem slicePick_cut (its : List Value) (lo hi : Option Int) : slicePick its.toArray lo hi none = ((its.drop (HT.sIx its.length 0 lo)).take (HT.sIx its.length its.length hi - HT.sIx its.length 0 lo)).toArray := by
 obtain ⟨h1, h2, h3⟩ := slice_bounds lo hi its.toArray.size
 unfold slicePick
 rw [h1, h2, h3]
 simp only [sliceRange_one, pick_run, List.size_toArray] <;> rfl
noncomputable def rSlL (K : PySem.W.Frag) : V → Option Int → Option Int → Hp → VK → Prop := fun x lo hi H Q => ∃ a xs, x = .ref a ∧ SqL K H a xs ∧ ∀ p, H p = none → Q (.ref p) (upd H p (.lst (cutV xs lo hi)))
theorem sl_list : SlR X (rSlL X.K) := by
 intro pins s σ H x v vl vu lo hi sl Q I rx hs pl pu h
 obtain ⟨a, xs, rfl, hx, q⟩ := h
 cases rx
 obtain ⟨its, r, ht, hz⟩ := I.list hx
 have hlen := r.length
 refine ⟨"list", _, slot_list_getitem.lookup, ht.isList.typeIs, ?_⟩
 refine wpAny_getItem_list_slice ht.isList hs pl pu .none (by simp) ?_ (by rw [List.size_toArray] <;> omega)
 rw [slicePick_cut, ← hlen]
 refine ⟨.ref s.heap.objs.size, _, I.laid (t' := s.toks) (o := .lst (cutV xs lo hi)) (fun b ob q => Heap.get?_push_of_some _ q) (Nat.le_refl _) ?_, rfl, q _ (I.hok.fresh (Nat.le_refl _))⟩
 exact ⟨Nat.le_trans (cutV_length xs lo hi) hz, _, 0, (r.drop (HT.sIx xs.length 0 lo)).take (HT.sIx xs.length xs.length hi - HT.sIx xs.length 0 lo), Heap.get?_push_size _ rfl⟩
noncomputable def flatV : V → Bool
 | .non => true
 | .bl _ => true
 | .int _ => true
 | .str _ => true
 | _ => false
noncomputable def eqV : V → V → Bool
 | .non, .non => true
 | .bl a, .bl b => a == b
 | .bl a, .int b => (if a then 1 else 0) == b
 | .int a, .bl b => a == (if b then 1 else 0)
 | .int a, .int b => a == b
 | .str a, .str b => a == b
 | _, _ => false
theorem eqAt_V {A : Around} {s : Shared} {y x : V} {u v : Value} (ry : RelV y u) (rx : RelV x v) (fy : flatV y = true) (fx : flatV x = true) : SeqAt.EqAt A s u v (eqV y x) := by
 cases y with
 | non =>
  cases ry
  cases x with
  | non => cases rx; exact SeqAt.EqAt.same _
  | bl b => cases rx; exact SeqAt.EqAt.none_bool b
  | int b => obtain ⟨t, rfl⟩ := rx; exact SeqAt.EqAt.none_int b t
  | str b => obtain ⟨t, rfl⟩ := rx; exact SeqAt.EqAt.none_str b t
  | _ => exact absurd (show false = true from fx) Bool.false_ne_true
 | bl a =>
  cases ry
  cases x with
  | non => cases rx; exact SeqAt.EqAt.bool_none a
  | bl b => cases rx; exact SeqAt.EqAt.bool_bool a b
  | int b => obtain ⟨t, rfl⟩ := rx; exact SeqAt.EqAt.bool_int a b t
  | str b => obtain ⟨t, rfl⟩ := rx; exact SeqAt.EqAt.bool_str a b t
  | _ => exact absurd (show false = true from fx) Bool.false_ne_true
 | int a =>
  obtain ⟨t', rfl⟩ := ry
  cases x with
  | non => cases rx; exact SeqAt.EqAt.int_none a t'
  | bl b => cases rx; exact SeqAt.EqAt.int_bool a t' b
  | int b => obtain ⟨t, rfl⟩ := rx; exact SeqAt.EqAt.int_int a t' b t
  | str b => obtain ⟨t, rfl⟩ := rx; exact SeqAt.EqAt.int_str a t' b t
  | _ => exact absurd (show false = true from fx) Bool.false_ne_true
 | str a =>
  obtain ⟨t', rfl⟩ := ry
  cases x with
  | non => cases rx; exact SeqAt.EqAt.str_none a t'
  | bl b => cases rx; exact SeqAt.EqAt.str_bool a t' b
  | int b => obtain ⟨t, rfl⟩ := rx; exact SeqAt.EqAt.str_int a t' b t
  | str b => obtain ⟨t, rfl⟩ := rx; exact SeqAt.EqAt.str_str a t' b t
  | _ => exact absurd (show false = true from fx) Bool.false_ne_true
 | _ => exact absurd (show false = true from fy) Bool.false_ne_true
noncomputable def eqU (x : V) (u : Value) : Bool := match u with
 | .none => eqV .non x
 | .bool b => eqV (.bl b) x
 | .int i _ => eqV (.int i) x
 | .str z _ => eqV (.str z) x
 | _ => false
theorem eqU_of {x y : V} {u : Value} (r : RelV y u) (f : flatV y = true) : eqU x u = eqV y x := by
 cases y with
 | non => cases r; rfl
 | bl b => cases r; rfl
 | int i => obtain ⟨t, rfl⟩ := r; rfl
 | str z => obtain ⟨t, rfl⟩ := r; rfl
 | _ => exact absurd (show false = true from f) Bool.false_ne_true
theorem any_eqU {x : V} : ∀ {xs : List V} {us : List Value}, Vals xs us → xs.all flatV = true → us.any (eqU x) = xs.any fun y => eqV y x
 | _, _, .nil, _ => rfl
 | y :: xs, u :: us, .cons r t, f => by
  rw [List.all_cons, Bool.and_eq_true] at f
  rw [List.any_cons, List.any_cons, eqU_of r f.1, any_eqU t f.2]
theorem mem_eqAt {A : Around} {s : Shared} {x : V} {v : Value} (rx : RelV x v) (fx : flatV x = true) : ∀ {xs : List V} {us : List Value}, Vals xs us → xs.all flatV = true → ∀ u ∈ us, SeqAt.EqAt A s u v (eqU x u)
 | _, _, .nil, _ => fun u hu => by cases hu
 | y :: xs, u :: us, .cons r t, f => fun u' hu => by
  rw [List.all_cons, Bool.and_eq_true] at f
  rcases List.mem_cons.mp hu with rfl | hu
  ·rw [eqU_of r f.1]; exact eqAt_V r rx f.1 fx
  ·exact mem_eqAt rx fx t f.2 u' hu
noncomputable def inV (x : V) (xs : List V) : Bool := xs.any fun y => eqV y x
noncomputable def rIn (K : PySem.W.Frag) (neg : Bool) : R2 := fun x y H Q => ∃ p xs, y = .ref p ∧ (SqL K H p xs ∨ SqT K H p xs) ∧ flatV x = true ∧ xs.all flatV = true ∧ Q (.bl (if neg then !inV x xs else inV x xs)) H
theorem op_in_seq : OpR X (compareOp .In) (rIn X.K false) := by
 intro pins s σ H x y v u Q I rx ry h
 obtain ⟨p, xs, rfl, hq, fx, fs, q⟩ := h
 cases ry
 rcases hq with hq | hq
 ·obtain ⟨its, r, pl, hz⟩ := I.list hq
  refine SeqAt.in_listAt (eqU x) pl.isList (fun w hw => mem_eqAt rx fx r fs w (by simpa using hw)) ⟨.bl _, H, I, rfl, ?_⟩
  rw [show its.toArray.any (eqU x) = its.any (eqU x) by simp, any_eqU r fs]
  exact q
 ·obtain ⟨its, r, pl, hz⟩ := I.tuple hq
  refine SeqAt.in_tupleAt (eqU x) pl (fun w hw => mem_eqAt rx fx r fs w (by simpa using hw)) ⟨.bl _, H, I, rfl, ?_⟩
  rw [show its.toArray.any (eqU x) = its.any (eqU x) by simp, any_eqU r fs]
  exact q
theorem op_notIn_seq : OpR X (compareOp .NotIn) (rIn X.K true) := by
 intro pins s σ H x y v u Q I rx ry h
 obtain ⟨p, xs, rfl, hq, fx, fs, q⟩ := h
 cases ry
 rcases hq with hq | hq
 ·obtain ⟨its, r, pl, hz⟩ := I.list hq
  refine SeqAt.notIn_listAt (eqU x) pl.isList (fun w hw => mem_eqAt rx fx r fs w (by simpa using hw)) ⟨.bl _, H, I, rfl, ?_⟩
  rw [show its.toArray.any (eqU x) = its.any (eqU x) by simp, any_eqU r fs]
  exact q
 ·obtain ⟨its, r, pl, hz⟩ := I.tuple hq
  refine SeqAt.notIn_tupleAt (eqU x) pl (fun w hw => mem_eqAt rx fx r fs w (by simpa using hw)) ⟨.bl _, H, I, rfl, ?_⟩
  rw [show its.toArray.any (eqU x) = its.any (eqU x) by simp, any_eqU r fs]
  exact q
theorem call_len_seq : CallR X (.builtin "len") (fun xs H Q => ∃ p ys, xs = [.ref p] ∧ (SqL X.K H p ys ∨ SqT X.K H p ys) ∧ Q (.int ys.length) H) := by
 intro pins s σ H xs us Q I r h
 obtain ⟨p, ys, rfl, hq, q⟩ := h
 obtain ⟨u, rfl, rx⟩ := vals1 r
 cases rx
 have hn := line63
 rcases hq with hq | hq
 ·obtain ⟨its, r', pl, hz⟩ := I.list hq
  have hlen := r'.length
  exact Calls.call_len_list pl.isList (by simp only [List.size_toArray] <;> omega) ⟨.int ys.length, H, I.tok _, ⟨s.toks + 1, by rw [List.size_toArray, hlen]⟩, q⟩
 ·obtain ⟨its, r', pl, hz⟩ := I.tuple hq
  have hlen := r'.length
  exact len_tuple pl (by simp only [List.size_toArray] <;> omega) ⟨.int ys.length, H, I.tok _, ⟨s.toks + 1, by rw [List.size_toArray, hlen]⟩, q⟩
theorem call_list_of : CallR X (.type "list") (fun xs H Q => ∃ p ys, xs = [.ref p] ∧ (SqL X.K H p ys ∨ SqT X.K H p ys) ∧ ∀ l, H l = none → Q (.ref l) (upd H l (.lst ys))) := by
 intro pins s σ H xs us Q I r h
 obtain ⟨p, ys, rfl, hq, q⟩ := h
 obtain ⟨u, rfl, rx⟩ := vals1 r
 cases rx
 have fin : ∀ (its : List Value), Vals ys its → ys.length ≤ sizeLine → ∀ (h' : Heap) (c' : Nat), (∀ b o', s.heap.get? b = some o' → h'.get? b = some o') →
   h'.get? s.heap.objs.size = some { cls := .type "list", dict := none, data := .seq its.toArray c', slots := #[] } → EP X pins σ Q (.ref s.heap.objs.size) { s with heap := h' } := fun its r' hz h' c' kp e =>
  ⟨.ref s.heap.objs.size, _, I.laid (t' := s.toks) kp (Nat.le_refl _) (show ObjOk X.prog X.w _ h' _ (.lst ys) from ⟨hz, its, c', r', e⟩), rfl, q _ (I.hok.fresh (Nat.le_refl _))⟩
 rcases hq with hq | hq
 ·obtain ⟨its, r', pl, hz⟩ := I.list hq
  have hlen := r'.length
  obtain ⟨o, ho, hc, n, hd⟩ := pl.isList
  exact call_list_seq p (.inl rfl) ho hc hd (fun h' c' kp e => fin its r' hz h' c' kp e) (by simp only [List.size_toArray] <;> omega)
 ·obtain ⟨its, r', pl, hz⟩ := I.tuple hq
  have hlen := r'.length
  obtain ⟨o, ho, hc, n, hd⟩ := pl
  exact call_list_seq p (.inr rfl) ho hc hd (fun h' c' kp e => fin its r' hz h' c' kp e) (by simp only [List.size_toArray] <;> omega)
theorem call_tuple_of : CallR X (.type "tuple") (fun xs H Q => ∃ p ys, xs = [.ref p] ∧ ((SqL X.K H p ys ∧ ∀ l, H l = none → Q (.ref l) (upd H l (.tup ys))) ∨ (SqT X.K H p ys ∧ Q (.ref p) H))) := by
 intro pins s σ H xs us Q I r h
 obtain ⟨p, ys, rfl, h⟩ := h
 obtain ⟨u, rfl, rx⟩ := vals1 r
 cases rx
 rcases h with ⟨hq, q⟩ | ⟨hq, q⟩
 ·obtain ⟨its, r', pl, hz⟩ := I.list hq
  have hlen := r'.length
  refine call_tuple_list pl.isList (fun h' kp => ?_) (by simp only [List.size_toArray] <;> omega)
  have I1 : Inv X pins σ H { s with heap := h' } := I.kept (t' := s.toks) kp
  have I2 : Inv X pins σ (upd H h'.objs.size (.tup ys)) { s with heap := h'.push { cls := .type "tuple", data := .seq its.toArray } } :=
   I1.laid (t' := s.toks) (fun b o e => Heap.get?_push_of_some _ e) (Nat.le_refl _) (show ObjOk X.prog X.w _ _ _ (.tup ys) from ⟨hz, its, r', IsTup.new _ _⟩)
  exact ⟨.ref h'.objs.size, _, I2, rfl, q _ (I1.hok.fresh (Nat.le_refl _))⟩
 ·obtain ⟨its, r', pl, hz⟩ := I.tuple hq
  exact call_tuple_same pl ⟨.ref p, H, I, rfl, q⟩
noncomputable def tyV (K : PySem.W.Frag) (T : String) (x : V) (H : Hp) : Prop := match x with
 | .str _ => T = "str"
 | .int _ => T = "int"
 | .ref p => (T = "list" ∧ ∃ xs, SqL K H p xs) ∨ (T = "tuple" ∧ ∃ o, K.lookup p = some o ∧ o.cls = .type "tuple" ∧ o.dict = none) ∨
   (T = "dict" ∧ ((∃ kvs, H p = some (.dK kvs)) ∨ ∃ kvs, H p = some (.dT kvs))) ∨ (T = "set" ∧ ∃ S n, H p = some (.set S n))
 | _ => False
theorem tyV_is {pins : List (Addr × Obj)} {σ : St} {H : Hp} {s : Shared} {T : String} {x : V} {v : Value} (I : Inv X pins σ H s) (r : RelV x v) (ty : tyV X.K T x H) :
  s.TypeIs v T ∧ ∀ a, v = .ref a → ∃ ob, s.heap.get? a = some ob ∧ ob.dict = none := by
 cases x with
 | str z =>
  obtain ⟨t, rfl⟩ := r
  cases (show T = "str" from ty)
  exact ⟨typeIs_str s z t, fun _ e => nomatch e⟩
 | int i =>
  obtain ⟨t, rfl⟩ := r
  cases (show T = "int" from ty)
  exact ⟨typeIs_int s i t, fun _ e => nomatch e⟩
 | ref p =>
  cases r
  rcases ty with ⟨rfl, xs, hq⟩ | ⟨rfl, o, hk, hc, hd⟩ | ⟨rfl, hk⟩ | ⟨rfl, S, n, hk⟩
  ·obtain ⟨its, _, pl, _⟩ := I.list hq
   refine ⟨pl.isList.typeIs, fun a e => ?_⟩
   cases e
   obtain ⟨o, n, e, c, hd, _⟩ := pl
   exact ⟨o, e, hd⟩
  ·refine ⟨⟨o, I.kIn p o hk, hc⟩, fun a e => ?_⟩
   cases e
   exact ⟨o, I.kIn _ o hk, hd⟩
  ·have z : ∃ o, s.heap.get? p = some o ∧ o.ExactDict := by
    rcases hk with ⟨kvs, hk⟩ | ⟨kvs, hk⟩
    ·obtain ⟨_, _, _, _, o, _, _, e, ex, _⟩ := I.hok p _ hk
     exact ⟨o, e, ex⟩
    ·obtain ⟨_, _, _, _, o, _, _, e, ex, _⟩ := I.hok p _ hk
     exact ⟨o, e, ex⟩
   obtain ⟨o, e, ex⟩ := z
   refine ⟨⟨o, e, ex.1⟩, fun a e2 => ?_⟩
   cases e2
   exact ⟨o, e, ex.2.1⟩
  ·obtain ⟨o, _, _, _, e, ex, _⟩ := I.hok p _ hk
   refine ⟨⟨o, e, ex.1⟩, fun a e2 => ?_⟩
   cases e2
   exact ⟨o, e, ex.2.1⟩
 | _ => exact False.elim ty
noncomputable def tBM0 (K : PySem.W.Frag) (T : String) (r : V → List V → Hp → VK → Prop) (to : TE) : TE := fun σ H Q => to σ H fun x H1 => tyV K T x H1 ∧ r x [] H1 Q
noncomputable def tBM (K : PySem.W.Frag) (T : String) (r : V → List V → Hp → VK → Prop) (to : TE) (t : TA) : TE := fun σ H Q => to σ H fun x H1 => tyV K T x H1 ∧ t σ H1 fun xs H2 => r x xs H2 Q
variable {o e : Expr} {es : List Expr} {to : TE} {t : TA} {name : Str} {apos cpos : Pos} {T id : String} {r : V → List V → Hp → VK → Prop}
theorem pe_bm0 (pa : PlainAttrs T) (slot : Slot T name id) (hty : typeOf (.builtin id) = pure (.type "method_descriptor")) (hm : MtR X id r) (ho : PE X o to)
  (hbase : attributeBase o name X.env (eval o X.env) = eval o X.env := by rfl) (hline : (apos.endLine == cpos.line) = true := by rfl) : PE X (.Call (.Attribute o name apos) [] [] cpos) (tBM0 X.K T r to) := by
 intro pins s σ H Q I h
 refine wpAny_Call_method0_late hbase hline (thn (ho pins s σ H _ I h) fun v s1 ⟨x, H1, I1, r1, ty, q1⟩ => ?_)
 obtain ⟨h1, h2⟩ := tyV_is I1 r1 ty
 exact ⟨T, id, pa, slot, hty, h1, h2, Calls.callWith_builtin rfl (PySem.evalArgs_none (hm pins s1 σ H1 x [] v [] Q I1 r1 .nil q1))⟩
theorem pe_bm (pa : PlainAttrs T) (slot : Slot T name id) (hty : typeOf (.builtin id) = pure (.type "method_descriptor")) (hm : MtR X id r) (ho : PE X o to) (ha : PA X (e :: es) t)
  (hbase : attributeBase o name X.env (eval o X.env) = eval o X.env := by rfl)
  (hfew : ((backTo cpos (starEach (e :: es) X.env)).all (fun x => !x.1) && (backToKw cpos (keywordEach [] X.env)).all (fun x => x.1.isSome)
   && decide ((e :: es).length + ([] : List Keyword).length + (if ([] : List Keyword).isEmpty then 0 else 1) < 30)) = true := by rfl)
  (hline : (apos.endLine == cpos.line) = true := by rfl) (hs : starEach (e :: es) X.env = (false, eval e X.env) :: starEach es X.env := by rfl) (hplain : (backTo cpos (starEach es X.env)).any (·.1) = false := by rfl) :
  PE X (.Call (.Attribute o name apos) (e :: es) [] cpos) (tBM X.K T r to t) := by
 intro pins s σ H Q I h
 refine wpAny_Call_method_late hbase hfew hline rfl (thn (ho pins s σ H _ I h) fun v s1 ⟨x, H1, I1, r1, ty, q1⟩ => ?_)
 obtain ⟨h1, h2⟩ := tyV_is I1 r1 ty
 refine ⟨T, id, pa, slot, hty, h1, h2, ?_⟩
 have hA := ha cpos pins s1 σ H1 _ I1 q1
 rw [hs] at hA ⊢
 refine Calls.callWith_builtin (by show (false || (backTo cpos (starEach es X.env)).any (·.1)) = false; rw [hplain] <;> rfl) (Calls.evalArgs_plain ?_)
 exact thn hA fun us s2 ⟨vs, H2, I2, r2, q2⟩ => hm pins s2 σ H2 x vs v us Q I2 r1 r2 q2
/- xs.append(e), list.index on a module's tuple .. are MtR facts of 06m -/
end
end L2
namespace L2
open PySem PySem.Spec PyProof.Rows
noncomputable def MtM (X : Cx) (id : String) (r : V → List V → Hp → VK → Prop) : Prop :=
 ∀ (pins : List (Addr × Obj)) (s : Shared) (σ : St) (H : Hp) (x : V) (xs : List V) (v : Value) (us : List Value) (Q : VK), Inv X pins σ H s → RelV x v → Vals xs us → r x xs H Q →
  wpAny (model X.prog X.w) X.A (call (.builtin id) (v :: us)) (EP X pins σ Q) X.xe s
theorem Vals.one : ∀ {x : V} {us : List Value}, Vals [x] us → ∃ u, us = [u] ∧ RelV x u
 | _, _, .cons r .nil => ⟨_, rfl, r⟩
theorem Vals.zero : ∀ {us : List Value}, Vals [] us → us = []
 | _, .nil => rfl
theorem Vals.dropLast {xs : List V} {us : List Value} (h : Vals xs us) : Vals xs.dropLast us.dropLast := by
 induction h with
 | nil => exact .nil
 | cons r t ih =>
  cases t with
  | nil => exact .nil
  | cons q t' => exact .cons r ih
theorem Vals.rep {xs : List V} {us : List Value} (h : Vals xs us) : ∀ k : Nat, Vals (List.replicate k xs).flatten (List.replicate k us).flatten
 | 0 => .nil
 | k + 1 => by
  rw [List.replicate_succ, List.replicate_succ, List.flatten_cons, List.flatten_cons]
  exact Vals.append h (Vals.rep h k)
theorem erase_last {α : Type} (l : List α) : l.eraseIdx (l.length - 1) = l.dropLast := by
 induction l with
 | nil => rfl
 | cons a r ih =>
  cases r with
  | nil => rfl
  | cons b r =>
   have e : (a :: b :: r).length - 1 = ((b :: r).length - 1) + 1 := by
    have h1 : (a :: b :: r).length = r.length + 2 := rfl
    have h2 : (b :: r).length = r.length + 1 := rfl
    omega
   rw [e, List.eraseIdx_cons_succ, ih]
   all_goals rfl
theorem foldl_rep (its : List Value) : ∀ (k : Nat) (acc : List Value),
  List.foldl (fun x1 x2 => x1 ++ x2) acc.toArray (List.replicate k its.toArray) = (acc ++ (List.replicate k its).flatten).toArray
 | 0, acc => by simp
 | k + 1, acc => by
  have e : acc.toArray ++ its.toArray = (acc ++ its).toArray := by simp
  have e2 : (acc ++ its) ++ (List.replicate k its).flatten = acc ++ (List.replicate (k + 1) its).flatten := by
   rw [List.replicate_succ, List.flatten_cons, List.append_assoc]
  rw [← e2, ← foldl_rep its k (acc ++ its), ← e, List.replicate_succ, List.foldl_cons]
section
variable {X : Cx} {pins : List (Addr × Obj)} {σ : St} {H : Hp} {s : Shared} {l b : Addr} {xs ys zs : List V}
theorem Inv.lset {its its' : List Value} {n : Nat} {f : Array Value → Array Value} {t' : Nat} (I : Inv X pins σ H s) (hH : H l = some (.lst xs))
  (e : s.heap.get? l = some { cls := .type "list", data := .seq its.toArray n }) (hf : f its.toArray = its'.toArray) (hv : Vals ys its') (hz : ys.length ≤ sizeLine) :
  Inv X pins σ (upd H l (.lst ys)) { s with heap := s.heap.update l (Obj.mapSeq f), toks := t' } := by
 have q := PySem.IsL.update e f
 rw [hf] at q
 refine I.write (x := l) (e := l) (by rw [hH]; exact trivial) (.inl rfl) (fun b' u hb hu => (Heap.get?_update_other s.heap (Obj.mapSeq f) (Ne.symm hb)).trans hu) ⟨_, q⟩ ?_
 exact ⟨hz, its', _, hv, q⟩
theorem Inv.lnew {its : List Value} {t' : Nat} (I : Inv X pins σ H s) (hv : Vals ys its) (hz : ys.length ≤ sizeLine) :
  Inv X pins σ (upd H s.heap.objs.size (.lst ys)) { s with heap := s.heap.push { cls := .type "list", data := .seq its.toArray }, toks := t' } :=
 I.laid (fun _ _ q => Heap.get?_push_of_some _ q) (Nat.le_refl _) ⟨hz, its, 0, hv, Heap.get?_push_size _ rfl⟩
theorem Inv.fresh (I : Inv X pins σ H s) : H s.heap.objs.size = none := I.hok.fresh (Nat.le_refl _)
theorem Inv.lstM (I : Inv X pins σ H s) (hH : H l = some (.lst xs)) : xs.length ≤ sizeLine ∧ ∃ (its : List Value) (n : Nat), Vals xs its ∧ xs.length = its.length ∧ s.heap.get? l = some { cls := .type "list", data := .seq its.toArray n } := by
 obtain ⟨z, its, n, r, e⟩ := I.hok l _ hH
 exact ⟨z, its, n, r, r.length, e⟩
theorem notLongL {n : Nat} (h : n ≤ sizeLine) : Builtin.List.listTooLong n = false := by
 unfold Builtin.List.listTooLong
 exact decide_eq_false (by omega)
end
section
variable {X : Cx}
noncomputable def rAppend : V → List V → Hp → VK → Prop := fun x vs H Q => ∃ l xs y, x = .ref l ∧ vs = [y] ∧ H l = some (.lst xs) ∧ xs.length < sizeLine ∧ Q .non (upd H l (.lst (xs ++ [y])))
theorem mt_append : MtM X "list.append" rAppend := by
 intro pins s σ H x vs v us Q I rx rv h
 obtain ⟨l, xs, y, rfl, rfl, hH, hz, q⟩ := h
 cases rx
 obtain ⟨u, rfl, ru⟩ := rv.one
 obtain ⟨z, its, n, r, hl, e⟩ := I.lstM hH
 refine call_meets F.slot_list_append ⟨_, e, rfl⟩ F.entry_list_append (F.args_list_append_2 _ _) (PySem.list_append l its.toArray n u (by rw [List.size_toArray]; omega)) ⟨e, ?_⟩
 refine ⟨.non, _, I.lset (its' := its ++ [u]) hH e (by simp) (r.append (.cons ru .nil)) ?_, rfl, q⟩
 rw [List.length_append, List.length_singleton]
 omega
noncomputable def rExtend : V → List V → Hp → VK → Prop := fun x vs H Q => ∃ l b xs zs, x = .ref l ∧ vs = [.ref b] ∧ H l = some (.lst xs) ∧ H b = some (.lst zs) ∧ xs.length + zs.length ≤ sizeLine ∧ Q .non (upd H l (.lst (xs ++ zs)))
theorem mt_extend : MtM X "list.extend" rExtend := by
 intro pins s σ H x vs v us Q I rx rv h
 obtain ⟨l, b, xs, zs, rfl, rfl, hH, hB, hz, q⟩ := h
 cases rx
 obtain ⟨u, rfl, ru⟩ := rv.one
 cases ru
 obtain ⟨z, its, n, r, hl, e⟩ := I.lstM hH
 obtain ⟨z2, its2, n2, r2, hl2, e2⟩ := I.lstM hB
 have hsz : its.toArray.size + its2.toArray.size ≤ sizeLine := by rw [List.size_toArray, List.size_toArray]; omega
 have hlong : ¬ (!its.toArray.isEmpty && Builtin.List.listTooLong (its.toArray.size + its2.toArray.size)) = true := by
  rw [notLongL hsz, Bool.and_false]
  exact Bool.false_ne_true
 refine call_meets F.slot_list_extend ⟨_, e, rfl⟩ F.entry_list_extend (F.args_list_extend_2 _ _)
  (AutoSeq1.list_extend_list_list_0 l its.toArray n b its2.toArray n2 hlong (by rw [List.size_toArray]; omega) (by omega)) ⟨e, e2, ?_⟩
 refine ⟨.non, _, I.lset (its' := its ++ its2) hH e (by simp) (r.append r2) ?_, rfl, q⟩
 rw [List.length_append]
 omega
noncomputable def rPop : V → List V → Hp → VK → Prop := fun x vs H Q => ∃ l xs y, x = .ref l ∧ vs = [] ∧ H l = some (.lst xs) ∧ xs[xs.length - 1]? = some y ∧ Q y (upd H l (.lst xs.dropLast))
theorem mt_pop : MtM X "list.pop" rPop := by
 intro pins s σ H x vs v us Q I rx rv h
 obtain ⟨l, xs, y, rfl, rfl, hH, hy, q⟩ := h
 cases rx
 have hus := rv.zero
 subst hus
 obtain ⟨z, its, n, r, hl, e⟩ := I.lstM hH
 obtain ⟨u, hu, ru⟩ := r.get hy
 have hy' : its.toArray[its.toArray.size - 1]? = some u := by
  show its.toArray[its.length - 1]? = some u
  rw [← Array.getElem?_toList, ← hl]
  exact hu
 refine call_meets F.slot_list_pop ⟨_, e, rfl⟩ F.entry_list_pop (F.args_list_pop_1 _) (MeetsSeq.list_pop_last l its.toArray n u hy' (by rw [List.size_toArray]; omega)) ⟨e, ?_⟩
 refine ⟨y, _, I.lset (its' := its.dropLast) hH e ?_ r.dropLast ?_, ru, q⟩
 ·show its.toArray.eraseIdxIfInBounds (its.toArray.size - 1) = its.dropLast.toArray
  rw [List.size_toArray, List.eraseIdxIfInBounds_toArray, erase_last]
 ·rw [List.length_dropLast]
  omega
noncomputable def rCat : R2 := fun x y H Q => ∃ l b xs zs, x = .ref l ∧ y = .ref b ∧ H l = some (.lst xs) ∧ H b = some (.lst zs) ∧ xs.length + zs.length ≤ sizeLine ∧ ∀ p, H p = none → Q (.ref p) (upd H p (.lst (xs ++ zs)))
theorem op_cat : OpR X (binaryOp .Add) rCat := by
 intro pins s σ H x y v u Q I rx ry h
 obtain ⟨l, b, xs, zs, rfl, rfl, hH, hB, hz, q⟩ := h
 cases rx
 cases ry
 obtain ⟨z, its, n, r, hl, e⟩ := I.lstM hH
 obtain ⟨z2, its2, n2, r2, hl2, e2⟩ := I.lstM hB
 refine PySem.P.add_list e e2 ?_ (by rw [List.size_toArray, List.size_toArray]; omega)
 have ea : its.toArray ++ its2.toArray = (its ++ its2).toArray := by simp
 rw [ea]
 exact ⟨.ref _, _, I.lnew (t' := s.toks) (r.append r2) (by rw [List.length_append]; omega), rfl, q _ I.fresh⟩
noncomputable def rRep : R2 := fun x y H Q => ∃ l k xs, x = .ref l ∧ y = .int k ∧ H l = some (.lst xs) ∧ -(2 ^ 63) ≤ k ∧ k < 2 ^ 63 ∧ xs.length * k.toNat ≤ sizeLine ∧
 ∀ p, H p = none → Q (.ref p) (upd H p (.lst (List.replicate k.toNat xs).flatten))
theorem len_rep {α : Type} (xs : List α) (k : Nat) : (List.replicate k xs).flatten.length = k * xs.length := by
 induction k with
 | zero => simp
 | succ k ih => rw [List.replicate_succ, List.flatten_cons, List.length_append, ih, Nat.succ_mul, Nat.add_comm]
theorem op_rep : OpR X (binaryOp .Mult) rRep := by
 intro pins s σ H x y v u Q I rx ry h
 obtain ⟨l, k, xs, rfl, rfl, hH, h1, h2, hz, q⟩ := h
 cases rx
 obtain ⟨t, rfl⟩ := ry
 obtain ⟨z, its, n, r, hl, e⟩ := I.lstM hH
 have hlen : its.toArray.size * k.toNat ≤ sizeLine := by rw [List.size_toArray, ← hl]; exact hz
 have hcap : ¬ its.toArray.size * k.toNat > (2 ^ 63 - 1) / 8 := by
  have : (sizeLine : Nat) ≤ (2 ^ 63 - 1) / 8 := by decide
  omega
 have hfit : ¬ (!Builtin.List.listFitsIndex k) = true := by
  rw [fitsIndex_both h1 h2]
  exact Bool.false_ne_true
 have hlong : ¬ Builtin.List.listTooLong (its.toArray.size * k.toNat) = true := by
  rw [notLongL hlen]
  exact Bool.false_ne_true
 have hnew : List.foldl (fun x1 x2 => x1 ++ x2) #[] (List.replicate (if its.toArray.isEmpty = true then 0 else k.toNat) its.toArray) = (List.replicate k.toNat its).flatten.toArray := by
  have f0 : ∀ m : Nat, List.foldl (fun x1 x2 => x1 ++ x2) #[] (List.replicate m its.toArray) = (List.replicate m its).flatten.toArray := fun m => by
   have := foldl_rep its m []
   rw [List.nil_append] at this
   exact this
  rw [f0]
  cases its with
  | nil => simp
  | cons a r' => rw [if_neg (by simp)]
 refine wpAny_binaryOp_repeat_ref (T := "list") (U := "int") (by decide) ⟨_, e, rfl⟩ (fun s' => typeIs_int s' k t) noFill_list_mul F.fills_int_mul F.slot_int_rmul repeat_list F.slot_int_index.lookup
  (call_meets F.slot_int_rmul (typeIs_int s k t) F.entry_int_rmul (F.args_int_rmul_2 _ _) (int___rmul___int_list k t l its.toArray n)
   ⟨e, rfl, ⟨_, e, rfl⟩, call_meets F.slot_list_mul ⟨_, e, rfl⟩ F.entry_list_mul (F.args_list_mul_2 _ _) (AutoListH.list___mul___list_int_3 l its.toArray n k t hfit hcap hlong) ⟨e, ?_⟩⟩)
 rw [hnew]
 exact ⟨.ref _, _, I.lnew (t' := s.toks) (r.rep k.toNat) (by rw [len_rep, Nat.mul_comm]; exact hz), rfl, q _ I.fresh⟩
end
end L2
namespace L2
open PySem PySem.Spec PyProof.Rows
theorem Vals.ints : ∀ {ns : List Int} {us : List Value}, Vals (ns.map V.int) us → IntsAre us ns
 | [], us, h => by
  rw [List.map_nil] at h
  cases h
  exact IntsAre.nil
 | n :: ns, us, h => by
  rw [List.map_cons] at h
  cases h with
  | cons r t =>
   obtain ⟨k, rfl⟩ := r
   exact IntsAre.cons n k (Vals.ints t)
theorem Vals.bls : ∀ {bs : List Bool} {us : List Value}, Vals (bs.map V.bl) us → us = bs.map Value.bool
 | [], us, h => by
  rw [List.map_nil] at h
  cases h
  rfl
 | b :: bs, us, h => by
  rw [List.map_cons] at h
  cases h with
  | cons r t =>
   cases r
   rw [Vals.bls t, List.map_cons]
theorem Vals.ref1 {a : Addr} {us : List Value} (r : Vals [V.ref a] us) : us = [Value.ref a] := by
 cases r with
 | cons r t =>
  cases t
  cases r
  rfl
section
variable {prog : Program} {w : World} {A : Around} {E : Value → Shared → Prop} {s : Shared} {l : Addr} {its : List Value} {ns : List Int} {Q : Value → Shared → Prop}
theorem sum_raw (hh : A.handled = none) (hl : s.heap.IsList l its.toArray) (hi : IntsAre its ns)
  (h : ∀ h' tk t', (∀ b o, s.heap.get? b = some o → h'.get? b = some o) → Q (.int ns.sum t') { s with heap := h', toks := tk }) : wpAny (model prog w) A (call (.builtin "sum") [.ref l]) Q E s := by
 obtain ⟨xs, e⟩ := hi.allInts.items
 have hn : numsOf (intItems xs).toList = ns := by rw [← e]; exact hi.numsOf
 rw [nums_intItems] at hn
 rw [e] at hl
 refine PySem.sum_intListG hh hl fun h' tk t' hk => ?_
 have := h h' tk t' hk
 rw [preSum_eq, List.take_of_length_le (by simp), hn]; exact this
end
section
variable {X : Cx}
noncomputable def rSum (K : PySem.W.Frag) : List V → Hp → VK → Prop := fun vs H Q => ∃ (a : Addr) (ns : List Int), vs = [V.ref a] ∧ SqL K H a (ns.map V.int) ∧ Q (.int ns.sum) H
theorem cr_sum (hc : X.calm = true) : CallR X (.builtin "sum") (rSum X.K) := by
 intro pins s σ H vs us Q I r h
 obtain ⟨a, ns, rfl, hs, q⟩ := h
 obtain ⟨its, rv, hl, _⟩ := I.list hs
 rw [Vals.ref1 r]
 exact sum_raw (I.ok.hd hc) hl.isList rv.ints fun h' tk t' hk => ⟨.int _, H, I.kept hk, ⟨_, rfl⟩, q⟩
end
theorem iter_any {prog : Program} {w : World} {A : Around} {E : Value → Shared → Prop} {s : Shared} {l : Addr} {items : Array Value} {Q : Value → Shared → Prop} (hl : s.heap.IsList l items)
  (h : ∀ s₂ : Shared, s₂ = { s with heap := s.heap.push { cls := .type "list_iterator", data := .fields #[.ref l, .int 0 0] } } →
   (s₂.heap.IsListIter s.heap.objs.size l 0 ∧ s₂.heap.IsList l items) → l ≠ s.heap.objs.size → Q (.ref s.heap.objs.size) s₂) : wpAny (model prog w) A (pyIter (.ref l)) Q E s := by
 have hlt : l < s.heap.objs.size := by obtain ⟨_, e, _⟩ := hl; exact Heap.lt_size e
 exact wpAny_pyIter_list hl (h _ rfl ⟨⟨_, Heap.get?_push_size _ rfl, rfl, rfl⟩, hl.push _⟩ (Nat.ne_of_lt hlt))
theorem truth_bools {prog : Program} {w : World} {A : Around} {bs : List Bool} {its : List Value} (e : its = bs.map Value.bool) :
  TruthOf prog w A (fun i v => its.toArray[i]? = some v) (fun i => bs.getD i false) := fun i v s Q E hv hq => by
 have hv' : its[i]? = some v := by simpa using hv
 rw [e, List.getElem?_map] at hv'
 obtain ⟨b, hb, rfl⟩ := Option.map_eq_some_iff.mp hv'
 have hg : bs.getD i false = b := by rw [List.getD_eq_getElem?_getD, hb] <;> rfl
 have hq' : Q (bs.getD i false) s := hq
 rw [hg] at hq'
 exact wpAny_truthy_bool hq'
theorem all_range : ∀ bs : List Bool, (List.range bs.length).all (fun i => bs.getD i false) = bs.all id
 | [] => rfl
 | b :: bs => by
  rw [List.length_cons, List.range_succ_eq_map, List.all_cons, List.all_map, List.all_cons, ← all_range bs]
  all_goals rfl
section
variable {X : Cx}
noncomputable def rAll (K : PySem.W.Frag) : List V → Hp → VK → Prop := fun vs H Q => ∃ (a : Addr) (bs : List Bool), vs = [V.ref a] ∧ SqL K H a (bs.map V.bl) ∧ Q (.bl (bs.all id)) H
theorem cr_all (hc : X.calm = true) : CallR X (.builtin "all") (rAll X.K) := by
 intro pins s σ H vs us Q I r h
 obtain ⟨a, bs, rfl, hs, q⟩ := h
 obtain ⟨its, rv, hl, _⟩ := I.list hs
 rw [Vals.ref1 r]
 have hb := rv.bls
 refine call_all_walk (iter_any hl.isList fun s₂ e2 st hne => ?_)
 subst e2
 refine ⟨_, _, _, _, _, _, _, rfl, Walks.list (A := X.A.in1) (I.ok.hd hc) _ a hne its.toArray, st, truth_bools hb, fun h' tk hk => ?_⟩
 refine ⟨.bl _, H, I.kept fun b o eo => hk b o (fun hmem => ?_) (Heap.get?_push_of_some _ eo), ?_, q⟩
 ·rcases List.mem_cons.mp hmem with e1 | hmem
  ·exact absurd (e1 ▸ Heap.lt_size eo) (Nat.lt_irrefl _)
  ·cases hmem
 ·show Value.bool _ = Value.bool _
  rw [← all_range, hb, List.size_toArray, List.length_map]
end
mutual
inductive Dp (K : PySem.W.Frag) (H : Hp) : V → PyData → Prop
 | non : Dp K H .non .none
 | bl (b : Bool) : Dp K H (.bl b) (.bool b)
 | int (i : Int) : Dp K H (.int i) (.int i)
 | str (x : Str) : Dp K H (.str x) (.str x)
 | lst {a : Addr} {xs : List V} {ds : List PyData} : SqL K H a xs → DpAll K H xs ds → Dp K H (.ref a) (.list ds)
 | tup {a : Addr} {xs : List V} {ds : List PyData} : SqT K H a xs → DpAll K H xs ds → Dp K H (.ref a) (.tuple ds)
inductive DpAll (K : PySem.W.Frag) (H : Hp) : List V → List PyData → Prop
 | nil : DpAll K H [] []
 | cons {v : V} {vs : List V} {d : PyData} {ds : List PyData} : Dp K H v d → DpAll K H vs ds → DpAll K H (v :: vs) (d :: ds)
end
section
variable {X : Cx} {pins : List (Addr × Obj)} {σ : St} {H : Hp} {s : Shared}
mutual
theorem Dp.reads (I : Inv X pins σ H s) : ∀ (d : PyData) (v : V) (u : Value), Dp X.K H v d → RelV v u → ∃ as, Reads s.heap u d as
 | .none, _, _, h, r => by
  cases h
  cases r
  exact ⟨_, Reads.none⟩
 | .bool b, _, _, h, r => by
  cases h
  cases r
  exact ⟨_, Reads.bool b⟩
 | .int i, _, _, h, r => by
  cases h
  obtain ⟨t, rfl⟩ := r
  exact ⟨_, Reads.int i t⟩
 | .str x, _, _, h, r => by
  cases h
  obtain ⟨t, rfl⟩ := r
  exact ⟨_, Reads.str x t⟩
 | .list ds, _, _, h, r => by
  cases h with
  | lst hs ha =>
   cases r
   obtain ⟨its, rv, ⟨o, n, ho, hc, _, hd⟩, _⟩ := I.list hs
   obtain ⟨as, hr⟩ := Dp.readsAll I ds _ its ha rv
   exact ⟨_, Reads.list ho hc hd hr⟩
 | .tuple ds, _, _, h, r => by
  cases h with
  | tup hs ha =>
   cases r
   obtain ⟨its, rv, ⟨o, ho, hc, n, hd⟩, _⟩ := I.tuple hs
   obtain ⟨as, hr⟩ := Dp.readsAll I ds _ its ha rv
   exact ⟨_, Reads.tuple ho hc hd hr⟩
 | .dict _, _, _, h, _ => by cases h
theorem Dp.readsAll (I : Inv X pins σ H s) : ∀ (ds : List PyData) (vs : List V) (us : List Value), DpAll X.K H vs ds → Vals vs us → ∃ as, ReadsAll s.heap us ds as
 | [], _, _, h, r => by
  cases h
  cases r
  exact ⟨_, ReadsAll.nil⟩
 | d :: ds, _, _, h, r => by
  cases h with
  | cons h1 h2 =>
   cases r with
   | cons r1 r2 =>
    obtain ⟨as, q1⟩ := Dp.reads I d _ _ h1 r1
    obtain ⟨bs, q2⟩ := Dp.readsAll I ds _ _ h2 r2
    exact ⟨_, ReadsAll.cons q1 q2⟩
end
end
section
variable {X : Cx}
noncomputable def rEqD (K : PySem.W.Frag) : R2 := fun x y H Q => ∃ d e, Dp K H x d ∧ Dp K H y e ∧ SeqAt.shaped d = true ∧ SeqAt.shaped e = true ∧ Q (.bl (PyData.eqv d e)) H
noncomputable def rNeD (K : PySem.W.Frag) : R2 := fun x y H Q => ∃ d e, Dp K H x d ∧ Dp K H y e ∧ SeqAt.shaped d = true ∧ SeqAt.shaped e = true ∧ Q (.bl (!PyData.eqv d e)) H
theorem op_eqD (hu : X.A.units + 64 < cLine) : OpR X (compareOp .Eq) (rEqD X.K) := by
 intro pins s σ H x y v u Q I rx ry h
 obtain ⟨d, e, hd, he, sd, se, q⟩ := h
 obtain ⟨as, r1⟩ := Dp.reads I d x v hd rx
 obtain ⟨bs, r2⟩ := Dp.reads I e y u he ry
 exact SeqAt.compareEq_shaped r1 r2 sd se hu ⟨.bl _, H, I, rfl, q⟩
theorem op_neD (hu : X.A.units + 64 < cLine) : OpR X (compareOp .NotEq) (rNeD X.K) := by
 intro pins s σ H x y v u Q I rx ry h
 obtain ⟨d, e, hd, he, sd, se, q⟩ := h
 obtain ⟨as, r1⟩ := Dp.reads I d x v hd rx
 obtain ⟨bs, r2⟩ := Dp.reads I e y u he ry
 exact SeqAt.compareNe_shaped r1 r2 sd se hu ⟨.bl _, H, I, rfl, q⟩
end
end L2
namespace L2
open PySem PySem.Spec PyProof.Rows
noncomputable abbrev CellAt (h : Heap) (c : Addr) (v : Option Value) : Prop := h.IsCell c v
noncomputable def relS (scope sc : Scope) : Scope :=
 { scope with names := scope.names.map fun (n, k) => if (k == .free && sc.kind == .function && sc.names.lookup n == some .cell) then (n, .cell) else (n, k) }
noncomputable def cloFrom (cells : List (Str × Addr)) : List (Str × NameKind) → List (Str × Addr) → List (Str × Addr)
 | [], acc => acc
 | (n, k) :: r, acc => if k == .free then cloFrom cells r ((n, (cells.lookup n).getD 0) :: acc) else cloFrom cells r acc
theorem closure_loop (env : Env) (f : Str × NameKind → List (Str × Addr) → Sem (ForInStep (List (Str × Addr))))
  (hf : ∀ n k c, f (n, k) c = if k == .free then (do let a ← cellOf env n; pure (.yield ((n, a) :: c))) else pure (.yield c)) :
  ∀ (names : List (Str × NameKind)) (acc : List (Str × Addr)), (∀ y ∈ names, y.2 = .free → ∃ c, env.cells.lookup y.1 = some c) → forIn names acc f = pure (cloFrom env.cells names acc)
 | [], acc, _ => by rw [List.forIn_nil]; rfl
 | (n, k) :: r, acc, h => by
  rw [List.forIn_cons, hf]
  have ih := fun acc => closure_loop env f hf r acc fun y hy => h y (List.mem_cons_of_mem _ hy)
  unfold cloFrom
  by_cases hk : (k == NameKind.free) = true
  ·rw [if_pos hk, if_pos hk]
   obtain ⟨c, hc⟩ := h (n, k) List.mem_cons_self (by simpa using hk)
   have e : cellOf env n = pure c := by unfold cellOf; rw [hc]
   rw [e]
   have e2 : (env.cells.lookup n).getD 0 = c := by rw [hc]; rfl
   rw [e2]
   exact ih _
  ·rw [if_neg hk, if_neg hk]
   exact ih _
theorem closure_ok {scope : Scope} {env : Env} (h : ∀ y ∈ scope.names, y.2 = .free → ∃ c, env.cells.lookup y.1 = some c) : closureFor scope env = pure (cloFrom env.cells scope.names []) := by
 simp only [closureFor]
 rw [closure_loop env _ (fun n k c => rfl) scope.names [] h]
 rfl
theorem mem_lookup {α : Type} : ∀ {l : List (Str × α)} {n : Str} {c : α}, (n, c) ∈ l → ∃ c', l.lookup n = some c'
 | (k, v) :: r, n, c, h => by
  rw [List.lookup_cons]
  cases hb : n == k with
  | true => exact ⟨_, rfl⟩
  | false =>
   rcases List.mem_cons.mp h with e | h
   ·cases e; simp at hb
   ·exact mem_lookup h
theorem cloFrom_mem {cells : List (Str × Addr)} : ∀ {names : List (Str × NameKind)} {acc : List (Str × Addr)} {n : Str} {c : Addr}, (n, c) ∈ cloFrom cells names acc → (n, c) ∈ acc ∨ ((n, .free) ∈ names ∧ c = (cells.lookup n).getD 0)
 | [], _, _, _, h => .inl h
 | (m, k) :: r, acc, n, c, h => by
  unfold cloFrom at h
  split at h
  ·rename_i hk
   have hk : k = .free := by simpa using hk
   rcases cloFrom_mem h with h | ⟨h1, h2⟩
   ·rcases List.mem_cons.mp h with e | h
    ·cases e; exact .inr ⟨hk ▸ List.mem_cons_self, rfl⟩
    ·exact .inl h
   ·exact .inr ⟨List.mem_cons_of_mem _ h1, h2⟩
  ·rcases cloFrom_mem h with h | ⟨h1, h2⟩
   ·exact .inl h
   ·exact .inr ⟨List.mem_cons_of_mem _ h1, h2⟩
theorem cloFrom_acc {cells : List (Str × Addr)} : ∀ {names : List (Str × NameKind)} {acc : List (Str × Addr)} {p : Str × Addr}, p ∈ acc → p ∈ cloFrom cells names acc
 | [], _, _, h => h
 | (m, k) :: r, acc, p, h => by
  unfold cloFrom
  split
  ·exact cloFrom_acc (List.mem_cons_of_mem _ h)
  ·exact cloFrom_acc h
theorem cloFrom_has {cells : List (Str × Addr)} : ∀ {names : List (Str × NameKind)} {acc : List (Str × Addr)} {n : Str}, (n, .free) ∈ names → (n, (cells.lookup n).getD 0) ∈ cloFrom cells names acc
 | (m, k) :: r, acc, n, h => by
  unfold cloFrom
  rcases List.mem_cons.mp h with e | h
  ·cases e
   exact cloFrom_acc List.mem_cons_self
  ·split
   ·exact cloFrom_has h
   ·exact cloFrom_has h
theorem cells_mem : ∀ {names : List (Str × NameKind)} {h : Heap} {acc : List (Str × Addr)} {x : Str} {c : Addr}, (x, c) ∈ cellsFrom h.objs.size names acc →
  (x, c) ∈ acc ∨ ((x, .cell) ∈ names ∧ h.objs.size ≤ c ∧ CellAt (pushCells h names) c none)
 | [], _, _, _, _, h => .inl h
 | (n, k) :: r, h, acc, x, c, hm => by
  unfold cellsFrom at hm
  unfold pushCells
  split at hm
  ·rename_i hk
   rw [if_pos hk]
   have hk : k = .cell := by simpa using hk
   rw [← Heap.size_push h { cls := .type "cell", data := .cell none }] at hm
   rcases cells_mem hm with hm | ⟨h1, h2, h3⟩
   ·rcases List.mem_cons.mp hm with e | hm
    ·cases e
     exact .inr ⟨hk ▸ List.mem_cons_self, Nat.le_refl _, _, pushCells_keeps r _ _ _ (Heap.get?_push_size _ rfl), rfl⟩
    ·exact .inl hm
   ·rw [Heap.size_push] at h2
    exact .inr ⟨List.mem_cons_of_mem _ h1, Nat.le_of_succ_le h2, h3⟩
  ·rename_i hk
   rw [if_neg hk]
   rcases cells_mem hm with hm | ⟨h1, h2, h3⟩
   ·exact .inl hm
   ·exact .inr ⟨List.mem_cons_of_mem _ h1, h2, h3⟩
theorem cells_acc : ∀ {names : List (Str × NameKind)} {n : Nat} {acc : List (Str × Addr)} {p : Str × Addr}, p ∈ acc → p ∈ cellsFrom n names acc
 | [], _, _, _, h => h
 | (m, k) :: r, n, acc, p, h => by
  unfold cellsFrom
  split
  ·exact cells_acc (List.mem_cons_of_mem _ h)
  ·exact cells_acc h
theorem cells_has : ∀ {names : List (Str × NameKind)} {n : Nat} {acc : List (Str × Addr)} {x : Str}, (x, .cell) ∈ names → ∃ c, (x, c) ∈ cellsFrom n names acc
 | (m, k) :: r, n, acc, x, h => by
  unfold cellsFrom
  rcases List.mem_cons.mp h with e | h
  ·cases e
   exact ⟨n, cells_acc List.mem_cons_self⟩
  ·split
   ·exact cells_has h
   ·exact cells_has h
theorem cells_inj : ∀ {names : List (Str × NameKind)} {h : Heap} {acc : List (Str × Addr)} {x y : Str} {c : Addr}, (∀ p ∈ acc, p.2 < h.objs.size) → (∀ x y c, (x, c) ∈ acc → (y, c) ∈ acc → x = y) →
  (x, c) ∈ cellsFrom h.objs.size names acc → (y, c) ∈ cellsFrom h.objs.size names acc → x = y
 | [], _, _, _, _, _, _, hi, h1, h2 => hi _ _ _ h1 h2
 | (n, k) :: r, h, acc, x, y, c, hl, hi, h1, h2 => by
  unfold cellsFrom at h1 h2
  split at h1
  ·rename_i hk
   rw [if_pos hk] at h2
   rw [← Heap.size_push h { cls := .type "cell", data := .cell none }] at h1 h2
   refine cells_inj (h := h.push _) (fun p hp => ?_) (fun x y c a b => ?_) h1 h2
   ·rw [Heap.size_push]
    rcases List.mem_cons.mp hp with rfl | hp
    ·exact Nat.lt_succ_self _
    ·exact Nat.lt_succ_of_lt (hl p hp)
   ·rcases List.mem_cons.mp a with e | a <;> rcases List.mem_cons.mp b with e' | b
    ·cases e; cases e'; rfl
    ·cases e; exact absurd (hl _ b) (Nat.lt_irrefl _)
    ·cases e'; exact absurd (hl _ a) (Nat.lt_irrefl _)
    ·exact hi _ _ _ a b
  ·rename_i hk
   rw [if_neg hk] at h2
   exact cells_inj hl hi h1 h2
theorem newEnv_comp {M : Model} {A : Around} {E : Value → Shared → Prop} {s : Shared} {scope : Scope} {globals : Addr} {closure : List (Str × Addr)} {qual : Str} {func : Option Addr} {code : Value} {around : Env} {builtins : Addr} {Q : Env → Shared → Prop}
  (h : Q (newEnv scope s.heap.objs.size globals (cellsFrom (s.heap.objs.size + 1) scope.names closure) qual func code (some around) builtins)
   { s with heap := pushCells (s.heap.push { cls := .type "dict", data := .dict #[] }) scope.names }) :
  wpAny M A (newFunctionEnv scope globals closure [] qual func code (some around) builtins) Q E s := by
 simp only [newFunctionEnv, Option.isSome_some, if_true]
 refine wpAny_bind (wpAny_alloc ?_)
 refine wpAny_bind (wpAny_layCells _ (fun n k c => rfl) scope.names closure _ _ ?_)
 rw [show ({ s with heap := s.heap.push { cls := .type "dict", data := .dict #[] } } : Shared).heap.objs.size = s.heap.objs.size + 1 from Heap.size_push ..]
 rw [List.forIn_nil]
 exact wpAny_bind (wpAny_pure (wpAny_pure h))
theorem lookup_relS {sc : Scope} : ∀ {names : List (Str × NameKind)} {x : Str} {k : NameKind},
  (names.map fun (n, k) => if (k == NameKind.free && sc.kind == .function && sc.names.lookup n == some .cell) then (n, NameKind.cell) else (n, k)).lookup x = some k →
  ∃ k', names.lookup x = some k' ∧ (k = k' ∨ (k' = .free ∧ k = .cell))
 | [], _, _, h => by simp at h
 | (n, k₀) :: r, x, k, h => by
  have ih := @lookup_relS sc r x k
  have h' : List.lookup x ((if (k₀ == NameKind.free && sc.kind == .function && sc.names.lookup n == some .cell) = true then (n, NameKind.cell) else (n, k₀)) :: (r.map _)) = some k := h
  cases hx : x == n with
  | true =>
   simp only [List.lookup_cons, hx]
   by_cases hc : (k₀ == NameKind.free && sc.kind == .function && sc.names.lookup n == some .cell) = true
   ·rw [if_pos hc] at h'
    simp only [List.lookup_cons, hx] at h'
    cases h'
    simp only [Bool.and_eq_true, beq_iff_eq] at hc
    exact ⟨k₀, rfl, .inr ⟨hc.1.1, rfl⟩⟩
   ·rw [if_neg hc] at h'
    simp only [List.lookup_cons, hx] at h'
    cases h'
    exact ⟨_, rfl, .inl rfl⟩
  | false =>
   simp only [List.lookup_cons, hx]
   by_cases hc : (k₀ == NameKind.free && sc.kind == .function && sc.names.lookup n == some .cell) = true
   ·rw [if_pos hc] at h'
    simp only [List.lookup_cons, hx] at h'
    exact ih h'
   ·rw [if_neg hc] at h'
    simp only [List.lookup_cons, hx] at h'
    exact ih h'
structure BlkOk (N : List Str) (sc scope : Scope) (own : List (Str × Nat)) : Prop where
 kind : scope.kind = .function
 uniq : ∀ y ∈ scope.names, scope.names.lookup y.1 = some y.2
 ix : ∀ p ∈ own, N[p.2]? = some p.1
 free : ∀ y ∈ scope.names, y.2 = .free → sc.names.lookup y.1 = some .cell ∨ sc.names.lookup y.1 = some .free
 own : ∀ y ∈ scope.names, y.2 = .local ∨ y.2 = .cell → y.1 ∈ own.map (·.1) ∨ y.1 ∉ N
noncomputable def wipe (σ : St) : List Nat → St
 | [] => σ
 | v :: vs => (wipe σ vs).set v none
theorem wipe_length (σ : St) : ∀ vs : List Nat, (wipe σ vs).length = σ.length
 | [] => rfl
 | v :: vs => by unfold wipe; rw [List.length_set, wipe_length σ vs]
theorem wipe_some {σ : St} {i : Nat} {x : V} : ∀ {vs : List Nat}, (wipe σ vs)[i]? = some (some x) → σ[i]? = some (some x) ∧ i ∉ vs
 | [], h => ⟨h, by simp⟩
 | v :: vs, h => by
  unfold wipe at h
  by_cases hi : v = i
  ·subst hi
   by_cases hv : v < (wipe σ vs).length
   ·rw [List.getElem?_set_self hv] at h; cases h
   ·rw [List.getElem?_eq_none (by simpa using hv)] at h; cases h
  ·rw [List.getElem?_set_ne hi] at h
   obtain ⟨h1, h2⟩ := wipe_some h
   exact ⟨h1, by simp only [List.mem_cons, not_or]; exact ⟨fun e => hi e.symm, h2⟩⟩
noncomputable abbrev Cx.blk (X : Cx) (s : Shared) (H : Hp) (scope : Scope) (cenv : Env) (fp : List Addr) : Cx := { X with s_0 := s, H_0 := H, env := cenv, outer := X.stack, ex := fp, fn := fun x => scope.names.lookup x == some .cell, pn := [], xe := fun _ _ => False }
section
variable {X : Cx} {pins : List (Addr × Obj)} {σ : St} {H : Hp} {s : Shared}
theorem block_start {scope : Scope} {own : List (Str × Nat)} {fp : List Addr} (I : Inv X pins σ H s) (ok : BlkOk X.N X.env.scope scope own) (hN : X.N.Nodup) (hfp : ∀ b ∈ fp, FpOk X pins H b ∧ b < s.heap.objs.size) :
  Inv (X.blk s H scope (compEnvC scope (cellsFrom (s.heap.objs.size + 1) scope.names (cloFrom X.env.cells scope.names [])) s.heap.objs.size X.env) fp) [] (wipe σ (own.map (·.2))) H { s with heap := pushCells (s.heap.push { cls := .type "dict", data := .dict #[] }) scope.names } := by
 have hfree : ∀ y ∈ scope.names, y.2 = .free → ∃ c, X.env.cells.lookup y.1 = some c := fun y hy e => by
  rcases ok.free y hy e with k | k
  ·exact I.ok.has _ (.inl k)
  ·exact I.ok.has _ (.inr k)
 generalize hcenv : compEnvC scope (cellsFrom (s.heap.objs.size + 1) scope.names (cloFrom X.env.cells scope.names [])) s.heap.objs.size X.env = cenv
 have kp : ∀ b o, s.heap.get? b = some o → (pushCells (s.heap.push { cls := .type "dict", data := .dict #[] }) scope.names).get? b = some o := fun b o e => pushCells_keeps _ _ _ _ (Heap.get?_push_of_some _ e)
 have hL : cenv.locals = s.heap.objs.size := by rw [← hcenv]; rfl
 have hcl : cenv.cells = cellsFrom (s.heap.objs.size + 1) scope.names (cloFrom X.env.cells scope.names []) := by rw [← hcenv]; rfl
 have hsc : cenv.scope = relS scope X.env.scope := by rw [← hcenv]; rfl
 rw [← Heap.size_push s.heap { cls := .type "dict", data := .dict #[] }] at hcl
 have cm : ∀ {y c}, (y, c) ∈ cloFrom X.env.cells scope.names [] → X.env.cells.lookup y = some c ∧ c < s.heap.objs.size := fun {y c} hm => by
  rcases cloFrom_mem hm with hm | ⟨h1, rfl⟩
  ·cases hm
  ·obtain ⟨c, hc⟩ := hfree _ h1 rfl
   rw [hc]
   obtain ⟨w, z⟩ := I.cell _ _ hc
   exact ⟨rfl, z.lt⟩
 have mem : ∀ {y c}, cenv.cells.lookup y = some c → (X.env.cells.lookup y = some c ∧ c < s.heap.objs.size) ∨ (s.heap.objs.size + 1 ≤ c ∧ CellAt (pushCells (s.heap.push { cls := .type "dict", data := .dict #[] }) scope.names) c none) := fun {y c} e => by
  rw [hcl] at e
  rcases cells_mem (PySem.mem_of_lookup e) with hm | ⟨_, h2, h3⟩
  ·exact .inl (cm hm)
  ·rw [Heap.size_push] at h2; exact .inr ⟨h2, h3⟩
 have look : ∀ {y}, scope.names.lookup y = some .free → ∃ c, cenv.cells.lookup y = some c ∧ X.env.cells.lookup y = some c := fun {y} hl => by
  have hy : (y, NameKind.free) ∈ scope.names := PySem.mem_of_lookup hl
  obtain ⟨c', e'⟩ := mem_lookup (cells_acc (names := scope.names) (n := (s.heap.push { cls := .type "dict", data := .dict #[] }).objs.size) (cloFrom_has (cells := X.env.cells) (acc := []) hy))
  rw [← hcl] at e'
  refine ⟨c', e', ?_⟩
  rw [hcl] at e'
  rcases cells_mem (PySem.mem_of_lookup e') with hm | ⟨h1, _, _⟩
  ·exact (cm hm).1
  ·have := ok.uniq _ h1
   rw [hl] at this; cases this
 have okB : (X.blk s H scope cenv fp).Ok := by
  refine ⟨I.ok.mod, by show cenv.scope.kind = _; rw [hsc]; exact ok.kind, by show cenv.globals = _; rw [← hcenv]; exact I.ok.glob, by show cenv.builtins = _; rw [← hcenv]; exact I.ok.blt, by show s.heap.objs.size ≤ cenv.locals; rw [hL]; exact Nat.le_refl _,
   fun y z c e1 e2 => ?_, fun y hy => ?_, fun y c z e => ?_, I.ok.hd, I.ok.frames, .inl rfl, fun b hb => ⟨?_, fun y c e z => ?_⟩, I.bs, Nat.le_trans I.ok.bsz I.sz, fun b o e hb => ?_, fun b hb z => ?_, I.stack, I.stkFree⟩
  ·have e1 : cenv.cells.lookup y = some c := e1
   have e2 : cenv.cells.lookup z = some c := e2
   rw [hcl] at e1 e2
   refine cells_inj (fun p hp => ?_) (fun y z c a b => I.ok.inj y z c (cm a).1 (cm b).1) (PySem.mem_of_lookup e1) (PySem.mem_of_lookup e2)
   rw [Heap.size_push]
   exact Nat.lt_succ_of_lt (cm (y := p.1) (c := p.2) hp).2
  ·show ∃ c, cenv.cells.lookup y = some c
   have key : ∀ k, cenv.kindOf y = some k → (k = .cell ∨ k = .free) → ∃ c, cenv.cells.lookup y = some c := fun k hk hk' => by
    unfold Env.kindOf at hk
    rw [hsc] at hk
    obtain ⟨k', e, r⟩ := lookup_relS hk
    have : k' = .cell ∨ k' = .free := by
     rcases r with rfl | ⟨rfl, _⟩
     ·exact hk'
     ·exact .inr rfl
    rcases this with rfl | rfl
    ·obtain ⟨c, hm⟩ := cells_has (n := (s.heap.push { cls := .type "dict", data := .dict #[] }).objs.size) (acc := cloFrom X.env.cells scope.names []) (PySem.mem_of_lookup e)
     obtain ⟨c', e'⟩ := mem_lookup hm
     exact ⟨c', by rw [hcl]; exact e'⟩
    ·obtain ⟨c, h1, _⟩ := look e
     exact ⟨c, h1⟩
   rcases hy with hy | hy
   ·exact key _ hy (.inl rfl)
   ·exact key _ hy (.inr rfl)
  ·have z : (scope.names.lookup y == some NameKind.cell) = true := z
   have z : scope.names.lookup y = some .cell := by simpa using z
   have e : cenv.cells.lookup y = some c := e
   rw [hcl] at e
   rcases cells_mem (PySem.mem_of_lookup e) with hm | ⟨_, h2, _⟩
   ·rcases cloFrom_mem hm with hm | ⟨h1, _⟩
    ·cases hm
    ·have q := ok.uniq _ h1
     rw [z] at q; cases q
   ·rw [Heap.size_push] at h2
    exact Nat.le_of_succ_le h2
  ·show b ≠ cenv.locals
   rw [hL]; exact Nat.ne_of_lt (hfp b hb).2
  ·have e : cenv.cells.lookup y = some c := e
   rcases mem e with ⟨h1, _⟩ | ⟨h1, _⟩
   ·exact (hfp b hb).1.2.2.2.2.1 y c h1 z
   ·have h2 : s.heap.objs.size + 1 ≤ b := by rw [← z]; exact h1
    exact absurd (Nat.lt_of_lt_of_le (hfp b hb).2 (Nat.le_of_succ_le h2)) (Nat.lt_irrefl _)
  ·rcases (hfp b hb).1.2.2.2.1 with z | z
   ·exact I.ok.noex b o e z
   ·exact absurd (Nat.lt_of_lt_of_le (Heap.lt_size e) (Nat.le_trans I.ok.bsz z)) (Nat.lt_irrefl _)
  ·rcases List.mem_cons.mp (I.stkSub b z) with z | z
   ·exact (hfp b hb).1.2.1 z
   ·exact (hfp b hb).1.2.2.1 z
 refine ⟨okB, rfl, I.bare, Un.kept kp, ⟨fun _ => none, ?_, fun i y av e1 e2 e3 => ?_⟩, fun y c e => ?_, ?_, fun y c e => ?_, fun p hp => ?_, I.hok.kept kp, by rw [wipe_length]; exact I.len⟩
 ·show Heap.Ns _ cenv.locals _
  rw [hL]
  exact Heap.Ns.keeps (Heap.Ns.new ..) fun b o e => pushCells_keeps _ _ _ _ e
 ·obtain ⟨e2, hne⟩ := wipe_some e2
  have hfr : scope.names.lookup y = some .free ∧ (cenv.kindOf y = some .cell ∨ cenv.kindOf y = some .free) := by
   have key : ∀ k, cenv.scope.names.lookup y = some k → k = .local ∨ k = .cell ∨ k = .free → scope.names.lookup y = some .free ∧ (cenv.kindOf y = some .cell ∨ cenv.kindOf y = some .free) := fun k hk hk' => by
    have hk0 := hk
    rw [hsc] at hk
    obtain ⟨k', e, r⟩ := lookup_relS hk
    have no : ¬ (k' = .local ∨ k' = .cell) := fun hh => by
     rcases ok.own _ (PySem.mem_of_lookup e) hh with e' | e'
     ·obtain ⟨p, hp, hpy⟩ := List.mem_map.mp e'
      have e3 := ok.ix p hp
      have : p.1 = y := hpy
      rw [this] at e3
      exact hne (List.mem_map.mpr ⟨p, hp, nodup_ix hN e3 e1⟩)
     ·exact e' (List.mem_of_getElem? e1)
    rcases r with rfl | ⟨rfl, rfl⟩
    ·rcases hk' with rfl | rfl | rfl
     ·exact absurd (.inl rfl) no
     ·exact absurd (.inr rfl) no
     ·exact ⟨e, .inr hk0⟩
    ·exact ⟨e, .inl hk0⟩
   have e3 : Vis cenv.scope y := e3
   rcases e3 with e3 | e3 | e3
   ·exact key _ e3 (.inl rfl)
   ·exact key _ e3 (.inr (.inl rfl))
   ·exact key _ e3 (.inr (.inr rfl))
  obtain ⟨m, hn, hl⟩ := I.loc
  have hvis : Vis X.env.scope y := (ok.free _ (PySem.mem_of_lookup hfr.1) rfl).elim (fun k => .inr (.inl k)) (fun k => .inr (.inr k))
  obtain ⟨w, r, q⟩ := hl i y av e1 e2 hvis
  refine ⟨w, r, .inr ⟨hfr.2, ?_⟩⟩
  obtain ⟨c, h1, h2⟩ := look hfr.1
  rcases q with ⟨k, _⟩ | ⟨_, c', e', z⟩
  ·have k : X.env.scope.names.lookup y = some .local := k
   rcases ok.free _ (PySem.mem_of_lookup hfr.1) rfl with k' | k' <;> rw [show X.env.scope.names.lookup y = _ from k'] at k <;> cases k
  ·rw [h2] at e'; cases e'
   exact ⟨c, h1, z.keeps kp⟩
 ·have e : cenv.cells.lookup y = some c := e
  rcases mem e with ⟨h1, _⟩ | ⟨_, z⟩
  ·obtain ⟨w, z⟩ := I.cell y c h1
   exact ⟨w, z.keeps kp⟩
  ·exact ⟨_, z⟩
 ·show H cenv.locals = none
  rw [hL]; exact I.hok.fresh (Nat.le_refl _)
 ·have e : cenv.cells.lookup y = some c := e
  rcases mem e with ⟨h1, _⟩ | ⟨h1, _⟩
  ·exact I.freeC y c h1
  ·exact I.hok.fresh (Nat.le_of_succ_le h1)
 ·exact absurd (show p ∈ ([] : List (Addr × Obj)) ++ [] from hp) (by simp)
theorem app_ok {E : Value → Shared → Prop} {D : Addr} {xs : List V} {y : V} {v : Value} {Q : Value → Shared → Prop} (I : Inv X pins σ H s) (hD : H D = some (.lst xs)) (hz : xs.length < sizeLine) (r : RelV y v)
  (h : ∀ s', Inv X pins σ (upd H D (.lst (xs ++ [y]))) s' → Q .none s') : wpAny (model X.prog X.w) X.A (call (.builtin "list.append") [.ref D, v]) Q E s := by
 obtain ⟨hz', its, n, ri, e⟩ := I.hok D _ hD
 have hl := ri.length
 refine append_at (hsz := by rw [List.size_toArray]; omega) e fun h' sb ho' => ?_
 refine h { s with heap := h' } (I.write (t' := s.toks) (by rw [hD]; trivial) (.inl rfl) (fun b u hb q => (sb.2 b hb).trans q) ⟨_, ho'⟩ ⟨by rw [List.length_append]; exact hz, its ++ [v], n + 1, ri.append (.cons r .nil), ?_⟩)
 rw [ho']
 simp
noncomputable def PTs (X : Cx) (ifs : List Expr) (t : TT) : Prop :=
 ∀ (pins : List (Addr × Obj)) (s : Shared) (σ : St) (H : Hp) (Q : Bool → Hp → Prop), Inv X pins σ H s → t σ H Q →
  wpAny (model X.prog X.w) X.A (forIn ifs true fun c r => if r = true then do let ok ← isTrue c X.env (eval c X.env); pure (ForInStep.yield ok) else pure (ForInStep.yield r)) (TP X pins σ Q) X.xe s
noncomputable def tYes : TT := fun _ H Q => Q true H
theorem pts_nil : PTs X [] tYes := fun _ _ _ H _ I h => wpAny_tests_nil ⟨H, I, h⟩
end
theorem thnF {α : Type} {t : Sem α} {Q Q' : α → Shared → Prop} {M : Model} {A : Around} {E : Value → Shared → Prop} {s : Shared} (h : wpAny M A t Q (fun _ _ => False) s) (hQ : ∀ a s, Q a s → Q' a s) : wpAny M A t Q' E s := wpAny_mono h hQ fun _ _ z => False.elim z
theorem compLoop_any {prog : Program} {w : World} {A : Around} {R : Result → Shared → Prop} {s : Shared} {elt target iter : Expr} {ifs : List Expr} {scope : Scope} {pos : Pos} {it acc : Value} {env : Env} (I : Nat → Shared → Prop)
  (turn : ∀ n s, I n s → wpAny (model prog w) A (pyNext it) (fun r s₁ => match r with
   | none => R (.ok .next) s₁
   | some v => wpAny (model prog w) A (letOwnedTupleGo target it v) (fun _ s₁' => wpAny (model prog w) A (assign target env v) (fun _ s₂ =>
     wpAny (model prog w) A (forIn ifs true fun c r => if r = true then do let ok ← isTrue c env (eval c env); pure (ForInStep.yield ok) else pure (ForInStep.yield r)) (fun ok s₃ =>
      if ok = true then wpAny (model prog w) A (eval elt env) (fun x s₄ =>
       wpAny (model prog w) A (call (.builtin "list.append") [acc, x]) (fun _ s₅ => ∃ m, m < n ∧ I m s₅) (notedBy (model prog w) A env fun e s' => R (.error e) s') s₄) (notedBy (model prog w) A env fun e s' => R (.error e) s') s₃
      else ∃ m, m < n ∧ I m s₃) (notedBy (model prog w) A env fun e s' => R (.error e) s') s₂) (notedBy (model prog w) A env fun e s' => R (.error e) s') s₁') (notedBy (model prog w) A env fun e s' => R (.error e) s') s₁) (notedBy (model prog w) A env fun e s' => R (.error e) s') s)
  (n : Nat) (h : I n s) :
  codeAny (model prog w) A (.compLoop (.ListComp elt [⟨target, iter, ifs, 0⟩] scope pos) 0 it acc env) R s := by
 refine codeAny_loop rfl I (fun n s hI => ?_) n h
 show wpAny _ A ((compTurn (.ListComp elt [⟨target, iter, ifs, 0⟩] scope pos) 0 it acc env).onRaise (fun x => do noteFrame x env; theTreesLotGoes x)) _ _ s
 refine wpAny_noted ?_
 rw [compTurn_list]
 refine wpAny_bind (wpAny_standAt (wpAny_bind (wpAny_mono (turn n s hI) (fun r s₁ h₁ => ?_) fun _ _ h' => h')))
 cases r with
 | none => exact wpAny_pure h₁
 | some v =>
  refine wpAny_bind (wpAny_mono h₁ (fun _ s₁' h₁' => ?_) fun _ _ h' => h')
  refine wpAny_bind (wpAny_mono h₁' (fun _ s₂ h₂ => wpAny_bind (wpAny_mono h₂ (fun ok s₃ h₃ => ?_) fun _ _ h' => h')) fun _ _ h' => h')
  cases ok with
  | false => exact wpAny_pure ⟨rfl, h₃⟩
  | true =>
   exact wpAny_bind (wpAny_bind (wpAny_mono h₃ (fun x s₄ h₄ => wpAny_bind (wpAny_mono h₄ (fun _ s₅ h₅ => wpAny_pure (wpAny_pure ⟨rfl, h₅⟩)) fun _ _ h' => h')) fun _ _ h' => h'))
section
variable {X : Cx}
noncomputable def tLc (wi : TI) (g : TG) (tt : TT) (te : TE) (vs : List Nat) : TE := fun σ H Q => wi σ H fun J H1 => ∀ D, H1 D = none → ∃ W : Nat → Nat → Hp → Prop, (∃ m, W 0 m (upd H1 D (.lst []))) ∧ ∀ i m H, W i m H →
 (J.stop i H ∧ Q (.ref D) H) ∨ (J.go i H ∧ ∃ Nx : Hp → Prop, (∀ H', Nx H' → ∃ m', m' < m ∧ W (i + 1) m' H') ∧ ∀ x H', J.yld i H x H' → g x (wipe σ vs) H' fun σ2 H2 => wipe σ2 vs = wipe σ vs ∧ tt σ2 H2 fun b H3 =>
  if b = true then te σ2 H3 fun y H4 => ∃ acc, H4 D = some (.lst acc) ∧ acc.length < sizeLine ∧ Nx (upd H4 D (.lst (acc ++ [y]))) else Nx H3)
theorem lc_core {pins : List (Addr × Obj)} {s : Shared} {σ : St} {H : Hp} {Q : VK} {elt tg iter : Expr} {ifs : List Expr} {scope : Scope} {own : List (Str × Nat)} {pos pos' : Pos} {wi : TI} {g : TG} {tt : TT} {te : TE} {use : Option (Value → Sem Unit)} {Qf : Value → Shared → Prop}
  (hc : X.calm = true) (hN : X.N.Nodup) (I : Inv X pins σ H s) (hi : PI X tg iter wi) (ok : BlkOk X.N X.env.scope scope own)
  (hg : ∀ (s : Shared) (H : Hp) (C : Addr) (cl : List (Str × Addr)) (fp : List Addr), PG (X.blk s H scope (compEnvC scope cl C X.env) fp) tg g) (ht : ∀ (s : Shared) (H : Hp) (C : Addr) (cl : List (Str × Addr)) (fp : List Addr), PTs (X.blk s H scope (compEnvC scope cl C X.env) fp) ifs tt)
  (he : ∀ (s : Shared) (H : Hp) (C : Addr) (cl : List (Str × Addr)) (fp : List Addr), PE (X.blk s H scope (compEnvC scope cl C X.env) fp) elt te) (hs : ∀ x, foldedSetIterable iter X.env x = pure x)
  (h : tLc wi g tt te (own.map (·.2)) σ H Q)
  (hRR : ∀ D C s' m H', Inv X pins σ H' s' → Q (.ref D) H' → s'.heap.Ns C m → FpOk X pins H' C → compPost (model X.prog X.w) X.A X.xe use Qf (.ref D) C (.ok .next) s') :
  wpAny (model X.prog X.w) X.A (comprehension (.ListComp elt [⟨tg, iter, ifs, 0⟩] scope pos) scope X.env pos' (newList []) false (eval iter X.env) use) Qf X.xe s := by
 have hfree : ∀ y ∈ scope.names, y.2 = .free → ∃ c, X.env.cells.lookup y.1 = some c := fun y hy e => by
  rcases ok.free y hy e with k | k
  ·exact I.ok.has _ (.inl k)
  ·exact I.ok.has _ (.inr k)
 refine wpAny_comprehension_free (use := use) rfl hs (closure_ok hfree) ok.kind (fun y hy e => by rw [ok.uniq y hy, e])
  (thn (hi pins s σ H _ I h) fun xv s1 hx => thn hx fun itv s2 h2 => ?_)
 obtain ⟨it, fp, tn, J, H2, e, I2, T, st2, f2, q⟩ := h2
 subst e
 refine wpAny_newObj_type (newEnv_comp ?_) (by show 0 ≤ sizeLine; decide)
 generalize hD : s2.heap.objs.size = D
 have hDn : H2 D = none := I2.hok.fresh (Nat.le_of_eq hD)
 obtain ⟨W, ⟨m0, w0⟩, turn⟩ := q D hDn
 generalize hs3 : ({ s2 with heap := s2.heap.push { cls := .type "list", data := .seq ([] : List Value).toArray } } : Shared) = s3
 have I3 : Inv X pins σ (upd H2 D (.lst [])) s3 := by
  rw [← hs3]
  refine I2.laid (t' := s2.toks) (fun b o e => Heap.get?_push_of_some _ e) (Nat.le_of_eq hD) ⟨Nat.zero_le _, [], 0, .nil, ?_⟩
  rw [← hD]
  exact Heap.get?_push_size _ rfl
 have h3 : s3.heap = s2.heap.push { cls := .type "list", data := .seq ([] : List Value).toArray } := by rw [← hs3]
 have sz : ∀ b ∈ fp, b < s2.heap.objs.size := fun b hb => by
  obtain ⟨o, e, _⟩ := T.obj _ _ st2 b hb
  exact Heap.lt_size e
 have f3 : ∀ b ∈ fp, FpOk X pins (upd H2 D (.lst [])) b ∧ b < s3.heap.objs.size := fun b hb => by
  have hlt := sz b hb
  refine ⟨⟨?_, (f2 b hb).2⟩, by rw [h3, Heap.size_push]; exact Nat.lt_succ_of_lt hlt⟩
  rw [upd_ne (by rw [← hD]; exact Nat.ne_of_lt hlt)]
  exact (f2 b hb).1
 have st3 : tn 0 s3.heap := T.keep _ _ _ st2 fun b _ o e => by rw [h3]; exact Heap.get?_push_of_some _ e
 have I4 := block_start I3 ok hN f3
 have pg := hg s3 (upd H2 D (.lst [])) s3.heap.objs.size (cellsFrom (s3.heap.objs.size + 1) scope.names (cloFrom X.env.cells scope.names [])) fp
 have pt := ht s3 (upd H2 D (.lst [])) s3.heap.objs.size (cellsFrom (s3.heap.objs.size + 1) scope.names (cloFrom X.env.cells scope.names [])) fp
 have pe := he s3 (upd H2 D (.lst [])) s3.heap.objs.size (cellsFrom (s3.heap.objs.size + 1) scope.names (cloFrom X.env.cells scope.names [])) fp
 show codeAny _ _ (.compStart (.ListComp elt [⟨tg, iter, ifs, 0⟩] scope pos) 0 (.ref it) (.ref D) (compEnvC scope (cellsFrom (s3.heap.objs.size + 1) scope.names (cloFrom X.env.cells scope.names [])) s3.heap.objs.size X.env)) (compPost (model X.prog X.w) X.A X.xe use Qf (.ref D) s3.heap.objs.size) { s3 with heap := pushCells (s3.heap.push { cls := .type "dict", data := .dict #[] }) scope.names }
 have nfp : ∀ b ∈ fp, (upd H2 D (.lst [])) b = none := fun b hb => (f3 b hb).1.1
 generalize hce : compEnvC scope (cellsFrom (s3.heap.objs.size + 1) scope.names (cloFrom X.env.cells scope.names [])) s3.heap.objs.size X.env = ce at I4 pg pt pe ⊢
 have cL : ce.locals = s3.heap.objs.size := by subst hce; rfl
 generalize hH3 : upd H2 D (.lst []) = H3 at I3 I4 pg pt pe w0 nfp f3
 generalize hs4 : ({ s3 with heap := pushCells (s3.heap.push { cls := .type "dict", data := .dict #[] }) scope.names } : Shared) = s4 at I4 ⊢
 have st4 : tn 0 s4.heap := T.keep _ _ _ st3 fun b _ o e => by rw [← hs4]; exact pushCells_keeps _ _ _ _ (Heap.get?_push_of_some _ e)
 have stat : ∀ {σ' : St} {H' : Hp} {s' : Shared}, Inv (X.blk s3 H3 scope ce fp) [] σ' H' s' → (∀ b ∈ fp, H' b = none) → ∀ b ∈ fp, FpOk (X.blk s3 H3 scope ce fp) [] H' b := fun {σ' H' s'} I' hn b hb =>
  ⟨hn b hb, (I'.ok.exf b hb).1, I'.ok.exfs b hb, .inl hb, fun x c e => (I'.ok.exf b hb).2 x c e, fun p hp => absurd (show p ∈ ([] : List (Addr × Obj)) ++ [] from hp) (by simp)⟩
 have loop : codeAny (model X.prog X.w) X.A (.compLoop (.ListComp elt [⟨tg, iter, ifs, 0⟩] scope pos) 0 (.ref it) (.ref D) ce) (compPost (model X.prog X.w) X.A X.xe use Qf (.ref D) s3.heap.objs.size) s4 := by
  refine compLoop_any (fun n s' => ∃ i H', Inv (X.blk s3 H3 scope ce fp) [] (wipe σ (own.map (·.2))) H' s' ∧ tn i s'.heap ∧ (∀ b ∈ fp, H' b = none) ∧ W i n H') ?_ m0 ⟨0, H3, I4, st4, nfp, w0⟩
  rintro n s5 ⟨i, H5, I5, st5, n5, w5⟩
  rcases turn i n H5 w5 with ⟨stop, qq⟩ | ⟨go, Nx, hNx, step⟩
  ·have td := T.done (X.blk s3 H3 scope ce fp) rfl rfl rfl hc i [] s5 _ H5 (fun _ _ => False) I5 (stat I5 n5) st5 stop
   refine thnF td fun r s6 ⟨hr, I6⟩ => ?_
   subst hr
   have I7 : Inv X pins σ H5 s6 := I3.call' (ch := fp) I6.os I6.base I6.hok I6.bare fun b hb => ⟨(f3 b hb).1.2.2.2.1, (f3 b hb).1.2.1, (f3 b hb).1.2.2.2.2.1, (f3 b hb).1.2.2.2.2.2⟩
   have nC : H5 s3.heap.objs.size = none := by
    have z : H5 ce.locals = none := I6.free
    rw [cL] at z
    exact z
   obtain ⟨m, hn, _⟩ := I6.loc
   have hn : s6.heap.Ns ce.locals m := hn
   rw [cL] at hn
   exact hRR D s3.heap.objs.size s6 m H5 I7 qq hn (I3.fpOk (Nat.le_refl _) nC)
  ·have ti := T.item (X.blk s3 H3 scope ce fp) rfl rfl rfl hc i [] s5 _ H5 (fun _ _ => False) I5 (stat I5 n5) st5 go
   refine thnF ti fun r s6 ⟨u, hr, h6⟩ => ?_
   subst hr
   refine thnF h6 fun _ s7 ⟨x, H7, I7, r7, y7, st7, n7⟩ => ?_
   have I7' := I7.pinned (stat I7 n7) (T.obj _ _ st7)
   refine thnF (pg _ s7 _ H7 x u _ I7' r7 (step x H7 y7)) fun _ s8 ⟨σ8, H8, I8, hw8, q8⟩ => ?_
   refine thnF (pt _ s8 σ8 H8 _ I8 q8) fun b s9 ⟨H9, I9, q9⟩ => ?_
   have fin : ∀ {s' : Shared} {H' : Hp}, Inv (X.blk s3 H3 scope ce fp) ([] ++ pinsAt fp s7.heap) σ8 H' s' → Nx H' → ∃ m, m < n ∧ ∃ i H', Inv (X.blk s3 H3 scope ce fp) [] (wipe σ (own.map (·.2))) H' s' ∧ tn i s'.heap ∧ (∀ b ∈ fp, H' b = none) ∧ W i m H' := fun {s' H'} I' nx => by
    obtain ⟨m', hm, w'⟩ := hNx H' nx
    have pin' : ∀ b ∈ fp, ∀ o, s7.heap.get? b = some o → s'.heap.get? b = some o ∧ H' b = none := fun b hb o e =>
     let z := I'.pin (b, o) (List.mem_append_right _ (List.mem_append_right _ (mem_pinsAt hb e)))
     ⟨z.1, z.2.1⟩
    have hl : (wipe σ (own.map (·.2))).length = σ8.length := by rw [← hw8, wipe_length]
    refine ⟨m', hm, i + 1, H', (I'.unpinned (pins := [])).weak hl (fun j v e => ?_), T.keep _ _ _ st7 fun b hb o e => (pin' b hb o e).1, fun b hb => ?_, w'⟩
    ·rw [← hw8] at e
     exact (wipe_some e).1
    ·obtain ⟨o, e, _⟩ := T.obj _ _ st7 b hb
     exact (pin' b hb o e).2
   cases b with
   | false =>
    simp only [Bool.false_eq_true, if_false] at q9 ⊢
    exact fin I9 q9
   | true =>
    simp only [if_true] at q9 ⊢
    refine thnF (pe _ s9 σ8 H9 _ I9 q9) fun z s10 ⟨yv, H10, I10, r10, acc, hD10, hz10, nx⟩ => ?_
    exact app_ok (X := X.blk s3 H3 scope ce fp) I10 hD10 hz10 r10 fun s11 I11 => fin I11 nx
 exact codeAny_compStart_list loop (T.self X.A 0 _ _ _ st4 loop)
theorem pe_lc {elt tg iter : Expr} {ifs : List Expr} {scope : Scope} {own : List (Str × Nat)} {pos : Pos} {wi : TI} {g : TG} {tt : TT} {te : TE} (hc : X.calm = true) (hN : X.N.Nodup) (hi : PI X tg iter wi) (ok : BlkOk X.N X.env.scope scope own)
  (hg : ∀ (s : Shared) (H : Hp) (C : Addr) (cl : List (Str × Addr)) (fp : List Addr), PG (X.blk s H scope (compEnvC scope cl C X.env) fp) tg g) (ht : ∀ (s : Shared) (H : Hp) (C : Addr) (cl : List (Str × Addr)) (fp : List Addr), PTs (X.blk s H scope (compEnvC scope cl C X.env) fp) ifs tt)
  (he : ∀ (s : Shared) (H : Hp) (C : Addr) (cl : List (Str × Addr)) (fp : List Addr), PE (X.blk s H scope (compEnvC scope cl C X.env) fp) elt te) (hs : ∀ x, foldedSetIterable iter X.env x = pure x := by intro _; rfl) :
  PE X (.ListComp elt [⟨tg, iter, ifs, 0⟩] scope pos) (tLc wi g tt te (own.map (·.2))) := by
 intro pins s σ H Q I h
 rw [eval_ListComp]
 refine lc_core hc hN I hi ok hg ht he hs h fun D C s' m H' I' q hn f => ⟨m, hn, fun h'' sb => ?_⟩
 obtain ⟨f0, f1, f2, f3, f4, f5⟩ := f
 exact ⟨.ref D, H', I'.turned (t' := s'.toks) (fun b o hb e => (sb.2 b hb).trans e) f0 f1 f3 f4 f5, rfl, q⟩
end
theorem lc_range {lo : Int} {n : Nat} {g : TG} {tt : TT} {te : TE} {vs : List Nat} {σ : St} {H1 : Hp} {D : Addr} {Qd : Hp → Prop} (Pv : Nat → Hp → Prop) (h0 : Pv 0 (upd H1 D (.lst [])))
  (hs : ∀ i H, i < n → Pv i H → g (.int (lo + i)) (wipe σ vs) H fun σ2 H2 => wipe σ2 vs = wipe σ vs ∧ tt σ2 H2 fun b H3 =>
   if b = true then te σ2 H3 fun y H4 => ∃ acc, H4 D = some (.lst acc) ∧ acc.length < sizeLine ∧ Pv (i + 1) (upd H4 D (.lst (acc ++ [y]))) else Pv (i + 1) H3) (hd : ∀ H, Pv n H → Qd H) :
  ∃ W : Nat → Nat → Hp → Prop, (∃ m, W 0 m (upd H1 D (.lst []))) ∧ ∀ i m H, W i m H →
   ((Itr lo n).stop i H ∧ Qd H) ∨ ((Itr lo n).go i H ∧ ∃ Nx : Hp → Prop, (∀ H', Nx H' → ∃ m', m' < m ∧ W (i + 1) m' H') ∧ ∀ x H', (Itr lo n).yld i H x H' → g x (wipe σ vs) H' fun σ2 H2 => wipe σ2 vs = wipe σ vs ∧ tt σ2 H2 fun b H3 =>
    if b = true then te σ2 H3 fun y H4 => ∃ acc, H4 D = some (.lst acc) ∧ acc.length < sizeLine ∧ Nx (upd H4 D (.lst (acc ++ [y]))) else Nx H3) := by
 refine ⟨fun i m H => m = n - i ∧ i ≤ n ∧ Pv i H, ⟨n, by simp, Nat.zero_le _, h0⟩, ?_⟩
 rintro i m H ⟨rfl, hi, p⟩
 by_cases hlt : i < n
 ·refine .inr ⟨hlt, Pv (i + 1), fun H' p' => ⟨n - (i + 1), by omega, rfl, hlt, p'⟩, fun x H' y => ?_⟩
  obtain ⟨e, y⟩ := y
  subst e y
  exact hs i _ hlt p
 ·have e : i = n := by omega
  subst e
  exact .inl ⟨Nat.le_refl _, hd H p⟩
theorem lc_list {K : PySem.W.Frag} {a : Addr} {xs : List V} {g : TG} {tt : TT} {te : TE} {vs : List Nat} {σ : St} {H1 : Hp} {D : Addr} {Qd : Hp → Prop} (Pv : Nat → Hp → Prop) (h0 : Pv 0 (upd H1 D (.lst []))) (hl : ∀ i H, i ≤ xs.length → Pv i H → SqL K H a xs)
  (hs : ∀ i x H, xs[i]? = some x → Pv i H → g x (wipe σ vs) H fun σ2 H2 => wipe σ2 vs = wipe σ vs ∧ tt σ2 H2 fun b H3 =>
   if b = true then te σ2 H3 fun y H4 => ∃ acc, H4 D = some (.lst acc) ∧ acc.length < sizeLine ∧ Pv (i + 1) (upd H4 D (.lst (acc ++ [y]))) else Pv (i + 1) H3) (hd : ∀ H, Pv xs.length H → Qd H) :
  ∃ W : Nat → Nat → Hp → Prop, (∃ m, W 0 m (upd H1 D (.lst []))) ∧ ∀ i m H, W i m H →
   ((Itl K a).stop i H ∧ Qd H) ∨ ((Itl K a).go i H ∧ ∃ Nx : Hp → Prop, (∀ H', Nx H' → ∃ m', m' < m ∧ W (i + 1) m' H') ∧ ∀ x H', (Itl K a).yld i H x H' → g x (wipe σ vs) H' fun σ2 H2 => wipe σ2 vs = wipe σ vs ∧ tt σ2 H2 fun b H3 =>
    if b = true then te σ2 H3 fun y H4 => ∃ acc, H4 D = some (.lst acc) ∧ acc.length < sizeLine ∧ Nx (upd H4 D (.lst (acc ++ [y]))) else Nx H3) := by
 refine ⟨fun i m H => m = xs.length - i ∧ i ≤ xs.length ∧ Pv i H, ⟨xs.length, by simp, Nat.zero_le _, h0⟩, ?_⟩
 rintro i m H ⟨rfl, hi, p⟩
 have q := hl i H hi p
 by_cases hlt : i < xs.length
 ·refine .inr ⟨⟨xs, xs[i], q, by simp [hlt]⟩, Pv (i + 1), fun H' p' => ⟨xs.length - (i + 1), by omega, rfl, hlt, p'⟩, fun x H' y => ?_⟩
  obtain ⟨e, y⟩ := y
  subst e
  exact hs i x _ (y xs q) p
 ·have e : i = xs.length := by omega
  subst e
  exact .inl ⟨⟨xs, q, Nat.le_refl _⟩, hd H p⟩
noncomputable def blkC (N : List Str) (sc scope : Scope) (own : List (Str × Nat)) : Bool :=
 (match scope.kind with | .function => true | _ => false) && (scope.names.all fun y => decide (scope.names.lookup y.1 = some y.2)) && (own.all fun p => decide (N[p.2]? = some p.1)) &&
  (scope.names.all fun y => match y.2 with
   | .free => (match sc.names.lookup y.1 with | some .cell => true | some .free => true | _ => false)
   | .local => decide (y.1 ∈ own.map (·.1)) || decide (y.1 ∉ N)
   | .cell => decide (y.1 ∈ own.map (·.1)) || decide (y.1 ∉ N)
   | _ => true)
theorem blkOk_by {N : List Str} {sc scope : Scope} {own : List (Str × Nat)} (h : blkC N sc scope own = true) : BlkOk N sc scope own := by
 unfold blkC at h
 simp only [Bool.and_eq_true, List.all_eq_true, decide_eq_true_eq] at h
 obtain ⟨⟨⟨h1, h2⟩, h3⟩, h4⟩ := h
 refine ⟨?_, h2, h3, fun y hy e => ?_, fun y hy e => ?_⟩
 ·split at h1
  ·assumption
  ·cases h1
 ·have q := h4 y hy
  simp only [e] at q
  split at q <;> first | exact .inl (by assumption) | exact .inr (by assumption) | cases q
 ·have q := h4 y hy
  rcases e with e | e <;> (simp only [e, Bool.or_eq_true, decide_eq_true_eq] at q; exact q)
end L2
namespace L2
open PySem PySem.Spec PyProof.Rows
section
variable {κ : Type} [DecidableEq κ]
noncomputable def valV (kvs : List (κ × V)) (k : κ) : Option V := (kvs.find? fun kv => decide (kv.1 = k)).map (·.2)
noncomputable def putK (kvs : List (κ × V)) (k : κ) (v : V) : List (κ × V) :=
 if (kvs.any fun kv => decide (kv.1 = k)) = true then kvs.map (fun kv => if kv.1 = k then (kv.1, v) else kv) else kvs ++ [(k, v)]
theorem valV_pos {p : κ × V} {r : List (κ × V)} {k : κ} (e : p.1 = k) : valV (p :: r) k = some p.2 := by simp [valV, List.find?_cons, e]
theorem valV_neg {p : κ × V} {r : List (κ × V)} {k : κ} (e : ¬ p.1 = k) : valV (p :: r) k = valV r k := by simp [valV, List.find?_cons, e]
theorem valV_any (k : κ) : ∀ kvs : List (κ × V), (kvs.any fun kv => decide (kv.1 = k)) = (valV kvs k).isSome
 | [] => rfl
 | p :: r => by
  rw [List.any_cons]
  by_cases e : p.1 = k
  ·simp only [valV_pos e, decide_eq_true e, Bool.true_or, Option.isSome_some]
  ·rw [valV_neg e, decide_eq_false e, Bool.false_or]; exact valV_any k r
theorem valV_map (k j : κ) (y : V) : ∀ kvs : List (κ × V), valV (kvs.map fun kv => if kv.1 = k then (kv.1, y) else kv) j = (valV kvs j).map fun x => if j = k then y else x
 | [] => rfl
 | p :: r => by
  have ih := valV_map k j y r
  rw [List.map_cons]
  by_cases h : p.1 = k
  ·rw [if_pos h]
   by_cases e : p.1 = j
   ·rw [valV_pos (p := (p.1, y)) e, valV_pos e, Option.map_some, if_pos (e.symm.trans h)]
   ·rw [valV_neg (p := (p.1, y)) e, valV_neg e, ih]
  ·rw [if_neg h]
   by_cases e : p.1 = j
   ·rw [valV_pos (p := p) e, valV_pos e, Option.map_some, if_neg (fun z => h (e.trans z))]
   ·rw [valV_neg (p := p) e, valV_neg e, ih]
theorem valV_snoc (k j : κ) (y : V) : ∀ kvs : List (κ × V), valV kvs k = none → valV (kvs ++ [(k, y)]) j = if j = k then some y else valV kvs j
 | [], _ => by
  by_cases e : k = j
  ·rw [if_pos e.symm]; exact valV_pos (p := (k, y)) e
  ·rw [if_neg (fun z => e z.symm)]; exact valV_neg (p := (k, y)) e
 | p :: r, hn => by
  rw [List.cons_append]
  have hk : ¬ p.1 = k := fun z => by rw [valV_pos z] at hn; cases hn
  rw [valV_neg hk] at hn
  have ih := valV_snoc k j y r hn
  by_cases e : p.1 = j
  ·rw [valV_pos e, valV_pos e, if_neg (fun z => hk (e.trans z))]
  ·rw [valV_neg e, valV_neg e, ih]
theorem valV_put (kvs : List (κ × V)) (k j : κ) (y : V) : valV (putK kvs k y) j = if j = k then some y else valV kvs j := by
 unfold putK
 by_cases a : (kvs.any fun kv => decide (kv.1 = k)) = true
 ·rw [if_pos a, valV_map]
  rw [valV_any] at a
  by_cases e : j = k
  ·obtain ⟨x, hx⟩ := Option.isSome_iff_exists.mp a
   rw [if_pos e, e, hx, Option.map_some, if_pos rfl]
  ·rw [if_neg e]
   cases valV kvs j with
   | none => rfl
   | some x => rw [Option.map_some, if_neg e]
 ·rw [if_neg a]
  refine valV_snoc k j y kvs ?_
  rw [valV_any] at a
  cases q : valV kvs k with
  | none => rfl
  | some x => rw [q] at a; exact (a rfl).elim
theorem length_putK (kvs : List (κ × V)) (k : κ) (v : V) : (putK kvs k v).length ≤ kvs.length + 1 := by
 unfold putK
 split
 ·rw [List.length_map]; omega
 ·rw [List.length_append, List.length_cons, List.length_nil]; omega
theorem RelO.isSome_eq {o : Option V} {u : Option Value} (r : RelO o u) : o.isSome = u.isSome := by
 cases o with
 | none => cases u with
  | none => rfl
  | some _ => exact (show False from r).elim
 | some _ => cases u with
  | none => exact (show False from r).elim
  | some _ => rfl
theorem RelO.getD {o : Option V} {u : Option Value} {d : V} {d' : Value} (r : RelO o u) (rd : RelV d d') : RelV (o.getD d) (u.getD d') := by
 cases o with
 | none => cases u with
  | none => exact rd
  | some _ => exact (show False from r).elim
 | some _ => cases u with
  | none => exact (show False from r).elim
  | some _ => exact r
theorem KV.val {kvs : List (κ × V)} {vs : List (κ × Value)} (r : KV kvs vs) (k : κ) : RelO (valV kvs k) (valueAt vs k) := by
 unfold KV at r
 induction r with
 | nil => exact True.intro
 | @cons p q ps qs h t ih =>
  obtain ⟨h1, h2⟩ := h
  by_cases e : p.1 = k
  ·have e' : q.1 = k := h1.symm.trans e
   have b : valueAt (q :: qs) k = some q.2 := by simp [valueAt, List.find?_cons, e']
   rw [valV_pos e, b]; exact h2
  ·have e' : ¬ q.1 = k := fun z => e (h1.trans z)
   have b : valueAt (q :: qs) k = valueAt qs k := by simp [valueAt, List.find?_cons, e']
   rw [valV_neg e, b]; exact ih
theorem KV.any {kvs : List (κ × V)} {vs : List (κ × Value)} (r : KV kvs vs) (k : κ) : (kvs.any fun kv => decide (kv.1 = k)) = vs.any fun kv => decide (kv.1 = k) := by
 unfold KV at r
 induction r with
 | nil => rfl
 | cons h t ih => rw [List.any_cons, List.any_cons, ih, h.1]
theorem KV.repl {kvs : List (κ × V)} {vs : List (κ × Value)} (r : KV kvs vs) (k : κ) {y : V} {u : Value} (ry : RelV y u) :
  KV (kvs.map fun kv => if kv.1 = k then (kv.1, y) else kv) (vs.map fun kv => if kv.1 = k then (kv.1, u) else kv) := by
 unfold KV at r ⊢
 induction r with
 | nil => exact .nil
 | @cons p q ps qs h t ih =>
  rw [List.map_cons, List.map_cons]
  refine .cons ?_ ih
  obtain ⟨h1, h2⟩ := h
  by_cases e : p.1 = k
  ·rw [if_pos e, if_pos (h1.symm.trans e)]; exact ⟨h1, ry⟩
  ·rw [if_neg e, if_neg (fun z => e (h1.trans z))]; exact ⟨h1, h2⟩
theorem KV.put {kvs : List (κ × V)} {vs : List (κ × Value)} (r : KV kvs vs) (k : κ) {y : V} {u : Value} (ry : RelV y u) : KV (putK kvs k y) (stored vs k u) := by
 unfold putK stored
 rw [r.any k]
 by_cases e : (vs.any fun kv => decide (kv.1 = k)) = true
 ·rw [if_pos e, if_pos e]; exact r.repl k ry
 ·rw [if_neg e, if_neg e]; exact Paired.snoc r ⟨rfl, ry⟩
theorem KV.length {kvs : List (κ × V)} {vs : List (κ × Value)} (r : KV kvs vs) : kvs.length = vs.length := Paired.length r
end
theorem kV_is {P : Program} {w : World} {k : Key} {u : Value} (r : RelV (kV k) u) : (mixKind P w).is k u = true := by
 cases k with
 | inl i => obtain ⟨t, e⟩ := (show ∃ t, u = Value.int i t from r); subst e; exact mixKind_int P w i t
 | inr x => obtain ⟨t, e⟩ := (show ∃ t, u = Value.str x t from r); subst e; exact mixKind_str P w x t
theorem items_are {P : Program} {w : World} : ∀ {ks : List Key} {us : List Value}, Vals (ks.map kV) us → ItemsAre (mixKind P w) ks us
 | [], _, r => by rw [List.map_nil] at r; cases r; exact .nil
 | k :: ks, _, r => by
  rw [List.map_cons] at r
  cases r with
  | cons h t => exact .cons (kV_is h) (items_are t)
noncomputable abbrev KT (H : Hp) : List (List Key × V) → List (List Key × Addr × Value) → Prop := Paired fun p q => p.1 = q.1 ∧ H q.2.1 = some (.tup (p.1.map kV)) ∧ RelV p.2 q.2.2
theorem KT.val {H : Hp} {kvs : List (List Key × V)} {xs : List (List Key × Addr × Value)} (r : KT H kvs xs) (k : List Key) : RelO (valV kvs k) ((atKey xs k).map (·.2)) := by
 induction r with
 | nil => exact True.intro
 | @cons p q ps qs h t ih =>
  obtain ⟨h1, _, h2⟩ := h
  by_cases e : p.1 = k
  ·have e' : q.1 = k := h1.symm.trans e
   have b : atKey (q :: qs) k = some q.2 := by simp [atKey, List.find?_cons, e']
   rw [valV_pos e, b]; exact h2
  ·have e' : ¬ q.1 = k := fun z => e (h1.trans z)
   have b : atKey (q :: qs) k = atKey qs k := by simp [atKey, List.find?_cons, e']
   rw [valV_neg e, b]; exact ih
theorem KT.repl {H : Hp} {kvs : List (List Key × V)} {xs : List (List Key × Addr × Value)} (r : KT H kvs xs) (k : List Key) {y : V} {u : Value} (ry : RelV y u) :
  KT H (kvs.map fun kv => if kv.1 = k then (kv.1, y) else kv) (xs.map (putAt k u)) := by
 induction r with
 | nil => exact .nil
 | @cons p q ps qs h t ih =>
  rw [List.map_cons, List.map_cons]
  refine .cons ?_ ih
  obtain ⟨h1, h2, h3⟩ := h
  unfold putAt
  by_cases e : p.1 = k
  ·rw [if_pos e, if_pos (h1.symm.trans e)]; exact ⟨h1, h2, ry⟩
  ·rw [if_neg e, if_neg (fun z => e (h1.trans z))]; exact ⟨h1, h2, h3⟩
theorem KT.put {H : Hp} {kvs : List (List Key × V)} {xs : List (List Key × Addr × Value)} (r : KT H kvs xs) (k : List Key) {b : Addr} {y : V} {u : Value} (hb : H b = some (.tup (k.map kV))) (ry : RelV y u) :
  KT H (putK kvs k y) (storedH xs k b u) := by
 have e : (kvs.any fun kv => decide (kv.1 = k)) = (atKey xs k).isSome := by
  rw [valV_any, (r.val k).isSome_eq, Option.isSome_map]
 unfold putK storedH
 rw [e]
 by_cases q : (atKey xs k).isSome = true
 ·rw [if_pos q, if_pos q]; exact r.repl k ry
 ·rw [if_neg q, if_neg q]; exact Paired.snoc r ⟨rfl, hb, ry⟩
theorem KT.keeps {H H' : Hp} {kvs : List (List Key × V)} {xs : List (List Key × Addr × Value)} (r : KT H kvs xs) (ht : ∀ b ys, H b = some (.tup ys) → H' b = some (.tup ys)) : KT H' kvs xs :=
 Paired.mapP r fun _ _ z => ⟨z.1, ht _ _ z.2.1, z.2.2⟩
section
variable {P : Program} {w : World} {H : Hp} {h : Heap} {a : Addr}
theorem rd_of {u : HO} (ok : HOk P w H h) (e : Rd H a u) : ObjOk P w H h a u := e.ok ok
theorem dk_rd {kvs : List (Key × V)} (ok : HOk P w H h) (e : Rd H a (.dK kvs)) : kvs.length ≤ sizeLine ∧ (a == sysModules) = false ∧ ∃ vs, KV kvs vs ∧ h.DictOf (mixKind P w) a vs :=
 show ObjOk P w H h a (.dK kvs) from rd_of ok e
theorem dk_of {kvs : List (Key × V)} (ok : HOk P w H h) (e : H a = some (.dK kvs)) : kvs.length ≤ sizeLine ∧ (a == sysModules) = false ∧ ∃ vs, KV kvs vs ∧ h.DictOf (mixKind P w) a vs := dk_rd ok (.inl e)
theorem key_of {ks : List Key} (ok : HOk P w H h) (e : H a = some (.tup (ks.map kV))) : (tupleKind (mixKind P w)).is h ks a := by
 obtain ⟨_, its, r, o, h1, h2, n, h3⟩ := (show ObjOk P w H h a (.tup (ks.map kV)) from ok a _ e)
 exact ⟨o, its.toArray, n, h1, h2, h3, by simpa using items_are r⟩
theorem dt_rd {kvs : List (List Key × V)} (ok : HOk P w H h) (e : Rd H a (.dT kvs)) : kvs.length ≤ sizeLine ∧ (a == sysModules) = false ∧
  ∃ xs, KT H kvs xs ∧ h.DictOfH (tupleKind (mixKind P w)) a xs := by
 obtain ⟨z, y, xs, r, o, es, ep, h1, h2, h3, h4, h5⟩ := (show ObjOk P w H h a (.dT kvs) from rd_of ok e)
 refine ⟨z, y, xs, r, o, es, ep, h1, h2, h3, h4, fun x hx => ?_, h5⟩
 have all : ∀ {l : List (List Key × V)} {m : List (List Key × Addr × Value)}, KT H l m → ∀ x ∈ m, (tupleKind (mixKind P w)).is h x.1 x.2.1 := by
  intro l m q
  induction q with
  | nil => intro x hx; exact nomatch hx
  | @cons p q ps qs hq t ih =>
   intro x hx
   rcases List.mem_cons.mp hx with e | hx
   ·subst e
    exact key_of ok (by rw [← hq.1]; exact hq.2.1)
   ·exact ih x hx
 exact all r x hx
theorem dt_of {kvs : List (List Key × V)} (ok : HOk P w H h) (e : H a = some (.dT kvs)) : kvs.length ≤ sizeLine ∧ (a == sysModules) = false ∧
  ∃ xs, KT H kvs xs ∧ h.DictOfH (tupleKind (mixKind P w)) a xs := dt_rd ok (.inl e)
end
noncomputable def DGet (H : Hp) (a : Addr) (y : V) (r : Option V) : Prop :=
 (∃ kvs k, Rd H a (.dK kvs) ∧ y = kV k ∧ r = valV kvs k) ∨ ∃ kvs k b, Rd H a (.dT kvs) ∧ y = .ref b ∧ H b = some (.tup (k.map kV)) ∧ r = valV kvs k
noncomputable def DPut (H : Hp) (a : Addr) (y v : V) (H' : Hp) : Prop :=
 (∃ kvs k, H a = some (.dK kvs) ∧ y = kV k ∧ kvs.length < sizeLine ∧ H' = upd H a (.dK (putK kvs k v))) ∨
 ∃ kvs k b, H a = some (.dT kvs) ∧ y = .ref b ∧ H b = some (.tup (k.map kV)) ∧ kvs.length < sizeLine ∧ H' = upd H a (.dT (putK kvs k v))
theorem DGet.k {H : Hp} {a : Addr} {kvs : List (Key × V)} {k : Key} (e : H a = some (.dK kvs)) : DGet H a (kV k) (valV kvs k) := .inl ⟨kvs, k, .inl e, rfl, rfl⟩
theorem DGet.t {H : Hp} {a b : Addr} {kvs : List (List Key × V)} {k : List Key} (e : H a = some (.dT kvs)) (eb : H b = some (.tup (k.map kV))) : DGet H a (.ref b) (valV kvs k) := .inr ⟨kvs, k, b, .inl e, rfl, eb, rfl⟩
theorem DPut.k {H : Hp} {a : Addr} {kvs : List (Key × V)} {k : Key} {v : V} (e : H a = some (.dK kvs)) (hl : kvs.length < sizeLine) : DPut H a (kV k) v (upd H a (.dK (putK kvs k v))) := .inl ⟨kvs, k, e, rfl, hl, rfl⟩
theorem DPut.t {H : Hp} {a b : Addr} {kvs : List (List Key × V)} {k : List Key} {v : V} (e : H a = some (.dT kvs)) (eb : H b = some (.tup (k.map kV))) (hl : kvs.length < sizeLine) :
  DPut H a (.ref b) v (upd H a (.dT (putK kvs k v))) := .inr ⟨kvs, k, b, e, rfl, eb, hl, rfl⟩
section
variable {X : Cx} {pins : List (Addr × Obj)} {σ : St} {H : Hp} {s : Shared} {a : Addr} {y v : V} {u r : Value} {o : Option V} {A : Around} {E : Value → Shared → Prop}
theorem Inv.big (I : Inv X pins σ H s) : sysModules < s.heap.objs.size := by
 have h : mainGlobals < s.heap.objs.size := (I.mod.glob.keeps I.bk).lt
 exact Nat.lt_trans (by decide) h
theorem d_getItem {Q : Value → Shared → Prop} (hu : A.units + 1 < cLine) (I : Inv X pins σ H s) (g : DGet H a y (some v)) (ry : RelV y u) (h : ∀ w' s', Inv X pins σ H s' → RelV v w' → Q w' s') :
  wpAny (model X.prog X.w) A (getItem (.ref a) u) Q E s := by
 rcases g with ⟨kvs, k, e, ey, l⟩ | ⟨kvs, k, b, e, ey, eb, l⟩
 ·subst ey
  obtain ⟨z, hd, vs, rel, dd⟩ := dk_rd I.hok e
  obtain ⟨w', hw, rw'⟩ := RelO.some_of (v := v) (o := valueAt vs k) (by rw [l]; exact rel.val k)
  exact wpAny_getItem_of (kV_is ry) dd.mapOf hw (h w' _ (I.tok _) rw')
 ·subst ey
  cases (show u = Value.ref b from ry)
  obtain ⟨z, hd, xs, rel, dd⟩ := dt_rd I.hok e
  obtain ⟨w', hw, rw'⟩ := RelO.some_of (v := v) (o := (atKey xs k).map (·.2)) (by rw [l]; exact rel.val k)
  obtain ⟨p, hp, hp2⟩ := Option.map_eq_some_iff.mp hw
  refine wpAny_getItem_heap (tupleKind_room_in1 hu) (key_of I.hok eb) dd hp ?_
  rw [hp2]
  exact h w' _ (I.tok _) rw'
theorem d_notIn {Q : Value → Shared → Prop} (hu : A.units + 1 < cLine) (I : Inv X pins σ H s) (g : DGet H a y o) (ry : RelV y u) (h : ∀ s', Inv X pins σ H s' → Q (.bool (!o.isSome)) s') :
  wpAny (model X.prog X.w) A (compareOp .NotIn u (.ref a)) Q E s := by
 rcases g with ⟨kvs, k, e, ey, l⟩ | ⟨kvs, k, b, e, ey, eb, l⟩
 ·subst ey
  obtain ⟨z, hd, vs, rel, dd⟩ := dk_rd I.hok e
  refine wpAny_notIn_of (kV_is ry) hd dd.mapOf ?_
  rw [← (rel.val k).isSome_eq, ← l]
  exact h _ (I.tok _)
 ·subst ey
  cases (show u = Value.ref b from ry)
  obtain ⟨z, hd, xs, rel, dd⟩ := dt_rd I.hok e
  refine wpAny_notIn_heap (tupleKind_room_in1 hu) (key_of I.hok eb) hd dd ?_
  have q := (rel.val k).isSome_eq
  rw [Option.isSome_map] at q
  rw [← q, ← l]
  exact h _ (I.tok _)
theorem d_write {h' : Heap} {t' : Nat} {ob : HO} (I : Inv X pins σ H s) (mu : Mut (H a)) (hs : Heap.SameBut a s.heap h') (he : ∃ q, h'.get? a = some q) (new : ObjOk X.prog X.w (upd H a ob) h' a ob) :
  Inv X pins σ (upd H a ob) { s with heap := h', toks := t' } :=
 I.write (x := a) (e := a) mu (.inl rfl) (fun b q hb z => (hs.2 b hb).trans z) he new
theorem dk_new {P : Program} {w : World} {H' : Hp} {h' : Heap} {kvs : List (Key × V)} {vs : List (Key × Value)} (z : kvs.length ≤ sizeLine) (hd : (a == sysModules) = false) (rel : KV kvs vs) (dd : h'.DictOf (mixKind P w) a vs) :
  ObjOk P w H' h' a (.dK kvs) := ⟨z, hd, vs, rel, dd⟩
theorem d_setItem {H' : Hp} {Q : Unit → Shared → Prop} (hu : A.units + 1 < cLine) (I : Inv X pins σ H s) (g : DPut H a y v H') (ry : RelV y u) (rv : RelV v r) (h : ∀ s', Inv X pins σ H' s' → Q () s') :
  wpAny (model X.prog X.w) A (setItem (.ref a) u r) Q E s := by
 rcases g with ⟨kvs, k, e, ey, l, eH⟩ | ⟨kvs, k, b, e, ey, eb, l, eH⟩
 ·subst ey eH
  obtain ⟨z, hd, vs, rel, dd⟩ := dk_of I.hok e
  have hz : vs.length ≤ sizeLine := by rw [← rel.length]; exact z
  have hl : (putK kvs k v).length ≤ sizeLine := by have := length_putK kvs k v; omega
  refine wpAny_setItem_pairs (hsz := hz) (kV_is ry) dd fun h' dd' hs => h _ ?_
  have he : ∃ q, h'.get? a = some q := let ⟨q, _, _, hq, _⟩ := dd'; ⟨q, hq⟩
  exact d_write I (by rw [e]; exact True.intro) hs he (dk_new hl hd (rel.put k rv) dd')
 ·subst ey eH
  cases (show u = Value.ref b from ry)
  obtain ⟨z, hd, xs, rel, dd⟩ := dt_of I.hok e
  have hz : xs.length ≤ sizeLine := by rw [← Paired.length rel]; exact z
  have hl : (putK kvs k v).length ≤ sizeLine := by have := length_putK kvs k v; omega
  refine wpAny_setItem_heap (hsz := hz) (tupleKind_room_in1 hu) (key_of I.hok eb) dd fun h' dd' hs => h _ ?_
  obtain ⟨q, es, ep, hq, h2, h3, h4, _, h5⟩ := dd'
  refine d_write I (by rw [e]; exact True.intro) hs ⟨q, hq⟩ ⟨hl, hd, _, (rel.put k eb rv).keeps fun c ys ec => ?_, q, es, ep, hq, h2, h3, h4, h5⟩
  rw [upd_ne (ne_of ec e (fun z => nomatch z))]
  exact ec
end
noncomputable def NoSl (i : Expr) : Prop := ∀ ov iv, subscripted i false ov iv = operate [ov, iv] (getItem ov iv)
theorem subD_of {prog : Program} {w : World} {A : Around} {E : Value → Shared → Prop} {s : Shared} {env : Env} {value slice : Expr} {pos : Pos} {T id : String} {Q : Value → Shared → Prop}
  (hl : typeLookup (.type T) "__getitem__" = pure (some (.builtin id))) (hs : NoSl slice)
  (h : wpAny (model prog w) A (eval value env) (fun o s₁ => wpAny (model prog w) A (eval slice env) (fun i s₂ => s₂.TypeIs o T ∧ wpAny (model prog w) A (getItem o i) Q E s₂) E s₁) E s) :
  wpAny (model prog w) A (eval (.Subscript value slice pos) env) Q E s := by
 refine Subscript_ (wpAny_mono h (fun o s₁ h₁ => wpAny_mono h₁ (fun i s₂ h₂ => ?_) fun _ _ x => x) fun _ _ x => x)
 obtain ⟨hT, h₂⟩ := h₂
 unfold subscriptTail
 refine wpAny_bind ?_
 rw [getitemInPython_of_ne hT.not_modules]
 refine wpAny_bind (wpAny_specialOf hT hl ?_)
 have fin : wpAny (model prog w) A (subscripted slice false o i) (fun r s₃ => wpAny (model prog w) A (letTemporaryGo value o r >>= fun _ => pure r) Q E s₃) E s₂ := by
  rw [hs o i]
  exact wpAny_operating (wpAny_mono h₂ (fun r s₃ h₃ => wpAny_bind (wpAny_letTemporaryGo (wpAny_pure h₃))) fun _ _ x => x)
 first
  | exact wpAny_pure (wpAny_bind fin)
  | exact wpAny_bind (wpAny_pure (wpAny_bind fin))
  | exact wpAny_bind fin
theorem dict_typeIs {X : Cx} {pins : List (Addr × Obj)} {σ : St} {H : Hp} {s : Shared} {a : Addr} {y : V} {o : Option V} (I : Inv X pins σ H s) (g : DGet H a y o) : s.TypeIs (.ref a) "dict" := by
 rcases g with ⟨kvs, k, e, _, _⟩ | ⟨kvs, k, b, e, _, _, _⟩
 ·obtain ⟨_, _, vs, _, dd⟩ := dk_rd I.hok e
  exact dd.typeIs
 ·obtain ⟨_, _, xs, _, dd⟩ := dt_rd I.hok e
  exact dd.typeIs
noncomputable def tDGet (td ty : TE) : TE := fun σ H Q => td σ H fun x H1 => ty σ H1 fun y H2 => ∃ a v, x = .ref a ∧ DGet H2 a y (some v) ∧ Q v H2
noncomputable def tDNotIn (ty td : TE) : TE := fun σ H Q => ty σ H fun y H1 => td σ H1 fun x H2 => ∃ a o, x = .ref a ∧ DGet H2 a y o ∧ Q (.bl (!o.isSome)) H2
noncomputable def sDPut (td ty tv : TE) : TS := fun D σ H => tv σ H fun v H1 => td σ H1 fun x H2 => ty σ H2 fun y H3 => ∃ a H4, x = .ref a ∧ DPut H3 a y v H4 ∧ D.nx σ H4
section
variable {X : Cx} {o i e value : Expr} {pos pos' tpos : Pos} {td ty tv : TE}
theorem pe_dget (hu : X.A.units + 1 < cLine) (ho : PE X o td) (hi : PE X i ty) (hs : NoSl i) : PE X (.Subscript o i pos) (tDGet td ty) := by
 intro pins s σ H Q I h
 refine subD_of PySem.F.slot_dict_getitem.lookup hs (thn (ho pins s σ H _ I h) fun u s1 ⟨x, H1, I1, rx, q1⟩ => thn (hi pins s1 σ H1 _ I1 q1) fun iv s2 ⟨y, H2, I2, ry, a, v, ex, g, q2⟩ => ?_)
 subst ex
 obtain rfl : u = Value.ref a := rx
 exact ⟨dict_typeIs I2 g, d_getItem hu I2 g ry fun w' s3 I3 rw' => ⟨v, H2, I3, rw', q2⟩⟩
theorem pc_dnotin (hu : X.A.units + 1 < cLine) (hi : PE X i ty) (ho : PE X o td) : PC X .NotIn i o (tDNotIn ty td) := by
 intro pins s σ H Q I h
 refine thn (hi pins s σ H _ I h) fun iv s1 ⟨y, H1, I1, ry, q1⟩ => thn (ho pins s1 σ H1 _ I1 q1) fun u s2 ⟨x, H2, I2, rx, a, ov, ex, g, q2⟩ => ?_
 subst ex
 obtain rfl : u = Value.ref a := rx
 exact d_notIn hu I2 g ry fun s3 I3 => ⟨.bl (!ov.isSome), H2, I3, rfl, q2⟩
theorem ps_dput (hu : X.A.units + 1 < cLine) (ho : PE X o td) (hi : PE X i ty) (hv : PE X value tv) (hs : swapsWith value (some (.Subscript o i pos')) pos.line X.env = pure false) :
  PS X (.Assign [.Subscript o i pos'] value pos) (sDPut td ty tv) := by
 intro pins s σ H D I h
 refine wpAny_Assign_Subscript (thn (hv pins s σ H _ I h) fun r s1 ⟨v, H1, I1, rv, q1⟩ => thn (ho pins s1 σ H1 _ I1 q1) fun u s2 ⟨x, H2, I2, rx, q2⟩ => thn (hi pins s2 σ H2 _ I2 q2) fun iv s3 ⟨y, H3, I3, ry, a, H4, ex, g, q3⟩ => ?_) hs
 subst ex
 obtain rfl : u = Value.ref a := rx
 exact d_setItem hu I3 g ry rv fun s4 I4 => ⟨σ, H4, I4, q3⟩
end
theorem dk_empty {P : Program} {w : World} {H : Hp} (h : Heap) (hb : sysModules < h.objs.size) : ObjOk P w H (h.push { cls := .type "dict", data := .dict #[] }) h.objs.size (.dK []) :=
 ⟨Nat.zero_le _, beq_eq_false_iff_ne.mpr (Ne.symm (Nat.ne_of_lt hb)), [], .nil, Heap.DictOf.new h⟩
theorem dt_empty {P : Program} {w : World} {H : Hp} (h : Heap) (hb : sysModules < h.objs.size) : ObjOk P w H (h.push { cls := .type "dict", data := .dict #[] }) h.objs.size (.dT []) :=
 ⟨Nat.zero_le _, beq_eq_false_iff_ne.mpr (Ne.symm (Nat.ne_of_lt hb)), [], .nil, _, #[], 0, Heap.get?_push_size _ rfl, ⟨rfl, rfl, rfl⟩, rfl, rfl, List.nodup_nil⟩
noncomputable def tDNewK : TE := fun _ H Q => ∀ p, H p = none → Q (.ref p) (upd H p (.dK []))
noncomputable def tDNewT : TE := fun _ H Q => ∀ p, H p = none → Q (.ref p) (upd H p (.dT []))
section
variable {X : Cx} {pos : Pos}
theorem pe_dnewK : PE X (.Dict [] [] pos) tDNewK := fun pins s σ H Q I h =>
 wpAny_Dict_empty ⟨.ref s.heap.objs.size, _, I.laid (a := s.heap.objs.size) (o := .dK []) (t' := s.toks) (fun _ _ q => Heap.get?_push_of_some _ q) (Nat.le_refl _) (dk_empty s.heap I.big), rfl, h _ (I.hok.fresh (Nat.le_refl _))⟩
theorem pe_dnewT : PE X (.Dict [] [] pos) tDNewT := fun pins s σ H Q I h =>
 wpAny_Dict_empty ⟨.ref s.heap.objs.size, _, I.laid (a := s.heap.objs.size) (o := .dT []) (t' := s.toks) (fun _ _ q => Heap.get?_push_of_some _ q) (Nat.le_refl _) (dt_empty s.heap I.big), rfl, h _ (I.hok.fresh (Nat.le_refl _))⟩
end
structure M1 (X : Cx) (o : Expr) (m : Str) (apos : Pos) (e : Expr) (cpos : Pos) : Prop where
 base : attributeBase o m X.env (eval o X.env) = eval o X.env
 few : ((backTo cpos (starEach [e] X.env)).all (fun x => !x.1) && (backToKw cpos (keywordEach [] X.env)).all (fun x => x.1.isSome)
  && decide (([e] : List Expr).length + ([] : List Keyword).length + (if ([] : List Keyword).isEmpty then 0 else 1) < 30)) = true
 line : (apos.endLine == cpos.line) = true
 trees : backTo cpos (starEach [e] X.env) = [(false, eval e X.env)]
noncomputable def IsD (H : Hp) (a : Addr) : Prop := (∃ kvs, Rd H a (.dK kvs)) ∨ ∃ kvs, Rd H a (.dT kvs)
theorem isD_at {X : Cx} {pins : List (Addr × Obj)} {σ : St} {H : Hp} {s : Shared} {a : Addr} (I : Inv X pins σ H s) (d : IsD H a) :
  s.TypeIs (.ref a) "dict" ∧ (∀ b, Value.ref a = .ref b → ∃ ob, s.heap.get? b = some ob ∧ ob.dict = none) ∧ (a == sysModules) = false := by
 rcases d with ⟨kvs, e⟩ | ⟨kvs, e⟩
 ·obtain ⟨_, hd, vs, _, dd⟩ := dk_rd I.hok e
  refine ⟨dd.typeIs, fun b q => ?_, hd⟩
  cases q
  obtain ⟨ob, _, _, h1, h2, _⟩ := dd
  exact ⟨ob, h1, h2.2.1⟩
 ·obtain ⟨_, hd, xs, _, dd⟩ := dt_rd I.hok e
  refine ⟨dd.typeIs, fun b q => ?_, hd⟩
  cases q
  obtain ⟨ob, _, _, h1, h2, _⟩ := dd
  exact ⟨ob, h1, h2.2.1⟩
section
variable {X : Cx} {pins : List (Addr × Obj)} {σ : St} {H : Hp} {s : Shared} {a : Addr} {y d : V} {u r : Value} {o : Option V} {A : Around} {E : Value → Shared → Prop}
theorem d_get1 {Q : Value → Shared → Prop} (hu : A.units + 1 < cLine) (I : Inv X pins σ H s) (g : DGet H a y o) (ry : RelV y u) (h : ∀ w' s', Inv X pins σ H s' → RelV (o.getD .non) w' → Q w' s') :
  wpAny (model X.prog X.w) A (call (.builtin "dict.get") [.ref a, u]) Q E s := by
 rcases g with ⟨kvs, k, e, ey, l⟩ | ⟨kvs, k, b, e, ey, eb, l⟩
 ·subst ey
  obtain ⟨z, hd, vs, rel, dd⟩ := dk_rd I.hok e
  refine call_meetsIn PySem.F.slot_dict_get dd.typeIs PySem.F.entry_dict_get (PySem.F.args_dict_get_2 _ _) (meets_dict_get (mixKind X.prog X.w) a (kV_is ry) hd) ⟨_, dd.mapOf, h _ _ (I.tok _) ?_⟩
  rw [l]
  exact (rel.val k).getD rfl
 ·subst ey
  cases (show u = Value.ref b from ry)
  obtain ⟨z, hd, xs, rel, dd⟩ := dt_rd I.hok e
  refine call_meetsIn PySem.F.slot_dict_get dd.typeIs PySem.F.entry_dict_get (PySem.F.args_dict_get_2 _ _) (meetsH_dict_get (tupleKind (mixKind X.prog X.w)) a b hd) ⟨tupleKind_room_in1 hu, k, xs, key_of I.hok eb, dd, h _ _ (I.tok _) ?_⟩
  rw [l]
  exact (rel.val k).getD rfl
end
noncomputable def tDGet1 (td ty : TE) : TE := fun σ H Q => td σ H fun x H1 => ∃ a, x = .ref a ∧ IsD H1 a ∧ ty σ H1 fun y H2 => ∃ o, DGet H2 a y o ∧ Q (o.getD .non) H2
section
variable {X : Cx} {o e f : Expr} {apos cpos : Pos} {td ty tx : TE}
theorem pe_dget1 (hu : X.A.units + 1 < cLine) (ho : PE X o td) (he : PE X e ty) (m : M1 X o "get" apos e cpos) : PE X (.Call (.Attribute o "get" apos) [e] [] cpos) (tDGet1 td ty) := by
 intro pins s σ H Q I h
 refine wpAny_Call_method m.base m.few m.line PySem.F.plainAttrs_dict PySem.F.slot_dict_get PySem.F.type_dict_get (thn (ho pins s σ H _ I h) fun u s1 ⟨x, H1, I1, rx, a, ex, d, q1⟩ => ?_)
 subst ex
 obtain rfl : u = Value.ref a := rx
 obtain ⟨t1, t2, _⟩ := isD_at I1 d
 refine ⟨t1, t2, ?_⟩
 rw [m.trees]
 refine Calls.callWith_builtin rfl (Calls.evalArgs_plain (Calls.spliced_cons (thn (he pins s1 σ H1 _ I1 q1) fun iv s2 ⟨y, H2, I2, ry, ov, g, q2⟩ => Calls.spliced_nil ?_)))
 exact d_get1 hu I2 g ry fun w' s3 I3 rw' => ⟨_, H2, I3, rw', q2⟩
end
end L2
namespace L2
open PySem PySem.Spec PyProof.Rows
theorem boot_reversed5 : bootBuiltins "reversed" = some (.type "reversed") := by decide +kernel
section
variable {X : Cx}
theorem pi_one {tg : Expr} {pins : List (Addr × Obj)} {σ : St} {H : Hp} {s : Shared} {R : It → Hp → Prop} {J : It} {tn : Nat → Heap → Prop} {tk : Nat} (I : Inv X pins σ H s) (o : Obj)
  (T : Turn X.prog X.w X.K tg J [s.heap.objs.size] s.heap.objs.size tn) (st : tn 0 (s.heap.push o)) (q : R J H) : PIE X pins σ tg R (.ref s.heap.objs.size) { s with heap := s.heap.push o, toks := tk } := by
 refine ⟨s.heap.objs.size, [s.heap.objs.size], tn, J, H, rfl, I.kept fun b ob e => Heap.get?_push_of_some _ e, T, st, fun b hb => ?_, q⟩
 have e : b = s.heap.objs.size := by simpa using hb
 subst e
 exact I.fpOk (Nat.le_refl _) (I.hok.fresh (Nat.le_refl _))
end
noncomputable def Itv (K : PySem.W.Frag) (a : Addr) (n : Nat) : It :=
 ⟨fun i H => i < n ∧ ∃ (xs : List V) (x : V), SqL K H a xs ∧ xs[n - 1 - i]? = some x, fun i H x H' => H' = H ∧ ∀ xs, SqL K H a xs → xs[n - 1 - i]? = some x, fun i _ => n ≤ i⟩
theorem turn_rev {P : Program} {w : World} {K : PySem.W.Frag} {tg : Expr} (a it : Addr) (n : Nat) : Turn P w K tg (Itv K a n) [it] it (fun i h => i ≤ n ∧ h.IsRevIter it a ((n : Int) - 1 - (i : Nat))) where
 mem := by simp
 obj := fun i h st b hb => by
  have e : b = it := by simpa using hb
  subst e
  obtain ⟨_, o, e, c, d⟩ := st
  exact ⟨o, e, fun v z => by rw [d] at z; cases z⟩
 keep := fun i h h' st k => ⟨st.1, st.2.at fun o e => k it (by simp) o e⟩
 item := by
  intro X hP hw hK hc i pins s σ H E I hf st hg
  subst hP hw hK
  obtain ⟨hin, xs, x, hq, hx⟩ := hg
  obtain ⟨its, rv, p, hz⟩ := I.list hq
  obtain ⟨u, hu, ru⟩ := rv.get hx
  obtain ⟨f0, f1, f2, f3, f4, f5⟩ := hf it (by simp)
  obtain ⟨_, hit⟩ := st
  have e1 : (n : Int) - 1 - ((i : Nat) : Int) = ((n - 1 - i : Nat) : Int) := by omega
  rw [e1] at hit
  refine wpAny_pyNext_rev_item hit p.isList (x := u) (by simpa using hu) fun h' st' sb => ?_
  have e2 : ((n - 1 - i : Nat) : Int) - 1 = (n : Int) - 1 - ((i + 1 : Nat) : Int) := by omega
  rw [e2] at st'
  have I1 : Inv X pins σ H { s with heap := h' } := I.turned (t' := s.toks) (fun b o hb e => (sb.2 b hb).trans e) f0 f1 f3 f4 f5
  obtain ⟨o, e, c, d⟩ := id st'
  exact ⟨u, rfl, go_of (s := { s with heap := h' }) e c d (by decide) ⟨x, H, I1, ru, ⟨rfl, fun ys hy => by rw [I.list_inj hy hq]; exact hx⟩, ⟨hin, st'⟩, fun b hb => (hf b hb).1⟩⟩
 done := by
  intro X hP hw hK hc i pins s σ H E I hf st hg
  subst hP hw hK
  obtain ⟨f0, f1, f2, f3, f4, f5⟩ := hf it (by simp)
  obtain ⟨hin, hit⟩ := st
  have hge : n ≤ i := hg
  have e1 : (n : Int) - 1 - ((i : Nat) : Int) = -1 := by omega
  rw [e1] at hit
  exact wpAny_pyNext_rev_end (I.ok.hd hc) hit fun h' eb => ⟨rfl, I.turned (t' := s.toks) (fun b o hb e => eb b o hb e) f0 f1 f3 f4 f5⟩
 self := fun A i s Q E st h => wpAny_pyIter_revIter st.2 h
noncomputable def iRev (K : PySem.W.Frag) (ta : TA) : TI := fun σ H R => ta σ H fun vs H1 => ∃ (a : Addr) (xs : List V), vs = [.ref a] ∧ SqL K H1 a xs ∧ R (Itv K a xs.length) H1
section
variable {X : Cx} {tg : Expr}
theorem pi_reversed {e : Expr} {ta : TA} {p pos : Pos} (hg : Gl X "reversed") (hm : X.mg "reversed" = none) (ha : PA X [e] ta) (hs : starEach [e] X.env = [(false, eval e X.env)] := by rfl) : PI X tg (.Call (.Name "reversed" p) [e] [] pos) (iRev X.K ta) := by
 intro pins s σ H R I h
 refine Call_ (ld_blt I hg hm boot_reversed5 (PyProof.Rows.callWith_type1 (thn (ha pos pins s σ H _ I h) fun us s1 ⟨vs, H1, I1, r1, q1⟩ => ?_) hs rfl))
 obtain ⟨a, xs, e, hq, q⟩ := q1
 subst e
 cases r1 with
 | cons r rr =>
  cases rr
  cases r
  obtain ⟨its, rv, p', hz⟩ := I1.list hq
  have hl := rv.length
  have e1 : ((its.toArray.size : Nat) : Int) - 1 = (xs.length : Int) - 1 - ((0 : Nat) : Int) := by simp only [List.size_toArray]; omega
  refine call_reversed_list p'.isList (wpAny_pyIter_revIter (l := a) (i := ((its.toArray.size : Nat) : Int) - 1) ⟨_, Heap.get?_push_size _ rfl, rfl, rfl⟩ ?_)
  refine pi_one (tk := s1.toks) I1 _ (turn_rev a _ xs.length) ⟨Nat.zero_le _, ?_⟩ q
  rw [← e1]
  exact ⟨_, Heap.get?_push_size _ rfl, rfl, rfl⟩
end
noncomputable def Its (x : Str) : It := ⟨fun i _ => i < x.cps.size, fun i H v H' => H' = H ∧ ∃ c, x.cps[i]? = some c ∧ v = .str ⟨#[c]⟩, fun i _ => x.cps.size ≤ i⟩
theorem turn_str {P : Program} {w : World} {K : PySem.W.Frag} {tg : Expr} (it : Addr) (x : Str) (t : Tok) (ty : String) (hty : ty = "str_ascii_iterator" ∨ ty = "str_iterator") :
  Turn P w K tg (Its x) [it] it (fun i h => h.IsStrIter it ty x t i) where
 mem := by simp
 obj := fun i h st b hb => by
  have e : b = it := by simpa using hb
  subst e
  obtain ⟨o, e, c, d⟩ := st
  exact ⟨o, e, fun v z => by rw [d] at z; cases z⟩
 keep := fun i h h' st k => let ⟨o, ho, r⟩ := st; ⟨o, k it (by simp) o ho, r⟩
 item := by
  intro X hP hw hK hc i pins s σ H E I hf st hg
  subst hP hw hK
  obtain ⟨f0, f1, f2, f3, f4, f5⟩ := hf it (by simp)
  have W : Walks X.prog X.w X.A it [it] [it] x.cps.size (SignAt x) (fun i h => h.IsStrIter it ty x t i) := by
   rcases hty with e | e
   ·rw [e]; exact Walks.strAscii (I.ok.hd hc) it x t
   ·rw [e]; exact Walks.strWide (I.ok.hd hc) it x t
  have hno : ["enumerate", "zip", "dict_itemiterator", "dict_reverseitemiterator", "odict_iterator", "itertools.zip_longest", "itertools.pairwise"].contains ty = false := by
   rcases hty with e | e
   ·rw [e]; decide
   ·rw [e]; decide
  refine W.item i s _ _ hg st fun v h' tk hv st' kk => ?_
  obtain ⟨c, u, hcx, rfl⟩ := hv
  have I1 : Inv X pins σ H { s with heap := h', toks := tk } := I.turned (fun b o hb e => kk b o (by simpa using hb) e) f0 f1 f3 f4 f5
  obtain ⟨oi, e, cc, dd⟩ := id st'
  exact ⟨_, rfl, go_of (s := { s with heap := h', toks := tk }) e cc dd hno ⟨.str ⟨#[c]⟩, H, I1, ⟨u, rfl⟩, ⟨rfl, c, hcx, rfl⟩, st', fun b hb => (hf b hb).1⟩⟩
 done := by
  intro X hP hw hK hc i pins s σ H E I hf st hg
  subst hP hw hK
  obtain ⟨f0, f1, f2, f3, f4, f5⟩ := hf it (by simp)
  have hx : x.cps[i]? = none := Array.getElem?_eq_none hg
  rcases hty with e | e
  ·rw [e] at st
   exact wpAny_pyNext_ascii_end (I.ok.hd hc) st hx fun h' eb => ⟨rfl, I.turned (t' := s.toks) (fun b o hb e => eb b o hb e) f0 f1 f3 f4 f5⟩
  ·rw [e] at st
   exact wpAny_pyNext_wide_end (I.ok.hd hc) st hx fun h' eb => ⟨rfl, I.turned (t' := s.toks) (fun b o hb e => eb b o hb e) f0 f1 f3 f4 f5⟩
 self := fun A i s Q E st h => by
  rcases hty with e | e
  ·rw [e] at st; exact wpAny_pyIter_striter_ascii st h
  ·rw [e] at st; exact wpAny_pyIter_striter_wide st h
noncomputable def iStr (te : TE) : TI := fun σ H R => te σ H fun v H1 => ∃ x, v = .str x ∧ R (Its x) H1
theorem pi_str {X : Cx} {tg e : Expr} {te : TE} (he : PE X e te) : PI X tg e (iStr te) := by
 intro pins s σ H R I h
 refine thn (he pins s σ H _ I h) fun v s1 ⟨y, H1, I1, r1, x, ex, q⟩ => ?_
 subst ex
 obtain ⟨t, rfl⟩ := r1
 cases ha : x.cps.all (· < 128)
 ·exact wpAny_pyIter_wide ha (pi_one (tk := s1.toks) I1 _ (turn_str _ x t "str_iterator" (.inr rfl)) ⟨_, Heap.get?_push_size _ rfl, rfl, rfl⟩ q)
 ·exact wpAny_pyIter_ascii ha (pi_one (tk := s1.toks) I1 _ (turn_str _ x t "str_ascii_iterator" (.inl rfl)) ⟨_, Heap.get?_push_size _ rfl, rfl, rfl⟩ q)
end L2
section
namespace TL
open PySem PySem.Builtin PySem.Builtin.Str PySem.StrLaws
noncomputable abbrev tl (x : Str) : List Nat := x.cps.toList
theorem len_tl (x : Str) : x.length = (tl x).length := by simp [tl, Str.length]
theorem tl_append (x y : Str) : tl (x ++ y) = tl x ++ tl y := by
 show (x ++ y).cps.toList = _
 rw [Str.cps_append, Array.toList_append]
noncomputable def numL (n : Nat) : List Nat := (Nat.toDigits 10 n).map Char.toNat
theorem tl_num (n : Nat) : tl (Str.ofString (toString ((n : Nat) : Int))) = numL n := PySem.W.KIN.signs_num n
theorem numL_len {n k : Nat} (hk : 0 < k) (h : n < 10 ^ k) : (numL n).length ≤ k := by
 have z := PyProof.Rows.toString_length_le (v := (n : Int)) (by omega) hk (by
  have e : ((10 : Int) ^ k) = ((10 ^ k : Nat) : Int) := by
   first
    | exact (Int.natCast_pow 10 k).symm
    | simp
  rw [e]
  first | exact Int.ofNat_lt.mpr h | omega)
 rw [len_tl, tl_num] at z
 exact z
end TL
end
/- THE LAST THEOREM (shape; LID, My.* are yours):
   My.Adr: a structure of the addresses that your layer names (classes, functions); My.Txt K t: a structure (Prop) of the equations over K;
   My.txt_mk : {K} {implicit addresses ..} (e1 : nsIn K mainGlobals "law" = some (some (.ref f))) (e2 : K.lookup f = some ⟨oc, od, .func (fnOf "law" "law" params body scope dV kV doc pm an cdv ct), sl⟩) (e3 : codeIn K cdv "law" = true) .. : ∃ t, My.Txt K t
set_option maxRecDepth 100000 in
set_option maxHeartbeats 0 in
theorem PySem.Challenge.cw_LID_holds : PySem.Challenge.rw_LID.Holds := by
 w_on; o_law; k_head; (case hw => w_witness2)
 k_fill
 refine L2.walk_of (l := PySem.Challenge.rw_LID) (n := 63) (k := 40) (x := "script") (CX := fun w => ..) (sp := fun _ => My.sp_law) rfl (by decide) rfl ⟨rfl, by decide, by decide⟩ (fun w h Y => PySem.W.kIn_of Y) ?F ?S ?C
 case F =>
  intro w mg fa h KX G hmg
  have T : ∃ t, My.Txt (L2.KOf KX) t := by
   dsimp only [L2.KOf]                          -- K must stand as «<heap const> w.params» for k_is
   refine' My.txt_mk ?e1 ?e2 ?e3 ..
   (case e1 => PySem.W.k_is)                    -- in the order: a name -> its address -> its object -> its parts
   (case e2 => PySem.W.k_is)
   ..
  obtain ⟨t, T⟩ := T
  have e0 := hmg.symm.trans (PySem.W.mg_of KX G T.law)
  cases e0                                       -- fa is the law's own address
  exact ⟨_, fun s u => .of_eq rfl, fun base kb nb => My.law_fn T kb nb⟩     -- if «.of_eq rfl» comes too early: refine' ⟨_, ?b, fun base kb nb => My.law_fn T kb nb⟩; exact fun s u => .of_eq rfl
 case S => exact fun w H a ns hl hO hS => ..
 case C => exact ..
(the tactic k_is has no namespace: write k_is) -/
namespace L2
open PySem PySem.Spec PyProof.Rows
noncomputable def inClass (s : Stmt) (j : Nat) : Stmt := match s with
 | .ClassDef _ _ _ body _ _ _ _ _ _ _ => body.getD j (.Pass ⟨0, 0, 0, 0⟩)
 | _ => .Pass ⟨0, 0, 0, 0⟩
noncomputable def defArgs (s : Stmt) : Arguments := match s with
 | .FunctionDef _ a _ _ _ _ _ _ _ _ => a
 | _ => { posonlyargs := [], args := [], vararg := none, kwonlyargs := [], kw_defaults := [], kwarg := none, defaults := [] }
noncomputable def defBody (s : Stmt) : List Stmt := match s with
 | .FunctionDef _ _ b _ _ _ _ _ _ _ => b
 | _ => []
noncomputable def defScope (s : Stmt) : Scope := match s with
 | .FunctionDef _ _ _ _ _ _ sc _ _ _ => sc
 | _ => { kind := .function, names := [], isGenerator := false, isCoroutine := false }
structure Fun (K : PySem.W.Frag) (x qual : Str) (st : Stmt) (f : Addr) (fd : FuncData) : Prop where
 ex : ∃ (oc : Value) (od : Option Addr) (kV doc pm : Value) (an : Option Addr) (cdv ct : Value) (osl : Array (Option Value)),
  fd = PySem.W.fnOf x qual (defArgs st) (defBody st) (defScope st) .none kV doc pm an cdv ct ∧ K.lookup f = some ⟨oc, od, .func fd, osl⟩ ∧ PySem.W.codeIn K cdv qual = true
 kp : PySem.W.keepIn K (.ref f) = true
section
variable {P : Program} {w : World} {K : PySem.W.Frag} {mg : Str → Option Value} {base : Heap}
theorem Fun.binds {x qual : Str} {st : Stmt} {f : Addr} {fd : FuncData} {ps : List Str} (F : Fun K x qual st f fd)
  (h : ∀ (kV doc pm : Value) (an : Option Addr) (cdv ct : Value) (us : List Value), us.length = ps.length → bindArgs (PySem.W.fnOf x qual (defArgs st) (defBody st) (defScope st) .none kV doc pm an cdv ct) ⟨us, []⟩ = pure (ps.zip us)) : Binds K fd ps [] := by
 obtain ⟨oc, od, kV, doc, pm, an, cdv, ct, osl, rfl, lk, hcd⟩ := F.ex
 exact .all (h kV doc pm an cdv ct)
theorem fun_mk {x qual : Str} {st : Stmt} {f : Addr} {oc : Value} {od an : Option Addr} {osl : Array (Option Value)} {kV doc pm cdv ct : Value} (l : K.lookup f = some ⟨oc, od, .func (PySem.W.fnOf x qual (defArgs st) (defBody st) (defScope st) .none kV doc pm an cdv ct), osl⟩)
  (c : PySem.W.codeIn K cdv qual = true) (k : PySem.W.keepIn K (.ref f) = true) : Fun K x qual st f (PySem.W.fnOf x qual (defArgs st) (defBody st) (defScope st) .none kV doc pm an cdv ct) := ⟨⟨oc, od, kV, doc, pm, an, cdv, ct, osl, rfl, l, c⟩, k⟩
end
theorem hu_of {A : Around} {k : Nat} (hr : Room k A) : A.units + 1 < cLine := Nat.lt_of_le_of_lt (Nat.add_le_add_left (by decide : 1 ≤ 64) _) hr.units
theorem small1000 {n : Nat} (h : n ≤ 1000) : n < sizeLine := Nat.lt_of_le_of_lt h (by decide)
section
variable {X : Cx}
theorem pv (i : Nat) {x : Str} {pos : Pos} (hN : X.N[i]? = some x := by rfl) (hv : Vis X.env.scope x := by first | exact Or.inl rfl | exact Or.inr (Or.inl rfl) | exact Or.inr (Or.inr rfl)) (hd : (x == ("__debug__" : Str)) = false := by decide)
  (hcd : (x == ("__classdict__" : Str)) = false := by decide) : PE X (.Name x pos) (tVar i) := pe_var hN hv hd hcd
end
theorem iteF {A B : Prop} (h : B) : if false = true then A else B := by
 rw [if_neg Bool.false_ne_true]
 exact h
theorem iteT {A B : Prop} (h : A) : if true = true then A else B := by
 rw [if_pos rfl]
 exact h
theorem ite2 {c A B : Prop} [Decidable c] (h1 : c → A) (h2 : ¬ c → B) : if c then A else B := by
 by_cases h : c
 ·rw [if_pos h]
  exact h1 h
 ·rw [if_neg h]
  exact h2 h
noncomputable def Same (H H' : Hp) : Prop := ∀ b o, H b = some o → H' b = some o
theorem Same.refl (H : Hp) : Same H H := fun _ _ h => h
theorem Same.trans {H H1 H2 : Hp} (a : Same H H1) (b : Same H1 H2) : Same H H2 := fun c o h => b c o (a c o h)
theorem Same.free {H H' : Hp} (e : Same H H') {l : Addr} (h : H' l = Option.none) : H l = Option.none := by
 cases q : H l with
 | none => rfl
 | some o =>
  rw [e l o q] at h
  cases h
theorem Same.seq {K : PySem.W.Frag} {H H' : Hp} {a : Addr} {xs : List V} (e : Same H H') (h : SqL K H a xs) : SqL K H' a xs := by
 rcases h with (h | ⟨o, h⟩) | h
 ·exact .inl (.inl (e _ _ h))
 ·exact .inl (.inr ⟨o, e _ _ h⟩)
 ·exact .inr h
end L2
end
open PySem.W (Frag nsIn findIn keepIn fnOf codeIn isFn plainGet makesIn hasDictIn plainOver mg_none_of mg_of kla_obj kla_fn envX CodeHd)
section
namespace L2
open PySem PySem.Spec PyProof.Rows
noncomputable def CXR (P : Program) (w : World) : CXT := fun outer H s E e s' => ∃ (ea : Addr) (cls a0 : Value) (H' : Hp) (B : Heap), e = .ref ea ∧ s'.os = s.os ∧ AllBare s'.gens ∧ Un (frs outer) [] H H' s.heap s'.heap ∧ HOk P w H' s'.heap ∧
 Heap.FlyingW B outer ea cls a0 s'.heap ∧ (∀ b o, s'.heap.get? b = some o → b ∉ frs outer → ((H' b).isSome = true ∨ ∃ o', s.heap.get? b = some o') → B.get? b = some o) ∧ E cls none H'
theorem ObjOk.there {P : Program} {w : World} {H : Hp} {h : Heap} {a : Addr} {o : HO} (x : ObjOk P w H h a o) : ∃ ob, h.get? a = some ob := by
 cases o with
 | lst xs => obtain ⟨_, _, _, _, e⟩ := x; exact ⟨_, e⟩
 | tup xs => obtain ⟨_, _, _, ob, e, _⟩ := x; exact ⟨_, e⟩
 | dK kvs => obtain ⟨_, _, _, _, o, _, _, e, _⟩ := x; exact ⟨_, e⟩
 | dT kvs => obtain ⟨_, _, _, _, o, _, _, e, _⟩ := x; exact ⟨_, e⟩
 | set S n => obtain ⟨o, _, _, _, e, _⟩ := x; exact ⟨_, e⟩
 | ins C dx fs => obtain ⟨_, _, _, e, _⟩ := x; exact ⟨_, e⟩
 | own y => obtain ⟨_, e⟩ := x; exact ⟨_, e⟩
 | xd fs => obtain ⟨_, ⟨_, _, _, e, _⟩, _⟩ := x; exact ⟨_, e⟩
 | rng lo hi => obtain ⟨_, _, _, e⟩ := x; exact ⟨_, e⟩
 | frz ob u => obtain ⟨e, _⟩ := x; exact ⟨_, e⟩
 | tbl ps => exact ⟨_, (show h.get? a = some _ from x)⟩
 | met f y => exact ⟨_, (show h.get? a = some _ from x)⟩
 | ext φ => obtain ⟨_, ⟨_, e⟩, _⟩ := x; exact ⟨_, e⟩
section
variable {X : Cx} {pins : List (Addr × Obj)} {σ : St} {H : Hp} {s : Shared} {h2 B : Heap} {ea : Addr} {cls a0 : Value} {E : XK}
theorem cx_mk (I : Inv X pins σ H s) (hex : X.ex = [])
  (hin : ∀ b o, s.heap.get? b = some o → b ∉ frs X.stack → ((H b).isSome = true ∨ ∃ o', X.s_0.heap.get? b = some o') → B.get? b = some o)
  (fly : Heap.FlyingW B X.outer ea cls a0 h2) (up : ∀ b ∈ X.fs, ∀ o, s.heap.get? b = some o → (∀ vs, o.data ≠ .fields vs) → ∃ sl, h2.get? b = some { o with slots := sl }) (q : E cls none H) :
  CXR X.prog X.w X.outer X.H_0 X.s_0 E (.ref ea) { s with heap := h2 } := by
 have nex : ∀ b : Addr, b ∉ X.ex := fun b z => by rw [hex] at z; cases z
 have old : ∀ b o, X.s_0.heap.get? b = some o → b ∉ X.fs → b ∉ frs X.stack := fun b o e hb hm => by
  rcases List.mem_cons.mp (I.stkSub b hm) with z | z
  ·have h1 := Heap.lt_size e
   have h2 := I.ok.above
   rw [z] at h1
   exact absurd (Nat.lt_of_lt_of_le h1 h2) (Nat.lt_irrefl _)
  ·exact hb z
 have keep : ∀ b o, s.heap.get? b = some o → b ∉ frs X.stack → ((H b).isSome = true ∨ ∃ o', X.s_0.heap.get? b = some o') → h2.get? b = some o := fun b o e hb p => fly.1 b o (hin b o e hb p)
 have trk : ∀ b, (H b).isSome = true → b ∉ frs X.stack := fun b hb hm => by rw [I.stkFree b hm] at hb; cases hb
 have frm : ∀ b ∈ X.fs, ∀ o, X.s_0.heap.get? b = some o → ∃ sl, h2.get? b = some { o with slots := sl } := fun b hb o e => by
  obtain ⟨sl, e1⟩ := I.base.slot b o e (I.ok.frf b hb) hb (nex b)
  obtain ⟨_, o2, e2, d2⟩ := I.ok.funs.mem hb
  rw [e] at e2; cases e2
  obtain ⟨sl', e3⟩ := up b hb _ e1 d2
  exact ⟨sl', e3⟩
 refine ⟨ea, cls, a0, H, B, rfl, I.os, I.bare, ⟨?_, ?_, ?_, ?_, I.base.tups, I.base.frzs, I.base.tbls⟩, ?_, fly, ?_, q⟩
 ·intro b o e n hb _
  exact keep b o (I.base.keep b o e n hb (nex b)) (old b o e hb) (.inr ⟨o, e⟩)
 ·intro b o e n hb _
  exact frm b hb o e
 ·exact fun b o e n _ => I.base.free b o e n (nex b)
 ·intro b o e _
  obtain ⟨o1, e1⟩ := I.base.there b o e (nex b)
  by_cases hb : b ∈ X.fs
  ·obtain ⟨sl, e2⟩ := frm b hb o e
   exact ⟨_, e2⟩
  ·exact ⟨o1, keep b o1 e1 (old b o e hb) (.inr ⟨o, e⟩)⟩
 ·intro a o e
  have tr : ∀ b, (b = a ∨ H b = some (.own a)) → (H b).isSome = true := fun b hb => by
   rcases hb with rfl | hb
   ·rw [e]; rfl
   ·rw [hb]; rfl
  exact (I.hok a o e).stay (fun b u hb z => keep b u z (trk b (tr b hb)) (.inl (tr b hb))) (fun _ z => z) fun _ _ z => z
 ·intro b o e hb p
  have hst : b ∉ frs X.stack := by
   rcases p with p | ⟨o', e'⟩
   ·exact trk b p
   ·exact old b o' e' hb
  have hex' : ∃ o1, s.heap.get? b = some o1 := by
   rcases p with p | ⟨o', e'⟩
   ·obtain ⟨u, hu⟩ := Option.isSome_iff_exists.mp p
    exact (I.hok b u hu).there
   ·exact I.base.there b o' e' (nex b)
  obtain ⟨o1, e1⟩ := hex'
  have e2 := keep b o1 e1 hst p
  have e : h2.get? b = some o := e
  rw [e2] at e; cases e
  exact hin b o e1 hst p
end
section
variable {P : Program} {w : World} {K : Frag} {mg : Str → Option Value} {base : Heap} {N : List Str} {qual : Str} {scope : Scope} {f : Addr} {cd : Value} {A : Around} {outer : List Env} {s_0 : Shared} {H_0 : Hp} {E : XK}
theorem passR : Passes (CXR P w) (cxOf (CXR P w) P w K mg base N qual scope f cd A outer s_0 H_0 E) E := by
 intro pins σ H s e s' I h
 obtain ⟨ea, cls, a0, H', B, rfl, os, bare, un, hok, fly, inB, q⟩ := h
 have I1 := I.call' (ch := []) os un hok bare (fun b z => absurd z (by simp))
 show wpAny _ _ (leaving _ _) _ _ s'
 refine wpAny_leaves_onW I.ok.frames rfl fly fun h2 fly2 up => ?_
 refine cx_mk I1 rfl (fun b o e hb p => inB b o e hb (p.imp id fun ⟨o', e'⟩ => ?_)) fly2 (fun b _ o e d => up b o e d) q
 exact I.base.there b o' e' (by intro z; cases z)
theorem raiseR {pins : List (Addr × Obj)} {σ : St} {H : Hp} {s : Shared} {h' : Heap} {ea : Addr} {cls : Value} {vs : List Value} (I : Inv (cxOf (CXR P w) P w K mg base N qual scope f cd A outer s_0 H_0 E) pins σ H s)
  (hx : Heap.MadeExcOf s.heap h' ea cls vs) (q : E cls none H) : (cxOf (CXR P w) P w K mg base N qual scope f cd A outer s_0 H_0 E).xe (.ref ea) { s with heap := h' } := by
 show wpAny _ _ (leaving _ _) _ _ _
 have hf : (cxOf (CXR P w) P w K mg base N qual scope f cd A outer s_0 H_0 E).A.frames = some (cxOf (CXR P w) P w K mg base N qual scope f cd A outer s_0 H_0 E).stack := I.ok.frames
 have hin : ∀ env ∈ (cxOf (CXR P w) P w K mg base N qual scope f cd A outer s_0 H_0 E).stack, ∀ b, env.frame = some b → b ∈ frs (cxOf (CXR P w) P w K mg base N qual scope f cd A outer s_0 H_0 E).stack := fun env he b hb => List.mem_filterMap.mpr ⟨env, he, hb⟩
 refine wpAny_leaves_madeW (base := PySem.W.hideAll s.heap (frs (cxOf (CXR P w) P w K mg base N qual scope f cd A outer s_0 H_0 E).stack)) (h := s.heap) hf rfl (fun b o q => PySem.W.of_hideAll _ q) (PySem.W.funFrames_hide I.stack hin) hx fun h2 t fly tup nt up => ?_
 exact cx_mk I rfl (fun b o e hb _ => PySem.W.hideAll_get _ e hb) fly (fun b _ o e d => ((Heap.UpToSlots.of_keeps hx.keeps).trans up) b o e d) q
end
end L2
end
section
namespace L2
open PySem PySem.Spec PyProof.Rows
noncomputable abbrev exMro : List Value := [.type "Exception", .type "BaseException", .type "object"]
noncomputable def XCls (K : Frag) (C : Addr) : Prop := PySem.W.excIn K C exMro "Exception.__new__" = true
noncomputable def mroIs (K : Frag) (C : Addr) : Bool := match K.lookup C with
 | some ⟨_, _, .cls cd, _⟩ => cd.mro == .ref C :: exMro
 | _ => false
theorem xcls_obj {K : Frag} {h : Heap} {C : Addr} (X : K.In h) (q : XCls K C) :
  ∃ tl N nm qn bs hd sn sub ab col dd k0 k1 k2 k3 k5 mN, h.get? C = some (excClassObj nm qn C N bs tl hd sn sub ab col dd k0 k1 k2 k3 k5 "Exception.__new__") ∧ h.Ns N mN ∧ mN "__init__" = none ∧ OwnTail h exMro tl := by
 have q' : PySem.W.excIn K C exMro "Exception.__new__" = true := q
 unfold PySem.W.excIn at q'
 split at q'
 case h_2 => cases q'
 case h_1 dd cd sl ho =>
  split at q'
  case h_2 => cases q'
  case h_1 C' bm k0 k1 k2 k3 n k5 hm hs =>
   rw [Bool.and_eq_true, Bool.and_eq_true, Bool.and_eq_true, Bool.and_eq_true, Bool.and_eq_true] at q'
   obtain ⟨⟨⟨⟨⟨a1, a2⟩, a3⟩, a4⟩, a5⟩, a6⟩ := q'
   have b1 := beq_iff_eq.mp a1
   have b2 := beq_iff_eq.mp a2
   have b6 := beq_iff_eq.mp a6
   subst b1 b2
   obtain ⟨nm, bs, mro, ns, qn, hd, sn, sub, ab, col, del⟩ := cd
   have b3 : del = false := by
    cases del with
    | false => rfl
    | true => cases a3
   have hm' : mro = .ref C' :: bm := hm
   subst hm' b3
   obtain ⟨l⟩ := sl
   have hl : l = [k0, k1, k2, k3, some (.builtin "Exception.__new__"), k5] := hs
   subst hl
   exact ⟨bm, ns, nm, qn, bs, hd, sn, sub, ab, col, dd, k0, k1, k2, k3, k5, _, X _ _ ho, .of_isNs (PySem.W.isNs_of_in X a5), PySem.W.nsMap_none_of_in X a5 b6, PySem.W.tail_of_in X a4⟩
section
variable {X : Cx}
theorem ps_raise {x : Str} {C : Addr} {e0 : Expr} {es : List Expr} {ta : TA} {np cpos pos : Pos} {R : Hp → Prop} (hg : Gl X x) (hm : X.mg x = some (.ref C)) (hc : XCls X.K C) (hcalm : X.calm = true) (ha : PA X (e0 :: es) ta)
  (hR : ∀ (pins : List (Addr × Obj)) (σ : St) (H : Hp) (s : Shared) (h' : Heap) (ea : Addr) (vs : List Value), Inv X pins σ H s → Heap.MadeExcOf s.heap h' ea (.ref C) vs → R H → X.xe (.ref ea) { s with heap := h' })
  (hs : starEach (e0 :: es) X.env = (false, eval e0 X.env) :: starEach es X.env := by rfl) (hp : (backTo cpos (starEach es X.env)).any (·.1) = false := by rfl) (hd : (x == ("__debug__" : Str)) = false := by decide) :
  PS X (.Raise (some (.Call (.Name x np) (e0 :: es) [] cpos)) none pos) (fun _ σ H => ta σ H fun vs H1 => vs.length ≤ sizeLine ∧ R H1) := by
 intro pins s σ H D I hw
 obtain ⟨tl, N, nm, qn, bs, hdct, sn, sub, ab, col, dd, k0, k1, k2, k3, k5, mN, hC, hN, hni, T⟩ := xcls_obj I.mod.kin hc
 refine wpAny_Raise_call_subT (C := C) (nm := nm) (q := qn) (N := N) (bs := bs) (bm := tl) (hdct := hdct) (sn := sn) (sub := sub) (ab := ab) (col := col) (dd := dd) (k0 := k0) (k1 := k1) (k2 := k2) (k3 := k3) (k5 := k5)
  PySem.F.excBase_Exception (mN := mN) (T.hasType PySem.F.excBase_Exception.hasBase) (I.ok.hd hcalm) (by rw [hs]; show (false || (backTo cpos (starEach es X.env)).any (·.1)) = false; rw [hp]; rfl) hni (ld_glob I hg hm ⟨rfl, ?_⟩ hd)
 have h1 := ha cpos pins s σ H _ I hw
 rw [hs] at h1 ⊢
 refine Calls.evalArgs_plain (wpAny_mono h1 (fun us s2 ⟨vs, H2, I2, r, z, q⟩ => ⟨rfl, by rw [← r.length]; exact z, I2.bk _ _ hC, hN.keeps I2.bk, T.keeps I2.bk, fun h' e hx => hR pins σ H2 s2 h' e us I2 hx q⟩) fun _ _ y => y)
end
end L2
end
section
namespace L2
open PySem PySem.Spec PyProof.Rows
section
variable {M : Model} {A : Around} {E : Value → Shared → Prop} {s : Shared} {B : Heap} {env : Env} {outer : List Env} {L e : Addr} {cls a0 fl : Value} {Q : Unit → Shared → Prop}
theorem leaves_at (hfr : A.frames = some (env :: outer)) (hf : env.frame = some L) (f1 : B.StaysIn s.heap) (f2 : B.get? e = none) (f3 : s.heap.FunFrames B (env :: outer)) (f4 : s.heap.TracedAtW B e cls a0 fl)
  (hQ : ∀ h', Heap.FlyingW B outer e cls a0 h' → s.heap.UpToSlots h' → Q () { s with heap := h' }) : wpAny M A (leaving env (.ref e)) Q E s := by
 obtain ⟨oe, vs, T, oT, ts, he, ⟨hcls, h0⟩, hd, h1, hnT, hTe, hT, hdT, h3⟩ := id f4
 have hsz3 : 3 < ts.size := (Array.getElem?_eq_some_iff.mp h3).1
 unfold leaving noteFrame
 simp only [hf]
 refine wpAny_bind (wpAny_bind (wpAny_field he hd h1 ?_))
 rw [if_pos (show (Value.ref T != Value.none) = true from by simp)]
 refine wpAny_bind (wpAny_field hT hdT h3 ?_)
 by_cases hfl : (fl == rawInt L) = true
 ·rw [if_pos hfl]
  refine wpAny_pure ?_
  exact wpAny_setFlight_noneW f1 f3 f4 fun h' k1 k2 k3 k4 => hQ h' ⟨k1, f2, k2.2.2, k3⟩ fun b o hb hn => ⟨o.slots, k4 b o hb hn⟩
 ·rw [if_neg hfl]
  refine wpAny_bind (wpAny_setField hT hdT hsz3 ?_)
  have other : ∀ b, b ≠ T → (s.heap.update T (Obj.mapFields (·.setIfInBounds 3 Value.none))).get? b = s.heap.get? b := fun b hb => Heap.get?_update_other _ _ (Ne.symm hb)
  have noT : ∀ b o, s.heap.get? b = some o → (∀ vs, o.data ≠ .fields vs) → b ≠ T := fun b o hb hnf q => by
   rw [q, hT] at hb; cases hb; exact hnf ts hdT
  subst hcls
  refine wpAny_newEntryW hfr (f3.of_keeps fun b o hb hnf => ⟨o, (other b (noT b o hb hnf)).trans hb, rfl⟩) hf ((other e (Ne.symm hTe)).trans he)
   (fun b o hbo => (other b fun q => by rw [q, hnT] at hbo; cases hbo).trans (f1 b o hbo)) f2 hd (Array.getElem?_eq_some_iff.mp h1).1 h0 fun h' hL => ?_
  obtain ⟨x1, x2, x3, x4⟩ := hL
  exact hQ h' ⟨x1, f2, x2.2.2, x3⟩ fun b o hb hnf => x4 b o ((other b (noT b o hb hnf)).trans hb) hnf
theorem pass_on_at {α : Type} {what : String} {Q : α → Shared → Prop} (f1 : B.StaysIn s.heap) (f3 : s.heap.FunFrames B outer) (f4 : s.heap.TracedAtW B e cls a0 fl)
  (hE : ∀ h' fl', B.StaysIn h' → h'.FunFrames B outer → h'.TracedAtW B e cls a0 fl' → (∀ b o, s.heap.get? b = some o → (∀ vs, o.data ≠ .fields vs) → h'.get? b = some o) → E (.ref e) { s with heap := h' }) :
  wpAny M A (PySem.passOn what (.ref e) env) Q E s := by
 obtain ⟨oe, vs, T, oT, ts, he, hcls, hd, h1, hnT, hTe, hT, hdT, h3⟩ := id f4
 have hsz3 : 3 < ts.size := (Array.getElem?_eq_some_iff.mp h3).1
 generalize hx : env.frame.elim Value.none (fun f => rawInt f) = x
 have other : ∀ b, b ≠ T → (s.heap.update T (Obj.mapFields (·.setIfInBounds 3 x))).get? b = s.heap.get? b := fun b hb => Heap.get?_update_other _ _ (Ne.symm hb)
 have noT : ∀ b o, s.heap.get? b = some o → (∀ vs, o.data ≠ .fields vs) → b ≠ T := fun b o hb hnf q => by
  rw [q, hT] at hb; cases hb; exact hnf ts hdT
 unfold PySem.passOn
 refine wpAny_bind (wpAny_field he hd h1 ?_)
 rw [if_neg (show ¬ ((Value.ref T == Value.none) = true) from by simp)]
 have fin : wpAny M A (setFlight (.ref e) env.frame) (fun _ s' => E (.ref e) s') E s := by
  unfold setFlight
  refine wpAny_bind (wpAny_field he hd h1 ?_)
  rw [if_pos (show (Value.ref T != Value.none) = true from by simp), hx]
  refine wpAny_setField hT hdT hsz3 (hE _ x (fun b o hbo => (other b fun q => by rw [q, hnT] at hbo; cases hbo).trans (f1 b o hbo))
   (f3.of_keeps fun b o hb hnf => ⟨o, (other b (noT b o hb hnf)).trans hb, rfl⟩) ?_ fun b o hb hnf => (other b (noT b o hb hnf)).trans hb)
  exact ⟨oe, vs, T, _, _, (other e (Ne.symm hTe)).trans he, hcls, hd, h1, hnT, hTe, Heap.get?_update_self _ hT (Obj.isFreed_of_fields (Obj.data_mapFields hdT _)), Obj.data_mapFields hdT _, by simp [hsz3]⟩
 first
  | exact wpAny_bind (wpAny_mono fin (fun _ _ z => wpAny_throw z) fun _ _ z => z)
  | exact wpAny_bind (wpAny_pure (wpAny_bind (wpAny_mono fin (fun _ _ z => wpAny_throw z) fun _ _ z => z)))
theorem noteFrame_same {x : Value} {env env' : Env} (h : env.frame = env'.frame) : noteFrame x env = noteFrame x env' := by
 unfold noteFrame PySem.frameOf
 rw [h]
end
end L2
end
section
namespace L2
open PySem PySem.Spec PyProof.Rows
structure FnCx (X : Cx) (E : XK) : Prop where
 fr : X.env.frame = some X.env.locals
 st : X.stack = X.env :: X.outer
 ex : X.ex = []
 xe : X.xe = fun e s' => wpAny (model X.prog X.w) X.A (leaving X.env e) (fun _ s'' => CXR X.prog X.w X.outer X.H_0 X.s_0 E e s'') (fun e' s'' => CXR X.prog X.w X.outer X.H_0 X.s_0 E e' s'') s'
theorem fnCx {P : Program} {w : World} {K : Frag} {mg : Str → Option Value} {base : Heap} {N : List Str} {qual : Str} {scope : Scope} {f : Addr} {cd : Value} {A : Around} {outer : List Env} {s_0 : Shared} {H_0 : Hp} {E : XK} :
  FnCx (cxOf (CXR P w) P w K mg base N qual scope f cd A outer s_0 H_0 E) E := ⟨rfl, rfl, rfl, rfl⟩
noncomputable def BX (X : Cx) (pins : List (Addr × Obj)) (σ : St) (C : Addr) (E : XK) (e : Value) (s' : Shared) : Prop :=
 ∃ (ea : Addr) (cls a0 : Value) (H' : Hp) (B : Heap), e = .ref ea ∧ Inv X pins σ H' s' ∧ Heap.FlyingW B X.stack ea cls a0 s'.heap ∧
  (∀ b o, s'.heap.get? b = some o → b ∉ frs X.stack → ((H' b).isSome = true ∨ ∃ o', X.s_0.heap.get? b = some o') → B.get? b = some o) ∧ (∃ m, s'.heap.Ns C m) ∧ FpOk X pins H' C ∧ E cls none H'
section
variable {X : Cx} {pins : List (Addr × Obj)} {σ : St} {C : Addr} {E : XK} {e : Value} {s' : Shared}
theorem bx_noted {use : Option (Value → Sem Unit)} {Qf : Value → Shared → Prop} {acc : Value} {ce : Env} (F : FnCx X E) (hce : ce.frame = X.env.frame) (h : BX X pins σ C E e s') :
  notedBy (model X.prog X.w) X.A ce (fun x s'' => compPost (model X.prog X.w) X.A X.xe use Qf acc C (.error x) s'') e s' := by
 obtain ⟨ea, cls, a0, H', B, rfl, I, fly, hin, ⟨m, ns⟩, fp, q⟩ := h
 obtain ⟨p0, p1, p2, p3, p4, p5⟩ := fp
 have hyoung : X.s_0.heap.objs.size ≤ C := by
  rcases p3 with z | z
  ·rw [F.ex] at z; cases z
  ·exact z
 have stay : (PySem.W.hideAll B [C]).StaysIn B := fun b o z => PySem.W.of_hideAll _ z
 have fly1 := PySem.W.flyingW_base stay fly
 have nB : (PySem.W.hideAll B [C]).get? C = none := PySem.W.hideAll_none _ (.head _)
 have hin1 : ∀ b o, s'.heap.get? b = some o → b ∉ frs X.stack → ((H' b).isSome = true ∨ ∃ o', X.s_0.heap.get? b = some o') → (PySem.W.hideAll B [C]).get? b = some o := fun b o e hb p => by
  refine PySem.W.hideAll_get _ (hin b o e hb p) fun hm => ?_
  have hbC : b = C := List.mem_singleton.mp hm
  rcases p with p | ⟨o', e'⟩
  ·rw [hbC, p0] at p; cases p
  ·have := Heap.lt_size e'
   rw [hbC] at this
   exact absurd (Nat.lt_of_lt_of_le this hyoung) (Nat.lt_irrefl _)
 generalize PySem.W.hideAll B [C] = B1 at fly1 nB hin1
 show wpAny _ _ (noteFrame (.ref ea) ce) _ _ s'
 rw [noteFrame_same hce]
 have hfr : X.A.frames = some (X.env :: X.outer) := by rw [← F.st]; exact I.ok.frames
 rw [F.st] at fly1
 refine wpAny_looks_onW hfr F.fr fly1 fun h4 held4 up4 => ?_
 have ns4 : h4.Ns C m := up4.ns ns
 have core : ∃ m, h4.Ns C m ∧ ∀ h', Heap.SameBut C h4 h' → ∀ cenv : Env, cenv.locals = C → wpAny (model X.prog X.w) X.A (PySem.passOn "comprehension.variables-let-go" (.ref ea) cenv : Sem Value) (fun _ _ => False) X.xe { s' with heap := h' } := by
  refine ⟨m, ns4, fun h5 sb cenv _ => ?_⟩
  obtain ⟨k1, k2, k3, k4⟩ := held4
  obtain ⟨oe, vs, T, oT, ts, he, hcls, hd, h1, hnT, hTe, hT, hdT, h3⟩ := k4
  obtain ⟨oC, esC, epC, hC, hdC, _⟩ := id ns4
  have eC : ea ≠ C := fun z => by rw [z, hC] at he; cases he; rw [hdC] at hd; cases hd
  have tC : T ≠ C := fun z => by rw [z, hC] at hT; cases hT; rw [hdC] at hdT; cases hdT
  have g1 : B1.StaysIn h5 := fun b o z => (sb.2 b (fun y => by rw [y, nB] at z; cases z)).trans (k1 b o z)
  have frC : ∀ b ∈ frs (X.env :: X.outer), b ≠ C := fun b hb z => by
   have := I.stkSub b (by rw [F.st]; exact hb)
   rcases List.mem_cons.mp this with y | y
   ·exact p1 (z.symm.trans y)
   ·exact p2 (by rw [← z]; exact y)
  have frm : ∀ (l : List Env), (∀ b ∈ frs l, b ≠ C) → h4.FunFrames B1 l → h5.FunFrames B1 l := by
   intro l
   induction l with
   | nil => intro _ _; trivial
   | cons en rest ih =>
    rintro hb ⟨z1, ⟨L, o, z2, z3, z4, z5⟩, z6⟩
    have hL : L ≠ C := hb L (List.mem_filterMap.mpr ⟨en, .head _, z2⟩)
    refine ⟨z1, ⟨L, o, z2, z3, (sb.2 L hL).trans z4, z5⟩, ih (fun b hm => hb b ?_) z6⟩
    obtain ⟨en', he', hf'⟩ := List.mem_filterMap.mp hm
    exact List.mem_filterMap.mpr ⟨en', .tail _ he', hf'⟩
  have g3 := frm _ frC k3
  have g4 : h5.TracedAtW B1 ea cls a0 (rawInt X.env.locals) := ⟨oe, vs, T, oT, ts, (sb.2 ea eC).trans he, hcls, hd, h1, hnT, hTe, (sb.2 T tC).trans hT, hdT, h3⟩
  refine pass_on_at (s := { s' with heap := h5 }) g1 g3 g4 fun h6 fl' x1 x3 x4 x5 => ?_
  rw [F.xe]
  show wpAny _ _ (leaving X.env (.ref ea)) _ _ _
  refine leaves_at (s := { s' with heap := h6 }) hfr F.fr x1 k2 x3 x4 fun h7 fly7 up7 => ?_
  refine cx_mk (s := s') I F.ex hin1 fly7 (fun b hb o eb db => ?_) q
  have bC : b ≠ C := fun z => p2 (by rw [← z]; exact hb)
  obtain ⟨sl, y4⟩ := up4 b o eb db
  have y5 : h5.get? b = some { o with slots := sl } := (sb.2 b bC).trans y4
  have y6 := x5 b _ y5 db
  obtain ⟨sl', y7⟩ := up7 b _ y6 db
  exact ⟨sl', y7⟩
 cases use <;> exact core
theorem bx_pass (hex : X.ex = []) {s3 : Shared} {H3 : Hp} {scope : Scope} {ce : Env} {fp : List Addr} (I3 : Inv X pins σ H3 s3) (hC : s3.heap.objs.size ≤ ce.locals) (f3 : ∀ b ∈ fp, FpOk X pins H3 b ∧ b < s3.heap.objs.size) :
  Passes (CXR X.prog X.w) ((X.blk s3 H3 scope ce fp).wish (BX X pins σ ce.locals E)) E := by
 intro pins' σ' H s e s' I h
 obtain ⟨ea, cls, a0, H', B, rfl, os, bare, un, hok, fly, inB, q⟩ := h
 have I1 := I.call' (ch := []) os un hok bare (fun b z => absurd z (by simp))
 have I2 : Inv X pins σ H' s' := I3.call' (ch := fp) I1.os I1.base I1.hok I1.bare fun b hb => ⟨(f3 b hb).1.2.2.2.1, (f3 b hb).1.2.1, (f3 b hb).1.2.2.2.2.1, (f3 b hb).1.2.2.2.2.2⟩
 have nC : H' ce.locals = none := I1.free
 obtain ⟨m, hn, _⟩ := I1.loc
 refine ⟨ea, cls, a0, H', B, rfl, I2, fly, fun b o e hb p => inB b o e hb (p.imp id fun ⟨o', e'⟩ => ?_), ⟨m, hn⟩, I3.fpOk hC nC, q⟩
 have young : ∀ z : Addr, z ∈ fp → b ≠ z := fun z hz y => by
  have h1 := Heap.lt_size e'
  rcases (f3 z hz).1.2.2.2.1 with h2 | h2
  ·rw [hex] at h2; cases h2
  ·rw [y] at h1
   exact absurd (Nat.lt_of_lt_of_le h1 h2) (Nat.lt_irrefl _)
 obtain ⟨o3, e3⟩ := I3.base.there b o' e' (by rw [hex]; intro z; cases z)
 exact I.base.there b o3 e3 (fun z => young b z rfl)
end
end L2
end
section
namespace L2
open PySem PySem.Spec PyProof.Rows
section
variable {X : Cx}
theorem lcx_core {E : XK} {pins : List (Addr × Obj)} {s : Shared} {σ : St} {H : Hp} {Q : VK} {elt tg iter : Expr} {ifs : List Expr} {scope : Scope} {own : List (Str × Nat)} {pos pos' : Pos} {wi : TI} {g : TG} {tt : TT} {te : TE} {use : Option (Value → Sem Unit)} {Qf : Value → Shared → Prop}
  (F : FnCx X E) (hc : X.calm = true) (hN : X.N.Nodup) (I : Inv X pins σ H s) (hi : PI X tg iter wi) (ok : BlkOk X.N X.env.scope scope own)
  (hg : ∀ (s : Shared) (H : Hp) (C : Addr) (cl : List (Str × Addr)) (fp : List Addr), ∀ xe, PG ((X.blk s H scope (compEnvC scope cl C X.env) fp).wish xe) tg g) (ht : ∀ (s : Shared) (H : Hp) (C : Addr) (cl : List (Str × Addr)) (fp : List Addr), ∀ xe, PTs ((X.blk s H scope (compEnvC scope cl C X.env) fp).wish xe) ifs tt)
  (he : ∀ (s : Shared) (H : Hp) (C : Addr) (cl : List (Str × Addr)) (fp : List Addr), ∀ xe, Passes (CXR X.prog X.w) ((X.blk s H scope (compEnvC scope cl C X.env) fp).wish xe) E → PE ((X.blk s H scope (compEnvC scope cl C X.env) fp).wish xe) elt te) (hs : ∀ x, foldedSetIterable iter X.env x = pure x)
  (h : tLc wi g tt te (own.map (·.2)) σ H Q)
  (hRR : ∀ D C s' m H', Inv X pins σ H' s' → Q (.ref D) H' → s'.heap.Ns C m → FpOk X pins H' C → compPost (model X.prog X.w) X.A X.xe use Qf (.ref D) C (.ok .next) s') :
  wpAny (model X.prog X.w) X.A (comprehension (.ListComp elt [⟨tg, iter, ifs, 0⟩] scope pos) scope X.env pos' (newList []) false (eval iter X.env) use) Qf X.xe s := by
 have hfree : ∀ y ∈ scope.names, y.2 = .free → ∃ c, X.env.cells.lookup y.1 = some c := fun y hy e => by
  rcases ok.free y hy e with k | k
  ·exact I.ok.has _ (.inl k)
  ·exact I.ok.has _ (.inr k)
 refine wpAny_comprehension_free (use := use) rfl hs (closure_ok hfree) ok.kind (fun y hy e => by rw [ok.uniq y hy, e])
  (thn (hi pins s σ H _ I h) fun xv s1 hx => thn hx fun itv s2 h2 => ?_)
 obtain ⟨it, fp, tn, J, H2, e, I2, T, st2, f2, q⟩ := h2
 subst e
 refine wpAny_newObj_type (newEnv_comp ?_) (by show 0 ≤ sizeLine; decide)
 generalize hD : s2.heap.objs.size = D
 have hDn : H2 D = none := I2.hok.fresh (Nat.le_of_eq hD)
 obtain ⟨W, ⟨m0, w0⟩, turn⟩ := q D hDn
 generalize hs3 : ({ s2 with heap := s2.heap.push { cls := .type "list", data := .seq ([] : List Value).toArray } } : Shared) = s3
 have I3 : Inv X pins σ (upd H2 D (.lst [])) s3 := by
  rw [← hs3]
  refine I2.laid (t' := s2.toks) (fun b o e => Heap.get?_push_of_some _ e) (Nat.le_of_eq hD) ⟨Nat.zero_le _, [], 0, .nil, ?_⟩
  rw [← hD]
  exact Heap.get?_push_size _ rfl
 have h3 : s3.heap = s2.heap.push { cls := .type "list", data := .seq ([] : List Value).toArray } := by rw [← hs3]
 have sz : ∀ b ∈ fp, b < s2.heap.objs.size := fun b hb => by
  obtain ⟨o, e, _⟩ := T.obj _ _ st2 b hb
  exact Heap.lt_size e
 have f3 : ∀ b ∈ fp, FpOk X pins (upd H2 D (.lst [])) b ∧ b < s3.heap.objs.size := fun b hb => by
  have hlt := sz b hb
  refine ⟨⟨?_, (f2 b hb).2⟩, by rw [h3, Heap.size_push]; exact Nat.lt_succ_of_lt hlt⟩
  rw [upd_ne (by rw [← hD]; exact Nat.ne_of_lt hlt)]
  exact (f2 b hb).1
 have st3 : tn 0 s3.heap := T.keep _ _ _ st2 fun b _ o e => by rw [h3]; exact Heap.get?_push_of_some _ e
 have I4 := (block_start I3 ok hN f3).wish (BX X pins σ s3.heap.objs.size E)
 have pg := hg s3 (upd H2 D (.lst [])) s3.heap.objs.size (cellsFrom (s3.heap.objs.size + 1) scope.names (cloFrom X.env.cells scope.names [])) fp (BX X pins σ s3.heap.objs.size E)
 have pt := ht s3 (upd H2 D (.lst [])) s3.heap.objs.size (cellsFrom (s3.heap.objs.size + 1) scope.names (cloFrom X.env.cells scope.names [])) fp (BX X pins σ s3.heap.objs.size E)
 have pe := he s3 (upd H2 D (.lst [])) s3.heap.objs.size (cellsFrom (s3.heap.objs.size + 1) scope.names (cloFrom X.env.cells scope.names [])) fp (BX X pins σ s3.heap.objs.size E) (bx_pass (scope := scope) (ce := compEnvC scope (cellsFrom (s3.heap.objs.size + 1) scope.names (cloFrom X.env.cells scope.names [])) s3.heap.objs.size X.env) F.ex I3 (Nat.le_refl _) f3)
 show codeAny _ _ (.compStart (.ListComp elt [⟨tg, iter, ifs, 0⟩] scope pos) 0 (.ref it) (.ref D) (compEnvC scope (cellsFrom (s3.heap.objs.size + 1) scope.names (cloFrom X.env.cells scope.names [])) s3.heap.objs.size X.env)) (compPost (model X.prog X.w) X.A X.xe use Qf (.ref D) s3.heap.objs.size) { s3 with heap := pushCells (s3.heap.push { cls := .type "dict", data := .dict #[] }) scope.names }
 have nfp : ∀ b ∈ fp, (upd H2 D (.lst [])) b = none := fun b hb => (f3 b hb).1.1
 generalize hce : compEnvC scope (cellsFrom (s3.heap.objs.size + 1) scope.names (cloFrom X.env.cells scope.names [])) s3.heap.objs.size X.env = ce at I4 pg pt pe ⊢
 have cL : ce.locals = s3.heap.objs.size := by subst hce; rfl
 have cF : ce.frame = X.env.frame := by subst hce; rfl
 generalize hH3 : upd H2 D (.lst []) = H3 at I3 I4 pg pt pe w0 nfp f3
 generalize hs4 : ({ s3 with heap := pushCells (s3.heap.push { cls := .type "dict", data := .dict #[] }) scope.names } : Shared) = s4 at I4 ⊢
 have st4 : tn 0 s4.heap := T.keep _ _ _ st3 fun b _ o e => by rw [← hs4]; exact pushCells_keeps _ _ _ _ (Heap.get?_push_of_some _ e)
 have stat : ∀ {σ' : St} {H' : Hp} {s' : Shared}, Inv ((X.blk s3 H3 scope ce fp).wish (BX X pins σ s3.heap.objs.size E)) [] σ' H' s' → (∀ b ∈ fp, H' b = none) → ∀ b ∈ fp, FpOk ((X.blk s3 H3 scope ce fp).wish (BX X pins σ s3.heap.objs.size E)) [] H' b := fun {σ' H' s'} I' hn b hb =>
  ⟨hn b hb, (I'.ok.exf b hb).1, I'.ok.exfs b hb, .inl hb, fun x c e => (I'.ok.exf b hb).2 x c e, fun p hp => absurd (show p ∈ ([] : List (Addr × Obj)) ++ [] from hp) (by simp)⟩
 have loop : codeAny (model X.prog X.w) X.A (.compLoop (.ListComp elt [⟨tg, iter, ifs, 0⟩] scope pos) 0 (.ref it) (.ref D) ce) (compPost (model X.prog X.w) X.A X.xe use Qf (.ref D) s3.heap.objs.size) s4 := by
  refine compLoop_any (fun n s' => ∃ i H', Inv ((X.blk s3 H3 scope ce fp).wish (BX X pins σ s3.heap.objs.size E)) [] (wipe σ (own.map (·.2))) H' s' ∧ tn i s'.heap ∧ (∀ b ∈ fp, H' b = none) ∧ W i n H') ?_ m0 ⟨0, H3, I4, st4, nfp, w0⟩
  rintro n s5 ⟨i, H5, I5, st5, n5, w5⟩
  rcases turn i n H5 w5 with ⟨stop, qq⟩ | ⟨go, Nx, hNx, step⟩
  ·have td := T.done ((X.blk s3 H3 scope ce fp).wish (BX X pins σ s3.heap.objs.size E)) rfl rfl rfl hc i [] s5 _ H5 (fun _ _ => False) I5 (stat I5 n5) st5 stop
   refine thnF td fun r s6 ⟨hr, I6⟩ => ?_
   subst hr
   have I7 : Inv X pins σ H5 s6 := I3.call' (ch := fp) I6.os I6.base I6.hok I6.bare fun b hb => ⟨(f3 b hb).1.2.2.2.1, (f3 b hb).1.2.1, (f3 b hb).1.2.2.2.2.1, (f3 b hb).1.2.2.2.2.2⟩
   have nC : H5 s3.heap.objs.size = none := by
    have z : H5 ce.locals = none := I6.free
    rw [cL] at z
    exact z
   obtain ⟨m, hn, _⟩ := I6.loc
   have hn : s6.heap.Ns ce.locals m := hn
   rw [cL] at hn
   exact hRR D s3.heap.objs.size s6 m H5 I7 qq hn (I3.fpOk (Nat.le_refl _) nC)
  ·have ti := T.item ((X.blk s3 H3 scope ce fp).wish (BX X pins σ s3.heap.objs.size E)) rfl rfl rfl hc i [] s5 _ H5 (fun _ _ => False) I5 (stat I5 n5) st5 go
   refine thnF ti fun r s6 ⟨u, hr, h6⟩ => ?_
   subst hr
   refine thnF h6 fun _ s7 ⟨x, H7, I7, r7, y7, st7, n7⟩ => ?_
   have I7' := I7.pinned (stat I7 n7) (T.obj _ _ st7)
   refine wpAny_mono (pg _ s7 _ H7 x u _ I7' r7 (step x H7 y7)) (fun _ s8 ⟨σ8, H8, I8, hw8, q8⟩ => ?_) fun _ _ z => bx_noted F cF z
   refine wpAny_mono (pt _ s8 σ8 H8 _ I8 q8) (fun b s9 ⟨H9, I9, q9⟩ => ?_) fun _ _ z => bx_noted F cF z
   have fin : ∀ {s' : Shared} {H' : Hp}, Inv ((X.blk s3 H3 scope ce fp).wish (BX X pins σ s3.heap.objs.size E)) ([] ++ pinsAt fp s7.heap) σ8 H' s' → Nx H' → ∃ m, m < n ∧ ∃ i H', Inv ((X.blk s3 H3 scope ce fp).wish (BX X pins σ s3.heap.objs.size E)) [] (wipe σ (own.map (·.2))) H' s' ∧ tn i s'.heap ∧ (∀ b ∈ fp, H' b = none) ∧ W i m H' := fun {s' H'} I' nx => by
    obtain ⟨m', hm, w'⟩ := hNx H' nx
    have pin' : ∀ b ∈ fp, ∀ o, s7.heap.get? b = some o → s'.heap.get? b = some o ∧ H' b = none := fun b hb o e =>
     let z := I'.pin (b, o) (List.mem_append_right _ (List.mem_append_right _ (mem_pinsAt hb e)))
     ⟨z.1, z.2.1⟩
    have hl : (wipe σ (own.map (·.2))).length = σ8.length := by rw [← hw8, wipe_length]
    refine ⟨m', hm, i + 1, H', (I'.unpinned (pins := [])).weak hl (fun j v e => ?_), T.keep _ _ _ st7 fun b hb o e => (pin' b hb o e).1, fun b hb => ?_, w'⟩
    ·rw [← hw8] at e
     exact (wipe_some e).1
    ·obtain ⟨o, e, _⟩ := T.obj _ _ st7 b hb
     exact (pin' b hb o e).2
   cases b with
   | false =>
    simp only [Bool.false_eq_true, if_false] at q9 ⊢
    exact fin I9 q9
   | true =>
    simp only [if_true] at q9 ⊢
    refine wpAny_mono (pe _ s9 σ8 H9 _ I9 q9) (fun z s10 ⟨yv, H10, I10, r10, acc, hD10, hz10, nx⟩ => ?_) fun _ _ z => bx_noted F cF z
    exact app_ok (X := (X.blk s3 H3 scope ce fp).wish (BX X pins σ s3.heap.objs.size E)) I10 hD10 hz10 r10 fun s11 I11 => fin I11 nx
 exact codeAny_compStart_list loop (T.self X.A 0 _ _ _ st4 loop)
theorem pe_lcx {E : XK} {elt tg iter : Expr} {ifs : List Expr} {scope : Scope} {own : List (Str × Nat)} {pos : Pos} {wi : TI} {g : TG} {tt : TT} {te : TE} (F : FnCx X E) (hc : X.calm = true) (hN : X.N.Nodup) (hi : PI X tg iter wi) (ok : BlkOk X.N X.env.scope scope own)
  (hg : ∀ (s : Shared) (H : Hp) (C : Addr) (cl : List (Str × Addr)) (fp : List Addr), ∀ xe, PG ((X.blk s H scope (compEnvC scope cl C X.env) fp).wish xe) tg g) (ht : ∀ (s : Shared) (H : Hp) (C : Addr) (cl : List (Str × Addr)) (fp : List Addr), ∀ xe, PTs ((X.blk s H scope (compEnvC scope cl C X.env) fp).wish xe) ifs tt)
  (he : ∀ (s : Shared) (H : Hp) (C : Addr) (cl : List (Str × Addr)) (fp : List Addr), ∀ xe, Passes (CXR X.prog X.w) ((X.blk s H scope (compEnvC scope cl C X.env) fp).wish xe) E → PE ((X.blk s H scope (compEnvC scope cl C X.env) fp).wish xe) elt te) (hs : ∀ x, foldedSetIterable iter X.env x = pure x := by intro _; rfl) :
  PE X (.ListComp elt [⟨tg, iter, ifs, 0⟩] scope pos) (tLc wi g tt te (own.map (·.2))) := by
 intro pins s σ H Q I h
 rw [eval_ListComp]
 refine lcx_core F hc hN I hi ok hg ht he hs h fun D C s' m H' I' q hn f => ⟨m, hn, fun h'' sb => ?_⟩
 obtain ⟨f0, f1, f2, f3, f4, f5⟩ := f
 exact ⟨.ref D, H', I'.turned (t' := s'.toks) (fun b o hb e => (sb.2 b hb).trans e) f0 f1 f3 f4 f5, rfl, q⟩
end
end L2
end
section
namespace L2
open PySem PySem.Spec PyProof.Rows
section
variable {M : Model} {A : Around} {E : Value → Shared → Prop}
variable {nm q nm2 q2 : Str} {C N C2 N2 : Addr} {bs bm bs2 bm2 : List Value} {hdct hdct2 : Bool} {sn sn2 : List Str} {sub sub2 : List Value} {ab ab2 : Bool} {col col2 : Option Bool} {dd dd2 : Option Addr} {k0 k1 k2 k3 k5 j0 j1 j2 j3 j5 : Option Value} {newId newId2 : String}
theorem matches_other {h : Heap} {g : Array GenState} {d : Drawn} {t : Nat} {os : OsState} {e : Addr} {oe : Obj} {Q : Bool → Shared → Prop}
  (hC : h.get? C = some (excClassObj nm q C N bs bm hdct sn sub ab col dd k0 k1 k2 k3 k5 newId)) (he : h.get? e = some oe) (hcls : oe.cls = .ref C)
  (hC2 : h.get? C2 = some (excClassObj nm2 q2 C2 N2 bs2 bm2 hdct2 sn2 sub2 ab2 col2 dd2 j0 j1 j2 j3 j5 newId2)) (hbase : bm2.contains (.type "BaseException") = true) (hno : (Value.ref C :: bm).contains (.ref C2) = false)
  (hq : Q false ⟨h, g, d, t, os⟩) : wpAny M A (excMatches (.ref e) (.ref C2)) Q E ⟨h, g, d, t, os⟩ := by
 have hcB : (Value.ref C2 :: bm2).contains (.type "BaseException") = true := by rw [List.contains_cons, hbase, Bool.or_true]
 have f := tc_notTuple
 unfold excMatches
 repeat (first | (with_reducible refine wpAny_loadPart_at he ?_; rw [hcls]) | with_reducible refine wpAny_loadPart_at hC2 ?_ | (with_reducible refine wpAny_isSubtype_exc hC2 ?_; rw [hcB]) | (with_reducible refine wpAny_isSubtype_exc hC ?_; rw [hno]) | wp_step)
 exact hq
end
theorem mroIs_of {K : Frag} {h : Heap} {C N : Addr} {nm q : Str} {bs bm : List Value} {hdct : Bool} {sn : List Str} {sub : List Value} {ab : Bool} {col : Option Bool} {dd : Option Addr} {k0 k1 k2 k3 k5 : Option Value} {newId : String}
  (X : K.In h) (m : mroIs K C = true) (hC : h.get? C = some (excClassObj nm q C N bs bm hdct sn sub ab col dd k0 k1 k2 k3 k5 newId)) : bm = exMro := by
 unfold mroIs at m
 split at m
 case h_2 => cases m
 case h_1 cd _ ho =>
  have e := X _ _ ho
  rw [hC] at e
  have m2 := beq_iff_eq.mp m
  unfold excClassObj at e
  injection e with e
  injection e with _ _ e3 _
  injection e3 with e3
  rw [← e3] at m2
  injection m2
section
variable {X : Cx} {pins : List (Addr × Obj)} {σ : St} {Hc : Hp} {sc s : Shared} {E : XK}
theorem cxr_hold {ea : Addr} {cls a0 : Value} {H' : Hp} {B h' : Heap} (I : Inv X pins σ Hc sc) (os : s.os = sc.os) (bare : AllBare s.gens) (un : Un (frs X.stack) [] Hc H' sc.heap s.heap) (hok : HOk X.prog X.w H' s.heap)
  (inB : ∀ b o, s.heap.get? b = some o → b ∉ frs X.stack → ((H' b).isSome = true ∨ ∃ o', sc.heap.get? b = some o') → B.get? b = some o) (fly : Heap.FlyingW B X.stack ea cls a0 h') (up : s.heap.UpToSlots h') :
  s.os = sc.os ∧ AllBare s.gens ∧ Un (frs X.stack) [] Hc H' sc.heap h' ∧ HOk X.prog X.w H' h' ∧ Heap.FlyingW B X.stack ea cls a0 h' ∧
   (∀ b o, h'.get? b = some o → b ∉ frs X.stack → ((H' b).isSome = true ∨ ∃ o', sc.heap.get? b = some o') → B.get? b = some o) := by
 have keep : ∀ b o, s.heap.get? b = some o → b ∉ frs X.stack → ((H' b).isSome = true ∨ ∃ o', sc.heap.get? b = some o') → h'.get? b = some o := fun b o e hb p => fly.1 b o (inB b o e hb p)
 have fnone : ∀ b ∈ frs X.stack, H' b = none := fun b hb => by
  obtain ⟨_, o, e, _⟩ := I.stack.mem hb
  exact un.free b o e (I.stkFree b hb) (by intro z; cases z)
 have trk : ∀ b, (H' b).isSome = true → b ∉ frs X.stack := fun b hb hm => by rw [fnone b hm] at hb; cases hb
 have frm : ∀ b ∈ frs X.stack, ∀ o, sc.heap.get? b = some o → ∃ sl, h'.get? b = some { o with slots := sl } := fun b hb o e => by
  obtain ⟨sl, e1⟩ := un.slot b o e (I.stkFree b hb) hb (by intro z; cases z)
  obtain ⟨_, o2, e2, d2⟩ := I.stack.mem hb
  rw [e] at e2; cases e2
  obtain ⟨sl', e3⟩ := up b _ e1 d2
  exact ⟨sl', e3⟩
 refine ⟨os, bare, ⟨fun b o e n hb hx => keep b o (un.keep b o e n hb hx) hb (.inr ⟨o, e⟩), fun b o e n hb _ => frm b hb o e, un.free, fun b o e hx => ?_, un.tups, un.frzs, un.tbls⟩, fun a o e => ?_, fly, fun b o e hb p => ?_⟩
 ·by_cases hb : b ∈ frs X.stack
  ·obtain ⟨sl, e2⟩ := frm b hb o e
   exact ⟨_, e2⟩
  ·obtain ⟨o1, e1⟩ := un.there b o e hx
   exact ⟨o1, keep b o1 e1 hb (.inr ⟨o, e⟩)⟩
 ·have tr : ∀ b, (b = a ∨ H' b = some (.own a)) → (H' b).isSome = true := fun b hb => by
   rcases hb with rfl | hb
   ·rw [e]; rfl
   ·rw [hb]; rfl
  exact (hok a o e).stay (fun b u hb z => keep b u z (trk b (tr b hb)) (.inl (tr b hb))) (fun _ z => z) fun _ _ z => z
 ·have hex' : ∃ o1, s.heap.get? b = some o1 := by
   rcases p with p | ⟨o', e'⟩
   ·obtain ⟨u, hu⟩ := Option.isSome_iff_exists.mp p
    exact (hok b u hu).there
   ·exact un.there b o' e' (by intro z; cases z)
  obtain ⟨o1, e1⟩ := hex'
  have e2 := keep b o1 e1 hb p
  rw [e2] at e; cases e
  exact inB b o e1 hb p
end
noncomputable abbrev Cx.inS (X : Cx) (e : Value) : Cx := { X with A := X.A.mark (some e), calm := false, xe := fun _ _ => False }
section
variable {X : Cx} {pins : List (Addr × Obj)} {σ : St} {H : Hp} {s : Shared}
theorem Cx.Ok.inS {e : Value} (ok : X.Ok) : (X.inS e).Ok := ⟨ok.mod, ok.kind, ok.glob, ok.blt, ok.above, ok.inj, ok.has, ok.cab, (fun z => by cases z), ok.frames, ok.stk, ok.exf, ok.bs, ok.bsz, ok.noex, ok.exfs, ok.funs, ok.frf⟩
theorem Inv.inS (I : Inv X pins σ H s) (e : Value) : Inv (X.inS e) pins σ H s := ⟨I.ok.inS, I.os, I.bare, I.base, I.loc, I.cell, I.free, I.freeC, I.pin, I.hok, I.len⟩
theorem Inv.outS (ok : X.Ok) {e : Value} (I : Inv (X.inS e) pins σ H s) : Inv X pins σ H s := ⟨ok, I.os, I.bare, I.base, I.loc, I.cell, I.free, I.freeC, I.pin, I.hok, I.len⟩
theorem SP.outS (ok : X.Ok) {D : Ends} {f : Flow} {e : Value} (h : SP (X.inS e) pins D f s) : SP X pins D f s := by
 cases f with
 | next => obtain ⟨a, b, c, d⟩ := h; exact ⟨a, b, c.outS ok, d⟩
 | brk => obtain ⟨a, b, c, d⟩ := h; exact ⟨a, b, c.outS ok, d⟩
 | cont => obtain ⟨a, b, c, d⟩ := h; exact ⟨a, b, c.outS ok, d⟩
 | ret u => obtain ⟨v, a, b, c, r, d⟩ := h; exact ⟨v, a, b, c.outS ok, r, d⟩
noncomputable def Catch (X : Cx) (D : Ends) (hs : List ExceptHandler) (t : Value → Hp → Prop) : Prop :=
 ∀ (pins : List (Addr × Obj)) (σ : St) (Hc : Hp) (sc : Shared) (e : Value) (s : Shared), Inv X pins σ Hc sc → CXR X.prog X.w X.stack Hc sc (fun cls _ H' => t cls H') e s → wpAny (model X.prog X.w) X.A (handleBy e X.env hs) (SP X pins D) X.xe s
theorem catch_nil {D : Ends} : Catch X D [] (fun _ _ => False) := fun _ _ _ _ _ _ _ h => by
 obtain ⟨_, _, _, _, _, _, _, _, _, _, _, _, q⟩ := h
 exact q.elim
theorem catch_cons {D : Ends} {x : Str} {C2 : Addr} {np pos : Pos} {b0 : Stmt} {suite : List Stmt} {hs : List ExceptHandler} {ts : TS} {t : Value → Hp → Prop} (hg : Gl X x) (hm : X.mg x = some (.ref C2)) (hc : XCls X.K C2)
  (hS : ∀ e, PSs (X.inS e) (b0 :: suite) ts) (hr : Catch X D hs t) (hd : (x == ("__debug__" : Str)) = false := by decide) :
  Catch X D (.ExceptHandler (some (.Name x np)) none (b0 :: suite) pos :: hs) (fun cls H => ∃ C, cls = .ref C ∧ XCls X.K C ∧ mroIs X.K C = true ∧ ((C = C2 ∧ ∀ σ, ts D σ H) ∨ (C ≠ C2 ∧ t cls H))) := by
 intro pins σ Hc sc e s I h
 obtain ⟨ea, cls, a0, H', B, rfl, os, bare, un, hok, fly, inB, C, rfl, hC, mC, q⟩ := h
 have I1 := I.call' (ch := []) os un hok bare (fun b z => absurd z (by simp))
 refine wpAny_handleBy_cons (codeAny_handlers_test ?_) (by intro z; cases z)
 refine ld_glob (X := X.inS (.ref ea)) (I1.inS _) hg hm ?_ hd
 obtain ⟨tl, N, nm, qn, bs, hdct, sn, sub, ab, col, dd, k0, k1, k2, k3, k5, mN, gC, hN, hni, T⟩ := xcls_obj I1.kIn hC
 obtain ⟨tl2, N2, nm2, qn2, bs2, hdct2, sn2, sub2, ab2, col2, dd2, j0, j1, j2, j3, j5, mN2, gC2, hN2, hni2, T2⟩ := xcls_obj I1.kIn hc
 obtain ⟨oe, he, hcls⟩ := fly.there
 rcases q with ⟨rfl, q⟩ | ⟨ne, q⟩
 ·obtain ⟨hp, g, d, tk, os'⟩ := s
  refine wpAny_excMatches_sub_self gC he hcls (T.hasType (by decide)) (codeAny_handlers_suite ?_)
  refine lands_againW fly fun h6 fly6 up6 => ?_
  obtain ⟨c1, c2, c3, c4, c5, c6⟩ := cxr_hold I os bare un hok inB fly6 up6
  have I2 := I.call' (s' := ⟨h6, g, d, tk, os'⟩) (ch := []) c1 c3 c4 c2 (fun b z => absurd z (by simp))
  exact wpAny_mono (hS (.ref ea) pins _ σ H' D (I2.inS _) (q σ)) (fun f s7 z => z.outS I.ok) fun _ _ z => z.elim
 ·have hno : (Value.ref C :: tl).contains (.ref C2) = false := by
   rw [mroIs_of I1.kIn mC gC, List.contains_cons]
   have e1 : (Value.ref C2 == Value.ref C) = false := by
    rw [beq_eq_false_iff_ne]
    intro z
    exact ne (Value.ref.inj z).symm
   rw [e1]
   rfl
  obtain ⟨hp, g, d, tk, os'⟩ := s
  refine matches_other gC he hcls gC2 (T2.hasType (by decide)) hno ?_
  exact hr pins σ Hc sc (.ref ea) _ I ⟨ea, .ref C, a0, H', B, rfl, os, bare, un, hok, fly, inB, q⟩
theorem ps_try {body : List Stmt} {h0 : ExceptHandler} {hs : List ExceptHandler} {pos : Pos} {tb : Ends → TS} {t : Ends → Value → Hp → Prop} (hfr : X.env.frame = some X.env.locals) (hst : X.stack = X.env :: X.outer)
  (hb : ∀ D pn xe, Passes (CXR X.prog X.w) { X with pn := pn, xe := xe } (fun cls _ H => t D cls H) → PSs { X with pn := pn, xe := xe } body (tb D)) (hh : ∀ D, Catch X D (h0 :: hs) (t D)) :
  PS X (.Try body (h0 :: hs) [] [] pos) (fun D σ H => tb D D σ H) := by
 intro pins s σ H D I hw
 refine wpAny_Try_except ?_
 generalize hxe : (fun e s₁ => wpAny (model X.prog X.w) X.A (noteFrame e X.env) (fun _ s₂ => wpAny (model X.prog X.w) X.A (setFlight e none) (fun _ s₃ => wpAny (model X.prog X.w) X.A (handleBy e X.env (h0 :: hs)) (SP X pins D) X.xe s₃) X.xe s₂) X.xe s₁) = xe
 have okB : ∀ {pn : List (Addr × Obj)}, Cx.Ok { X with pn := pn, xe := xe } := fun {pn} => ⟨I.ok.mod, I.ok.kind, I.ok.glob, I.ok.blt, I.ok.above, I.ok.inj, I.ok.has, I.ok.cab, I.ok.hd, I.ok.frames, I.ok.stk, I.ok.exf, I.ok.bs, I.ok.bsz, I.ok.noex, I.ok.exfs, I.ok.funs, I.ok.frf⟩
 have to : Inv { X with pn := X.pn ++ pins, xe := xe } [] σ H s := ⟨okB, I.os, I.bare, I.base, I.loc, I.cell, I.free, I.freeC, fun p hp => I.pin p (by simpa using hp), I.hok, I.len⟩
 have back : ∀ {pins' : List (Addr × Obj)} {σ' : St} {H' : Hp} {s' : Shared}, Inv { X with pn := X.pn ++ pins, xe := xe } pins' σ' H' s' → Inv X pins σ' H' s' := fun {pins' σ' H' s'} J =>
  ⟨I.ok, J.os, J.bare, J.base, J.loc, J.cell, J.free, J.freeC, fun p hp => J.pin p (List.mem_append_left _ hp), J.hok, J.len⟩
 have pass : Passes (CXR X.prog X.w) { X with pn := X.pn ++ pins, xe := xe } (fun cls _ H => t D cls H) := by
  intro pins' σ' Hc sc e s' J h
  obtain ⟨ea, cls, a0, H', B, rfl, os, bare, un, hok, fly, inB, q⟩ := h
  have J1 := back J
  show xe (.ref ea) s'
  rw [← hxe]
  show wpAny _ _ (noteFrame (.ref ea) X.env) _ _ s'
  have fly' : Heap.FlyingW B (X.env :: X.outer) ea cls a0 s'.heap := by rw [← hst]; exact fly
  refine wpAny_looks_onW (by rw [← hst]; exact I.ok.frames) hfr fly' fun h4 held4 up4 => ?_
  refine wpAny_landsW held4 fun h5 fly5 up5 => ?_
  have fly5' : Heap.FlyingW B X.stack ea cls a0 h5 := by rw [hst]; exact fly5
  obtain ⟨c1, c2, c3, c4, c5, c6⟩ := cxr_hold J1 os bare un hok inB fly5' (up4.trans up5)
  exact hh D pins σ' Hc sc (.ref ea) _ J1 ⟨ea, cls, a0, H', B, rfl, c1, c2, c3, c4, c5, c6, q⟩
 refine thn (hb D _ _ pass [] s σ H D to hw) fun f s1 hf => ?_
 cases f with
 | next =>
  obtain ⟨a, b, c, d⟩ := hf
  exact wpAny_execs_nil ⟨a, b, back c, d⟩
 | brk => obtain ⟨a, b, c, d⟩ := hf; exact ⟨a, b, back c, d⟩
 | cont => obtain ⟨a, b, c, d⟩ := hf; exact ⟨a, b, back c, d⟩
 | ret u => obtain ⟨v, a, b, c, r, d⟩ := hf; exact ⟨v, a, b, back c, r, d⟩
end
end L2
end
section
namespace L2
open PySem PySem.Spec PyProof.Rows
noncomputable def Fgt (H : Hp) : HO → Prop
 | .tup _ => False
 | .frz _ _ => False
 | .tbl _ => False
 | .own x => H x = none
 | _ => True
structure Fg (H H' : Hp) : Prop where
 sub : Same H H'
 fgt : ∀ b o, H' b = some o → H b = none → Fgt H o
theorem Fg.refl (H : Hp) : Fg H H := ⟨Same.refl H, fun b o e n => by rw [n] at e; cases e⟩
theorem Fg.lst {H : Hp} {p : Addr} {xs : List V} (h : H p = none) : Fg H (upd H p (.lst xs)) :=
 ⟨fun b o e => by rw [upd_ne (ne_of_none e h)]; exact e, fun b o e n => by
  by_cases z : b = p
  ·rw [z, upd_same] at e; cases e; trivial
  ·rw [upd_ne z, n] at e; cases e⟩
theorem Fg.trans {H H1 H2 : Hp} (a : Fg H H1) (b : Fg H1 H2) : Fg H H2 :=
 ⟨a.sub.trans b.sub, fun c o e n => by
  cases q : H1 c with
  | some u =>
   have e2 := b.sub c u q
   rw [e] at e2; cases e2
   exact a.fgt c o q n
  | none =>
   have f := b.fgt c o e q
   cases o with
   | own x => exact a.sub.free f
   | tup _ => exact f
   | frz _ _ => exact f
   | tbl _ => exact f
   | _ => trivial⟩
theorem ObjOk.fg {P : Program} {w : World} {H H' : Hp} {h : Heap} {a : Addr} {o : HO} (f : Fg H H') (ha : H a ≠ none) (x : ObjOk P w H' h a o) : ObjOk P w H h a o := by
 have ho : ∀ b, H' b = some (.own a) → H b = some (.own a) := fun b e => by
  cases q : H b with
  | some u =>
   have e2 := f.sub b u q
   rw [e] at e2; cases e2; rfl
  | none => exact absurd (f.fgt b _ e q) ha
 have ht : ∀ b xs, H' b = some (.tup xs) → H b = some (.tup xs) := fun b xs e => by
  cases q : H b with
  | some u =>
   have e2 := f.sub b u q
   rw [e] at e2; cases e2; rfl
  | none => exact (f.fgt b _ e q).elim
 exact x.stay (fun _ _ _ z => z) ho ht
theorem HOk.fg {P : Program} {w : World} {H H' : Hp} {h : Heap} (f : Fg H H') (x : HOk P w H' h) : HOk P w H h := fun a o e =>
 (x a o (f.sub a o e)).fg f (by rw [e]; intro z; cases z)
theorem Un.fg {fs ex : List Addr} {H0 H H' : Hp} {h h' : Heap} (f : Fg H H') (u : Un fs ex H0 H' h h') : Un fs ex H0 H h h' where
 keep := u.keep
 slot := u.slot
 free := fun b o e n hx => f.sub.free (u.free b o e n hx)
 there := u.there
 tups := fun b xs e => by
  have e1 := u.tups b xs e
  cases q : H b with
  | some v =>
   have e2 := f.sub b v q
   rw [e1] at e2; cases e2; rfl
  | none => exact (f.fgt b _ e1 q).elim
 frzs := fun b o v e => by
  have e1 := u.frzs b o v e
  cases q : H b with
  | some v =>
   have e2 := f.sub b v q
   rw [e1] at e2; cases e2; rfl
  | none => exact (f.fgt b _ e1 q).elim
 tbls := fun b ps e => by
  obtain ⟨more, e1⟩ := u.tbls b ps e
  cases q : H b with
  | some v =>
   have e2 := f.sub b v q
   rw [e1] at e2; cases e2; exact ⟨more, rfl⟩
  | none => exact (f.fgt b _ e1 q).elim
theorem Inv.fg {X : Cx} {pins : List (Addr × Obj)} {σ : St} {H H' : Hp} {s : Shared} (f : Fg H H') (I : Inv X pins σ H' s) : Inv X pins σ H s :=
 ⟨I.ok, I.os, I.bare, I.base.fg f, I.loc, I.cell, f.sub.free I.free, fun x c e => f.sub.free (I.freeC x c e), fun p hp => let ⟨a, b, c, d, e⟩ := I.pin p hp; ⟨a, f.sub.free b, c, d, e⟩, I.hok.fg f, I.len⟩
noncomputable def Ends.fg (D : Ends) : Ends where
 nx := fun σ H => ∃ H2, Fg H2 H ∧ D.nx σ H2
 rt := fun v H => ∃ H2, Fg H2 H ∧ D.rt v H2
 bk := fun σ H => ∃ H2, Fg H2 H ∧ D.bk σ H2
 ct := fun σ H => ∃ H2, Fg H2 H ∧ D.ct σ H2
theorem SP.fg {X : Cx} {pins : List (Addr × Obj)} {D : Ends} {f : Flow} {s : Shared} (h : SP X pins D.fg f s) : SP X pins D f s := by
 cases f with
 | next => obtain ⟨σ, H, I, H2, f, q⟩ := h; exact ⟨σ, H2, I.fg f, q⟩
 | brk => obtain ⟨σ, H, I, H2, f, q⟩ := h; exact ⟨σ, H2, I.fg f, q⟩
 | cont => obtain ⟨σ, H, I, H2, f, q⟩ := h; exact ⟨σ, H2, I.fg f, q⟩
 | ret u => obtain ⟨v, σ, H, I, r, H2, f, q⟩ := h; exact ⟨v, σ, H2, I.fg f, r, q⟩
theorem ps_fg {X : Cx} {st : Stmt} {t : TS} (h : PS X st t) : PS X st (fun D σ H => t D.fg σ H) := fun pins s σ H D I hw => thn (h pins s σ H D.fg I hw) fun _ _ q => q.fg
section
variable {P : Program} {w : World} {K : Frag} {mg : Str → Option Value} {base : Heap}
theorem Fun.okR {x qual : Str} {st : Stmt} {f : Addr} {fd : FuncData} {N ps : List Str} {k : Nat} {sp : Sp} (F : Fun K x qual st f fd) (S : FnScope N ps (defScope st)) (len : ∀ vs H Q E, sp vs H Q E → vs.length = ps.length)
  (hbody : ∀ (cdv : Value) (A : Around) (outer : List Env) (s : Shared) (H : Hp) (vs : List V) (Q : VK) (E : XK), Room k (A.deeper (envOfC qual (defScope st) s.heap.objs.size f cdv)) → sp vs H Q E →
   ∃ t, PSs (cxOf (CXR P w) P w K mg base N qual (defScope st) f cdv A outer s H E) (defBody st) t ∧ t { nx := fun _ H' => ∃ H2, Fg H2 H' ∧ Q .non H2, rt := fun v H' => ∃ H2, Fg H2 H' ∧ Q v H2 } (start N vs) H) : FnOk P w K mg base (CXR P w) (k + 1) f fd ps sp := by
 obtain ⟨oc, od, kV, doc, pm, an, cdv, ct, osl, rfl, lk, hcd⟩ := F.ex
 refine fn_of lk hcd S len fun A outer s H vs Q E hr hsp => ?_
 obtain ⟨t, h, q⟩ := hbody cdv A outer s H vs Q E hr hsp
 refine ⟨_, fun pins s σ H D I hw => thn (h pins s σ H { D with nx := fun σ H => ∃ H2, Fg H2 H ∧ D.nx σ H2, rt := fun v H => ∃ H2, Fg H2 H ∧ D.rt v H2 } I hw) fun fl s' q => ?_, q⟩
 cases fl with
 | next => obtain ⟨σ, H, I, H2, f, q⟩ := q; exact ⟨σ, H2, I.fg f, q⟩
 | brk => exact q
 | cont => exact q
 | ret u => obtain ⟨v, σ, H, I, r, H2, f, q⟩ := q; exact ⟨v, σ, H2, I.fg f, r, q⟩
structure Def (P : Program) (w : World) (K : Frag) (mg : Str → Option Value) (base : Heap) (k : Nat) (x : Str) (ps : List Str) (sp : Sp) : Prop where
 ex : ∃ f fd, FnOk P w K mg base (CXR P w) k f fd ps sp ∧ mg x = some (.ref f) ∧ keepIn K (.ref f) = true ∧ Binds K fd ps []
structure DefC (P : Program) (w : World) (K : Frag) (mg : Str → Option Value) (base : Heap) (k : Nat) (x : Str) (C : Addr) (ps : List Str) (sp : Sp) : Prop where
 ex : ∃ f fd, FnOk P w K mg base (CXR P w) k f fd ps sp ∧ mg x = some (.ref C) ∧ Mk K C f ∧ Binds K fd ps []
structure DefM (P : Program) (w : World) (K : Frag) (mg : Str → Option Value) (base : Heap) (k : Nat) (C : Addr) (m : Str) (ps : List Str) (sp : Sp) : Prop where
 ex : ∃ f fd, FnOk P w K mg base (CXR P w) k f fd ps sp ∧ Meth K C m f ∧ Binds K fd ps []
 cl : Cls K C
end
section
variable {X : Cx} {k j : Nat} {x m : Str} {C : Addr} {ps : List Str} {sp : Sp} {E : XK} {p pos apos : Pos} {e o : Expr} {es : List Expr} {t : TA} {te ta : TE}
theorem pe_fn (D : Def X.prog X.w X.K X.mg X.base k x ps sp) (hr : Room j X.A) (hj : k ≤ j) (hg : Gl X x) (hx : Passes (CXR X.prog X.w) X E) (ha : PA X (e :: es) t) (hdb : (x == ("__debug__" : Str)) = false := by decide)
  (he : starEach (e :: es) X.env = (false, eval e X.env) :: starEach es X.env := by rfl) (hpl : (backTo pos (starEach es X.env)).any (·.1) = false := by rfl) : PE X (.Call (.Name x p) (e :: es) [] pos) (tCall sp [] E t) := by
 obtain ⟨f, fd, F, hm, hk, hb⟩ := D.ex
 exact pe_call F (hr.mono hj) hg hm hk hb .nil hx ha hdb he hpl
theorem pe_new (D : DefC X.prog X.w X.K X.mg X.base k x C ps sp) (hr : Room j X.A) (hj : k + 1 ≤ j) (hg : Gl X x) (hx : Passes (CXR X.prog X.w) X E) (ha : PA X (e :: es) t) (hdb : (x == ("__debug__" : Str)) = false := by decide)
  (he : starEach (e :: es) X.env = (false, eval e X.env) :: starEach es X.env := by rfl) (hpl : (backTo pos (starEach es X.env)).any (·.1) = false := by rfl) : PE X (.Call (.Name x p) (e :: es) [] pos) (tMake C sp [] E t) := by
 obtain ⟨f, fd, F, hm, M, hb⟩ := D.ex
 exact pe_make M F (hr.mono hj) hg hm hb .nil hx ha hdb he hpl
theorem pe_mth {pl : Sem Bool} (he : PE X o ta) (D : DefM X.prog X.w X.K X.mg X.base k C m ps sp) (hr : Room j X.A) (hj : k ≤ j) (hx : Passes (CXR X.prog X.w) X E) (ha : PA X (e :: es) t)
  (hst : starEach (e :: es) X.env = (false, eval e X.env) :: starEach es X.env := by rfl) (hpl : (backTo pos (starEach es X.env)).any (·.1) = false := by rfl)
  (ht : eval (.Call (.Attribute o m apos) (e :: es) [] pos) X.env = (do
   let ov ← eval o X.env
   standAt apos.atName
   let (f, first) ← holding [ov] (getMethod ov m pl)
   callWith pos f first (backTo pos (starEach (e :: es) X.env)) (backToKw pos (keywordEach [] X.env))) := by rfl) :
  PE X (.Call (.Attribute o m apos) (e :: es) [] pos) (tMeth C m sp [] E ta t) := by
 obtain ⟨f, fd, F, M, hb⟩ := D.ex
 exact pe_meth he D.cl M F (hr.mono hj) hb .nil hx ha hst hpl ht
theorem PE.orr {t1 t2 : TE} (h1 : PE X e t1) (h2 : PE X e t2) : PE X e (fun σ H Q => t1 σ H Q ∨ t2 σ H Q) := by
 intro pins s σ H Q I h
 rcases h with h | h
 ·exact h1 pins s σ H Q I h
 ·exact h2 pins s σ H Q I h
noncomputable def GC (mg : Str → Option Value) (x : Str) (v : V) : Prop := ∃ u, mg x = some u ∧ RelV v u
theorem pe_gc {v : V} (h : GC X.mg x v) (hg : Gl X x) (hd : (x == ("__debug__" : Str)) = false := by decide) : PE X (.Name x pos) (tC v) := by
 obtain ⟨u, hm, r⟩ := h
 exact pe_glob hg hm r hd
noncomputable def spMust (CN : Addr) : Sp := fun vs H Q E => ∃ b, vs = [.bl b] ∧ if b = true then Q .non H else E (.ref CN) none H
noncomputable def tMust (CN : Addr) (E : XK) (te : TE) : TS := fun D σ H => te σ H fun x H1 => ∃ b, [x] = [V.bl b] ∧ if b = true then ∃ H2, Fg H2 H1 ∧ D.nx σ H2 else E (.ref CN) none H1
theorem ps_must {CN : Addr} (D : Def X.prog X.w X.K X.mg X.base k "must" ["so"] (spMust CN)) (hr : Room j X.A) (hj : k ≤ j) (hg : Gl X "must") (hx : Passes (CXR X.prog X.w) X E) (he : PE X e te)
  (hs : swapsWith (.Call (.Name "must" p) [e] [] apos) none pos.line X.env = pure false := by rfl)
  (h1 : starEach [e] X.env = [(false, eval e X.env)] := by rfl) :
  PS X (.Expr (.Call (.Name "must" p) [e] [] apos) pos) (tMust CN E te) :=
 ps_fg (ps_expr (pos := pos) (pe_fn (p := p) (pos := apos) D hr hj hg hx (pa_cons he pa_nil h1) (by decide) h1 rfl) hs)
end
theorem tYes_of {σ : St} {H : Hp} {A B : Hp → Prop} (h : A H) : tYes σ H (fun b H3 => if b = true then A H3 else B H3) := by
 show if true = true then A H else B H
 rw [if_pos rfl]; exact h
theorem tAsg_share {te : TE} {g : TG} {D : Ends} {σ : St} {H : Hp} (v : V) (H1 : Hp) (h : ∀ Q : VK, Q v H1 → te σ H Q) (k : g v σ H1 D.nx) : tAsg te g D σ H := h _ k
theorem iteP {c A B : Prop} [Decidable c] (h1 : c → A) (h2 : ¬ c → B) : if decide c = true then A else B := by
 by_cases h : c
 ·rw [decide_eq_true h, if_pos rfl]; exact h1 h
 ·rw [decide_eq_false h, if_neg Bool.false_ne_true]; exact h2 h
theorem iteN {c A B : Prop} [Decidable c] (h1 : ¬ c → A) (h2 : c → B) : if (!decide c) = true then A else B := by
 by_cases h : c
 ·rw [decide_eq_true h]; exact iteF (h2 h)
 ·rw [decide_eq_false h]; exact iteT (h1 h)
theorem iteE {i j : Int} {A B : Prop} (h1 : i = j → A) (h2 : ¬ i = j → B) : if decide (V.int i = V.int j) = true then A else B :=
 iteP (fun h => h1 (V.int.inj h)) fun h => h2 fun z => h (by rw [z])
theorem iteNE {i j : Int} {A B : Prop} (h1 : ¬ i = j → A) (h2 : i = j → B) : if (!decide (V.int i = V.int j)) = true then A else B :=
 iteN (fun h => h1 fun z => h (by rw [z])) fun h => h2 (V.int.inj h)
theorem iteB {b : Bool} {A B : Prop} (h1 : b = true → A) (h2 : b = false → B) : if b = true then A else B := by
 cases b with
 | true => exact iteT (h1 rfl)
 | false => exact iteF (h2 rfl)
noncomputable def vN (l : List Nat) : List V := l.map fun (n : Nat) => V.int (n : Int)
theorem vN_len (l : List Nat) : (vN l).length = l.length := by simp [vN]
theorem vN_get {l : List Nat} {i : Nat} {v : V} (h : (vN l)[i]? = some v) : ∃ n, l[i]? = some n ∧ v = V.int (n : Int) := by
 unfold vN at h
 rw [List.getElem?_map] at h
 cases e : l[i]? with
 | none => rw [e] at h; cases h
 | some n => rw [e] at h; exact ⟨n, rfl, (Option.some.inj h).symm⟩
theorem vN_at {l : List Nat} {i n : Nat} (h : l[i]? = some n) : (vN l)[i]? = some (V.int (n : Int)) := by
 unfold vN
 rw [List.getElem?_map, h]; rfl
theorem vN_ints (l : List Nat) : vN l = (l.map fun (n : Nat) => (n : Int)).map V.int := by simp [vN, List.map_map, Function.comp_def]
noncomputable abbrev Bs (K : Frag) (H : Hp) (a : Addr) (l : List Nat) : Prop := SqL K H a (vN l)
theorem cut_vN {l : List Nat} {i n : Nat} (h : i + n ≤ l.length) : cutV (vN l) (some (i : Int)) (some ((i + n : Nat) : Int)) = vN ((l.drop i).take n) := by
 unfold cutV
 rw [HT.sIx_nat, HT.sIx_nat, vN_len, Nat.min_eq_left (by omega), Nat.min_eq_left (by omega), show i + n - i = n by omega]
 simp [vN, List.map_take, List.map_drop]
noncomputable def Orr {α : Type} (CN : Addr) (E : XK) (o : Option α) (k : α → Prop) : Prop := match o with
 | none => ∀ H', E (.ref CN) none H'
 | some x => k x
end L2
end
section
namespace Sv
open Sn35
noncomputable def Byt (l : List Nat) : Prop := ∀ x ∈ l, x < 256
theorem Byt.drop {l : List Nat} (h : Byt l) (n : Nat) : Byt (l.drop n) := fun x hx => h x (List.mem_of_mem_drop hx)
theorem Byt.take {l : List Nat} (h : Byt l) (n : Nat) : Byt (l.take n) := fun x hx => h x (List.mem_of_mem_take hx)
noncomputable def num (l : List Nat) : Nat := l.foldr (fun c r => c + 256 * r) 0
theorem num_cons (a : Nat) (l : List Nat) : num (a :: l) = a + 256 * num l := rfl
theorem le_num (b : Bytes) (i n : Nat) : le b i n = num ((b.drop i).take n) := rfl
theorem num_lt : ∀ {l : List Nat}, Byt l → num l < 256 ^ l.length
 | [], _ => by show 0 < 1; decide
 | a :: l, h => by
  have ih := num_lt (l := l) fun x hx => h x (List.mem_cons_of_mem _ hx)
  have ha := h a List.mem_cons_self
  rw [num_cons, List.length_cons, Nat.pow_succ]
  omega
theorem num_inj : ∀ {a b : List Nat}, Byt a → Byt b → a.length = b.length → num a = num b → a = b
 | [], [], _, _, _, _ => rfl
 | [], _ :: _, _, _, h, _ => by simp at h
 | _ :: _, [], _, _, h, _ => by simp at h
 | x :: a, y :: b, ha, hb, h, e => by
  have hx := ha x List.mem_cons_self
  have hy := hb y List.mem_cons_self
  rw [num_cons, num_cons] at e
  have e1 : x = y := by omega
  have e2 : num a = num b := by omega
  rw [e1, num_inj (fun z hz => ha z (List.mem_cons_of_mem _ hz)) (fun z hz => hb z (List.mem_cons_of_mem _ hz)) (by simpa using h) e2]
theorem num_step {l : List Nat} {i x : Nat} (hi : i < l.length) (h : l[l.length - 1 - i]? = some x) : num (l.drop (l.length - (i + 1))) = num (l.drop (l.length - i)) * 256 + x := by
 have e : l.length - (i + 1) = l.length - 1 - i := by omega
 rw [e]
 obtain ⟨hlt, hx⟩ := List.getElem?_eq_some_iff.mp h
 rw [List.drop_eq_getElem_cons hlt, hx, num_cons]
 have e2 : l.length - 1 - i + 1 = l.length - i := by omega
 rw [e2]; omega
theorem num_all (l : List Nat) : num (l.drop (l.length - l.length)) = num l := by simp
theorem num_none (l : List Nat) : num (l.drop (l.length - 0)) = 0 := by simp [num]
noncomputable def numO (b : Bytes) (i n : Nat) : Option Nat := if b.length < i + n then none else some (le b i n)
theorem numO_some {b : Bytes} {i n : Nat} (h : i + n ≤ b.length) : numO b i n = some (le b i n) := if_neg (by omega)
theorem numO_none {b : Bytes} {i n : Nat} (h : b.length < i + n) : numO b i n = none := if_pos h
theorem part_some {b : Bytes} {i n : Nat} (h : i + n ≤ b.length) : part b i n = some ((b.drop i).take n) := if_neg (by omega)
theorem part_none {b : Bytes} {i n : Nat} (h : b.length < i + n) : part b i n = none := if_pos h
theorem part_len {b r : Bytes} {i n : Nat} (h : part b i n = some r) : r.length = n ∧ i + n ≤ b.length ∧ r = (b.drop i).take n := by
 by_cases hl : b.length < i + n
 ·rw [part_none hl] at h; cases h
 ·rw [part_some (by omega)] at h
  cases h
  refine ⟨?_, by omega, rfl⟩
  rw [List.length_take, List.length_drop]; omega
theorem le_lt {b : Bytes} (h : Byt b) (i n : Nat) : le b i n < 256 ^ n := by
 have h1 := num_lt ((h.drop i).take n)
 have h2 : ((b.drop i).take n).length ≤ n := by rw [List.length_take]; omega
 exact Nat.lt_of_lt_of_le h1 (Nat.pow_le_pow_right (by decide) h2)
theorem le_take {b : Bytes} {i n k : Nat} (h : i + n ≤ k) : le (b.take k) i n = le b i n := by
 rw [le_num, le_num, List.drop_take, List.take_take, Nat.min_eq_left (by omega)]
theorem le_drop (b : Bytes) (p i n : Nat) : le (b.drop p) i n = le b (p + i) n := by
 rw [le_num, le_num, List.drop_drop]
theorem le_one {b : Bytes} {i x : Nat} (h : b[i]? = some x) : le b i 1 = x := by
 obtain ⟨hlt, hx⟩ := List.getElem?_eq_some_iff.mp h
 rw [le_num, List.drop_eq_getElem_cons hlt, hx]
 rfl
theorem get_of_lt {b : Bytes} {i : Nat} (h : i < b.length) : b[i]? = some (le b i 1) := by
 rw [List.getElem?_eq_getElem h]
 exact congrArg some (le_one (List.getElem?_eq_getElem h)).symm
theorem two_of {b : Bytes} {i : Nat} (h : i + 2 ≤ b.length) : (b.drop i).take 2 = [le b i 1, le b (i + 1) 1] := by
 rw [List.drop_eq_getElem_cons (by omega), List.drop_eq_getElem_cons (by omega)]
 rw [le_one (List.getElem?_eq_getElem (by omega)), le_one (List.getElem?_eq_getElem (by omega : i + 1 < b.length))]
 rfl
theorem pow_half {n : Nat} (h : 1 ≤ n) : (256 ^ n : Nat) / 2 = 2 ^ (8 * n - 1) := by
 have e : (256 : Nat) ^ n = 2 ^ (8 * n - 1) * 2 := by
  rw [← Nat.pow_succ, show (256 : Nat) = 2 ^ 8 from rfl, ← Nat.pow_mul]
  congr 1; omega
 rw [e, Nat.mul_div_cancel _ (by decide)]
theorem pow_whole (n : Nat) : (256 ^ n : Nat) = 2 ^ (8 * n) := by rw [show (256 : Nat) = 2 ^ 8 from rfl, ← Nat.pow_mul]
theorem signed_eq {b : Bytes} {i n : Nat} (h : 1 ≤ n) : signedLe b i n = if (le b i n : Int) < ((256 : Int) ^ n) / 2 then (le b i n : Int) else (le b i n : Int) - (256 : Int) ^ n := by
 have e1 : ((256 : Int) ^ n) = ((256 ^ n : Nat) : Int) := by simp
 have e2 : ((256 : Int) ^ n) / 2 = ((2 ^ (8 * n - 1) : Nat) : Int) := by rw [e1, ← pow_half h]; simp
 unfold signedLe
 simp only
 rw [if_neg (by omega), e2]
 by_cases hlt : le b i n < 2 ^ (8 * n - 1)
 ·rw [if_pos hlt, if_pos (by exact_mod_cast hlt)]
 ·rw [if_neg hlt, if_neg (by exact_mod_cast hlt), e1, pow_whole]; simp
noncomputable def lets (b : Bytes) (i n : Nat) : List Nat := (List.range n).map fun s => le b (i + 2 * s) 2
theorem lets_len (b : Bytes) (i n : Nat) : (lets b i n).length = n := by simp [lets]
noncomputable def letO (b : Bytes) (i n : Nat) : Option (List Nat) := if n ≠ 0 ∧ b.length < i + 2 * n then none else some (lets b i n)
theorem lets_units {b : Bytes} {i n : Nat} (h : i + 2 * n ≤ b.length) : lets b i n = units ((b.drop i).take (2 * n)) := by
 unfold lets units
 have e : ((b.drop i).take (2 * n)).length / 2 = n := by rw [List.length_take, List.length_drop]; omega
 rw [e]
 apply List.map_congr_left
 intro s hs
 have hs := List.mem_range.mp hs
 rw [le_take (by omega), le_drop]
theorem lets_succ (b : Bytes) (i n : Nat) : lets b i (n + 1) = lets b i n ++ [le b (i + 2 * n) 2] := by
 unfold lets
 rw [List.range_succ, List.map_append]; rfl
theorem lets_take {b : Bytes} {i n k : Nat} (h : i + 2 * n ≤ k) : lets (b.take k) i n = lets b i n := by
 unfold lets
 apply List.map_congr_left
 intro s hs
 have hs := List.mem_range.mp hs
 rw [le_take (by omega)]
noncomputable def sect (b : Bytes) (o i : Nat) : Bytes := (b.drop (SECTOR * i)).take 510 ++ (b.drop (o + 2 * (i + 1))).take 2
noncomputable def mend (b : Bytes) (o k : Nat) : Bytes := (List.range k).flatMap (sect b o) ++ b.drop (SECTOR * k)
theorem mend_zero (b : Bytes) (o : Nat) : mend b o 0 = b := by simp [mend]
theorem sect_len {b : Bytes} {o i : Nat} (h1 : SECTOR * (i + 1) ≤ b.length) (h2 : o + 2 * (i + 1) + 2 ≤ b.length) : (sect b o i).length = 512 := by
 unfold sect SECTOR at *
 rw [List.length_append, List.length_take, List.length_take, List.length_drop, List.length_drop]; omega
theorem sects_len {b : Bytes} {o : Nat} : ∀ (k : Nat), SECTOR * k ≤ b.length → o + 2 * k + 2 ≤ b.length → ((List.range k).flatMap (sect b o)).length = 512 * k
 | 0, _, _ => rfl
 | k + 1, h1, h2 => by
  unfold SECTOR at *
  have ih := sects_len (b := b) (o := o) k (by unfold SECTOR; omega) (by omega)
  rw [List.range_succ, List.flatMap_append, List.length_append, ih]
  simp only [List.flatMap_cons, List.flatMap_nil, List.append_nil]
  rw [sect_len (by unfold SECTOR; omega) (by omega)]; omega
theorem set_two' : ∀ (k : Nat) (l : List Nat) (x y : Nat), k + 2 ≤ l.length → (l.set k x).set (k + 1) y = l.take k ++ [x, y] ++ l.drop (k + 2)
 | 0, a :: b :: l, x, y, _ => rfl
 | 0, [], _, _, h => by simp at h
 | 0, [_], _, _, h => by simp at h
 | k + 1, [], _, _, h => by simp at h
 | k + 1, a :: l, x, y, h => by
  have ih := set_two' k l x y (by simpa using h)
  show a :: ((l.set k x).set (k + 1) y) = a :: (l.take k ++ [x, y] ++ l.drop (k + 2))
  rw [ih]
theorem set_two {l : List Nat} {x y : Nat} (h : 512 ≤ l.length) : (l.set 510 x).set 511 y = l.take 510 ++ [x, y] ++ l.drop 512 := set_two' 510 l x y h
theorem mend_step {b : Bytes} {o k : Nat} (h1 : SECTOR * (k + 1) ≤ b.length) (h2 : o + 2 * (k + 1) + 2 ≤ b.length) :
  ((mend b o k).set (512 * k + 510) (le b (o + 2 + 2 * k) 1)).set (512 * k + 511) (le b (o + 2 + 2 * k + 1) 1) = mend b o (k + 1) := by
 have hl := sects_len (b := b) (o := o) k (by unfold SECTOR at *; omega) (by omega)
 unfold mend
 rw [List.set_append_right _ _ (by omega), List.set_append_right _ _ (by omega), hl]
 rw [show 512 * k + 510 - 512 * k = 510 by omega, show 512 * k + 511 - 512 * k = 511 by omega, set_two (by rw [List.length_drop]; unfold SECTOR at *; omega)]
 rw [List.range_succ, List.flatMap_append, List.append_assoc, List.append_assoc]
 congr 1
 simp only [List.flatMap_cons, List.flatMap_nil, List.append_nil]
 unfold sect
 rw [show o + 2 + 2 * k = o + 2 * (k + 1) by omega, ← two_of (by omega), List.append_assoc, List.drop_drop]
 unfold SECTOR
 rw [show 512 * k + 512 = 512 * (k + 1) by omega]
theorem mend_all {b : Bytes} {o n : Nat} (h : b.length = 512 * n) : mend b o n = (List.range n).flatMap fun i => (b.drop (SECTOR * i)).take 510 ++ (b.drop (o + 2 * (i + 1))).take 2 := by
 unfold mend
 rw [List.drop_eq_nil_of_le (by unfold SECTOR; omega), List.append_nil]; rfl
theorem unmarked_some {b : Bytes} {n : Nat} (h : b.length = 512 * n) (h1 : le b 6 2 = n + 1) (h2 : le b 4 2 % 2 = 0) (h3 : 8 ≤ le b 4 2) (h4 : le b 4 2 + 2 * le b 6 2 ≤ 510) (h5 : ∀ i, i < n → le b (512 * i + 510) 2 = le b (le b 4 2) 2) :
  unmarked b = some (mend b (le b 4 2) n) := by
 have e : b.length / SECTOR = n := by unfold SECTOR; omega
 unfold unmarked
 simp only [e]
 rw [if_neg (by omega), if_neg, mend_all h]
 intro q
 rw [List.all_eq_false] at q
 obtain ⟨i, hi, hn⟩ := q
 exact hn (by rw [beq_iff_eq]; exact h5 i (List.mem_range.mp hi))
theorem unmarked_none {b : Bytes} {n : Nat} (h : b.length = 512 * n) (h1 : ¬ (le b 6 2 = n + 1 ∧ le b 4 2 % 2 = 0 ∧ 8 ≤ le b 4 2 ∧ le b 4 2 + 2 * le b 6 2 ≤ 510)) : unmarked b = none := by
 have e : b.length / SECTOR = n := by unfold SECTOR; omega
 unfold unmarked
 simp only [e]
 rw [if_pos (by omega)]
theorem unmarked_none2 {b : Bytes} {n i : Nat} (h : b.length = 512 * n) (hi : i < n) (h1 : ¬ le b (512 * i + 510) 2 = le b (le b 4 2) 2) : unmarked b = none := by
 have e : b.length / SECTOR = n := by unfold SECTOR; omega
 unfold unmarked
 simp only [e]
 by_cases q : le b 6 2 ≠ n + 1 ∨ le b 4 2 % 2 = 1 ∨ le b 4 2 < 8 ∨ 510 < le b 4 2 + 2 * le b 6 2
 ·rw [if_pos q]
 ·rw [if_neg q, if_pos]
  rw [List.all_eq_false]
  exact ⟨i, List.mem_range.mpr hi, by rw [beq_iff_eq]; exact h1⟩
theorem mend_len {b : Bytes} {o n : Nat} (h : b.length = 512 * n) (h2 : o + 2 * n + 2 ≤ b.length) : (mend b o n).length = b.length := by
 unfold mend
 rw [List.length_append, sects_len n (by unfold SECTOR; omega) h2, List.length_drop]; unfold SECTOR; omega
theorem mend_le {b : Bytes} {o n i k : Nat} (h : b.length = 512 * n) (hn : 1 ≤ n) (h2 : o + 2 * n + 2 ≤ b.length) (hik : i + k ≤ 510) : le (mend b o n) i k = le b i k := by
 have e : (mend b o n).take 510 = b.take 510 := by
  unfold mend
  obtain ⟨m, rfl⟩ : ∃ m, n = m + 1 := ⟨n - 1, by omega⟩
  rw [List.range_succ_eq_map, List.flatMap_cons]
  unfold sect
  rw [List.append_assoc, List.append_assoc, List.take_append_of_le_length (by rw [List.length_take, List.length_drop]; unfold SECTOR; omega)]
  rw [List.take_take]; simp [SECTOR]
 have e1 := le_take (b := mend b o n) hik
 have e2 := le_take (b := b) hik
 rw [← e1, e, e2]
end Sv
end
section
namespace Sv
open Sn35
noncomputable def attrOf (d : Bytes) : Option Attr :=
 if le d 0 4 = 0x20 ∨ 1 < le d 8 1 ∨ (le d 9 1 ≠ 0 ∧ d.length < le d 10 2 + 2 * le d 9 1) ∨ (le d 12 2 ≠ 0 ∧ (le d 8 1 = 0 ∨ le d 12 2 ≠ 0x8000)) then none
 else some ⟨le d 0 4, lets d (le d 10 2) (le d 9 1), d⟩
structure AttrOk (a : Attr) : Prop where
 len : 24 ≤ a.bytes.length
 byt : Byt a.bytes
 kind : a.kind = le a.bytes 0 4
 cl : le a.bytes 8 1 ≤ 1
 fl : le a.bytes 8 1 = 0 → le a.bytes 12 2 = 0
theorem attrOf_ok {d : Bytes} {a : Attr} (hb : Byt d) (hl : 24 ≤ d.length) (h : attrOf d = some a) : AttrOk a ∧ a.bytes = d := by
 unfold attrOf at h
 split at h
 ·cases h
 ·rename_i hn
  cases h
  refine ⟨⟨hl, hb, rfl, ?_, ?_⟩, rfl⟩ <;> simp only <;> omega
noncomputable def attrsY : Nat → Bytes → Option (List Attr)
 | 0, _ => none
 | n + 1, b =>
  if b.length < 4 then none
  else if le b 0 4 = 0xFFFFFFFF then some []
  else if le b 4 4 % 8 ≠ 0 ∨ le b 4 4 < 24 ∨ b.length < le b 4 4 then none
  else (attrOf (b.take (le b 4 4))).bind fun a => (attrsY n (b.drop (le b 4 4))).map (a :: ·)
noncomputable def plain (l : List Attr) : Option (List Attr) := if l.any (fun a => a.kind == 0x20) = true then none else some l
theorem plain_cons {a : Attr} {l : List Attr} (h : ¬ a.kind = 0x20) : plain (a :: l) = (plain l).map (a :: ·) := by
 have e : ((a :: l).any fun a => a.kind == 0x20) = l.any fun a => a.kind == 0x20 := by
  rw [List.any_cons, beq_eq_false_iff_ne.mpr h, Bool.false_or]
 unfold plain
 by_cases q : (l.any fun a => a.kind == 0x20) = true
 ·rw [if_pos (by rw [e]; exact q), if_pos q]; rfl
 ·rw [if_neg (by rw [e]; exact q), if_neg q]; rfl
theorem attrsY_eq : ∀ (n : Nat) (b : Bytes), attrsY n b = (attrs n b).bind plain
 | 0, b => rfl
 | n + 1, b => by
  have ih := attrsY_eq n (b.drop (le b 4 4))
  unfold attrsY attrs
  by_cases h0 : b.length < 4
  ·simp [h0]
  rw [if_neg h0, if_neg h0]
  by_cases h1 : le b 0 4 = 0xFFFFFFFF
  ·simp [h1, plain]
  rw [if_neg h1, if_neg h1]
  simp only
  by_cases h2 : le b 4 4 % 8 ≠ 0 ∨ le b 4 4 < 24 ∨ b.length < le b 4 4
  ·rw [if_pos h2, if_pos (by omega)]; rfl
  rw [if_neg h2]
  have hl : ∀ i n, i + n ≤ 24 → le (b.take (le b 4 4)) i n = le b i n := fun i n h => le_take (by omega)
  have hlen : (b.take (le b 4 4)).length = le b 4 4 := by rw [List.length_take]; omega
  unfold attrOf
  rw [hl 0 4 (by omega), hl 8 1 (by omega), hl 9 1 (by omega), hl 10 2 (by omega), hl 12 2 (by omega), hlen]
  by_cases h3 : 1 < le b 8 1 ∨ (le b 9 1 ≠ 0 ∧ le b 4 4 < le b 10 2 + 2 * le b 9 1) ∨ (le b 12 2 ≠ 0 ∧ (le b 8 1 = 0 ∨ le b 12 2 ≠ 0x8000))
  ·rw [if_pos (by omega), if_pos (by omega)]; rfl
  ·rw [if_neg (c := (le b 4 4 % 8 ≠ 0 ∨ _)) (by omega)]
   have e : lets (b.take (le b 4 4)) (le b 10 2) (le b 9 1) = (if le b 9 1 = 0 then [] else units ((b.drop (le b 10 2)).take (2 * le b 9 1))) := by
    by_cases hk : le b 9 1 = 0
    ·rw [if_pos hk, hk]; rfl
    ·rw [if_neg hk, lets_take (by omega), lets_units (by omega)]
   rw [e, ih]
   by_cases h4 : le b 0 4 = 0x20
   ·rw [if_pos (.inl h4)]
    cases attrs n (b.drop (le b 4 4)) with
    | none => rfl
    | some l => simp [plain, h4]
   ·rw [if_neg (by omega)]
    cases attrs n (b.drop (le b 4 4)) with
    | none => rfl
    | some l =>
     simp only [Option.map_some, Option.bind_some]
     rw [plain_cons (by exact h4)]
theorem attrsY_fuel : ∀ (n m : Nat) (b : Bytes), b.length < n → b.length < m → attrsY n b = attrsY m b
 | 0, _, _, h, _ => by omega
 | _ + 1, 0, _, _, h => by omega
 | n + 1, m + 1, b, h1, h2 => by
  unfold attrsY
  by_cases h0 : b.length < 4
  ·rw [if_pos h0, if_pos h0]
  rw [if_neg h0, if_neg h0]
  by_cases h1' : le b 0 4 = 0xFFFFFFFF
  ·rw [if_pos h1', if_pos h1']
  rw [if_neg h1', if_neg h1']
  by_cases h2' : le b 4 4 % 8 ≠ 0 ∨ le b 4 4 < 24 ∨ b.length < le b 4 4
  ·rw [if_pos h2', if_pos h2']
  rw [if_neg h2', if_neg h2', attrsY_fuel n m (b.drop (le b 4 4)) (by rw [List.length_drop]; omega) (by rw [List.length_drop]; omega)]
noncomputable def attrsX (b : Bytes) : Option (List Attr) := attrsY (b.length + 1) b
theorem attrsX_eq {n : Nat} {b : Bytes} (h : b.length < n) : (attrs n b).bind plain = attrsX b := by
 rw [← attrsY_eq]; exact attrsY_fuel _ _ _ h (by omega)
theorem attrsX_rec (b : Bytes) : attrsX b = if b.length < 4 then none
  else if le b 0 4 = 0xFFFFFFFF then some []
  else if le b 4 4 % 8 ≠ 0 ∨ le b 4 4 < 24 ∨ b.length < le b 4 4 then none
  else (attrOf (b.take (le b 4 4))).bind fun a => (attrsX (b.drop (le b 4 4))).map (a :: ·) := by
 rw [attrsX, attrsY]
 by_cases h0 : b.length < 4
 ·rw [if_pos h0, if_pos h0]
 rw [if_neg h0, if_neg h0]
 by_cases h1 : le b 0 4 = 0xFFFFFFFF
 ·rw [if_pos h1, if_pos h1]
 rw [if_neg h1, if_neg h1]
 by_cases h2 : le b 4 4 % 8 ≠ 0 ∨ le b 4 4 < 24 ∨ b.length < le b 4 4
 ·rw [if_pos h2, if_pos h2]
 rw [if_neg h2, if_neg h2, attrsX, attrsY_fuel b.length ((b.drop (le b 4 4)).length + 1) _ (by rw [List.length_drop]; omega) (by omega)]
noncomputable def inVol (cl en : Nat) (x : Option Nat × Nat) : Bool := match x.1 with
 | none => true
 | some s => decide ((s + x.2) * cl ≤ en)
noncomputable def runsY (cl en : Nat) : Nat → Int → Bytes → Option (List (Option Nat × Nat))
 | 0, _, _ => none
 | n + 1, prev, b =>
  if b.length < 1 then none else if le b 0 1 = 0 then some []
  else if le b 0 1 % 16 = 0 ∨ 8 < le b 0 1 % 16 ∨ 8 < le b 0 1 / 16 ∨ b.length < 1 + le b 0 1 % 16 + le b 0 1 / 16 then none
  else if le b 1 (le b 0 1 % 16) = 0 ∨ 2 ^ 32 ≤ le b 1 (le b 0 1 % 16) then none
  else if le b 0 1 / 16 = 0 then (runsY cl en n prev (b.drop (1 + le b 0 1 % 16))).map ((none, le b 1 (le b 0 1 % 16)) :: ·)
  else if prev + signedLe b (1 + le b 0 1 % 16) (le b 0 1 / 16) < 0 ∨ (2 : Int) ^ 32 ≤ prev + signedLe b (1 + le b 0 1 % 16) (le b 0 1 / 16) ∨
    inVol cl en (some (prev + signedLe b (1 + le b 0 1 % 16) (le b 0 1 / 16)).toNat, le b 1 (le b 0 1 % 16)) = false then none
  else (runsY cl en n (prev + signedLe b (1 + le b 0 1 % 16) (le b 0 1 / 16)) (b.drop (1 + le b 0 1 % 16 + le b 0 1 / 16))).map ((some (prev + signedLe b (1 + le b 0 1 % 16) (le b 0 1 / 16)).toNat, le b 1 (le b 0 1 % 16)) :: ·)
noncomputable def allIn (cl en : Nat) (l : List (Option Nat × Nat)) : Option (List (Option Nat × Nat)) := if l.all (inVol cl en) = true then some l else none
theorem allIn_cons {cl en : Nat} {x : Option Nat × Nat} (o : Option (List (Option Nat × Nat))) (h : inVol cl en x = true) : (o.map (x :: ·)).bind (allIn cl en) = (o.bind (allIn cl en)).map (x :: ·) := by
 cases o with
 | none => rfl
 | some l =>
  simp only [Option.map_some, Option.bind_some, allIn, List.all_cons, h, Bool.true_and]
  by_cases q : l.all (inVol cl en) = true
  ·rw [if_pos q, if_pos q]; rfl
  ·rw [if_neg q, if_neg q]; rfl
theorem allIn_not {cl en : Nat} {x : Option Nat × Nat} (o : Option (List (Option Nat × Nat))) (h : inVol cl en x = false) : (o.map (x :: ·)).bind (allIn cl en) = none := by
 cases o with
 | none => rfl
 | some l => simp [allIn, h]
theorem signedLe_drop (b : Bytes) (p i n : Nat) : signedLe (b.drop p) i n = signedLe b (p + i) n := by
 unfold signedLe; simp only [le_drop]
theorem runsY_eq (cl en : Nat) : ∀ (n : Nat) (prev : Int) (b : Bytes), runsY cl en n prev b = (runs n prev b).bind (allIn cl en)
 | 0, _, _ => rfl
 | n + 1, prev, [] => by simp [runsY, runs]
 | n + 1, prev, h :: r => by
  have e0 : le (h :: r) 0 1 = h := le_one rfl
  have e1 : ∀ i k, le (h :: r) (1 + i) k = le r i k := fun i k => by rw [← le_drop (h :: r) 1]; rfl
  have e1' : ∀ k, le (h :: r) 1 k = le r 0 k := fun k => e1 0 k
  have e2 : ∀ i k, signedLe (h :: r) (1 + i) k = signedLe r i k := fun i k => by rw [← signedLe_drop (h :: r) 1]; rfl
  have e3 : ∀ i, (h :: r).drop (1 + i) = r.drop i := fun i => by rw [Nat.add_comm]; rfl
  unfold runsY
  rw [e0, if_neg (by simp)]
  by_cases h0 : h = 0
  ·subst h0; simp [runs, allIn]
  rw [if_neg h0]
  have er : runs (n + 1) prev (h :: r) = (if h % 16 = 0 ∨ 8 < h % 16 ∨ 8 < h / 16 ∨ r.length < h % 16 + h / 16 then none
   else if le r 0 (h % 16) = 0 ∨ 2 ^ 32 ≤ le r 0 (h % 16) then none
    else if h / 16 = 0 then (runs n prev (r.drop (h % 16))).map fun x => (none, le r 0 (h % 16)) :: x
    else if prev + signedLe r (h % 16) (h / 16) < 0 ∨ (2 : Int) ^ 32 ≤ prev + signedLe r (h % 16) (h / 16) then none else (runs n (prev + signedLe r (h % 16) (h / 16)) (r.drop (h % 16 + h / 16))).map fun x => (some (prev + signedLe r (h % 16) (h / 16)).toNat, le r 0 (h % 16)) :: x) := by
   cases h with
   | zero => exact absurd rfl h0
   | succ k => rfl
  rw [er, e1', e2, e3, Nat.add_assoc 1, e3]
  have hlen : (h :: r).length = r.length + 1 := rfl
  by_cases c1 : h % 16 = 0 ∨ 8 < h % 16 ∨ 8 < h / 16 ∨ r.length < h % 16 + h / 16
  ·rw [if_pos c1, if_pos (by omega)]; rfl
  rw [if_neg c1, if_neg (by omega)]
  by_cases c2 : le r 0 (h % 16) = 0 ∨ 2 ^ 32 ≤ le r 0 (h % 16)
  ·rw [if_pos c2, if_pos c2]; rfl
  rw [if_neg c2, if_neg c2]
  by_cases c3 : h / 16 = 0
  ·rw [if_pos c3, if_pos c3, allIn_cons _ rfl, runsY_eq cl en n prev (r.drop (h % 16))]
  rw [if_neg c3, if_neg c3]
  by_cases c4 : prev + signedLe r (h % 16) (h / 16) < 0 ∨ (2 : Int) ^ 32 ≤ prev + signedLe r (h % 16) (h / 16)
  ·rw [if_pos c4, if_pos (by rcases c4 with z | z; exact .inl z; exact .inr (.inl z))]; rfl
  rw [if_neg c4]
  by_cases c5 : inVol cl en (some (prev + signedLe r (h % 16) (h / 16)).toNat, le r 0 (h % 16)) = false
  ·rw [if_pos (.inr (.inr c5)), allIn_not _ c5]
  ·rw [if_neg (by rintro (z | z | z); exact c4 (.inl z); exact c4 (.inr z); exact c5 z), allIn_cons _ (by simpa using c5), runsY_eq cl en n _ (r.drop (h % 16 + h / 16))]
theorem runsY_fuel (cl en : Nat) : ∀ (n m : Nat) (prev : Int) (b : Bytes), b.length < n → b.length < m → runsY cl en n prev b = runsY cl en m prev b
 | 0, _, _, _, h, _ => by omega
 | _ + 1, 0, _, _, _, h => by omega
 | n + 1, m + 1, prev, b, h1, h2 => by
  unfold runsY
  by_cases c0 : b.length < 1
  ·rw [if_pos c0, if_pos c0]
  rw [if_neg c0, if_neg c0]
  rw [runsY_fuel cl en n m prev (b.drop (1 + le b 0 1 % 16)) (by rw [List.length_drop]; omega) (by rw [List.length_drop]; omega),
   runsY_fuel cl en n m _ (b.drop (1 + le b 0 1 % 16 + le b 0 1 / 16)) (by rw [List.length_drop]; omega) (by rw [List.length_drop]; omega)]
noncomputable def runsX (cl en : Nat) (prev : Int) (b : Bytes) : Option (List (Option Nat × Nat)) := runsY cl en (b.length + 1) prev b
theorem runsX_eq {cl en n : Nat} {prev : Int} {b : Bytes} (h : b.length < n) : (runs n prev b).bind (allIn cl en) = runsX cl en prev b := by
 rw [← runsY_eq]; exact runsY_fuel cl en _ _ _ _ h (by omega)
theorem runsX_rec (cl en : Nat) (prev : Int) (b : Bytes) : runsX cl en prev b = if b.length < 1 then none else if le b 0 1 = 0 then some []
  else if le b 0 1 % 16 = 0 ∨ 8 < le b 0 1 % 16 ∨ 8 < le b 0 1 / 16 ∨ b.length < 1 + le b 0 1 % 16 + le b 0 1 / 16 then none
  else if le b 1 (le b 0 1 % 16) = 0 ∨ 2 ^ 32 ≤ le b 1 (le b 0 1 % 16) then none
  else if le b 0 1 / 16 = 0 then (runsX cl en prev (b.drop (1 + le b 0 1 % 16))).map ((none, le b 1 (le b 0 1 % 16)) :: ·)
  else if prev + signedLe b (1 + le b 0 1 % 16) (le b 0 1 / 16) < 0 ∨ (2 : Int) ^ 32 ≤ prev + signedLe b (1 + le b 0 1 % 16) (le b 0 1 / 16) ∨
    inVol cl en (some (prev + signedLe b (1 + le b 0 1 % 16) (le b 0 1 / 16)).toNat, le b 1 (le b 0 1 % 16)) = false then none
  else (runsX cl en (prev + signedLe b (1 + le b 0 1 % 16) (le b 0 1 / 16)) (b.drop (1 + le b 0 1 % 16 + le b 0 1 / 16))).map ((some (prev + signedLe b (1 + le b 0 1 % 16) (le b 0 1 / 16)).toNat, le b 1 (le b 0 1 % 16)) :: ·) := by
 rw [runsX, runsY]
 by_cases c0 : b.length < 1
 ·rw [if_pos c0, if_pos c0]
 rw [if_neg c0, if_neg c0, runsX, runsX]
 rw [runsY_fuel cl en b.length ((b.drop (1 + le b 0 1 % 16)).length + 1) prev (b.drop (1 + le b 0 1 % 16)) (by rw [List.length_drop]; omega) (by omega),
  runsY_fuel cl en b.length ((b.drop (1 + le b 0 1 % 16 + le b 0 1 / 16)).length + 1) _ (b.drop (1 + le b 0 1 % 16 + le b 0 1 / 16)) (by rw [List.length_drop]; omega) (by omega)]
noncomputable def sum2 (l : List (Option Nat × Nat)) : Nat := (l.map fun x => x.2).sum
noncomputable def heldIn (cl en : Nat) (b : Bytes) : Option Content :=
 if b.length < 64 ∨ le b 16 8 ≠ 0 ∨ (signedLe b 24 8 + 1) * (cl : Int) < (le b 48 8 : Int) ∨ le b 48 8 < le b 56 8 then none
 else (runsX cl en 0 (b.drop (le b 32 2))).bind fun l => if (sum2 l : Int) = signedLe b 24 8 + 1 then some ⟨le b 48 8, none, l, le b 56 8⟩ else none
theorem runs_few : ∀ (n : Nat) (prev : Int) (b : Bytes) (l : List (Option Nat × Nat)), runs n prev b = some l → sum2 l ≤ b.length * 2 ^ 32 ∧ ∀ x ∈ l, 1 ≤ x.2 ∧ x.2 < 2 ^ 32 ∧ ∀ s, x.1 = some s → s < 2 ^ 32
 | 0, _, _, _, h => by cases h
 | n + 1, prev, [], l, h => by cases h
 | n + 1, prev, 0 :: r, l, h => by cases h; exact ⟨Nat.zero_le _, fun x hx => by cases hx⟩
 | n + 1, prev, (k + 1) :: r, l, h => by
  unfold runs at h
  simp only at h
  split at h
  ·cases h
  split at h
  ·cases h
  rename_i c1 c2
  split at h
  ·obtain ⟨l', e, rfl⟩ := Option.map_eq_some_iff.mp h
   obtain ⟨i1, i2⟩ := runs_few n _ _ _ e
   rw [List.length_drop] at i1
   refine ⟨?_, fun x hx => ?_⟩
   ·have e2 : sum2 ((none, le r 0 ((k + 1) % 16)) :: l') = le r 0 ((k + 1) % 16) + sum2 l' := by simp [sum2]
    rw [e2, List.length_cons]; omega
   ·rcases List.mem_cons.mp hx with rfl | hx
    ·exact ⟨by simp only; omega, by simp only; omega, fun s z => by cases z⟩
    ·exact i2 x hx
  ·split at h
   ·cases h
   rename_i c3 c4
   obtain ⟨l', e, rfl⟩ := Option.map_eq_some_iff.mp h
   obtain ⟨i1, i2⟩ := runs_few n _ _ _ e
   rw [List.length_drop] at i1
   refine ⟨?_, fun x hx => ?_⟩
   ·have e2 : ∀ z, sum2 ((some z, le r 0 ((k + 1) % 16)) :: l') = le r 0 ((k + 1) % 16) + sum2 l' := fun z => by simp [sum2]
    rw [e2, List.length_cons]; omega
   ·rcases List.mem_cons.mp hx with rfl | hx
    ·exact ⟨by simp only; omega, by simp only; omega, fun s z => by cases z; omega⟩
    ·exact i2 x hx
theorem told_eq {b : Bytes} (hb : Byt b) {k : Nat} (hk : k < 2 ^ 63) : ((k : Int) = signedLe b 24 8 + 1) ↔ (le b 24 8 + 1) % 2 ^ 64 = k := by
 have h := le_lt hb 24 8
 unfold signedLe
 simp only
 rw [if_neg (by decide)]
 have e1 : (2 : Nat) ^ (8 * 8 - 1) = 9223372036854775808 := by decide
 have e2 : (2 : Int) ^ (8 * 8) = 18446744073709551616 := by decide
 have e3 : (256 : Nat) ^ 8 = 18446744073709551616 := by decide
 have e4 : (2 : Nat) ^ 64 = 18446744073709551616 := by decide
 have e5 : (2 : Nat) ^ 63 = 9223372036854775808 := by decide
 rw [e1, e2, e4]
 rw [e3] at h
 rw [e5] at hk
 by_cases q : le b 24 8 < 9223372036854775808
 ·rw [if_pos q]; omega
 ·rw [if_neg q]; omega
theorem held_content {v : Volume} {a : Attr} {cl en : Nat} (ok : AttrOk a) (hcl : v.cluster = cl) (hen : v.image.length = en) (h1 : le a.bytes 8 1 = 1) (hl : a.bytes.length < 2 ^ 30) : content v a = heldIn cl en a.bytes := by
 obtain ⟨kind, name, b⟩ := a
 have hb : Byt b := ok.byt
 unfold content heldIn
 simp only at h1 hl ⊢
 rw [if_neg (by omega)]
 by_cases c1 : b.length < 64 ∨ le b 16 8 ≠ 0
 ·rw [if_pos (by omega), if_pos (by omega)]
 by_cases c2 : b.length < le b 32 2
 ·rw [if_pos (by omega)]
  have : runsX cl en 0 (b.drop (le b 32 2)) = none := by rw [List.drop_eq_nil_of_le (by omega), runsX_rec]; simp
  rw [this]
  split <;> rfl
 rw [if_neg (by omega)]
 have hx := runsX_eq (cl := cl) (en := en) (n := b.length + 1) (prev := 0) (b := b.drop (le b 32 2)) (by rw [List.length_drop]; omega)
 rw [← hx]
 cases er : runs (b.length + 1) 0 (b.drop (le b 32 2)) with
 | none => simp
 | some l =>
  obtain ⟨hs, _⟩ := runs_few _ _ _ _ er
  rw [List.length_drop] at hs
  have hk : sum2 l < 2 ^ 63 := by
   have : (b.length - le b 32 2) * 2 ^ 32 ≤ 2 ^ 30 * 2 ^ 32 := Nat.mul_le_mul_right _ (by omega)
   omega
  have te := told_eq hb hk
  have out : (l.any fun x => x.1.any fun s => decide (v.image.length < v.cluster * (s + x.2))) = !l.all (inVol cl en) := by
   rw [hcl, hen, List.not_all_eq_any_not]
   congr 1
   funext x
   obtain ⟨s, n⟩ := x
   cases s with
   | none => rfl
   | some s =>
    show decide (en < cl * (s + n)) = !decide ((s + n) * cl ≤ en)
    rw [Nat.mul_comm cl]
    by_cases z : (s + n) * cl ≤ en
    ·simp [z]
    ·simp [z]; omega
  simp only [Option.bind_some]
  rw [out, show (l.map fun x => x.2).sum = sum2 l from rfl, hcl]
  unfold allIn
  by_cases q1 : l.all (inVol cl en) = true
  ·simp only [q1, if_true, Option.bind_some]
   by_cases q2 : (le b 24 8 + 1) % 2 ^ 64 = sum2 l
   ·have t := te.mpr q2
    rw [if_pos t, ← t]
    by_cases q3 : cl * sum2 l < le b 48 8 ∨ le b 48 8 < le b 56 8
    ·rw [if_pos (by rcases q3 with z | z; exact .inr (.inl z); exact .inr (.inr (.inl z)))]
     rw [if_pos]
     rcases q3 with z | z
     ·refine .inr (.inr (.inl ?_))
      rw [Nat.mul_comm] at z
      exact_mod_cast z
     ·exact .inr (.inr (.inr z))
    ·rw [if_neg (by rintro (z | z | z | z); exact z q2; exact q3 (.inl z); exact q3 (.inr z); simp at z)]
     rw [if_neg]
     rintro (z | z | z | z)
     ·exact c1 (.inl z)
     ·exact c1 (.inr z)
     ·refine q3 (.inl ?_)
      rw [Nat.mul_comm]
      exact_mod_cast z
     ·exact q3 (.inr z)
   ·rw [if_pos (.inl q2), if_neg (fun z => q2 (te.mp z))]
    split <;> rfl
  ·rw [if_pos (by simp [q1])]
   simp only [if_neg q1]
   split <;> rfl
end Sv
end
section
namespace Sv
open Sn35
theorem range_map_drop {b : Bytes} {x m : Nat} (h : x + m ≤ b.length) : (b.drop x).take m = (List.range m).map fun t => b.getD (x + t) 0 := by
 apply List.ext_getElem?
 intro i
 rw [List.getElem?_take, List.getElem?_map]
 by_cases hi : i < m
 ·rw [if_pos hi, List.getElem?_drop, List.getElem?_range hi, Option.map_some, List.getD_eq_getElem?_getD, List.getElem?_eq_getElem (by omega)]; rfl
 ·rw [if_neg hi, List.getElem?_eq_none (by rw [List.length_range]; omega)]; rfl
noncomputable def inCl (v : Volume) (rs : List (Option Nat × Nat)) (i : Nat) : Nat := match clusterOf rs (i / v.cluster) with
 | some k => v.image.getD (v.cluster * k + i % v.cluster) 0
 | none => 0
noncomputable def gs (g : Nat → Nat) (a b : Nat) : Bytes := (List.range (b - a)).map fun t => g (a + t)
theorem gs_nil {g : Nat → Nat} {a b : Nat} (h : b ≤ a) : gs g a b = [] := by unfold gs; rw [show b - a = 0 by omega]; rfl
theorem gs_len (g : Nat → Nat) (a b : Nat) : (gs g a b).length = b - a := by simp [gs]
theorem gs_append {g : Nat → Nat} {a b c : Nat} (h1 : a ≤ b) (h2 : b ≤ c) : gs g a c = gs g a b ++ gs g b c := by
 unfold gs
 rw [show c - a = (b - a) + (c - b) by omega, List.range_add, List.map_append, List.map_map]
 congr 1
 apply List.map_congr_left
 intro t _
 show g (a + (b - a + t)) = g (b + t)
 congr 1; omega
theorem gs_congr {g g' : Nat → Nat} {a b : Nat} (h : ∀ i, a ≤ i → i < b → g i = g' i) : gs g a b = gs g' a b := by
 unfold gs
 apply List.map_congr_left
 intro t ht
 have := List.mem_range.mp ht
 exact h _ (by omega) (by omega)
theorem gs_step (g : Nat → Nat) (place en rp re : Nat) (h : rp ≤ re) : gs g place (min en re) = gs g place (min en rp) ++ gs g (max place rp) (min en re) := by
 by_cases c1 : min en rp ≤ place
 ·rw [gs_nil c1, List.nil_append]
  by_cases c2 : rp ≤ place
  ·rw [Nat.max_eq_left c2]
  ·rw [gs_nil (by omega), gs_nil (by omega)]
 ·by_cases c2 : en ≤ rp
  ·rw [gs_nil (a := max place rp) (by omega), List.append_nil, show min en re = min en rp by omega]
  ·rw [show min en rp = rp by omega, show max place rp = rp by omega]
   exact gs_append (by omega) (by omega)
theorem sum2_nil : sum2 [] = 0 := rfl
theorem sum2_cons (x : Option Nat × Nat) (l : List (Option Nat × Nat)) : sum2 (x :: l) = x.2 + sum2 l := by simp [sum2]
theorem sum2_snoc : ∀ (l : List (Option Nat × Nat)) (x : Option Nat × Nat), sum2 (l ++ [x]) = sum2 l + x.2
 | [], x => by simp [sum2]
 | y :: l, x => by rw [List.cons_append, sum2_cons, sum2_cons, sum2_snoc l x]; omega
theorem clusterOf_at : ∀ (rs : List (Option Nat × Nat)) (j : Nat) (s : Option Nat) (n q : Nat), rs[j]? = some (s, n) → sum2 (rs.take j) ≤ q → q < sum2 (rs.take j) + n → clusterOf rs q = s.map fun s => s + (q - sum2 (rs.take j))
 | [], j, _, _, _, h, _, _ => by simp at h
 | (s0, n0) :: r, 0, s, n, q, h, h1, h2 => by
  cases h
  simp only [List.take_zero, sum2_nil, Nat.zero_add] at h2
  unfold clusterOf
  rw [if_pos h2]; rfl
 | (s0, n0) :: r, j + 1, s, n, q, h, h1, h2 => by
  rw [List.take_succ_cons, sum2_cons] at h1 h2 ⊢
  simp only at h1 h2
  unfold clusterOf
  rw [if_neg (by omega), clusterOf_at r j s n (q - n0) h (by omega) (by omega)]
  simp only
  congr 1
  funext z
  omega
theorem run_zero {v : Volume} {rs : List (Option Nat × Nat)} {j n low high : Nat} (hc : 0 < v.cluster) (hj : rs[j]? = some (none, n)) (h1 : v.cluster * sum2 (rs.take j) ≤ low) (h2 : high ≤ v.cluster * sum2 (rs.take j) + n * v.cluster) :
  gs (inCl v rs) low high = List.replicate (high - low) 0 := by
 rw [List.eq_replicate_iff]
 refine ⟨gs_len _ _ _, fun x hx => ?_⟩
 obtain ⟨t, ht, rfl⟩ := List.mem_map.mp hx
 have ht := List.mem_range.mp ht
 have hq1 : sum2 (rs.take j) ≤ (low + t) / v.cluster := (Nat.le_div_iff_mul_le hc).mpr (by rw [Nat.mul_comm]; omega)
 have hq2 : (low + t) / v.cluster < sum2 (rs.take j) + n := (Nat.div_lt_iff_lt_mul hc).mpr (by rw [Nat.add_mul, Nat.mul_comm (sum2 _)]; omega)
 unfold inCl
 rw [clusterOf_at rs j none n _ hj hq1 hq2]; rfl
theorem run_some {v : Volume} {rs : List (Option Nat × Nat)} {j s n low high : Nat} (hc : 0 < v.cluster) (hj : rs[j]? = some (some s, n)) (h1 : v.cluster * sum2 (rs.take j) ≤ low) (h2 : high ≤ v.cluster * sum2 (rs.take j) + n * v.cluster) (h3 : low ≤ high)
  (hv : (s + n) * v.cluster ≤ v.image.length) :
  gs (inCl v rs) low high = (v.image.drop (s * v.cluster + (low - v.cluster * sum2 (rs.take j)))).take (high - low) := by
 rw [range_map_drop]
 ·unfold gs
  apply List.map_congr_left
  intro t ht
  have ht := List.mem_range.mp ht
  have hq1 : sum2 (rs.take j) ≤ (low + t) / v.cluster := (Nat.le_div_iff_mul_le hc).mpr (by rw [Nat.mul_comm]; omega)
  have hq2 : (low + t) / v.cluster < sum2 (rs.take j) + n := (Nat.div_lt_iff_lt_mul hc).mpr (by rw [Nat.add_mul, Nat.mul_comm (sum2 _)]; omega)
  unfold inCl
  rw [clusterOf_at rs j (some s) n _ hj hq1 hq2]
  simp only [Option.map_some]
  congr 1
  have hd := Nat.div_add_mod (low + t) v.cluster
  have e1 : v.cluster * (s + ((low + t) / v.cluster - sum2 (rs.take j))) + v.cluster * sum2 (rs.take j) = v.cluster * s + v.cluster * ((low + t) / v.cluster) := by
   rw [← Nat.mul_add, ← Nat.mul_add]
   congr 1; omega
  have e2 : s * v.cluster = v.cluster * s := Nat.mul_comm _ _
  omega
 ·have e2 : (s + n) * v.cluster = s * v.cluster + n * v.cluster := Nat.add_mul _ _ _
  omega
noncomputable def takenO (v : Volume) (c : Content) (place many : Nat) : Option Bytes := if c.size < place + many then none else some (c.bytes v place many)
theorem takenO_some {v : Volume} {c : Content} {place many : Nat} (h : place + many ≤ c.size) : takenO v c place many = some (c.bytes v place many) := if_neg (by omega)
theorem taken_len {v : Volume} {c : Content} {place many : Nat} (h : place + many ≤ c.size) : (c.bytes v place many).length = many := by
 unfold Content.bytes; rw [List.length_map, List.length_range]; omega
theorem taken_here {v : Volume} {c : Content} {b : Bytes} {place many : Nat} (hi : c.inside = some b) (hs : b.length = c.size) : takenO v c place many = part b place many := by
 unfold takenO part
 rw [hs]
 by_cases h : c.size < place + many
 ·rw [if_pos h, if_pos h]
 ·rw [if_neg h, if_neg h, range_map_drop (by omega)]
  unfold Content.bytes
  rw [Nat.min_eq_left (by omega)]
  congr 1
  apply List.map_congr_left
  intro t _
  unfold Content.byte
  rw [hi]
theorem taken_runs {v : Volume} {c : Content} {place many : Nat} (hi : c.inside = none) (h : place + many ≤ c.size) :
  c.bytes v place many = gs (inCl v c.runs) place (min (place + many) c.begun) ++ List.replicate (many - (min (place + many) c.begun - place)) 0 := by
 have hb : ∀ i, c.byte v i = if c.begun ≤ i then 0 else inCl v c.runs i := fun i => by
  unfold Content.byte inCl
  rw [hi]
  rfl
 have e : c.bytes v place many = gs (fun i => if c.begun ≤ i then 0 else inCl v c.runs i) place (place + many) := by
  unfold Content.bytes gs
  rw [Nat.min_eq_left (by omega), show place + many - place = many by omega]
  apply List.map_congr_left
  intro t _
  exact hb _
 rw [e]
 by_cases c1 : c.begun ≤ place
 ·rw [gs_nil (b := min _ _) (by omega), List.nil_append, show many - (min (place + many) c.begun - place) = many by omega, List.eq_replicate_iff]
  refine ⟨by rw [gs_len]; omega, fun x hx => ?_⟩
  obtain ⟨t, ht, rfl⟩ := List.mem_map.mp hx
  simp only
  rw [if_pos (by omega)]
 ·rw [gs_append (b := min (place + many) c.begun) (by omega) (by omega)]
  congr 1
  ·exact gs_congr fun i h1 h2 => if_neg (by omega)
  ·rw [List.eq_replicate_iff]
   refine ⟨by rw [gs_len]; omega, fun x hx => ?_⟩
   obtain ⟨t, ht, rfl⟩ := List.mem_map.mp hx
   have ht := List.mem_range.mp ht
   simp only
   rw [if_pos (by omega)]
theorem getD_byt {b : Bytes} (h : Byt b) (i : Nat) : b.getD i 0 < 256 := by
 rw [List.getD_eq_getElem?_getD]
 cases e : b[i]? with
 | none => exact (by decide : (0 : Nat) < 256)
 | some x => exact h x (List.mem_of_getElem? e)
theorem bytes_byt {v : Volume} {c : Content} (hv : Byt v.image) (hc : ∀ b, c.inside = some b → Byt b) (i n : Nat) : Byt (c.bytes v i n) := by
 intro x hx
 obtain ⟨t, _, rfl⟩ := List.mem_map.mp hx
 unfold Content.byte
 split
 ·rename_i b e; exact getD_byt (hc b e) _
 ·split
  ·decide
  ·split
   ·exact getD_byt hv _
   ·decide
structure ContOk (v : Volume) (c : Content) : Prop where
 here : ∀ b, c.inside = some b → b.length = c.size ∧ Byt b
 beg : c.begun ≤ c.size
 room : c.inside = none → c.size ≤ v.cluster * sum2 c.runs
 runs : ∀ x ∈ c.runs, 1 ≤ x.2 ∧ x.2 < 2 ^ 32 ∧ inVol v.cluster v.image.length x = true
theorem runsY_in (cl en : Nat) : ∀ (n : Nat) (prev : Int) (b : Bytes) (l : List (Option Nat × Nat)), runsY cl en n prev b = some l → ∀ x ∈ l, inVol cl en x = true := fun n prev b l h x hx => by
 rw [runsY_eq] at h
 obtain ⟨l', e, h2⟩ := Option.bind_eq_some_iff.mp h
 unfold allIn at h2
 split at h2
 ·cases h2
  rename_i q
  exact List.all_eq_true.mp q x hx
 ·cases h2
theorem contOk_in {v : Volume} {b : Bytes} {c : Content} (h : heldIn v.cluster v.image.length b = some c) : ContOk v c ∧ c.inside = none := by
 unfold heldIn at h
 split at h
 ·cases h
 rename_i hn
 obtain ⟨l, hr, h⟩ := Option.bind_eq_some_iff.mp h
 split at h
 ·rename_i hs
  cases h
  have hr0 := hr
  unfold runsX at hr
  rw [runsY_eq] at hr
  obtain ⟨l', e, h2⟩ := Option.bind_eq_some_iff.mp hr
  have e2 : l' = l := by
   unfold allIn at h2
   split at h2
   ·cases h2; rfl
   ·cases h2
  subst e2
  obtain ⟨_, f⟩ := runs_few _ _ _ _ e
  refine ⟨⟨fun b z => (by cases z), by simp only; omega, fun _ => ?_, fun x hx => ?_⟩, rfl⟩
  ·simp only
   rw [← hs] at hn
   have : ¬ ((sum2 l' : Int) * (v.cluster : Int) < (le b 48 8 : Int)) := by omega
   rw [Nat.mul_comm]
   have h5 : ¬ (sum2 l' * v.cluster < le b 48 8) := by exact_mod_cast this
   omega
  ·obtain ⟨f1, f2, _⟩ := f x hx
   exact ⟨f1, f2, runsY_in _ _ _ _ _ _ hr0 x hx⟩
 ·cases h
theorem content_here {v : Volume} {a : Attr} (ok : AttrOk a) (h0 : le a.bytes 8 1 = 0) : content v a = (part a.bytes (le a.bytes 20 2) (le a.bytes 16 4)).map fun x => ⟨le a.bytes 16 4, some x, [], le a.bytes 16 4⟩ := by
 unfold content
 simp only
 rw [if_pos h0, if_neg (by rw [ok.fl h0]; simp)]
theorem contOk_here {v : Volume} {a : Attr} {c : Content} (ok : AttrOk a) (h0 : le a.bytes 8 1 = 0) (h : content v a = some c) : ContOk v c ∧ c.inside.isSome = true := by
 rw [content_here ok h0] at h
 obtain ⟨x, hx, rfl⟩ := Option.map_eq_some_iff.mp h
 obtain ⟨h1, h2, h3⟩ := part_len hx
 refine ⟨⟨fun b z => ?_, Nat.le_refl _, fun z => (by cases z), fun x hx => by cases hx⟩, rfl⟩
 cases z
 exact ⟨h1, by rw [h3]; exact (ok.byt.drop _).take _⟩
end Sv
end
section
namespace Sv
open Sn35
structure Ent where
 len : Nat
 e : Entry
 last : Bool
noncomputable def goodName (l : List Nat) : Bool := (l.all fun c => decide (32 ≤ c) && decide (c ≤ 126)) && !l.contains 47
noncomputable def ownLen (l f : Nat) : Nat := if f % 2 = 1 then l - 8 else l
noncomputable def downOf (b : Bytes) (l f : Nat) : Option Nat := if f % 2 = 1 then some (le b (l - 8) 8) else none
noncomputable def entOf (b : Bytes) : Option Ent :=
 if b.length < 10 ∨ le b 8 2 % 8 ≠ 0 ∨ le b 8 2 < 16 ∨ b.length < le b 8 2 ∨ 3 < le b 12 2 ∨ (le b 12 2 % 2 = 1 ∧ le b 8 2 < 24) then none
 else if 2 ≤ le b 12 2 then some ⟨le b 8 2, ⟨le b 0 6, le b 6 2, [], 0, downOf b (le b 8 2) (le b 12 2)⟩, true⟩
 else if ownLen (le b 8 2) (le b 12 2) < 82 ∨ 3 < le b 81 1 ∨ le b 80 1 < 1 ∨ le b 10 2 ≠ 66 + 2 * le b 80 1 ∨ ownLen (le b 8 2) (le b 12 2) < 82 + 2 * le b 80 1 ∨ goodName (lets b 82 (le b 80 1)) = false then none
 else some ⟨le b 8 2, ⟨le b 0 6, le b 6 2, lets b 82 (le b 80 1), le b 81 1, downOf b (le b 8 2) (le b 12 2)⟩, false⟩
noncomputable def entsY (hb : Bool) : Nat → Bytes → Option (List Ent)
 | 0, _ => none
 | n + 1, b => (entOf b).bind fun x => if x.e.down.isSome = hb then (if x.last = true then some [x] else (entsY hb n (b.drop x.len)).map (x :: ·)) else none
noncomputable def split : List Ent → List Entry × Option Nat
 | [] => ([], none)
 | x :: r => if x.last = true then ([], x.e.down) else (x.e :: (split r).1, (split r).2)
theorem nameOk_good {b : Bytes} {k : Nat} (hk : k < 256) : nameOk (lets b 82 k) = (decide (1 ≤ k) && goodName (lets b 82 k)) := by
 unfold nameOk goodName
 have h1 : (lets b 82 k != []) = decide (1 ≤ k) := by
  cases k with
  | zero => rfl
  | succ k =>
   have : lets b 82 (k + 1) ≠ [] := fun z => by
    have := congrArg List.length z
    rw [lets_len] at this; cases this
   rw [bne_iff_ne.mpr this]; simp
 have h2 : decide ((lets b 82 k).length ≤ 255) = true := by rw [lets_len]; simp; omega
 rw [h1, h2, Bool.true_and]
 congr 1
 induction lets b 82 k with
 | nil => rfl
 | cons c l ih =>
  rw [List.all_cons, List.all_cons, List.contains_cons, ih]
  cases decide (32 ≤ c) <;> cases decide (c ≤ 126) <;> simp
  by_cases q : c = 47
  ·subst q; simp
  ·have q' : ¬ (47 = c) := fun z => q z.symm
   have e1 : (c == 47) = false := beq_eq_false_iff_ne.mpr q
   have e2 : (47 == c) = false := beq_eq_false_iff_ne.mpr q'
   have e3 : (c != 47) = true := bne_iff_ne.mpr q
   rw [e3, e2]; simp
noncomputable def hbOk (hb : Bool) (x : List Entry × Option Nat) : Bool := (x.1.all fun e => e.down.isSome == hb) && (x.2.isSome == hb)
theorem entsY_eq (hb : Bool) : ∀ (n : Nat) (b : Bytes), Byt b → (entsY hb n b).map split = (entries n b).bind fun x => if hbOk hb x = true then some x else none
 | 0, _, _ => rfl
 | n + 1, b, hB => by
  have ih := entsY_eq hb n (b.drop (le b 8 2)) (hB.drop _)
  have hk : le b 80 1 < 256 := le_lt hB 80 1
  unfold entsY entries entOf
  simp only
  by_cases c1 : b.length < 16 ∨ le b 8 2 < 16 ∨ le b 8 2 % 8 ≠ 0 ∨ b.length < le b 8 2 ∨ 3 < le b 12 2 ∨ (le b 12 2 % 2 = 1 ∧ le b 8 2 < 24)
  ·rw [if_pos c1, if_pos (by omega)]; rfl
  rw [if_neg c1, if_neg (c := b.length < 10 ∨ _) (by omega)]
  have hd : downOf b (le b 8 2) (le b 12 2) = (if le b 12 2 % 2 = 1 then some (le b (le b 8 2 - 8) 8) else none) := rfl
  rw [← hd]
  by_cases c2 : 2 ≤ le b 12 2
  ·rw [if_pos c2, if_pos c2]
   simp only [Option.bind_some]
   unfold hbOk
   by_cases q : (downOf b (le b 8 2) (le b 12 2)).isSome = hb
   ·simp [q, split]
   ·simp [q]
  rw [if_neg c2, if_neg c2]
  have hol : ownLen (le b 8 2) (le b 12 2) = le b 8 2 - (if le b 12 2 % 2 = 1 then 8 else 0) := by
   unfold ownLen; split <;> omega
  have hu : ∀ h : 82 + 2 * le b 80 1 ≤ b.length, lets b 82 (le b 80 1) = units ((b.drop 82).take (2 * le b 80 1)) := fun h => lets_units h
  by_cases c3 : le b 8 2 < 82 + 2 * le b 80 1 + (if le b 12 2 % 2 = 1 then 8 else 0)
  ·rw [if_pos (by rw [hol]; by_cases z : le b 12 2 % 2 = 1 <;> simp only [z, if_true, if_false, Nat.add_zero, Nat.sub_zero] at c3 ⊢ <;> omega), if_pos (.inr (.inl c3))]; rfl
  have hn := hu (by split at c3 <;> omega)
  rw [← hn, nameOk_good hk]
  by_cases c4 : le b 10 2 ≠ 66 + 2 * le b 80 1 ∨ (decide (1 ≤ le b 80 1) && goodName (lets b 82 (le b 80 1))) = false ∨ 3 < le b 81 1
  ·rw [if_pos (c := le b 10 2 ≠ _ ∨ _) (by rcases c4 with z | z | z; exact .inl z; exact .inr (.inr (.inl z)); exact .inr (.inr (.inr z)))]
   rw [if_pos]
   ·rfl
   ·rcases c4 with z | z | z
    ·exact .inr (.inr (.inr (.inl z)))
    ·rw [Bool.and_eq_false_iff] at z
     rcases z with z | z
     ·simp at z
      exact .inr (.inr (.inl (by omega)))
     ·exact .inr (.inr (.inr (.inr (.inr z))))
    ·exact .inr (.inl z)
  have c5 : le b 10 2 = 66 + 2 * le b 80 1 ∧ 1 ≤ le b 80 1 ∧ goodName (lets b 82 (le b 80 1)) = true ∧ le b 81 1 ≤ 3 := by
   refine ⟨Classical.byContradiction fun z => c4 (.inl z), ?_, ?_, by omega⟩
   ·exact Classical.byContradiction fun z => c4 (.inr (.inl (by simp [z])))
   ·cases q : goodName (lets b 82 (le b 80 1)) with
    | true => rfl
    | false => exact absurd (.inr (.inl (by simp [q]))) c4
  rw [if_neg (c := le b 10 2 ≠ _ ∨ _) (by rintro (z | z | z | z); exact z c5.1; exact c3 z; exact c4 (.inr (.inl z)); omega)]
  rw [if_neg (by rw [hol]; rintro (z | z | z | z | z | z) <;> first | (split at c3 <;> omega) | omega | (rw [c5.2.2.1] at z; cases z))]
  simp only [Option.bind_some]
  have eih : ∀ y, entsY hb n (b.drop (le b 8 2)) = y → y.map split = (entries n (b.drop (le b 8 2))).bind fun x => if hbOk hb x = true then some x else none := fun y e => by rw [← e]; exact ih
  generalize entsY hb n (b.drop (le b 8 2)) = ys at eih ⊢
  have ih := eih ys rfl
  cases er : entries n (b.drop (le b 8 2)) with
  | none =>
   rw [er] at ih
   cases ys with
   | none => by_cases q : (downOf b (le b 8 2) (le b 12 2)).isSome = hb <;> simp [q]
   | some l => simp at ih
  | some x =>
   rw [er] at ih
   simp only [Option.bind_some] at ih
   simp only [Option.map_some, Option.bind_some]
   by_cases q : (downOf b (le b 8 2) (le b 12 2)).isSome = hb
   ·rw [if_pos q]
    simp only [Bool.false_eq_true, if_false]
    have e1 : hbOk hb (⟨le b 0 6, le b 6 2, lets b 82 (le b 80 1), le b 81 1, downOf b (le b 8 2) (le b 12 2)⟩ :: x.1, x.2) = hbOk hb x := by
     unfold hbOk
     simp [q]
    rw [e1]
    by_cases q2 : hbOk hb x = true
    ·rw [if_pos q2] at ih ⊢
     cases ys with
     | none => simp at ih
     | some l =>
      simp only [Option.map_some, Option.some.injEq] at ih ⊢
      simp [split, ih]
    ·rw [if_neg q2] at ih ⊢
     cases ys with
     | none => rfl
     | some l => simp at ih
   ·rw [if_neg q]
    have e1 : hbOk hb (⟨le b 0 6, le b 6 2, lets b 82 (le b 80 1), le b 81 1, downOf b (le b 8 2) (le b 12 2)⟩ :: x.1, x.2) = false := by
     unfold hbOk
     simp [q]
    rw [e1]; rfl
theorem entOf_len {b : Bytes} {x : Ent} (h : entOf b = some x) : x.len = le b 8 2 ∧ 16 ≤ x.len ∧ x.len ≤ b.length := by
 unfold entOf at h
 split at h
 ·cases h
 split at h
 ·cases h; exact ⟨rfl, by simp only; omega, by simp only; omega⟩
 split at h
 ·cases h
 ·cases h; exact ⟨rfl, by simp only; omega, by simp only; omega⟩
theorem entsY_fuel (hb : Bool) : ∀ (n m : Nat) (b : Bytes), b.length < n → b.length < m → entsY hb n b = entsY hb m b
 | 0, _, _, h, _ => by omega
 | _ + 1, 0, _, _, h => by omega
 | n + 1, m + 1, b, h1, h2 => by
  unfold entsY
  cases e : entOf b with
  | none => rfl
  | some x =>
   obtain ⟨_, h3, h4⟩ := entOf_len e
   simp only [Option.bind_some]
   rw [entsY_fuel hb n m (b.drop x.len) (by rw [List.length_drop]; omega) (by rw [List.length_drop]; omega)]
noncomputable def entsX (hb : Bool) (b : Bytes) : Option (List Ent) := entsY hb (b.length + 1) b
theorem entsX_rec (hb : Bool) (b : Bytes) : entsX hb b = (entOf b).bind fun x => if x.e.down.isSome = hb then (if x.last = true then some [x] else (entsX hb (b.drop x.len)).map (x :: ·)) else none := by
 rw [entsX, entsY]
 cases e : entOf b with
 | none => rfl
 | some x =>
  obtain ⟨_, h3, h4⟩ := entOf_len e
  simp only [Option.bind_some]
  rw [entsX, entsY_fuel hb b.length ((b.drop x.len).length + 1) _ (by rw [List.length_drop]; omega) (by omega)]
noncomputable def nodeP (b : Bytes) (at_ : Nat) : Option (List Ent) :=
 if b.length < at_ + 16 ∨ b.length < at_ + le b (at_ + 4) 4 ∨ le b at_ 4 % 8 ≠ 0 ∨ le b at_ 4 < 16 then none
 else entsX (le b (at_ + 12) 1 % 2 == 1) ((b.drop at_).take (le b (at_ + 4) 4) |>.drop (le b at_ 4))
theorem nodeP_eq {b : Bytes} (hb : Byt b) (at_ : Nat) : (nodeP b at_).map split = node b at_ := by
 unfold nodeP node
 simp only
 by_cases c1 : b.length < at_ + le b (at_ + 4) 4 ∨ le b (at_ + 4) 4 < le b at_ 4 ∨ le b at_ 4 < 16 ∨ le b at_ 4 % 8 ≠ 0
 ·rw [if_pos c1]
  by_cases c2 : b.length < at_ + 16 ∨ b.length < at_ + le b (at_ + 4) 4 ∨ le b at_ 4 % 8 ≠ 0 ∨ le b at_ 4 < 16
  ·rw [if_pos c2]; rfl
  ·rw [if_neg c2, List.drop_eq_nil_of_le (by rw [List.length_take, List.length_drop]; omega), entsX_rec]
   rfl
 rw [if_neg c1, if_neg (by omega)]
 have e : ((b.drop at_).take (le b (at_ + 4) 4)).drop (le b at_ 4) = (b.drop (at_ + le b at_ 4)).take (le b (at_ + 4) 4 - le b at_ 4) := by
  rw [List.drop_take, List.drop_drop]
 rw [e]
 have hl : ((b.drop (at_ + le b at_ 4)).take (le b (at_ + 4) 4 - le b at_ 4)).length = le b (at_ + 4) 4 - le b at_ 4 := by rw [List.length_take, List.length_drop]; omega
 unfold entsX
 rw [entsY_fuel _ _ (le b (at_ + 4) 4 + 1) _ (by omega) (by omega), entsY_eq _ _ _ ((hb.drop _).take _)]
 congr 1
 funext x
 generalize (le b (at_ + 12) 1 % 2 == 1) = q
 obtain ⟨es, d⟩ := x
 unfold hbOk
 simp only
 by_cases h1 : d.isSome = q
 ·rw [h1]; simp
 ·have h2 : ¬ q = d.isSome := fun z => h1 z.symm
  simp [h1, h2]
noncomputable def NodeOk : List Ent → Prop
 | [] => False
 | x :: r => if x.last = true then r = [] else NodeOk r
theorem entsY_ok (hb : Bool) : ∀ (n : Nat) (b : Bytes) (l : List Ent), entsY hb n b = some l → NodeOk l
 | 0, _, _, h => by cases h
 | n + 1, b, l, h => by
  unfold entsY at h
  obtain ⟨x, hx, h⟩ := Option.bind_eq_some_iff.mp h
  split at h
  ·split at h
   ·cases h; rename_i q; unfold NodeOk; rw [if_pos q]
   ·rename_i q
    obtain ⟨l', e, rfl⟩ := Option.map_eq_some_iff.mp h
    unfold NodeOk; rw [if_neg q]; exact entsY_ok hb n _ _ e
  ·cases h
theorem nodeP_ok {b : Bytes} {at_ : Nat} {l : List Ent} (h : nodeP b at_ = some l) : NodeOk l := by
 unfold nodeP at h
 split at h
 ·cases h
 ·exact entsY_ok _ _ _ _ h
structure EntOk (x : Ent) : Prop where
 ne : x.last = false → 1 ≤ x.e.name.length ∧ x.e.name.length ≤ 255
 ch : ∀ c ∈ x.e.name, 32 ≤ c ∧ c ≤ 126
 sp : x.e.space ≤ 3
theorem entOf_ok {b : Bytes} (hb : Byt b) {x : Ent} (h : entOf b = some x) : EntOk x := by
 unfold entOf at h
 have hk : le b 80 1 < 256 := le_lt hb 80 1
 split at h
 ·cases h
 split at h
 ·cases h; exact ⟨fun z => by (cases z), fun c hc => by (cases hc), by simp only; omega⟩
 split at h
 ·cases h
 ·rename_i hn
  cases h
  refine ⟨fun _ => ?_, fun c hc => ?_, by simp only; omega⟩
  ·simp only [lets_len]; omega
  ·cases q : goodName (lets b 82 (le b 80 1)) with
   | false => exact absurd (.inr (.inr (.inr (.inr (.inr q))))) hn
   | true =>
    unfold goodName at q
    rw [Bool.and_eq_true, List.all_eq_true] at q
    have := q.1 c hc
    simpa using this
end Sv
end
section
namespace Sv
open Sn35
inductive Item where
 | ent (e : Entry)
 | blk (lev k : Nat)
noncomputable def itemsOf (lev : Nat) (x : Ent) : List Item := (match x.e.down with
 | some k => [.blk (lev + 1) k]
 | none => []) ++ (if x.last = true then [] else [.ent x.e])
noncomputable def items (lev : Nat) (l : List Ent) : List Item := l.flatMap (itemsOf lev)
noncomputable def blkP (v : Volume) (c : Option Content) (k : Nat) : Option (List Ent) := c.bind fun c => (block v c k).bind fun b => nodeP b 24
noncomputable def outB (v : Volume) (c : Option Content) (lev k : Nat) : Option (List Entry) := if lev ≤ 16 then c.bind fun c' => (block v c' k).bind fun b => (node b 24).bind (walk v (some c') (17 - lev)) else none
noncomputable def outI (v : Volume) (c : Option Content) : Item → Option (List Entry)
 | .ent e => some [e]
 | .blk lev k => outB v c lev k
noncomputable def outs (v : Volume) (c : Option Content) : List Item → Option (List Entry)
 | [] => some []
 | i :: r => (outI v c i).bind fun a => (outs v c r).map (a ++ ·)
theorem outs_cons (v : Volume) (c : Option Content) (i : Item) (r : List Item) : outs v c (i :: r) = (outI v c i).bind fun a => (outs v c r).map (a ++ ·) := rfl
theorem outs_append (v : Volume) (c : Option Content) : ∀ a b : List Item, outs v c (a ++ b) = (outs v c a).bind fun x => (outs v c b).map (x ++ ·)
 | [], b => by simp [outs]
 | i :: a, b => by
  rw [List.cons_append, outs_cons, outs_cons, outs_append v c a b]
  cases outI v c i with
  | none => rfl
  | some x =>
   cases outs v c a with
   | none => rfl
   | some y =>
    cases outs v c b with
    | none => rfl
    | some z => simp
theorem outs_one (v : Volume) (c : Option Content) (i : Item) : outs v c [i] = outI v c i := by
 unfold outs
 cases outI v c i <;> simp [outs]
noncomputable def below (v : Volume) (c : Option Content) (n : Nat) : Option Nat → Option (List Entry)
 | none => some []
 | some k => c.bind fun c => (block v c k).bind fun b => (node b 24).bind (walk v (some c) n)
theorem walk_succ (v : Volume) (c : Option Content) (n : Nat) (x : List Entry × Option Nat) :
  walk v c (n + 1) x = (x.1.mapM fun e => (below v c n e.down).map fun l => l ++ [e]).bind fun l => (below v c n x.2).map fun r => l.flatten ++ r := by
 rw [walk]
 congr 1
theorem below_out (v : Volume) (c : Option Content) {n lev : Nat} (h : n + 1 = 17 - lev) (hl : lev ≤ 16) (k : Option Nat) : below v c n k = outs v c (match k with | some k => [.blk (lev + 1) k] | none => []) := by
 cases k with
 | none => rfl
 | some k =>
  simp only [outs_one]
  show (c.bind fun c => (block v c k).bind fun b => (node b 24).bind (walk v (some c) n)) = outB v c (lev + 1) k
  unfold outB
  by_cases hq : lev + 1 ≤ 16
  ·rw [if_pos hq, show 17 - (lev + 1) = n by omega]
  ·rw [if_neg hq, show n = 0 by omega]
   cases c with
   | none => rfl
   | some c =>
    simp only [Option.bind_some]
    cases block v c k with
    | none => rfl
    | some b =>
     simp only [Option.bind_some]
     cases node b 24 <;> rfl
theorem walk_items (v : Volume) (c : Option Content) {lev : Nat} (hl : lev ≤ 16) : ∀ (l : List Ent), NodeOk l → walk v c (17 - lev) (split l) = outs v c (items lev l) := by
 intro l ok
 obtain ⟨n, hn⟩ : ∃ n, n + 1 = 17 - lev := ⟨16 - lev, by omega⟩
 rw [← hn]
 induction l with
 | nil => exact ok.elim
 | cons x r ih =>
  unfold items
  rw [List.flatMap_cons]
  by_cases hx : x.last = true
  ·have hr : r = [] := by
    unfold NodeOk at ok; rw [if_pos hx] at ok; exact ok
   subst hr
   rw [walk_succ, List.flatMap_nil, List.append_nil]
   unfold split itemsOf
   rw [if_pos hx, if_pos hx, List.append_nil, ← below_out v c hn hl]
   simp
  ·have ok' : NodeOk r := by
    unfold NodeOk at ok; rw [if_neg hx] at ok; exact ok
   have ih := ih ok'
   rw [outs_append]
   rw [show List.flatMap (itemsOf lev) r = items lev r from rfl, ← ih, walk_succ, walk_succ]
   unfold itemsOf
   rw [if_neg hx, outs_append, ← below_out v c hn hl, outs_one]
   have e1 : (split (x :: r)).1 = x.e :: (split r).1 := by rw [split, if_neg hx]
   have e2 : (split (x :: r)).2 = (split r).2 := by
    rw [split, if_neg hx]
   rw [e1, e2, List.mapM_cons]
   simp only [outI]
   cases below v c n x.e.down with
   | none => rfl
   | some a =>
    simp only [Option.map_some, Option.bind_some, bind, pure]
    cases List.mapM (fun e => (below v c n e.down).map fun l => l ++ [e]) (split r).1 with
    | none => rfl
    | some b =>
     simp only [Option.bind_some]
     cases below v c n (split r).2 with
     | none => rfl
     | some d => simp
theorem unmarked_byt {b r : Bytes} (hb : Byt b) (h : unmarked b = some r) : Byt r := by
 unfold unmarked at h
 simp only at h
 split at h
 ·cases h
 split at h
 ·cases h
 cases h
 intro x hx
 obtain ⟨i, _, h⟩ := List.mem_flatMap.mp hx
 rcases List.mem_append.mp h with h | h
 ·exact hb x (List.mem_of_mem_drop (List.mem_of_mem_take h))
 ·exact hb x (List.mem_of_mem_drop (List.mem_of_mem_take h))
theorem block_byt {v : Volume} {c : Content} {k : Nat} {b : Bytes} (hv : Byt v.image) (hc : ∀ b, c.inside = some b → Byt b) (h : block v c k = some b) : Byt b := by
 unfold block at h
 generalize hp : (if v.cluster ≤ v.block then v.cluster else SECTOR) * k = p at h
 simp only at h
 split at h
 ·cases h
 split at h
 ·cases h
 exact unmarked_byt (bytes_byt hv hc _ _) h
theorem outB_eq {v : Volume} {c : Option Content} (hv : Byt v.image) (hc : ∀ c', c = some c' → ∀ b, c'.inside = some b → Byt b) {lev : Nat} (hl : lev ≤ 16) (k : Nat) :
  outB v c lev k = (blkP v c k).bind fun l => outs v c (items lev l) := by
 unfold outB blkP
 rw [if_pos hl]
 cases c with
 | none => rfl
 | some c =>
  simp only [Option.bind_some]
  cases hb : block v c k with
  | none => rfl
  | some b =>
   have hB := block_byt hv (hc c rfl) hb
   simp only [Option.bind_some]
   rw [← nodeP_eq hB]
   cases hn : nodeP b 24 with
   | none => rfl
   | some l =>
    simp only [Option.map_some, Option.bind_some]
    exact walk_items v (some c) hl l (nodeP_ok hn)
noncomputable def mB (v : Volume) (c : Option Content) : Nat → Nat → Nat
 | 0, _ => 1
 | n + 1, k => match blkP v c k with
  | none => 1
  | some l => 1 + (l.map fun x => (match x.e.down with | some k' => mB v c n k' | none => 0) + (if x.last = true then 0 else 1)).sum
noncomputable def mI (v : Volume) (c : Option Content) : Item → Nat
 | .ent _ => 1
 | .blk lev k => mB v c (17 - lev) k
noncomputable def mS (v : Volume) (c : Option Content) (st : List Item) : Nat := (st.map (mI v c)).sum
theorem mS_cons (v : Volume) (c : Option Content) (i : Item) (st : List Item) : mS v c (i :: st) = mI v c i + mS v c st := by simp [mS]
theorem mS_append (v : Volume) (c : Option Content) (a b : List Item) : mS v c (a ++ b) = mS v c a + mS v c b := by simp [mS]
theorem mI_pos (v : Volume) (c : Option Content) : ∀ i : Item, 1 ≤ mI v c i
 | .ent _ => Nat.le_refl _
 | .blk lev k => by
  show 1 ≤ mB v c (17 - lev) k
  cases 17 - lev with
  | zero => exact Nat.le_refl _
  | succ n =>
   unfold mB
   split <;> omega
theorem mS_items (v : Volume) (c : Option Content) {lev k : Nat} {l : List Ent} (hl : lev ≤ 16) (h : blkP v c k = some l) : mS v c (items lev l) < mI v c (.blk lev k) := by
 obtain ⟨n, hn⟩ : ∃ n, 17 - lev = n + 1 := ⟨16 - lev, by omega⟩
 have hn2 : 17 - (lev + 1) = n := by omega
 have e : ∀ l : List Ent, mS v c (items lev l) = (l.map fun x => (match x.e.down with | some k' => mB v c n k' | none => 0) + (if x.last = true then 0 else 1)).sum := by
  intro l
  induction l with
  | nil => rfl
  | cons x r ih =>
   unfold items at ih ⊢
   rw [List.flatMap_cons, mS_append, ih, List.map_cons, List.sum_cons]
   congr 1
   unfold itemsOf
   rw [mS_append]
   congr 1
   ·cases x.e.down with
    | none => rfl
    | some k' => show mB v c (17 - (lev + 1)) k' + 0 = mB v c n k'; rw [hn2]; rfl
   ·by_cases q : x.last = true
    ·rw [if_pos q, if_pos q]; rfl
    ·rw [if_neg q, if_neg q]; rfl
 rw [e]
 show _ < mB v c (17 - lev) k
 rw [hn, mB, h]
 simp only
 omega
noncomputable def lastUp (l : List Entry) : Bytes := match l.getLast? with
 | none => []
 | some e => up e.name
theorem up_len (b : Bytes) : (up b).length = b.length := by simp [up]
theorem less_nil {b : Bytes} (h : 1 ≤ b.length) : less [] b = true := by
 cases b with
 | nil => simp at h
 | cons a r => rfl
theorem ordered_snoc : ∀ (l : List Entry) (e : Entry), 1 ≤ e.name.length → ordered (l ++ [e]) = (ordered l && less (lastUp l) (up e.name))
 | [], e, h => by
  have := less_nil (b := up e.name) (by rw [up_len]; exact h)
  simp [ordered, lastUp, this]
 | [a], e, h => by simp [ordered, lastUp]
 | a :: b :: r, e, h => by
  have ih := ordered_snoc (b :: r) e h
  have e1 : lastUp (a :: b :: r) = lastUp (b :: r) := by simp [lastUp, List.getLast?_cons]
  show (less (up a.name) (up b.name) && ordered ((b :: r) ++ [e])) = _
  rw [ih, e1, ← Bool.and_assoc]; rfl
theorem ordered_left : ∀ (a b : List Entry), ordered (a ++ b) = true → ordered a = true
 | [], _, _ => rfl
 | [x], b, _ => rfl
 | x :: y :: r, b, h => by
  have h : (less (up x.name) (up y.name) && ordered ((y :: r) ++ b)) = true := h
  rw [Bool.and_eq_true] at h
  show (less (up x.name) (up y.name) && ordered (y :: r)) = true
  rw [Bool.and_eq_true]
  exact ⟨h.1, ordered_left (y :: r) b h.2⟩
noncomputable def fin (o : Option (List Entry)) : Option (List Entry) := o.bind fun l => if ordered l = true ∧ l.length ≤ MOSTENTRIES then some l else none
theorem fin_bad {o : Option (List Entry)} {f : List Entry} (h : ¬ (ordered f = true ∧ f.length ≤ MOSTENTRIES)) : fin (o.map (f ++ ·)) = none := by
 cases o with
 | none => rfl
 | some r =>
  show (if ordered (f ++ r) = true ∧ (f ++ r).length ≤ MOSTENTRIES then some (f ++ r) else none) = none
  rw [if_neg]
  rintro ⟨h1, h2⟩
  rw [List.length_append] at h2
  exact h ⟨ordered_left f r h1, by omega⟩
theorem step_ent (v : Volume) (c : Option Content) (f : List Entry) (e : Entry) (st : List Item) : (outs v c (.ent e :: st)).map (f ++ ·) = (outs v c st).map ((f ++ [e]) ++ ·) := by
 rw [outs_cons]
 simp only [outI, Option.bind_some]
 cases outs v c st with
 | none => rfl
 | some r => simp
theorem step_deep (v : Volume) (c : Option Content) (f : List Entry) {lev : Nat} (k : Nat) (st : List Item) (h : ¬ lev ≤ 16) : (outs v c (.blk lev k :: st)).map (f ++ ·) = none := by
 rw [outs_cons]
 simp only [outI]
 unfold outB
 rw [if_neg h]; rfl
theorem step_blk {v : Volume} {c : Option Content} (hv : Byt v.image) (hc : ∀ c', c = some c' → ∀ b, c'.inside = some b → Byt b) (f : List Entry) {lev : Nat} (k : Nat) (st : List Item) (h : lev ≤ 16) :
  (outs v c (.blk lev k :: st)).map (f ++ ·) = (blkP v c k).bind fun l => (outs v c (items lev l ++ st)).map (f ++ ·) := by
 rw [outs_cons]
 simp only [outI]
 rw [outB_eq hv hc h]
 cases blkP v c k with
 | none => rfl
 | some l =>
  simp only [Option.bind_some]
  rw [outs_append]
noncomputable def firstP (v : Volume) (r : Rec) : Option (List Ent) := (r.find 0x90 I30).bind fun a => if le a.bytes 8 1 = 1 then none else (content v a).bind fun c => c.inside.bind fun b =>
 if b.length < 12 ∨ le b 0 4 ≠ 0x30 ∨ le b 4 4 ≠ 1 ∨ le b 8 4 ≠ v.block then none else nodeP b 16
noncomputable def moreP (v : Volume) (r : Rec) : Option (Option Content) := match r.find 0xA0 I30 with
 | none => some none
 | some a => (content v a).map some
noncomputable def entriesP (v : Volume) (r : Rec) : Option (List Entry) := (firstP v r).bind fun l => (moreP v r).bind fun m => fin (outs v m (items 1 l))
structure RecOk (r : Rec) : Prop where
 at_ : ∀ a ∈ r.attrs, AttrOk a ∧ a.bytes.length < 2 ^ 30
theorem find_ok {r : Rec} (ok : RecOk r) {k : Nat} {n : Bytes} {a : Attr} (h : r.find k n = some a) : AttrOk a ∧ a.bytes.length < 2 ^ 30 := ok.at_ a (List.mem_of_find?_eq_some h)
theorem content_byt {v : Volume} {a : Attr} {c : Content} (ok : AttrOk a) (h : content v a = some c) : ∀ b, c.inside = some b → Byt b := by
 intro b hb
 unfold content at h
 simp only at h
 split at h
 ·split at h
  ·cases h
  ·obtain ⟨x, hx, rfl⟩ := Option.map_eq_some_iff.mp h
   cases hb
   obtain ⟨_, _, e⟩ := part_len hx
   rw [e]; exact (ok.byt.drop _).take _
 ·split at h
  ·cases h
  ·obtain ⟨l, _, h⟩ := Option.bind_eq_some_iff.mp h
   split at h
   ·cases h
   ·cases h; cases hb
theorem content_none {v : Volume} {a : Attr} {c : Content} (h1 : le a.bytes 8 1 = 1) (h : content v a = some c) : c.inside = none := by
 unfold content at h
 simp only at h
 rw [if_neg (by omega)] at h
 split at h
 ·cases h
 ·obtain ⟨l, _, h⟩ := Option.bind_eq_some_iff.mp h
  split at h
  ·cases h
  ·cases h; rfl
theorem folder_eq {v : Volume} {r : Rec} (hv : Byt v.image) (ok : RecOk r) (hf : r.folder = true) : folder v r = (entriesP v r).map fun l => l.filter fun e => e.space != 2 := by
 unfold folder entriesP firstP
 rw [if_neg (by rw [hf]; decide)]
 cases ha : r.find 0x90 I30 with
 | none => rfl
 | some a =>
  obtain ⟨aok, _⟩ := find_ok ok ha
  simp only [Option.bind_some]
  by_cases h8 : le a.bytes 8 1 = 1
  ·rw [if_pos h8]
   cases hc : content v a with
   | none => rfl
   | some c => simp only [Option.bind_some, content_none h8 hc]; rfl
  rw [if_neg h8]
  cases hc : content v a with
  | none => rfl
  | some c =>
   simp only [Option.bind_some]
   cases hi : c.inside with
   | none => rfl
   | some b =>
    have hB := content_byt aok hc b hi
    simp only [Option.bind_some]
    by_cases c1 : b.length < 32 ∨ le b 0 4 ≠ 0x30 ∨ le b 4 4 ≠ 1 ∨ le b 8 4 ≠ v.block
    ·rw [if_pos c1]
     by_cases c2 : b.length < 12 ∨ le b 0 4 ≠ 0x30 ∨ le b 4 4 ≠ 1 ∨ le b 8 4 ≠ v.block
     ·rw [if_pos c2]; rfl
     ·rw [if_neg c2]
      unfold nodeP
      rw [if_pos (by omega)]; rfl
    rw [if_neg c1, if_neg (by omega)]
    rw [← nodeP_eq hB]
    cases hn : nodeP b 16 with
    | none => rfl
    | some l =>
     simp only [Option.map_some, Option.bind_some]
     show (moreP v r).bind _ = _
     cases moreP v r with
     | none => rfl
     | some m =>
      simp only [Option.bind_some]
      rw [show DEEP = 17 - 1 from rfl, walk_items v m (by decide) l (nodeP_ok hn)]
      unfold fin
      cases outs v m (items 1 l) with
      | none => rfl
      | some es =>
       simp only [Option.bind_some]
       by_cases q : ordered es = true ∧ es.length ≤ MOSTENTRIES
       ·rw [if_pos q, if_pos q]; rfl
       ·rw [if_neg q, if_neg q]; rfl
end Sv
end
section
namespace Sv
open Sn35
noncomputable def sizes (longest : Nat) : List Nat := if longest = 4096 then [512, 1024, 2048, 4096] else [512, 1024, 2048, 4096, 8192, 16384, 32768, 65536]
noncomputable def lenO (told cl longest : Nat) : Option Nat := if 512 ≤ sizeBy told cl ∧ sizeBy told cl ≤ longest ∧ (sizeBy told cl) &&& (sizeBy told cl - 1) = 0 then some (sizeBy told cl) else none
theorem sizes_few : ∀ per ∈ [1, 2, 4, 8, 16, 32, 64, 128], ∀ told, told < 128 → ∀ longest ∈ [4096, 65536],
  ((512 ≤ told * (512 * per) ∧ told * (512 * per) ≤ longest ∧ (told * (512 * per)) &&& (told * (512 * per) - 1) = 0) ↔ (sizes longest).contains (told * (512 * per)) = true) := by decide +kernel
theorem sizes_pow : ∀ e, e < 129 → ∀ longest ∈ [4096, 65536], ((512 ≤ 2 ^ e ∧ 2 ^ e ≤ longest ∧ (2 ^ e) &&& (2 ^ e - 1) = 0) ↔ (sizes longest).contains (2 ^ e) = true) := by decide +kernel
theorem lenO_eq {per told longest : Nat} (hp : per ∈ [1, 2, 4, 8, 16, 32, 64, 128]) (ht : told < 256) (hl : longest ∈ [4096, 65536]) :
  lenO told (512 * per) longest = if (sizes longest).contains (sizeBy told (512 * per)) = true then some (sizeBy told (512 * per)) else none := by
 unfold lenO
 have e : (512 ≤ sizeBy told (512 * per) ∧ sizeBy told (512 * per) ≤ longest ∧ (sizeBy told (512 * per)) &&& (sizeBy told (512 * per) - 1) = 0) ↔ (sizes longest).contains (sizeBy told (512 * per)) = true := by
  unfold sizeBy
  by_cases h : told < 128
  ·rw [if_pos h]; exact sizes_few per hp told h longest hl
  ·rw [if_neg h]; exact sizes_pow (256 - told) (by omega) longest hl
 by_cases q : 512 ≤ sizeBy told (512 * per) ∧ sizeBy told (512 * per) ≤ longest ∧ (sizeBy told (512 * per)) &&& (sizeBy told (512 * per) - 1) = 0
 ·rw [if_pos q, if_pos (e.mp q)]
 ·rw [if_neg q, if_neg (fun z => q (e.mpr z))]
noncomputable def volP (img : Bytes) : Option Volume :=
 if img.length < 512 ∨ (img.drop 3).take 8 ≠ ascii "NTFS    " ∨ le img 11 2 ≠ 512 ∨ (img.drop 510).take 2 ≠ [0x55, 0xAA] ∨ [1, 2, 4, 8, 16, 32, 64, 128].contains (le img 13 1) = false ∨ img.length < le img 40 8 * 512 then none
 else (lenO (le img 64 1) (512 * le img 13 1) 4096).bind fun r => (lenO (le img 68 1) (512 * le img 13 1) 65536).map fun x => ⟨img.take (512 * le img 40 8), 512 * le img 13 1, r, x, le img 48 8⟩
theorem volP_eq {img : Bytes} (hb : Byt img) : volume img = volP img := by
 unfold volume volP part
 by_cases h0 : img.length < 512
 ·rw [if_pos (show img.length < 0 + SECTOR by unfold SECTOR; omega), if_pos (.inl h0)]; rfl
 rw [if_neg (show ¬ img.length < 0 + SECTOR by unfold SECTOR; omega)]
 simp only [Option.bind_some]
 have hS : SECTOR = 512 := rfl
 rw [hS, List.drop_zero]
 have hl : ∀ i n, i + n ≤ 512 → le (img.take 512) i n = le img i n := fun i n h => le_take h
 rw [hl 13 1 (by decide), hl 64 1 (by decide), hl 68 1 (by decide), hl 11 2 (by decide), hl 510 2 (by decide), hl 40 8 (by decide), hl 48 8 (by decide)]
 have e3 : ((img.take 512).drop 3).take 8 = (img.drop 3).take 8 := by rw [List.drop_take, List.take_take]; rfl
 rw [e3]
 have e4 : (le img 510 2 ≠ 0xAA55) ↔ ((img.drop 510).take 2 ≠ [0x55, 0xAA]) := by
  have hn : num [0x55, 0xAA] = 0xAA55 := rfl
  constructor
  ·intro h z; exact h (by rw [le_num, z]; rfl)
  ·intro h z
   refine h (num_inj ((hb.drop _).take _) (by intro x hx; simp at hx; omega) (by rw [List.length_take, List.length_drop]; show _ = 2; omega) ?_)
   rw [← le_num, z, hn]
 by_cases hper : [1, 2, 4, 8, 16, 32, 64, 128].contains (le img 13 1) = false
 ·rw [if_pos (.inr (.inr (.inl hper))), if_pos (.inr (.inr (.inr (.inr (.inl hper)))))]
 have hmem : le img 13 1 ∈ [1, 2, 4, 8, 16, 32, 64, 128] := by
  have := hper
  rw [Bool.not_eq_false, List.contains_iff_mem] at this
  exact this
 rw [lenO_eq hmem (le_lt hb 64 1) (by decide), lenO_eq hmem (le_lt hb 68 1) (by decide)]
 have s1 : sizes 4096 = [512, 1024, 2048, 4096] := rfl
 have s2 : sizes 65536 = [512, 1024, 2048, 4096, 8192, 16384, 32768, 65536] := rfl
 rw [s1, s2]
 by_cases hbad : (img.drop 3).take 8 ≠ ascii "NTFS    " ∨ le img 11 2 ≠ 512 ∨ (img.drop 510).take 2 ≠ [0x55, 0xAA] ∨ img.length < le img 40 8 * 512
 ·rw [if_pos, if_pos]
  ·rcases hbad with z | z | z | z
   ·exact .inr (.inl z)
   ·exact .inr (.inr (.inl z))
   ·exact .inr (.inr (.inr (.inl z)))
   ·exact .inr (.inr (.inr (.inr (.inr z))))
  ·rcases hbad with z | z | z | z
   ·exact .inl z
   ·exact .inr (.inl z)
   ·exact .inr (.inr (.inr (.inl (e4.mpr z))))
   ·exact .inr (.inr (.inr (.inr (.inl (by omega)))))
 rw [if_neg (c := img.length < 512 ∨ _) (by
  rintro (z | z | z | z | z | z)
  ·exact h0 z
  ·exact hbad (.inl z)
  ·exact hbad (.inr (.inl z))
  ·exact hbad (.inr (.inr (.inl z)))
  ·exact hper z
  ·exact hbad (.inr (.inr (.inr z))))]
 by_cases q1 : [512, 1024, 2048, 4096].contains (sizeBy (le img 64 1) (512 * le img 13 1)) = true
 ·rw [if_pos q1]
  simp only [Option.bind_some]
  by_cases q2 : [512, 1024, 2048, 4096, 8192, 16384, 32768, 65536].contains (sizeBy (le img 68 1) (512 * le img 13 1)) = true
  ·rw [if_pos q2, if_neg]
   ·rfl
   ·rintro (z | z | z | z | z | z | z)
    ·exact hbad (.inl z)
    ·exact hbad (.inr (.inl z))
    ·exact hper z
    ·exact hbad (.inr (.inr (.inl (e4.mp z))))
    ·exact hbad (.inr (.inr (.inr (by omega))))
    ·rw [q1] at z; cases z
    ·rw [q2] at z; cases z
  ·rw [if_neg q2, if_pos (.inr (.inr (.inr (.inr (.inr (.inr (by simpa using q2)))))))]; rfl
 ·rw [if_neg q1, if_pos (.inr (.inr (.inr (.inr (.inr (.inl (by simpa using q1)))))))]; rfl
structure VolOk (v : Volume) : Prop where
 byt : Byt v.image
 cl0 : 512 ≤ v.cluster
 cl1 : v.cluster ≤ 65536
 rec_ : v.record ∈ [512, 1024, 2048, 4096]
 blk : v.block ∈ [512, 1024, 2048, 4096, 8192, 16384, 32768, 65536]
 len : v.image.length < 2 ^ 30
theorem VolOk.rec512 {v : Volume} (h : VolOk v) : ∃ n, v.record = 512 * n ∧ 1 ≤ n ∧ n ≤ 8 := by
 have := h.rec_
 simp at this
 rcases this with e | e | e | e
 ·exact ⟨1, by omega, by omega, by omega⟩
 ·exact ⟨2, by omega, by omega, by omega⟩
 ·exact ⟨4, by omega, by omega, by omega⟩
 ·exact ⟨8, by omega, by omega, by omega⟩
theorem VolOk.blk512 {v : Volume} (h : VolOk v) : ∃ n, v.block = 512 * n ∧ 1 ≤ n ∧ n ≤ 128 := by
 have := h.blk
 simp at this
 rcases this with e | e | e | e | e | e | e | e
 ·exact ⟨1, by omega, by omega, by omega⟩
 ·exact ⟨2, by omega, by omega, by omega⟩
 ·exact ⟨4, by omega, by omega, by omega⟩
 ·exact ⟨8, by omega, by omega, by omega⟩
 ·exact ⟨16, by omega, by omega, by omega⟩
 ·exact ⟨32, by omega, by omega, by omega⟩
 ·exact ⟨64, by omega, by omega, by omega⟩
 ·exact ⟨128, by omega, by omega, by omega⟩
noncomputable def recP (b : Bytes) : Option Rec := (unmarked b).bind fun d =>
 if d.take 4 ≠ ascii "FILE" ∨ le d 22 2 % 2 = 0 ∨ le d 20 2 % 8 ≠ 0 ∨ le d 32 8 ≠ 0 ∨ d.length < le d 24 4 then none
 else (attrsX ((d.take (le d 24 4)).drop (le d 20 2))).map fun l => ⟨le d 16 2, le d 22 2 / 2 % 2 == 1, l⟩
theorem unm_shape {b d : Bytes} {n : Nat} (h : b.length = 512 * n) (hd : unmarked b = some d) : d = mend b (le b 4 2) n ∧ le b 4 2 + 2 * n + 2 ≤ 510 := by
 by_cases q : le b 6 2 = n + 1 ∧ le b 4 2 % 2 = 0 ∧ 8 ≤ le b 4 2 ∧ le b 4 2 + 2 * le b 6 2 ≤ 510
 ·by_cases q2 : ∀ i, i < n → le b (512 * i + 510) 2 = le b (le b 4 2) 2
  ·rw [unmarked_some h q.1 q.2.1 q.2.2.1 q.2.2.2 q2] at hd
   cases hd
   exact ⟨rfl, by omega⟩
  ·obtain ⟨i, hi⟩ := Classical.not_forall.mp q2
   obtain ⟨h1, h2⟩ := Classical.not_imp.mp hi
   rw [unmarked_none2 h h1 h2] at hd; cases hd
 ·rw [unmarked_none h q] at hd; cases hd
theorem mend_take {b : Bytes} {o n k : Nat} (h : b.length = 512 * n) (hn : 1 ≤ n) (hk : k ≤ 510) : (mend b o n).take k = b.take k := by
 have e : (mend b o n).take 510 = b.take 510 := by
  unfold mend
  obtain ⟨m, rfl⟩ : ∃ m, n = m + 1 := ⟨n - 1, by omega⟩
  rw [List.range_succ_eq_map, List.flatMap_cons]
  unfold sect
  rw [List.append_assoc, List.append_assoc, List.take_append_of_le_length (by rw [List.length_take, List.length_drop]; unfold SECTOR; omega)]
  rw [List.take_take]; simp [SECTOR]
 have e1 : (mend b o n).take k = ((mend b o n).take 510).take k := by rw [List.take_take, Nat.min_eq_left hk]
 rw [e1, e, List.take_take, Nat.min_eq_left hk]
theorem recP_eq {v : Volume} (ok : VolOk v) {b : Bytes} (hl : b.length = v.record) : recordOf v b = recP b := by
 obtain ⟨n, en, h1, h8⟩ := ok.rec512
 have hb : b.length = 512 * n := by omega
 unfold recordOf recP
 cases hu : unmarked b with
 | none => split <;> rfl
 | some d =>
  obtain ⟨rfl, ho⟩ := unm_shape hb hu
  have hdl := mend_len (o := le b 4 2) hb (by omega)
  have ht : (mend b (le b 4 2) n).take 4 = b.take 4 := mend_take hb h1 (by decide)
  generalize mend b (le b 4 2) n = d at hdl ht
  simp only [Option.bind_some]
  by_cases c0 : b.take 4 ≠ ascii "FILE"
  ·rw [if_pos (.inr c0), if_pos (.inl (by rw [ht]; exact c0))]
  rw [if_neg (by rintro (z | z); exact z hl; exact c0 z)]
  by_cases c1 : le d 22 2 % 2 = 0 ∨ le d 20 2 % 8 ≠ 0 ∨ le d 32 8 ≠ 0 ∨ d.length < le d 24 4
  ·rw [if_pos (by omega), if_pos (.inr c1)]
  rw [if_neg (c := d.take 4 ≠ _ ∨ _) (by rintro (z | z); exact c0 (by rw [← ht]; exact z); exact c1 z)]
  have hx : (attrs (v.record + 1) ((d.take (le d 24 4)).drop (le d 20 2))).bind plain = attrsX ((d.take (le d 24 4)).drop (le d 20 2)) := attrsX_eq (by rw [List.length_drop, List.length_take]; omega)
  by_cases c2 : le d 24 4 < le d 20 2
  ·rw [if_pos (by omega)]
   rw [List.drop_eq_nil_of_le (by rw [List.length_take]; omega), attrsX_rec]; rfl
  rw [if_neg (by omega), ← hx]
  cases attrs (v.record + 1) ((d.take (le d 24 4)).drop (le d 20 2)) with
  | none => rfl
  | some l =>
   simp only [Option.bind_some]
   unfold plain
   split <;> rfl
theorem attrsY_all : ∀ (n : Nat) (b : Bytes) (l : List Attr), Byt b → attrsY n b = some l → ∀ a ∈ l, AttrOk a ∧ a.bytes.length ≤ b.length
 | 0, _, _, _, h => by cases h
 | n + 1, b, l, hb, h => by
  unfold attrsY at h
  split at h
  ·cases h
  split at h
  ·cases h; intro a ha; cases ha
  split at h
  ·cases h
  rename_i c
  obtain ⟨a0, ha0, h⟩ := Option.bind_eq_some_iff.mp h
  obtain ⟨l', hl', rfl⟩ := Option.map_eq_some_iff.mp h
  have hlen : (b.take (le b 4 4)).length = le b 4 4 := by rw [List.length_take]; omega
  obtain ⟨o1, o2⟩ := attrOf_ok (hb.take _) (by rw [hlen]; omega) ha0
  intro a ha
  rcases List.mem_cons.mp ha with rfl | ha
  ·exact ⟨o1, by rw [o2, hlen]; omega⟩
  ·obtain ⟨p1, p2⟩ := attrsY_all n _ _ (hb.drop _) hl' a ha
   rw [List.length_drop] at p2
   exact ⟨p1, by omega⟩
theorem recP_ok {b : Bytes} {n : Nat} {r : Rec} (hb : Byt b) (hl : b.length = 512 * n) (hn : n ≤ 8) (h : recP b = some r) : RecOk r := by
 unfold recP at h
 obtain ⟨d, hd, h⟩ := Option.bind_eq_some_iff.mp h
 split at h
 ·cases h
 obtain ⟨l, e, rfl⟩ := Option.map_eq_some_iff.mp h
 obtain ⟨e2, ho⟩ := unm_shape hl hd
 have hdl : d.length = b.length := by rw [e2]; exact mend_len hl (by rename_i z; by_cases q : n = 0; subst q; simp only [Nat.mul_zero] at hl; rw [List.eq_nil_of_length_eq_zero hl] at hd; simp [unmarked, le] at hd; omega)
 refine ⟨fun a ha => ?_⟩
 obtain ⟨p1, p2⟩ := attrsY_all _ _ _ (((unmarked_byt hb hd).take _).drop _) e a ha
 rw [List.length_drop, List.length_take] at p2
 exact ⟨p1, by omega⟩
end Sv
end
section
namespace Sv
open Sn35
noncomputable def recAt (v : Volume) (t : Content) (k : Nat) : Option Rec := (takenO v t (k * v.record) v.record).bind recP
theorem recAt_eq {v : Volume} (ok : VolOk v) (t : Content) (k : Nat) : record v t k = recAt v t k := by
 have e : v.record * (k + 1) = k * v.record + v.record := by rw [Nat.mul_add, Nat.mul_comm, Nat.mul_one]
 unfold record recAt takenO
 rw [e]
 by_cases h : t.size < k * v.record + v.record
 ·rw [if_pos h, if_pos h]; rfl
 ·rw [if_neg h, if_neg h, Nat.mul_comm]
  simp only [Option.bind_some]
  exact recP_eq ok (taken_len (by omega))
theorem recAt_ok {v : Volume} (ok : VolOk v) {t : Content} (tok : ∀ b, t.inside = some b → Byt b) {k : Nat} {r : Rec} (h : recAt v t k = some r) : RecOk r := by
 unfold recAt takenO at h
 obtain ⟨b, hb, h⟩ := Option.bind_eq_some_iff.mp h
 split at hb
 ·cases hb
 cases hb
 obtain ⟨n, en, h1, h8⟩ := ok.rec512
 exact recP_ok (bytes_byt ok.byt tok _ _) (by rw [taken_len (by omega), en]) h8 h
noncomputable def tabP (v : Volume) : Option Content := (part v.image (v.start * v.cluster) v.record).bind fun b => (recP b).bind fun r => (r.find 0x80 []).bind fun a => if le a.bytes 8 1 = 1 then content v a else none
theorem tabP_eq {v : Volume} (ok : VolOk v) : table v = tabP v := by
 unfold table tabP part
 rw [Nat.mul_comm v.start]
 by_cases h : v.image.length < v.cluster * v.start + v.record
 ·rw [if_pos h, if_pos h]; rfl
 rw [if_neg h, if_neg h]
 simp only [Option.bind_some]
 have hl : ((v.image.drop (v.cluster * v.start)).take v.record).length = v.record := by rw [List.length_take, List.length_drop]; omega
 rw [recP_eq ok hl]
 cases hr : recP ((v.image.drop (v.cluster * v.start)).take v.record) with
 | none => rfl
 | some r =>
  obtain ⟨n, en, h1, h8⟩ := ok.rec512
  have rok := recP_ok ((ok.byt.drop _).take _) (by rw [hl, en]) h8 hr
  simp only [Option.bind_some]
  cases ha : r.find 0x80 [] with
  | none => rfl
  | some a =>
   obtain ⟨aok, al⟩ := find_ok rok ha
   simp only [Option.bind_some]
   by_cases h1 : le a.bytes 8 1 = 1
   ·rw [if_pos h1]
    cases hc : content v a with
    | none => rfl
    | some c =>
     simp only [Option.bind_some]
     rw [content_none h1 hc]; rfl
   ·rw [if_neg h1]
    cases hc : content v a with
    | none => rfl
    | some c =>
     have := (contOk_here aok (by have := aok.cl; omega) hc).2
     simp only [Option.bind_some]
     rw [if_pos this]
theorem content_ok {v : Volume} {a : Attr} {c : Content} (ok : AttrOk a) (hl : a.bytes.length < 2 ^ 30) (h : content v a = some c) : ContOk v c := by
 by_cases h1 : le a.bytes 8 1 = 1
 ·rw [held_content ok rfl rfl h1 hl] at h
  exact (contOk_in h).1
 ·exact (contOk_here ok (by have := ok.cl; omega) h).1
theorem tabP_ok {v : Volume} (ok : VolOk v) {t : Content} (h : tabP v = some t) : ContOk v t ∧ t.inside = none := by
 unfold tabP at h
 obtain ⟨b, hb, h⟩ := Option.bind_eq_some_iff.mp h
 obtain ⟨r, hr, h⟩ := Option.bind_eq_some_iff.mp h
 obtain ⟨a, ha, h⟩ := Option.bind_eq_some_iff.mp h
 obtain ⟨p1, p2, p3⟩ := part_len hb
 obtain ⟨n, en, h1, h8⟩ := ok.rec512
 have rok := recP_ok (by rw [p3]; exact (ok.byt.drop _).take _) (by rw [p1, en]) h8 hr
 obtain ⟨aok, al⟩ := find_ok rok ha
 split at h
 ·exact ⟨content_ok aok al h, content_none (by assumption) h⟩
 ·cases h
noncomputable def entP (v : Volume) (t : Content) (e : Entry) : Option Rec := (recAt v t e.number).bind fun r => if r.seq = e.seq then some r else none
theorem entP_eq {v : Volume} (ok : VolOk v) (t : Content) (e : Entry) : entered v t e = entP v t e := by
 unfold entered entP
 rw [recAt_eq ok]
theorem entP_rec {v : Volume} {t : Content} {e : Entry} {r : Rec} (h : entP v t e = some r) : recAt v t e.number = some r := by
 unfold entP at h
 obtain ⟨r', h1, h2⟩ := Option.bind_eq_some_iff.mp h
 split at h2
 ·cases h2; exact h1
 ·cases h2
noncomputable def seen (l : List Entry) : List Entry := l.filter fun e => e.space != 2
noncomputable def lookFor (l : List Entry) (w : Bytes) : Option Entry := (seen l).find? fun e => up e.name == up w
noncomputable def downP (v : Volume) (t : Content) : Rec → List Bytes → Way
 | r, [] => .at_ r
 | r, w :: l => if r.folder = false then .missing else match entriesP v r with
  | none => .bad
  | some es => match lookFor es w with
   | none => .missing
   | some e => match entP v t e with
    | none => .bad
    | some q => downP v t q l
theorem downP_eq {v : Volume} (ok : VolOk v) {t : Content} (tok : ∀ b, t.inside = some b → Byt b) : ∀ (ws : List Bytes) (r : Rec), RecOk r → down v t r ws = downP v t r ws
 | [], r, _ => rfl
 | w :: l, r, rok => by
  unfold down downP
  by_cases h : r.folder = false
  ·rw [if_pos h, if_pos h]
  rw [if_neg h, if_neg h, folder_eq ok.byt rok (by simpa using h)]
  cases entriesP v r with
  | none => rfl
  | some es =>
   simp only [Option.map_some]
   show (match (seen es).find? fun e => up e.name == up w with | none => Way.missing | some e => _) = (match lookFor es w with | none => Way.missing | some e => _)
   unfold lookFor
   cases (seen es).find? fun e => up e.name == up w with
   | none => rfl
   | some e =>
    simp only
    rw [entP_eq ok]
    cases hq : entP v t e with
    | none => rfl
    | some q => exact downP_eq ok tok l q (recAt_ok ok tok (entP_rec hq))
noncomputable def namesP (p : Bytes) : Option (List Bytes) := match p with
 | [] => none
 | c :: q => if c = 47 then some (if q = [] then [] else splitBy 47 q []) else none
theorem split_ne : ∀ (q w : Bytes), splitBy 47 q w ≠ []
 | [], w => by simp [splitBy]
 | c :: r, w => by
  unfold splitBy
  split
  ·simp
  ·exact split_ne r _
theorem split_head : ∀ (q w : Bytes) (x : Bytes) (l : List Bytes), w ≠ [] → splitBy 47 q w = x :: l → x ≠ []
 | [], w, x, l, h, e => by
  have e : [w] = x :: l := e
  cases e; exact h
 | c :: r, w, x, l, h, e => by
  unfold splitBy at e
  split at e
  ·cases e; exact h
  ·exact split_head r _ x l (by simp) e
noncomputable def lookP (v : Volume) (t : Content) (p : Bytes) : Way := match recAt v t 5 with
 | none => .bad
 | some r => match namesP p with
  | none => .missing
  | some ws => downP v t r ws
theorem lookP_eq {v : Volume} (ok : VolOk v) {t : Content} (tok : ∀ b, t.inside = some b → Byt b) (p : Bytes) : look v t p = lookP v t p := by
 unfold look lookP
 rw [recAt_eq ok]
 cases hr : recAt v t 5 with
 | none => rfl
 | some r =>
  have rok := recAt_ok ok tok hr
  simp only
  cases p with
  | nil => rfl
  | cons c q =>
   have en : namesP (c :: q) = if c = 47 then some (if q = [] then [] else splitBy 47 q []) else none := rfl
   rw [en]
   by_cases hc : c = 47
   ·subst hc
    rw [if_pos rfl]
    have e : splitBy 47 (47 :: q) [] = [] :: splitBy 47 q [] := by rw [splitBy, if_pos rfl]
    rw [e]
    cases hs : splitBy 47 q [] with
    | nil => exact absurd hs (split_ne q [])
    | cons w l =>
     simp only
     rw [downP_eq ok tok _ _ rok]
     by_cases hq : q = []
     ·subst hq
      have hs : [[]] = w :: l := hs
      cases hs; rfl
     ·rw [if_neg hq]
      have : ¬ (w = [] ∧ l = []) := by
       rintro ⟨rfl, rfl⟩
       cases q with
       | nil => exact hq rfl
       | cons d r' =>
        rw [splitBy] at hs
        split at hs
        ·cases hs' : splitBy 47 r' [] with
         | nil => exact split_ne _ _ hs'
         | cons a b => rw [hs'] at hs; cases hs
        ·exact split_head r' _ _ _ (by simp) hs rfl
      rw [if_neg this]
   ·rw [if_neg hc]
    have e : splitBy 47 (c :: q) [] = splitBy 47 q [c] := by rw [splitBy, if_neg hc]; rfl
    rw [e]
    cases hs : splitBy 47 q [c] with
    | nil => rfl
    | cons w l =>
     have hw := split_head q _ w l (by simp) hs
     cases w with
     | nil => exact absurd rfl hw
     | cons a b => rfl
noncomputable def dataP (v : Volume) (r : Rec) : Option Content := match r.find 0x80 [] with
 | none => some ⟨0, some [], [], 0⟩
 | some a => content v a
noncomputable def lineP (v : Volume) (t : Content) (e : Entry) : Option Bytes := (entP v t e).bind fun q => if q.folder = true then some (e.name ++ [47, 10]) else (dataP v q).map fun c => e.name ++ (32 :: (decimal c.size ++ [10]))
noncomputable def told (l : List Entry) : List Entry := l.filter fun e => e.space != 2 && e.name != [46]
noncomputable def linesP (v : Volume) (t : Content) (l : List Entry) : Option Bytes := ((told l).mapM (lineP v t)).map fun m => m.flatten
theorem linesP_nil (v : Volume) (t : Content) : linesP v t [] = some [] := by simp [linesP, told]
theorem linesP_skip (v : Volume) (t : Content) (e : Entry) (l : List Entry) (h : (e.space != 2 && e.name != [46]) = false) : linesP v t (e :: l) = linesP v t l := by
 unfold linesP told
 rw [List.filter_cons, if_neg (by rw [h]; decide)]
theorem linesP_cons (v : Volume) (t : Content) (e : Entry) (l : List Entry) (h : (e.space != 2 && e.name != [46]) = true) : linesP v t (e :: l) = (lineP v t e).bind fun a => (linesP v t l).map (a ++ ·) := by
 unfold linesP told
 rw [List.filter_cons, if_pos h, List.mapM_cons]
 cases lineP v t e with
 | none => rfl
 | some a =>
  simp only [bind, pure, Option.bind_some]
  cases List.mapM (lineP v t) (l.filter fun e => e.space != 2 && e.name != [46]) with
  | none => rfl
  | some m => simp
noncomputable def listedP (v : Volume) (t : Content) (r : Rec) : Option Bytes := (entriesP v r).bind (linesP v t)
theorem listedP_eq {v : Volume} (ok : VolOk v) (t : Content) {r : Rec} (rok : RecOk r) (hf : r.folder = true) : listed v t r = listedP v t r := by
 unfold listed listedP
 rw [folder_eq ok.byt rok hf]
 cases entriesP v r with
 | none => rfl
 | some l =>
  simp only [Option.map_some, Option.bind_some]
  unfold linesP told lineP
  rw [List.filter_filter]
  congr 2
  ·funext e
   rw [entP_eq ok]; rfl
  ·congr 1
   funext e
   exact Bool.and_comm _ _
inductive Res where
 | bad | missing | sort | many | ok (l : Bytes)
noncomputable def Res.ans : Res → List Int
 | .bad => [-3]
 | .missing => [-4]
 | .sort => [-5]
 | .many => [-1]
 | .ok l => (l.length : Int) :: l.map fun (x : Nat) => (x : Int)
noncomputable def onP (img p : Bytes) (f : Volume → Content → Rec → Res) : Res := match volP img with
 | none => .bad
 | some v => match tabP v with
  | none => .bad
  | some t => match lookP v t p with
   | .bad => .bad
   | .missing => .missing
   | .at_ r => f v t r
noncomputable def listP (most : Int) (img p : Bytes) : Res := onP img p fun v t r => if r.folder = false then .sort else match listedP v t r with
 | none => .bad
 | some l => if most < (l.length : Int) then .many else .ok l
theorem volP_ok {img : Bytes} (hb : Byt img) (hl : img.length < 2 ^ 30) {v : Volume} (h : volP img = some v) : VolOk v ∧ v.image = img.take (512 * le img 40 8) ∧ 512 * le img 40 8 ≤ img.length ∧ v.start = le img 48 8 := by
 rw [← volP_eq hb] at h
 unfold volume at h
 obtain ⟨b, hp, h⟩ := Option.bind_eq_some_iff.mp h
 obtain ⟨h1, h2, h3⟩ := part_len hp
 simp only at h
 split at h
 ·cases h
 rename_i hn
 cases h
 simp only
 rw [List.drop_zero] at h3
 have hS : SECTOR = 512 := rfl
 have hl' : ∀ i n, i + n ≤ 512 → le b i n = le img i n := fun i n h => by rw [h3, hS]; exact le_take h
 rw [hl' 40 8 (by decide), hl' 48 8 (by decide)] at *
 have c1 : [1, 2, 4, 8, 16, 32, 64, 128].contains (le b 13 1) = true := by
  cases q : [1, 2, 4, 8, 16, 32, 64, 128].contains (le b 13 1) with
  | true => rfl
  | false => exact absurd (.inr (.inr (.inl q))) hn
 have c2 : [512, 1024, 2048, 4096].contains (sizeBy (le b 64 1) (SECTOR * le b 13 1)) = true := by
  cases q : [512, 1024, 2048, 4096].contains (sizeBy (le b 64 1) (SECTOR * le b 13 1)) with
  | true => rfl
  | false => exact absurd (.inr (.inr (.inr (.inr (.inr (.inl q)))))) hn
 have c3 : [512, 1024, 2048, 4096, 8192, 16384, 32768, 65536].contains (sizeBy (le b 68 1) (SECTOR * le b 13 1)) = true := by
  cases q : [512, 1024, 2048, 4096, 8192, 16384, 32768, 65536].contains (sizeBy (le b 68 1) (SECTOR * le b 13 1)) with
  | true => rfl
  | false => exact absurd (.inr (.inr (.inr (.inr (.inr (.inr q)))))) hn
 have c4 : ¬ img.length < SECTOR * le img 40 8 := fun z => hn (.inr (.inr (.inr (.inr (.inl z)))))
 have m1 : le b 13 1 ∈ [1, 2, 4, 8, 16, 32, 64, 128] := List.contains_iff_mem.mp c1
 refine ⟨⟨hb.take _, ?_, ?_, List.contains_iff_mem.mp c2, List.contains_iff_mem.mp c3, ?_⟩, rfl, by rw [hS] at c4; omega, rfl⟩
 ·simp only [hS]; simp at m1; omega
 ·simp only [hS]; simp at m1; omega
 ·simp only [List.length_take]; omega
theorem lookP_rec {v : Volume} (ok : VolOk v) {t : Content} (tok : ∀ b, t.inside = some b → Byt b) : ∀ (ws : List Bytes) (r q : Rec), RecOk r → downP v t r ws = .at_ q → RecOk q
 | [], r, q, h, e => by
  have e : Way.at_ r = .at_ q := e
  cases e; exact h
 | w :: l, r, q, h, e => by
  unfold downP at e
  split at e
  ·cases e
  split at e
  ·cases e
  split at e
  ·cases e
  split at e
  ·cases e
  rename_i hq
  exact lookP_rec ok tok l _ q (recAt_ok ok tok (entP_rec hq)) e
theorem onP_eq {img p : Bytes} (hb : Byt img) (hl : img.length < 2 ^ 30) (F : Volume → Content → Rec → Ans) (f : Volume → Content → Rec → Res)
  (h : ∀ v t r, VolOk v → ContOk v t → RecOk r → (F v t r).value :: (F v t r).out.map (fun (x : Nat) => (x : Int)) = (f v t r).ans) :
  (on img p F).value :: (on img p F).out.map (fun (x : Nat) => (x : Int)) = (onP img p f).ans := by
 unfold on onP
 rw [volP_eq hb]
 cases hv : volP img with
 | none => rfl
 | some v =>
  obtain ⟨vok, _⟩ := volP_ok hb hl hv
  simp only
  rw [tabP_eq vok]
  cases ht : tabP v with
  | none => rfl
  | some t =>
   obtain ⟨tok, ti⟩ := tabP_ok vok ht
   have tb : ∀ b, t.inside = some b → Byt b := fun b z => by rw [ti] at z; cases z
   simp only
   rw [lookP_eq vok tb]
   cases hw : lookP v t p with
   | bad => rfl
   | missing => rfl
   | at_ r =>
    simp only
    refine h v t r vok tok ?_
    unfold lookP at hw
    split at hw
    ·cases hw
    rename_i r5 h5
    split at hw
    ·cases hw
    ·exact lookP_rec vok tb _ _ _ (recAt_ok vok tb h5) hw
theorem within_true {z : Int} {m : Nat} (h0 : 0 ≤ z) (h1 : z ≤ (m : Int)) : within z m = true := by
 unfold within
 rw [decide_eq_true h0, decide_eq_true h1]; rfl
theorem list_due {most : Int} {img p : Bytes} (hb : Byt img) (hl : img.length < 2 ^ 30) (h0 : 0 ≤ most) (h1 : most ≤ 33554432) (h2 : img.length ≤ 33554432) (h3 : p.length ≤ 4096) :
  (Sn35Neutral.does (.list img (img.length : Int) p (p.length : Int) most)).value :: (Sn35Neutral.does (.list img (img.length : Int) p (p.length : Int) most)).out.map (fun (x : Nat) => (x : Int)) = (listP most img p).ans := by
 have e : Sn35Neutral.does (.list img (img.length : Int) p (p.length : Int) most) = on img p fun v t r => if r.folder = false then ⟨-5, []⟩ else match listed v t r with
  | none => ⟨-3, []⟩
  | some l => if most < (l.length : Int) then ⟨-1, []⟩ else ⟨(l.length : Nat), l⟩ := by
  refine if_neg (c := within (img.length : Int) MOST = false ∨ within (p.length : Int) MOSTPATH = false ∨ within most MOST = false) ?_
  rw [within_true (Int.natCast_nonneg _) (by unfold MOST; omega), within_true (Int.natCast_nonneg _) (by unfold MOSTPATH; omega), within_true h0 (by unfold MOST; omega)]
  rintro (z | z | z) <;> cases z
 rw [e]
 refine onP_eq hb hl _ _ fun v t r vok tok rok => ?_
 by_cases hf : r.folder = false
 ·rw [if_pos hf, if_pos hf]; rfl
 rw [if_neg hf, if_neg hf, listedP_eq vok t rok (by simpa using hf)]
 cases listedP v t r with
 | none => rfl
 | some l =>
  simp only
  by_cases hm : most < (l.length : Int)
  ·rw [if_pos hm, if_pos hm]; rfl
  ·rw [if_neg hm, if_neg hm]; rfl
end Sv
end
section
namespace L2
open PySem PySem.Spec PyProof.Rows
theorem eqvAll_ints : ∀ ns ms : List Int, PyData.eqvAll (ns.map PyData.int) (ms.map PyData.int) = decide (ns = ms)
 | [], [] => by simp [PyData.eqvAll]
 | [], _ :: _ => by simp [PyData.eqvAll]
 | _ :: _, [] => by simp [PyData.eqvAll]
 | n :: ns, m :: ms => by
  rw [List.map_cons, List.map_cons, PyData.eqvAll, PyData.eqv, eqvAll_ints ns ms, Bool.eq_iff_iff]
  simp
theorem canLay_ints : ∀ ns : List Int, PyData.canLayAll0 (ns.map PyData.int) = true
 | [] => by simp [PyData.canLayAll0]
 | n :: ns => by rw [List.map_cons, PyData.canLayAll0, PyData.canLay0, canLay_ints ns]; rfl
theorem depth_ints : ∀ ns : List Int, PyData.depthAll (ns.map PyData.int) = 0
 | [] => by simp [PyData.depthAll]
 | n :: ns => by rw [List.map_cons, PyData.depthAll, PyData.depth, depth_ints ns]; rfl
theorem shaped_ints (ns : List Int) : SeqAt.shaped (.list (ns.map PyData.int)) = true := by
 unfold SeqAt.shaped
 rw [PyData.canLay0, canLay_ints, PyData.depth, depth_ints]; rfl
theorem dpAll_ints {K : Frag} {H : Hp} : ∀ ns : List Int, DpAll K H (ns.map V.int) (ns.map PyData.int)
 | [] => .nil
 | n :: ns => .cons (.int n) (dpAll_ints ns)
theorem dp_ints {K : Frag} {H : Hp} {a : Addr} {ns : List Int} (h : SqL K H a (ns.map V.int)) : Dp K H (.ref a) (.list (ns.map PyData.int)) := .lst h (dpAll_ints ns)
theorem natInts_inj {l m : List Nat} : (l.map fun (n : Nat) => (n : Int)) = (m.map fun (n : Nat) => (n : Int)) ↔ l = m := by
 constructor
 ·intro h
  have : ∀ {l m : List Nat}, (l.map fun (n : Nat) => (n : Int)) = (m.map fun (n : Nat) => (n : Int)) → l = m := by
   intro l
   induction l with
   | nil => intro m h; cases m with | nil => rfl | cons _ _ => cases h
   | cons a l ih =>
    intro m h
    cases m with
    | nil => cases h
    | cons b m =>
     simp only [List.map_cons, List.cons.injEq] at h
     rw [ih h.2, Int.ofNat.inj h.1]
  exact this h
 ·intro h; rw [h]
section
variable {X : Cx}
noncomputable def rEqB (K : Frag) (neg : Bool) : R2 := fun x y H Q => ∃ a b l m, x = .ref a ∧ y = .ref b ∧ Bs K H a l ∧ Bs K H b m ∧ Q (.bl (if neg then !decide (l = m) else decide (l = m))) H
theorem op_eqL (hu : X.A.units + 64 < cLine) : OpR X (compareOp .Eq) (rEqB X.K false) := by
 intro pins s σ H x y v u Q I rx ry h
 obtain ⟨a, b, l, m, rfl, rfl, ha, hb, q⟩ := h
 unfold Bs at ha hb
 rw [vN_ints] at ha hb
 refine op_eqD hu pins s σ H _ _ v u Q I rx ry ⟨_, _, dp_ints ha, dp_ints hb, shaped_ints _, shaped_ints _, ?_⟩
 rw [PyData.eqv, eqvAll_ints]
 have e : decide ((l.map fun (n : Nat) => (n : Int)) = (m.map fun (n : Nat) => (n : Int))) = decide (l = m) := by rw [Bool.eq_iff_iff]; simp only [decide_eq_true_eq]; exact natInts_inj
 rw [e]
 exact q
theorem op_neL (hu : X.A.units + 64 < cLine) : OpR X (compareOp .NotEq) (rEqB X.K true) := by
 intro pins s σ H x y v u Q I rx ry h
 obtain ⟨a, b, l, m, rfl, rfl, ha, hb, q⟩ := h
 unfold Bs at ha hb
 rw [vN_ints] at ha hb
 refine op_neD hu pins s σ H _ _ v u Q I rx ry ⟨_, _, dp_ints ha, dp_ints hb, shaped_ints _, shaped_ints _, ?_⟩
 rw [PyData.eqv, eqvAll_ints]
 have e : decide ((l.map fun (n : Nat) => (n : Int)) = (m.map fun (n : Nat) => (n : Int))) = decide (l = m) := by rw [Bool.eq_iff_iff]; simp only [decide_eq_true_eq]; exact natInts_inj
 rw [e]
 exact q
end
end L2
namespace HT
open PySem PyProof.Rows
open PySem.SeqAt
open PySem.AutoSeq1 (wpAny_loadPart')
open PySem.MeetsSeq PySem.MeetsSeq2 PySem.MeetsSeq3
theorem intsAre_get : ∀ {vs : List Value} {ns : List Int} {i : Nat} {n : Int}, IntsAre vs ns → ns[i]? = some n → ∃ t, vs[i]? = some (.int n t)
 | _, _, _, _, .nil, h => by simp at h
 | _, _, 0, _, .cons a t _, h => by simp at h; subst h; exact ⟨t, rfl⟩
 | _, _ :: ns, i + 1, n, .cons a t r, h => by
  have h : ns[i]? = some n := by simpa using h
  obtain ⟨t', e⟩ := intsAre_get r h
  exact ⟨t', by simpa using e⟩
theorem lex_drop_nil_l {ns ms : List Int} {i : Nat} (h : ns.length ≤ i) : lexLt (ns.drop i) (ms.drop i) = decide (i < ms.length) := by
 rw [List.drop_eq_nil_of_le h]
 by_cases q : i < ms.length
 ·rw [List.drop_eq_getElem_cons q, lexLt_nil_cons, decide_eq_true q]
 ·rw [List.drop_eq_nil_of_le (by omega), lexLt_nil_nil, decide_eq_false q]
theorem lex_drop_nil_r {ns ms : List Int} {i : Nat} (h : i < ns.length) (h2 : ms.length ≤ i) : lexLt (ns.drop i) (ms.drop i) = false := by
 rw [List.drop_eq_nil_of_le h2, List.drop_eq_getElem_cons h, lexLt_cons_nil]
theorem lt_loopAt (l b : Addr) (items items2 : Array Value) (n n2 : Nat) (dd dd2 : Option Addr) (sl sl2 : Array (Option Value)) (ns ms : List Int) (hi : IntsAre items.toList ns) (hj : IntsAre items2.toList ms) (k : Nat) :
  ∀ i : Nat, i ≤ ns.length → i ≤ ms.length → ns.length - i = k → Meets (Builtin.«list.__eq__.loop» ⟨[.ref l, .ref b, rawInt i, rawInt 0], []⟩)
   (fun A R s => s.heap.get? l = some { cls := .type "list", dict := dd, data := .seq items n, slots := sl } ∧ s.heap.get? b = some { cls := .type "list", dict := dd2, data := .seq items2 n2, slots := sl2 } ∧
    R (.ok (.ret (.bool (lexLt (ns.drop i) (ms.drop i))))) s) := by
 have z1 : items.size = ns.length := by rw [← hi.length]; simp
 have z2 : items2.size = ms.length := by rw [← hj.length]; simp
 induction k with
 | zero =>
  intro i hil him hk prog w A R s h
  obtain ⟨hp, g, d, tk, os⟩ := s; obtain ⟨hl, hb, h⟩ := h
  wp_walk using wpAny_loadPart' hl, wpAny_loadPart' hb
  have hi1 : items[((i : Nat) : Int).toNat]? = none := by simp; omega
  rw [lex_drop_nil_l (by omega)] at h
  rw [hi1]
  wp_walk using wpAny_loadPart' hl, wpAny_loadPart' hb
  show R (.ok (.ret (.bool (decide (items.size < items2.size))))) _
  rw [z1, z2]
  have e : decide (ns.length < ms.length) = decide (i < ms.length) := by congr 1; rw [show ns.length = i by omega]
  rw [e]
  exact h
 | succ k ih =>
  intro i hil him hk prog w A R s h
  obtain ⟨hp, g, d, tk, os⟩ := s; obtain ⟨hl, hb, h⟩ := h
  wp_walk using wpAny_loadPart' hl, wpAny_loadPart' hb
  have hlt : i < ns.length := by omega
  obtain ⟨t1, e1⟩ := intsAre_get hi (List.getElem?_eq_getElem hlt)
  have hi1 : items[((i : Nat) : Int).toNat]? = some (.int ns[i] t1) := by rw [Int.toNat_natCast, ← Array.getElem?_toList]; exact e1
  by_cases hlt2 : i < ms.length
  ·obtain ⟨t2, e2⟩ := intsAre_get hj (List.getElem?_eq_getElem hlt2)
   have hi2 : items2[((i : Nat) : Int).toNat]? = some (.int ms[i] t2) := by rw [Int.toNat_natCast, ← Array.getElem?_toList]; exact e2
   have hc : ((i : Int) + 1) = ((i + 1 : Nat) : Int) := by push_cast; rfl
   rw [List.drop_eq_getElem_cons hlt, List.drop_eq_getElem_cons hlt2, lexLt_cons] at h
   rw [hi1, hi2]
   obtain ⟨e, he, hiff⟩ := eqAt_int A.in1 ⟨hp, g, d, tk, os⟩ ns[i] t1 ms[i] t2
   refine wpAny_bind (he prog w _ _ ?_)
   cases e with
   | true =>
    rw [if_pos (hiff.mp rfl)] at h
    wp_walk
    rw [hc]
    exact ⟨plainId_quiet plain_eq_loop _, codeAny_builtin entry_eq_loop (by
     rw [Around.under_plainId plain_eq_loop _]
     exact ih (i + 1) (by omega) (by omega) (by omega) prog w A R _ ⟨hl, hb, h⟩)⟩
   | false =>
    rw [if_neg (fun q => absurd (hiff.mpr q) Bool.false_ne_true)] at h
    have hri := rcLt_int A.in1 ⟨hp, g, d, tk, os⟩ ns[i] t1 ms[i] t2 prog w
    wp_walk using wpAny_loadPart' hl, wpAny_loadPart' hb
    rw [hi1, hi2]
    wp_walk using hri
    simpa using h
  ·have hi2 : items2[((i : Nat) : Int).toNat]? = none := by simp; omega
   rw [lex_drop_nil_r hlt (by omega)] at h
   rw [hi1, hi2]
   wp_walk using wpAny_loadPart' hl, wpAny_loadPart' hb
   show R (.ok (.ret (.bool (decide (items.size < items2.size))))) _
   rw [z1, z2, decide_eq_false (by omega)]
   exact h
theorem list_ltAt (l b : Addr) (items items2 : Array Value) (n n2 : Nat) (dd dd2 : Option Addr) (sl sl2 : Array (Option Value)) (ns ms : List Int) (hi : IntsAre items.toList ns) (hj : IntsAre items2.toList ms) :
  Meets (Builtin.«list.__lt__» ⟨[.ref l, .ref b], []⟩)
   (fun A R s => s.heap.get? l = some { cls := .type "list", dict := dd, data := .seq items n, slots := sl } ∧ s.heap.get? b = some { cls := .type "list", dict := dd2, data := .seq items2 n2, slots := sl2 } ∧
    R (.ok (.ret (.bool (lexLt ns ms)))) s) := by
 intro prog w A R s h
 obtain ⟨hp, g, d, tk, os⟩ := s; obtain ⟨hl, hb, h⟩ := h
 have f3 := AutoSeq1.sub_list_list
 wp_walk using wpAny_loadPart' hl, wpAny_loadPart' hb
 exact ⟨plainId_quiet plain_eq_loop _, codeAny_builtin entry_eq_loop (by
  rw [Around.under_plainId plain_eq_loop _]
  exact lt_loopAt l b items items2 n n2 dd dd2 sl sl2 ns ms hi hj _ 0 (Nat.zero_le _) (Nat.zero_le _) rfl prog w A R _ ⟨hl, hb, by simpa using h⟩)⟩
theorem lex_less : ∀ l m : List Nat, lexLt (l.map fun (n : Nat) => (n : Int)) (m.map fun (n : Nat) => (n : Int)) = Sn35.less l m
 | [], [] => rfl
 | [], _ :: _ => rfl
 | _ :: _, [] => rfl
 | a :: l, b :: m => by
  rw [List.map_cons, List.map_cons, lexLt_cons, Sn35.less]
  by_cases h : a = b
  ·subst h
   rw [if_pos rfl, lex_less l m]; simp
  ·rw [if_neg (show ¬ ((a : Int) = (b : Int)) by omega), beq_eq_false_iff_ne.mpr h, Bool.false_and, Bool.or_false]
   simp
end HT
namespace L2
open PySem PySem.Spec PyProof.Rows
section
variable {X : Cx}
noncomputable def rLtB (K : Frag) : R2 := fun x y H Q => ∃ a b l m, x = .ref a ∧ y = .ref b ∧ Bs K H a l ∧ Bs K H b m ∧ Q (.bl (Sn35.less l m)) H
theorem op_ltL (hu : X.A.units + 64 < cLine) : OpR X (compareOp .Lt) (rLtB X.K) := by
 intro pins s σ H x y v u Q I rx ry h
 obtain ⟨a, b, l, m, rfl, rfl, ha, hb, q⟩ := h
 cases rx
 cases ry
 unfold Bs at ha hb
 rw [vN_ints] at ha hb
 obtain ⟨its, r1, ⟨o, n, ho, hc, hdd, hd⟩, _⟩ := I.list ha
 obtain ⟨its2, r2, ⟨o2, n2, ho2, hc2, hdd2, hd2⟩, _⟩ := I.list hb
 have i1 : IntsAre its.toArray.toList _ := intsAre_of r1
 have i2 : IntsAre its2.toArray.toList _ := intsAre_of r2
 obtain ⟨cls, dd, data, sl⟩ := o
 obtain ⟨cls2, dd2, data2, sl2⟩ := o2
 simp only at hc hd hc2 hd2
 subst hc hd hc2 hd2
 refine richCompare_meets_room (op := .Lt) ⟨_, ho, rfl⟩ ⟨_, ho2, rfl⟩ PySem.F.slot_list_lt PySem.F.entry_list_lt (PySem.F.args_list_lt_2 _ _) (HT.list_ltAt a b _ _ n n2 dd dd2 sl sl2 _ _ i1 i2)
  ⟨ho, ho2, show Value.bool _ ≠ Value.notImplemented ∧ EP X pins σ Q (.bool _) s from ⟨(fun x => nomatch x), ?_⟩⟩ (by omega)
 rw [HT.lex_less]
 exact ⟨.bl _, H, I, rfl, q⟩
end
end L2
end
section
namespace Sv
open PySem PySem.Spec L2
noncomputable def top (i : Nat) : Stmt := PySem.Challenge.pw_strictvolume_s01_list_of.main.body.getD i (.Pass ⟨0, 0, 0, 0⟩)
noncomputable abbrev s_must : Stmt := top 6
noncomputable abbrev s_codes : Stmt := top 7
noncomputable abbrev s_part : Stmt := top 8
noncomputable abbrev s_number_at : Stmt := top 9
noncomputable abbrev s_signed_number_at : Stmt := top 10
noncomputable abbrev s_letters_at : Stmt := top 11
noncomputable abbrev s_HeldHere_init : Stmt := inClass (top 14) 0
noncomputable abbrev s_HeldHere_taken : Stmt := inClass (top 14) 1
noncomputable abbrev s_HeldInClusters_init : Stmt := inClass (top 15) 0
noncomputable abbrev s_HeldInClusters_taken : Stmt := inClass (top 15) 1
noncomputable abbrev s_HeldInClusters_stored_part : Stmt := inClass (top 15) 2
noncomputable abbrev s_clusters_told : Stmt := top 16
noncomputable abbrev s_Run_init : Stmt := inClass (top 17) 0
noncomputable abbrev s_run_part : Stmt := top 18
noncomputable abbrev s_runs_in : Stmt := top 19
noncomputable abbrev s_held : Stmt := top 20
noncomputable abbrev s_Layout_init : Stmt := inClass (top 25) 0
noncomputable abbrev s_Layout_volume_part : Stmt := inClass (top 25) 1
noncomputable abbrev s_length_told : Stmt := top 26
noncomputable abbrev s_power_of_two : Stmt := top 27
noncomputable abbrev s_without_marks : Stmt := top 29
noncomputable abbrev s_Entry_init : Stmt := inClass (top 34) 0
noncomputable abbrev s_block_number_in : Stmt := top 35
noncomputable abbrev s_kind_in : Stmt := top 36
noncomputable abbrev s_name_in : Stmt := top 37
noncomputable abbrev s_node_entries : Stmt := top 38
noncomputable abbrev s_Folder_init : Stmt := inClass (top 45) 0
noncomputable abbrev s_Folder_block_entries : Stmt := inClass (top 45) 1
noncomputable abbrev s_Folder_block : Stmt := inClass (top 45) 2
noncomputable abbrev s_first_node_entries : Stmt := top 46
noncomputable abbrev s_Step_init : Stmt := inClass (top 47) 0
noncomputable abbrev s_steps_back : Stmt := top 48
noncomputable abbrev s_entries_in_order : Stmt := top 49
noncomputable abbrev s_great_letters : Stmt := top 50
noncomputable abbrev s_Attribute_init : Stmt := inClass (top 55) 0
noncomputable abbrev s_attributes_in : Stmt := top 56
noncomputable abbrev s_Record_init : Stmt := inClass (top 60) 0
noncomputable abbrev s_Record_attribute : Stmt := inClass (top 60) 1
noncomputable abbrev s_Volume_init : Stmt := inClass (top 61) 0
noncomputable abbrev s_Volume_record : Stmt := inClass (top 61) 1
noncomputable abbrev s_Volume_record_of : Stmt := inClass (top 61) 2
noncomputable abbrev s_records_held : Stmt := top 62
noncomputable abbrev s_file_held : Stmt := top 63
noncomputable abbrev s_file_size : Stmt := top 64
noncomputable abbrev s_names_in : Stmt := top 67
noncomputable abbrev s_entries_by_name : Stmt := top 68
noncomputable abbrev s_record_at : Stmt := top 69
noncomputable abbrev s_list_of : Stmt := top 73
noncomputable abbrev s_in_bounds : Stmt := top 74
noncomputable abbrev s_answered : Stmt := top 75
noncomputable abbrev s_listing_at : Stmt := top 76
noncomputable abbrev s_line_of : Stmt := top 77
end Sv
end
section
namespace Sv
open PySem PySem.Spec L2
structure Adr where
 NotSo : Addr
 NotThere : Addr
 WrongSort : Addr
 TooMany : Addr
 HeldHere : Addr
 HeldInClusters : Addr
 Run : Addr
 Layout : Addr
 Entry : Addr
 Folder : Addr
 Step : Addr
 Attribute : Addr
 Record : Addr
 Volume : Addr
structure Ob (K : Frag) (C : Addr) (fs : List Str) : Prop where
 cl : Cls K C
 na : ∀ f ∈ fs, NoAttr K C f
structure Txt (K : Frag) (mg : Str → Option Value) (A : Adr) : Prop where
 x_NotSo : mg "NotSo" = some (.ref A.NotSo)
 xc_NotSo : XCls K A.NotSo
 x_NotThere : mg "NotThere" = some (.ref A.NotThere)
 xc_NotThere : XCls K A.NotThere
 x_WrongSort : mg "WrongSort" = some (.ref A.WrongSort)
 xc_WrongSort : XCls K A.WrongSort
 x_TooMany : mg "TooMany" = some (.ref A.TooMany)
 xc_TooMany : XCls K A.TooMany
 n_len : mg "len" = none
 n_min : mg "min" = none
 n_max : mg "max" = none
 n_sum : mg "sum" = none
 n_all : mg "all" = none
 n_ord : mg "ord" = none
 n_str : mg "str" = none
 n_list : mg "list" = none
 n_tuple : mg "tuple" = none
 n_range : mg "range" = none
 n_reversed : mg "reversed" = none
 c_RUN_BOUND : GC mg "RUN_BOUND" (.int 4294967296)
 c_SECTOR : GC mg "SECTOR" (.int 512)
 c_LONGEST_RECORD : GC mg "LONGEST_RECORD" (.int 4096)
 c_LONGEST_BLOCK : GC mg "LONGEST_BLOCK" (.int 65536)
 c_BLOCK_BELOW : GC mg "BLOCK_BELOW" (.int 1)
 c_LAST : GC mg "LAST" (.int 2)
 c_NAME_PLACE : GC mg "NAME_PLACE" (.int 82)
 c_FIRST_NODE : GC mg "FIRST_NODE" (.int 0x90)
 c_BLOCKS : GC mg "BLOCKS" (.int 0xA0)
 c_FOLDER_NAME : GC mg "FOLDER_NAME" (.str "$I30")
 c_MOST_LEVELS : GC mg "MOST_LEVELS" (.int 16)
 c_MOST_ENTRIES : GC mg "MOST_ENTRIES" (.int 4096)
 c_LIST_OF_ATTRIBUTES : GC mg "LIST_OF_ATTRIBUTES" (.int 0x20)
 c_END_OF_ATTRIBUTES : GC mg "END_OF_ATTRIBUTES" (.int 0xFFFFFFFF)
 c_SPARSE : GC mg "SPARSE" (.int 0x8000)
 c_DATA : GC mg "DATA" (.int 0x80)
 c_TOP_FOLDER : GC mg "TOP_FOLDER" (.int 5)
 c_KIND_NOT_LOOKED_FOR : GC mg "KIND_NOT_LOOKED_FOR" (.int 2)
 c_MOST_BYTES : GC mg "MOST_BYTES" (.int 33554432)
 c_MOST_PATH : GC mg "MOST_PATH" (.int 4096)
 o_HeldHere : Ob K A.HeldHere ["content", "size"]
 o_HeldInClusters : Ob K A.HeldInClusters ["layout", "size", "begun", "runs"]
 o_Run : Ob K A.Run ["begin", "clusters"]
 o_Layout : Ob K A.Layout ["image", "cluster", "end", "records_place", "record_length", "block_length"]
 o_Entry : Ob K A.Entry ["length", "number", "uses", "is_last", "below", "kind", "name"]
 o_Folder : Ob K A.Folder ["layout", "first_entries", "blocks", "known_blocks"]
 o_Step : Ob K A.Step ["level", "block_number", "entry"]
 o_Attribute : Ob K A.Attribute ["data", "kind", "in_clusters", "name"]
 o_Record : Ob K A.Record ["uses", "is_folder", "attributes"]
 o_Volume : Ob K A.Volume ["layout", "stream", "top"]
theorem boot_len : bootBuiltins "len" = some (.builtin "len") := by decide +kernel
theorem boot_min : bootBuiltins "min" = some (.builtin "min") := by decide +kernel
theorem boot_max : bootBuiltins "max" = some (.builtin "max") := by decide +kernel
theorem boot_sum : bootBuiltins "sum" = some (.builtin "sum") := by decide +kernel
theorem boot_all : bootBuiltins "all" = some (.builtin "all") := by decide +kernel
theorem boot_ord : bootBuiltins "ord" = some (.builtin "ord") := by decide +kernel
theorem boot_str : bootBuiltins "str" = some (.type "str") := by decide +kernel
theorem boot_list : bootBuiltins "list" = some (.type "list") := by decide +kernel
theorem boot_tuple : bootBuiltins "tuple" = some (.type "tuple") := by decide +kernel
noncomputable def OAt (H : Hp) (C p : Addr) (fv : List (Str × V)) : Prop := ∃ dx fs, H p = some (.ins C dx fs) ∧ ∀ g, fs.lookup g = fv.lookup g
theorem OAt.up {H H' : Hp} {C p : Addr} {fv : List (Str × V)} (s : Same H H') (h : OAt H C p fv) : OAt H' C p fv := by
 obtain ⟨dx, fs, e, l⟩ := h
 exact ⟨dx, fs, s _ _ e, l⟩
theorem lk0 {f : Str} {v : V} {r : List (Str × V)} : ((f, v) :: r).lookup f = some v := by simp [List.lookup]
theorem lkS {f g : Str} {v : V} {r : List (Str × V)} {o : Option V} (h : f ≠ g) (e : r.lookup f = o) : ((g, v) :: r).lookup f = o := by
 have : (f == g) = false := beq_eq_false_iff_ne.mpr h
 simp only [List.lookup, this]; exact e
end Sv
end
section
namespace Sv
open PySem PySem.Spec L2
noncomputable def spCodes : Sp := fun vs H Q _ => ∃ x : Str, vs = [.str x] ∧ x.cps.size ≤ 1000 ∧ ∀ p, H p = none → Q (.ref p) (upd H p (.lst (vN x.cps.toList)))
noncomputable def spPart (K : Frag) (CN : Addr) : Sp := fun vs H Q E => ∃ (a : Addr) (b : List Nat) (i n : Nat), vs = [.ref a, .int i, .int n] ∧ Bs K H a b ∧ Orr CN E (Sn35.part b i n) fun r => ∀ p, H p = none → Q (.ref p) (upd H p (.lst (vN r)))
noncomputable def spNum (K : Frag) (CN : Addr) : Sp := fun vs H Q E => ∃ (a : Addr) (b : List Nat) (i n : Nat), vs = [.ref a, .int i, .int n] ∧ Bs K H a b ∧ Orr CN E (numO b i n) fun r => Q (.int (r : Int)) H
section
variable {P : Program} {w : World} {K : Frag} {mg : Str → Option Value} {base : Heap} {A : Adr} {f : Addr} {fd : FuncData}
theorem sc_must : FnScope ["so"] ["so"] (defScope s_must) := ⟨rfl, rfl, rfl, dk, rfl, dk, dk⟩
theorem ok_must (F : Fun K "must" "must" s_must f fd) (T : Txt K mg A) : FnOk P w K mg base (CXR P w) 1 f fd ["so"] (spMust A.NotSo) := by
 refine F.okR sc_must (fun vs H Q E h => ?_) (fun cdv A' outer s H vs Q E hr h => ?_)
 ·obtain ⟨b, rfl, _⟩ := h
  rfl
 ·obtain ⟨b, rfl, h⟩ := h
  refine ⟨_, (pss_one (ps_if (pt_not (pt_val (pv 0)))
 (pss_one (ps_raise rfl T.x_NotSo T.xc_NotSo rfl (pa_cons pe_str pa_nil) (fun _ _ _ _ _ _ _ I hx q => raiseR I hx q)))
 pss_nil)), ?_⟩
  refine ⟨_, rfl, b, rfl, ?_⟩
  cases b with
  | true => exact ⟨H, Fg.refl H, h⟩
  | false => exact ⟨by show 1 ≤ sizeLine; decide, h⟩
theorem sc_codes : FnScope ["text", "sign"] ["text"] (defScope s_codes) := ⟨rfl, rfl, rfl, dk, rfl, dk, dk⟩
theorem ok_codes (F : Fun K "codes" "codes" s_codes f fd) (T : Txt K mg A) : FnOk P w K mg base (CXR P w) 1 f fd ["text"] spCodes := by
 refine F.okR sc_codes (fun vs H Q E h => ?_) (fun cdv A' outer s H vs Q E hr h => ?_)
 ·obtain ⟨b, rfl, _⟩ := h
  rfl
 ·obtain ⟨x, rfl, hx, k⟩ := h
  refine ⟨_, (pss_one (ps_ret (pe_lc (own := [("sign", 1)]) rfl sc_codes.nd (pi_str (pv 0)) (blkOk_by (by (show blkC ["text", "sign"] (defScope s_codes) _ _ = true); decide +kernel)) (fun _ _ _ _ _ => pg_name (i := 1) sc_codes.nd rfl (Or.inl rfl)) (fun _ _ _ _ _ => pts_nil) (fun _ _ _ _ _ => (pe_callB call_ord rfl T.n_ord boot_ord (pa_cons (pv 1) pa_nil)))))), ?_⟩
  refine ⟨_, rfl, x, rfl, fun D hD => ?_⟩
  refine ⟨fun i m H' => m = x.cps.size - i ∧ i ≤ x.cps.size ∧ H' = upd H D (.lst (vN (x.cps.toList.take i))), ⟨x.cps.size, by omega, by omega, rfl⟩, ?_⟩
  rintro i m H' ⟨rfl, hi, rfl⟩
  by_cases hlt : i < x.cps.size
  ·refine .inr ⟨hlt, fun H' => H' = upd H D (.lst (vN (x.cps.toList.take (i + 1)))), fun H' e => ⟨x.cps.size - (i + 1), by omega, rfl, by omega, e⟩, ?_⟩
   rintro v H' ⟨rfl, c, hc, rfl⟩
   refine ⟨rfl, tYes_of ?_⟩
   refine ⟨_, rfl, _, rfl, rfl, ?_⟩
   refine ⟨_, upd_same, ?_, ?_⟩
   ·rw [vN_len, List.length_take]
    exact Nat.lt_of_le_of_lt (Nat.min_le_left _ _) (Nat.lt_of_lt_of_le hlt (Nat.le_trans hx (by decide)))
   ·rw [upd_upd]
    congr 2
    have hc' : x.cps.toList[i]? = some c := by rw [Array.getElem?_toList]; exact hc
    unfold vN
    rw [List.take_add_one, hc', List.map_append]
    rfl
  ·have e : i = x.cps.size := by omega
   subst e
   refine .inl ⟨Nat.le_refl _, _, Fg.refl _, ?_⟩
   have : x.cps.toList.take x.cps.size = x.cps.toList := List.take_of_length_le (by simp)
   rw [this]
   exact k D hD
theorem sc_part : FnScope ["data", "place", "many"] ["data", "place", "many"] (defScope s_part) := ⟨rfl, rfl, rfl, dk, rfl, dk, dk⟩
noncomputable abbrev Dq1 (P : Program) (w : World) (K : Frag) (mg : Str → Option Value) (base : Heap) (A : Adr) : Prop := Def P w K mg base 1 "must" ["so"] (spMust A.NotSo)
theorem ok_part (F : Fun K "part" "part" s_part f fd) (T : Txt K mg A) (d_must : Dq1 P w K mg base A) : FnOk P w K mg base (CXR P w) 2 f fd ["data", "place", "many"] (spPart K A.NotSo) := by
 refine F.okR sc_part (fun vs H Q E h => ?_) (fun cdv A' outer s H vs Q E hr h => ?_)
 ·obtain ⟨a, b, i, n, rfl, _⟩ := h
  rfl
 ·obtain ⟨a, b, i, n, rfl, hb, k⟩ := h
  refine ⟨_, (pss_cons (ps_must d_must hr (by decide) rfl passR (pe_cmpR op_le (pe_op op_add (pv 1) (pv 2)) (pe_callB call_len_seq rfl T.n_len boot_len (pa_cons (pv 0) pa_nil)) (nomark _)))
 (pss_one (ps_ret (pe_slice sl_list (pv 0) (po_some (pv 1)) (po_some (pe_op op_add (pv 1) (pv 2))))))), ?_⟩
  refine ⟨_, rfl, _, rfl, _, _, rfl, rfl, _, rfl, a, _, rfl, .inl hb, _, _, rfl, rfl, _, rfl, ?_⟩
  rw [vN_len]
  refine ite2 (fun h => ?_) (fun h => ?_)
  ·have h := of_decide_eq_true h
   rw [part_some (by omega)] at k
   refine ⟨H, Fg.refl H, ?_⟩
   refine ⟨_, rfl, _, rfl, _, rfl, _, rfl, _, rfl, _, _, rfl, rfl, _, rfl, a, _, rfl, hb, fun p hp => ⟨_, Fg.refl _, ?_⟩⟩
   have e : ((i : Int) + (n : Int)) = ((i + n : Nat) : Int) := by omega
   rw [e, cut_vN (by omega)]
   exact k p hp
  ·have h : ¬ ((i : Int) + (n : Int) ≤ ((b.length : Nat) : Int)) := fun z => h (decide_eq_true z)
   rw [part_none (by omega)] at k
   exact k H
theorem sc_number_at : FnScope ["data", "place", "many", "total", "byte"] ["data", "place", "many"] (defScope s_number_at) := ⟨rfl, rfl, rfl, dk, rfl, dk, dk⟩
theorem for_rev {a : Addr} {xs : List V} {g : TG} {tb : TS} {D : Ends} {σ : St} {H : Hp} (Pv : Nat → St → Hp → Prop) (h0 : Pv 0 σ H) (hl : ∀ i σ H, i ≤ xs.length → Pv i σ H → SqL K H a xs)
  (hs : ∀ i x σ H, i < xs.length → xs[xs.length - 1 - i]? = some x → Pv i σ H → g x σ H fun σ2 H2 => tb { D with nx := Pv (i + 1), ct := Pv (i + 1), bk := D.nx } σ2 H2) (hd : ∀ σ H, Pv xs.length σ H → D.nx σ H) :
  ∃ W : Nat → Nat → St → Hp → Prop, (∃ m, W 0 m σ H) ∧ ∀ i m σ H, W i m σ H →
   ((Itv K a xs.length).stop i H ∧ D.nx σ H) ∨ ((Itv K a xs.length).go i H ∧ ∃ N : St → Hp → Prop, (∀ σ' H', N σ' H' → ∃ m', m' < m ∧ W (i + 1) m' σ' H') ∧ ∀ x H', (Itv K a xs.length).yld i H x H' → g x σ H' fun σ2 H2 => tb { D with nx := N, ct := N, bk := D.nx } σ2 H2) := by
 refine ⟨fun i m σ H => m = xs.length - i ∧ i ≤ xs.length ∧ Pv i σ H, ⟨xs.length, by simp, Nat.zero_le _, h0⟩, ?_⟩
 rintro i m σ H ⟨rfl, hi, p⟩
 have q := hl i σ H hi p
 by_cases hlt : i < xs.length
 ·refine .inr ⟨⟨hlt, xs, xs[xs.length - 1 - i], q, List.getElem?_eq_getElem (by omega)⟩, Pv (i + 1), fun σ' H' p' => ⟨xs.length - (i + 1), by omega, rfl, hlt, p'⟩, fun x H' y => ?_⟩
  obtain ⟨e, y⟩ := y
  subst e
  exact hs i x σ _ hlt (y xs q) p
 ·have e : i = xs.length := by omega
  subst e
  exact .inl ⟨Nat.le_refl _, hd σ H p⟩
noncomputable abbrev Dq3 (P : Program) (w : World) (K : Frag) (mg : Str → Option Value) (base : Heap) (A : Adr) : Prop := Def P w K mg base 2 "part" ["data", "place", "many"] (spPart K A.NotSo)
theorem ok_number_at (F : Fun K "number_at" "number_at" s_number_at f fd) (T : Txt K mg A) (d_part : Dq3 P w K mg base A) :
  FnOk P w K mg base (CXR P w) 3 f fd ["data", "place", "many"] (spNum K A.NotSo) := by
 refine F.okR sc_number_at (fun vs H Q E h => ?_) (fun cdv A' outer s H vs Q E hr h => ?_)
 ·obtain ⟨a, b, i, n, rfl, _⟩ := h
  rfl
 ·obtain ⟨a, b, i, n, rfl, hb, k⟩ := h
  refine ⟨_, (pss_cons (ps_set (i := 3) sc_number_at.nd rfl (Or.inl rfl) pe_int)
 (pss_cons (ps_for PassesOwn.leaving rfl (pi_reversed rfl T.n_reversed (pa_cons (pe_fn d_part hr (by decide) rfl passR (pa_cons (pv 0) (pa_cons (pv 1) (pa_cons (pv 2) pa_nil)))) pa_nil)) (pg_name (i := 4) sc_number_at.nd rfl (Or.inl rfl))
 (pss_one (ps_set (i := 3) sc_number_at.nd rfl (Or.inl rfl) (pe_op op_add (pe_op op_mul (pv 3) pe_int) (pv 4)))))
 (pss_one (ps_ret (pv 3))))), ?_⟩
  show gName 3 (V.int 0) _ _ _
  refine ⟨_, rfl, _, rfl, _, rfl, a, b, i, n, rfl, hb, ?_⟩
  by_cases hl : b.length < i + n
  ·rw [part_none hl]
   rw [numO_none hl] at k
   exact k
  ·rw [part_some (by omega)]
   rw [numO_some (by omega)] at k
   intro p hp
   refine ⟨p, _, rfl, SqL.of upd_same, ?_⟩
   refine for_rev (a := p) (fun j σ H' => ∃ v, σ = [some (.ref a), some (.int i), some (.int n), some (.int (num (((b.drop i).take n).drop (((b.drop i).take n).length - j)) : Int)), v] ∧ H' = upd H p (.lst (vN ((b.drop i).take n))))
    ⟨none, by rw [num_none]; rfl, rfl⟩ (fun j σ H' _ ⟨_, _, e⟩ => by rw [e]; exact SqL.of upd_same) ?_ ?_
   ·rintro j x σ H' hj hx ⟨v, rfl, rfl⟩
    rw [vN_len] at hj hx
    obtain ⟨y, hy, rfl⟩ := vN_get hx
    refine ⟨_, rfl, _, _, rfl, rfl, .inr ⟨by decide, by decide⟩, _, rfl, _, _, rfl, rfl, ?_⟩
    refine ⟨some (V.int (y : Int)), ?_, rfl⟩
    have e := num_step hj hy
    rw [e]
    push_cast
    rfl
   ·rintro σ H' ⟨v, rfl, rfl⟩
    rw [vN_len, num_all]
    exact ⟨_, rfl, H, Fg.lst hp, k⟩
noncomputable def spSig (K : Frag) (CN : Addr) : Sp := fun vs H Q E => ∃ (a : Addr) (b : List Nat) (i n : Nat), vs = [.ref a, .int i, .int n] ∧ Bs K H a b ∧ 1 ≤ n ∧ n ≤ 1000 ∧ Orr CN E ((numO b i n).map fun _ => Sn35.signedLe b i n) fun r => Q (.int r) H
theorem sc_signed_number_at : FnScope ["data", "place", "many", "total", "beyond", "step"] ["data", "place", "many"] (defScope s_signed_number_at) := ⟨rfl, rfl, rfl, dk, rfl, dk, dk⟩
noncomputable abbrev Dq2 (P : Program) (w : World) (K : Frag) (mg : Str → Option Value) (base : Heap) (A : Adr) : Prop := Def P w K mg base 3 "number_at" ["data", "place", "many"] (spNum K A.NotSo)
theorem ok_signed_number_at (F : Fun K "signed_number_at" "signed_number_at" s_signed_number_at f fd) (T : Txt K mg A) (d_number_at : Dq2 P w K mg base A) :
  FnOk P w K mg base (CXR P w) 4 f fd ["data", "place", "many"] (spSig K A.NotSo) := by
 refine F.okR sc_signed_number_at (fun vs H Q E h => ?_) (fun cdv A' outer s H vs Q E hr h => ?_)
 ·obtain ⟨a, b, i, n, rfl, _⟩ := h
  rfl
 ·obtain ⟨a, b, i, n, rfl, hb, h1, h2, k⟩ := h
  refine ⟨_, (pss_cons (ps_set (i := 3) sc_signed_number_at.nd rfl (Or.inl rfl) (pe_fn d_number_at hr (by decide) rfl passR (pa_cons (pv 0) (pa_cons (pv 1) (pa_cons (pv 2) pa_nil)))))
 (pss_cons (ps_set (i := 4) sc_signed_number_at.nd rfl (Or.inl rfl) pe_int)
 (pss_cons (ps_for PassesOwn.leaving rfl (pi_range1 rfl T.n_range (pa_cons (pv 2) pa_nil)) (pg_name (i := 5) sc_signed_number_at.nd rfl (Or.inl rfl))
 (pss_one (ps_set (i := 4) sc_signed_number_at.nd rfl (Or.inl rfl) (pe_op op_mul (pv 4) pe_int))))
 (pss_one (ps_ret (pe_ifExp (pt_cmpR op_lt (pv 3) (pe_op op_fdiv (pv 4) pe_int) (nomark _)) (pv 3) (pe_op op_sub (pv 3) (pv 4)))))))), ?_⟩
  refine ⟨_, rfl, _, rfl, _, rfl, a, b, i, n, rfl, hb, ?_⟩
  by_cases hl : b.length < i + n
  ·rw [numO_none hl] at k ⊢
   exact k
  ·rw [numO_some (by omega)] at k ⊢
   refine ⟨_, rfl, n, rfl, by omega, by omega, for_range (fun j σ H' => ∃ v, σ = [some (.ref a), some (.int i), some (.int n), some (.int (Sn35.le b i n : Int)), some (.int ((256 : Int) ^ j)), v] ∧ H = H') ⟨none, rfl, rfl⟩ ?_ ?_⟩
   ·rintro j σ H' hj ⟨v, rfl, rfl⟩
    refine ⟨_, rfl, _, _, rfl, rfl, .inr ⟨by decide, by decide⟩, ?_⟩
    exact ⟨_, by rw [Int.pow_succ]; rfl, rfl⟩
   ·rintro σ H' ⟨v, rfl, rfl⟩
    have k : Q (.int (Sn35.signedLe b i n)) H := k
    rw [signed_eq h1] at k
    rw [Int.toNat_natCast]
    refine ⟨_, rfl, _, rfl, _, _, rfl, rfl, ⟨by decide, by decide⟩, _, _, rfl, rfl, _, rfl, ?_⟩
    refine ite2 (fun h => ?_) (fun h => ?_)
    ·have h := of_decide_eq_true h
     rw [if_pos h] at k
     exact ⟨_, rfl, H, Fg.refl H, k⟩
    ·have h : ¬ _ := fun z => h (decide_eq_true z)
     rw [if_neg h] at k
     exact ⟨_, rfl, _, rfl, _, _, rfl, rfl, H, Fg.refl H, k⟩
noncomputable def spLet (K : Frag) (CN : Addr) : Sp := fun vs H Q E => ∃ (a : Addr) (b : List Nat) (i n : Nat), vs = [.ref a, .int i, .int n] ∧ Bs K H a b ∧ n ≤ 1000 ∧ Orr CN E (letO b i n) fun r => ∀ p, H p = none → Q (.ref p) (upd H p (.lst (vN r)))
theorem sc_letters_at : FnScope ["data", "place", "many", "step"] ["data", "place", "many"] (defScope s_letters_at) := ⟨rfl, rfl, rfl, dk, rfl, dk, dk⟩
theorem ok_letters_at (F : Fun K "letters_at" "letters_at" s_letters_at f fd) (T : Txt K mg A) (d_number_at : Dq2 P w K mg base A) :
  FnOk P w K mg base (CXR P w) 4 f fd ["data", "place", "many"] (spLet K A.NotSo) := by
 refine F.okR sc_letters_at (fun vs H Q E h => ?_) (fun cdv A' outer s H vs Q E hr h => ?_)
 ·obtain ⟨a, b, i, n, rfl, _⟩ := h
  rfl
 ·obtain ⟨a, b, i, n, rfl, hb, hn, k⟩ := h
  refine ⟨_, (pss_one (ps_ret (pe_lcx (own := [("step", 3)]) fnCx rfl sc_letters_at.nd (pi_range1 rfl T.n_range (pa_cons (pv 2) pa_nil)) (blkOk_by (by (show blkC ["data", "place", "many", "step"] (defScope s_letters_at) _ _ = true); decide +kernel)) (fun _ _ _ _ _ _ => pg_name (i := 3) sc_letters_at.nd rfl (Or.inl rfl)) (fun _ _ _ _ _ _ => pts_nil) (fun _ _ _ _ _ _ hps => (pe_fn d_number_at hr (by decide) rfl hps (pa_cons (pv 0) (pa_cons (pe_op op_add (pv 1) (pe_op op_mul pe_int (pv 3))) (pa_cons pe_int pa_nil)))))))), ?_⟩
  refine ⟨_, rfl, n, rfl, by omega, by omega, fun D hD => ?_⟩
  refine lc_range (fun j H' => H' = upd H D (.lst (vN (lets b i j))) ∧ (j = 0 ∨ i + 2 * j ≤ b.length)) ⟨rfl, .inl rfl⟩ ?_ ?_
  ·rintro j H' hj ⟨rfl, hjl⟩
   rw [Int.toNat_natCast] at hj
   refine ⟨rfl, tYes_of ?_⟩
   have hb' : Bs K (upd H D (.lst (vN (lets b i j)))) a b := (Fg.lst hD).sub.seq hb
   refine ⟨_, rfl, _, rfl, _, rfl, _, _, rfl, rfl, .inl ⟨by decide, by decide⟩, _, _, rfl, rfl, a, b, i + 2 * j, 2, ?_, hb', ?_⟩
   ·simp
   ·by_cases hl : b.length < i + 2 * j + 2
    ·rw [numO_none hl]
     have : letO b i n = none := if_pos ⟨by omega, by omega⟩
     rw [this] at k
     exact k
    ·rw [numO_some (by omega)]
     refine ⟨_, upd_same, ?_, ?_, .inr (by omega)⟩
     ·rw [vN_len, lets_len]
      exact small1000 (by omega)
     ·rw [upd_upd, lets_succ]
      simp [vN]
  ·rintro H' ⟨rfl, hl⟩
   rw [Int.toNat_natCast] at hl ⊢
   have : letO b i n = some (lets b i n) := if_neg (by omega)
   rw [this] at k
   exact ⟨_, Fg.refl _, k D hD⟩
end
end Sv
end
section
namespace Sv
open PySem PySem.Spec L2
theorem _root_.L2.Same.new {H : Hp} {p : Addr} {o : HO} (h : H p = none) : Same H (upd H p o) := fun b u e => by rw [upd_ne (ne_of_none e h)]; exact e
noncomputable def OAtN (m : Nat) (H : Hp) (C p : Addr) (fv : List (Str × V)) : Prop := ∃ dx fs, H p = some (.ins C dx fs) ∧ (∀ g, fs.lookup g = fv.lookup g) ∧ fs.length ≤ m
theorem OAtN.at {m : Nat} {H : Hp} {C p : Addr} {fv : List (Str × V)} (h : OAtN m H C p fv) : OAt H C p fv := let ⟨dx, fs, e, l, _⟩ := h; ⟨dx, fs, e, l⟩
theorem OAtN.up {m : Nat} {H H' : Hp} {C p : Addr} {fv : List (Str × V)} (s : Same H H') (h : OAtN m H C p fv) : OAtN m H' C p fv := let ⟨dx, fs, e, l, n⟩ := h; ⟨dx, fs, s _ _ e, l, n⟩
theorem OAtN.zero {H : Hp} {C p dx : Addr} (h : H p = some (.ins C dx [])) : OAtN 0 H C p [] := ⟨dx, [], h, fun _ => rfl, Nat.le_refl _⟩
noncomputable def OAt.dx {H : Hp} {C p : Addr} {fv : List (Str × V)} (h : OAt H C p fv) : Addr := Classical.choose h
noncomputable def OAt.fs {H : Hp} {C p : Addr} {fv : List (Str × V)} (h : OAt H C p fv) : List (Str × V) := Classical.choose (Classical.choose_spec h)
theorem OAt.e {H : Hp} {C p : Addr} {fv : List (Str × V)} (h : OAt H C p fv) : H p = some (.ins C h.dx h.fs) := (Classical.choose_spec (Classical.choose_spec h)).1
theorem OAt.get {H : Hp} {C p : Addr} {fv : List (Str × V)} (h : OAt H C p fv) {f : Str} {v : Option V} (l : fv.lookup f = v) : h.fs.lookup f = v := ((Classical.choose_spec (Classical.choose_spec h)).2 f).trans l
theorem fldS {K : Frag} {H : Hp} {C p : Addr} {fv : List (Str × V)} {f : Str} {y : V} {ns : List Str} {m : Nat} {k : Hp → Prop} (o : Ob K C ns) (h : OAtN m H C p fv) (hn : f ∈ ns) (hm : m < 1000)
  (q : ∀ H', OAtN (m + 1) H' C p ((f, y) :: fv) → (∀ b, b ≠ p → H' b = H b) → k H') :
  ∃ a C' dx fs, V.ref p = .ref a ∧ H a = some (.ins C' dx fs) ∧ Cls K C' ∧ NoAttr K C' f ∧ fs.length < 1000 ∧ k (upd H a (.ins C' dx (putF f y fs))) := by
 obtain ⟨dx, fs, e, hl, hle⟩ := h
 refine ⟨p, C, dx, fs, rfl, e, o.cl, o.na f hn, by omega, q _ ⟨dx, putF f y fs, upd_same, fun g => ?_, ?_⟩ fun b ne => upd_ne ne⟩
 ·rw [lookup_putF]
  by_cases z : g = f
  ·subst z
   rw [if_pos rfl, lk0]
  ·rw [if_neg z, lkS z (hl g).symm]
 ·have := length_putF f y fs
  omega
noncomputable def Ini (C x : Addr) (H H1 : Hp) : Prop := ∃ dx, H1 x = none ∧ H1 dx = none ∧ dx ≠ x ∧ H = upd (upd H1 dx (.own x)) x (.ins C dx [])
theorem Ini.new {C x : Addr} {H H1 : Hp} (h : Ini C x H H1) : H1 x = none := let ⟨_, a, _⟩ := h; a
theorem Ini.same {C x : Addr} {H H1 : Hp} (h : Ini C x H H1) : Same H1 H := by
 obtain ⟨dx, a, b, n, rfl⟩ := h
 intro c o e
 rw [upd_ne (ne_of_none e a), upd_ne (ne_of_none e b)]; exact e
theorem Ini.at {C x : Addr} {H H1 : Hp} (h : Ini C x H H1) : OAtN 0 H C x [] := by
 obtain ⟨dx, a, b, n, rfl⟩ := h
 exact .zero upd_same
theorem _root_.L2.Same.put {H1 H H' : Hp} {p : Addr} (s : Same H1 H) (n : H1 p = none) (e : ∀ b, b ≠ p → H' b = H b) : Same H1 H' := fun b o h => by
 rw [e b (ne_of_none h n)]; exact s b o h
theorem OAt.lk {H : Hp} {C p : Addr} {fv fv' : List (Str × V)} (h : OAt H C p fv) (e : ∀ g, fv.lookup g = fv'.lookup g) : OAt H C p fv' := let ⟨dx, fs, a, l⟩ := h; ⟨dx, fs, a, fun g => (l g).trans (e g)⟩
noncomputable def LOf {α : Type} (R : Hp → Addr → α → Prop) (H : Hp) (p : Addr) (l : List α) : Prop := ∃ as : List Addr, H p = some (.lst (as.map V.ref)) ∧ as.length = l.length ∧ ∀ (i : Nat) (a : Addr) (x : α), as[i]? = some a → l[i]? = some x → R H a x
theorem LOf.same {α : Type} {R : Hp → Addr → α → Prop} {H H' : Hp} {p : Addr} {l : List α} (s : Same H H') (mono : ∀ a x, R H a x → R H' a x) (h : LOf R H p l) : LOf R H' p l := by
 obtain ⟨as, e, n, f⟩ := h
 exact ⟨as, s _ _ e, n, fun i a x h1 h2 => mono a x (f i a x h1 h2)⟩
theorem LOf.nil {α : Type} {R : Hp → Addr → α → Prop} {H : Hp} {p : Addr} (h : H p = some (.lst [])) : LOf R H p [] := ⟨[], h, rfl, fun i a x h1 _ => by simp at h1⟩
theorem OAt.ne_lst {H : Hp} {C p q : Addr} {fv : List (Str × V)} {xs : List V} (h : OAt H C p fv) (e : H q = some (.lst xs)) : p ≠ q := by
 obtain ⟨dx, fs, e2, _⟩ := h
 exact ne_of e2 e (by intro z; cases z)
noncomputable def vO : Option Nat → V
 | none => .non
 | some n => .int n
section
variable (K : Frag) (A : Adr)
noncomputable def IsAttr (H : Hp) (p : Addr) (a : Sn35.Attr) : Prop := ∃ pd pn, OAt H A.Attribute p [("name", .ref pn), ("in_clusters", .bl (decide (Sn35.le a.bytes 8 1 = 1))), ("kind", .int (a.kind : Nat)), ("data", .ref pd)] ∧ Bs K H pd a.bytes ∧ Bs K H pn a.name ∧ AttrOk a ∧ a.bytes.length < 2 ^ 30
noncomputable def IsLayout (H : Hp) (p : Addr) (v : Sn35.Volume) : Prop := ∃ pi img, OAt H A.Layout p [("block_length", .int (v.block : Nat)), ("record_length", .int (v.record : Nat)), ("records_place", .int ((v.start * v.cluster : Nat) : Int)), ("end", .int (v.image.length : Nat)), ("cluster", .int (v.cluster : Nat)), ("image", .ref pi)] ∧
 Bs K H pi img ∧ v.image = img.take v.image.length ∧ VolOk v
noncomputable def IsRun (H : Hp) (p : Addr) (x : Option Nat × Nat) : Prop := OAt H A.Run p [("clusters", .int (x.2 : Nat)), ("begin", vO x.1)]
noncomputable def IsHere (v : Sn35.Volume) (H : Hp) (p : Addr) (c : Sn35.Content) : Prop := ∃ pc b, OAt H A.HeldHere p [("size", .int (c.size : Nat)), ("content", .ref pc)] ∧ Bs K H pc b ∧ c.inside = some b ∧ ContOk v c
noncomputable def IsCl (v : Sn35.Volume) (H : Hp) (p : Addr) (c : Sn35.Content) : Prop := ∃ pl pr, OAt H A.HeldInClusters p [("runs", .ref pr), ("begun", .int (c.begun : Nat)), ("size", .int (c.size : Nat)), ("layout", .ref pl)] ∧
 IsLayout K A H pl v ∧ LOf (IsRun A) H pr c.runs ∧ c.inside = none ∧ ContOk v c
noncomputable def IsHeld (v : Sn35.Volume) (H : Hp) (p : Addr) (c : Sn35.Content) : Prop := IsHere K A v H p c ∨ IsCl K A v H p c
end
section
variable {K : Frag} {A : Adr} {H H' : Hp} {p : Addr} {v : Sn35.Volume}
theorem IsAttr.up {a : Sn35.Attr} (s : Same H H') (h : IsAttr K A H p a) : IsAttr K A H' p a := let ⟨pd, pn, o, b1, b2, r⟩ := h; ⟨pd, pn, o.up s, s.seq b1, s.seq b2, r⟩
theorem IsLayout.up (s : Same H H') (h : IsLayout K A H p v) : IsLayout K A H' p v := let ⟨pi, img, o, b1, r⟩ := h; ⟨pi, img, o.up s, s.seq b1, r⟩
theorem IsRun.up {x : Option Nat × Nat} (s : Same H H') (h : IsRun A H p x) : IsRun A H' p x := OAt.up s h
theorem IsHere.up {c : Sn35.Content} (s : Same H H') (h : IsHere K A v H p c) : IsHere K A v H' p c := let ⟨pc, b, o, b1, r⟩ := h; ⟨pc, b, o.up s, s.seq b1, r⟩
theorem IsCl.up {c : Sn35.Content} (s : Same H H') (h : IsCl K A v H p c) : IsCl K A v H' p c := let ⟨pl, pr, o, l, r, q⟩ := h; ⟨pl, pr, o.up s, l.up s, r.same s fun _ _ z => z.up s, q⟩
theorem IsHeld.up {c : Sn35.Content} (s : Same H H') (h : IsHeld K A v H p c) : IsHeld K A v H' p c := h.imp (IsHere.up s) (IsCl.up s)
end
end Sv
end
section
namespace Sv
open PySem PySem.Spec L2
section
variable {P : Program} {w : World} {K : Frag} {mg : Str → Option Value} {base : Heap} {A : Adr} {f : Addr} {fd : FuncData}
noncomputable def spHereInit (K : Frag) (A : Adr) : Sp := fun vs H Q E => ∃ (x : Addr) (H1 : Hp) (pa : Addr) (a : Sn35.Attr) (v : Sn35.Volume), vs = [.ref x, .ref pa] ∧ Ini A.HeldHere x H H1 ∧ IsAttr K A H1 pa a ∧ Sn35.le a.bytes 8 1 = 0 ∧
 Orr A.NotSo E (Sn35.content v a) fun c => ∀ H', Same H1 H' → IsHere K A v H' x c → Q .non H'
theorem sc_HeldHere_init : FnScope ["self", "attribute", "many"] ["self", "attribute"] (defScope s_HeldHere_init) := ⟨rfl, rfl, rfl, dk, rfl, dk, dk⟩
theorem ok_HeldHere_init (F : Fun K "__init__" "HeldHere.__init__" s_HeldHere_init f fd) (T : Txt K mg A) (d_number_at : Dq2 P w K mg base A) (d_part : Dq3 P w K mg base A) :
  FnOk P w K mg base (CXR P w) 4 f fd ["self", "attribute"] (spHereInit K A) := by
 refine F.okR sc_HeldHere_init (fun vs H Q E h => ?_) (fun cdv A' outer s H vs Q E hr h => ?_)
 ·obtain ⟨x, H1, pa, a, v, rfl, _⟩ := h
  rfl
 ·obtain ⟨x, H1, pa, a, v, rfl, ini, ⟨pd, pn, oa, bd, bn, aok, al⟩, h0, k⟩ := h
  rw [content_here aok h0] at k
  have s0 := ini.same
  refine ⟨_, (pss_cons (ps_set (i := 2) sc_HeldHere_init.nd rfl (Or.inl rfl) (pe_fn d_number_at hr (by decide) rfl passR (pa_cons (pe_fld (pv 1) rfl) (pa_cons pe_int (pa_cons pe_int pa_nil)))))
 (pss_cons (ps_fld (pv 0) (pe_fn d_part hr (by decide) rfl passR (pa_cons (pe_fld (pv 1) rfl) (pa_cons (pe_fn d_number_at hr (by decide) rfl passR (pa_cons (pe_fld (pv 1) rfl) (pa_cons pe_int (pa_cons pe_int pa_nil)))) (pa_cons (pv 2) pa_nil)))) rfl)
 (pss_one (ps_fld (pv 0) (pv 2) rfl)))), ?_⟩
  have len := aok.len
  refine ⟨_, rfl, _, _, ((oa.up s0)).dx, ((oa.up s0)).fs, _, rfl, ((oa.up s0)).e, T.o_Attribute.cl, T.o_Attribute.na _ dk, ((oa.up s0)).get (lkS dk (lkS dk (lkS dk lk0))), ?_⟩
  refine ⟨pd, a.bytes, 16, 4, rfl, s0.seq bd, ?_⟩
  rw [numO_some (by omega)]
  refine ⟨_, rfl, _, _, ((oa.up s0)).dx, ((oa.up s0)).fs, _, rfl, ((oa.up s0)).e, T.o_Attribute.cl, T.o_Attribute.na _ dk, ((oa.up s0)).get (lkS dk (lkS dk (lkS dk lk0))), ?_⟩
  refine ⟨_, rfl, _, _, ((oa.up s0)).dx, ((oa.up s0)).fs, _, rfl, ((oa.up s0)).e, T.o_Attribute.cl, T.o_Attribute.na _ dk, ((oa.up s0)).get (lkS dk (lkS dk (lkS dk lk0))), ?_⟩
  refine ⟨pd, a.bytes, 20, 2, rfl, s0.seq bd, ?_⟩
  rw [numO_some (by omega)]
  refine ⟨_, rfl, pd, a.bytes, Sn35.le a.bytes 20 2, Sn35.le a.bytes 16 4, rfl, s0.seq bd, ?_⟩
  cases hp : Sn35.part a.bytes (Sn35.le a.bytes 20 2) (Sn35.le a.bytes 16 4) with
  | none =>
   rw [hp] at k
   exact k
  | some r =>
   rw [hp] at k
   have k : ∀ H', Same H1 H' → IsHere K A v H' x ⟨Sn35.le a.bytes 16 4, some r, [], Sn35.le a.bytes 16 4⟩ → Q .non H' := k
   intro p hpn
   have s1 : Same H1 (upd H p (.lst (vN r))) := s0.trans (Same.new hpn)
   have o1 := ini.at.up (Same.new (o := .lst (vN r)) hpn)
   refine ⟨_, rfl, fldS T.o_HeldHere o1 dk (by decide) fun H2 o2 e2 => ?_⟩
   have s2 := s1.put ini.new e2
   refine ⟨_, rfl, _, rfl, fldS T.o_HeldHere o2 dk (by decide) fun H3 o3 e3 => ?_⟩
   have s3 := s2.put ini.new e3
   have np : p ≠ x := fun z => by
    obtain ⟨dx, fs, e, _⟩ := ini.at
    rw [← z, hpn] at e; cases e
   have cok := (contOk_here (v := v) aok h0 (by rw [content_here aok h0, hp]; rfl)).1
   exact ⟨_, Fg.refl _, k H3 s3 ⟨p, r, o3.at, SqL.of (by rw [e3 p np, e2 p np]; exact upd_same), rfl, cok⟩⟩
noncomputable def spHereTaken (K : Frag) (A : Adr) : Sp := fun vs H Q E => ∃ (x : Addr) (v : Sn35.Volume) (c : Sn35.Content) (i n : Nat), vs = [.ref x, .int i, .int n] ∧ IsHere K A v H x c ∧ Orr A.NotSo E (takenO v c i n) fun r => ∀ p, H p = none → Q (.ref p) (upd H p (.lst (vN r)))
theorem sc_HeldHere_taken : FnScope ["self", "place", "many"] ["self", "place", "many"] (defScope s_HeldHere_taken) := ⟨rfl, rfl, rfl, dk, rfl, dk, dk⟩
theorem ok_HeldHere_taken (F : Fun K "taken" "HeldHere.taken" s_HeldHere_taken f fd) (T : Txt K mg A) (d_part : Dq3 P w K mg base A) :
  FnOk P w K mg base (CXR P w) 3 f fd ["self", "place", "many"] (spHereTaken K A) := by
 refine F.okR sc_HeldHere_taken (fun vs H Q E h => ?_) (fun cdv A' outer s H vs Q E hr h => ?_)
 ·obtain ⟨x, v, c, i, n, rfl, _⟩ := h
  rfl
 ·obtain ⟨x, v, c, i, n, rfl, ⟨pc, b, o, hb, hi, cok⟩, k⟩ := h
  refine ⟨_, (pss_one (ps_ret (pe_fn d_part hr (by decide) rfl passR (pa_cons (pe_fld (pv 0) rfl) (pa_cons (pv 1) (pa_cons (pv 2) pa_nil)))))), ?_⟩
  refine ⟨_, rfl, _, _, (o).dx, (o).fs, _, rfl, (o).e, T.o_HeldHere.cl, T.o_HeldHere.na _ dk, (o).get (lkS dk lk0), ?_⟩
  refine ⟨_, rfl, _, rfl, pc, b, i, n, rfl, hb, ?_⟩
  rw [taken_here hi (cok.here b hi).1] at k
  cases hp : Sn35.part b i n with
  | none =>
   rw [hp] at k
   exact k
  | some r =>
   rw [hp] at k
   exact fun p hpn => ⟨_, Fg.refl _, k p hpn⟩
noncomputable def spClTold (K : Frag) (CN : Addr) : Sp := fun vs H Q E => ∃ (a : Addr) (b : List Nat), vs = [.ref a] ∧ Bs K H a b ∧ 32 ≤ b.length ∧ Q (.int (Sn35.signedLe b 24 8 + 1)) H
theorem sc_clusters_told : FnScope ["data"] ["data"] (defScope s_clusters_told) := ⟨rfl, rfl, rfl, dk, rfl, dk, dk⟩
noncomputable abbrev Dq8 (P : Program) (w : World) (K : Frag) (mg : Str → Option Value) (base : Heap) (A : Adr) : Prop := Def P w K mg base 4 "signed_number_at" ["data", "place", "many"] (spSig K A.NotSo)
theorem ok_clusters_told (F : Fun K "clusters_told" "clusters_told" s_clusters_told f fd) (T : Txt K mg A) (d_signed_number_at : Dq8 P w K mg base A) :
  FnOk P w K mg base (CXR P w) 5 f fd ["data"] (spClTold K A.NotSo) := by
 refine F.okR sc_clusters_told (fun vs H Q E h => ?_) (fun cdv A' outer s H vs Q E hr h => ?_)
 ·obtain ⟨a, b, rfl, _⟩ := h
  rfl
 ·obtain ⟨a, b, rfl, hb, hl, k⟩ := h
  refine ⟨_, (pss_one (ps_ret (pe_op op_add (pe_fn d_signed_number_at hr (by decide) rfl passR (pa_cons (pv 0) (pa_cons pe_int (pa_cons pe_int pa_nil)))) pe_int))), ?_⟩
  refine ⟨_, rfl, a, b, 24, 8, rfl, hb, by decide, by decide, ?_⟩
  rw [numO_some (by omega)]
  exact ⟨_, _, rfl, rfl, H, Fg.refl H, k⟩
noncomputable def spRunInit (A : Adr) : Sp := fun vs H Q _ => ∃ (x : Addr) (H1 : Hp) (b : Option Nat) (n : Nat), vs = [.ref x, vO b, .int n] ∧ Ini A.Run x H H1 ∧ ∀ H', Same H1 H' → IsRun A H' x (b, n) → Q .non H'
theorem sc_Run_init : FnScope ["self", "begin", "clusters"] ["self", "begin", "clusters"] (defScope s_Run_init) := ⟨rfl, rfl, rfl, dk, rfl, dk, dk⟩
theorem ok_Run_init (F : Fun K "__init__" "Run.__init__" s_Run_init f fd) (T : Txt K mg A) : FnOk P w K mg base (CXR P w) 1 f fd ["self", "begin", "clusters"] (spRunInit A) := by
 refine F.okR sc_Run_init (fun vs H Q E h => ?_) (fun cdv A' outer s H vs Q E hr h => ?_)
 ·obtain ⟨x, H1, b, n, rfl, _⟩ := h
  rfl
 ·obtain ⟨x, H1, b, n, rfl, ini, k⟩ := h
  refine ⟨_, (pss_cons (ps_fld (pv 0) (pv 1) rfl)
 (pss_one (ps_fld (pv 0) (pv 2) rfl))), ?_⟩
  refine ⟨_, rfl, _, rfl, fldS T.o_Run ini.at dk (by decide) fun H2 o2 e2 => ?_⟩
  refine ⟨_, rfl, _, rfl, fldS T.o_Run o2 dk (by decide) fun H3 o3 e3 => ?_⟩
  exact ⟨_, Fg.refl _, k H3 ((ini.same.put ini.new e2).put ini.new e3) o3.at⟩
noncomputable def spVolPart (K : Frag) (A : Adr) : Sp := fun vs H Q E => ∃ (x : Addr) (v : Sn35.Volume) (i n : Nat), vs = [.ref x, .int i, .int n] ∧ IsLayout K A H x v ∧ Orr A.NotSo E (Sn35.part v.image i n) fun r => ∀ p, H p = none → Q (.ref p) (upd H p (.lst (vN r)))
theorem sc_Layout_volume_part : FnScope ["self", "place", "many"] ["self", "place", "many"] (defScope s_Layout_volume_part) := ⟨rfl, rfl, rfl, dk, rfl, dk, dk⟩
theorem ok_volume_part (F : Fun K "volume_part" "Layout.volume_part" s_Layout_volume_part f fd) (T : Txt K mg A) (d_must : Dq1 P w K mg base A) (d_part : Dq3 P w K mg base A) :
  FnOk P w K mg base (CXR P w) 3 f fd ["self", "place", "many"] (spVolPart K A) := by
 refine F.okR sc_Layout_volume_part (fun vs H Q E h => ?_) (fun cdv A' outer s H vs Q E hr h => ?_)
 ·obtain ⟨x, v, i, n, rfl, _⟩ := h
  rfl
 ·obtain ⟨x, v, i, n, rfl, ⟨pi, img, o, hb, hv, vok⟩, k⟩ := h
  refine ⟨_, (pss_cons (ps_must d_must hr (by decide) rfl passR (pe_cmpR op_le (pe_op op_add (pv 1) (pv 2)) (pe_fld (pv 0) rfl) (nomark _)))
 (pss_one (ps_ret (pe_fn d_part hr (by decide) rfl passR (pa_cons (pe_fld (pv 0) rfl) (pa_cons (pv 1) (pa_cons (pv 2) pa_nil))))))), ?_⟩
  refine ⟨_, rfl, _, rfl, _, _, rfl, rfl, _, rfl, _, _, (o).dx, (o).fs, _, rfl, (o).e, T.o_Layout.cl, T.o_Layout.na _ dk, (o).get (lkS dk (lkS dk (lkS dk lk0))), ?_⟩
  refine ⟨_, _, rfl, rfl, _, rfl, ite2 (fun h => ?_) (fun h => ?_)⟩
  ·have h := of_decide_eq_true h
   rw [part_some (by omega)] at k
   refine ⟨H, Fg.refl H, ?_⟩
   refine ⟨_, rfl, _, _, (o).dx, (o).fs, _, rfl, (o).e, T.o_Layout.cl, T.o_Layout.na _ dk, (o).get (lkS dk (lkS dk (lkS dk (lkS dk (lkS dk lk0))))), ?_⟩
   refine ⟨_, rfl, _, rfl, pi, img, i, n, rfl, hb, ?_⟩
   have hl : v.image.length ≤ img.length := by
    have := congrArg List.length hv
    rw [List.length_take] at this; omega
   rw [part_some (by omega)]
   have e : (v.image.drop i).take n = (img.drop i).take n := by
    rw [hv, List.drop_take, List.take_take, Nat.min_eq_left]
    have : ((i : Int) + (n : Int) ≤ (v.image.length : Int)) := h
    have e2 : (img.take v.image.length).length = v.image.length := by rw [List.length_take]; omega
    omega
   rw [← e]
   exact fun p hp => ⟨_, Fg.refl _, k p hp⟩
  ·have h : ¬ ((i : Int) + (n : Int) ≤ (v.image.length : Int)) := fun z => h (decide_eq_true z)
   rw [part_none (by omega)] at k
   exact k H
end
end Sv
end
section
namespace Sv
open PySem PySem.Spec L2
section
variable {P : Program} {w : World} {K : Frag} {mg : Str → Option Value} {base : Heap} {A : Adr} {f : Addr} {fd : FuncData}
noncomputable def spPow : Sp := fun vs H Q _ => ∃ n : Nat, vs = [.int n] ∧ n ≤ 1000 ∧ Q (.int ((2 ^ n : Nat) : Int)) H
theorem sc_power_of_two : FnScope ["exponent", "power", "step"] ["exponent"] (defScope s_power_of_two) := ⟨rfl, rfl, rfl, dk, rfl, dk, dk⟩
theorem ok_power_of_two (F : Fun K "power_of_two" "power_of_two" s_power_of_two f fd) (T : Txt K mg A) : FnOk P w K mg base (CXR P w) 1 f fd ["exponent"] spPow := by
 refine F.okR sc_power_of_two (fun vs H Q E h => ?_) (fun cdv A' outer s H vs Q E hr h => ?_)
 ·obtain ⟨n, rfl, _⟩ := h
  rfl
 ·obtain ⟨n, rfl, hn, k⟩ := h
  refine ⟨_, (pss_cons (ps_set (i := 1) sc_power_of_two.nd rfl (Or.inl rfl) pe_int)
 (pss_cons (ps_for PassesOwn.leaving rfl (pi_range1 rfl T.n_range (pa_cons (pv 0) pa_nil)) (pg_name (i := 2) sc_power_of_two.nd rfl (Or.inl rfl))
 (pss_one (ps_set (i := 1) sc_power_of_two.nd rfl (Or.inl rfl) (pe_op op_mul (pv 1) pe_int))))
 (pss_one (ps_ret (pv 1))))), ?_⟩
  show gName 1 (V.int 1) _ _ _
  refine ⟨_, rfl, n, rfl, by omega, by omega, for_range (fun j σ H' => ∃ v, σ = [some (.int n), some (.int ((2 ^ j : Nat) : Int)), v] ∧ H = H') ⟨none, rfl, rfl⟩ ?_ ?_⟩
  ·rintro j σ H' hj ⟨v, rfl, rfl⟩
   refine ⟨_, rfl, _, _, rfl, rfl, .inr ⟨by decide, by decide⟩, ?_⟩
   refine ⟨some (V.int (0 + (j : Int))), ?_, rfl⟩
   rw [Nat.pow_succ, Int.natCast_mul]; rfl
  ·rintro σ H' ⟨v, rfl, rfl⟩
   rw [Int.toNat_natCast]
   exact ⟨_, rfl, H, Fg.refl H, k⟩
theorem land_int (a b : Nat) : Builtin.bitAnd (a : Int) (b : Int) = ((a &&& b : Nat) : Int) := by
 rw [PyProof.Rows.bitAnd_pp (by omega) (by omega), Int.toNat_natCast, Int.toNat_natCast]
noncomputable def spLen (CN : Addr) : Sp := fun vs H Q E => ∃ (told cl longest : Nat), vs = [.int told, .int cl, .int longest] ∧ told < 256 ∧ cl ≤ 65536 ∧ Orr CN E (lenO told cl longest) fun r => Q (.int (r : Int)) H
theorem sc_length_told : FnScope ["told", "cluster", "longest", "length"] ["told", "cluster", "longest"] (defScope s_length_told) := ⟨rfl, rfl, rfl, dk, rfl, dk, dk⟩
noncomputable abbrev Dq19 (P : Program) (w : World) (K : Frag) (mg : Str → Option Value) (base : Heap) (A : Adr) : Prop := Def P w K mg base 1 "power_of_two" ["exponent"] spPow
theorem ok_length_told (F : Fun K "length_told" "length_told" s_length_told f fd) (T : Txt K mg A) (d_must : Dq1 P w K mg base A) (d_power_of_two : Dq19 P w K mg base A) :
  FnOk P w K mg base (CXR P w) 2 f fd ["told", "cluster", "longest"] (spLen A.NotSo) := by
 refine F.okR sc_length_told (fun vs H Q E h => ?_) (fun cdv A' outer s H vs Q E hr h => ?_)
 ·obtain ⟨n, c, l, rfl, _⟩ := h
  rfl
 ·obtain ⟨told, cl, longest, rfl, ht, hc, k⟩ := h
  refine ⟨_, (pss_cons (ps_set (i := 3) sc_length_told.nd rfl (Or.inl rfl) (pe_ifExp (pt_cmpR op_lt (pv 0) pe_int (nomark _)) (pe_op op_mul (pv 0) (pv 1)) (pe_fn d_power_of_two hr (by decide) rfl passR (pa_cons (pe_op op_sub pe_int (pv 0)) pa_nil))))
 (pss_cons (ps_must d_must hr (by decide) rfl passR (pe_chain op_le op_le (pe_gc T.c_SECTOR rfl) (pv 3) (pv 2)))
 (pss_cons (ps_must d_must hr (by decide) rfl passR (pe_cmpR op_eq (pe_op op_and (pv 3) (pe_op op_sub (pv 3) pe_int)) pe_int (nomark _)))
 (pss_one (ps_ret (pv 3)))))), ?_⟩
  refine tAsg_share (V.int (Sn35.sizeBy told cl : Nat)) H (fun Q' q => ?_) ?_
  ·refine ⟨_, rfl, _, _, rfl, rfl, _, rfl, iteP (fun h => ?_) (fun h => ?_)⟩
   ·refine ⟨_, rfl, _, rfl, _, _, rfl, rfl, .inl ⟨by omega, by omega⟩, ?_⟩
    have e : ((told : Int) * (cl : Int)) = ((told * cl : Nat) : Int) := by simp
    have e2 : Sn35.sizeBy told cl = told * cl := by unfold Sn35.sizeBy; rw [if_pos (by omega)]
    rw [e2] at q
    show Q' (V.int ((told : Int) * (cl : Int))) H
    rw [e]; exact q
   ·refine ⟨_, rfl, _, _, rfl, rfl, 256 - told, ?_, by omega, ?_⟩
    ·show [V.int (256 - (told : Int))] = [V.int ((256 - told : Nat) : Int)]
     congr 2; omega
    ·have e2 : Sn35.sizeBy told cl = 2 ^ (256 - told) := by unfold Sn35.sizeBy; rw [if_neg (by omega)]
     rw [e2] at q
     exact q
  ·generalize hn : Sn35.sizeBy told cl = n at k ⊢
   have hk : Orr A.NotSo E (if 512 ≤ n ∧ n ≤ longest ∧ n &&& (n - 1) = 0 then some n else none) fun r => Q (.int (r : Int)) H := by
    have : lenO told cl longest = if 512 ≤ n ∧ n ≤ longest ∧ n &&& (n - 1) = 0 then some n else none := by unfold lenO; rw [hn]
    rw [← this]; exact k
   refine ⟨_, rfl, _, _, rfl, rfl, _, rfl, iteP (fun h1 => ?_) (fun h1 => ?_)⟩
   ·refine ⟨_, rfl, _, _, rfl, rfl, _, rfl, iteP (fun h2 => ?_) (fun h2 => ?_)⟩
    ·refine ⟨H, Fg.refl H, ?_⟩
     refine ⟨_, rfl, _, rfl, _, _, rfl, rfl, _, _, rfl, rfl, rfl, _, rfl, ?_⟩
     have e : Builtin.bitAnd (n : Int) ((n : Int) - 1) = ((n &&& (n - 1) : Nat) : Int) := by
      rw [← land_int]; congr 1; omega
     refine iteE (fun h3 => ?_) (fun h3 => ?_)
     ·rw [e] at h3
      rw [if_pos ⟨by omega, by omega, by omega⟩] at hk
      exact ⟨H, Fg.refl H, _, rfl, H, Fg.refl H, hk⟩
     ·rw [e] at h3
      rw [if_neg (fun z => h3 (by omega))] at hk
      exact hk H
    ·rw [if_neg (fun z => h2 (by omega))] at hk
     exact hk H
   ·rw [if_neg (fun z => h1 (by omega))] at hk
    exact ⟨_, rfl, hk H⟩
end
end Sv
end
section
namespace Sv
open PySem PySem.Spec L2
theorem land_two (n : Nat) : n &&& 2 = 2 * (n / 2 % 2) := by
 have e : (n &&& 2) / 2 = n / 2 &&& 2 / 2 := Nat.and_div_two
 have o := @Nat.and_mod_two_eq_one n 2
 have e1 : n / 2 &&& 1 = n / 2 % 2 := Nat.and_one_is_mod _
 rw [show 2 / 2 = 1 from rfl, e1] at e
 omega
theorem inV_nat (n : Nat) : ∀ l : List Nat, inV (V.int (n : Int)) (vN l) = l.contains n
 | [] => rfl
 | a :: l => by
  have ih := inV_nat n l
  unfold inV vN at ih ⊢
  rw [List.map_cons, List.any_cons, ih, List.contains_cons]
  congr 1
  show ((a : Int) == (n : Int)) = (n == a)
  rw [Bool.eq_iff_iff, beq_iff_eq, beq_iff_eq]
  omega
theorem at_byte {b : List Nat} {i : Nat} (h : i < b.length) : atI (vN b) (i : Int) = some (V.int (Sn35.le b i 1 : Nat)) := atI_nat (vN_at (get_of_lt h))
theorem _root_.L2.Same.grow {B H : Hp} {p : Addr} {o : HO} (s : Same B H) : Same (upd B p o) (upd H p o) := fun b u e => by
 by_cases z : b = p
 ·subst z; rw [upd_same] at e ⊢; exact e
 ·rw [upd_ne z] at e ⊢; exact s b u e
section
variable {P : Program} {w : World} {K : Frag} {mg : Str → Option Value} {base : Heap} {A : Adr} {f : Addr} {fd : FuncData}
noncomputable def spLayInit (K : Frag) (A : Adr) : Sp := fun vs H Q E => ∃ (x : Addr) (H1 : Hp) (pi : Addr) (img : List Nat), vs = [.ref x, .ref pi] ∧ Ini A.Layout x H H1 ∧ Bs K H1 pi img ∧ Byt img ∧ img.length < 2 ^ 30 ∧
 Orr A.NotSo E (volP img) fun v => ∀ H', Same H1 H' → IsLayout K A H' x v → Q .non H'
theorem sc_Layout_init : FnScope ["self", "image", "first"] ["self", "image"] (defScope s_Layout_init) := ⟨rfl, rfl, rfl, dk, rfl, dk, dk⟩
theorem ntfs : (Str.ofString "NTFS    ").cps.toList = Sn35.ascii "NTFS    " := by decide +kernel
noncomputable abbrev Dq20 (P : Program) (w : World) (K : Frag) (mg : Str → Option Value) (base : Heap) (A : Adr) : Prop := Def P w K mg base 2 "length_told" ["told", "cluster", "longest"] (spLen A.NotSo)
noncomputable abbrev Dq4 (P : Program) (w : World) (K : Frag) (mg : Str → Option Value) (base : Heap) (A : Adr) : Prop := Def P w K mg base 1 "codes" ["text"] spCodes
theorem ok_Layout_init (F : Fun K "__init__" "Layout.__init__" s_Layout_init f fd) (T : Txt K mg A) (d_must : Dq1 P w K mg base A) (d_codes : Dq4 P w K mg base A)
  (d_part : Dq3 P w K mg base A) (d_number_at : Dq2 P w K mg base A) (d_length_told : Dq20 P w K mg base A) :
  FnOk P w K mg base (CXR P w) 4 f fd ["self", "image"] (spLayInit K A) := by
 refine F.okR sc_Layout_init (fun vs H Q E h => ?_) (fun cdv A' outer s H vs Q E hr h => ?_)
 ·obtain ⟨x, H1, pi, img, rfl, _⟩ := h
  rfl
 ·obtain ⟨x, H1, pi, img, rfl, ini, hb, hB, hlen, k⟩ := h
  have s0 := ini.same
  refine ⟨_, (pss_cons (ps_set (i := 2) sc_Layout_init.nd rfl (Or.inl rfl) (pe_fn d_part hr (by decide) rfl passR (pa_cons (pv 1) (pa_cons pe_int (pa_cons (pe_gc T.c_SECTOR rfl) pa_nil)))))
 (pss_cons (ps_must d_must hr (by decide) rfl passR (pe_cmpR (op_eqL hr.units) (pe_fn d_part hr (by decide) rfl passR (pa_cons (pv 2) (pa_cons pe_int (pa_cons pe_int pa_nil)))) (pe_fn d_codes hr (by decide) rfl passR (pa_cons pe_str pa_nil)) (nomark _)))
 (pss_cons (ps_must d_must hr (by decide) rfl passR (pe_cmpR op_eq (pe_fn d_number_at hr (by decide) rfl passR (pa_cons (pv 2) (pa_cons pe_int (pa_cons pe_int pa_nil)))) (pe_gc T.c_SECTOR rfl) (nomark _)))
 (pss_cons (ps_must d_must hr (by decide) rfl passR (pe_cmpR (op_eqL hr.units) (pe_fn d_part hr (by decide) rfl passR (pa_cons (pv 2) (pa_cons pe_int (pa_cons pe_int pa_nil)))) (pe_lst (pa_cons pe_int (pa_cons pe_int pa_nil))) (nomark _)))
 (pss_cons (ps_must d_must hr (by decide) rfl passR (pe_cmpR op_in_seq (pe_ix ix_list (pv 2) pe_int (fun _ _ => rfl)) (pe_tup (pa_cons pe_int (pa_cons pe_int (pa_cons pe_int (pa_cons pe_int (pa_cons pe_int (pa_cons pe_int (pa_cons pe_int (pa_cons pe_int pa_nil))))))))) (by with_unfolding_all rfl)))
 (pss_cons (ps_fld (pv 0) (pv 1) rfl)
 (pss_cons (ps_fld (pv 0) (pe_op op_mul (pe_ix ix_list (pv 2) pe_int (fun _ _ => rfl)) (pe_gc T.c_SECTOR rfl)) rfl)
 (pss_cons (ps_fld (pv 0) (pe_op op_mul (pe_fn d_number_at hr (by decide) rfl passR (pa_cons (pv 2) (pa_cons pe_int (pa_cons pe_int pa_nil)))) (pe_gc T.c_SECTOR rfl)) rfl)
 (pss_cons (ps_must d_must hr (by decide) rfl passR (pe_cmpR op_le (pe_fld (pv 0) rfl) (pe_callB call_len_seq rfl T.n_len boot_len (pa_cons (pv 1) pa_nil)) (nomark _)))
 (pss_cons (ps_fld (pv 0) (pe_op op_mul (pe_fn d_number_at hr (by decide) rfl passR (pa_cons (pv 2) (pa_cons pe_int (pa_cons pe_int pa_nil)))) (pe_fld (pv 0) rfl)) rfl)
 (pss_cons (ps_fld (pv 0) (pe_fn d_length_told hr (by decide) rfl passR (pa_cons (pe_ix ix_list (pv 2) pe_int (fun _ _ => rfl)) (pa_cons (pe_fld (pv 0) rfl) (pa_cons (pe_gc T.c_LONGEST_RECORD rfl) pa_nil)))) rfl)
 (pss_one (ps_fld (pv 0) (pe_fn d_length_told hr (by decide) rfl passR (pa_cons (pe_ix ix_list (pv 2) pe_int (fun _ _ => rfl)) (pa_cons (pe_fld (pv 0) rfl) (pa_cons (pe_gc T.c_LONGEST_BLOCK rfl) pa_nil)))) rfl))))))))))))), ?_⟩
  refine ⟨_, rfl, pi, img, 0, 512, rfl, s0.seq hb, ?_⟩
  by_cases h0 : img.length < 512
  ·rw [part_none (by omega)]
   have : volP img = none := if_pos (.inl h0)
   rw [this] at k
   exact k
  rw [part_some (by omega), List.drop_zero]
  intro pf hpf
  generalize hfst : img.take 512 = fst
  have fl : fst.length = 512 := by rw [← hfst, List.length_take]; omega
  have le_f : ∀ i n, i + n ≤ 512 → Sn35.le fst i n = Sn35.le img i n := fun i n h => by rw [← hfst]; exact le_take h
  have dt_f : ∀ i n, i + n ≤ 512 → (fst.drop i).take n = (img.drop i).take n := fun i n h => by rw [← hfst, List.drop_take, List.take_take, Nat.min_eq_left (by omega)]
  have sB : Same H1 (upd H1 pf (.lst (vN fst))) := Same.new (s0.free hpf)
  have nB : (upd H1 pf (.lst (vN fst))) x = none := by rw [upd_ne (ne_of_none ini.at.at.e hpf)]; exact ini.new
  have bB : Bs K (upd H1 pf (.lst (vN fst))) pf fst := SqL.of upd_same
  have s1 : Same (upd H1 pf (.lst (vN fst))) (upd H pf (.lst (vN fst))) := s0.grow
  have o1 := ini.at.up (Same.new (o := .lst (vN fst)) hpf)
  generalize upd H pf (.lst (vN fst)) = H2 at s1 o1 ⊢
  generalize upd H1 pf (.lst (vN fst)) = B at sB nB bB s1
  replace hb := sB.seq hb
  refine ⟨_, rfl, pf, fst, 3, 8, rfl, s1.seq bB, ?_⟩
  rw [part_some (by omega), dt_f 3 8 (by omega)]
  intro p1 hp1
  refine ⟨_, rfl, dk, fun p2 hp2 => ?_⟩
  refine ⟨p1, p2, (img.drop 3).take 8, _, rfl, rfl, (Same.new hp2).seq (SqL.of upd_same), SqL.of upd_same, _, rfl, iteP (fun c1 => ?_) (fun c1 => ?_)⟩
  case refine_2 =>
   have : volP img = none := if_pos (.inr (.inl (by rw [← ntfs]; exact c1)))
   rw [this] at k
   exact k _
  rw [ntfs] at c1
  refine ⟨H2, (Fg.lst hp1).trans (Fg.lst hp2), ?_⟩
  refine ⟨_, rfl, pf, fst, 11, 2, rfl, s1.seq bB, ?_⟩
  rw [numO_some (by omega), le_f 11 2 (by omega)]
  refine ⟨rfl, _, rfl, iteE (fun c2 => ?_) (fun c2 => ?_)⟩
  case refine_2 =>
   have : volP img = none := if_pos (.inr (.inr (.inl fun z => c2 (by omega))))
   rw [this] at k
   exact k _
  refine ⟨H2, Fg.refl _, ?_⟩
  refine ⟨_, rfl, pf, fst, 510, 2, rfl, s1.seq bB, ?_⟩
  rw [part_some (by omega), dt_f 510 2 (by omega)]
  intro p3 hp3
  refine ⟨by show 2 ≤ sizeLine; decide, fun p4 hp4 => ?_⟩
  refine ⟨p3, p4, (img.drop 510).take 2, [0x55, 0xAA], rfl, rfl, (Same.new hp4).seq (SqL.of upd_same), SqL.of upd_same, _, rfl, iteP (fun c3 => ?_) (fun c3 => ?_)⟩
  case refine_2 =>
   have : volP img = none := if_pos (.inr (.inr (.inr (.inl c3))))
   rw [this] at k
   exact k _
  refine ⟨H2, (Fg.lst hp3).trans (Fg.lst hp4), ?_⟩
  refine ⟨_, rfl, pf, _, 13, _, rfl, rfl, s1.seq bB, at_byte (i := 13) (by omega), ?_⟩
  rw [le_f 13 1 (by omega)]
  refine ⟨by show 8 ≤ sizeLine; decide, fun p5 hp5 => ?_⟩
  refine ⟨p5, vN [1, 2, 4, 8, 16, 32, 64, 128], rfl, .inr (SqT.of upd_same), rfl, rfl, _, rfl, ?_⟩
  have e5 : (if false = true then !inV (V.int ((Sn35.le img 13 1 : Nat) : Int)) (vN [1, 2, 4, 8, 16, 32, 64, 128]) else inV (V.int ((Sn35.le img 13 1 : Nat) : Int)) (vN [1, 2, 4, 8, 16, 32, 64, 128])) = [1, 2, 4, 8, 16, 32, 64, 128].contains (Sn35.le img 13 1) := by rw [inV_nat]; rfl
  rw [e5]
  refine iteB (fun c4 => ?_) (fun c4 => ?_)
  case refine_2 =>
   have : volP img = none := if_pos (.inr (.inr (.inr (.inr (.inl c4)))))
   rw [this] at k
   exact k _
  refine ⟨_, Fg.refl _, ?_⟩
  have sT : Same H2 (upd H2 p5 (.tup (vN [1, 2, 4, 8, 16, 32, 64, 128]))) := Same.new hp5
  show (tSeq _ _ : TS) _ _ (upd H2 p5 (.tup (vN [1, 2, 4, 8, 16, 32, 64, 128])))
  replace s1 := s1.trans sT
  replace o1 := o1.up sT
  generalize upd H2 p5 (.tup (vN [1, 2, 4, 8, 16, 32, 64, 128])) = H3 at s1 o1 ⊢
  refine ⟨_, rfl, _, rfl, fldS T.o_Layout o1 dk (by decide) fun H4 o2 e2 => ?_⟩
  have s2 := s1.put nB e2
  refine ⟨_, rfl, pf, _, 13, _, rfl, rfl, s2.seq bB, at_byte (i := 13) (by omega), ?_⟩
  rw [le_f 13 1 (by omega)]
  refine ⟨_, _, rfl, rfl, .inr ⟨by decide, by decide⟩, _, rfl, fldS T.o_Layout o2 dk (by decide) fun H5 o3 e3 => ?_⟩
  have s3 := s2.put nB e3
  refine ⟨_, rfl, pf, fst, 40, 8, rfl, s3.seq bB, ?_⟩
  rw [numO_some (by omega), le_f 40 8 (by omega)]
  refine ⟨_, _, rfl, rfl, .inr ⟨by decide, by decide⟩, _, rfl, fldS T.o_Layout o3 dk (by decide) fun H6 o4 e4 => ?_⟩
  have s4 := s3.put nB e4
  refine ⟨_, rfl, _, _, (o4.at).dx, (o4.at).fs, _, rfl, (o4.at).e, T.o_Layout.cl, T.o_Layout.na _ dk, (o4.at).get lk0, ?_⟩
  refine ⟨_, rfl, pi, _, rfl, .inl (s4.seq hb), _, _, rfl, rfl, _, rfl, ?_⟩
  rw [vN_len]
  refine iteP (fun c5 => ?_) (fun c5 => ?_)
  case refine_2 =>
   have : volP img = none := if_pos (.inr (.inr (.inr (.inr (.inr (by omega))))))
   rw [this] at k
   exact k _
  refine ⟨H6, Fg.refl _, ?_⟩
  have ev : volP img = (lenO (Sn35.le img 64 1) (512 * Sn35.le img 13 1) 4096).bind fun r => (lenO (Sn35.le img 68 1) (512 * Sn35.le img 13 1) 65536).map fun x => ⟨img.take (512 * Sn35.le img 40 8), 512 * Sn35.le img 13 1, r, x, Sn35.le img 48 8⟩ := by
   refine if_neg ?_
   rintro (z | z | z | z | z | z)
   ·exact h0 z
   ·exact z c1
   ·omega
   ·exact z c3
   ·rw [c4] at z; cases z
   ·omega
  have per : Sn35.le img 13 1 ≤ 128 := by
   have := List.contains_iff_mem.mp c4
   simp at this; omega
  refine ⟨_, rfl, pf, fst, 48, 8, rfl, s4.seq bB, ?_⟩
  rw [numO_some (by omega), le_f 48 8 (by omega)]
  refine ⟨_, rfl, _, _, (o4.at).dx, (o4.at).fs, _, rfl, (o4.at).e, T.o_Layout.cl, T.o_Layout.na _ dk, (o4.at).get (lkS dk lk0), ?_⟩
  have e13 : ((Sn35.le img 13 1 : Nat) : Int) * 512 = ((512 * Sn35.le img 13 1 : Nat) : Int) := by push_cast; omega
  refine ⟨_, _, rfl, rfl, .inr ⟨by omega, by omega⟩, _, rfl, fldS T.o_Layout o4 dk (by decide) fun H7 o5 e5 => ?_⟩
  have s5 := s4.put nB e5
  refine ⟨_, rfl, pf, _, 64, _, rfl, rfl, s5.seq bB, at_byte (i := 64) (by omega), ?_⟩
  rw [le_f 64 1 (by omega)]
  refine ⟨_, rfl, _, _, (o5.at).dx, (o5.at).fs, _, rfl, (o5.at).e, T.o_Layout.cl, T.o_Layout.na _ dk, (o5.at).get (lkS dk (lkS dk lk0)), ?_⟩
  refine ⟨Sn35.le img 64 1, 512 * Sn35.le img 13 1, 4096, by rw [← e13]; rfl, le_lt hB 64 1, by omega, ?_⟩
  rw [ev] at k
  cases hl1 : lenO (Sn35.le img 64 1) (512 * Sn35.le img 13 1) 4096 with
  | none =>
   rw [hl1] at k
   exact k
  | some r1 =>
  rw [hl1] at k
  refine ⟨_, rfl, fldS T.o_Layout o5 dk (by decide) fun H8 o6 e6 => ?_⟩
  have s6 := s5.put nB e6
  refine ⟨_, rfl, pf, _, 68, _, rfl, rfl, s6.seq bB, at_byte (i := 68) (by omega), ?_⟩
  rw [le_f 68 1 (by omega)]
  refine ⟨_, rfl, _, _, (o6.at).dx, (o6.at).fs, _, rfl, (o6.at).e, T.o_Layout.cl, T.o_Layout.na _ dk, (o6.at).get (lkS dk (lkS dk (lkS dk lk0))), ?_⟩
  refine ⟨Sn35.le img 68 1, 512 * Sn35.le img 13 1, 65536, by rw [← e13]; rfl, le_lt hB 68 1, by omega, ?_⟩
  cases hl2 : lenO (Sn35.le img 68 1) (512 * Sn35.le img 13 1) 65536 with
  | none =>
   rw [hl2] at k
   exact k
  | some r2 =>
  rw [hl2] at k ev
  rw [hl1] at ev
  have k : ∀ H', Same H1 H' → IsLayout K A H' x ⟨img.take (512 * Sn35.le img 40 8), 512 * Sn35.le img 13 1, r1, r2, Sn35.le img 48 8⟩ → Q .non H' := k
  refine ⟨_, rfl, fldS T.o_Layout o6 dk (by decide) fun H9 o7 e7 => ?_⟩
  have s7 := s6.put nB e7
  obtain ⟨vok, _⟩ := volP_ok hB hlen ev
  have el : (img.take (512 * Sn35.le img 40 8)).length = 512 * Sn35.le img 40 8 := by rw [List.length_take]; omega
  refine ⟨H9, Fg.refl _, k H9 (sB.trans s7) ⟨pi, img, ?_, s7.seq hb, by rw [el], vok⟩⟩
  have z := o7.at
  have z1 : ((Sn35.le img 40 8 : Nat) : Int) * 512 = (((img.take (512 * Sn35.le img 40 8)).length : Nat) : Int) := by rw [el]; omega
  have z2 : ((Sn35.le img 48 8 : Nat) : Int) * (((Sn35.le img 13 1 : Nat) : Int) * 512) = ((Sn35.le img 48 8 * (512 * Sn35.le img 13 1) : Nat) : Int) := by rw [e13]; simp
  have z : OAt H9 A.Layout x [("block_length", .int (r2 : Int)), ("record_length", .int (r1 : Int)), ("records_place", .int (((Sn35.le img 48 8 : Nat) : Int) * (((Sn35.le img 13 1 : Nat) : Int) * 512))), ("end", .int (((Sn35.le img 40 8 : Nat) : Int) * 512)), ("cluster", .int (((Sn35.le img 13 1 : Nat) : Int) * 512)), ("image", .ref pi)] := z
  rw [z2, z1, e13] at z
  exact z
end
end Sv
end
section
namespace Sv
open PySem PySem.Spec L2
section
variable {P : Program} {w : World} {K : Frag} {mg : Str → Option Value} {base : Heap} {A : Adr} {f : Addr} {fd : FuncData}
noncomputable def spMarks (K : Frag) (CN : Addr) : Sp := fun vs H Q E => ∃ (a : Addr) (b : List Nat) (n : Nat), vs = [.ref a] ∧ Bs K H a b ∧ Byt b ∧ b.length = 512 * n ∧ 1 ≤ n ∧ n ≤ 1000 ∧ Orr CN E (Sn35.unmarked b) fun r => ∀ p, H p = none → Q (.ref p) (upd H p (.lst (vN r)))
theorem sc_without_marks : FnScope ["data", "sectors", "place", "told", "mark", "mended", "sector", "end", "own"] ["data"] (defScope s_without_marks) := ⟨rfl, rfl, rfl, dk, rfl, dk, dk⟩
theorem vN_set (l : List Nat) (i x : Nat) : (vN l).set i (V.int (x : Int)) = vN (l.set i x) := by
 unfold vN
 rw [List.map_set]
theorem ixN_nat {n i : Nat} (h : i < n) : ixN n (i : Int) = some i := by
 unfold ixN
 rw [if_pos (by omega), if_pos (by omega), Int.toNat_natCast]
theorem two_eq {b : List Nat} (hb : Byt b) {i j : Nat} (hi : i + 2 ≤ b.length) (hj : j + 2 ≤ b.length) : (b.drop i).take 2 = (b.drop j).take 2 ↔ Sn35.le b i 2 = Sn35.le b j 2 := by
 constructor
 ·intro h; rw [le_num, le_num, h]
 ·intro h
  refine num_inj ((hb.drop _).take _) ((hb.drop _).take _) ?_ h
  rw [List.length_take, List.length_take, List.length_drop, List.length_drop]; omega
theorem ok_without_marks (F : Fun K "without_marks" "without_marks" s_without_marks f fd) (T : Txt K mg A) (d_must : Dq1 P w K mg base A)
  (d_part : Dq3 P w K mg base A) (d_number_at : Dq2 P w K mg base A) :
  FnOk P w K mg base (CXR P w) 4 f fd ["data"] (spMarks K A.NotSo) := by
 refine F.okR sc_without_marks (fun vs H Q E h => ?_) (fun cdv A' outer s H vs Q E hr h => ?_)
 ·obtain ⟨a, b, n, rfl, _⟩ := h
  rfl
 ·obtain ⟨a, b, n, rfl, hb, hB, hl, h1, hn, k⟩ := h
  refine ⟨_, (pss_cons (ps_set (i := 1) sc_without_marks.nd rfl (Or.inl rfl) (pe_op op_fdiv (pe_callB call_len_seq rfl T.n_len boot_len (pa_cons (pv 0) pa_nil)) (pe_gc T.c_SECTOR rfl)))
 (pss_cons (ps_set (i := 2) sc_without_marks.nd rfl (Or.inl rfl) (pe_fn d_number_at hr (by decide) rfl passR (pa_cons (pv 0) (pa_cons pe_int (pa_cons pe_int pa_nil)))))
 (pss_cons (ps_set (i := 3) sc_without_marks.nd rfl (Or.inl rfl) (pe_fn d_number_at hr (by decide) rfl passR (pa_cons (pv 0) (pa_cons pe_int (pa_cons pe_int pa_nil)))))
 (pss_cons (ps_must d_must hr (by decide) rfl passR (pe_cmpR op_eq (pv 3) (pe_op op_add (pv 1) pe_int) (nomark _)))
 (pss_cons (ps_must d_must hr (by decide) rfl passR (pe_and (pe_cmpR op_eq (pe_op op_mod (pv 2) pe_int) pe_int (nomark _)) (pe_one (pe_cmpR op_ge (pv 2) pe_int (nomark _)))))
 (pss_cons (ps_must d_must hr (by decide) rfl passR (pe_cmpR op_le (pe_op op_add (pv 2) (pe_op op_mul pe_int (pv 3))) (pe_op op_sub (pe_gc T.c_SECTOR rfl) pe_int) (nomark _)))
 (pss_cons (ps_set (i := 4) sc_without_marks.nd rfl (Or.inl rfl) (pe_fn d_part hr (by decide) rfl passR (pa_cons (pv 0) (pa_cons (pv 2) (pa_cons pe_int pa_nil)))))
 (pss_cons (ps_set (i := 5) sc_without_marks.nd rfl (Or.inl rfl) (pe_callTy call_list_of rfl T.n_list boot_list (pa_cons (pv 0) pa_nil)))
 (pss_cons (ps_for PassesOwn.leaving rfl (pi_range1 rfl T.n_range (pa_cons (pv 1) pa_nil)) (pg_name (i := 6) sc_without_marks.nd rfl (Or.inl rfl))
 (pss_cons (ps_set (i := 7) sc_without_marks.nd rfl (Or.inl rfl) (pe_op op_sub (pe_op op_add (pe_op op_mul (pv 6) (pe_gc T.c_SECTOR rfl)) (pe_gc T.c_SECTOR rfl)) pe_int))
 (pss_cons (ps_set (i := 8) sc_without_marks.nd rfl (Or.inl rfl) (pe_op op_add (pe_op op_add (pv 2) pe_int) (pe_op op_mul pe_int (pv 6))))
 (pss_cons (ps_must d_must hr (by decide) rfl passR (pe_cmpR (op_eqL hr.units) (pe_fn d_part hr (by decide) rfl passR (pa_cons (pv 0) (pa_cons (pv 7) (pa_cons pe_int pa_nil)))) (pv 4) (nomark _)))
 (pss_cons (ps_asg (pe_ix ix_list (pv 0) (pv 8) (fun _ _ => rfl)) (pg_sub (pv 5) (pv 7) set_list))
 (pss_one (ps_asg (pe_ix ix_list (pv 0) (pe_op op_add (pv 8) pe_int) (fun _ _ => rfl)) (pg_sub (pv 5) (pe_op op_add (pv 7) pe_int) set_list))))))))
 (pss_one (ps_ret (pv 5)))))))))))), ?_⟩
  have e0 : (((vN b).length : Nat) : Int) / 512 = (n : Int) := by rw [vN_len]; omega
  refine ⟨_, rfl, a, _, rfl, .inl hb, _, _, rfl, rfl, ⟨by decide, by decide⟩, ?_⟩
  dsimp only
  rw [e0]
  refine ⟨_, rfl, a, b, 4, 2, rfl, hb, ?_⟩
  rw [numO_some (by omega)]
  refine ⟨_, rfl, a, b, 6, 2, rfl, hb, ?_⟩
  rw [numO_some (by omega)]
  refine ⟨_, rfl, _, rfl, _, _, rfl, rfl, rfl, _, rfl, iteE (fun c1 => ?_) (fun c1 => ?_)⟩
  case refine_2 =>
   rw [unmarked_none hl (by omega)] at k
   exact k _
  refine ⟨H, Fg.refl H, ?_⟩
  refine ⟨_, rfl, _, _, rfl, rfl, by show (0 : Int) < 2; decide, rfl, _, rfl, iteE (fun c2 => ?_) (fun c2 => ?_)⟩
  case refine_2 =>
   rw [unmarked_none hl (by omega)] at k
   refine ⟨_, rfl, ?_⟩
   exact k _
  refine ⟨_, rfl, _, _, rfl, rfl, _, rfl, iteP (fun c3 => ?_) (fun c3 => ?_)⟩
  case refine_2 =>
   rw [unmarked_none hl (by omega)] at k
   exact k _
  refine ⟨H, Fg.refl H, ?_⟩
  refine ⟨_, rfl, _, rfl, _, _, rfl, rfl, .inl ⟨by decide, by decide⟩, _, _, rfl, rfl, _, _, rfl, rfl, _, _, rfl, rfl, _, rfl, iteP (fun c4 => ?_) (fun c4 => ?_)⟩
  case refine_2 =>
   rw [unmarked_none hl (by omega)] at k
   exact k _
  refine ⟨H, Fg.refl H, ?_⟩
  generalize ho : Sn35.le b 4 2 = o at *
  refine ⟨_, rfl, _, rfl, a, b, o, 2, rfl, hb, ?_⟩
  rw [part_some (by omega)]
  intro pm hpm
  refine ⟨_, rfl, a, vN b, rfl, .inl ((Same.new hpm).seq hb), fun pd hpd => ?_⟩
  have hpd0 : H pd = none := (Same.new hpm).free hpd
  have npm : pm ≠ pd := ne_of_none upd_same hpd
  refine ⟨_, rfl, n, rfl, by omega, by omega, for_range (fun j σ H' => ∃ v1 v2 v3, σ = [some (.ref a), some (.int n), some (.int o), some (.int (Sn35.le b 6 2 : Nat)), some (.ref pm), some (.ref pd), v1, v2, v3] ∧
   upd (upd H pm (.lst (vN ((b.drop o).take 2)))) pd (.lst (vN (mend b o j))) = H' ∧ ∀ i, i < j → Sn35.le b (512 * i + 510) 2 = Sn35.le b o 2) ⟨none, none, none, rfl, by rw [mend_zero], fun i z => by omega⟩ ?_ ?_⟩
  ·rintro j σ H' hj ⟨v1, v2, v3, rfl, rfl, hm⟩
   rw [Int.toNat_natCast] at hj
   have sH : Same H (upd (upd H pm (.lst (vN ((b.drop o).take 2)))) pd (.lst (vN (mend b o j)))) := (Same.new hpm).trans (Same.new hpd)
   have mlen : (mend b o j).length = b.length := by
    unfold mend
    rw [List.length_append, sects_len j (by unfold Sn35.SECTOR; omega) (by omega), List.length_drop]; unfold Sn35.SECTOR; omega
   have hpd1 : (upd (upd H pm (.lst (vN ((b.drop o).take 2)))) pd (.lst (vN (mend b o j)))) pd = some (.lst (vN (mend b o j))) := upd_same
   have hpm1 : Bs K (upd (upd H pm (.lst (vN ((b.drop o).take 2)))) pd (.lst (vN (mend b o j)))) pm ((b.drop o).take 2) := SqL.of (by rw [upd_ne npm]; exact upd_same)
   generalize hHj : upd (upd H pm (.lst (vN ((b.drop o).take 2)))) pd (.lst (vN (mend b o j))) = Hj at sH hpd1 hpm1 ⊢
   have e1 : (0 + (j : Int)) * 512 + 512 - 2 = ((512 * j + 510 : Nat) : Int) := by omega
   have e2 : (o : Int) + 2 + 2 * (0 + (j : Int)) = ((o + 2 + 2 * j : Nat) : Int) := by omega
   refine ⟨_, rfl, _, _, rfl, rfl, .inr ⟨by decide, by decide⟩, _, _, rfl, rfl, _, _, rfl, rfl, ?_⟩
   refine ⟨_, rfl, _, _, rfl, rfl, _, rfl, _, _, rfl, rfl, .inl ⟨by decide, by decide⟩, _, _, rfl, rfl, ?_⟩
   dsimp only
   rw [e1, e2]
   refine ⟨_, rfl, _, rfl, a, b, 512 * j + 510, 2, rfl, sH.seq hb, ?_⟩
   rw [part_some (by omega)]
   intro p1 hp1
   refine ⟨_, rfl, p1, pm, _, _, rfl, rfl, SqL.of upd_same, (Same.new hp1).seq hpm1, _, rfl, iteP (fun c5 => ?_) (fun c5 => ?_)⟩
   case refine_2 =>
    rw [unmarked_none2 hl hj (by rw [ho]; exact fun z => c5 ((two_eq hB (by omega) (by omega)).mpr z))] at k
    exact k _
   refine ⟨Hj, Fg.lst hp1, ?_⟩
   have c5 := (two_eq hB (by omega) (by omega)).mp c5
   refine ⟨_, rfl, _, rfl, a, _, _, _, rfl, rfl, sH.seq hb, at_byte (i := o + 2 + 2 * j) (by omega), ?_⟩
   refine ⟨_, rfl, _, rfl, pd, _, _, _, rfl, rfl, hpd1, ixN_nat (by rw [vN_len, mlen]; omega), ?_⟩
   rw [vN_set]
   have hb2 : Bs K (upd Hj pd (.lst (vN ((mend b o j).set (512 * j + 510) (Sn35.le b (o + 2 + 2 * j) 1))))) a b := by
    have : Same H (upd Hj pd (.lst (vN ((mend b o j).set (512 * j + 510) (Sn35.le b (o + 2 + 2 * j) 1))))) := fun c u e => by
     rw [upd_ne (ne_of_none e hpd0)]; exact sH c u e
    exact this.seq hb
   have e3 : ((o + 2 + 2 * j : Nat) : Int) + 1 = ((o + 2 + 2 * j + 1 : Nat) : Int) := by omega
   have e4 : ((512 * j + 510 : Nat) : Int) + 1 = ((512 * j + 511 : Nat) : Int) := by omega
   refine ⟨_, rfl, _, rfl, _, _, rfl, rfl, a, _, _, _, rfl, rfl, hb2, by rw [e3]; exact at_byte (i := o + 2 + 2 * j + 1) (by omega), ?_⟩
   refine ⟨_, rfl, _, rfl, _, _, rfl, rfl, pd, _, _, _, rfl, rfl, upd_same, by rw [e4]; exact ixN_nat (by rw [vN_len, List.length_set, mlen]; omega), ?_⟩
   rw [vN_set, upd_upd, mend_step (by unfold Sn35.SECTOR; omega) (by omega)]
   refine ⟨_, _, _, rfl, ?_, fun i hi => ?_⟩
   ·rw [← hHj, upd_upd]
   ·by_cases q : i = j
    ·subst q; exact c5
    ·exact hm i (by omega)
  ·rintro σ H' ⟨v1, v2, v3, rfl, rfl, hm⟩
   rw [Int.toNat_natCast] at hm ⊢
   refine ⟨_, rfl, upd H pd (.lst (vN (mend b o n))), ?_, ?_⟩
   ·refine ⟨fun c u e => ?_, fun c u e z => ?_⟩
    ·by_cases q : c = pd
     ·subst q; rw [upd_same] at e ⊢; exact e
     ·rw [upd_ne q] at e ⊢
      rw [upd_ne (ne_of_none e hpm)]; exact e
    ·by_cases q : c = pd
     ·subst q; rw [upd_same] at z; cases z
     ·rw [upd_ne q] at e z
      by_cases q2 : c = pm
      ·subst q2; rw [upd_same] at e; cases e; trivial
      ·rw [upd_ne q2, z] at e; cases e
   ·have e : Sn35.unmarked b = some (mend b o n) := by
     rw [← ho]
     exact unmarked_some hl (by omega) (by omega) (by omega) (by omega) (by rw [ho]; exact hm)
    rw [e] at k
    exact k pd hpd0
end
end Sv
end
section
namespace Sv
open PySem PySem.Spec L2
section
variable {P : Program} {w : World} {K : Frag} {mg : Str → Option Value} {base : Heap} {A : Adr} {f : Addr} {fd : FuncData}
noncomputable def spAttrInit (K : Frag) (A : Adr) : Sp := fun vs H Q E => ∃ (x : Addr) (H1 : Hp) (pd : Addr) (d : List Nat), vs = [.ref x, .ref pd] ∧ Ini A.Attribute x H H1 ∧ Bs K H1 pd d ∧ Byt d ∧ 24 ≤ d.length ∧ d.length < 2 ^ 30 ∧
 Orr A.NotSo E (attrOf d) fun a => ∀ H', Same H1 H' → IsAttr K A H' x a → Q .non H'
theorem sc_Attribute_init : FnScope ["self", "data", "flags"] ["self", "data"] (defScope s_Attribute_init) := ⟨rfl, rfl, rfl, dk, rfl, dk, dk⟩
noncomputable abbrev Dq9 (P : Program) (w : World) (K : Frag) (mg : Str → Option Value) (base : Heap) (A : Adr) : Prop := Def P w K mg base 4 "letters_at" ["data", "place", "many"] (spLet K A.NotSo)
theorem ok_Attribute_init (F : Fun K "__init__" "Attribute.__init__" s_Attribute_init f fd) (T : Txt K mg A) (d_must : Dq1 P w K mg base A) (d_number_at : Dq2 P w K mg base A)
  (d_letters_at : Dq9 P w K mg base A) :
  FnOk P w K mg base (CXR P w) 5 f fd ["self", "data"] (spAttrInit K A) := by
 refine F.okR sc_Attribute_init (fun vs H Q E h => ?_) (fun cdv A' outer s H vs Q E hr h => ?_)
 ·obtain ⟨x, H1, pd, d, rfl, _⟩ := h
  rfl
 ·obtain ⟨x, H1, pd, d, rfl, ini, hb, hB, h24, hlen, k⟩ := h
  have s0 := ini.same
  have nB := ini.new
  refine ⟨_, (pss_cons (ps_fld (pv 0) (pv 1) rfl)
 (pss_cons (ps_fld (pv 0) (pe_fn d_number_at hr (by decide) rfl passR (pa_cons (pv 1) (pa_cons pe_int (pa_cons pe_int pa_nil)))) rfl)
 (pss_cons (ps_must d_must hr (by decide) rfl passR (pe_cmpR op_ne (pe_fld (pv 0) rfl) (pe_gc T.c_LIST_OF_ATTRIBUTES rfl) (nomark _)))
 (pss_cons (ps_must d_must hr (by decide) rfl passR (pe_cmpR op_in_seq (pe_ix ix_list (pv 1) pe_int (fun _ _ => rfl)) (pe_tup (pa_cons pe_int (pa_cons pe_int pa_nil))) (by with_unfolding_all rfl)))
 (pss_cons (ps_fld (pv 0) (pe_cmpR op_eq (pe_ix ix_list (pv 1) pe_int (fun _ _ => rfl)) pe_int (nomark _)) rfl)
 (pss_cons (ps_fld (pv 0) (pe_fn d_letters_at hr (by decide) rfl passR (pa_cons (pv 1) (pa_cons (pe_fn d_number_at hr (by decide) rfl passR (pa_cons (pv 1) (pa_cons pe_int (pa_cons pe_int pa_nil)))) (pa_cons (pe_ix ix_list (pv 1) pe_int (fun _ _ => rfl)) pa_nil)))) rfl)
 (pss_cons (ps_set (i := 2) sc_Attribute_init.nd rfl (Or.inl rfl) (pe_fn d_number_at hr (by decide) rfl passR (pa_cons (pv 1) (pa_cons pe_int (pa_cons pe_int pa_nil)))))
 (pss_one (ps_must d_must hr (by decide) rfl passR (pe_or (pe_cmpR op_eq (pv 2) pe_int (nomark _)) (pe_one (pe_and (pe_fld (pv 0) rfl) (pe_one (pe_cmpR op_eq (pv 2) (pe_gc T.c_SPARSE rfl) (nomark _))))))))))))))), ?_⟩
  refine ⟨_, rfl, _, rfl, fldS T.o_Attribute ini.at dk (by decide) fun H2 o1 e1 => ?_⟩
  have s1 := s0.put nB e1
  refine ⟨_, rfl, pd, d, 0, 4, rfl, s1.seq hb, ?_⟩
  rw [numO_some (by omega)]
  refine ⟨_, rfl, fldS T.o_Attribute o1 dk (by decide) fun H3 o2 e2 => ?_⟩
  have s2 := s1.put nB e2
  refine ⟨_, rfl, _, _, (o2.at).dx, (o2.at).fs, _, rfl, (o2.at).e, T.o_Attribute.cl, T.o_Attribute.na _ dk, (o2.at).get lk0, ?_⟩
  refine ⟨rfl, _, rfl, iteNE (fun c1 => ?_) (fun c1 => ?_)⟩
  case refine_2 =>
   have : attrOf d = none := if_pos (.inl (by omega))
   rw [this] at k
   exact k _
  refine ⟨H3, Fg.refl _, ?_⟩
  refine ⟨_, rfl, pd, _, 8, _, rfl, rfl, s2.seq hb, at_byte (i := 8) (by omega), ?_⟩
  refine ⟨by show 2 ≤ sizeLine; decide, fun p5 hp5 => ?_⟩
  refine ⟨p5, vN [0, 1], rfl, .inr (SqT.of upd_same), rfl, rfl, _, rfl, ?_⟩
  have e5 : (if false = true then !inV (V.int ((Sn35.le d 8 1 : Nat) : Int)) (vN [0, 1]) else inV (V.int ((Sn35.le d 8 1 : Nat) : Int)) (vN [0, 1])) = [0, 1].contains (Sn35.le d 8 1) := by rw [inV_nat]; rfl
  rw [e5]
  refine iteB (fun c2 => ?_) (fun c2 => ?_)
  case refine_2 =>
   have : attrOf d = none := if_pos (.inr (.inl (by
    rw [← Bool.not_eq_true, List.contains_iff_mem] at c2
    simp at c2; omega)))
   rw [this] at k
   exact k _
  have c2 : Sn35.le d 8 1 ≤ 1 := by
   have := List.contains_iff_mem.mp c2
   simp at this; omega
  refine ⟨_, Fg.refl _, ?_⟩
  have sT : Same H3 (upd H3 p5 (.tup (vN [0, 1]))) := Same.new hp5
  show (tSeq _ _ : TS) _ _ (upd H3 p5 (.tup (vN [0, 1])))
  replace s2 := s2.trans sT
  replace o2 := o2.up sT
  generalize upd H3 p5 (.tup (vN [0, 1])) = H4 at s2 o2 ⊢
  refine ⟨_, rfl, pd, _, 8, _, rfl, rfl, s2.seq hb, at_byte (i := 8) (by omega), rfl, _, rfl, fldS T.o_Attribute o2 dk (by decide) fun H5 o3 e3 => ?_⟩
  have s3 := s2.put nB e3
  have e8 : decide (V.int ((Sn35.le d 8 1 : Nat) : Int) = V.int 1) = decide (Sn35.le d 8 1 = 1) := by
   rw [Bool.eq_iff_iff, decide_eq_true_eq, decide_eq_true_eq]
   constructor
   ·intro z; have := V.int.inj z; omega
   ·intro z; rw [z]; rfl
  rw [e8] at o3
  refine ⟨_, rfl, _, rfl, pd, d, 10, 2, rfl, s3.seq hb, ?_⟩
  rw [numO_some (by omega)]
  refine ⟨_, rfl, pd, _, 9, _, rfl, rfl, s3.seq hb, at_byte (i := 9) (by omega), pd, d, Sn35.le d 10 2, Sn35.le d 9 1, rfl, s3.seq hb, ?_, ?_⟩
  ·have := le_lt hB 9 1
   omega
  by_cases c3 : Sn35.le d 9 1 ≠ 0 ∧ d.length < Sn35.le d 10 2 + 2 * Sn35.le d 9 1
  ·have : attrOf d = none := if_pos (.inr (.inr (.inl c3)))
   rw [this] at k
   have e : letO d (Sn35.le d 10 2) (Sn35.le d 9 1) = none := if_pos c3
   rw [e]
   exact k
  have e : letO d (Sn35.le d 10 2) (Sn35.le d 9 1) = some (lets d (Sn35.le d 10 2) (Sn35.le d 9 1)) := if_neg c3
  rw [e]
  intro pn hpn
  have sn : Same H1 (upd H1 pn (.lst (vN (lets d (Sn35.le d 10 2) (Sn35.le d 9 1))))) := Same.new (s3.free hpn)
  have nn : (upd H1 pn (.lst (vN (lets d (Sn35.le d 10 2) (Sn35.le d 9 1))))) x = none := by rw [upd_ne (ne_of_none o3.at.e hpn)]; exact nB
  have bn : Bs K (upd H1 pn (.lst (vN (lets d (Sn35.le d 10 2) (Sn35.le d 9 1))))) pn (lets d (Sn35.le d 10 2) (Sn35.le d 9 1)) := SqL.of upd_same
  have s4 : Same (upd H1 pn (.lst (vN (lets d (Sn35.le d 10 2) (Sn35.le d 9 1))))) (upd H5 pn (.lst (vN (lets d (Sn35.le d 10 2) (Sn35.le d 9 1))))) := s3.grow
  have o4 := o3.up (Same.new (o := .lst (vN (lets d (Sn35.le d 10 2) (Sn35.le d 9 1)))) hpn)
  generalize upd H5 pn (.lst (vN (lets d (Sn35.le d 10 2) (Sn35.le d 9 1)))) = H6 at s4 o4 ⊢
  generalize upd H1 pn (.lst (vN (lets d (Sn35.le d 10 2) (Sn35.le d 9 1)))) = B at sn nn bn s4
  replace hb := sn.seq hb
  refine ⟨_, rfl, fldS T.o_Attribute o4 dk (by decide) fun H7 o5 e5 => ?_⟩
  have s5 := s4.put nn e5
  refine ⟨_, rfl, pd, d, 12, 2, rfl, s5.seq hb, ?_⟩
  rw [numO_some (by omega)]
  have fin : ¬ (Sn35.le d 12 2 ≠ 0 ∧ (Sn35.le d 8 1 = 0 ∨ Sn35.le d 12 2 ≠ 0x8000)) → ∃ H2, Fg H2 H7 ∧ Q .non H2 := fun c4 => by
   have ea : attrOf d = some ⟨Sn35.le d 0 4, lets d (Sn35.le d 10 2) (Sn35.le d 9 1), d⟩ := if_neg (by
    rintro (z | z | z | z)
    ·omega
    ·omega
    ·exact c3 z
    ·exact c4 z)
   rw [ea] at k
   obtain ⟨aok, _⟩ := attrOf_ok hB h24 ea
   exact ⟨H7, Fg.refl _, k H7 (sn.trans s5) ⟨pd, pn, o5.at, s5.seq hb, s5.seq bn, aok, hlen⟩⟩
  have bad : Sn35.le d 12 2 ≠ 0 ∧ (Sn35.le d 8 1 = 0 ∨ Sn35.le d 12 2 ≠ 0x8000) → ∀ H', E (.ref A.NotSo) none H' := fun c4 => by
   have : attrOf d = none := if_pos (.inr (.inr (.inr c4)))
   rw [this] at k
   exact k
  refine ⟨_, rfl, rfl, _, rfl, iteE (fun c4 => ?_) (fun c4 => ?_)⟩
  ·refine ⟨true, rfl, iteT ?_⟩
   obtain ⟨H2, g, q⟩ := fin (by omega)
   exact ⟨H7, Fg.refl _, H2, g, q⟩
  ·refine ⟨_, rfl, _, _, (o5.at).dx, (o5.at).fs, _, rfl, (o5.at).e, T.o_Attribute.cl, T.o_Attribute.na _ dk, (o5.at).get (lkS dk lk0), ?_⟩
   refine ⟨_, rfl, iteP (fun c5 => ?_) (fun c5 => ?_)⟩
   ·refine ⟨_, rfl, rfl, _, rfl, iteE (fun c6 => ?_) (fun c6 => ?_)⟩
    ·obtain ⟨H2, g, q⟩ := fin (by omega)
     exact ⟨H7, Fg.refl _, H2, g, q⟩
    ·exact bad ⟨by omega, .inr (by omega)⟩ _
   ·exact ⟨false, rfl, iteF (bad ⟨by omega, .inl (by omega)⟩ _)⟩
end
end Sv
end
section
namespace L2
open PySem PySem.Spec PyProof.Rows
noncomputable def del (H : Hp) (q : Addr) : Hp := fun b => if b = q then none else H b
theorem del_same {H : Hp} {q : Addr} : del H q q = none := if_pos rfl
theorem del_ne {H : Hp} {q b : Addr} (h : b ≠ q) : del H q b = H b := if_neg h
theorem del_upd {B : Hp} {q : Addr} {o : HO} (h : B q = none) : del (upd B q o) q = B := by
 funext b
 by_cases z : b = q
 ·rw [z, del_same, h]
 ·rw [del_ne z, upd_ne z]
theorem upd_del {H : Hp} {q : Addr} {o : HO} (h : H q = some o) : upd (del H q) q o = H := by
 funext b
 by_cases z : b = q
 ·rw [z, upd_same, h]
 ·rw [upd_ne z, del_ne z]
noncomputable def Asd : HO → Prop
 | .lst _ => True
 | .dK _ => True
 | _ => False
theorem ObjOk.aside {P : Program} {w : World} {H H' : Hp} {h h' : Heap} {a : Addr} {o : HO} (x : ObjOk P w H h a o) (k : ∀ u, h.get? a = some u → h'.get? a = some u) (s : Asd o) : ObjOk P w H' h' a o := by
 cases o with
 | lst xs => obtain ⟨z, its, n, r, e⟩ := x; exact ⟨z, its, n, r, k _ e⟩
 | dK kvs => obtain ⟨z, y, vs, r, ob, es, ep, e, c⟩ := x; exact ⟨z, y, vs, r, ob, es, ep, k _ e, c⟩
 | _ => exact s.elim
section
variable {X : Cx} {pins : List (Addr × Obj)} {σ : St} {H : Hp} {s : Shared} {q : Addr} {o : HO}
theorem Asd.fgt {H : Hp} {o : HO} (h : Asd o) : Fgt H o := by
 cases o with
 | lst _ => trivial
 | dK _ => trivial
 | _ => exact h.elim
theorem Fg.del {H : Hp} {q : Addr} {o : HO} (h : H q = some o) (f : Asd o) : Fg (del H q) H :=
 ⟨fun b u e => by
  by_cases z : b = q
  ·rw [z, del_same] at e; cases e
  ·rw [del_ne z] at e; exact e, fun b u e n => by
  by_cases z : b = q
  ·rw [z, h] at e; cases e; exact f.fgt
  ·rw [del_ne z, e] at n; cases n⟩
theorem Asd.nocell {P : Program} {w : World} {H : Hp} {h : Heap} {a : Addr} {o : HO} {ob : Obj} (f : Asd o) (x : ObjOk P w H h a o) (e : h.get? a = some ob) : ∀ v, ob.data ≠ .cell v := by
 cases o with
 | lst xs =>
  obtain ⟨_, its, n, _, e2⟩ := x
  rw [e] at e2; cases e2
  intro v z; cases z
 | dK kvs =>
  obtain ⟨_, _, vs, _, o2, es, ep, e2, ed, hd, _⟩ := x
  rw [e] at e2; cases e2
  intro v z
  rw [hd] at z; cases z
 | _ => exact f.elim
theorem Inv.aside (I : Inv X pins σ H s) (h : H q = some o) (f : Asd o) : ∃ ob, s.heap.get? q = some ob ∧ Inv X ((q, ob) :: pins) σ (del H q) s := by
 obtain ⟨ob, e⟩ := (I.hok q o h).there
 refine ⟨ob, e, (I.fg (Fg.del h f)).pins_of fun p hp => ?_⟩
 rcases List.mem_cons.mp hp with rfl | hp
 ·refine ⟨e, del_same, fun z => ?_, fun z => ?_, f.nocell (I.hok q o h) e⟩
  ·have z : q = X.env.locals := z
   rw [z, I.free] at h; cases h
  ·have z : q ∈ X.fs := z
   have := I.stkFree
   obtain ⟨_, o2, ho2, _⟩ := I.ok.funs.mem z
   have n := I.base.free q o2 ho2 (I.ok.frf q z) fun y => I.ok.exfs q y z
   rw [n] at h; cases h
 ·exact (I.fg (Fg.del h f)).pin p (List.mem_append_right _ hp)
theorem Inv.retake {H1 : Hp} {s1 : Shared} {ob : Obj} (I : Inv X pins σ H s) (h : H q = some o) (f : Asd o) (e : s.heap.get? q = some ob) (I1 : Inv X ((q, ob) :: pins) σ H1 s1) (old : ∀ b u, X.s_0.heap.get? b = some u → b = q → X.H_0 b ≠ none) :
  H1 q = none ∧ Inv X pins σ (upd H1 q o) s1 := by
 obtain ⟨e1, n1, nl, nf, nc⟩ := I1.pin (q, ob) (List.mem_append_right _ (List.mem_cons_self ..))
 simp only at e1 n1 nl nf nc
 have ok1 : ObjOk X.prog X.w (upd H1 q o) s1.heap q o := (I.hok q o h).aside (fun u z => by rw [e] at z; cases z; exact e1) f
 refine ⟨n1, I1.ok, I1.os, I1.bare, ?_, I1.loc, I1.cell, ?_, fun x c hc => ?_, fun p hp => ?_, ?_, I1.len⟩
 ·refine ⟨I1.base.keep, I1.base.slot, fun b u z n hx => ?_, I1.base.there, fun b xs z => ?_, fun b u v z => ?_, fun b ps z => ?_⟩
  ·by_cases y : b = q
   ·exact absurd n (old b u z y)
   ·rw [upd_ne y]; exact I1.base.free b u z n hx
  ·have z1 := I1.base.tups b xs z
   rw [upd_ne (ne_of_none z1 n1)]; exact z1
  ·have z1 := I1.base.frzs b u v z
   rw [upd_ne (ne_of_none z1 n1)]; exact z1
  ·obtain ⟨m, z1⟩ := I1.base.tbls b ps z
   exact ⟨m, by rw [upd_ne (ne_of_none z1 n1)]; exact z1⟩
 ·rw [upd_ne (Ne.symm nl)]; exact I1.free
 ·have : c ≠ q := fun z => by
   obtain ⟨v, o2, ho2, hd2⟩ := I1.cell x c hc
   rw [z, e1] at ho2; cases ho2
   exact nc v hd2
  rw [upd_ne this]; exact I1.freeC x c hc
 ·obtain ⟨a1, a2, a3, a4, a5⟩ := I1.pin p (by
   rcases List.mem_append.mp hp with z | z
   ·exact List.mem_append_left _ z
   ·exact List.mem_append_right _ (List.mem_cons_of_mem _ z))
  refine ⟨a1, ?_, a3, a4, a5⟩
  have : p.1 ≠ q := fun z => by
   have := (I.pin p hp).2.1
   rw [z, h] at this; cases this
  rw [upd_ne this]; exact a2
 ·intro b u z
  by_cases y : b = q
  ·rw [y, upd_same] at z
   cases z
   rw [y]; exact ok1
  ·rw [upd_ne y] at z
   refine (I1.hok b u z).stay (fun _ _ _ w => w) (fun c w => ?_) fun c xs w => ?_
   ·rw [upd_ne (ne_of_none w n1)]; exact w
   ·rw [upd_ne (ne_of_none w n1)]; exact w
end
noncomputable def tHide (te : TE) : TE := fun σ H Q => ∃ q o, H q = some o ∧ Asd o ∧ te σ (del H q) fun v H1 => H1 q = none → Q v (upd H1 q o)
theorem pe_hide {X : Cx} {e : Expr} {te : TE} (hex : X.ex = []) (h : PE X e te) : PE X e (tHide te) := by
 intro pins s σ H Q I hw
 obtain ⟨q, o, hq, f, hw⟩ := hw
 obtain ⟨ob, eo, I0⟩ := I.aside hq f
 refine thn (h _ s σ _ _ I0 hw) fun u s1 ⟨v, H1, I1, r, qv⟩ => ?_
 obtain ⟨n1, I2⟩ := I.retake hq f eo I1 fun b u z y n => by
  subst y
  have := I.base.free b u z n (fun w => by rw [hex] at w; cases w)
  rw [hq] at this; cases this
 exact ⟨v, _, I2, r, qv n1⟩
end L2
end
section
namespace Sv
open PySem PySem.Spec L2
section
variable {P : Program} {w : World} {K : Frag} {mg : Str → Option Value} {base : Heap} {A : Adr} {f : Addr} {fd : FuncData}
noncomputable def Objs {α : Type} (R : Hp → Addr → α → Prop) (H : Hp) (as : List Addr) (l : List α) : Prop := as.length = l.length ∧ ∀ (i : Nat) (a : Addr) (x : α), as[i]? = some a → l[i]? = some x → R H a x
theorem Objs.nil {α : Type} {R : Hp → Addr → α → Prop} {H : Hp} : Objs R H [] [] := ⟨rfl, fun i a x h1 _ => by simp at h1⟩
theorem Objs.up {α : Type} {R : Hp → Addr → α → Prop} {H H' : Hp} {as : List Addr} {l : List α} (mono : ∀ a x, R H a x → R H' a x) (h : Objs R H as l) : Objs R H' as l := ⟨h.1, fun i a x h1 h2 => mono a x (h.2 i a x h1 h2)⟩
theorem Objs.snoc {α : Type} {R : Hp → Addr → α → Prop} {H : Hp} {as : List Addr} {l : List α} {a : Addr} {x : α} (h : Objs R H as l) (r : R H a x) : Objs R H (as ++ [a]) (l ++ [x]) := by
 refine ⟨by simp [h.1], fun i b y h1 h2 => ?_⟩
 by_cases hi : i < as.length
 ·rw [List.getElem?_append_left hi] at h1
  rw [List.getElem?_append_left (by rw [← h.1]; exact hi)] at h2
  exact h.2 i b y h1 h2
 ·have e : i = as.length := by
   have := (List.getElem?_eq_some_iff.mp h1).1
   rw [List.length_append] at this
   simp at this; omega
  subst e
  simp at h1
  rw [h.1] at h2
  simp at h2
  subst h1 h2
  exact r
theorem Objs.lof {α : Type} {R : Hp → Addr → α → Prop} {H : Hp} {p : Addr} {as : List Addr} {l : List α} (h : Objs R H as l) (e : H p = some (.lst (as.map V.ref))) : LOf R H p l := ⟨as, e, h.1, h.2⟩
noncomputable def spAttrsIn (K : Frag) (A : Adr) : Sp := fun vs H Q E => ∃ (a : Addr) (b : List Nat) (i : Nat), vs = [.ref a, .int i] ∧ Bs K H a b ∧ Byt b ∧ b.length ≤ 2 ^ 20 ∧
 Orr A.NotSo E (attrsX (b.drop i)) fun l => ∀ p H', Same H H' → LOf (IsAttr K A) H' p l → Q (.ref p) H'
theorem sc_attributes_in : FnScope ["counted", "begin", "found", "place", "length"] ["counted", "begin"] (defScope s_attributes_in) := ⟨rfl, rfl, rfl, dk, rfl, dk, dk⟩
noncomputable abbrev Dq21 (P : Program) (w : World) (K : Frag) (mg : Str → Option Value) (base : Heap) (A : Adr) : Prop := DefC P w K mg base 5 "Attribute" A.Attribute ["self", "data"] (spAttrInit K A)
theorem ok_attributes_in (F : Fun K "attributes_in" "attributes_in" s_attributes_in f fd) (T : Txt K mg A) (d_must : Dq1 P w K mg base A) (d_number_at : Dq2 P w K mg base A)
  (d_part : Dq3 P w K mg base A) (d_Attribute : Dq21 P w K mg base A) :
  FnOk P w K mg base (CXR P w) 7 f fd ["counted", "begin"] (spAttrsIn K A) := by
 refine F.okR sc_attributes_in (fun vs H Q E h => ?_) (fun cdv A' outer s H vs Q E hr h => ?_)
 ·obtain ⟨a, b, i, rfl, _⟩ := h
  rfl
 ·obtain ⟨a, b, i, rfl, hb, hB, hlen, k⟩ := h
  refine ⟨_, (pss_cons (ps_set (i := 2) sc_attributes_in.nd rfl (Or.inl rfl) (pe_lst pa_nil))
 (pss_cons (ps_set (i := 3) sc_attributes_in.nd rfl (Or.inl rfl) (pv 1))
 (pss_cons (ps_while PassesOwn.leaving (pt_cmpR op_ne (pe_fn d_number_at hr (by decide) rfl passR (pa_cons (pv 0) (pa_cons (pv 3) (pa_cons pe_int pa_nil)))) (pe_gc T.c_END_OF_ATTRIBUTES rfl) (nomark _))
 (pss_cons (ps_set (i := 4) sc_attributes_in.nd rfl (Or.inl rfl) (pe_fn d_number_at hr (by decide) rfl passR (pa_cons (pv 0) (pa_cons (pe_op op_add (pv 3) pe_int) (pa_cons pe_int pa_nil)))))
 (pss_cons (ps_must d_must hr (by decide) rfl passR (pe_and (pe_cmpR op_eq (pe_op op_mod (pv 4) pe_int) pe_int (nomark _)) (pe_one (pe_cmpR op_ge (pv 4) pe_int (nomark _)))))
 (pss_cons (ps_expr (pe_bm PySem.F.plainAttrs_list PySem.F.slot_list_append PySem.F.type_list_append mt_append (pv 2) (pa_cons (pe_hide rfl (pe_new d_Attribute hr (by decide) rfl passR (pa_cons (pe_fn d_part hr (by decide) rfl passR (pa_cons (pv 0) (pa_cons (pv 3) (pa_cons (pv 4) pa_nil)))) pa_nil))) pa_nil)))
 (pss_one (ps_set (i := 3) sc_attributes_in.nd rfl (Or.inl rfl) (pe_op op_add (pv 3) (pv 4))))))))
 (pss_one (ps_ret (pv 2)))))), ?_⟩
  refine ⟨Nat.zero_le _, fun pf hpf => ?_⟩
  refine ⟨_, rfl, ?_⟩
  refine ⟨fun m σ H' => ∃ (pl : Nat) (v : Option V) (B : Hp) (as : List Addr) (fs : List Sn35.Attr), σ = [some (.ref a), some (.int i), some (.ref pf), some (.int pl), v] ∧ m = b.length - pl ∧ upd B pf (.lst (as.map V.ref)) = H' ∧ B pf = none ∧ Same H B ∧
   Objs (IsAttr K A) B as fs ∧ fs.length ≤ pl ∧ attrsX (b.drop i) = (attrsX (b.drop pl)).map (fs ++ ·), ⟨_, i, none, H, [], [], rfl, rfl, rfl, hpf, Same.refl _, .nil, Nat.zero_le _, by simp⟩, ?_⟩
  rintro m σ H' ⟨pl, v, B, as, fs, rfl, rfl, rfl, hB0, sB, ob, hfl, hR⟩
  have sH : Same B (upd B pf (.lst (as.map V.ref))) := Same.new hB0
  refine ⟨_, rfl, _, rfl, a, b, pl, 4, rfl, (sB.trans sH).seq hb, ?_⟩
  have hrec := attrsX_rec (b.drop pl)
  rw [List.length_drop] at hrec
  simp only [le_drop, Nat.add_zero] at hrec
  by_cases c0 : b.length < pl + 4
  ·rw [numO_none c0]
   rw [if_pos (by omega)] at hrec
   rw [hR, hrec] at k
   exact k
  rw [numO_some (by omega)]
  rw [if_neg (by omega)] at hrec
  refine ⟨rfl, _, rfl, iteNE (fun c1 => ?_) (fun c1 => ?_)⟩
  case refine_2 =>
   rw [if_pos (by omega)] at hrec
   rw [hR, hrec] at k
   have k : ∀ p H', Same H H' → LOf (IsAttr K A) H' p (fs ++ []) → Q (.ref p) H' := k
   rw [List.append_nil] at k
   exact ⟨_, rfl, _, Fg.refl _, k pf _ (sB.trans sH) ((ob.up fun _ _ z => z.up sH).lof upd_same)⟩
  rw [if_neg (by omega)] at hrec
  refine ⟨fun σ H' => ∃ m', m' < b.length - pl ∧ ∃ (pl : Nat) (v : Option V) (B : Hp) (as : List Addr) (fs : List Sn35.Attr), σ = [some (.ref a), some (.int i), some (.ref pf), some (.int pl), v] ∧ m' = b.length - pl ∧ upd B pf (.lst (as.map V.ref)) = H' ∧ B pf = none ∧ Same H B ∧
   Objs (IsAttr K A) B as fs ∧ fs.length ≤ pl ∧ attrsX (b.drop i) = (attrsX (b.drop pl)).map (fs ++ ·), fun _ _ z => z, ?_⟩
  refine ⟨_, rfl, _, rfl, _, _, rfl, rfl, a, b, pl + 4, 4, rfl, (sB.trans sH).seq hb, ?_⟩
  by_cases c2 : b.length < pl + 8
  ·rw [numO_none (by omega)]
   have hlt : ¬ (Sn35.le b (pl + 4) 4 % 8 = 0 ∧ 24 ≤ Sn35.le b (pl + 4) 4 ∧ Sn35.le b (pl + 4) 4 ≤ b.length - pl) := by omega
   rw [if_pos (by omega)] at hrec
   rw [hR, hrec] at k
   exact k
  rw [numO_some (by omega)]
  generalize hL : Sn35.le b (pl + 4) 4 = L at hrec
  refine ⟨_, rfl, _, _, rfl, rfl, by show (0 : Int) < 8; decide, rfl, _, rfl, iteE (fun c3 => ?_) (fun c3 => ?_)⟩
  case refine_2 =>
   rw [if_pos (by omega)] at hrec
   rw [hR, hrec] at k
   exact ⟨_, rfl, k _⟩
  refine ⟨_, rfl, _, _, rfl, rfl, _, rfl, iteP (fun c4 => ?_) (fun c4 => ?_)⟩
  case refine_2 =>
   rw [if_pos (by omega)] at hrec
   rw [hR, hrec] at k
   exact k _
  refine ⟨_, Fg.refl _, ?_⟩
  refine ⟨_, rfl, .inl ⟨rfl, _, SqL.of upd_same⟩, pf, _, upd_same, trivial, ?_⟩
  rw [del_upd hB0]
  refine ⟨_, rfl, _, rfl, _, rfl, a, b, pl, L, rfl, sB.seq hb, ?_⟩
  by_cases c5 : b.length < pl + L
  ·rw [part_none c5]
   rw [if_pos (by omega)] at hrec
   rw [hR, hrec] at k
   exact k
  rw [part_some (by omega)]
  rw [if_neg (by omega)] at hrec
  intro pd hpd
  intro x dx hx hdx hne
  have dl : ((b.drop pl).take L).length = L := by rw [List.length_take, List.length_drop]; omega
  refine ⟨x, _, pd, (b.drop pl).take L, rfl, ⟨dx, hx, hdx, hne, rfl⟩, SqL.of upd_same, (hB.drop _).take _, by omega, by omega, ?_⟩
  cases ha : attrOf ((b.drop pl).take L) with
  | none =>
   rw [ha] at hrec
   rw [hR, hrec] at k
   exact k
  | some at1 =>
  rw [ha, List.drop_drop] at hrec
  intro H2 s2 ia
  refine ⟨rfl, fun hq => ?_⟩
  have sB2 : Same B H2 := (Same.new hpd).trans s2
  refine ⟨pf, as.map V.ref, _, rfl, rfl, upd_same, ?_, ?_⟩
  ·rw [List.length_map, ob.1]
   exact Nat.lt_of_le_of_lt hfl (by show pl < 16777216; omega)
  rw [upd_upd]
  refine ⟨_, rfl, _, rfl, _, _, rfl, rfl, ?_⟩
  refine ⟨b.length - (pl + L), by omega, pl + L, some (V.int L), H2, as ++ [x], fs ++ [at1], ?_, rfl, by rw [List.map_append]; rfl, hq, sB.trans sB2, (ob.up fun _ _ z => z.up sB2).snoc ia, ?_, ?_⟩
  ·show [some (V.ref a), some (V.int i), some (V.ref pf), some (V.int ((pl : Int) + (L : Int))), some (V.int (L : Int))] = _
   rw [show ((pl : Int) + (L : Int)) = ((pl + L : Nat) : Int) by omega]
  ·rw [List.length_append]
   show fs.length + 1 ≤ pl + L
   omega
  ·rw [hR, hrec]
   cases attrsX (b.drop (pl + L)) with
   | none => rfl
   | some l => simp
end
end Sv
end
section
namespace L2
open PySem PySem.Spec PyProof.Rows
noncomputable def tCut (t : TS) : TS := fun D σ H => ∃ N : St → Hp → Prop, t { D with nx := N } σ H ∧ ∀ σ' H', N σ' H' → D.nx σ' H'
theorem ps_cut {X : Cx} {st : Stmt} {t : TS} (h : PS X st t) : PS X st (tCut t) := by
 intro pins s σ H D I hw
 obtain ⟨N, hw, hn⟩ := hw
 refine thn (h pins s σ H _ I hw) fun f s1 q => ?_
 cases f with
 | next => obtain ⟨σ', H', I', q⟩ := q; exact ⟨σ', H', I', hn σ' H' q⟩
 | brk => exact q
 | cont => exact q
 | ret u => exact q
noncomputable def tCutE (te : TE) : TE := fun σ H Q => ∃ N : VK, te σ H N ∧ ∀ v H', N v H' → Q v H'
theorem pe_cut {X : Cx} {e : Expr} {te : TE} (h : PE X e te) : PE X e (tCutE te) := by
 intro pins s σ H Q I hw
 obtain ⟨N, hw, hn⟩ := hw
 exact thn (h pins s σ H N I hw) fun u s1 ⟨v, H', I', r, q⟩ => ⟨v, H', I', r, hn v H' q⟩
end L2
end
section
namespace Sv
open PySem PySem.Spec L2
section
variable {P : Program} {w : World} {K : Frag} {mg : Str → Option Value} {base : Heap} {A : Adr} {f : Addr} {fd : FuncData}
noncomputable def spRunsIn (K : Frag) (A : Adr) : Sp := fun vs H Q E => ∃ (py a : Addr) (v : Sn35.Volume) (b : List Nat) (i : Nat), vs = [.ref py, .ref a, .int i] ∧ IsLayout K A H py v ∧ Bs K H a b ∧ Byt b ∧ b.length ≤ 2 ^ 20 ∧
 Orr A.NotSo E (runsX v.cluster v.image.length 0 (b.drop i)) fun l => ∀ p H', Same H H' → LOf (IsRun A) H' p l → Q (.ref p) H'
theorem sc_runs_in : FnScope ["layout", "data", "place", "runs", "before", "length_bytes", "distance_bytes", "clusters", "begin"] ["layout", "data", "place"] (defScope s_runs_in) := ⟨rfl, rfl, rfl, dk, rfl, dk, dk⟩
noncomputable abbrev Dq22 (P : Program) (w : World) (K : Frag) (mg : Str → Option Value) (base : Heap) (A : Adr) : Prop := DefC P w K mg base 1 "Run" A.Run ["self", "begin", "clusters"] (spRunInit A)
theorem ok_runs_in (F : Fun K "runs_in" "runs_in" s_runs_in f fd) (T : Txt K mg A) (d_must : Dq1 P w K mg base A) (d_number_at : Dq2 P w K mg base A)
  (d_signed_number_at : Dq8 P w K mg base A) (d_Run : Dq22 P w K mg base A) :
  FnOk P w K mg base (CXR P w) 5 f fd ["layout", "data", "place"] (spRunsIn K A) := by
 refine F.okR sc_runs_in (fun vs H Q E h => ?_) (fun cdv A' outer s H vs Q E hr h => ?_)
 ·obtain ⟨py, a, v, b, i, rfl, _⟩ := h
  rfl
 ·obtain ⟨py, a, v, b, i, rfl, ⟨pi, img, oL, hbi, hvi, vok⟩, hb, hB, hlen, k⟩ := h
  refine ⟨_, (pss_cons (ps_set (i := 3) sc_runs_in.nd rfl (Or.inl rfl) (pe_lst pa_nil))
 (pss_cons (ps_set (i := 4) sc_runs_in.nd rfl (Or.inl rfl) pe_int)
 (pss_cons (ps_while PassesOwn.leaving (pt_cmpR op_ne (pe_fn d_number_at hr (by decide) rfl passR (pa_cons (pv 1) (pa_cons (pv 2) (pa_cons pe_int pa_nil)))) pe_int (nomark _))
 (pss_cons (ps_set (i := 5) sc_runs_in.nd rfl (Or.inl rfl) (pe_op op_mod (pe_ix ix_list (pv 1) (pv 2) (fun _ _ => rfl)) pe_int))
 (pss_cons (ps_set (i := 6) sc_runs_in.nd rfl (Or.inl rfl) (pe_op op_fdiv (pe_ix ix_list (pv 1) (pv 2) (fun _ _ => rfl)) pe_int))
 (pss_cons (ps_must d_must hr (by decide) rfl passR (pe_and (pe_chain op_le op_le pe_int (pv 5) pe_int) (pe_one (pe_cmpR op_le (pv 6) pe_int (nomark _)))))
 (pss_cons (ps_set (i := 7) sc_runs_in.nd rfl (Or.inl rfl) (pe_fn d_number_at hr (by decide) rfl passR (pa_cons (pv 1) (pa_cons (pe_op op_add (pv 2) pe_int) (pa_cons (pv 5) pa_nil)))))
 (pss_cons (ps_must d_must hr (by decide) rfl passR (pe_chain op_le op_lt pe_int (pv 7) (pe_gc T.c_RUN_BOUND rfl)))
 (pss_cons (ps_set (i := 8) sc_runs_in.nd rfl (Or.inl rfl) pe_non)
 (pss_cons (ps_cut (ps_if (pt_cmpR op_gt (pv 6) pe_int (nomark _))
 (pss_cons (ps_set (i := 8) sc_runs_in.nd rfl (Or.inl rfl) (pe_op op_add (pv 4) (pe_fn d_signed_number_at hr (by decide) rfl passR (pa_cons (pv 1) (pa_cons (pe_op op_add (pe_op op_add (pv 2) pe_int) (pv 5)) (pa_cons (pv 6) pa_nil))))))
 (pss_cons (ps_must d_must hr (by decide) rfl passR (pe_chain op_le op_lt pe_int (pv 8) (pe_gc T.c_RUN_BOUND rfl)))
 (pss_cons (ps_must d_must hr (by decide) rfl passR (pe_cmpR op_le (pe_op op_mul (pe_op op_add (pv 8) (pv 7)) (pe_fld (pv 0) rfl)) (pe_fld (pv 0) rfl) (nomark _)))
 (pss_one (ps_set (i := 4) sc_runs_in.nd rfl (Or.inl rfl) (pv 8))))))
 pss_nil))
 (pss_cons (ps_expr (pe_bm PySem.F.plainAttrs_list PySem.F.slot_list_append PySem.F.type_list_append mt_append (pv 3) (pa_cons (pe_hide rfl (pe_new d_Run hr (by decide) rfl passR (pa_cons (pv 8) (pa_cons (pv 7) pa_nil)))) pa_nil)))
 (pss_one (ps_set (i := 2) sc_runs_in.nd rfl (Or.inl rfl) (pe_op op_add (pe_op op_add (pe_op op_add (pv 2) pe_int) (pv 5)) (pv 6)))))))))))))
 (pss_one (ps_ret (pv 3)))))), ?_⟩
  refine ⟨Nat.zero_le _, fun pf hpf => ?_⟩
  let W : Nat → List (Option V) → Hp → Prop := fun m σ H' => ∃ (pl : Nat) (prev : Int) (v5 v6 v7 v8 : Option V) (B : Hp) (as : List Addr) (fs : List (Option Nat × Nat)), σ = [some (.ref py), some (.ref a), some (.int pl), some (.ref pf), some (.int prev), v5, v6, v7, v8] ∧ m = b.length - pl ∧
   upd B pf (.lst (as.map V.ref)) = H' ∧ B pf = none ∧ Same H B ∧ Objs (IsRun A) B as fs ∧ fs.length ≤ pl ∧ runsX v.cluster v.image.length 0 (b.drop i) = (runsX v.cluster v.image.length prev (b.drop pl)).map (fs ++ ·)
  refine ⟨W, ⟨_, i, 0, none, none, none, none, H, [], [], rfl, rfl, rfl, hpf, Same.refl _, .nil, Nat.zero_le _, by simp⟩, ?_⟩
  rintro m σ H' ⟨pl, prev, v5, v6, v7, v8, B, as, fs, rfl, rfl, rfl, hB0, sB, ob, hfl, hR⟩
  have sH : Same B (upd B pf (.lst (as.map V.ref))) := Same.new hB0
  have hb1 := (sB.trans sH).seq hb
  have oL1 := oL.up (sB.trans sH)
  have hrec := runsX_rec v.cluster v.image.length prev (b.drop pl)
  rw [List.length_drop] at hrec
  simp only [le_drop, signedLe_drop, Nat.add_zero, List.drop_drop] at hrec
  refine ⟨_, rfl, _, rfl, a, b, pl, 1, rfl, hb1, ?_⟩
  by_cases c0 : b.length < pl + 1
  ·rw [numO_none c0]
   rw [if_pos (by omega)] at hrec
   rw [hR, hrec] at k
   exact k
  rw [numO_some (by omega)]
  rw [if_neg (by omega)] at hrec
  generalize hh : Sn35.le b pl 1 = h at hrec ⊢
  refine ⟨rfl, _, rfl, iteNE (fun c1 => ?_) (fun c1 => ?_)⟩
  case refine_2 =>
   rw [if_pos (by omega)] at hrec
   rw [hR, hrec] at k
   have k : ∀ p H', Same H H' → LOf (IsRun A) H' p (fs ++ []) → Q (.ref p) H' := k
   rw [List.append_nil] at k
   exact ⟨_, rfl, _, Fg.refl _, k pf _ (sB.trans sH) ((ob.up fun _ _ z => z.up sH).lof upd_same)⟩
  rw [if_neg (by omega)] at hrec
  refine ⟨fun σ H' => ∃ m', m' < b.length - pl ∧ W m' σ H', fun _ _ z => z, ?_⟩
  have hat : atI (vN b) (pl : Int) = some (V.int (h : Int)) := by rw [← hh]; exact at_byte (by omega)
  refine ⟨_, rfl, _, rfl, a, _, _, _, rfl, rfl, hb1, hat, _, _, rfl, rfl, by show (0 : Int) < 16; decide, ?_⟩
  refine ⟨_, rfl, _, rfl, a, _, _, _, rfl, rfl, hb1, hat, _, _, rfl, rfl, ⟨by decide, by decide⟩, ?_⟩
  have e1 : (h : Int) % 16 = ((h % 16 : Nat) : Int) := by omega
  have e2 : (h : Int) / 16 = ((h / 16 : Nat) : Int) := by omega
  dsimp only
  rw [e1, e2]
  generalize hlb : h % 16 = lb at hrec ⊢
  generalize hdb : h / 16 = db at hrec ⊢
  have none1 : (lb = 0 ∨ 8 < lb ∨ 8 < db ∨ b.length < pl + 1 + lb + db) → ∀ H', E (.ref A.NotSo) none H' := fun z => by
   rw [if_pos (by omega)] at hrec
   rw [hR, hrec] at k
   exact k
  refine ⟨_, rfl, _, _, rfl, rfl, _, rfl, iteP (fun c2 => ?_) (fun c2 => ?_)⟩
  case refine_2 => exact ⟨_, rfl, _, rfl, none1 (by omega) _⟩
  refine ⟨_, _, rfl, rfl, _, rfl, iteP (fun c3 => ?_) (fun c3 => ?_)⟩
  case refine_2 => exact ⟨_, rfl, none1 (by omega) _⟩
  refine ⟨_, rfl, _, _, rfl, rfl, _, rfl, iteP (fun c4 => ?_) (fun c4 => ?_)⟩
  case refine_2 => exact none1 (by omega) _
  refine ⟨_, Fg.refl _, ?_⟩
  refine ⟨_, rfl, _, rfl, _, _, rfl, rfl, _, rfl, a, b, pl + 1, lb, rfl, hb1, ?_⟩
  by_cases c5 : b.length < pl + 1 + lb
  ·rw [numO_none c5]
   exact none1 (by omega)
  rw [numO_some (by omega)]
  generalize hcl : Sn35.le b (pl + 1) lb = cls at hrec ⊢
  have none2 : (cls = 0 ∨ 2 ^ 32 ≤ cls) → ∀ H', E (.ref A.NotSo) none H' := fun z => by
   by_cases c6 : b.length - pl < 1 + lb + db
   ·exact none1 (by omega)
   ·rw [if_neg (by omega), if_pos z] at hrec
    rw [hR, hrec] at k
    exact k
  refine ⟨_, rfl, _, _, rfl, rfl, _, rfl, iteP (fun c6 => ?_) (fun c6 => ?_)⟩
  case refine_2 => exact ⟨_, rfl, none2 (by omega) _⟩
  obtain ⟨q7, hq7⟩ : ∃ q, q = decide ((cls : Int) < 4294967296) := ⟨_, rfl⟩
  refine ⟨_, _, rfl, rfl, q7, by rw [hq7], iteB (fun c7 => ?_) (fun c7 => ?_)⟩
  case refine_2 =>
   rw [hq7] at c7
   have c7 := of_decide_eq_false c7
   exact none2 (.inr (by omega)) _
  rw [hq7] at c7
  have c7 := of_decide_eq_true c7
  refine ⟨_, Fg.refl _, ?_⟩
  refine ⟨fun σ H' => ∃ (o : Option Nat) (prev' : Int), σ = [some (.ref py), some (.ref a), some (.int pl), some (.ref pf), some (.int prev'), some (.int lb), some (.int db), some (.int cls), some (vO o)] ∧ upd B pf (.lst (as.map V.ref)) = H' ∧ pl + 1 + lb + db ≤ b.length ∧
   runsX v.cluster v.image.length 0 (b.drop i) = (runsX v.cluster v.image.length prev' (b.drop (pl + 1 + lb + db))).map ((fs ++ [(o, cls)]) ++ ·), ?_, ?_⟩
  ·refine ⟨_, rfl, _, _, rfl, rfl, _, rfl, iteP (fun c8 => ?_) (fun c8 => ?_)⟩
   ·-- begin = before + signed_number_at(..)
    refine ⟨_, rfl, _, rfl, _, rfl, _, _, rfl, rfl, _, rfl, _, _, rfl, rfl, _, rfl, a, b, pl + 1 + lb, db, rfl, hb1, by omega, by omega, ?_⟩
    by_cases c9 : b.length < pl + 1 + lb + db
    ·rw [numO_none c9]
     exact none1 (by omega)
    rw [numO_some (by omega)]
    rw [if_neg (by omega), if_neg (by omega), if_neg (by omega)] at hrec
    refine ⟨_, _, rfl, rfl, ?_⟩
    have eb : pl + (1 + lb) = pl + 1 + lb := by omega
    rw [eb] at hrec
    generalize hbg : prev + Sn35.signedLe b (pl + 1 + lb) db = bg at hrec
    have none3 : (bg < 0 ∨ (2 : Int) ^ 32 ≤ bg ∨ inVol v.cluster v.image.length (some bg.toNat, cls) = false) → ∀ H', E (.ref A.NotSo) none H' := fun z => by
     rw [if_pos z] at hrec
     rw [hR, hrec] at k
     exact k
    dsimp only
    rw [hbg]
    refine ⟨_, rfl, _, _, rfl, rfl, _, rfl, iteP (fun c10 => ?_) (fun c10 => ?_)⟩
    case refine_2 => exact ⟨_, rfl, none3 (.inl (by omega)) _⟩
    obtain ⟨q11, hq11⟩ : ∃ q, q = decide (bg < 4294967296) := ⟨_, rfl⟩
    refine ⟨_, _, rfl, rfl, q11, by rw [hq11], iteB (fun c11 => ?_) (fun c11 => ?_)⟩
    case refine_2 =>
     rw [hq11] at c11
     have c11 := of_decide_eq_false c11
     exact none3 (.inr (.inl (by omega))) _
    rw [hq11] at c11
    have c11 := of_decide_eq_true c11
    refine ⟨_, Fg.refl _, ?_⟩
    have hc2 := vok.cl1
    refine ⟨_, rfl, _, rfl, _, _, rfl, rfl, _, rfl, _, _, (oL1).dx, (oL1).fs, _, rfl, (oL1).e, T.o_Layout.cl, T.o_Layout.na _ dk, (oL1).get (lkS dk (lkS dk (lkS dk (lkS dk lk0)))), _, _, rfl, rfl, .inr ⟨by omega, by omega⟩, ?_⟩
    refine ⟨_, rfl, _, _, (oL1).dx, (oL1).fs, _, rfl, (oL1).e, T.o_Layout.cl, T.o_Layout.na _ dk, (oL1).get (lkS dk (lkS dk (lkS dk lk0))), _, _, rfl, rfl, _, rfl, iteP (fun c12 => ?_) (fun c12 => ?_)⟩
    case refine_2 =>
     refine none3 (.inr (.inr ?_)) _
     have e : ((bg.toNat + cls) * v.cluster : Nat) = ((bg + (cls : Int)) * (v.cluster : Int)) := by
      rw [Int.natCast_mul, Int.natCast_add, Int.toNat_of_nonneg c10]
     show decide ((bg.toNat + cls) * v.cluster ≤ v.image.length) = false
     exact decide_eq_false (by omega)
    refine ⟨_, Fg.refl _, ?_⟩
    refine ⟨_, rfl, some bg.toNat, bg, ?_, rfl, by omega, ?_⟩
    ·show _ = [some (V.ref py), some (V.ref a), some (V.int pl), some (V.ref pf), some (V.int bg), some (V.int lb), some (V.int db), some (V.int cls), some (V.int (bg.toNat : Int))]
     rw [Int.toNat_of_nonneg c10]; rfl
    ·rw [if_neg (by
      rintro (z | z | z)
      ·omega
      ·omega
      ·have e : ((bg.toNat + cls) * v.cluster : Nat) = ((bg + (cls : Int)) * (v.cluster : Int)) := by
        rw [Int.natCast_mul, Int.natCast_add, Int.toNat_of_nonneg c10]
       have z : decide ((bg.toNat + cls) * v.cluster ≤ v.image.length) = false := z
       exact absurd (of_decide_eq_false z) (by omega))] at hrec
     rw [hR, hrec, show pl + (1 + lb + db) = pl + 1 + lb + db by omega]
     cases runsX v.cluster v.image.length bg (b.drop (pl + 1 + lb + db)) with
     | none => rfl
     | some l => simp
   ·-- no distance
    have ed : db = 0 := by omega
    subst ed
    rw [if_neg (by omega), if_neg (by omega), if_pos rfl] at hrec
    refine ⟨none, prev, rfl, rfl, by omega, ?_⟩
    rw [hR, hrec, show pl + (1 + lb) = pl + 1 + lb + 0 by omega]
    cases runsX v.cluster v.image.length prev (b.drop (pl + 1 + lb + 0)) with
    | none => rfl
    | some l => simp
  ·rintro σ H' ⟨o, prev', rfl, rfl, hpl, hR2⟩
   refine ⟨_, rfl, .inl ⟨rfl, _, SqL.of upd_same⟩, pf, _, upd_same, trivial, ?_⟩
   rw [del_upd hB0]
   refine ⟨_, rfl, _, rfl, ?_⟩
   intro x dx hx hdx hne
   refine ⟨x, B, o, cls, rfl, ⟨dx, hx, hdx, hne, rfl⟩, fun H2 s2 ir => ⟨rfl, fun hq => ?_⟩⟩
   refine ⟨pf, as.map V.ref, _, rfl, rfl, upd_same, ?_, ?_⟩
   ·rw [List.length_map, ob.1]
    exact Nat.lt_of_le_of_lt hfl (by show pl < 16777216; omega)
   rw [upd_upd]
   refine ⟨_, rfl, _, _, rfl, rfl, _, rfl, _, _, rfl, rfl, _, rfl, _, _, rfl, rfl, ?_⟩
   refine ⟨b.length - (pl + 1 + lb + db), by omega, pl + 1 + lb + db, prev', some (V.int lb), some (V.int db), some (V.int cls), some (vO o), H2, as ++ [x], fs ++ [(o, cls)], ?_, rfl, by rw [List.map_append]; rfl, hq, sB.trans s2, (ob.up fun _ _ z => z.up s2).snoc ir, ?_, hR2⟩
   ·show [some (V.ref py), some (V.ref a), some (V.int ((pl : Int) + 1 + (lb : Int) + (db : Int))), some (V.ref pf), some (V.int prev'), some (V.int lb), some (V.int db), some (V.int cls), some (vO o)] = _
    rw [show ((pl : Int) + 1 + (lb : Int) + (db : Int)) = ((pl + 1 + lb + db : Nat) : Int) by omega]
   ·rw [List.length_append]
    show fs.length + 1 ≤ pl + 1 + lb + db
    omega
end
end Sv
end
section
namespace Sv
open Sn35
theorem runs_len : ∀ (n : Nat) (prev : Int) (b : Bytes) (l : List (Option Nat × Nat)), runs n prev b = some l → l.length ≤ b.length
 | 0, _, _, _, h => by cases h
 | n + 1, prev, [], l, h => by cases h
 | n + 1, prev, 0 :: r, l, h => by cases h; exact Nat.zero_le _
 | n + 1, prev, (k + 1) :: r, l, h => by
  unfold runs at h
  simp only at h
  split at h
  ·cases h
  split at h
  ·cases h
  split at h
  ·obtain ⟨l', e, rfl⟩ := Option.map_eq_some_iff.mp h
   have := runs_len n _ _ _ e
   rw [List.length_drop] at this
   rw [List.length_cons, List.length_cons]; omega
  ·split at h
   ·cases h
   obtain ⟨l', e, rfl⟩ := Option.map_eq_some_iff.mp h
   have := runs_len n _ _ _ e
   rw [List.length_drop] at this
   rw [List.length_cons, List.length_cons]; omega
theorem runsX_len {cl en : Nat} {prev : Int} {b : Bytes} {l : List (Option Nat × Nat)} (h : runsX cl en prev b = some l) : l.length ≤ b.length := by
 unfold runsX at h
 rw [runsY_eq] at h
 obtain ⟨l', e, h2⟩ := Option.bind_eq_some_iff.mp h
 unfold allIn at h2
 split at h2
 ·cases h2; exact runs_len _ _ _ _ e
 ·cases h2
end Sv
end
section
namespace Sv
open PySem PySem.Spec L2
theorem pe_fldK {X : Cx} {K : Frag} {e : Expr} {f : Str} {pos : Pos} {ta : TE} (hK : X.K = K) (he : PE X e ta) (hb : attributeBase e f X.env (eval e X.env) = eval e X.env) : PE X (.Attribute e f pos) (tFld K ta f) := by
 subst hK
 exact pe_fld he hb
theorem OAt.uniq {H : Hp} {C C' p : Addr} {fv fv' : List (Str × V)} (h : OAt H C p fv) (h' : OAt H C' p fv') (g : Str) : fv.lookup g = fv'.lookup g := by
 obtain ⟨dx, fs, e, l⟩ := h
 obtain ⟨dx', fs', e', l'⟩ := h'
 rw [e] at e'; cases e'
 exact (l g).symm.trans (l' g)
theorem OAt.put {H H' : Hp} {C C' p x : Addr} {fv fv' : List (Str × V)} (h : OAt H C p fv) (h' : OAt H C' x fv') (g : Str) {v : V} (h1 : fv.lookup g = none) (h2 : fv'.lookup g = some v) (e : ∀ b, b ≠ x → H' b = H b) : OAt H' C p fv := by
 have ne : p ≠ x := fun z => by
  subst z
  have := h.uniq h' g
  rw [h1, h2] at this; cases this
 obtain ⟨dx, fs, q, l⟩ := h
 exact ⟨dx, fs, (e p ne).trans q, l⟩
theorem sum_ints : ∀ l : List (Option Nat × Nat), (l.map fun x => (x.2 : Int)).sum = (sum2 l : Int)
 | [] => rfl
 | x :: l => by rw [List.map_cons, List.sum_cons, sum_ints l, sum2_cons]; omega
section
variable {P : Program} {w : World} {K : Frag} {mg : Str → Option Value} {base : Heap} {A : Adr} {f : Addr} {fd : FuncData}
noncomputable def spClInit (K : Frag) (A : Adr) : Sp := fun vs H Q E => ∃ (x : Addr) (H1 : Hp) (py pa : Addr) (v : Sn35.Volume) (a : Sn35.Attr), vs = [.ref x, .ref py, .ref pa] ∧ Ini A.HeldInClusters x H H1 ∧ IsLayout K A H1 py v ∧ IsAttr K A H1 pa a ∧ Sn35.le a.bytes 8 1 = 1 ∧ a.bytes.length ≤ 2 ^ 20 ∧
 Orr A.NotSo E (Sn35.content v a) fun c => ∀ H', Same H1 H' → IsCl K A v H' x c → Q .non H'
theorem sc_HeldInClusters_init : FnScope ["self", "layout", "attribute", "data", "clusters", "run"] ["self", "layout", "attribute"] (defScope s_HeldInClusters_init) := ⟨rfl, rfl, rfl, dk, rfl, dk, dk⟩
noncomputable abbrev Dq24 (P : Program) (w : World) (K : Frag) (mg : Str → Option Value) (base : Heap) (A : Adr) : Prop := Def P w K mg base 5 "runs_in" ["layout", "data", "place"] (spRunsIn K A)
noncomputable abbrev Dq23 (P : Program) (w : World) (K : Frag) (mg : Str → Option Value) (base : Heap) (A : Adr) : Prop := Def P w K mg base 5 "clusters_told" ["data"] (spClTold K A.NotSo)
theorem ok_Cl_init (F : Fun K "__init__" "HeldInClusters.__init__" s_HeldInClusters_init f fd) (T : Txt K mg A) (d_must : Dq1 P w K mg base A) (d_number_at : Dq2 P w K mg base A)
  (d_clusters_told : Dq23 P w K mg base A) (d_runs_in : Dq24 P w K mg base A) :
  FnOk P w K mg base (CXR P w) 6 f fd ["self", "layout", "attribute"] (spClInit K A) := by
 refine F.okR sc_HeldInClusters_init (fun vs H Q E h => ?_) (fun cdv A' outer s H vs Q E hr h => ?_)
 ·obtain ⟨x, H1, py, pa, v, a, rfl, _⟩ := h
  rfl
 ·obtain ⟨x, H1, py, pa, v, a, rfl, ini, iL, ⟨pd, pn, oa, hb, bn, aok, al⟩, h8, hlen, k⟩ := h
  have ec := held_content (v := v) aok rfl rfl h8 al
  rw [ec] at k
  obtain ⟨pi, img, oL, hbi, hvi, vok⟩ := id iL
  have s0 := ini.same
  have nB := ini.new
  generalize hd : a.bytes = d at *
  have hB : Byt d := by rw [← hd]; exact aok.byt
  refine ⟨_, (pss_cons (ps_set (i := 3) sc_HeldInClusters_init.nd rfl (Or.inl rfl) (pe_fld (pv 2) rfl))
 (pss_cons (ps_must d_must hr (by decide) rfl passR (pe_cmpR op_ge (pe_callB call_len_seq rfl T.n_len boot_len (pa_cons (pv 3) pa_nil)) pe_int (nomark _)))
 (pss_cons (ps_must d_must hr (by decide) rfl passR (pe_cmpR op_eq (pe_fn d_number_at hr (by decide) rfl passR (pa_cons (pv 3) (pa_cons pe_int (pa_cons pe_int pa_nil)))) pe_int (nomark _)))
 (pss_cons (ps_set (i := 4) sc_HeldInClusters_init.nd rfl (Or.inl rfl) (pe_fn d_clusters_told hr (by decide) rfl passR (pa_cons (pv 3) pa_nil)))
 (pss_cons (ps_fld (pv 0) (pv 1) rfl)
 (pss_cons (ps_fld (pv 0) (pe_fn d_number_at hr (by decide) rfl passR (pa_cons (pv 3) (pa_cons pe_int (pa_cons pe_int pa_nil)))) rfl)
 (pss_cons (ps_fld (pv 0) (pe_fn d_number_at hr (by decide) rfl passR (pa_cons (pv 3) (pa_cons pe_int (pa_cons pe_int pa_nil)))) rfl)
 (pss_cons (ps_must d_must hr (by decide) rfl passR (pe_cmpR op_le (pe_fld (pv 0) rfl) (pe_op op_mul (pv 4) (pe_fld (pv 1) rfl)) (nomark _)))
 (pss_cons (ps_must d_must hr (by decide) rfl passR (pe_cmpR op_le (pe_fld (pv 0) rfl) (pe_fld (pv 0) rfl) (nomark _)))
 (pss_cons (ps_fld (pv 0) (pe_fn d_runs_in hr (by decide) rfl passR (pa_cons (pv 1) (pa_cons (pv 3) (pa_cons (pe_fn d_number_at hr (by decide) rfl passR (pa_cons (pv 3) (pa_cons pe_int (pa_cons pe_int pa_nil)))) pa_nil)))) rfl)
 (pss_one (ps_must d_must hr (by decide) rfl passR (pe_cmpR op_eq (pe_callB (cr_sum rfl) rfl T.n_sum boot_sum (pa_cons (pe_lc (own := [("run", 5)]) rfl sc_HeldInClusters_init.nd (pi_list (pe_fld (pv 0) rfl)) (blkOk_by (by (show blkC ["self", "layout", "attribute", "data", "clusters", "run"] (defScope s_HeldInClusters_init) _ _ = true); decide +kernel)) (fun _ _ _ _ _ => pg_name (i := 5) sc_HeldInClusters_init.nd rfl (Or.inl rfl)) (fun _ _ _ _ _ => pts_nil) (fun _ _ _ _ _ => by exact (pe_fldK (K := K) rfl (pv 5) rfl))) pa_nil)) (pv 4) (nomark _)))))))))))))), ?_⟩
  refine ⟨_, rfl, _, _, ((oa.up s0)).dx, ((oa.up s0)).fs, _, rfl, ((oa.up s0)).e, T.o_Attribute.cl, T.o_Attribute.na _ dk, ((oa.up s0)).get (lkS dk (lkS dk (lkS dk lk0))), ?_⟩
  refine ⟨_, rfl, pd, _, rfl, .inl (s0.seq hb), _, _, rfl, rfl, _, rfl, ?_⟩
  rw [vN_len]
  refine iteP (fun c1 => ?_) (fun c1 => ?_)
  case refine_2 =>
   have : heldIn v.cluster v.image.length d = none := if_pos (.inl (by omega))
   rw [this] at k
   exact k _
  refine ⟨H, Fg.refl H, ?_⟩
  refine ⟨_, rfl, pd, d, 16, 8, rfl, s0.seq hb, ?_⟩
  rw [numO_some (by omega)]
  refine ⟨rfl, _, rfl, iteE (fun c2 => ?_) (fun c2 => ?_)⟩
  case refine_2 =>
   have : heldIn v.cluster v.image.length d = none := if_pos (.inr (.inl (by omega)))
   rw [this] at k
   exact k _
  refine ⟨H, Fg.refl H, ?_⟩
  refine ⟨_, rfl, pd, d, rfl, s0.seq hb, by omega, ?_⟩
  generalize hct : Sn35.signedLe d 24 8 + 1 = ct
  refine ⟨_, rfl, _, rfl, fldS T.o_HeldInClusters ini.at dk (by decide) fun H2 o1 e1 => ?_⟩
  have s1 := s0.put nB e1
  refine ⟨_, rfl, pd, d, 48, 8, rfl, s1.seq hb, ?_⟩
  rw [numO_some (by omega)]
  refine ⟨_, rfl, fldS T.o_HeldInClusters o1 dk (by decide) fun H3 o2 e2 => ?_⟩
  have s2 := s1.put nB e2
  refine ⟨_, rfl, pd, d, 56, 8, rfl, s2.seq hb, ?_⟩
  rw [numO_some (by omega)]
  refine ⟨_, rfl, fldS T.o_HeldInClusters o2 dk (by decide) fun H4 o3 e3 => ?_⟩
  have s3 := s2.put nB e3
  have hc1 := vok.cl1
  refine ⟨_, rfl, _, _, (o3.at).dx, (o3.at).fs, _, rfl, (o3.at).e, T.o_HeldInClusters.cl, T.o_HeldInClusters.na _ dk, (o3.at).get (lkS dk lk0), ?_⟩
  refine ⟨_, rfl, _, rfl, _, _, ((oL.up s3)).dx, ((oL.up s3)).fs, _, rfl, ((oL.up s3)).e, T.o_Layout.cl, T.o_Layout.na _ dk, ((oL.up s3)).get (lkS dk (lkS dk (lkS dk (lkS dk lk0)))), _, _, rfl, rfl, .inr ⟨by omega, by omega⟩, _, _, rfl, rfl, _, rfl, iteP (fun c3 => ?_) (fun c3 => ?_)⟩
  case refine_2 =>
   have : heldIn v.cluster v.image.length d = none := if_pos (.inr (.inr (.inl (by rw [hct]; omega))))
   rw [this] at k
   exact k _
  refine ⟨_, Fg.refl _, ?_⟩
  refine ⟨_, rfl, _, _, (o3.at).dx, (o3.at).fs, _, rfl, (o3.at).e, T.o_HeldInClusters.cl, T.o_HeldInClusters.na _ dk, (o3.at).get lk0, ?_⟩
  refine ⟨_, rfl, _, _, (o3.at).dx, (o3.at).fs, _, rfl, (o3.at).e, T.o_HeldInClusters.cl, T.o_HeldInClusters.na _ dk, (o3.at).get (lkS dk lk0), _, _, rfl, rfl, _, rfl, iteP (fun c4 => ?_) (fun c4 => ?_)⟩
  case refine_2 =>
   have : heldIn v.cluster v.image.length d = none := if_pos (.inr (.inr (.inr (by omega))))
   rw [this] at k
   exact k _
  refine ⟨_, Fg.refl _, ?_⟩
  have eh : heldIn v.cluster v.image.length d = (runsX v.cluster v.image.length 0 (d.drop (Sn35.le d 32 2))).bind fun l => if (sum2 l : Int) = Sn35.signedLe d 24 8 + 1 then some ⟨Sn35.le d 48 8, none, l, Sn35.le d 56 8⟩ else none := if_neg (by
   rintro (z | z | z | z)
   ·omega
   ·exact z (by omega)
   ·rw [hct] at z; omega
   ·omega)
  rw [hct] at eh
  refine ⟨_, rfl, _, rfl, _, rfl, pd, d, 32, 2, rfl, s3.seq hb, ?_⟩
  rw [numO_some (by omega)]
  refine ⟨py, pd, v, d, Sn35.le d 32 2, rfl, iL.up s3, s3.seq hb, hB, hlen, ?_⟩
  rw [eh] at k
  cases hr : runsX v.cluster v.image.length 0 (d.drop (Sn35.le d 32 2)) with
  | none =>
   rw [hr] at k
   exact k
  | some rs =>
  rw [hr] at k
  have k : Orr A.NotSo E (if (sum2 rs : Int) = ct then some (⟨Sn35.le d 48 8, none, rs, Sn35.le d 56 8⟩ : Sn35.Content) else none) fun c => ∀ H', Same H1 H' → IsCl K A v H' x c → Q .non H' := k
  intro pr H5 s5 lr
  have o4 := o3.up s5
  have s6 : Same H1 H5 := s3.trans s5
  refine ⟨_, rfl, fldS T.o_HeldInClusters o4 dk (by decide) fun H6 o5 e5 => ?_⟩
  have s7 := s6.put nB e5
  have lr6 : LOf (IsRun A) H6 pr rs := by
   obtain ⟨as, el, n, fr⟩ := lr
   have npr : pr ≠ x := (o4.at.ne_lst el).symm
   refine ⟨as, (e5 pr npr).trans el, n, fun i b y h1 h2 => ?_⟩
   exact (fr i b y h1 h2).put o4.at "layout" (lkS dk (lkS dk rfl)) (lkS dk (lkS dk lk0)) e5
  obtain ⟨as, el, n, fr⟩ := id lr6
  refine ⟨_, rfl, _, _, (o5.at).dx, (o5.at).fs, _, rfl, (o5.at).e, T.o_HeldInClusters.cl, T.o_HeldInClusters.na _ dk, (o5.at).get lk0, ?_⟩
  refine ⟨pr, rfl, ⟨_, SqL.of el⟩, fun D hD => ?_⟩
  refine lc_list (K := K) (a := pr) (xs := as.map V.ref) (fun i H' => upd H6 D (.lst (((rs.map fun z => (z.2 : Int)).take i).map V.int)) = H') rfl (fun i H' _ z => by rw [← z]; exact (Same.new hD).seq (SqL.of el)) ?_ ?_
  ·rintro i y H' hi rfl
   rw [List.getElem?_map] at hi
   cases ha : as[i]? with
   | none => rw [ha] at hi; cases hi
   | some b =>
   rw [ha] at hi
   cases hi
   have hil : i < rs.length := by rw [← n]; exact (List.getElem?_eq_some_iff.mp ha).1
   obtain ⟨rv, hrv⟩ : ∃ rv, rs[i]? = some rv := ⟨_, List.getElem?_eq_getElem hil⟩
   have ir : IsRun A (upd H6 D (.lst (((rs.map fun z => (z.2 : Int)).take i).map V.int))) b rv := (fr i b rv ha hrv).up (Same.new hD)
   refine ⟨rfl, tYes_of ?_⟩
   refine ⟨_, rfl, _, _, (ir).dx, (ir).fs, _, rfl, (ir).e, T.o_Run.cl, T.o_Run.na _ dk, (ir).get lk0, ?_⟩
   refine ⟨_, upd_same, ?_, ?_⟩
   ·rw [List.length_map, List.length_take]
    have : rs.length ≤ 16777215 := by
     have := runsX_len hr
     rw [List.length_drop] at this
     omega
    show _ < 16777216
    omega
   ·rw [upd_upd, List.take_add_one, List.getElem?_map, hrv, List.map_append]
    rfl
  ·rintro H' rfl
   rw [List.length_map, n]
   have et : (rs.map fun z => (z.2 : Int)).take rs.length = rs.map fun z => (z.2 : Int) := List.take_of_length_le (by simp)
   rw [et]
   refine ⟨D, _, rfl, SqL.of upd_same, _, rfl, rfl, _, rfl, ?_⟩
   rw [sum_ints]
   refine iteE (fun c5 => ?_) (fun c5 => ?_)
   case refine_2 =>
    rw [if_neg c5] at k
    exact k _
   rw [if_pos c5] at k
   refine ⟨H6, Fg.lst hD, ?_⟩
   have cok := contOk_in (v := v) (b := d) (c := ⟨Sn35.le d 48 8, none, rs, Sn35.le d 56 8⟩) (by rw [eh, hr]; exact if_pos c5)
   exact ⟨H6, Fg.refl _, k H6 s7 ⟨py, pr, o5.at, iL.up s7, lr6, rfl, cok.1⟩⟩
end
end Sv
end
section
namespace Sv
open PySem PySem.Spec L2
theorem Fg.under {H : Hp} {p q : Addr} {o : HO} {xs : List V} (h : H q = none) (n : p ≠ q) : Fg (upd H p o) (upd (upd H q (.lst xs)) p o) := by
 refine ⟨fun b u e => ?_, fun b u e z => ?_⟩
 ·by_cases y : b = p
  ·subst y; rw [upd_same] at e ⊢; exact e
  ·rw [upd_ne y] at e ⊢
   rw [upd_ne (ne_of_none e h)]; exact e
 ·by_cases y : b = p
  ·subst y; rw [upd_same] at z; cases z
  ·rw [upd_ne y] at e z
   by_cases y2 : b = q
   ·subst y2; rw [upd_same] at e; cases e; trivial
   ·rw [upd_ne y2, z] at e; cases e
theorem Fg.reput {H H' : Hp} {q : Addr} {o o' : HO} (f : Fg (upd H q o) H') : Fg (upd H q o') (upd H' q o') := by
 refine ⟨fun b u e => ?_, fun b u e z => ?_⟩
 ·by_cases y : b = q
  ·subst y; rw [upd_same] at e ⊢; exact e
  ·rw [upd_ne y] at e ⊢
   exact f.sub b u (by rw [upd_ne y]; exact e)
 ·by_cases y : b = q
  ·subst y; rw [upd_same] at z; cases z
  ·rw [upd_ne y] at e z
   have g := f.fgt b u e (by rw [upd_ne y]; exact z)
   cases u with
   | own x =>
    have g : (upd H q o) x = none := g
    show (upd H q o') x = none
    by_cases y2 : x = q
    ·subst y2; rw [upd_same] at g; cases g
    ·rw [upd_ne y2] at g ⊢; exact g
   | tup _ => exact g
   | frz _ _ => exact g
   | tbl _ => exact g
   | _ => trivial
theorem vN_app (a b : List Nat) : vN a ++ vN b = vN (a ++ b) := by simp [vN]
theorem rep_zero (n : Nat) : (List.replicate n [V.int 0]).flatten = vN (List.replicate n 0) := by
 induction n with
 | zero => rfl
 | succ n ih => rw [List.replicate_succ, List.flatten_cons, ih, List.replicate_succ]; rfl
section
variable {P : Program} {w : World} {K : Frag} {mg : Str → Option Value} {base : Heap} {A : Adr} {f : Addr} {fd : FuncData}
noncomputable def runBytes (v : Sn35.Volume) (o : Option Nat) (i n : Nat) : List Nat := match o with
 | none => List.replicate n 0
 | some s => (v.image.drop (s * v.cluster + i)).take n
noncomputable def spRunPart (K : Frag) (A : Adr) : Sp := fun vs H Q E => ∃ (py pr : Addr) (v : Sn35.Volume) (x : Option Nat × Nat) (i n : Nat), vs = [.ref py, .ref pr, .int i, .int n] ∧ IsLayout K A H py v ∧ IsRun A H pr x ∧ n ≤ 2 ^ 23 ∧
 (∀ s, x.1 = some s → s * v.cluster + i + n ≤ v.image.length) ∧ ∀ p, H p = none → Q (.ref p) (upd H p (.lst (vN (runBytes v x.1 i n))))
theorem sc_run_part : FnScope ["layout", "run", "place", "many"] ["layout", "run", "place", "many"] (defScope s_run_part) := ⟨rfl, rfl, rfl, dk, rfl, dk, dk⟩
noncomputable abbrev Dq10 (P : Program) (w : World) (K : Frag) (mg : Str → Option Value) (base : Heap) (A : Adr) : Prop := DefM P w K mg base 3 A.Layout "volume_part" ["self", "place", "many"] (spVolPart K A)
theorem ok_run_part (F : Fun K "run_part" "run_part" s_run_part f fd) (T : Txt K mg A) (d_volume_part : Dq10 P w K mg base A) :
  FnOk P w K mg base (CXR P w) 4 f fd ["layout", "run", "place", "many"] (spRunPart K A) := by
 refine F.okR sc_run_part (fun vs H Q E h => ?_) (fun cdv A' outer s H vs Q E hr h => ?_)
 ·obtain ⟨py, pr, v, x, i, n, rfl, _⟩ := h
  rfl
 ·obtain ⟨py, pr, v, ⟨o, m⟩, i, n, rfl, iL, ir, hn, hv, k⟩ := h
  obtain ⟨pi, img, oL, hbi, hvi, vok⟩ := id iL
  have ir : OAt H A.Run pr [("clusters", .int (m : Nat)), ("begin", vO o)] := ir
  refine ⟨_, (pss_cons (ps_if (pt_cmpR op_isN (pe_fld (pv 1) rfl) pe_non (nomark _))
 (pss_one (ps_ret (pe_op op_rep (pe_lst (pa_cons pe_int pa_nil)) (pv 3))))
 pss_nil)
 (pss_one (ps_ret (pe_mth (pv 0) d_volume_part hr (by decide) passR (pa_cons (pe_op op_add (pe_op op_mul (pe_fld (pv 1) rfl) (pe_fld (pv 0) rfl)) (pv 2)) (pa_cons (pv 3) pa_nil)))))), ?_⟩
  refine ⟨_, rfl, _, _, (ir).dx, (ir).fs, _, rfl, (ir).e, T.o_Run.cl, T.o_Run.na _ dk, (ir).get (lkS dk lk0), rfl, _, rfl, iteP (fun c => ?_) (fun c => ?_)⟩
  ·cases o with
   | some s => exact absurd c (by intro z; cases z)
   | none =>
   refine ⟨by show 1 ≤ sizeLine; decide, fun p0 hp0 => ?_⟩
   refine ⟨_, rfl, p0, n, _, rfl, rfl, upd_same, by omega, by omega, ?_, fun p hp => ?_⟩
   ·show 1 * (n : Int).toNat ≤ 16777216
    omega
   ·rw [Int.toNat_natCast, rep_zero]
    have np : p ≠ p0 := fun z => by rw [z, upd_same] at hp; cases hp
    exact ⟨_, Fg.under hp0 np, k p (by rw [upd_ne np] at hp; exact hp)⟩
  ·cases o with
   | none => exact absurd rfl c
   | some sg =>
   have hv := hv sg rfl
   have hc := vok.cl1
   refine ⟨_, rfl, py, _, _, rfl, oL.e, oL.get (lkS dk (lkS dk (lkS dk (lkS dk (lkS dk (lkS dk rfl)))))), ?_⟩
   refine ⟨_, rfl, _, _, (ir).dx, (ir).fs, _, rfl, (ir).e, T.o_Run.cl, T.o_Run.na _ dk, (ir).get (lkS dk lk0), _, rfl, _, _, (oL).dx, (oL).fs, _, rfl, (oL).e, T.o_Layout.cl, T.o_Layout.na _ dk, (oL).get (lkS dk (lkS dk (lkS dk (lkS dk lk0)))), _, _, rfl, rfl, .inr ⟨by omega, by omega⟩, _, rfl, _, _, rfl, rfl, _, rfl, ?_⟩
   refine ⟨py, v, sg * v.cluster + i, n, by simp, iL, ?_⟩
   rw [part_some hv]
   exact fun p hp => ⟨_, Fg.refl _, k p hp⟩
end
end Sv
end
section
namespace Sv
open PySem PySem.Spec L2
section
variable {P : Program} {w : World} {K : Frag} {mg : Str → Option Value} {base : Heap} {A : Adr} {f : Addr} {fd : FuncData}
theorem max_nat (a b : Nat) : (if ((b : Int) > (a : Int)) then (b : Int) else (a : Int)) = ((max a b : Nat) : Int) := by
 by_cases h : (b : Int) > (a : Int)
 ·rw [if_pos h]; omega
 ·rw [if_neg h]; omega
theorem min_nat (a b : Nat) : (if ((b : Int) < (a : Int)) then (b : Int) else (a : Int)) = ((min a b : Nat) : Int) := by
 by_cases h : (b : Int) < (a : Int)
 ·rw [if_pos h]; omega
 ·rw [if_neg h]; omega
noncomputable def spStored (K : Frag) (A : Adr) : Sp := fun vs H Q E => ∃ (x : Addr) (v : Sn35.Volume) (c : Sn35.Content) (i en : Nat), vs = [.ref x, .int i, .int en] ∧ IsCl K A v H x c ∧ en ≤ v.cluster * sum2 c.runs ∧ en - i ≤ 2 ^ 22 ∧
 ∀ p, H p = none → Q (.ref p) (upd H p (.lst (vN (gs (inCl v c.runs) i en))))
theorem sc_HeldInClusters_stored_part : FnScope ["self", "place", "end", "found", "run_place", "run", "run_end", "low", "high"] ["self", "place", "end"] (defScope s_HeldInClusters_stored_part) := ⟨rfl, rfl, rfl, dk, rfl, dk, dk⟩
noncomputable abbrev Dq25 (P : Program) (w : World) (K : Frag) (mg : Str → Option Value) (base : Heap) (A : Adr) : Prop := Def P w K mg base 4 "run_part" ["layout", "run", "place", "many"] (spRunPart K A)
theorem ok_stored_part (F : Fun K "stored_part" "HeldInClusters.stored_part" s_HeldInClusters_stored_part f fd) (T : Txt K mg A) (d_run_part : Dq25 P w K mg base A) :
  FnOk P w K mg base (CXR P w) 5 f fd ["self", "place", "end"] (spStored K A) := by
 refine F.okR sc_HeldInClusters_stored_part (fun vs H Q E h => ?_) (fun cdv A' outer s H vs Q E hr h => ?_)
 ·obtain ⟨x, v, c, i, en, rfl, _⟩ := h
  rfl
 ·obtain ⟨x, v, c, i, en, rfl, ⟨py, pr, oc, iL, ⟨as, el, nl, fr⟩, hin, cok⟩, hen, hmany, k⟩ := h
  obtain ⟨pi, img, oL, hbi, hvi, vok⟩ := id iL
  have hc1 := vok.cl1
  have hc0 := vok.cl0
  generalize hg : inCl v c.runs = g at k
  refine ⟨_, (pss_cons (ps_set (i := 3) sc_HeldInClusters_stored_part.nd rfl (Or.inl rfl) (pe_lst pa_nil))
 (pss_cons (ps_set (i := 4) sc_HeldInClusters_stored_part.nd rfl (Or.inl rfl) pe_int)
 (pss_cons (ps_for PassesOwn.leaving rfl (pi_list (pe_fld (pv 0) rfl)) (pg_name (i := 5) sc_HeldInClusters_stored_part.nd rfl (Or.inl rfl))
 (pss_cons (ps_set (i := 6) sc_HeldInClusters_stored_part.nd rfl (Or.inl rfl) (pe_op op_add (pv 4) (pe_op op_mul (pe_fld (pv 5) rfl) (pe_fld (pe_fld (pv 0) rfl) rfl))))
 (pss_cons (ps_set (i := 7) sc_HeldInClusters_stored_part.nd rfl (Or.inl rfl) (pe_callB (call_max2 rfl) rfl T.n_max boot_max (pa_cons (pv 1) (pa_cons (pv 4) pa_nil))))
 (pss_cons (ps_set (i := 8) sc_HeldInClusters_stored_part.nd rfl (Or.inl rfl) (pe_callB (call_min2 rfl) rfl T.n_min boot_min (pa_cons (pv 2) (pa_cons (pv 6) pa_nil))))
 (pss_cons (ps_cut (ps_if (pt_cmpR op_lt (pv 7) (pv 8) (nomark _))
 (pss_one (ps_expr (pe_bm PySem.F.plainAttrs_list PySem.F.slot_list_extend PySem.F.type_list_extend mt_extend (pv 3) (pa_cons (pe_fn d_run_part hr (by decide) rfl passR (pa_cons (pe_fld (pv 0) rfl) (pa_cons (pv 5) (pa_cons (pe_op op_sub (pv 7) (pv 4)) (pa_cons (pe_op op_sub (pv 8) (pv 7)) pa_nil))))) pa_nil))))
 pss_nil))
 (pss_one (ps_set (i := 4) sc_HeldInClusters_stored_part.nd rfl (Or.inl rfl) (pv 6))))))))
 (pss_one (ps_ret (pv 3)))))), ?_⟩
  refine ⟨Nat.zero_le _, fun pf hpf => ?_⟩
  have sF : Same H (upd H pf (.lst [])) := Same.new hpf
  refine ⟨_, rfl, _, _, ((oc.up sF)).dx, ((oc.up sF)).fs, _, rfl, ((oc.up sF)).e, T.o_HeldInClusters.cl, T.o_HeldInClusters.na _ dk, ((oc.up sF)).get lk0, pr, rfl, ⟨_, SqL.of (sF _ _ el)⟩, ?_⟩
  refine for_list (K := K) (a := pr) (xs := as.map V.ref) (fun j σ H' => ∃ v5 v6 v7 v8, σ = [some (.ref x), some (.int i), some (.int en), some (.ref pf), some (.int ((v.cluster * sum2 (c.runs.take j) : Nat) : Int)), v5, v6, v7, v8] ∧
   Fg (upd H pf (.lst (vN (gs g i (min en (v.cluster * sum2 (c.runs.take j))))))) H') ?_ ?_ ?_ ?_
  ·refine ⟨none, none, none, none, rfl, ?_⟩
   have : gs g i (min en (v.cluster * sum2 (c.runs.take 0))) = [] := gs_nil (by rw [List.take_zero, sum2_nil]; omega)
   rw [this]
   exact Fg.refl _
  ·rintro j σ H' _ ⟨v5, v6, v7, v8, _, fg⟩
   exact SqL.of (fg.sub _ _ (by rw [upd_ne (ne_of_none el hpf)]; exact el))
  ·rintro j y σ H' hj ⟨v5, v6, v7, v8, rfl, fg⟩
   rw [List.getElem?_map] at hj
   cases ha : as[j]? with
   | none => rw [ha] at hj; cases hj
   | some b =>
   rw [ha] at hj
   cases hj
   have hjl : j < c.runs.length := by rw [← nl]; exact (List.getElem?_eq_some_iff.mp ha).1
   obtain ⟨⟨ro, rn⟩, hrv⟩ : ∃ rv, c.runs[j]? = some rv := ⟨_, List.getElem?_eq_getElem hjl⟩
   have hmem := List.mem_of_getElem? hrv
   obtain ⟨rn1, rn2, rin⟩ := cok.runs _ hmem
   have sH : Same H H' := (Same.new hpf).trans fg.sub
   have hpf' : H' pf = some (.lst (vN (gs g i (min en (v.cluster * sum2 (c.runs.take j)))))) := fg.sub _ _ upd_same
   have ir : IsRun A H' b (ro, rn) := (fr j b _ ha hrv).up sH
   have es : sum2 (c.runs.take (j + 1)) = sum2 (c.runs.take j) + rn := by
    rw [List.take_add_one, hrv]
    exact sum2_snoc _ _
   generalize hrp : v.cluster * sum2 (c.runs.take j) = rp at *
   have ere : v.cluster * sum2 (c.runs.take (j + 1)) = rp + rn * v.cluster := by rw [es, Nat.mul_add, hrp, Nat.mul_comm rn]
   rw [ere]
   have rn2 : rn < 2 ^ 32 := rn2
   refine ⟨_, rfl, _, rfl, _, _, (ir).dx, (ir).fs, _, rfl, (ir).e, T.o_Run.cl, T.o_Run.na _ dk, (ir).get lk0, _, rfl, _, _, ((oc.up sH)).dx, ((oc.up sH)).fs, _, rfl, ((oc.up sH)).e, T.o_HeldInClusters.cl, T.o_HeldInClusters.na _ dk, ((oc.up sH)).get (lkS dk (lkS dk (lkS dk lk0))), _, _, ((oL.up sH)).dx, ((oL.up sH)).fs, _, rfl, ((oL.up sH)).e, T.o_Layout.cl, T.o_Layout.na _ dk, ((oL.up sH)).get (lkS dk (lkS dk (lkS dk (lkS dk lk0)))), _, _, rfl, rfl, .inr ⟨by omega, by omega⟩, _, _, rfl, rfl, ?_⟩
   have e1 : (rp : Int) + (rn : Int) * (v.cluster : Int) = ((rp + rn * v.cluster : Nat) : Int) := by simp
   dsimp only
   rw [e1]
   generalize hre : rp + rn * v.cluster = re
   refine ⟨_, rfl, _, rfl, _, _, rfl, ?_⟩
   rw [max_nat]
   refine ⟨_, rfl, _, rfl, _, _, rfl, ?_⟩
   rw [min_nat]
   refine ⟨fun σ H' => ∃ v5 v7 v8, σ = [some (.ref x), some (.int i), some (.int en), some (.ref pf), some (.int (rp : Int)), v5, some (.int (re : Int)), v7, v8] ∧ Fg (upd H pf (.lst (vN (gs g i (min en re))))) H', ?_, ?_⟩
   ·have est := gs_step g i en rp re (by omega)
    refine ⟨_, rfl, _, rfl, _, _, rfl, rfl, _, rfl, iteP (fun c1 => ?_) (fun c1 => ?_)⟩
    ·-- found.extend(run_part(self.layout, run, low - run_place, high - low))
     refine ⟨_, rfl, .inl ⟨rfl, _, SqL.of hpf'⟩, _, rfl, _, _, ((oc.up sH)).dx, ((oc.up sH)).fs, _, rfl, ((oc.up sH)).e, T.o_HeldInClusters.cl, T.o_HeldInClusters.na _ dk, ((oc.up sH)).get (lkS dk (lkS dk (lkS dk lk0))), _, rfl, _, rfl, _, rfl, _, _, rfl, rfl, _, rfl, _, rfl, _, _, rfl, rfl, ?_⟩
     have c1 : max i rp < min en re := by omega
     have ebytes : gs g (max i rp) (min en re) = runBytes v ro (max i rp - rp) (min en re - max i rp) := by
      rw [← hg]
      cases ro with
      | none => exact run_zero (by omega) hrv (by rw [hrp]; omega) (by rw [hrp, hre]; omega)
      | some sg =>
       have := run_some (v := v) (by omega) hrv (low := max i rp) (high := min en re) (by rw [hrp]; omega) (by rw [hrp, hre]; omega) (by omega) (of_decide_eq_true rin)
       rw [hrp] at this
       exact this
     refine ⟨py, b, v, (ro, rn), max i rp - rp, min en re - max i rp, ?_, iL.up sH, ir, by omega, fun sg hsg => ?_, fun p hp => ?_⟩
     ·show [V.ref py, V.ref b, V.int (((max i rp : Nat) : Int) - (rp : Int)), V.int (((min en re : Nat) : Int) - ((max i rp : Nat) : Int))] = _
      rw [show (((max i rp : Nat) : Int) - (rp : Int)) = ((max i rp - rp : Nat) : Int) by omega, show (((min en re : Nat) : Int) - ((max i rp : Nat) : Int)) = ((min en re - max i rp : Nat) : Int) by omega]
     ·have hsg : ro = some sg := hsg
      subst hsg
      have := of_decide_eq_true rin
      have e2 : (sg + rn) * v.cluster = sg * v.cluster + rn * v.cluster := Nat.add_mul _ _ _
      have : (sg + rn) * v.cluster ≤ v.image.length := this
      omega
     ·rw [← ebytes]
      refine ⟨pf, p, _, _, rfl, rfl, (Same.new hp) _ _ hpf', upd_same, ?_, ?_⟩
      ·rw [vN_len, vN_len, gs_len, gs_len]
       show _ ≤ 16777216
       omega
      ·rw [vN_app, ← est]
       exact ⟨_, _, _, rfl, Fg.reput (fg.trans (Fg.lst hp))⟩
    ·have : gs g (max i rp) (min en re) = [] := gs_nil (by omega)
     rw [this, List.append_nil] at est
     exact ⟨_, _, _, rfl, by rw [est]; exact fg⟩
   ·rintro σ H2 ⟨v5', v7', v8', rfl, fg2⟩
    exact ⟨_, rfl, _, _, _, _, rfl, fg2⟩
  ·rintro σ H' ⟨v5, v6, v7, v8, rfl, fg⟩
   rw [List.length_map, nl, List.take_length, Nat.min_eq_left hen] at fg
   exact ⟨_, rfl, _, fg, k pf hpf⟩
end
end Sv
end
section
namespace Sv
open PySem PySem.Spec L2
structure FgL (H H' : Hp) : Prop where
 sub : Same H H'
 lst : ∀ b u, H' b = some u → H b = none → ∃ xs, u = .lst xs
theorem FgL.refl (H : Hp) : FgL H H := ⟨Same.refl _, fun b u e n => by rw [n] at e; cases e⟩
theorem FgL.put {H H' : Hp} {p : Addr} {xs : List V} (f : FgL H H') (h : H' p = none) : FgL H (upd H' p (.lst xs)) :=
 ⟨f.sub.trans (Same.new h), fun b u e n => by
  by_cases y : b = p
  ·subst y; rw [upd_same] at e; cases e; exact ⟨_, rfl⟩
  ·rw [upd_ne y] at e; exact f.lst b u e n⟩
theorem FgL.keep {H H' : Hp} {p : Addr} {o : HO} (f : FgL H H') : FgL (upd H p o) (upd H' p o) :=
 ⟨f.sub.grow, fun b u e n => by
  by_cases y : b = p
  ·subst y; rw [upd_same] at n; cases n
  ·rw [upd_ne y] at e n; exact f.lst b u e n⟩
theorem FgL.fg {H H' : Hp} (f : FgL H H') : Fg H H' := ⟨f.sub, fun b u e n => by
 obtain ⟨xs, rfl⟩ := f.lst b u e n
 trivial⟩
section
variable {P : Program} {w : World} {K : Frag} {mg : Str → Option Value} {base : Heap} {A : Adr} {f : Addr} {fd : FuncData}
noncomputable def spClTaken (K : Frag) (A : Adr) : Sp := fun vs H Q E => ∃ (x : Addr) (v : Sn35.Volume) (c : Sn35.Content) (i n : Nat), vs = [.ref x, .int i, .int n] ∧ IsCl K A v H x c ∧ n ≤ 2 ^ 22 ∧ Orr A.NotSo E (takenO v c i n) fun r => ∀ p, H p = none → Q (.ref p) (upd H p (.lst (vN r)))
theorem sc_HeldInClusters_taken : FnScope ["self", "place", "many", "stored"] ["self", "place", "many"] (defScope s_HeldInClusters_taken) := ⟨rfl, rfl, rfl, dk, rfl, dk, dk⟩
noncomputable abbrev Dq26 (P : Program) (w : World) (K : Frag) (mg : Str → Option Value) (base : Heap) (A : Adr) : Prop := DefM P w K mg base 5 A.HeldInClusters "stored_part" ["self", "place", "end"] (spStored K A)
theorem ok_Cl_taken (F : Fun K "taken" "HeldInClusters.taken" s_HeldInClusters_taken f fd) (T : Txt K mg A) (d_must : Dq1 P w K mg base A) (d_stored_part : Dq26 P w K mg base A) :
  FnOk P w K mg base (CXR P w) 6 f fd ["self", "place", "many"] (spClTaken K A) := by
 refine F.okR sc_HeldInClusters_taken (fun vs H Q E h => ?_) (fun cdv A' outer s H vs Q E hr h => ?_)
 ·obtain ⟨x, v, c, i, n, rfl, _⟩ := h
  rfl
 ·obtain ⟨x, v, c, i, n, rfl, ic, hn, k⟩ := h
  obtain ⟨py, pr, oc, iL, lr, hin, cok⟩ := id ic
  refine ⟨_, (pss_cons (ps_must d_must hr (by decide) rfl passR (pe_cmpR op_le (pe_op op_add (pv 1) (pv 2)) (pe_fld (pv 0) rfl) (nomark _)))
 (pss_cons (ps_set (i := 3) sc_HeldInClusters_taken.nd rfl (Or.inl rfl) (pe_mth (pv 0) d_stored_part hr (by decide) passR (pa_cons (pv 1) (pa_cons (pe_callB (call_min2 rfl) rfl T.n_min boot_min (pa_cons (pe_op op_add (pv 1) (pv 2)) (pa_cons (pe_fld (pv 0) rfl) pa_nil))) pa_nil))))
 (pss_one (ps_ret (pe_op op_cat (pv 3) (pe_op op_rep (pe_lst (pa_cons pe_int pa_nil)) (pe_op op_sub (pv 2) (pe_callB call_len_seq rfl T.n_len boot_len (pa_cons (pv 3) pa_nil))))))))), ?_⟩
  refine ⟨_, rfl, _, rfl, _, _, rfl, rfl, _, rfl, _, _, (oc).dx, (oc).fs, _, rfl, (oc).e, T.o_HeldInClusters.cl, T.o_HeldInClusters.na _ dk, (oc).get (lkS dk (lkS dk lk0)), _, _, rfl, rfl, _, rfl, iteP (fun c1 => ?_) (fun c1 => ?_)⟩
  case refine_2 =>
   have : takenO v c i n = none := if_pos (by omega)
   rw [this] at k
   exact k _
  refine ⟨H, Fg.refl H, ?_⟩
  rw [takenO_some (by omega), taken_runs hin (by omega)] at k
  have k : ∀ p, H p = none → Q (.ref p) (upd H p (.lst (vN (gs (inCl v c.runs) i (min (i + n) c.begun) ++ List.replicate (n - (min (i + n) c.begun - i)) 0)))) := k
  refine ⟨_, rfl, x, _, _, rfl, oc.e, oc.get (lkS dk (lkS dk (lkS dk (lkS dk rfl)))), ?_⟩
  refine ⟨_, rfl, _, rfl, _, rfl, _, _, rfl, rfl, _, rfl, _, _, (oc).dx, (oc).fs, _, rfl, (oc).e, T.o_HeldInClusters.cl, T.o_HeldInClusters.na _ dk, (oc).get (lkS dk lk0), _, _, rfl, ?_⟩
  have e1 : (if ((c.begun : Int) < (i : Int) + (n : Int)) then (c.begun : Int) else (i : Int) + (n : Int)) = ((min (i + n) c.begun : Nat) : Int) := by
   rw [show (i : Int) + (n : Int) = ((i + n : Nat) : Int) by omega]
   exact min_nat _ _
  have hroom := cok.room hin
  have hbeg := cok.beg
  refine ⟨x, v, c, i, min (i + n) c.begun, ?_, ic, by omega, by omega, fun p1 hp1 => ?_⟩
  ·show [V.ref x, V.int i, V.int (if ((c.begun : Int) < (i : Int) + (n : Int)) then (c.begun : Int) else (i : Int) + (n : Int))] = _
   rw [e1]
  generalize hst : gs (inCl v c.runs) i (min (i + n) c.begun) = st at k ⊢
  have lst : st.length = min (i + n) c.begun - i := by rw [← hst, gs_len]
  refine ⟨_, rfl, by show 1 ≤ sizeLine; decide, fun p2 hp2 => ?_⟩
  have np12 : p1 ≠ p2 := ne_of_none upd_same hp2
  refine ⟨_, rfl, _, rfl, p1, _, rfl, .inl (SqL.of (by rw [upd_ne np12]; exact upd_same)), _, _, rfl, rfl, ?_⟩
  rw [vN_len]
  refine ⟨p2, n - st.length, _, rfl, ?_, upd_same, by omega, by omega, ?_, fun p3 hp3 => ?_⟩
  ·show V.int ((n : Int) - (st.length : Int)) = V.int _
   rfl
  ·show 1 * ((n : Int) - (st.length : Int)).toNat ≤ 16777216
   omega
  have e3 : ((n : Int) - (st.length : Int)).toNat = n - st.length := by omega
  rw [e3, rep_zero]
  have np23 : p2 ≠ p3 := ne_of_none upd_same hp3
  have np13 : p1 ≠ p3 := fun z => by rw [← z, upd_ne np12, upd_same] at hp3; cases hp3
  refine ⟨p1, p3, vN st, _, rfl, rfl, ?_, upd_same, ?_, fun p4 hp4 => ?_⟩
  ·rw [upd_ne np13, upd_ne np12]; exact upd_same
  ·rw [vN_len, vN_len, List.length_replicate]
   show _ ≤ 16777216
   omega
  rw [vN_app, lst]
  have np34 : p3 ≠ p4 := ne_of_none upd_same hp4
  have np24 : p2 ≠ p4 := fun z => by rw [← z, upd_ne np23, upd_same] at hp4; cases hp4
  have np14 : p1 ≠ p4 := fun z => by rw [← z, upd_ne np13, upd_ne np12, upd_same] at hp4; cases hp4
  have h4 : H p4 = none := by
   rw [upd_ne np34.symm, upd_ne np24.symm, upd_ne np14.symm] at hp4; exact hp4
  refine ⟨_, ?_, k p4 h4⟩
  rw [← lst]
  exact ((((FgL.refl H).put hp1).put hp2).put hp3).keep.fg
noncomputable def spHeld (K : Frag) (A : Adr) : Sp := fun vs H Q E => ∃ (py pa : Addr) (v : Sn35.Volume) (a : Sn35.Attr), vs = [.ref py, .ref pa] ∧ IsLayout K A H py v ∧ IsAttr K A H pa a ∧ a.bytes.length ≤ 2 ^ 20 ∧ Orr A.NotSo E (Sn35.content v a) fun c => ∀ p H', Same H H' → IsHeld K A v H' p c → Q (.ref p) H'
theorem Ini.of {C x dx : Addr} {H1 : Hp} (hx : H1 x = none) (hdx : H1 dx = none) (ne : dx ≠ x) : Ini C x (upd (upd H1 dx (.own x)) x (.ins C dx [])) H1 := ⟨dx, hx, hdx, ne, rfl⟩
theorem sc_held : FnScope ["layout", "attribute"] ["layout", "attribute"] (defScope s_held) := ⟨rfl, rfl, rfl, dk, rfl, dk, dk⟩
noncomputable abbrev Dq28 (P : Program) (w : World) (K : Frag) (mg : Str → Option Value) (base : Heap) (A : Adr) : Prop := DefC P w K mg base 6 "HeldInClusters" A.HeldInClusters ["self", "layout", "attribute"] (spClInit K A)
noncomputable abbrev Dq27 (P : Program) (w : World) (K : Frag) (mg : Str → Option Value) (base : Heap) (A : Adr) : Prop := DefC P w K mg base 4 "HeldHere" A.HeldHere ["self", "attribute"] (spHereInit K A)
theorem ok_held (F : Fun K "held" "held" s_held f fd) (T : Txt K mg A) (d_HeldHere : Dq27 P w K mg base A) (d_HeldInClusters : Dq28 P w K mg base A) :
  FnOk P w K mg base (CXR P w) 8 f fd ["layout", "attribute"] (spHeld K A) := by
 refine F.okR sc_held (fun vs H Q E h => ?_) (fun cdv A' outer s H vs Q E hr h => ?_)
 ·obtain ⟨py, pa, v, a, rfl, _⟩ := h
  rfl
 ·obtain ⟨py, pa, v, a, rfl, iL, ia, hl, k⟩ := h
  obtain ⟨pd, pn, oa, hb, bn, aok, al⟩ := id ia
  refine ⟨_, (pss_cons (ps_if (pt_val (pe_fld (pv 1) rfl))
 (pss_one (ps_ret (pe_new d_HeldInClusters hr (by decide) rfl passR (pa_cons (pv 0) (pa_cons (pv 1) pa_nil)))))
 pss_nil)
 (pss_one (ps_ret (pe_new d_HeldHere hr (by decide) rfl passR (pa_cons (pv 1) pa_nil))))), ?_⟩
  refine ⟨_, rfl, _, _, (oa).dx, (oa).fs, _, rfl, (oa).e, T.o_Attribute.cl, T.o_Attribute.na _ dk, (oa).get (lkS dk lk0), _, rfl, iteP (fun c => ?_) (fun c => ?_)⟩
  ·refine ⟨_, rfl, _, rfl, fun x dx hx hdx ne => ?_⟩
   refine ⟨x, H, py, pa, v, a, rfl, .of hx hdx ne, iL, ia, c, hl, ?_⟩
   cases hc : Sn35.content v a with
   | none =>
    rw [hc] at k
    exact k
   | some cc =>
   rw [hc] at k
   exact fun H' s' ic => ⟨rfl, _, Fg.refl _, k x H' s' (.inr ic)⟩
  ·refine ⟨_, rfl, fun x dx hx hdx ne => ?_⟩
   have h0 : Sn35.le a.bytes 8 1 = 0 := by
    have := aok.cl
    omega
   refine ⟨x, H, pa, a, v, rfl, .of hx hdx ne, ia, h0, ?_⟩
   cases hc : Sn35.content v a with
   | none =>
    rw [hc] at k
    exact k
   | some cc =>
   rw [hc] at k
   exact fun H' s' ic => ⟨rfl, _, Fg.refl _, k x H' s' (.inl ic)⟩
end
end Sv
end
section
namespace Sv
open PySem PySem.Spec L2
theorem recP_small {b : List Nat} {n : Nat} {r : Sn35.Rec} (hb : Byt b) (hl : b.length = 512 * n) (hn1 : 1 ≤ n) (hn : n ≤ 8) (h : recP b = some r) : ∀ a ∈ r.attrs, a.bytes.length ≤ 4096 := by
 unfold recP at h
 obtain ⟨d, hd, h⟩ := Option.bind_eq_some_iff.mp h
 split at h
 ·cases h
 obtain ⟨l, e, rfl⟩ := Option.map_eq_some_iff.mp h
 obtain ⟨e2, ho⟩ := unm_shape hl hd
 have hdl : d.length = b.length := by rw [e2]; exact mend_len hl (by omega)
 intro a ha
 obtain ⟨p1, p2⟩ := attrsY_all _ _ _ (((unmarked_byt hb hd).take _).drop _) e a ha
 rw [List.length_drop, List.length_take] at p2
 omega
theorem _root_.L2.SqL.put {K : Frag} {H H' : Hp} {a x C dx : Addr} {xs : List V} {fs : List (Str × V)} (h : SqL K H a xs) (hx : H x = some (.ins C dx fs)) (e : ∀ b, b ≠ x → H' b = H b) : SqL K H' a xs := by
 rcases h with (h | ⟨o, h⟩) | h
 ·exact .inl (.inl ((e a (ne_of h hx (by intro z; cases z))).trans h))
 ·exact .inl (.inr ⟨o, (e a (ne_of h hx (by intro z; cases z))).trans h⟩)
 ·exact .inr h
theorem IsAttr.put {K : Frag} {A : Adr} {H H' : Hp} {p x C : Addr} {a : Sn35.Attr} {fv : List (Str × V)} {v : V} (h : IsAttr K A H p a) (o : OAt H C x fv) (g : fv.lookup (Str.ofString "uses") = some v) (e : ∀ b, b ≠ x → H' b = H b) : IsAttr K A H' p a := by
 obtain ⟨pd, pn, oa, b1, b2, r⟩ := h
 exact ⟨pd, pn, oa.put o "uses" (lkS dk (lkS dk (lkS dk (lkS dk rfl)))) g e, b1.put o.e e, b2.put o.e e, r⟩
section
variable {P : Program} {w : World} {K : Frag} {mg : Str → Option Value} {base : Heap} {A : Adr} {f : Addr} {fd : FuncData}
noncomputable def IsRec (K : Frag) (A : Adr) (H : Hp) (p : Addr) (r : Sn35.Rec) : Prop := ∃ pa, OAt H A.Record p [("attributes", .ref pa), ("is_folder", .bl r.folder), ("uses", .int (r.seq : Nat))] ∧ LOf (IsAttr K A) H pa r.attrs ∧ RecOk r ∧ ∀ a ∈ r.attrs, a.bytes.length ≤ 2 ^ 20
theorem IsRec.up {H H' : Hp} {p : Addr} {r : Sn35.Rec} (s : Same H H') (h : IsRec K A H p r) : IsRec K A H' p r := let ⟨pa, o, l, q⟩ := h; ⟨pa, o.up s, l.same s fun _ _ z => z.up s, q⟩
noncomputable def spRecInit (K : Frag) (A : Adr) : Sp := fun vs H Q E => ∃ (x : Addr) (H1 : Hp) (pm : Addr) (b : List Nat) (n : Nat), vs = [.ref x, .ref pm] ∧ Ini A.Record x H H1 ∧ Bs K H1 pm b ∧ Byt b ∧ b.length = 512 * n ∧ 1 ≤ n ∧ n ≤ 8 ∧
 Orr A.NotSo E (recP b) fun r => ∀ H', Same H1 H' → IsRec K A H' x r → Q .non H'
theorem sc_Record_init : FnScope ["self", "marked", "data", "flags", "begin", "counted"] ["self", "marked"] (defScope s_Record_init) := ⟨rfl, rfl, rfl, dk, rfl, dk, dk⟩
theorem file4 : (Str.ofString "FILE").cps.toList = Sn35.ascii "FILE" := by decide +kernel
noncomputable abbrev Dq29 (P : Program) (w : World) (K : Frag) (mg : Str → Option Value) (base : Heap) (A : Adr) : Prop := Def P w K mg base 7 "attributes_in" ["counted", "begin"] (spAttrsIn K A)
noncomputable abbrev Dq11 (P : Program) (w : World) (K : Frag) (mg : Str → Option Value) (base : Heap) (A : Adr) : Prop := Def P w K mg base 4 "without_marks" ["data"] (spMarks K A.NotSo)
theorem ok_Record_init (F : Fun K "__init__" "Record.__init__" s_Record_init f fd) (T : Txt K mg A) (d_must : Dq1 P w K mg base A) (d_codes : Dq4 P w K mg base A)
  (d_part : Dq3 P w K mg base A) (d_number_at : Dq2 P w K mg base A) (d_without_marks : Dq11 P w K mg base A)
  (d_attributes_in : Dq29 P w K mg base A) :
  FnOk P w K mg base (CXR P w) 8 f fd ["self", "marked"] (spRecInit K A) := by
 refine F.okR sc_Record_init (fun vs H Q E h => ?_) (fun cdv A' outer s H vs Q E hr h => ?_)
 ·obtain ⟨x, H1, pm, b, n, rfl, _⟩ := h
  rfl
 ·obtain ⟨x, H1, pm, b, n, rfl, ini, hb, hB, hl, h1, h8, k⟩ := h
  have s0 := ini.same
  refine ⟨_, (pss_cons (ps_set (i := 2) sc_Record_init.nd rfl (Or.inl rfl) (pe_fn d_without_marks hr (by decide) rfl passR (pa_cons (pv 1) pa_nil)))
 (pss_cons (ps_set (i := 3) sc_Record_init.nd rfl (Or.inl rfl) (pe_fn d_number_at hr (by decide) rfl passR (pa_cons (pv 2) (pa_cons pe_int (pa_cons pe_int pa_nil)))))
 (pss_cons (ps_set (i := 4) sc_Record_init.nd rfl (Or.inl rfl) (pe_fn d_number_at hr (by decide) rfl passR (pa_cons (pv 2) (pa_cons pe_int (pa_cons pe_int pa_nil)))))
 (pss_cons (ps_must d_must hr (by decide) rfl passR (pe_cmpR (op_eqL hr.units) (pe_fn d_part hr (by decide) rfl passR (pa_cons (pv 2) (pa_cons pe_int (pa_cons pe_int pa_nil)))) (pe_fn d_codes hr (by decide) rfl passR (pa_cons pe_str pa_nil)) (nomark _)))
 (pss_cons (ps_must d_must hr (by decide) rfl passR (pe_cmpR op_eq (pe_op op_and (pv 3) pe_int) pe_int (nomark _)))
 (pss_cons (ps_must d_must hr (by decide) rfl passR (pe_cmpR op_eq (pe_op op_mod (pv 4) pe_int) pe_int (nomark _)))
 (pss_cons (ps_must d_must hr (by decide) rfl passR (pe_cmpR op_eq (pe_fn d_number_at hr (by decide) rfl passR (pa_cons (pv 2) (pa_cons pe_int (pa_cons pe_int pa_nil)))) pe_int (nomark _)))
 (pss_cons (ps_set (i := 5) sc_Record_init.nd rfl (Or.inl rfl) (pe_fn d_part hr (by decide) rfl passR (pa_cons (pv 2) (pa_cons pe_int (pa_cons (pe_fn d_number_at hr (by decide) rfl passR (pa_cons (pv 2) (pa_cons pe_int (pa_cons pe_int pa_nil)))) pa_nil)))))
 (pss_cons (ps_fld (pv 0) (pe_fn d_number_at hr (by decide) rfl passR (pa_cons (pv 2) (pa_cons pe_int (pa_cons pe_int pa_nil)))) rfl)
 (pss_cons (ps_fld (pv 0) (pe_cmpR op_eq (pe_op op_and (pv 3) pe_int) pe_int (nomark _)) rfl)
 (pss_one (ps_fld (pv 0) (pe_fn d_attributes_in hr (by decide) rfl passR (pa_cons (pv 5) (pa_cons (pv 4) pa_nil))) rfl)))))))))))), ?_⟩
  refine ⟨_, rfl, pm, b, n, rfl, s0.seq hb, hB, hl, h1, by omega, ?_⟩
  cases hu : Sn35.unmarked b with
  | none =>
   have : recP b = none := by unfold recP; rw [hu]; rfl
   rw [this] at k
   exact k
  | some d =>
  obtain ⟨ed, ho⟩ := unm_shape hl hu
  have dl : d.length = 512 * n := by rw [ed, mend_len hl (by omega), hl]
  have dB : Byt d := unmarked_byt hB hu
  have erec : recP b = if d.take 4 ≠ Sn35.ascii "FILE" ∨ Sn35.le d 22 2 % 2 = 0 ∨ Sn35.le d 20 2 % 8 ≠ 0 ∨ Sn35.le d 32 8 ≠ 0 ∨ d.length < Sn35.le d 24 4 then none
   else (attrsX ((d.take (Sn35.le d 24 4)).drop (Sn35.le d 20 2))).map fun l => ⟨Sn35.le d 16 2, Sn35.le d 22 2 / 2 % 2 == 1, l⟩ := by unfold recP; rw [hu]; rfl
  intro pd hpd
  have sB : Same H1 (upd H1 pd (.lst (vN d))) := Same.new (s0.free hpd)
  have nB : (upd H1 pd (.lst (vN d))) x = none := by rw [upd_ne (ne_of_none ini.at.at.e hpd)]; exact ini.new
  have bB : Bs K (upd H1 pd (.lst (vN d))) pd d := SqL.of upd_same
  have s1 : Same (upd H1 pd (.lst (vN d))) (upd H pd (.lst (vN d))) := s0.grow
  have o1 := ini.at.up (Same.new (o := .lst (vN d)) hpd)
  generalize upd H pd (.lst (vN d)) = H2 at s1 o1 ⊢
  generalize upd H1 pd (.lst (vN d)) = B at sB nB bB s1
  refine ⟨_, rfl, pd, d, 22, 2, rfl, s1.seq bB, ?_⟩
  rw [numO_some (by omega)]
  refine ⟨_, rfl, pd, d, 20, 2, rfl, s1.seq bB, ?_⟩
  rw [numO_some (by omega)]
  refine ⟨_, rfl, pd, d, 0, 4, rfl, s1.seq bB, ?_⟩
  rw [part_some (by omega), List.drop_zero]
  intro p1 hp1
  refine ⟨_, rfl, dk, fun p2 hp2 => ?_⟩
  refine ⟨p1, p2, d.take 4, _, rfl, rfl, (Same.new hp2).seq (SqL.of upd_same), SqL.of upd_same, _, rfl, iteP (fun c1 => ?_) (fun c1 => ?_)⟩
  case refine_2 =>
   rw [erec, if_pos (.inl (by rw [← file4]; exact c1))] at k
   exact k _
  rw [file4] at c1
  refine ⟨H2, (Fg.lst hp1).trans (Fg.lst hp2), ?_⟩
  have ef1 : Builtin.bitAnd ((Sn35.le d 22 2 : Nat) : Int) 1 = ((Sn35.le d 22 2 % 2 : Nat) : Int) := by
   have := land_int (Sn35.le d 22 2) 1
   rw [Nat.and_one_is_mod] at this
   exact this
  refine ⟨_, rfl, _, _, rfl, rfl, rfl, _, rfl, iteE (fun c2 => ?_) (fun c2 => ?_)⟩
  case refine_2 =>
   rw [ef1] at c2
   rw [erec, if_pos (.inr (.inl (by omega)))] at k
   exact k _
  rw [ef1] at c2
  refine ⟨H2, Fg.refl _, ?_⟩
  refine ⟨_, rfl, _, _, rfl, rfl, by show (0 : Int) < 8; decide, rfl, _, rfl, iteE (fun c3 => ?_) (fun c3 => ?_)⟩
  case refine_2 =>
   rw [erec, if_pos (.inr (.inr (.inl (by omega))))] at k
   exact k _
  refine ⟨H2, Fg.refl _, ?_⟩
  refine ⟨_, rfl, pd, d, 32, 8, rfl, s1.seq bB, ?_⟩
  rw [numO_some (by omega)]
  refine ⟨rfl, _, rfl, iteE (fun c4 => ?_) (fun c4 => ?_)⟩
  case refine_2 =>
   rw [erec, if_pos (.inr (.inr (.inr (.inl (by omega)))))] at k
   exact k _
  refine ⟨H2, Fg.refl _, ?_⟩
  refine ⟨_, rfl, _, rfl, pd, d, 24, 4, rfl, s1.seq bB, ?_⟩
  rw [numO_some (by omega)]
  refine ⟨pd, d, 0, Sn35.le d 24 4, rfl, s1.seq bB, ?_⟩
  by_cases c5 : d.length < Sn35.le d 24 4
  ·rw [part_none (by omega)]
   rw [erec, if_pos (.inr (.inr (.inr (.inr c5))))] at k
   exact k
  rw [part_some (by omega), List.drop_zero]
  rw [erec, if_neg (by
   rintro (z | z | z | z | z)
   ·exact z c1
   ·omega
   ·omega
   ·omega
   ·exact c5 z)] at k
  intro pc hpc
  generalize hct : d.take (Sn35.le d 24 4) = ct at k ⊢
  have sC : Same B (upd B pc (.lst (vN ct))) := Same.new (s1.free hpc)
  have nC : (upd B pc (.lst (vN ct))) x = none := by rw [upd_ne (ne_of_none o1.at.e hpc)]; exact nB
  have bC : Bs K (upd B pc (.lst (vN ct))) pc ct := SqL.of upd_same
  have s2 : Same (upd B pc (.lst (vN ct))) (upd H2 pc (.lst (vN ct))) := s1.grow
  have o2 := o1.up (Same.new (o := .lst (vN ct)) hpc)
  generalize upd H2 pc (.lst (vN ct)) = H3 at s2 o2 ⊢
  generalize upd B pc (.lst (vN ct)) = B2 at sC nC bC s2
  have bD := sC.seq bB
  refine ⟨_, rfl, pd, d, 16, 2, rfl, s2.seq bD, ?_⟩
  rw [numO_some (by omega)]
  refine ⟨_, rfl, fldS T.o_Record o2 dk (by decide) fun H4 o3 e3 => ?_⟩
  have s3 := s2.put nC e3
  refine ⟨_, rfl, _, _, rfl, rfl, rfl, _, rfl, fldS T.o_Record o3 dk (by decide) fun H5 o4 e4 => ?_⟩
  have s4 := s3.put nC e4
  have ef2 : decide (V.int (Builtin.bitAnd ((Sn35.le d 22 2 : Nat) : Int) 2) = V.int 2) = (Sn35.le d 22 2 / 2 % 2 == 1) := by
   have := land_int (Sn35.le d 22 2) 2
   rw [land_two] at this
   rw [show Builtin.bitAnd ((Sn35.le d 22 2 : Nat) : Int) 2 = ((2 * (Sn35.le d 22 2 / 2 % 2) : Nat) : Int) from this, Bool.eq_iff_iff, decide_eq_true_eq, beq_iff_eq]
   constructor
   ·intro z; have := V.int.inj z; omega
   ·intro z; rw [z]; rfl
  have o4 : OAtN _ H5 A.Record x [("is_folder", .bl (decide (V.int (Builtin.bitAnd ((Sn35.le d 22 2 : Nat) : Int) 2) = V.int 2))), ("uses", .int ((Sn35.le d 16 2 : Nat) : Int))] := o4
  rw [ef2] at o4
  refine ⟨_, rfl, _, rfl, pc, ct, Sn35.le d 20 2, rfl, s4.seq bC, by rw [← hct]; exact dB.take _, ?_, ?_⟩
  ·rw [← hct, List.length_take]; omega
  cases hax : attrsX (ct.drop (Sn35.le d 20 2)) with
  | none =>
   rw [hax] at k
   exact k
  | some l =>
  rw [hax] at k
  have k : ∀ H', Same H1 H' → IsRec K A H' x ⟨Sn35.le d 16 2, Sn35.le d 22 2 / 2 % 2 == 1, l⟩ → Q .non H' := k
  intro pl H6 s6 la
  have o5 := o4.up s6
  refine ⟨_, rfl, fldS T.o_Record o5 dk (by decide) fun H7 o6 e6 => ?_⟩
  have s7 := (s4.trans s6).put nC e6
  have hrok : recP b = some ⟨Sn35.le d 16 2, Sn35.le d 22 2 / 2 % 2 == 1, l⟩ := by
   rw [erec, if_neg (by
    rintro (z | z | z | z | z)
    ·exact z c1
    ·omega
    ·omega
    ·omega
    ·exact c5 z), hct, hax]; rfl
  refine ⟨_, Fg.refl _, k H7 ((sB.trans sC).trans s7) ⟨pl, o6.at, ?_, recP_ok hB hl h8 hrok, fun a ha => ?_⟩⟩
  ·obtain ⟨as, el, nl, fr⟩ := la
   have npl : pl ≠ x := (o5.at.ne_lst el).symm
   exact ⟨as, (e6 pl npl).trans el, nl, fun i b' y q1 q2 => (fr i b' y q1 q2).put o5.at (lkS dk lk0) e6⟩
  ·exact Nat.le_trans (recP_small hB hl h1 h8 hrok a ha) (by decide)
end
end Sv
end
section
namespace Sv
open PySem PySem.Spec L2
section
variable {P : Program} {w : World} {K : Frag} {mg : Str → Option Value} {base : Heap} {A : Adr} {f : Addr} {fd : FuncData}
noncomputable def OptAttr (K : Frag) (A : Adr) (H : Hp) (x : V) (o : Option Sn35.Attr) : Prop := match o with
 | none => x = .non
 | some a => ∃ p, x = .ref p ∧ IsAttr K A H p a
noncomputable def spFind (K : Frag) (A : Adr) : Sp := fun vs H Q E => ∃ (x : Addr) (k : Nat) (nm : Str) (r : Sn35.Rec), vs = [.ref x, .int k, .str nm] ∧ nm.cps.size ≤ 1000 ∧ IsRec K A H x r ∧ ∀ y, OptAttr K A H y (r.find k nm.cps.toList) → Q y H
theorem sc_Record_attribute : FnScope ["self", "kind", "name", "each"] ["self", "kind", "name"] (defScope s_Record_attribute) := ⟨rfl, rfl, rfl, dk, rfl, dk, dk⟩
theorem ok_attribute (F : Fun K "attribute" "Record.attribute" s_Record_attribute f fd) (T : Txt K mg A) (d_codes : Dq4 P w K mg base A) :
  FnOk P w K mg base (CXR P w) 2 f fd ["self", "kind", "name"] (spFind K A) := by
 refine F.okR sc_Record_attribute (fun vs H Q E h => ?_) (fun cdv A' outer s H vs Q E hr h => ?_)
 ·obtain ⟨x, k, nm, r, rfl, _⟩ := h
  rfl
 ·obtain ⟨x, kd, nm, r, rfl, hnm, ⟨pa, o, ⟨as, el, nl, fr⟩, rok, rsm⟩, k⟩ := h
  refine ⟨_, (pss_cons (ps_for PassesOwn.leaving rfl (pi_list (pe_fld (pv 0) rfl)) (pg_name (i := 3) sc_Record_attribute.nd rfl (Or.inl rfl))
 (pss_one (ps_if (PW.pt (pw_and (pt_cmpR op_eq (pe_fld (pv 3) rfl) (pv 1) (nomark _)) (pw_and1 (pt_cmpR (op_eqL hr.units) (pe_fld (pv 3) rfl) (pe_fn d_codes hr (by decide) rfl passR (pa_cons (pv 2) pa_nil)) (nomark _)))))
 (pss_one (ps_ret (pv 3)))
 pss_nil)))
 (pss_one (ps_ret pe_non))), ?_⟩
  refine ⟨_, rfl, _, _, (o).dx, (o).fs, _, rfl, (o).e, T.o_Record.cl, T.o_Record.na _ dk, (o).get lk0, pa, rfl, ⟨_, SqL.of el⟩, ?_⟩
  refine for_list (K := K) (a := pa) (xs := as.map V.ref) (fun j σ H' => ∃ v3, σ = [some (.ref x), some (.int kd), some (.str nm), v3] ∧ FgL H H' ∧ r.find kd nm.cps.toList = (r.attrs.drop j).find? fun a => a.kind == kd && a.name == nm.cps.toList) ⟨none, rfl, FgL.refl _, rfl⟩
   (fun j σ H' _ ⟨_, _, g, _⟩ => SqL.of (g.sub _ _ el)) ?_ ?_
  ·rintro j y σ H' hj ⟨v3, rfl, g, hf⟩
   rw [List.getElem?_map] at hj
   cases ha : as[j]? with
   | none => rw [ha] at hj; cases hj
   | some b =>
   rw [ha] at hj
   cases hj
   have hjl : j < r.attrs.length := by rw [← nl]; exact (List.getElem?_eq_some_iff.mp ha).1
   have hat : r.attrs[j]? = some r.attrs[j] := List.getElem?_eq_getElem hjl
   generalize r.attrs[j] = at1 at hat
   have ia : IsAttr K A H b at1 := fr j b at1 ha hat
   obtain ⟨pd, pn, oa, b1, b2, aok, al⟩ := id (ia.up g.sub)
   have hd : r.attrs.drop j = at1 :: r.attrs.drop (j + 1) := by
    rw [List.drop_eq_getElem_cons hjl]
    congr 1
    rw [List.getElem?_eq_getElem hjl] at hat
    exact Option.some.inj hat
   rw [hd, List.find?_cons] at hf
   refine ⟨_, rfl, _, _, (oa).dx, (oa).fs, _, rfl, (oa).e, T.o_Attribute.cl, T.o_Attribute.na _ dk, (oa).get (lkS dk (lkS dk lk0)), _, rfl, rfl, _, rfl, iteE (fun c1 => ?_) (fun c1 => ?_)⟩
   ·refine ⟨_, rfl, _, _, (oa).dx, (oa).fs, _, rfl, (oa).e, T.o_Attribute.cl, T.o_Attribute.na _ dk, (oa).get lk0, _, rfl, nm, rfl, hnm, fun p hp => ?_⟩
    refine ⟨pn, p, at1.name, nm.cps.toList, rfl, rfl, (Same.new hp).seq b2, SqL.of upd_same, _, rfl, iteP (fun c2 => ?_) (fun c2 => ?_)⟩
    ·have hyes : (at1.kind == kd && at1.name == nm.cps.toList) = true := by
      rw [Bool.and_eq_true, beq_iff_eq, beq_iff_eq]
      exact ⟨by omega, c2⟩
     rw [hyes] at hf
     exact ⟨_, rfl, H, (g.put hp).fg, k _ (by rw [hf]; exact ⟨b, rfl, ia⟩)⟩
    ·have hno : (at1.kind == kd && at1.name == nm.cps.toList) = false := by
      rw [Bool.and_eq_false_iff, beq_eq_false_iff_ne, beq_eq_false_iff_ne]
      exact .inr c2
     rw [hno] at hf
     exact ⟨_, rfl, g.put hp, hf⟩
   ·have hno : (at1.kind == kd && at1.name == nm.cps.toList) = false := by
     rw [Bool.and_eq_false_iff, beq_eq_false_iff_ne, beq_eq_false_iff_ne]
     exact .inl (by omega)
    rw [hno] at hf
    exact ⟨_, rfl, g, hf⟩
  ·rintro σ H' ⟨v3, rfl, g, hf⟩
   rw [List.length_map, nl, List.drop_length] at hf
   exact ⟨H, g.fg, k _ (by rw [hf]; exact rfl)⟩
theorem find_small {H : Hp} {p : Addr} {r : Sn35.Rec} {k : Nat} {n : List Nat} {a : Sn35.Attr} (h : IsRec K A H p r) (e : r.find k n = some a) : a.bytes.length ≤ 2 ^ 20 := by
 obtain ⟨_, _, _, _, sm⟩ := h
 exact sm a (List.mem_of_find?_eq_some e)
noncomputable def spRecsHeld (K : Frag) (A : Adr) : Sp := fun vs H Q E => ∃ (py : Addr) (v : Sn35.Volume), vs = [.ref py] ∧ IsLayout K A H py v ∧ Orr A.NotSo E (tabP v) fun t => ∀ p H', Same H H' → IsCl K A v H' p t → Q (.ref p) H'
theorem sc_records_held : FnScope ["layout", "zero", "data"] ["layout"] (defScope s_records_held) := ⟨rfl, rfl, rfl, dk, rfl, dk, dk⟩
noncomputable abbrev Dq5 (P : Program) (w : World) (K : Frag) (mg : Str → Option Value) (base : Heap) (A : Adr) : Prop := DefM P w K mg base 2 A.Record "attribute" ["self", "kind", "name"] (spFind K A)
noncomputable abbrev Dq12 (P : Program) (w : World) (K : Frag) (mg : Str → Option Value) (base : Heap) (A : Adr) : Prop := DefC P w K mg base 8 "Record" A.Record ["self", "marked"] (spRecInit K A)
noncomputable abbrev Dq6 (P : Program) (w : World) (K : Frag) (mg : Str → Option Value) (base : Heap) (A : Adr) : Prop := Def P w K mg base 8 "held" ["layout", "attribute"] (spHeld K A)
theorem ok_records_held (F : Fun K "records_held" "records_held" s_records_held f fd) (T : Txt K mg A) (d_must : Dq1 P w K mg base A) (d_volume_part : Dq10 P w K mg base A)
  (d_Record : Dq12 P w K mg base A) (d_attribute : Dq5 P w K mg base A) (d_held : Dq6 P w K mg base A) :
  FnOk P w K mg base (CXR P w) 10 f fd ["layout"] (spRecsHeld K A) := by
 refine F.okR sc_records_held (fun vs H Q E h => ?_) (fun cdv A' outer s H vs Q E hr h => ?_)
 ·obtain ⟨py, v, rfl, _⟩ := h
  rfl
 ·obtain ⟨py, v, rfl, iL, k⟩ := h
  obtain ⟨pi, img, oL, hbi, hvi, vok⟩ := id iL
  obtain ⟨n, en, h1, h8⟩ := vok.rec512
  refine ⟨_, (pss_cons (ps_set (i := 1) sc_records_held.nd rfl (Or.inl rfl) (pe_new d_Record hr (by decide) rfl passR (pa_cons (pe_mth (pv 0) d_volume_part hr (by decide) passR (pa_cons (pe_fld (pv 0) rfl) (pa_cons (pe_fld (pv 0) rfl) pa_nil))) pa_nil)))
 (pss_cons (ps_set (i := 2) sc_records_held.nd rfl (Or.inl rfl) (pe_mth (pv 1) d_attribute hr (by decide) passR (pa_cons (pe_gc T.c_DATA rfl) (pa_cons pe_str pa_nil))))
 (pss_cons (ps_must d_must hr (by decide) rfl passR (pe_cmpR op_notN (pv 2) pe_non (nomark _)))
 (pss_cons (ps_must d_must hr (by decide) rfl passR (pe_fld (pv 2) rfl))
 (pss_one (ps_ret (pe_fn d_held hr (by decide) rfl passR (pa_cons (pv 0) (pa_cons (pv 2) pa_nil))))))))), ?_⟩
  unfold tabP at k
  refine ⟨_, rfl, py, _, _, rfl, oL.e, oL.get (lkS dk (lkS dk (lkS dk (lkS dk (lkS dk (lkS dk rfl)))))), ?_⟩
  refine ⟨_, rfl, _, _, (oL).dx, (oL).fs, _, rfl, (oL).e, T.o_Layout.cl, T.o_Layout.na _ dk, (oL).get (lkS dk (lkS dk lk0)), _, rfl, _, _, (oL).dx, (oL).fs, _, rfl, (oL).e, T.o_Layout.cl, T.o_Layout.na _ dk, (oL).get (lkS dk lk0), py, v, v.start * v.cluster, v.record, rfl, iL, ?_⟩
  cases hp : Sn35.part v.image (v.start * v.cluster) v.record with
  | none =>
   rw [hp] at k
   exact k
  | some b =>
  rw [hp] at k
  simp only [Option.bind_some] at k
  obtain ⟨pl1, pl2, pl3⟩ := part_len hp
  intro pm hpm x dx hx hdx ne
  refine ⟨x, _, pm, b, n, rfl, .of hx hdx ne, SqL.of upd_same, by rw [pl3]; exact (vok.byt.drop _).take _, by rw [pl1, en], h1, h8, ?_⟩
  cases hrp : recP b with
  | none =>
   rw [hrp] at k
   exact k
  | some r =>
  rw [hrp] at k
  simp only [Option.bind_some] at k
  intro H2 s2 ir
  refine ⟨rfl, ?_⟩
  have sH : Same H H2 := (Same.new hpm).trans s2
  obtain ⟨pa, orc, la, rok, rsm⟩ := id ir
  refine ⟨_, rfl, x, _, _, rfl, orc.e, orc.get (lkS dk (lkS dk (lkS dk rfl))), ?_⟩
  refine ⟨x, 0x80, "", r, rfl, dk, ir, fun y hy => ?_⟩
  have e0 : (Str.ofString "").cps.toList = ([] : List Nat) := by decide +kernel
  rw [e0] at hy
  cases hfd : r.find 0x80 [] with
  | none =>
   rw [hfd] at hy k
   obtain rfl : y = .non := hy
   exact ⟨_, rfl, rfl, _, rfl, iteN (fun z => absurd rfl z) (fun _ => k _)⟩
  | some a =>
  rw [hfd] at hy k
  obtain ⟨pq, rfl, ia⟩ := hy
  have k : Orr A.NotSo E (if Sn35.le a.bytes 8 1 = 1 then Sn35.content v a else none) fun t => ∀ p H', Same H H' → IsCl K A v H' p t → Q (.ref p) H' := k
  refine ⟨_, rfl, rfl, _, rfl, iteN (fun _ => ?_) (fun z => by cases z)⟩
  refine ⟨_, Fg.refl _, ?_⟩
  obtain ⟨pd, pn, oa, b1, b2, aok, al⟩ := id ia
  refine ⟨_, rfl, _, _, (oa).dx, (oa).fs, _, rfl, (oa).e, T.o_Attribute.cl, T.o_Attribute.na _ dk, (oa).get (lkS dk lk0), _, rfl, iteP (fun c1 => ?_) (fun c1 => ?_)⟩
  case refine_2 =>
   rw [if_neg c1] at k
   exact k _
  rw [if_pos c1] at k
  refine ⟨_, Fg.refl _, ?_⟩
  refine ⟨_, rfl, _, rfl, py, pq, v, a, rfl, iL.up sH, ia, find_small ir hfd, ?_⟩
  cases hc : Sn35.content v a with
  | none =>
   rw [hc] at k
   exact k
  | some c =>
  rw [hc] at k
  intro p H3 s3 ih
  refine ⟨_, Fg.refl _, k p H3 (sH.trans s3) ?_⟩
  rcases ih with ⟨pc, b', _, _, z, _⟩ | ih
  ·rw [content_none c1 hc] at z; cases z
  ·exact ih
end
end Sv
end
section
namespace Sv
open PySem PySem.Spec L2
section
variable {P : Program} {w : World} {K : Frag} {mg : Str → Option Value} {base : Heap} {A : Adr} {f : Addr} {fd : FuncData}
noncomputable def OptHeld (K : Frag) (A : Adr) (v : Sn35.Volume) (H : Hp) (x : V) (r : Sn35.Rec) (c : Sn35.Content) : Prop := (r.find 0x80 [] = none ∧ x = .non ∧ c = ⟨0, some [], [], 0⟩) ∨ ∃ p, x = .ref p ∧ IsHeld K A v H p c
noncomputable def spFileHeld (K : Frag) (A : Adr) : Sp := fun vs H Q E => ∃ (py pr : Addr) (v : Sn35.Volume) (r : Sn35.Rec), vs = [.ref py, .ref pr] ∧ IsLayout K A H py v ∧ IsRec K A H pr r ∧ Orr A.NotSo E (dataP v r) fun c => ∀ y H', Same H H' → OptHeld K A v H' y r c → Q y H'
theorem sc_file_held : FnScope ["layout", "record", "data"] ["layout", "record"] (defScope s_file_held) := ⟨rfl, rfl, rfl, dk, rfl, dk, dk⟩
theorem ok_file_held (F : Fun K "file_held" "file_held" s_file_held f fd) (T : Txt K mg A) (d_attribute : Dq5 P w K mg base A) (d_held : Dq6 P w K mg base A) :
  FnOk P w K mg base (CXR P w) 9 f fd ["layout", "record"] (spFileHeld K A) := by
 refine F.okR sc_file_held (fun vs H Q E h => ?_) (fun cdv A' outer s H vs Q E hr h => ?_)
 ·obtain ⟨py, pr, v, r, rfl, _⟩ := h
  rfl
 ·obtain ⟨py, pr, v, r, rfl, iL, ir, k⟩ := h
  obtain ⟨pa, orc, la, rok, rsm⟩ := id ir
  refine ⟨_, (pss_cons (ps_set (i := 2) sc_file_held.nd rfl (Or.inl rfl) (pe_mth (pv 1) d_attribute hr (by decide) passR (pa_cons (pe_gc T.c_DATA rfl) (pa_cons pe_str pa_nil))))
 (pss_one (ps_ret (pe_ifExp (pt_cmpR op_isN (pv 2) pe_non (nomark _)) pe_non (pe_fn d_held hr (by decide) rfl passR (pa_cons (pv 0) (pa_cons (pv 2) pa_nil))))))), ?_⟩
  refine ⟨_, rfl, pr, _, _, rfl, orc.e, orc.get (lkS dk (lkS dk (lkS dk rfl))), ?_⟩
  refine ⟨pr, 0x80, "", r, rfl, dk, ir, fun y hy => ?_⟩
  have e0 : (Str.ofString "").cps.toList = ([] : List Nat) := by decide +kernel
  rw [e0] at hy
  unfold dataP at k
  cases hfd : r.find 0x80 [] with
  | none =>
   rw [hfd] at hy k
   obtain rfl : y = .non := hy
   have k : ∀ y H', Same H H' → OptHeld K A v H' y r ⟨0, some [], [], 0⟩ → Q y H' := k
   exact ⟨_, rfl, rfl, _, rfl, iteP (fun _ => ⟨_, Fg.refl _, k _ _ (Same.refl _) (.inl ⟨hfd, rfl, rfl⟩)⟩) (fun z => absurd rfl z)⟩
  | some a =>
  rw [hfd] at hy k
  obtain ⟨pq, rfl, ia⟩ := hy
  refine ⟨_, rfl, rfl, _, rfl, iteP (fun z => by cases z) (fun _ => ?_)⟩
  refine ⟨_, rfl, _, rfl, py, pq, v, a, rfl, iL, ia, find_small ir hfd, ?_⟩
  have k : Orr A.NotSo E (Sn35.content v a) fun c => ∀ y H', Same H H' → OptHeld K A v H' y r c → Q y H' := k
  cases hc : Sn35.content v a with
  | none =>
   rw [hc] at k
   exact k
  | some c =>
  rw [hc] at k
  exact fun p H3 s3 ih => ⟨_, Fg.refl _, k _ H3 s3 (.inr ⟨p, rfl, ih⟩)⟩
theorem IsHeld.size {H : Hp} {p : Addr} {v : Sn35.Volume} {c : Sn35.Content} (h : IsHeld K A v H p c) (T : Txt K mg A) {Q : VK} (q : Q (.int (c.size : Nat)) H) : ∃ a C dx fs x, V.ref p = .ref a ∧ H a = some (.ins C dx fs) ∧ Cls K C ∧ NoAttr K C "size" ∧ fs.lookup (Str.ofString "size") = some x ∧ Q x H := by
 rcases h with ⟨pc, b, o, _⟩ | ⟨pl, pr, o, _⟩
 ·exact ⟨_, _, (o).dx, (o).fs, _, rfl, (o).e, T.o_HeldHere.cl, T.o_HeldHere.na _ dk, (o).get lk0, q⟩
 ·exact ⟨_, _, (o).dx, (o).fs, _, rfl, (o).e, T.o_HeldInClusters.cl, T.o_HeldInClusters.na _ dk, (o).get (lkS dk (lkS dk lk0)), q⟩
noncomputable def IsVolS (K : Frag) (A : Adr) (H : Hp) (x : Addr) (v : Sn35.Volume) (t : Sn35.Content) : Prop := ∃ fv pl ps, OAt H A.Volume x fv ∧ fv.lookup (Str.ofString "layout") = some (.ref pl) ∧ fv.lookup (Str.ofString "stream") = some (.ref ps) ∧ fv.lookup (Str.ofString "record") = none ∧ fv.lookup (Str.ofString "record_of") = none ∧ IsLayout K A H pl v ∧ IsCl K A v H ps t
noncomputable def spVolRec (K : Frag) (A : Adr) : Sp := fun vs H Q E => ∃ (x : Addr) (k : Nat) (v : Sn35.Volume) (t : Sn35.Content), vs = [.ref x, .int k] ∧ IsVolS K A H x v t ∧ Orr A.NotSo E (recAt v t k) fun r => ∀ p H', Same H H' → IsRec K A H' p r → Q (.ref p) H'
theorem sc_Volume_record : FnScope ["self", "number", "length"] ["self", "number"] (defScope s_Volume_record) := ⟨rfl, rfl, rfl, dk, rfl, dk, dk⟩
noncomputable abbrev Dq14 (P : Program) (w : World) (K : Frag) (mg : Str → Option Value) (base : Heap) (A : Adr) : Prop := DefM P w K mg base 6 A.HeldInClusters "taken" ["self", "place", "many"] (spClTaken K A)
noncomputable abbrev Dq13 (P : Program) (w : World) (K : Frag) (mg : Str → Option Value) (base : Heap) (A : Adr) : Prop := DefM P w K mg base 3 A.HeldHere "taken" ["self", "place", "many"] (spHereTaken K A)
theorem ok_record (F : Fun K "record" "Volume.record" s_Volume_record f fd) (T : Txt K mg A) (d_Record : Dq12 P w K mg base A) (d_HeldHere_taken : Dq13 P w K mg base A)
  (d_HeldInClusters_taken : Dq14 P w K mg base A) :
  FnOk P w K mg base (CXR P w) 10 f fd ["self", "number"] (spVolRec K A) := by
 refine F.okR sc_Volume_record (fun vs H Q E h => ?_) (fun cdv A' outer s H vs Q E hr h => ?_)
 ·obtain ⟨x, k, v, t, rfl, _⟩ := h
  rfl
 ·obtain ⟨x, m, v, t, rfl, ⟨fv, pl, ps, o, ll, lst, _, _, iL, ic⟩, k⟩ := h
  obtain ⟨pi, img, oL, hbi, hvi, vok⟩ := id iL
  obtain ⟨py', pr', oc, _, _, hin, cok⟩ := id ic
  obtain ⟨n, en, h1, h8⟩ := vok.rec512
  refine ⟨_, (pss_cons (ps_set (i := 2) sc_Volume_record.nd rfl (Or.inl rfl) (pe_fld (pe_fld (pv 0) rfl) rfl))
 (pss_one (ps_ret (pe_new d_Record hr (by decide) rfl passR (pa_cons (PE.orr (pe_mth (pe_fld (pv 0) rfl) d_HeldHere_taken hr (by decide) passR (pa_cons (pe_op op_mul (pv 1) (pv 2)) (pa_cons (pv 2) pa_nil))) (pe_mth (pe_fld (pv 0) rfl) d_HeldInClusters_taken hr (by decide) passR (pa_cons (pe_op op_mul (pv 1) (pv 2)) (pa_cons (pv 2) pa_nil)))) pa_nil))))), ?_⟩
  refine ⟨_, rfl, _, _, o.dx, o.fs, _, rfl, o.e, T.o_Volume.cl, T.o_Volume.na _ dk, o.get ll, _, _, (oL).dx, (oL).fs, _, rfl, (oL).e, T.o_Layout.cl, T.o_Layout.na _ dk, (oL).get (lkS dk lk0), ?_⟩
  refine .inr ⟨_, rfl, _, _, o.dx, o.fs, _, rfl, o.e, T.o_Volume.cl, T.o_Volume.na _ dk, o.get lst, ?_⟩
  refine ⟨ps, _, _, rfl, oc.e, oc.get (lkS dk (lkS dk (lkS dk (lkS dk rfl)))), ?_⟩
  refine ⟨_, rfl, _, rfl, _, _, rfl, rfl, .inr ⟨by omega, by omega⟩, _, rfl, ps, v, t, m * v.record, v.record, by simp, ic, by omega, ?_⟩
  unfold recAt at k
  cases htk : takenO v t (m * v.record) v.record with
  | none =>
   rw [htk] at k
   exact k
  | some b =>
  rw [htk] at k
  have k : Orr A.NotSo E (recP b) fun r => ∀ p H', Same H H' → IsRec K A H' p r → Q (.ref p) H' := k
  have eb : b = t.bytes v (m * v.record) v.record ∧ b.length = v.record := by
   unfold takenO at htk
   split at htk
   ·cases htk
   ·cases htk
    exact ⟨rfl, taken_len (by omega)⟩
  intro pm hpm x1 dx hx hdx ne
  refine ⟨x1, _, pm, b, n, rfl, .of hx hdx ne, SqL.of upd_same, ?_, by rw [eb.2, en], h1, h8, ?_⟩
  ·rw [eb.1]
   exact bytes_byt vok.byt (fun b' z => (cok.here b' z).2) _ _
  cases hrp : recP b with
  | none =>
   rw [hrp] at k
   exact k
  | some r =>
  rw [hrp] at k
  exact fun H2 s2 ir => ⟨rfl, _, Fg.refl _, k x1 H2 ((Same.new hpm).trans s2) ir⟩
noncomputable def IsVol (K : Frag) (A : Adr) (H : Hp) (x : Addr) (v : Sn35.Volume) (t : Sn35.Content) (r : Sn35.Rec) : Prop := ∃ pl ps pt, OAt H A.Volume x [("top", .ref pt), ("stream", .ref ps), ("layout", .ref pl)] ∧ IsLayout K A H pl v ∧ IsCl K A v H ps t ∧ IsRec K A H pt r
theorem IsVol.up {H H' : Hp} {x : Addr} {v : Sn35.Volume} {t : Sn35.Content} {r : Sn35.Rec} (s : Same H H') (h : IsVol K A H x v t r) : IsVol K A H' x v t r := let ⟨pl, ps, pt, o, a, b, c⟩ := h; ⟨pl, ps, pt, o.up s, a.up s, b.up s, c.up s⟩
theorem IsVol.s {H : Hp} {x : Addr} {v : Sn35.Volume} {t : Sn35.Content} {r : Sn35.Rec} (h : IsVol K A H x v t r) : IsVolS K A H x v t := by
 obtain ⟨pl, ps, pt, o, a, b, c⟩ := h
 exact ⟨_, pl, ps, o, lkS dk (lkS dk lk0), lkS dk lk0, lkS dk (lkS dk (lkS dk rfl)), lkS dk (lkS dk (lkS dk rfl)), a, b⟩
noncomputable def spVolInit (K : Frag) (A : Adr) : Sp := fun vs H Q E => ∃ (x : Addr) (H1 : Hp) (pi : Addr) (img : List Nat), vs = [.ref x, .ref pi] ∧ Ini A.Volume x H H1 ∧ Bs K H1 pi img ∧ Byt img ∧ img.length < 2 ^ 30 ∧
 Orr A.NotSo E ((volP img).bind fun v => (tabP v).bind fun t => (recAt v t 5).map fun r => (v, t, r)) fun z => ∀ H', Same H1 H' → IsVol K A H' x z.1 z.2.1 z.2.2 → Q .non H'
end
end Sv
end
section
namespace Sv
open PySem PySem.Spec L2
structure Apart (H H' : Hp) (x : Addr) (ks : List Str) : Prop where
 ex : ∃ C fv, OAt H C x fv ∧ ∀ k ∈ ks, fv.lookup k = none
 eq : ∀ b, b ≠ x → H' b = H b
section
variable {K : Frag} {A : Adr} {H H' : Hp} {x p C : Addr} {ks : List Str}
theorem OAt.apart {fv : List (Str × V)} {g : Str} {v : V} (h : OAt H C p fv) (a : Apart H H' x ks) (hg : g ∈ ks) (l : fv.lookup g = some v) : OAt H' C p fv := by
 obtain ⟨⟨C', fv', o, n⟩, e⟩ := a
 have ne : p ≠ x := fun z => by
  subst z
  have := h.uniq o g
  rw [l, n g hg] at this; cases this
 obtain ⟨dx, fs, q, ll⟩ := h
 exact ⟨dx, fs, (e p ne).trans q, ll⟩
theorem _root_.L2.SqL.apart {xs : List V} (h : SqL K H p xs) (a : Apart H H' x ks) : SqL K H' p xs := by
 obtain ⟨⟨C', fv', o, n⟩, e⟩ := a
 exact h.put o.e e
theorem Apart.lst {xs : List V} (a : Apart H H' x ks) (h : H p = some (.lst xs)) : H' p = some (.lst xs) := by
 obtain ⟨⟨C', fv', o, n⟩, e⟩ := a
 exact (e p (o.ne_lst h).symm).trans h
theorem LOf.apart {α : Type} {R : Hp → Addr → α → Prop} {l : List α} (h : LOf R H p l) (a : Apart H H' x ks) (mono : ∀ b y, R H b y → R H' b y) : LOf R H' p l := by
 obtain ⟨as, e, n, f⟩ := h
 exact ⟨as, a.lst e, n, fun i b y h1 h2 => mono b y (f i b y h1 h2)⟩
noncomputable abbrev apKeys : List Str := ["image", "size", "clusters", "kind", "uses", "length"]
theorem IsLayout.apart {v : Sn35.Volume} (h : IsLayout K A H p v) (a : Apart H H' x apKeys) : IsLayout K A H' p v := by
 obtain ⟨pi, img, o, b, r⟩ := h
 exact ⟨pi, img, o.apart a (g := "image") dk (lkS dk (lkS dk (lkS dk (lkS dk (lkS dk lk0))))), b.apart a, r⟩
theorem IsRun.apart {y : Option Nat × Nat} (h : IsRun A H p y) (a : Apart H H' x apKeys) : IsRun A H' p y := OAt.apart h a (g := "clusters") dk lk0
theorem IsCl.apart {v : Sn35.Volume} {c : Sn35.Content} (h : IsCl K A v H p c) (a : Apart H H' x apKeys) : IsCl K A v H' p c := by
 obtain ⟨pl, pr, o, l, r, q⟩ := h
 exact ⟨pl, pr, o.apart a (g := "size") dk (lkS dk (lkS dk lk0)), l.apart a, r.apart a fun _ _ z => z.apart a, q⟩
theorem IsHere.apart {v : Sn35.Volume} {c : Sn35.Content} (h : IsHere K A v H p c) (a : Apart H H' x apKeys) : IsHere K A v H' p c := by
 obtain ⟨pc, b, o, b1, r⟩ := h
 exact ⟨pc, b, o.apart a (g := "size") dk lk0, b1.apart a, r⟩
theorem IsHeld.apart {v : Sn35.Volume} {c : Sn35.Content} (h : IsHeld K A v H p c) (a : Apart H H' x apKeys) : IsHeld K A v H' p c := h.imp (fun z => z.apart a) fun z => z.apart a
theorem IsAttr.apart {y : Sn35.Attr} (h : IsAttr K A H p y) (a : Apart H H' x apKeys) : IsAttr K A H' p y := by
 obtain ⟨pd, pn, o, b1, b2, r⟩ := h
 exact ⟨pd, pn, o.apart a (g := "kind") dk (lkS dk (lkS dk lk0)), b1.apart a, b2.apart a, r⟩
theorem IsRec.apart {r : Sn35.Rec} (h : IsRec K A H p r) (a : Apart H H' x apKeys) : IsRec K A H' p r := by
 obtain ⟨pa, o, l, q⟩ := h
 exact ⟨pa, o.apart a (g := "uses") dk (lkS dk (lkS dk lk0)), l.apart a fun _ _ z => z.apart a, q⟩
end
section
variable {P : Program} {w : World} {K : Frag} {mg : Str → Option Value} {base : Heap} {A : Adr} {f : Addr} {fd : FuncData}
theorem sc_Volume_init : FnScope ["self", "image"] ["self", "image"] (defScope s_Volume_init) := ⟨rfl, rfl, rfl, dk, rfl, dk, dk⟩
noncomputable abbrev Dq15 (P : Program) (w : World) (K : Frag) (mg : Str → Option Value) (base : Heap) (A : Adr) : Prop := DefM P w K mg base 10 A.Volume "record" ["self", "number"] (spVolRec K A)
noncomputable abbrev Dq30 (P : Program) (w : World) (K : Frag) (mg : Str → Option Value) (base : Heap) (A : Adr) : Prop := DefC P w K mg base 4 "Layout" A.Layout ["self", "image"] (spLayInit K A)
noncomputable abbrev Dq31 (P : Program) (w : World) (K : Frag) (mg : Str → Option Value) (base : Heap) (A : Adr) : Prop := Def P w K mg base 10 "records_held" ["layout"] (spRecsHeld K A)
theorem ok_Volume_init (F : Fun K "__init__" "Volume.__init__" s_Volume_init f fd) (T : Txt K mg A) (d_Layout : Dq30 P w K mg base A) (d_records_held : Dq31 P w K mg base A)
  (d_record : Dq15 P w K mg base A) :
  FnOk P w K mg base (CXR P w) 11 f fd ["self", "image"] (spVolInit K A) := by
 refine F.okR sc_Volume_init (fun vs H Q E h => ?_) (fun cdv A' outer s H vs Q E hr h => ?_)
 ·obtain ⟨x, H1, pi, img, rfl, _⟩ := h
  rfl
 ·obtain ⟨x, H1, pi, img, rfl, ini, hb, hB, hl, k⟩ := h
  have s0 := ini.same
  have nB := ini.new
  refine ⟨_, (pss_cons (ps_fld (pv 0) (pe_new d_Layout hr (by decide) rfl passR (pa_cons (pv 1) pa_nil)) rfl)
 (pss_cons (ps_fld (pv 0) (pe_fn d_records_held hr (by decide) rfl passR (pa_cons (pe_fld (pv 0) rfl) pa_nil)) rfl)
 (pss_one (ps_fld (pv 0) (pe_mth (pv 0) d_record hr (by decide) passR (pa_cons (pe_gc T.c_TOP_FOLDER rfl) pa_nil)) rfl)))), ?_⟩
  refine ⟨_, rfl, fun y dy hy hdy ney => ?_⟩
  refine ⟨y, H, pi, img, rfl, .of hy hdy ney, s0.seq hb, hB, hl, ?_⟩
  cases hv : volP img with
  | none =>
   rw [hv] at k
   exact k
  | some v =>
  rw [hv] at k
  simp only [Option.bind_some] at k
  intro H2 s2 iL
  refine ⟨rfl, ?_⟩
  have o0 := ini.at.up s2
  refine ⟨_, rfl, fldS T.o_Volume o0 dk (by decide) fun H3 o1 e1 => ?_⟩
  have s3 := (s0.trans s2).put nB e1
  have iL3 : IsLayout K A H3 y v := iL.apart ⟨⟨_, _, o0.at, fun g _ => rfl⟩, e1⟩
  refine ⟨_, rfl, _, _, (o1.at).dx, (o1.at).fs, _, rfl, (o1.at).e, T.o_Volume.cl, T.o_Volume.na _ dk, (o1.at).get lk0, y, v, rfl, iL3, ?_⟩
  cases ht : tabP v with
  | none =>
   rw [ht] at k
   exact k
  | some t =>
  rw [ht] at k
  simp only [Option.bind_some] at k
  intro ps H4 s4 ic
  have o2 := o1.up s4
  refine ⟨_, rfl, fldS T.o_Volume o2 dk (by decide) fun H5 o3 e3 => ?_⟩
  have s5 := (s3.trans s4).put nB e3
  have ap1 : Apart H4 H5 x apKeys := ⟨⟨_, _, o2.at, fun g hg => by
   rcases List.mem_cons.mp hg with rfl | hg
   ·exact lkS dk rfl
   rcases List.mem_cons.mp hg with rfl | hg
   ·exact lkS dk rfl
   rcases List.mem_cons.mp hg with rfl | hg
   ·exact lkS dk rfl
   rcases List.mem_cons.mp hg with rfl | hg
   ·exact lkS dk rfl
   rcases List.mem_cons.mp hg with rfl | hg
   ·exact lkS dk rfl
   rcases List.mem_cons.mp hg with rfl | hg
   ·exact lkS dk rfl
   cases hg⟩, e3⟩
  have iL5 := (iL3.up s4).apart ap1
  have ic5 := ic.apart ap1
  have ivs : IsVolS K A H5 x v t := ⟨_, y, ps, o3.at, lkS dk lk0, lk0, lkS dk (lkS dk rfl), lkS dk (lkS dk rfl), iL5, ic5⟩
  refine ⟨_, rfl, x, _, _, rfl, o3.at.e, o3.at.get (lkS dk (lkS dk rfl)), ?_⟩
  refine ⟨x, 5, v, t, rfl, ivs, ?_⟩
  cases hr5 : recAt v t 5 with
  | none =>
   rw [hr5] at k
   exact k
  | some r =>
  rw [hr5] at k
  have k : ∀ H', Same H1 H' → IsVol K A H' x v t r → Q .non H' := k
  intro pt H6 s6 ir
  have o4 := o3.up s6
  refine ⟨_, rfl, fldS T.o_Volume o4 dk (by decide) fun H7 o5 e5 => ?_⟩
  have s7 := (s5.trans s6).put nB e5
  have ap2 : Apart H6 H7 x apKeys := ⟨⟨_, _, o4.at, fun g hg => by
   rcases List.mem_cons.mp hg with rfl | hg
   ·exact lkS dk (lkS dk rfl)
   rcases List.mem_cons.mp hg with rfl | hg
   ·exact lkS dk (lkS dk rfl)
   rcases List.mem_cons.mp hg with rfl | hg
   ·exact lkS dk (lkS dk rfl)
   rcases List.mem_cons.mp hg with rfl | hg
   ·exact lkS dk (lkS dk rfl)
   rcases List.mem_cons.mp hg with rfl | hg
   ·exact lkS dk (lkS dk rfl)
   rcases List.mem_cons.mp hg with rfl | hg
   ·exact lkS dk (lkS dk rfl)
   cases hg⟩, e5⟩
  exact ⟨_, Fg.refl _, k H7 s7 ⟨y, ps, pt, o5.at, (iL5.up s6).apart ap2, (ic5.up s6).apart ap2, ir.apart ap2⟩⟩
end
end Sv
end
section
namespace Sv
open PySem PySem.Spec L2
section
variable {P : Program} {w : World} {K : Frag} {mg : Str → Option Value} {base : Heap} {A : Adr} {f : Addr} {fd : FuncData}
noncomputable def spBn (K : Frag) (CN : Addr) : Sp := fun vs H Q E => ∃ (a : Addr) (d : List Nat), vs = [.ref a] ∧ Bs K H a d ∧ Orr CN E (if d.length < 24 then none else some (Sn35.le d (d.length - 8) 8)) fun r => Q (.int (r : Nat)) H
theorem sc_block_number_in : FnScope ["data"] ["data"] (defScope s_block_number_in) := ⟨rfl, rfl, rfl, dk, rfl, dk, dk⟩
theorem ok_block_number_in (F : Fun K "block_number_in" "block_number_in" s_block_number_in f fd) (T : Txt K mg A) (d_must : Dq1 P w K mg base A) (d_number_at : Dq2 P w K mg base A) :
  FnOk P w K mg base (CXR P w) 4 f fd ["data"] (spBn K A.NotSo) := by
 refine F.okR sc_block_number_in (fun vs H Q E h => ?_) (fun cdv A' outer s H vs Q E hr h => ?_)
 ·obtain ⟨a, d, rfl, _⟩ := h
  rfl
 ·obtain ⟨a, d, rfl, hb, k⟩ := h
  refine ⟨_, (pss_cons (ps_must d_must hr (by decide) rfl passR (pe_cmpR op_ge (pe_callB call_len_seq rfl T.n_len boot_len (pa_cons (pv 0) pa_nil)) pe_int (nomark _)))
 (pss_one (ps_ret (pe_fn d_number_at hr (by decide) rfl passR (pa_cons (pv 0) (pa_cons (pe_op op_sub (pe_callB call_len_seq rfl T.n_len boot_len (pa_cons (pv 0) pa_nil)) pe_int) (pa_cons pe_int pa_nil))))))), ?_⟩
  refine ⟨_, rfl, a, _, rfl, .inl hb, _, _, rfl, rfl, _, rfl, ?_⟩
  rw [vN_len]
  refine iteP (fun c1 => ?_) (fun c1 => ?_)
  case refine_2 =>
   rw [if_pos (by omega)] at k
   exact k _
  rw [if_neg (by omega)] at k
  refine ⟨H, Fg.refl H, ?_⟩
  refine ⟨_, rfl, _, rfl, a, _, rfl, .inl hb, _, _, rfl, rfl, a, d, d.length - 8, 8, ?_, hb, ?_⟩
  ·show [V.ref a, V.int (((vN d).length : Int) - 8), V.int 8] = _
   rw [vN_len, show ((d.length : Nat) : Int) - 8 = ((d.length - 8 : Nat) : Int) by omega]; rfl
  rw [numO_some (by omega)]
  exact ⟨H, Fg.refl H, k⟩
noncomputable def spKind (K : Frag) (CN : Addr) : Sp := fun vs H Q E => ∃ (a : Addr) (d : List Nat), vs = [.ref a] ∧ Bs K H a d ∧ Orr CN E (if d.length < 82 ∨ 3 < Sn35.le d 81 1 then none else some (Sn35.le d 81 1)) fun r => Q (.int (r : Nat)) H
theorem sc_kind_in : FnScope ["data", "kind"] ["data"] (defScope s_kind_in) := ⟨rfl, rfl, rfl, dk, rfl, dk, dk⟩
theorem ok_kind_in (F : Fun K "kind_in" "kind_in" s_kind_in f fd) (T : Txt K mg A) (d_must : Dq1 P w K mg base A) (d_number_at : Dq2 P w K mg base A) :
  FnOk P w K mg base (CXR P w) 4 f fd ["data"] (spKind K A.NotSo) := by
 refine F.okR sc_kind_in (fun vs H Q E h => ?_) (fun cdv A' outer s H vs Q E hr h => ?_)
 ·obtain ⟨a, d, rfl, _⟩ := h
  rfl
 ·obtain ⟨a, d, rfl, hb, k⟩ := h
  refine ⟨_, (pss_cons (ps_set (i := 1) sc_kind_in.nd rfl (Or.inl rfl) (pe_fn d_number_at hr (by decide) rfl passR (pa_cons (pv 0) (pa_cons pe_int (pa_cons pe_int pa_nil)))))
 (pss_cons (ps_must d_must hr (by decide) rfl passR (pe_cmpR op_le (pv 1) pe_int (nomark _)))
 (pss_one (ps_ret (pv 1))))), ?_⟩
  refine ⟨_, rfl, a, d, 81, 1, rfl, hb, ?_⟩
  by_cases c0 : d.length < 82
  ·rw [numO_none (by omega)]
   rw [if_pos (.inl c0)] at k
   exact k
  rw [numO_some (by omega)]
  refine ⟨_, rfl, _, _, rfl, rfl, _, rfl, iteP (fun c1 => ?_) (fun c1 => ?_)⟩
  case refine_2 =>
   rw [if_pos (.inr (by omega))] at k
   exact k _
  rw [if_neg (by omega)] at k
  exact ⟨H, Fg.refl H, _, rfl, H, Fg.refl H, k⟩
noncomputable def nameP (d : List Nat) : Option (List Nat) := if d.length < 81 ∨ Sn35.le d 80 1 < 1 ∨ Sn35.le d 10 2 ≠ 66 + 2 * Sn35.le d 80 1 ∨ d.length < 82 + 2 * Sn35.le d 80 1 ∨ goodName (lets d 82 (Sn35.le d 80 1)) = false then none else some (lets d 82 (Sn35.le d 80 1))
noncomputable def spName (K : Frag) (CN : Addr) : Sp := fun vs H Q E => ∃ (a : Addr) (d : List Nat), vs = [.ref a] ∧ Bs K H a d ∧ Byt d ∧ Orr CN E (nameP d) fun r => ∀ p, H p = none → Q (.ref p) (upd H p (.lst (vN r)))
theorem sc_name_in : FnScope ["data", "many", "name", "letter"] ["data"] (defScope s_name_in) := ⟨rfl, rfl, rfl, dk, rfl, dk, dk⟩
theorem slash1 : (Str.ofString "/").cps.toList = [47] := by decide +kernel
theorem all_bls (l : List Nat) : ((l.map fun (c : Nat) => (decide ((32 : Int) ≤ (c : Int)) && decide ((c : Int) ≤ 126))).all id) = l.all fun c => decide (32 ≤ c) && decide (c ≤ 126) := by
 induction l with
 | nil => rfl
 | cons a l ih =>
  rw [List.map_cons, List.all_cons, List.all_cons, ih]
  congr 1
  have e1 : decide ((32 : Int) ≤ (a : Int)) = decide (32 ≤ a) := by rw [Bool.eq_iff_iff, decide_eq_true_eq, decide_eq_true_eq]; omega
  have e2 : decide ((a : Int) ≤ 126) = decide (a ≤ 126) := by rw [Bool.eq_iff_iff, decide_eq_true_eq, decide_eq_true_eq]; omega
  rw [id, e1, e2]
theorem ok_name_in (F : Fun K "name_in" "name_in" s_name_in f fd) (T : Txt K mg A) (d_must : Dq1 P w K mg base A) (d_codes : Dq4 P w K mg base A) (d_number_at : Dq2 P w K mg base A)
  (d_letters_at : Dq9 P w K mg base A) :
  FnOk P w K mg base (CXR P w) 5 f fd ["data"] (spName K A.NotSo) := by
 refine F.okR sc_name_in (fun vs H Q E h => ?_) (fun cdv A' outer s H vs Q E hr h => ?_)
 ·obtain ⟨a, d, rfl, _⟩ := h
  rfl
 ·obtain ⟨a, d, rfl, hb, hB, k⟩ := h
  refine ⟨_, (pss_cons (ps_set (i := 1) sc_name_in.nd rfl (Or.inl rfl) (pe_fn d_number_at hr (by decide) rfl passR (pa_cons (pv 0) (pa_cons pe_int (pa_cons pe_int pa_nil)))))
 (pss_cons (ps_must d_must hr (by decide) rfl passR (pe_cmpR op_ge (pv 1) pe_int (nomark _)))
 (pss_cons (ps_must d_must hr (by decide) rfl passR (pe_cmpR op_eq (pe_fn d_number_at hr (by decide) rfl passR (pa_cons (pv 0) (pa_cons pe_int (pa_cons pe_int pa_nil)))) (pe_op op_add (pe_op op_sub (pe_gc T.c_NAME_PLACE rfl) pe_int) (pe_op op_mul pe_int (pv 1))) (nomark _)))
 (pss_cons (ps_set (i := 2) sc_name_in.nd rfl (Or.inl rfl) (pe_fn d_letters_at hr (by decide) rfl passR (pa_cons (pv 0) (pa_cons (pe_gc T.c_NAME_PLACE rfl) (pa_cons (pv 1) pa_nil)))))
 (pss_cons (ps_must d_must hr (by decide) rfl passR (pe_callB (cr_all rfl) rfl T.n_all boot_all (pa_cons (pe_lc (own := [("letter", 3)]) rfl sc_name_in.nd (pi_list (pv 2)) (blkOk_by (by (show blkC ["data", "many", "name", "letter"] (defScope s_name_in) _ _ = true); decide +kernel)) (fun _ _ _ _ _ => pg_name (i := 3) sc_name_in.nd rfl (Or.inl rfl)) (fun _ _ _ _ _ => pts_nil) (fun _ _ _ _ _ => by exact (pe_chain op_le op_le pe_int (pv 3) pe_int))) pa_nil)))
 (pss_cons (ps_must d_must hr (by decide) rfl passR (pe_cmpR op_notIn_seq (pe_ix ix_list (pe_fn d_codes hr (by decide) rfl passR (pa_cons pe_str pa_nil)) pe_int (fun _ _ => rfl)) (pv 2) (by with_unfolding_all rfl)))
 (pss_one (ps_ret (pv 2))))))))), ?_⟩
  unfold nameP at k
  refine ⟨_, rfl, a, d, 80, 1, rfl, hb, ?_⟩
  by_cases c0 : d.length < 81
  ·rw [numO_none (by omega)]
   rw [if_pos (.inl c0)] at k
   exact k
  rw [numO_some (by omega)]
  have hm : Sn35.le d 80 1 < 256 := le_lt hB 80 1
  generalize hmm : Sn35.le d 80 1 = m at *
  refine ⟨_, rfl, _, _, rfl, rfl, _, rfl, iteP (fun c1 => ?_) (fun c1 => ?_)⟩
  case refine_2 =>
   rw [if_pos (.inr (.inl (by omega)))] at k
   exact k _
  refine ⟨H, Fg.refl H, ?_⟩
  refine ⟨_, rfl, a, d, 10, 2, rfl, hb, ?_⟩
  rw [numO_some (by omega)]
  refine ⟨_, _, rfl, rfl, _, rfl, _, _, rfl, rfl, .inl ⟨by decide, by decide⟩, _, _, rfl, rfl, rfl, _, rfl, iteE (fun c2 => ?_) (fun c2 => ?_)⟩
  case refine_2 =>
   rw [if_pos (.inr (.inr (.inl (by omega))))] at k
   exact k _
  refine ⟨H, Fg.refl H, ?_⟩
  refine ⟨_, rfl, _, rfl, a, d, 82, m, rfl, hb, by omega, ?_⟩
  by_cases c3 : d.length < 82 + 2 * m
  ·have e : letO d 82 m = none := if_pos ⟨by omega, c3⟩
   rw [e]
   rw [if_pos (.inr (.inr (.inr (.inl c3))))] at k
   exact k
  have e : letO d 82 m = some (lets d 82 m) := if_neg (by omega)
  rw [e]
  intro pn hpn
  generalize hnm : lets d 82 m = nm at k ⊢
  have nml : nm.length = m := by rw [← hnm, lets_len]
  have bn : ∀ {H'}, Same (upd H pn (.lst (vN nm))) H' → Bs K H' pn nm := fun {H'} s => s.seq (SqL.of upd_same)
  refine ⟨_, rfl, pn, rfl, ⟨_, bn (Same.refl _)⟩, fun D hD => ?_⟩
  refine lc_list (K := K) (a := pn) (xs := vN nm) (fun i H' => upd (upd H pn (.lst (vN nm))) D (.lst (((nm.map fun (c : Nat) => (decide ((32 : Int) ≤ (c : Int)) && decide ((c : Int) ≤ 126))).take i).map V.bl)) = H') rfl (fun i H' _ z => by rw [← z]; exact bn (Same.new hD)) ?_ ?_
  ·rintro i y H' hi rfl
   obtain ⟨c, hc, rfl⟩ := vN_get hi
   have fin : upd (upd (upd H pn (.lst (vN nm))) D (.lst (((nm.map fun (c : Nat) => (decide ((32 : Int) ≤ (c : Int)) && decide ((c : Int) ≤ 126))).take i).map V.bl))) D (.lst (((nm.map fun (c : Nat) => (decide ((32 : Int) ≤ (c : Int)) && decide ((c : Int) ≤ 126))).take i).map V.bl ++ [V.bl (decide ((32 : Int) ≤ (c : Int)) && decide ((c : Int) ≤ 126))]))
     = upd (upd H pn (.lst (vN nm))) D (.lst (((nm.map fun (c : Nat) => (decide ((32 : Int) ≤ (c : Int)) && decide ((c : Int) ≤ 126))).take (i + 1)).map V.bl)) := by
    rw [upd_upd, List.take_add_one, List.getElem?_map, hc, List.map_append]
    rfl
   have hlt : (((nm.map fun (c : Nat) => (decide ((32 : Int) ≤ (c : Int)) && decide ((c : Int) ≤ 126))).take i).map V.bl).length < sizeLine := by
    rw [List.length_map, List.length_take, List.length_map, nml]
    show _ < 16777216
    omega
   refine ⟨rfl, tYes_of ?_⟩
   refine ⟨_, rfl, _, _, rfl, rfl, _, rfl, iteP (fun q1 => ?_) (fun q1 => ?_)⟩
   ·refine ⟨_, _, rfl, rfl, _, upd_same, hlt, ?_⟩
    rw [decide_eq_true q1, Bool.true_and] at fin
    exact fin.symm
   ·refine ⟨_, upd_same, hlt, ?_⟩
    rw [decide_eq_false q1, Bool.false_and] at fin
    exact fin.symm
  ·rintro H' rfl
   have et : (nm.map fun (c : Nat) => (decide ((32 : Int) ≤ (c : Int)) && decide ((c : Int) ≤ 126))).take (vN nm).length = nm.map fun (c : Nat) => (decide ((32 : Int) ≤ (c : Int)) && decide ((c : Int) ≤ 126)) := List.take_of_length_le (by rw [List.length_map, vN_len]; exact Nat.le_refl _)
   rw [et]
   refine ⟨D, _, rfl, SqL.of upd_same, _, rfl, ?_⟩
   rw [all_bls]
   refine iteB (fun c4 => ?_) (fun c4 => ?_)
   case refine_2 =>
    rw [if_pos (.inr (.inr (.inr (.inr (by unfold goodName; rw [c4]; rfl)))))] at k
    exact k _
   refine ⟨upd H pn (.lst (vN nm)), Fg.lst hD, ?_⟩
   refine ⟨_, rfl, dk, fun p1 hp1 => ?_⟩
   refine ⟨p1, vN [47], 0, V.int 47, rfl, rfl, SqL.of (by rw [slash1]; exact upd_same), rfl, ?_⟩
   refine ⟨_, rfl, pn, vN nm, rfl, .inl (bn (Same.new hp1)), rfl, ?_, _, rfl, ?_⟩
   ·rw [List.all_eq_true]
    intro y hy
    obtain ⟨c, _, rfl⟩ := List.mem_map.mp hy
    rfl
   have e5 : (if true = true then !inV (V.int 47) (vN nm) else inV (V.int 47) (vN nm)) = !nm.contains 47 := by
    have := inV_nat 47 nm
    rw [if_pos rfl]
    exact congrArg _ this
   rw [e5]
   refine iteB (fun c5 => ?_) (fun c5 => ?_)
   case refine_2 =>
    rw [if_pos (.inr (.inr (.inr (.inr (by unfold goodName; rw [c5, Bool.and_false])))))] at k
    exact k _
   rw [if_neg (by
    rintro (z | z | z | z | z)
    ·exact c0 z
    ·omega
    ·omega
    ·exact c3 z
    ·unfold goodName at z; rw [c4, c5] at z; cases z)] at k
   exact ⟨_, Fg.lst hp1, _, rfl, _, Fg.refl _, k pn hpn⟩
end
end Sv
end
section
namespace Sv
open PySem PySem.Spec L2
theorem lk_shadow {a b : Str} {v w v0 w0 : V} {r : List (Str × V)} (g : Str) : ((a, v) :: (b, w) :: (a, v0) :: (b, w0) :: r).lookup g = ((a, v) :: (b, w) :: r).lookup g := by
 by_cases h1 : g = a
 ·subst h1; rw [lk0, lk0]
 ·by_cases h2 : g = b
  ·subst h2; rw [lkS h1 lk0, lkS h1 lk0]
  ·rw [lkS h1 (lkS h2 (lkS h1 (lkS h2 rfl))), lkS h1 (lkS h2 rfl)]
theorem cut_take {l : List Nat} {n : Nat} (h : n ≤ l.length) : cutV (vN l) none (some (n : Int)) = vN (l.take n) := by
 unfold cutV
 rw [HT.sIx_nat, HT.sIx_none, vN_len, Nat.min_eq_left h, Nat.sub_zero, List.drop_zero]
 simp [vN, List.map_take]
section
variable {P : Program} {w : World} {K : Frag} {mg : Str → Option Value} {base : Heap} {A : Adr} {f : Addr} {fd : FuncData}
noncomputable def IsEnt (K : Frag) (A : Adr) (H : Hp) (p : Addr) (x : Ent) : Prop := ∃ pn, OAt H A.Entry p [("name", .ref pn), ("kind", if x.last = true then .non else .int (x.e.space : Nat)), ("below", vO x.e.down), ("is_last", .bl x.last), ("uses", .int (x.e.seq : Nat)), ("number", .int (x.e.number : Nat)), ("length", .int (x.len : Nat))] ∧
 Bs K H pn x.e.name ∧ EntOk x
theorem IsEnt.up {H H' : Hp} {p : Addr} {x : Ent} (s : Same H H') (h : IsEnt K A H p x) : IsEnt K A H' p x := let ⟨pn, o, b, r⟩ := h; ⟨pn, o.up s, s.seq b, r⟩
theorem IsEnt.apart {H H' : Hp} {p y : Addr} {x : Ent} (h : IsEnt K A H p x) (a : Apart H H' y apKeys) : IsEnt K A H' p x := by
 obtain ⟨pn, o, b, r⟩ := h
 exact ⟨pn, o.apart a (g := "length") dk (lkS dk (lkS dk (lkS dk (lkS dk (lkS dk (lkS dk lk0)))))), b.apart a, r⟩
noncomputable def spEntInit (K : Frag) (A : Adr) : Sp := fun vs H Q E => ∃ (x : Addr) (H1 : Hp) (pw : Addr) (b : List Nat) (pl : Nat), vs = [.ref x, .ref pw, .int pl] ∧ Ini A.Entry x H H1 ∧ Bs K H1 pw b ∧ Byt b ∧
 Orr A.NotSo E (entOf (b.drop pl)) fun e => ∀ H', Same H1 H' → IsEnt K A H' x e → Q .non H'
theorem sc_Entry_init : FnScope ["self", "within", "place", "data", "flags", "own"] ["self", "within", "place"] (defScope s_Entry_init) := ⟨rfl, rfl, rfl, dk, rfl, dk, dk⟩
noncomputable abbrev Dq32 (P : Program) (w : World) (K : Frag) (mg : Str → Option Value) (base : Heap) (A : Adr) : Prop := Def P w K mg base 4 "block_number_in" ["data"] (spBn K A.NotSo)
noncomputable abbrev Dq33 (P : Program) (w : World) (K : Frag) (mg : Str → Option Value) (base : Heap) (A : Adr) : Prop := Def P w K mg base 4 "kind_in" ["data"] (spKind K A.NotSo)
noncomputable abbrev Dq34 (P : Program) (w : World) (K : Frag) (mg : Str → Option Value) (base : Heap) (A : Adr) : Prop := Def P w K mg base 5 "name_in" ["data"] (spName K A.NotSo)
theorem ok_Entry_init (F : Fun K "__init__" "Entry.__init__" s_Entry_init f fd) (T : Txt K mg A) (d_must : Dq1 P w K mg base A) (d_part : Dq3 P w K mg base A)
  (d_number_at : Dq2 P w K mg base A) (d_block_number_in : Dq32 P w K mg base A) (d_kind_in : Dq33 P w K mg base A) (d_name_in : Dq34 P w K mg base A) :
  FnOk P w K mg base (CXR P w) 6 f fd ["self", "within", "place"] (spEntInit K A) := by
 refine F.okR sc_Entry_init (fun vs H Q E h => ?_) (fun cdv A' outer s H vs Q E hr h => ?_)
 ·obtain ⟨x, H1, pw, b, pl, rfl, _⟩ := h
  rfl
 ·obtain ⟨x, H1, pw, b, pl, rfl, ini, hb, hB, k⟩ := h
  have s0 := ini.same
  refine ⟨_, (pss_cons (ps_fld (pv 0) (pe_fn d_number_at hr (by decide) rfl passR (pa_cons (pv 1) (pa_cons (pe_op op_add (pv 2) pe_int) (pa_cons pe_int pa_nil)))) rfl)
 (pss_cons (ps_must d_must hr (by decide) rfl passR (pe_and (pe_cmpR op_eq (pe_op op_mod (pe_fld (pv 0) rfl) pe_int) pe_int (nomark _)) (pe_one (pe_cmpR op_ge (pe_fld (pv 0) rfl) pe_int (nomark _)))))
 (pss_cons (ps_set (i := 3) sc_Entry_init.nd rfl (Or.inl rfl) (pe_fn d_part hr (by decide) rfl passR (pa_cons (pv 1) (pa_cons (pv 2) (pa_cons (pe_fld (pv 0) rfl) pa_nil)))))
 (pss_cons (ps_set (i := 4) sc_Entry_init.nd rfl (Or.inl rfl) (pe_fn d_number_at hr (by decide) rfl passR (pa_cons (pv 3) (pa_cons pe_int (pa_cons pe_int pa_nil)))))
 (pss_cons (ps_must d_must hr (by decide) rfl passR (pe_cmpR op_le (pv 4) (pe_op op_add (pe_gc T.c_BLOCK_BELOW rfl) (pe_gc T.c_LAST rfl)) (nomark _)))
 (pss_cons (ps_fld (pv 0) (pe_fn d_number_at hr (by decide) rfl passR (pa_cons (pv 3) (pa_cons pe_int (pa_cons pe_int pa_nil)))) rfl)
 (pss_cons (ps_fld (pv 0) (pe_fn d_number_at hr (by decide) rfl passR (pa_cons (pv 3) (pa_cons pe_int (pa_cons pe_int pa_nil)))) rfl)
 (pss_cons (ps_fld (pv 0) (pe_cmpR op_eq (pe_op op_and (pv 4) (pe_gc T.c_LAST rfl)) (pe_gc T.c_LAST rfl) (nomark _)) rfl)
 (pss_cons (ps_fld (pv 0) (pe_cut (pe_ifExp (pt_cmpR op_eq (pe_op op_and (pv 4) (pe_gc T.c_BLOCK_BELOW rfl)) (pe_gc T.c_BLOCK_BELOW rfl) (nomark _)) (pe_fn d_block_number_in hr (by decide) rfl passR (pa_cons (pv 3) pa_nil)) pe_non)) rfl)
 (pss_cons (ps_fld (pv 0) pe_non rfl)
 (pss_cons (ps_fld (pv 0) (pe_lst pa_nil) rfl)
 (pss_one (ps_if (pt_not (pt_val (pe_fld (pv 0) rfl)))
 (pss_cons (ps_set (i := 5) sc_Entry_init.nd rfl (Or.inl rfl) (pe_cut (pe_ifExp (pt_cmpR op_isN (pe_fld (pv 0) rfl) pe_non (nomark _)) (pv 3) (pe_slice sl_list (pv 3) po_none (po_some (pe_op op_sub (pe_fld (pv 0) rfl) pe_int))))))
 (pss_cons (ps_fld (pv 0) (pe_fn d_kind_in hr (by decide) rfl passR (pa_cons (pv 5) pa_nil)) rfl)
 (pss_one (ps_fld (pv 0) (pe_fn d_name_in hr (by decide) rfl passR (pa_cons (pv 5) pa_nil)) rfl))))
 pss_nil))))))))))))), ?_⟩
  have hbb : ∀ i n, Sn35.le b (pl + i) n = Sn35.le (b.drop pl) i n := fun i n => (le_drop b pl i n).symm
  have bbl : (b.drop pl).length = b.length - pl := List.length_drop
  have bbB : Byt (b.drop pl) := hB.drop pl
  generalize hBB : b.drop pl = bb at *
  refine ⟨_, rfl, _, rfl, _, _, rfl, rfl, pw, b, pl + 8, 2, rfl, s0.seq hb, ?_⟩
  by_cases c0 : bb.length < 10
  ·rw [numO_none (by omega)]
   have : entOf bb = none := if_pos (.inl c0)
   rw [this] at k
   exact k
  rw [numO_some (by omega), hbb 8 2]
  generalize hl : Sn35.le bb 8 2 = l
  refine ⟨_, rfl, fldS T.o_Entry ini.at dk (by decide) fun H2 o1 e1 => ?_⟩
  have s1 := s0.put ini.new e1
  refine ⟨_, rfl, _, _, (o1.at).dx, (o1.at).fs, _, rfl, (o1.at).e, T.o_Entry.cl, T.o_Entry.na _ dk, (o1.at).get lk0, _, _, rfl, rfl, by show (0 : Int) < 8; decide, rfl, _, rfl, iteE (fun c1 => ?_) (fun c1 => ?_)⟩
  case refine_2 =>
   have : entOf bb = none := if_pos (.inr (.inl (by rw [hl]; omega)))
   rw [this] at k
   exact ⟨_, rfl, k _⟩
  refine ⟨_, rfl, _, _, (o1.at).dx, (o1.at).fs, _, rfl, (o1.at).e, T.o_Entry.cl, T.o_Entry.na _ dk, (o1.at).get lk0, _, _, rfl, rfl, _, rfl, iteP (fun c2 => ?_) (fun c2 => ?_)⟩
  case refine_2 =>
   have : entOf bb = none := if_pos (.inr (.inr (.inl (by rw [hl]; omega))))
   rw [this] at k
   exact k _
  refine ⟨_, Fg.refl _, ?_⟩
  refine ⟨_, rfl, _, rfl, _, rfl, _, _, (o1.at).dx, (o1.at).fs, _, rfl, (o1.at).e, T.o_Entry.cl, T.o_Entry.na _ dk, (o1.at).get lk0, pw, b, pl, l, rfl, s1.seq hb, ?_⟩
  by_cases c3 : bb.length < l
  ·rw [part_none (by omega)]
   have : entOf bb = none := if_pos (.inr (.inr (.inr (.inl (by rw [hl]; exact c3)))))
   rw [this] at k
   exact k
  rw [part_some (by omega), hBB]
  intro pd hpd
  generalize hd : bb.take l = d
  have dl : d.length = l := by rw [← hd, List.length_take]; omega
  have dB : Byt d := by rw [← hd]; exact bbB.take l
  have led : ∀ i n, i + n ≤ l → Sn35.le d i n = Sn35.le bb i n := fun i n z => by rw [← hd]; exact le_take z
  have sB : Same H1 (upd H1 pd (.lst (vN d))) := Same.new (s1.free hpd)
  have nB : (upd H1 pd (.lst (vN d))) x = none := by rw [upd_ne (ne_of_none o1.at.e hpd)]; exact ini.new
  have bB : Bs K (upd H1 pd (.lst (vN d))) pd d := SqL.of upd_same
  have s2 : Same (upd H1 pd (.lst (vN d))) (upd H2 pd (.lst (vN d))) := s1.grow
  have o2 := o1.up (Same.new (o := .lst (vN d)) hpd)
  generalize upd H2 pd (.lst (vN d)) = H3 at s2 o2 ⊢
  generalize upd H1 pd (.lst (vN d)) = B at sB nB bB s2
  refine ⟨_, rfl, pd, d, 12, 2, rfl, s2.seq bB, ?_⟩
  rw [numO_some (by omega), led 12 2 (by omega)]
  generalize hf : Sn35.le bb 12 2 = fl
  refine ⟨_, rfl, _, _, rfl, rfl, _, _, rfl, rfl, _, rfl, iteP (fun c4 => ?_) (fun c4 => ?_)⟩
  case refine_2 =>
   have : entOf bb = none := if_pos (.inr (.inr (.inr (.inr (.inl (by rw [hf]; omega))))))
   rw [this] at k
   exact k _
  refine ⟨_, Fg.refl _, ?_⟩
  refine ⟨_, rfl, pd, d, 0, 6, rfl, s2.seq bB, ?_⟩
  rw [numO_some (by omega), led 0 6 (by omega)]
  refine ⟨_, rfl, fldS T.o_Entry o2 dk (by decide) fun H4 o3 e3 => ?_⟩
  have s3 := s2.put nB e3
  refine ⟨_, rfl, pd, d, 6, 2, rfl, s3.seq bB, ?_⟩
  rw [numO_some (by omega), led 6 2 (by omega)]
  refine ⟨_, rfl, fldS T.o_Entry o3 dk (by decide) fun H5 o4 e4 => ?_⟩
  have s4 := s3.put nB e4
  refine ⟨_, rfl, _, _, rfl, rfl, rfl, _, rfl, fldS T.o_Entry o4 dk (by decide) fun H6 o5 e5 => ?_⟩
  have s5 := s4.put nB e5
  have el : decide (V.int (Builtin.bitAnd (fl : Int) 2) = V.int 2) = decide (2 ≤ fl) := by
   have := land_int fl 2
   rw [land_two] at this
   rw [show Builtin.bitAnd (fl : Int) 2 = ((2 * (fl / 2 % 2) : Nat) : Int) from this, Bool.eq_iff_iff, decide_eq_true_eq, decide_eq_true_eq]
   constructor
   ·intro z; have := V.int.inj z; omega
   ·intro z
    have : fl / 2 % 2 = 1 := by omega
    rw [this]; rfl
  have o5 : OAtN _ H6 A.Entry x [("is_last", .bl (decide (V.int (Builtin.bitAnd (fl : Int) 2) = V.int 2))), ("uses", .int ((Sn35.le bb 6 2 : Nat) : Int)), ("number", .int ((Sn35.le bb 0 6 : Nat) : Int)), ("length", .int (l : Int))] := o5
  rw [el] at o5
  have ef1 : Builtin.bitAnd (fl : Int) 1 = ((fl % 2 : Nat) : Int) := by
   have := land_int fl 1
   rw [Nat.and_one_is_mod] at this
   exact this
  refine ⟨fun v H' => v = vO (downOf bb l fl) ∧ H' = H6 ∧ ¬ (fl % 2 = 1 ∧ l < 24), ?_, ?_⟩
  ·refine ⟨_, rfl, _, _, rfl, rfl, rfl, _, rfl, iteE (fun c5 => ?_) (fun c5 => ?_)⟩
   ·rw [ef1] at c5
    have c5 : fl % 2 = 1 := by omega
    refine ⟨_, rfl, pd, d, rfl, s5.seq bB, ?_⟩
    by_cases c6 : l < 24
    ·rw [if_pos (by omega)]
     have : entOf bb = none := if_pos (.inr (.inr (.inr (.inr (.inr (by rw [hf, hl]; exact ⟨c5, c6⟩))))))
     rw [this] at k
     exact k
    ·rw [if_neg (by omega), dl, led (l - 8) 8 (by omega)]
     refine ⟨?_, rfl, by omega⟩
     unfold downOf
     rw [if_pos c5]; rfl
   ·rw [ef1] at c5
    refine ⟨?_, rfl, by omega⟩
    unfold downOf
    rw [if_neg (by omega)]; rfl
  rintro v H' ⟨rfl, rfl, c6⟩
  refine ⟨_, rfl, fldS T.o_Entry o5 dk (by decide) fun H7 o6 e6 => ?_⟩
  have s6 := s5.put nB e6
  refine ⟨_, rfl, fldS T.o_Entry o6 dk (by decide) fun H8 o7 e7 => ?_⟩
  have s7 := s6.put nB e7
  refine ⟨Nat.zero_le _, fun p0 hp0 => ?_⟩
  have sC : Same B (upd B p0 (.lst [])) := Same.new (s7.free hp0)
  have nC : (upd B p0 (.lst [])) x = none := by rw [upd_ne (ne_of_none o7.at.e hp0)]; exact nB
  have bC : Bs K (upd B p0 (.lst [])) p0 [] := SqL.of upd_same
  have s8 : Same (upd B p0 (.lst [])) (upd H8 p0 (.lst [])) := s7.grow
  have o8 := o7.up (Same.new (o := .lst []) hp0)
  generalize upd H8 p0 (.lst []) = H9 at s8 o8 ⊢
  generalize upd B p0 (.lst []) = B2 at sC nC bC s8
  have bD := sC.seq bB
  refine ⟨_, rfl, fldS T.o_Entry o8 dk (by decide) fun H10 o9 e9 => ?_⟩
  have s9 := s8.put nC e9
  have sH1 : Same H1 B2 := sB.trans sC
  have first : ¬ (bb.length < 10 ∨ l % 8 ≠ 0 ∨ l < 16 ∨ bb.length < l ∨ 3 < fl ∨ (fl % 2 = 1 ∧ l < 24)) := by omega
  have ent1 : entOf bb = if 2 ≤ fl then some ⟨l, ⟨Sn35.le bb 0 6, Sn35.le bb 6 2, [], 0, downOf bb l fl⟩, true⟩
    else if ownLen l fl < 82 ∨ 3 < Sn35.le bb 81 1 ∨ Sn35.le bb 80 1 < 1 ∨ Sn35.le bb 10 2 ≠ 66 + 2 * Sn35.le bb 80 1 ∨ ownLen l fl < 82 + 2 * Sn35.le bb 80 1 ∨ goodName (lets bb 82 (Sn35.le bb 80 1)) = false then none
    else some ⟨l, ⟨Sn35.le bb 0 6, Sn35.le bb 6 2, lets bb 82 (Sn35.le bb 80 1), Sn35.le bb 81 1, downOf bb l fl⟩, false⟩ := by
   unfold entOf
   rw [hl, hf, if_neg first]
  refine ⟨_, rfl, _, _, (o9.at).dx, (o9.at).fs, _, rfl, (o9.at).e, T.o_Entry.cl, T.o_Entry.na _ dk, (o9.at).get (lkS dk (lkS dk (lkS dk lk0))), _, rfl, iteN (fun c7 => ?_) (fun c7 => ?_)⟩
  case refine_2 =>
   have ee := ent1
   rw [if_pos c7] at ee
   rw [ee] at k
   have o9 := o9.at
   rw [decide_eq_true c7] at o9
   exact ⟨_, Fg.refl _, k H10 (sH1.trans s9) ⟨p0, o9, s9.seq bC, entOf_ok bbB ee⟩⟩
  rw [if_neg c7] at ent1
  have hol : ownLen l fl ≤ l := by unfold ownLen; split <;> omega
  have ol16 : ownLen l fl = if fl % 2 = 1 then l - 8 else l := rfl
  refine ⟨fun v H' => ∃ po, v = .ref po ∧ Same H10 H' ∧ Bs K H' po (d.take (ownLen l fl)), ?_, ?_⟩
  ·refine ⟨_, rfl, _, _, (o9.at).dx, (o9.at).fs, _, rfl, (o9.at).e, T.o_Entry.cl, T.o_Entry.na _ dk, (o9.at).get (lkS dk (lkS dk lk0)), rfl, _, rfl, iteP (fun c8 => ?_) (fun c8 => ?_)⟩
   ·have hz : ¬ fl % 2 = 1 := fun z => by
     unfold downOf at c8
     rw [if_pos z] at c8; cases c8
    refine ⟨_, rfl, pd, rfl, Same.refl _, ?_⟩
    rw [ol16, if_neg hz, List.take_of_length_le (by omega)]
    exact s9.seq bD
   ·have hz : fl % 2 = 1 := Classical.byContradiction fun z => c8 (by unfold downOf; rw [if_neg z]; rfl)
    refine ⟨_, rfl, _, rfl, _, _, (o9.at).dx, (o9.at).fs, _, rfl, (o9.at).e, T.o_Entry.cl, T.o_Entry.na _ dk, (o9.at).get (lkS dk (lkS dk (lkS dk (lkS dk (lkS dk (lkS dk lk0)))))), _, _, rfl, rfl, _, rfl, pd, vN d, rfl, s9.seq bD, fun p hp => ?_⟩
    have el8 : ((l : Int) - 8) = ((l - 8 : Nat) : Int) := by omega
    rw [el8, cut_take (by omega), ol16, if_pos hz]
    exact ⟨p, rfl, Same.new hp, SqL.of upd_same⟩
  rintro v H11 ⟨po, rfl, s11, bo⟩
  have o10 := o9.up s11
  have s10 := s9.trans s11
  generalize hob : d.take (ownLen l fl) = ob at bo
  have obl : ob.length = ownLen l fl := by rw [← hob, List.length_take]; omega
  have obB : Byt ob := by rw [← hob]; exact dB.take _
  have leo : ∀ i n, i + n ≤ ownLen l fl → Sn35.le ob i n = Sn35.le bb i n := fun i n z => by rw [← hob, le_take z]; exact led i n (by omega)
  refine ⟨_, rfl, po, ob, rfl, bo, ?_⟩
  have kbad : (ownLen l fl < 82 ∨ 3 < Sn35.le bb 81 1 ∨ Sn35.le bb 80 1 < 1 ∨ Sn35.le bb 10 2 ≠ 66 + 2 * Sn35.le bb 80 1 ∨ ownLen l fl < 82 + 2 * Sn35.le bb 80 1 ∨ goodName (lets bb 82 (Sn35.le bb 80 1)) = false) → ∀ H', E (.ref A.NotSo) none H' := fun z => by
   rw [ent1, if_pos z] at k
   exact k
  by_cases c9 : ownLen l fl < 82
  ·rw [if_pos (.inl (by omega))]
   exact kbad (.inl c9)
  rw [leo 81 1 (by omega)]
  by_cases c10 : 3 < Sn35.le bb 81 1
  ·rw [if_pos (.inr c10)]
   exact kbad (.inr (.inl c10))
  rw [if_neg (by omega)]
  refine ⟨_, rfl, fldS T.o_Entry o10 dk (by decide) fun H12 o11 e11 => ?_⟩
  have s12 := s10.put nC e11
  have bo2 : Bs K H12 po ob := bo.put o10.at.e e11
  refine ⟨_, rfl, po, ob, rfl, bo2, obB, ?_⟩
  have ename : nameP ob = if Sn35.le bb 80 1 < 1 ∨ Sn35.le bb 10 2 ≠ 66 + 2 * Sn35.le bb 80 1 ∨ ownLen l fl < 82 + 2 * Sn35.le bb 80 1 ∨ goodName (lets bb 82 (Sn35.le bb 80 1)) = false then none else some (lets bb 82 (Sn35.le bb 80 1)) := by
   unfold nameP
   rw [leo 80 1 (by omega), leo 10 2 (by omega), obl]
   by_cases c11 : Sn35.le bb 80 1 < 1 ∨ Sn35.le bb 10 2 ≠ 66 + 2 * Sn35.le bb 80 1 ∨ ownLen l fl < 82 + 2 * Sn35.le bb 80 1
   ·rw [if_pos (by omega), if_pos (by omega)]
   ·have elt : lets ob 82 (Sn35.le bb 80 1) = lets bb 82 (Sn35.le bb 80 1) := by
     rw [← hob, lets_take (by omega), ← hd, lets_take (by omega)]
    rw [elt]
    by_cases c12 : goodName (lets bb 82 (Sn35.le bb 80 1)) = false
    ·rw [if_pos (.inr (.inr (.inr (.inr c12)))), if_pos (.inr (.inr (.inr c12)))]
    ·rw [if_neg (by
      rintro (z | z | z | z | z)
      ·omega
      ·exact c11 (.inl z)
      ·exact c11 (.inr (.inl z))
      ·exact c11 (.inr (.inr z))
      ·exact c12 z), if_neg (by
      rintro (z | z | z | z)
      ·exact c11 (.inl z)
      ·exact c11 (.inr (.inl z))
      ·exact c11 (.inr (.inr z))
      ·exact c12 z)]
  rw [ename]
  by_cases c11 : Sn35.le bb 80 1 < 1 ∨ Sn35.le bb 10 2 ≠ 66 + 2 * Sn35.le bb 80 1 ∨ ownLen l fl < 82 + 2 * Sn35.le bb 80 1 ∨ goodName (lets bb 82 (Sn35.le bb 80 1)) = false
  ·rw [if_pos c11]
   exact kbad (.inr (.inr c11))
  rw [if_neg c11]
  rw [if_neg (by
   rintro (z | z | z)
   ·exact c9 z
   ·exact c10 z
   ·exact c11 z)] at ent1
  rw [ent1] at k
  have eok := entOf_ok bbB ent1
  generalize hnm : lets bb 82 (Sn35.le bb 80 1) = nm at k eok ⊢
  intro pn hpn
  have sD : Same B2 (upd B2 pn (.lst (vN nm))) := Same.new (s12.free hpn)
  have nD : (upd B2 pn (.lst (vN nm))) x = none := by rw [upd_ne (ne_of_none o11.at.e hpn)]; exact nC
  have bE : Bs K (upd B2 pn (.lst (vN nm))) pn nm := SqL.of upd_same
  have s13 : Same (upd B2 pn (.lst (vN nm))) (upd H12 pn (.lst (vN nm))) := s12.grow
  have o12 := o11.up (Same.new (o := .lst (vN nm)) hpn)
  generalize upd H12 pn (.lst (vN nm)) = H13 at s13 o12 ⊢
  generalize upd B2 pn (.lst (vN nm)) = B3 at sD nD bE s13
  refine ⟨_, rfl, fldS T.o_Entry o12 dk (by decide) fun H14 o13 e13 => ?_⟩
  have s14 := s13.put nD e13
  have o13 := o13.at.lk fun g => lk_shadow g
  rw [decide_eq_false c7] at o13
  exact ⟨_, Fg.refl _, k H14 ((sH1.trans sD).trans s14) ⟨pn, o13, s14.seq bE, eok⟩⟩
end
end Sv
end
section
namespace Sv
open PySem PySem.Spec L2
theorem cut_drop {l : List Nat} (n : Nat) : cutV (vN l) (some (n : Int)) none = vN (l.drop n) := by
 unfold cutV
 rw [HT.sIx_nat, HT.sIx_none, vN_len]
 by_cases h : n ≤ l.length
 ·rw [Nat.min_eq_left h]
  rw [List.take_of_length_le (by rw [List.length_drop, vN_len]; exact Nat.le_refl _)]
  simp [vN, List.map_drop]
 ·rw [Nat.min_eq_right (by omega), List.drop_eq_nil_of_le (show l.length ≤ n by omega)]
  simp [vN]
theorem entsX_nil (hb : Bool) : entsX hb [] = none := by rw [entsX_rec]; rfl
section
variable {P : Program} {w : World} {K : Frag} {mg : Str → Option Value} {base : Heap} {A : Adr} {f : Addr} {fd : FuncData}
noncomputable def spNodeE (K : Frag) (A : Adr) : Sp := fun vs H Q E => ∃ (a : Addr) (b : List Nat) (i : Nat), vs = [.ref a, .int i] ∧ Bs K H a b ∧ Byt b ∧ b.length ≤ 2 ^ 20 ∧ Orr A.NotSo E (nodeP b i) fun l => ∀ p H', Same H H' → LOf (IsEnt K A) H' p l → Q (.ref p) H'
theorem sc_node_entries : FnScope ["data", "place", "holder", "begin", "within", "has_blocks", "entries", "at_end", "entry"] ["data", "place"] (defScope s_node_entries) := ⟨rfl, rfl, rfl, dk, rfl, dk, dk⟩
noncomputable abbrev Dq35 (P : Program) (w : World) (K : Frag) (mg : Str → Option Value) (base : Heap) (A : Adr) : Prop := DefC P w K mg base 6 "Entry" A.Entry ["self", "within", "place"] (spEntInit K A)
theorem ok_node_entries (F : Fun K "node_entries" "node_entries" s_node_entries f fd) (T : Txt K mg A) (d_must : Dq1 P w K mg base A) (d_part : Dq3 P w K mg base A)
  (d_number_at : Dq2 P w K mg base A) (d_Entry : Dq35 P w K mg base A) :
  FnOk P w K mg base (CXR P w) 8 f fd ["data", "place"] (spNodeE K A) := by
 refine F.okR sc_node_entries (fun vs H Q E h => ?_) (fun cdv A' outer s H vs Q E hr h => ?_)
 ·obtain ⟨a, b, i, rfl, _⟩ := h
  rfl
 ·obtain ⟨a, b, i, rfl, hb, hB, hlen, k⟩ := h
  refine ⟨_, (pss_cons (ps_set (i := 2) sc_node_entries.nd rfl (Or.inl rfl) (pe_slice sl_list (pv 0) (po_some (pv 1)) po_none))
 (pss_cons (ps_set (i := 3) sc_node_entries.nd rfl (Or.inl rfl) (pe_fn d_number_at hr (by decide) rfl passR (pa_cons (pv 2) (pa_cons pe_int (pa_cons pe_int pa_nil)))))
 (pss_cons (ps_must d_must hr (by decide) rfl passR (pe_and (pe_cmpR op_eq (pe_op op_mod (pv 3) pe_int) pe_int (nomark _)) (pe_one (pe_cmpR op_ge (pv 3) pe_int (nomark _)))))
 (pss_cons (ps_set (i := 4) sc_node_entries.nd rfl (Or.inl rfl) (pe_fn d_part hr (by decide) rfl passR (pa_cons (pv 2) (pa_cons pe_int (pa_cons (pe_fn d_number_at hr (by decide) rfl passR (pa_cons (pv 2) (pa_cons pe_int (pa_cons pe_int pa_nil)))) pa_nil)))))
 (pss_cons (ps_set (i := 5) sc_node_entries.nd rfl (Or.inl rfl) (pe_cmpR op_eq (pe_op op_and (pe_fn d_number_at hr (by decide) rfl passR (pa_cons (pv 2) (pa_cons pe_int (pa_cons pe_int pa_nil)))) pe_int) pe_int (nomark _)))
 (pss_cons (ps_set (i := 6) sc_node_entries.nd rfl (Or.inl rfl) (pe_lst pa_nil))
 (pss_cons (ps_set (i := 7) sc_node_entries.nd rfl (Or.inl rfl) pe_bl)
 (pss_cons (ps_while PassesOwn.leaving (pt_not (pt_val (pv 7)))
 (pss_cons (ps_set (i := 8) sc_node_entries.nd rfl (Or.inl rfl) (pe_hide rfl (pe_new d_Entry hr (by decide) rfl passR (pa_cons (pv 4) (pa_cons (pv 3) pa_nil)))))
 (pss_cons (ps_must d_must hr (by decide) rfl passR (pe_cmpR op_eq (pe_cmpR op_notN (pe_fld (pv 8) rfl) pe_non (nomark _)) (pv 5) (nomark _)))
 (pss_cons (ps_expr (pe_bm PySem.F.plainAttrs_list PySem.F.slot_list_append PySem.F.type_list_append mt_append (pv 6) (pa_cons (pv 8) pa_nil)))
 (pss_cons (ps_set (i := 3) sc_node_entries.nd rfl (Or.inl rfl) (pe_op op_add (pv 3) (pe_fld (pv 8) rfl)))
 (pss_one (ps_set (i := 7) sc_node_entries.nd rfl (Or.inl rfl) (pe_fld (pv 8) rfl))))))))
 (pss_one (ps_ret (pv 6))))))))))), ?_⟩
  refine ⟨_, rfl, _, rfl, _, rfl, a, vN b, rfl, hb, fun ph hph => ?_⟩
  rw [cut_drop]
  generalize hho : b.drop i = ho
  have hol : ho.length = b.length - i := by rw [← hho, List.length_drop]
  have hoB : Byt ho := by rw [← hho]; exact hB.drop i
  have lho : ∀ j n, Sn35.le ho j n = Sn35.le b (i + j) n := fun j n => by rw [← hho]; exact le_drop b i j n
  have s1 : Same H (upd H ph (.lst (vN ho))) := Same.new hph
  have bh : Bs K (upd H ph (.lst (vN ho))) ph ho := SqL.of upd_same
  generalize upd H ph (.lst (vN ho)) = H2 at s1 bh ⊢
  have kbad : nodeP b i = none → ∀ H', E (.ref A.NotSo) none H' := fun z => by rw [z] at k; exact k
  have nshort : b.length < i + 16 → nodeP b i = none := fun z => if_pos (.inl z)
  refine ⟨_, rfl, ph, ho, 0, 4, rfl, bh, ?_⟩
  by_cases c0 : ho.length < 4
  ·rw [numO_none (by omega)]
   exact kbad (nshort (by omega))
  rw [numO_some (by omega), lho 0 4, Nat.add_zero]
  generalize hbg : Sn35.le b i 4 = bg0
  refine ⟨_, rfl, _, _, rfl, rfl, by show (0 : Int) < 8; decide, rfl, _, rfl, iteE (fun c1 => ?_) (fun c1 => ?_)⟩
  case refine_2 => exact ⟨_, rfl, kbad (if_pos (.inr (.inr (.inl (by rw [hbg]; omega))))) _⟩
  refine ⟨_, rfl, _, _, rfl, rfl, _, rfl, iteP (fun c2 => ?_) (fun c2 => ?_)⟩
  case refine_2 => exact kbad (if_pos (.inr (.inr (.inr (by rw [hbg]; omega))))) _
  refine ⟨_, Fg.refl _, ?_⟩
  refine ⟨_, rfl, _, rfl, ph, ho, 4, 4, rfl, bh, ?_⟩
  by_cases c3 : ho.length < 8
  ·rw [numO_none (by omega)]
   exact kbad (nshort (by omega))
  rw [numO_some (by omega), lho 4 4]
  generalize hn : Sn35.le b (i + 4) 4 = n0
  refine ⟨ph, ho, 0, n0, rfl, bh, ?_⟩
  by_cases c4 : ho.length < n0
  ·rw [part_none (by omega)]
   exact kbad (if_pos (.inr (.inl (by rw [hn]; omega))))
  rw [part_some (by omega), List.drop_zero]
  intro pw hpw
  generalize hwi : ho.take n0 = wi
  have wil : wi.length = n0 := by rw [← hwi, List.length_take]; omega
  have wiB : Byt wi := by rw [← hwi]; exact hoB.take n0
  have s2 : Same H (upd H2 pw (.lst (vN wi))) := s1.trans (Same.new hpw)
  have bh2 := (Same.new (o := .lst (vN wi)) hpw).seq bh
  have bw : Bs K (upd H2 pw (.lst (vN wi))) pw wi := SqL.of upd_same
  generalize upd H2 pw (.lst (vN wi)) = H3 at s2 bh2 bw ⊢
  refine ⟨_, rfl, ph, ho, 12, 1, rfl, bh2, ?_⟩
  by_cases c5 : ho.length < 13
  ·rw [numO_none (by omega)]
   exact kbad (nshort (by omega))
  rw [numO_some (by omega), lho 12 1]
  generalize hfl : Sn35.le b (i + 12) 1 = fl
  refine ⟨_, _, rfl, rfl, rfl, ?_⟩
  have ehb : decide (V.int (Builtin.bitAnd (fl : Int) 1) = V.int 1) = (fl % 2 == 1) := by
   have := land_int fl 1
   rw [Nat.and_one_is_mod] at this
   rw [show Builtin.bitAnd (fl : Int) 1 = ((fl % 2 : Nat) : Int) from this, Bool.eq_iff_iff, decide_eq_true_eq, beq_iff_eq]
   constructor
   ·intro z; have := V.int.inj z; omega
   ·intro z; rw [z]; rfl
  dsimp only
  rw [show (1 : Int) = 1 from rfl, ehb]
  generalize hhb : (fl % 2 == 1) = hasb
  have hR : nodeP b i = entsX hasb (wi.drop bg0) := by
   by_cases c6 : b.length < i + 16
   ·rw [nshort c6, List.drop_eq_nil_of_le (by omega), entsX_nil]
   ·unfold nodeP
    rw [hbg, hn, hfl, hhb, hho, hwi, if_neg (by omega)]
  refine ⟨Nat.zero_le _, fun pf hpf => ?_⟩
  let W : Nat → List (Option V) → Hp → Prop := fun m σ H' => ∃ (bg : Nat) (ae : Bool) (v8 : Option V) (B : Hp) (as : List Addr) (es : List Ent), σ = [some (.ref a), some (.int i), some (.ref ph), some (.int bg), some (.ref pw), some (.bl hasb), some (.ref pf), some (.bl ae), v8] ∧
   m = (if ae = true then 0 else wi.length - bg + 1) ∧ upd B pf (.lst (as.map V.ref)) = H' ∧ B pf = none ∧ Same H3 B ∧ Objs (IsEnt K A) B as es ∧ es.length ≤ bg ∧ (ae = false → nodeP b i = (entsX hasb (wi.drop bg)).map (es ++ ·)) ∧ (ae = true → nodeP b i = some es)
  refine ⟨W, ⟨_, bg0, false, none, H3, [], [], rfl, rfl, rfl, hpf, Same.refl _, .nil, Nat.zero_le _, fun _ => by rw [hR]; simp, fun z => by cases z⟩, ?_⟩
  rintro m σ H' ⟨bg, ae, v8, B, as, es, rfl, rfl, rfl, hB0, sB, ob, hel, hR0, hR1⟩
  have sH : Same B (upd B pf (.lst (as.map V.ref))) := Same.new hB0
  refine ⟨_, rfl, _, rfl, ?_⟩
  cases ae with
  | true =>
   have hR1 := hR1 rfl
   rw [hR1] at k
   refine iteF ?_
   exact ⟨_, rfl, _, Fg.refl _, k pf _ ((s2.trans sB).trans sH) ((ob.up fun _ _ z => z.up sH).lof upd_same)⟩
  | false =>
  have hR0 := hR0 rfl
  refine iteT ?_
  refine ⟨fun σ H' => ∃ m', m' < wi.length - bg + 1 ∧ W m' σ H', fun _ _ z => z, ?_⟩
  refine ⟨pf, _, upd_same, trivial, ?_⟩
  rw [del_upd hB0]
  refine ⟨_, rfl, _, rfl, fun x dx hx hdx hne => ?_⟩
  refine ⟨x, B, pw, wi, bg, rfl, .of hx hdx hne, sB.seq bw, wiB, ?_⟩
  rw [entsX_rec] at hR0
  cases hen : entOf (wi.drop bg) with
  | none =>
   rw [hen] at hR0
   exact kbad hR0
  | some e1 =>
  rw [hen] at hR0
  obtain ⟨len1, len2, len3⟩ := entOf_len hen
  rw [List.length_drop] at len3
  intro H4 s4 ie
  refine ⟨rfl, fun hq => ?_⟩
  have sH4 : Same H4 (upd H4 pf (.lst (as.map V.ref))) := Same.new hq
  obtain ⟨pn, oe, bn, eok⟩ := id (ie.up sH4)
  refine ⟨_, rfl, _, _, (oe).dx, (oe).fs, _, rfl, (oe).e, T.o_Entry.cl, T.o_Entry.na _ dk, (oe).get (lkS dk (lkS dk lk0)), rfl, _, rfl, rfl, _, rfl, ?_⟩
  have edn : (!decide (vO e1.e.down = V.non)) = e1.e.down.isSome := by
   cases e1.e.down with
   | none => rfl
   | some z => rfl
  rw [edn]
  refine iteP (fun c6 => ?_) (fun c6 => ?_)
  case refine_2 =>
   have c6 : ¬ e1.e.down.isSome = hasb := fun z => c6 (by rw [z])
   have hR0 : nodeP b i = ((if e1.e.down.isSome = hasb then (if e1.last = true then some [e1] else (entsX hasb ((wi.drop bg).drop e1.len)).map (e1 :: ·)) else none) : Option (List Ent)).map (es ++ ·) := hR0
   rw [if_neg c6] at hR0
   exact kbad hR0 _
  have c6 : e1.e.down.isSome = hasb := V.bl.inj c6
  have hR0 : nodeP b i = ((if e1.e.down.isSome = hasb then (if e1.last = true then some [e1] else (entsX hasb ((wi.drop bg).drop e1.len)).map (e1 :: ·)) else none) : Option (List Ent)).map (es ++ ·) := hR0
  rw [if_pos c6, List.drop_drop] at hR0
  refine ⟨_, Fg.refl _, ?_⟩
  refine ⟨_, rfl, .inl ⟨rfl, _, SqL.of upd_same⟩, _, rfl, pf, as.map V.ref, _, rfl, rfl, upd_same, ?_, ?_⟩
  ·rw [List.length_map, ob.1]
   exact Nat.lt_of_le_of_lt hel (by show bg < 16777216; omega)
  rw [upd_upd]
  have sH5 : Same H4 (upd H4 pf (.lst (as.map V.ref ++ [V.ref x]))) := Same.new hq
  obtain ⟨pn', oe', _, _⟩ := id (ie.up sH5)
  refine ⟨_, rfl, _, rfl, _, _, (oe').dx, (oe').fs, _, rfl, (oe').e, T.o_Entry.cl, T.o_Entry.na _ dk, (oe').get (lkS dk (lkS dk (lkS dk (lkS dk (lkS dk (lkS dk lk0)))))), _, _, rfl, rfl, ?_⟩
  refine ⟨_, rfl, _, _, (oe').dx, (oe').fs, _, rfl, (oe').e, T.o_Entry.cl, T.o_Entry.na _ dk, (oe').get (lkS dk (lkS dk (lkS dk lk0))), ?_⟩
  refine ⟨if e1.last = true then 0 else wi.length - (bg + e1.len) + 1, ?_, bg + e1.len, e1.last, some (V.ref x), H4, as ++ [x], es ++ [e1], ?_, rfl, by rw [List.map_append]; rfl, hq, sB.trans s4, (ob.up fun _ _ z => z.up s4).snoc ie, ?_, fun z => ?_, fun z => ?_⟩
  ·split <;> omega
  ·show [some (V.ref a), some (V.int i), some (V.ref ph), some (V.int ((bg : Int) + (e1.len : Int))), some (V.ref pw), some (V.bl hasb), some (V.ref pf), some (V.bl e1.last), some (V.ref x)] = _
   rw [show ((bg : Int) + (e1.len : Int)) = ((bg + e1.len : Nat) : Int) by omega]
  ·rw [List.length_append]
   show es.length + 1 ≤ bg + e1.len
   omega
  ·rw [hR0, if_neg (by rw [z]; decide)]
   cases entsX hasb (wi.drop (bg + e1.len)) with
   | none => rfl
   | some l => simp
  ·rw [hR0, if_pos z]
   rfl
end
end Sv
end
section
namespace Sv
open PySem PySem.Spec L2
theorem i30 : (Str.ofString "$I30").cps.toList = Sn35.I30 := by decide +kernel
section
variable {P : Program} {w : World} {K : Frag} {mg : Str → Option Value} {base : Heap} {A : Adr} {f : Addr} {fd : FuncData}
noncomputable def spFirst (K : Frag) (A : Adr) : Sp := fun vs H Q E => ∃ (py pr : Addr) (v : Sn35.Volume) (r : Sn35.Rec), vs = [.ref py, .ref pr] ∧ IsLayout K A H py v ∧ IsRec K A H pr r ∧ Orr A.NotSo E (firstP v r) fun l => ∀ p H', Same H H' → LOf (IsEnt K A) H' p l → Q (.ref p) H'
theorem sc_first_node_entries : FnScope ["layout", "record", "attribute", "content"] ["layout", "record"] (defScope s_first_node_entries) := ⟨rfl, rfl, rfl, dk, rfl, dk, dk⟩
noncomputable abbrev Dq16 (P : Program) (w : World) (K : Frag) (mg : Str → Option Value) (base : Heap) (A : Adr) : Prop := Def P w K mg base 8 "node_entries" ["data", "place"] (spNodeE K A)
theorem ok_first_node_entries (F : Fun K "first_node_entries" "first_node_entries" s_first_node_entries f fd) (T : Txt K mg A) (d_must : Dq1 P w K mg base A) (d_number_at : Dq2 P w K mg base A)
  (d_attribute : Dq5 P w K mg base A) (d_held : Dq6 P w K mg base A) (d_node_entries : Dq16 P w K mg base A) :
  FnOk P w K mg base (CXR P w) 9 f fd ["layout", "record"] (spFirst K A) := by
 refine F.okR sc_first_node_entries (fun vs H Q E h => ?_) (fun cdv A' outer s H vs Q E hr h => ?_)
 ·obtain ⟨py, pr, v, r, rfl, _⟩ := h
  rfl
 ·obtain ⟨py, pr, v, r, rfl, iL, ir, k⟩ := h
  obtain ⟨pa, orc, la, rok, rsm⟩ := id ir
  obtain ⟨pi, img, oL, hbi, hvi, vok⟩ := id iL
  refine ⟨_, (pss_cons (ps_set (i := 2) sc_first_node_entries.nd rfl (Or.inl rfl) (pe_mth (pv 1) d_attribute hr (by decide) passR (pa_cons (pe_gc T.c_FIRST_NODE rfl) (pa_cons (pe_gc T.c_FOLDER_NAME rfl) pa_nil))))
 (pss_cons (ps_must d_must hr (by decide) rfl passR (pe_cmpR op_notN (pv 2) pe_non (nomark _)))
 (pss_cons (ps_must d_must hr (by decide) rfl passR (pe_not (pe_fld (pv 2) rfl)))
 (pss_cons (ps_set (i := 3) sc_first_node_entries.nd rfl (Or.inl rfl) (pe_fld (pe_fn d_held hr (by decide) rfl passR (pa_cons (pv 0) (pa_cons (pv 2) pa_nil))) rfl))
 (pss_cons (ps_must d_must hr (by decide) rfl passR (pe_cmpR op_eq (pe_fn d_number_at hr (by decide) rfl passR (pa_cons (pv 3) (pa_cons pe_int (pa_cons pe_int pa_nil)))) pe_int (nomark _)))
 (pss_cons (ps_must d_must hr (by decide) rfl passR (pe_cmpR op_eq (pe_fn d_number_at hr (by decide) rfl passR (pa_cons (pv 3) (pa_cons pe_int (pa_cons pe_int pa_nil)))) pe_int (nomark _)))
 (pss_cons (ps_must d_must hr (by decide) rfl passR (pe_cmpR op_eq (pe_fn d_number_at hr (by decide) rfl passR (pa_cons (pv 3) (pa_cons pe_int (pa_cons pe_int pa_nil)))) (pe_fld (pv 0) rfl) (nomark _)))
 (pss_one (ps_ret (pe_fn d_node_entries hr (by decide) rfl passR (pa_cons (pv 3) (pa_cons pe_int pa_nil)))))))))))), ?_⟩
  unfold firstP at k
  refine ⟨_, rfl, pr, _, _, rfl, orc.e, orc.get (lkS dk (lkS dk (lkS dk rfl))), ?_⟩
  refine ⟨pr, 0x90, "$I30", r, rfl, dk, ir, fun y hy => ?_⟩
  rw [i30] at hy
  cases hfd : r.find 0x90 Sn35.I30 with
  | none =>
   rw [hfd] at hy k
   obtain rfl : y = .non := hy
   exact ⟨_, rfl, rfl, _, rfl, iteN (fun z => absurd rfl z) (fun _ => k _)⟩
  | some a =>
  rw [hfd] at hy k
  simp only [Option.bind_some] at k
  obtain ⟨pq, rfl, ia⟩ := hy
  refine ⟨_, rfl, rfl, _, rfl, iteN (fun _ => ?_) (fun z => by cases z)⟩
  refine ⟨_, Fg.refl _, ?_⟩
  obtain ⟨pd, pn, oa, b1, b2, aok, al⟩ := id ia
  have asm := find_small ir hfd
  refine ⟨_, rfl, _, _, (oa).dx, (oa).fs, _, rfl, (oa).e, T.o_Attribute.cl, T.o_Attribute.na _ dk, (oa).get (lkS dk lk0), _, rfl, _, rfl, iteN (fun c1 => ?_) (fun c1 => ?_)⟩
  case refine_2 =>
   rw [if_pos c1] at k
   exact k _
  rw [if_neg c1] at k
  refine ⟨_, Fg.refl _, ?_⟩
  refine ⟨_, rfl, _, rfl, py, pq, v, a, rfl, iL, ia, asm, ?_⟩
  cases hc : Sn35.content v a with
  | none =>
   rw [hc] at k
   exact k
  | some c =>
  rw [hc] at k
  simp only [Option.bind_some] at k
  intro p H2 s2 ih
  obtain ⟨ck, cs⟩ := contOk_here (v := v) aok (by have := aok.cl; omega) hc
  rcases ih with ⟨pc, b, oh, bb, hin, cok⟩ | ⟨_, _, _, _, _, hin, _⟩
  case inr => rw [hin] at cs; cases cs
  rw [hin] at k
  have k : Orr A.NotSo E (if b.length < 12 ∨ Sn35.le b 0 4 ≠ 0x30 ∨ Sn35.le b 4 4 ≠ 1 ∨ Sn35.le b 8 4 ≠ v.block then none else nodeP b 16) fun l => ∀ p H', Same H H' → LOf (IsEnt K A) H' p l → Q (.ref p) H' := k
  refine ⟨_, _, (oh).dx, (oh).fs, _, rfl, (oh).e, T.o_HeldHere.cl, T.o_HeldHere.na _ dk, (oh).get (lkS dk lk0), ?_⟩
  have bB : Byt b := (cok.here b hin).2
  have blen : b.length ≤ 2 ^ 20 := by
   rw [content_here aok (by have := aok.cl; omega)] at hc
   obtain ⟨x, hx, rfl⟩ := Option.map_eq_some_iff.mp hc
   cases hin
   obtain ⟨q1, q2, q3⟩ := part_len hx
   omega
  refine ⟨_, rfl, pc, b, 0, 4, rfl, bb, ?_⟩
  by_cases c2 : b.length < 12
  ·rw [if_pos (.inl c2)] at k
   by_cases c3 : b.length < 4
   ·rw [numO_none (by omega)]
    exact k
   rw [numO_some (by omega)]
   refine ⟨rfl, _, rfl, iteE (fun _ => ?_) (fun _ => k _)⟩
   refine ⟨_, Fg.refl _, _, rfl, pc, b, 4, 4, rfl, bb, ?_⟩
   by_cases c4 : b.length < 8
   ·rw [numO_none (by omega)]
    exact k
   rw [numO_some (by omega)]
   refine ⟨rfl, _, rfl, iteE (fun _ => ?_) (fun _ => k _)⟩
   refine ⟨_, Fg.refl _, _, rfl, pc, b, 8, 4, rfl, bb, ?_⟩
   rw [numO_none (by omega)]
   exact k
  rw [numO_some (by omega)]
  refine ⟨rfl, _, rfl, iteE (fun c5 => ?_) (fun c5 => ?_)⟩
  case refine_2 =>
   rw [if_pos (.inr (.inl (by omega)))] at k
   exact k _
  refine ⟨_, Fg.refl _, _, rfl, pc, b, 4, 4, rfl, bb, ?_⟩
  rw [numO_some (by omega)]
  refine ⟨rfl, _, rfl, iteE (fun c6 => ?_) (fun c6 => ?_)⟩
  case refine_2 =>
   rw [if_pos (.inr (.inr (.inl (by omega))))] at k
   exact k _
  refine ⟨_, Fg.refl _, _, rfl, pc, b, 8, 4, rfl, bb, ?_⟩
  rw [numO_some (by omega)]
  refine ⟨_, rfl, _, _, ((oL.up s2)).dx, ((oL.up s2)).fs, _, rfl, ((oL.up s2)).e, T.o_Layout.cl, T.o_Layout.na _ dk, ((oL.up s2)).get lk0, rfl, _, rfl, iteE (fun c7 => ?_) (fun c7 => ?_)⟩
  case refine_2 =>
   rw [if_pos (.inr (.inr (.inr (by omega))))] at k
   exact k _
  rw [if_neg (by omega)] at k
  refine ⟨_, Fg.refl _, ?_⟩
  refine ⟨_, rfl, pc, b, 16, rfl, bb, bB, blen, ?_⟩
  cases hn : nodeP b 16 with
  | none =>
   rw [hn] at k
   exact k
  | some l =>
  rw [hn] at k
  exact fun p3 H3 s3 ll => ⟨_, Fg.refl _, k p3 H3 (s2.trans s3) ll⟩
noncomputable def OptBlk (K : Frag) (A : Adr) (v : Sn35.Volume) (H : Hp) (x : V) (m : Option Sn35.Content) : Prop := match m with
 | none => x = .non
 | some c => ∃ p, x = .ref p ∧ IsHeld K A v H p c
theorem OptBlk.up {v : Sn35.Volume} {H H' : Hp} {x : V} {m : Option Sn35.Content} (s : Same H H') (h : OptBlk K A v H x m) : OptBlk K A v H' x m := by
 cases m with
 | none => exact h
 | some c => obtain ⟨p, e, q⟩ := h; exact ⟨p, e, q.up s⟩
theorem OptBlk.apart {v : Sn35.Volume} {H H' : Hp} {x : V} {y : Addr} {m : Option Sn35.Content} (a : Apart H H' y apKeys) (h : OptBlk K A v H x m) : OptBlk K A v H' x m := by
 cases m with
 | none => exact h
 | some c => obtain ⟨p, e, q⟩ := h; exact ⟨p, e, q.apart a⟩
noncomputable def IsFol (K : Frag) (A : Adr) (H : Hp) (x : Addr) (v : Sn35.Volume) (l : List Ent) (m : Option Sn35.Content) (pk : Addr) : Prop := ∃ pl pf vb, OAt H A.Folder x [("known_blocks", .ref pk), ("blocks", vb), ("first_entries", .ref pf), ("layout", .ref pl)] ∧ IsLayout K A H pl v ∧ LOf (IsEnt K A) H pf l ∧ OptBlk K A v H vb m
theorem IsFol.up {H H' : Hp} {x : Addr} {v : Sn35.Volume} {l : List Ent} {m : Option Sn35.Content} {pk : Addr} (s : Same H H') (h : IsFol K A H x v l m pk) : IsFol K A H' x v l m pk := let ⟨pl, pf, vb, o, a, b, c⟩ := h; ⟨pl, pf, vb, o.up s, a.up s, b.same s fun _ _ z => z.up s, c.up s⟩
noncomputable def spFolInit (K : Frag) (A : Adr) : Sp := fun vs H Q E => ∃ (x : Addr) (H1 : Hp) (py pr : Addr) (v : Sn35.Volume) (r : Sn35.Rec), vs = [.ref x, .ref py, .ref pr] ∧ Ini A.Folder x H H1 ∧ IsLayout K A H1 py v ∧ IsRec K A H1 pr r ∧
 Orr A.NotSo E ((firstP v r).bind fun l => (moreP v r).map fun m => (l, m)) fun z => ∀ B pk, Same H1 B → B pk = none → IsFol K A B x v z.1 z.2 pk → Q .non (upd B pk (.dK []))
theorem nil_keys {fv : List (Str × V)} (h : ∀ k ∈ apKeys, fv.lookup k = none) (g : Str) {v : V} (hg : g ∉ apKeys) : ∀ k ∈ apKeys, ((g, v) :: fv).lookup k = none := fun k hk => lkS (fun z => hg (z ▸ hk)) (h k hk)
theorem sc_Folder_init : FnScope ["self", "layout", "record", "blocks"] ["self", "layout", "record"] (defScope s_Folder_init) := ⟨rfl, rfl, rfl, dk, rfl, dk, dk⟩
noncomputable abbrev Dq36 (P : Program) (w : World) (K : Frag) (mg : Str → Option Value) (base : Heap) (A : Adr) : Prop := Def P w K mg base 9 "first_node_entries" ["layout", "record"] (spFirst K A)
theorem ok_Folder_init (F : Fun K "__init__" "Folder.__init__" s_Folder_init f fd) (T : Txt K mg A) (d_first_node_entries : Dq36 P w K mg base A)
  (d_attribute : Dq5 P w K mg base A) (d_held : Dq6 P w K mg base A) :
  FnOk P w K mg base (CXR P w) 10 f fd ["self", "layout", "record"] (spFolInit K A) := by
 refine F.okR sc_Folder_init (fun vs H Q E h => ?_) (fun cdv A' outer s H vs Q E hr h => ?_)
 ·obtain ⟨x, H1, py, pr, v, r, rfl, _⟩ := h
  rfl
 ·obtain ⟨x, H1, py, pr, v, r, rfl, ini, iL, ir, k⟩ := h
  have s0 := ini.same
  have nB := ini.new
  refine ⟨_, (pss_cons (ps_fld (pv 0) (pv 1) rfl)
 (pss_cons (ps_fld (pv 0) (pe_fn d_first_node_entries hr (by decide) rfl passR (pa_cons (pv 1) (pa_cons (pv 2) pa_nil))) rfl)
 (pss_cons (ps_set (i := 3) sc_Folder_init.nd rfl (Or.inl rfl) (pe_mth (pv 2) d_attribute hr (by decide) passR (pa_cons (pe_gc T.c_BLOCKS rfl) (pa_cons (pe_gc T.c_FOLDER_NAME rfl) pa_nil))))
 (pss_cons (ps_fld (pv 0) (pe_cut (pe_ifExp (pt_cmpR op_isN (pv 3) pe_non (nomark _)) pe_non (pe_fn d_held hr (by decide) rfl passR (pa_cons (pv 1) (pa_cons (pv 3) pa_nil))))) rfl)
 (pss_one (ps_fld (pv 0) pe_dnewK rfl)))))), ?_⟩
  refine ⟨_, rfl, _, rfl, fldS T.o_Folder ini.at dk (by decide) fun H2 o1 e1 => ?_⟩
  have s1 := s0.put nB e1
  refine ⟨_, rfl, _, rfl, py, pr, v, r, rfl, iL.up s1, ir.up s1, ?_⟩
  cases hf : firstP v r with
  | none =>
   rw [hf] at k
   exact k
  | some l =>
  rw [hf] at k
  simp only [Option.bind_some] at k
  intro pf H3 s3 ll
  have o2 := o1.up s3
  refine ⟨_, rfl, fldS T.o_Folder o2 dk (by decide) fun H4 o3 e3 => ?_⟩
  have s4 := (s1.trans s3).put nB e3
  have k1 : ∀ k ∈ apKeys, ([((Str.ofString "layout"), V.ref py)] : List (Str × V)).lookup k = none := nil_keys (fun _ _ => rfl) _ dk
  have ap1 : Apart H3 H4 x apKeys := ⟨⟨_, _, o2.at, k1⟩, e3⟩
  have ll4 := ll.apart ap1 fun _ _ z => z.apart ap1
  have ir4 : IsRec K A H4 pr r := ir.up s4
  obtain ⟨pa, orc, la, rok, rsm⟩ := id ir4
  refine ⟨_, rfl, pr, _, _, rfl, orc.e, orc.get (lkS dk (lkS dk (lkS dk rfl))), ?_⟩
  refine ⟨pr, 0xA0, "$I30", r, rfl, dk, ir4, fun y hy => ?_⟩
  rw [i30] at hy
  refine ⟨fun vb H' => ∃ m, moreP v r = some m ∧ Same H4 H' ∧ OptBlk K A v H' vb m, ?_, ?_⟩
  ·cases hfd : r.find 0xA0 Sn35.I30 with
   | none =>
    rw [hfd] at hy
    obtain rfl : y = .non := hy
    exact ⟨_, rfl, rfl, _, rfl, iteP (fun _ => ⟨none, by unfold moreP; rw [hfd], Same.refl _, rfl⟩) (fun z => absurd rfl z)⟩
   | some a =>
    rw [hfd] at hy
    have em : moreP v r = (Sn35.content v a).map some := by unfold moreP; rw [hfd]
    rw [em] at k
    obtain ⟨pq, rfl, ia⟩ := hy
    refine ⟨_, rfl, rfl, _, rfl, iteP (fun z => by cases z) (fun _ => ?_)⟩
    refine ⟨_, rfl, _, rfl, py, pq, v, a, rfl, iL.up s4, ia, find_small ir4 hfd, ?_⟩
    cases hc : Sn35.content v a with
    | none =>
     rw [hc] at k
     exact k
    | some c =>
     exact fun p H5 s5 ih => ⟨some c, by rw [em, hc]; rfl, s5, p, rfl, ih⟩
  rintro vb H5 ⟨m, hm, s5, om⟩
  rw [hm] at k
  have k : ∀ B pk, Same H1 B → B pk = none → IsFol K A B x v l m pk → Q .non (upd B pk (.dK [])) := k
  have o4 := o3.up s5
  refine ⟨_, rfl, fldS T.o_Folder o4 dk (by decide) fun H6 o5 e5 => ?_⟩
  have s6 := (s4.trans s5).put nB e5
  have ap2 : Apart H5 H6 x apKeys := ⟨⟨_, _, o4.at, nil_keys k1 _ dk⟩, e5⟩
  have ll6 := (ll4.same s5 fun _ _ z => z.up s5).apart ap2 fun _ _ z => z.apart ap2
  have om6 := om.apart ap2
  intro pk hpk
  have o6 := o5.up (Same.new (o := .dK []) hpk)
  refine ⟨_, rfl, fldS T.o_Folder o6 dk (by decide) fun H8 o7 e7 => ?_⟩
  have nxp : x ≠ pk := ne_of_none o5.at.e hpk
  have h8 : H8 pk = some (.dK []) := (e7 pk nxp.symm).trans upd_same
  have ap3 : Apart H6 (del H8 pk) x apKeys := ⟨⟨_, _, o5.at, nil_keys (nil_keys k1 _ dk) _ dk⟩, fun b hb => by
   by_cases z : b = pk
   ·rw [z, del_same, hpk]
   ·rw [del_ne z, e7 b hb, upd_ne z]⟩
  have oB : OAt (del H8 pk) A.Folder x [("known_blocks", .ref pk), ("blocks", vb), ("first_entries", .ref pf), ("layout", .ref py)] := by
   obtain ⟨dx, fs, q, ll⟩ := o7.at
   exact ⟨dx, fs, (del_ne nxp).trans q, ll⟩
  have sB : Same H1 (del H8 pk) := s6.put nB ap3.eq
  have := k (del H8 pk) pk sB del_same ⟨py, pf, vb, oB, iL.up sB, ll6.apart ap3 fun _ _ z => z.apart ap3, om6.apart ap3⟩
  rw [upd_del h8] at this
  exact ⟨_, Fg.refl _, this⟩
end
end Sv
end
section
namespace Sv
open PySem PySem.Spec L2
theorem indx : (Str.ofString "INDX").cps.toList = Sn35.ascii "INDX" := by decide +kernel
section
variable {P : Program} {w : World} {K : Frag} {mg : Str → Option Value} {base : Heap} {A : Adr} {f : Addr} {fd : FuncData}
noncomputable def spBlock (K : Frag) (A : Adr) : Sp := fun vs H Q E => ∃ (x : Addr) (k : Nat) (v : Sn35.Volume) (l : List Ent) (c : Sn35.Content) (pk : Addr), vs = [.ref x, .int k] ∧ IsFol K A H x v l (some c) pk ∧ Orr A.NotSo E (Sn35.block v c k) fun d => ∀ p H', Same H H' → Bs K H' p d → Q (.ref p) H'
theorem sc_Folder_block : FnScope ["self", "number", "length", "unit", "data"] ["self", "number"] (defScope s_Folder_block) := ⟨rfl, rfl, rfl, dk, rfl, dk, dk⟩
theorem ok_block (F : Fun K "block" "Folder.block" s_Folder_block f fd) (T : Txt K mg A) (d_must : Dq1 P w K mg base A) (d_codes : Dq4 P w K mg base A)
  (d_part : Dq3 P w K mg base A) (d_number_at : Dq2 P w K mg base A) (d_without_marks : Dq11 P w K mg base A)
  (d_HeldHere_taken : Dq13 P w K mg base A) (d_HeldInClusters_taken : Dq14 P w K mg base A) :
  FnOk P w K mg base (CXR P w) 7 f fd ["self", "number"] (spBlock K A) := by
 refine F.okR sc_Folder_block (fun vs H Q E h => ?_) (fun cdv A' outer s H vs Q E hr h => ?_)
 ·obtain ⟨x, k, v, l, c, pk, rfl, _⟩ := h
  rfl
 ·obtain ⟨x, m, v, l, c, pk, rfl, ⟨pl, pf, vb, o, iL, lf, ⟨pb, rfl, ih⟩⟩, k⟩ := h
  obtain ⟨pi, img, oL, hbi, hvi, vok⟩ := id iL
  obtain ⟨n, en, h1, h8⟩ := vok.blk512
  have hc0 := vok.cl0
  have hc1 := vok.cl1
  refine ⟨_, (pss_cons (ps_set (i := 2) sc_Folder_block.nd rfl (Or.inl rfl) (pe_fld (pe_fld (pv 0) rfl) rfl))
 (pss_cons (ps_set (i := 3) sc_Folder_block.nd rfl (Or.inl rfl) (pe_cut (pe_ifExp (pt_cmpR op_gt (pe_fld (pe_fld (pv 0) rfl) rfl) (pv 2) (nomark _)) (pe_gc T.c_SECTOR rfl) (pe_fld (pe_fld (pv 0) rfl) rfl))))
 (pss_cons (ps_set (i := 4) sc_Folder_block.nd rfl (Or.inl rfl) (pe_fn d_without_marks hr (by decide) rfl passR (pa_cons (pe_cut (PE.orr (pe_mth (pe_fld (pv 0) rfl) d_HeldHere_taken hr (by decide) passR (pa_cons (pe_op op_mul (pv 1) (pv 3)) (pa_cons (pv 2) pa_nil))) (pe_mth (pe_fld (pv 0) rfl) d_HeldInClusters_taken hr (by decide) passR (pa_cons (pe_op op_mul (pv 1) (pv 3)) (pa_cons (pv 2) pa_nil))))) pa_nil)))
 (pss_cons (ps_must d_must hr (by decide) rfl passR (pe_cmpR (op_eqL hr.units) (pe_fn d_part hr (by decide) rfl passR (pa_cons (pv 4) (pa_cons pe_int (pa_cons pe_int pa_nil)))) (pe_fn d_codes hr (by decide) rfl passR (pa_cons pe_str pa_nil)) (nomark _)))
 (pss_cons (ps_must d_must hr (by decide) rfl passR (pe_cmpR op_eq (pe_fn d_number_at hr (by decide) rfl passR (pa_cons (pv 4) (pa_cons pe_int (pa_cons pe_int pa_nil)))) (pv 1) (nomark _)))
 (pss_one (ps_ret (pv 4)))))))), ?_⟩
  refine ⟨_, rfl, _, _, (o).dx, (o).fs, _, rfl, (o).e, T.o_Folder.cl, T.o_Folder.na _ dk, (o).get (lkS dk (lkS dk (lkS dk lk0))), _, _, (oL).dx, (oL).fs, _, rfl, (oL).e, T.o_Layout.cl, T.o_Layout.na _ dk, (oL).get lk0, ?_⟩
  have hun : ∃ un, un = (if v.cluster ≤ v.block then v.cluster else Sn35.SECTOR) ∧ un ≤ 65536 := by
   refine ⟨_, rfl, ?_⟩
   unfold Sn35.SECTOR
   split <;> omega
  obtain ⟨un, eun, un1⟩ := hun
  refine ⟨fun y H' => y = .int (un : Nat) ∧ H = H', ?_, ?_⟩
  ·refine ⟨_, rfl, _, _, (o).dx, (o).fs, _, rfl, (o).e, T.o_Folder.cl, T.o_Folder.na _ dk, (o).get (lkS dk (lkS dk (lkS dk lk0))), _, _, (oL).dx, (oL).fs, _, rfl, (oL).e, T.o_Layout.cl, T.o_Layout.na _ dk, (oL).get (lkS dk (lkS dk (lkS dk (lkS dk lk0)))), _, rfl, _, _, rfl, rfl, _, rfl, iteP (fun c1 => ?_) (fun c1 => ?_)⟩
   ·refine ⟨?_, rfl⟩
    rw [eun, if_neg (by omega)]; rfl
   ·refine ⟨_, rfl, _, _, (o).dx, (o).fs, _, rfl, (o).e, T.o_Folder.cl, T.o_Folder.na _ dk, (o).get (lkS dk (lkS dk (lkS dk lk0))), _, _, (oL).dx, (oL).fs, _, rfl, (oL).e, T.o_Layout.cl, T.o_Layout.na _ dk, (oL).get (lkS dk (lkS dk (lkS dk (lkS dk lk0)))), ?_, rfl⟩
    rw [eun, if_pos (by omega)]
  rintro y H' ⟨rfl, rfl⟩
  have ebl : Sn35.block v c m = (takenO v c (m * un) v.block).bind fun b => if b.take 4 ≠ Sn35.ascii "INDX" ∨ Sn35.le b 16 8 ≠ m then none else Sn35.unmarked b := by
   unfold Sn35.block takenO
   rw [← eun]
   simp only
   rw [Nat.mul_comm]
   by_cases z : c.size < m * un + v.block
   ·rw [if_pos z, if_pos z]; rfl
   ·rw [if_neg z, if_neg z]; rfl
  rw [ebl] at k
  have cok : ContOk v c := by
   rcases ih with ⟨_, _, _, _, _, q⟩ | ⟨_, _, _, _, _, _, q⟩
   ·exact q
   ·exact q
  refine ⟨fun y H' => ∃ b p, takenO v c (m * un) v.block = some b ∧ y = .ref p ∧ H p = none ∧ H' = upd H p (.lst (vN b)), ?_, ?_⟩
  ·rcases ih with ⟨pc, b0, oh, q⟩ | ⟨pl', pr', oc, q⟩
   ·refine .inl ⟨_, rfl, _, _, (o).dx, (o).fs, _, rfl, (o).e, T.o_Folder.cl, T.o_Folder.na _ dk, (o).get (lkS dk lk0), pb, _, _, rfl, oh.e, oh.get (lkS dk (lkS dk rfl)), ?_⟩
    refine ⟨_, rfl, _, rfl, _, _, rfl, rfl, .inr ⟨by omega, by omega⟩, _, rfl, pb, v, c, m * un, v.block, by simp, ⟨pc, b0, oh, q⟩, ?_⟩
    cases htk : takenO v c (m * un) v.block with
    | none =>
     rw [htk] at k
     exact k
    | some b => exact fun p hp => ⟨b, p, rfl, rfl, hp, rfl⟩
   ·refine .inr ⟨_, rfl, _, _, (o).dx, (o).fs, _, rfl, (o).e, T.o_Folder.cl, T.o_Folder.na _ dk, (o).get (lkS dk lk0), pb, _, _, rfl, oc.e, oc.get (lkS dk (lkS dk (lkS dk (lkS dk rfl)))), ?_⟩
    refine ⟨_, rfl, _, rfl, _, _, rfl, rfl, .inr ⟨by omega, by omega⟩, _, rfl, pb, v, c, m * un, v.block, by simp, ⟨pl', pr', oc, q⟩, by omega, ?_⟩
    cases htk : takenO v c (m * un) v.block with
    | none =>
     rw [htk] at k
     exact k
    | some b => exact fun p hp => ⟨b, p, rfl, rfl, hp, rfl⟩
  rintro y H2 ⟨b, pt, htk, rfl, hpt, rfl⟩
  rw [htk] at k
  have k : Orr A.NotSo E (if b.take 4 ≠ Sn35.ascii "INDX" ∨ Sn35.le b 16 8 ≠ m then none else Sn35.unmarked b) fun d => ∀ p H', Same H H' → Bs K H' p d → Q (.ref p) H' := k
  have eb : b = c.bytes v (m * un) v.block ∧ b.length = v.block := by
   unfold takenO at htk
   split at htk
   ·cases htk
   ·cases htk
    exact ⟨rfl, taken_len (by omega)⟩
  have bB : Byt b := by
   rw [eb.1]
   exact bytes_byt vok.byt (fun b' z => (cok.here b' z).2) _ _
  have bl : b.length = 512 * n := by rw [eb.2, en]
  have s2 : Same H (upd H pt (.lst (vN b))) := Same.new hpt
  have bb : Bs K (upd H pt (.lst (vN b))) pt b := SqL.of upd_same
  generalize upd H pt (.lst (vN b)) = H2 at s2 bb ⊢
  refine ⟨pt, b, n, rfl, bb, bB, bl, h1, by omega, ?_⟩
  cases hu : Sn35.unmarked b with
  | none =>
   have : (if b.take 4 ≠ Sn35.ascii "INDX" ∨ Sn35.le b 16 8 ≠ m then none else Sn35.unmarked b) = (none : Option Sn35.Bytes) := by split; rfl; exact hu
   rw [this] at k
   exact k
  | some d =>
  obtain ⟨ed, ho⟩ := unm_shape bl hu
  have et : d.take 4 = b.take 4 := by rw [ed]; exact mend_take bl h1 (by decide)
  have e16 : Sn35.le d 16 8 = Sn35.le b 16 8 := by rw [ed]; exact mend_le bl h1 (by omega) (by decide)
  have dl : d.length = 512 * n := by rw [ed, mend_len bl (by omega), bl]
  intro pd hpd
  have s3 : Same H (upd H2 pd (.lst (vN d))) := s2.trans (Same.new hpd)
  have bd : Bs K (upd H2 pd (.lst (vN d))) pd d := SqL.of upd_same
  generalize upd H2 pd (.lst (vN d)) = H3 at s3 bd ⊢
  refine ⟨_, rfl, pd, d, 0, 4, rfl, bd, ?_⟩
  rw [part_some (by omega), List.drop_zero]
  intro p1 hp1
  refine ⟨_, rfl, dk, fun p2 hp2 => ?_⟩
  refine ⟨p1, p2, d.take 4, _, rfl, rfl, (Same.new hp2).seq (SqL.of upd_same), SqL.of upd_same, _, rfl, iteP (fun c1 => ?_) (fun c1 => ?_)⟩
  case refine_2 =>
   rw [if_pos (.inl (by rw [← et, ← indx]; exact c1))] at k
   exact k _
  rw [indx, et] at c1
  refine ⟨H3, (Fg.lst hp1).trans (Fg.lst hp2), ?_⟩
  refine ⟨_, rfl, pd, d, 16, 8, rfl, bd, ?_⟩
  rw [numO_some (by omega), e16]
  refine ⟨_, rfl, rfl, _, rfl, iteE (fun c2 => ?_) (fun c2 => ?_)⟩
  case refine_2 =>
   rw [if_pos (.inr (by omega))] at k
   exact k _
  rw [if_neg (by
   rintro (z | z)
   ·exact z c1
   ·omega), hu] at k
  exact ⟨H3, Fg.refl _, _, rfl, _, Fg.refl _, k pd H3 s3 bd⟩
end
end Sv
end
section
namespace Sv
open PySem PySem.Spec L2
section
variable {P : Program} {w : World} {K : Frag} {mg : Str → Option Value} {base : Heap} {A : Adr} {f : Addr} {fd : FuncData}
noncomputable def KBok (K : Frag) (A : Adr) (v : Sn35.Volume) (m : Option Sn35.Content) (B : Hp) (kvs : List (Key × V)) : Prop := ∀ (n : Int) (y : V), valV kvs (Sum.inl n) = some y → ∃ (k : Nat) (p : Addr) (l : List Ent), n = (k : Int) ∧ y = .ref p ∧ blkP v m k = some l ∧ LOf (IsEnt K A) B p l
theorem KBok.up {v : Sn35.Volume} {m : Option Sn35.Content} {B B' : Hp} {kvs : List (Key × V)} (s : Same B B') (h : KBok K A v m B kvs) : KBok K A v m B' kvs := fun n y e => by
 obtain ⟨k, p, l, a, b, c, d⟩ := h n y e
 exact ⟨k, p, l, a, b, c, d.same s fun _ _ z => z.up s⟩
theorem KBok.put {v : Sn35.Volume} {m : Option Sn35.Content} {B : Hp} {kvs : List (Key × V)} {k : Nat} {p : Addr} {l : List Ent} (h : KBok K A v m B kvs) (e : blkP v m k = some l) (lo : LOf (IsEnt K A) B p l) : KBok K A v m B (putK kvs (Sum.inl (k : Int)) (.ref p)) := fun n y q => by
 rw [valV_put] at q
 by_cases z : (Sum.inl n : Key) = Sum.inl (k : Int)
 ·have z' : n = (k : Int) := Sum.inl.inj z
  subst z'
  rw [if_pos rfl] at q
  cases q
  exact ⟨k, p, l, rfl, rfl, e, lo⟩
 ·rw [if_neg (fun w => z w)] at q
  exact h n y q
noncomputable def spBlkE (K : Frag) (A : Adr) : Sp := fun vs H Q E => ∃ (x : Addr) (k : Nat) (v : Sn35.Volume) (l : List Ent) (m : Option Sn35.Content) (pk : Addr) (B : Hp) (kvs : List (Key × V)), vs = [.ref x, .int k] ∧ H = upd B pk (.dK kvs) ∧ B pk = none ∧ IsFol K A B x v l m pk ∧ KBok K A v m B kvs ∧ kvs.length < sizeLine ∧
 Orr A.NotSo E (blkP v m k) fun es => ∀ p B' kvs', Same B B' → B' pk = none → KBok K A v m B' kvs' → kvs'.length ≤ kvs.length + 1 → LOf (IsEnt K A) B' p es → Q (.ref p) (upd B' pk (.dK kvs'))
theorem sc_Folder_block_entries : FnScope ["self", "number"] ["self", "number"] (defScope s_Folder_block_entries) := ⟨rfl, rfl, rfl, dk, rfl, dk, dk⟩
noncomputable abbrev Dq37 (P : Program) (w : World) (K : Frag) (mg : Str → Option Value) (base : Heap) (A : Adr) : Prop := DefM P w K mg base 7 A.Folder "block" ["self", "number"] (spBlock K A)
theorem ok_block_entries (F : Fun K "block_entries" "Folder.block_entries" s_Folder_block_entries f fd) (T : Txt K mg A) (d_must : Dq1 P w K mg base A) (d_block : Dq37 P w K mg base A)
  (d_node_entries : Dq16 P w K mg base A) :
  FnOk P w K mg base (CXR P w) 9 f fd ["self", "number"] (spBlkE K A) := by
 refine F.okR sc_Folder_block_entries (fun vs H Q E h => ?_) (fun cdv A' outer s H vs Q E hr h => ?_)
 ·obtain ⟨x, k, v, l, m, pk, B, kvs, rfl, _⟩ := h
  rfl
 ·obtain ⟨x, n, v, l, m, pk, B, kvs, rfl, rfl, hpk, ifo, kb, hsz, k⟩ := h
  obtain ⟨pl, pf, vb, o, iL, lf, om⟩ := id ifo
  have sB : Same B (upd B pk (.dK kvs)) := Same.new hpk
  refine ⟨_, (pss_cons (ps_cut (ps_if (pt_cmp (pc_dnotin (hu_of hr) (pv 1) (pe_fld (pv 0) rfl)))
 (pss_cons (ps_must d_must hr (by decide) rfl passR (pe_cmpR op_notN (pe_fld (pv 0) rfl) pe_non (nomark _)))
 (pss_one (ps_dput (hu_of hr) (pe_fld (pv 0) rfl) (pv 1) (pe_hide rfl (pe_fn d_node_entries hr (by decide) rfl passR (pa_cons (pe_mth (pv 0) d_block hr (by decide) passR (pa_cons (pv 1) pa_nil)) (pa_cons pe_int pa_nil)))) rfl)))
 pss_nil))
 (pss_one (ps_ret (pe_dget (hu_of hr) (pe_fld (pv 0) rfl) (pv 1) (fun _ _ => rfl))))), ?_⟩
  refine ⟨fun σ H' => σ = [some (.ref x), some (.int n)] ∧ ∃ (B' : Hp) (kvs' : List (Key × V)) (p : Addr) (es : List Ent), upd B' pk (.dK kvs') = H' ∧ Same B B' ∧ B' pk = none ∧ KBok K A v m B' kvs' ∧ kvs'.length ≤ kvs.length + 1 ∧ valV kvs' (Sum.inl (n : Int)) = some (.ref p) ∧ blkP v m n = some es ∧ LOf (IsEnt K A) B' p es, ?_, ?_⟩
  ·refine ⟨_, rfl, _, rfl, _, _, ((o.up sB)).dx, ((o.up sB)).fs, _, rfl, ((o.up sB)).e, T.o_Folder.cl, T.o_Folder.na _ dk, ((o.up sB)).get lk0, pk, _, rfl, DGet.k (k := Sum.inl (n : Int)) upd_same, _, rfl, ?_⟩
   cases hv : valV kvs (Sum.inl (n : Int)) with
   | some y =>
    refine iteF ?_
    obtain ⟨n', p, es, e1, rfl, e3, e4⟩ := kb _ _ hv
    have e1 : n' = n := by omega
    subst e1
    exact ⟨rfl, B, kvs, p, es, rfl, Same.refl _, hpk, kb, by omega, hv, e3, e4⟩
   | none =>
    refine iteT ?_
    cases m with
    | none =>
     obtain rfl : vb = .non := om
     have : blkP v none n = none := rfl
     rw [this] at k
     exact ⟨_, rfl, _, _, ((o.up sB)).dx, ((o.up sB)).fs, _, rfl, ((o.up sB)).e, T.o_Folder.cl, T.o_Folder.na _ dk, ((o.up sB)).get (lkS dk lk0), rfl, _, rfl, iteN (fun z => absurd rfl z) (fun _ => k _)⟩
    | some c =>
    obtain ⟨pb, rfl, ih⟩ := om
    refine ⟨_, rfl, _, _, ((o.up sB)).dx, ((o.up sB)).fs, _, rfl, ((o.up sB)).e, T.o_Folder.cl, T.o_Folder.na _ dk, ((o.up sB)).get (lkS dk lk0), rfl, _, rfl, iteN (fun _ => ?_) (fun z => by cases z)⟩
    refine ⟨_, Fg.refl _, ?_⟩
    refine ⟨pk, _, upd_same, trivial, ?_⟩
    rw [del_upd hpk]
    refine ⟨_, rfl, x, _, _, rfl, o.e, o.get (lkS dk (lkS dk (lkS dk (lkS dk rfl)))), ?_⟩
    refine ⟨_, rfl, x, n, v, l, c, pk, rfl, ifo, ?_⟩
    have ebl : blkP v (some c) n = (Sn35.block v c n).bind fun b => nodeP b 24 := rfl
    rw [ebl] at k
    cases hbk : Sn35.block v c n with
    | none =>
     rw [hbk] at k
     exact k
    | some d =>
    rw [hbk] at k
    intro pd H2 s2 bd
    obtain ⟨pi, img, oL, hbi, hvi, vok⟩ := id iL
    obtain ⟨nb, en, h1, h8⟩ := vok.blk512
    have cok : ContOk v c := by
     rcases ih with ⟨_, _, _, _, _, q⟩ | ⟨_, _, _, _, _, _, q⟩
     ·exact q
     ·exact q
    have dB : Byt d := block_byt vok.byt (fun b' z => (cok.here b' z).2) hbk
    have dl : d.length ≤ 2 ^ 20 := by
     unfold Sn35.block at hbk
     generalize (if v.cluster ≤ v.block then v.cluster else Sn35.SECTOR) * n = pp at hbk
     simp only at hbk
     split at hbk
     ·cases hbk
     split at hbk
     ·cases hbk
     have tl := taken_len (v := v) (c := c) (place := pp) (many := v.block) (by omega)
     have bl : (c.bytes v pp v.block).length = 512 * nb := by rw [tl, en]
     obtain ⟨ed, ho⟩ := unm_shape bl hbk
     rw [ed, mend_len bl (by rw [bl]; omega), bl]
     omega
    refine ⟨pd, d, 24, rfl, bd, dB, dl, ?_⟩
    have k : Orr A.NotSo E (nodeP d 24) fun es => ∀ p B' kvs', Same B B' → B' pk = none → KBok K A v (some c) B' kvs' → kvs'.length ≤ kvs.length + 1 → LOf (IsEnt K A) B' p es → Q (.ref p) (upd B' pk (.dK kvs')) := k
    cases hnp : nodeP d 24 with
    | none =>
     rw [hnp] at k
     exact k
    | some es =>
    intro p H3 s3 le
    intro hq
    have sB3 : Same B H3 := s2.trans s3
    have sH3 : Same H3 (upd H3 pk (.dK kvs)) := Same.new hq
    refine ⟨_, rfl, _, _, ((o.up (sB3.trans sH3))).dx, ((o.up (sB3.trans sH3))).fs, _, rfl, ((o.up (sB3.trans sH3))).e, T.o_Folder.cl, T.o_Folder.na _ dk, ((o.up (sB3.trans sH3))).get lk0, _, rfl, pk, _, rfl, DPut.k (k := Sum.inl (n : Int)) upd_same hsz, ?_⟩
    have eblk : blkP v (some c) n = some es := by rw [ebl, hbk]; exact hnp
    refine ⟨rfl, H3, putK kvs (Sum.inl (n : Int)) (.ref p), p, es, ?_, sB3, hq, (kb.up sB3).put eblk le, length_putK _ _ _, ?_, eblk, le⟩
    ·rw [upd_upd]
    ·rw [valV_put, if_pos rfl]
  ·rintro σ H' ⟨rfl, B', kvs', p, es, rfl, sB', hq, kb', hsz', hv, eblk, le⟩
   rw [eblk] at k
   have o' := o.up (sB'.trans (Same.new (o := .dK kvs') hq))
   refine ⟨_, rfl, _, _, (o').dx, (o').fs, _, rfl, (o').e, T.o_Folder.cl, T.o_Folder.na _ dk, (o').get lk0, _, rfl, pk, V.ref p, rfl, ?_, ?_⟩
   ·have := DGet.k (k := Sum.inl (n : Int)) (H := upd B' pk (.dK kvs')) (a := pk) (kvs := kvs') upd_same
    rw [hv] at this
    exact this
   ·exact ⟨_, Fg.refl _, k p B' kvs' sB' hq kb' hsz' le⟩
end
end Sv
end
section
namespace Sv
open Sn35
noncomputable def isBlk : Item → Bool
 | .ent _ => false
 | .blk _ _ => true
noncomputable def headBlk : List Item → Bool
 | [] => false
 | x :: _ => isBlk x
noncomputable def alt : List Item → Prop
 | [] => True
 | x :: r => (isBlk x = true → headBlk r = false) ∧ alt r
noncomputable def SegsOk : List (List Item) → Prop
 | [] => True
 | s :: rest => s.length ≤ 131072 ∧ alt s ∧ (∀ lev k, Item.blk lev k ∈ s → lev = rest.length + 2) ∧ (∀ t r', rest = t :: r' → headBlk t = false) ∧ SegsOk rest
theorem seg_top : ∀ (segs : List (List Item)) (x : Item) (r : List Item), SegsOk segs → segs.flatten = x :: r → ∃ s' rest, SegsOk ((x :: s') :: rest) ∧ r = s' ++ rest.flatten ∧ rest.length + 1 ≤ segs.length ∧ (segs = (x :: s') :: rest ∨ isBlk x = false) ∧ (headBlk (segs.headD []) = false → isBlk x = false)
 | [], x, r, _, h => by simp at h
 | (y :: s') :: rest, x, r, ok, h => by
  rw [List.flatten_cons, List.cons_append] at h
  cases h
  exact ⟨s', rest, ok, rfl, Nat.le_refl _, .inl rfl, fun z => z⟩
 | [] :: rest, x, r, ok, h => by
  rw [List.flatten_cons, List.nil_append] at h
  obtain ⟨o1, o2, o3, o4, o5⟩ := ok
  obtain ⟨s', rest', h1, h2, h3, h4, h5⟩ := seg_top rest x r o5 h
  have nb : isBlk x = false := by
   apply h5
   cases rest with
   | nil => rfl
   | cons t r' => exact o4 t r' rfl
  exact ⟨s', rest', h1, h2, by rw [List.length_cons]; omega, .inr nb, fun _ => nb⟩
noncomputable def Stk (V F : Nat) (st : List Item) : Prop := ∃ segs, SegsOk segs ∧ segs.length ≤ 16 ∧ st = segs.flatten ∧ (headBlk st = true → V + 1 ≤ 16 * F + segs.length) ∧ V ≤ 16 * F + 16
theorem itemsOf_last {lev : Nat} {x : Ent} (h : x.last = true) : itemsOf lev x = match x.e.down with
 | some k => [.blk (lev + 1) k]
 | none => [] := by
 unfold itemsOf
 rw [if_pos h, List.append_nil]
 all_goals rfl
theorem itemsOf_some {lev k : Nat} {x : Ent} (h : ¬ x.last = true) (d : x.e.down = some k) : itemsOf lev x = [.blk (lev + 1) k, .ent x.e] := by
 unfold itemsOf
 rw [if_neg h, d]; rfl
theorem itemsOf_none {lev : Nat} {x : Ent} (h : ¬ x.last = true) (d : x.e.down = none) : itemsOf lev x = [.ent x.e] := by
 unfold itemsOf
 rw [if_neg h, d]; rfl
theorem items_cons (lev : Nat) (x : Ent) (r : List Ent) : items lev (x :: r) = itemsOf lev x ++ items lev r := List.flatMap_cons ..
theorem alt_items (lev : Nat) : ∀ l : List Ent, NodeOk l → alt (items lev l)
 | [], h => h.elim
 | x :: r, h => by
  rw [items_cons]
  by_cases hx : x.last = true
  ·have hr : r = [] := by
    unfold NodeOk at h; rw [if_pos hx] at h; exact h
   subst hr
   rw [itemsOf_last hx]
   cases x.e.down with
   | none => exact True.intro
   | some k => exact ⟨fun _ => rfl, True.intro⟩
  ·have ih := alt_items lev r (by unfold NodeOk at h; rw [if_neg hx] at h; exact h)
   cases hd : x.e.down with
   | none =>
    rw [itemsOf_none hx hd]
    show (isBlk (Item.ent x.e) = true → headBlk (items lev r) = false) ∧ alt (items lev r)
    exact ⟨fun z => Bool.noConfusion (show false = true from z), ih⟩
   | some k =>
    rw [itemsOf_some hx hd]
    show (isBlk (Item.blk (lev + 1) k) = true → headBlk (Item.ent x.e :: items lev r) = false) ∧ (isBlk (Item.ent x.e) = true → headBlk (items lev r) = false) ∧ alt (items lev r)
    exact ⟨fun _ => rfl, fun z => Bool.noConfusion (show false = true from z), ih⟩
theorem items_lev (lev : Nat) (l : List Ent) {lv k : Nat} (h : Item.blk lv k ∈ items lev l) : lv = lev + 1 := by
 unfold items at h
 obtain ⟨x, _, h⟩ := List.mem_flatMap.mp h
 unfold itemsOf at h
 rcases List.mem_append.mp h with h | h
 ·cases hd : x.e.down with
  | none => rw [hd] at h; cases h
  | some k' =>
   rw [hd] at h
   cases List.mem_singleton.mp h
   rfl
 ·split at h
  ·cases h
  ·cases List.mem_singleton.mp h
theorem items_len (lev : Nat) : ∀ l : List Ent, (items lev l).length ≤ 2 * l.length
 | [] => Nat.le_refl _
 | x :: r => by
  have ih := items_len lev r
  rw [items_cons, List.length_append, List.length_cons]
  have : (itemsOf lev x).length ≤ 2 := by
   by_cases hx : x.last = true
   ·rw [itemsOf_last hx]
    cases x.e.down with
    | none => exact Nat.zero_le _
    | some k => exact (by decide : 1 ≤ 2)
   ·cases hd : x.e.down with
    | none => rw [itemsOf_none hx hd]; exact (by decide : 1 ≤ 2)
    | some k => rw [itemsOf_some hx hd]; exact Nat.le_refl _
  omega
theorem Stk.init {l : List Ent} (h : NodeOk l) (hl : l.length ≤ 65536) : Stk 0 0 (items 1 l) := by
 refine ⟨[items 1 l], ⟨by have := items_len 1 l; omega, alt_items 1 l h, fun lev k z => items_lev 1 l z, fun t r' z => (nomatch z), True.intro⟩, by show 1 ≤ 16; decide, by simp, fun _ => by simp, by omega⟩
theorem Stk.blk {V F lev k : Nat} {r : List Item} {l : List Ent} (h : Stk V F (.blk lev k :: r)) (hlev : lev ≤ 16) (ok : NodeOk l) (hl : l.length ≤ 65536) : Stk (V + 1) F (items lev l ++ r) := by
 obtain ⟨segs, sok, sl, e, hv, hv2⟩ := h
 obtain ⟨s', rest, o, hr, h3, h4, _⟩ := seg_top segs _ _ sok e.symm
 rcases h4 with rfl | h4
 ·obtain ⟨o1, o2, o3, o4, o5⟩ := o
  have elev : lev = rest.length + 2 := o3 lev k List.mem_cons_self
  have hv := hv rfl
  rw [List.length_cons] at hv sl
  refine ⟨items lev l :: s' :: rest, ⟨by have := items_len lev l; omega, alt_items lev l ok, fun lv k' z => ?_, fun t r' z => ?_, ?_, ?_, fun lv k' z => o3 lv k' (List.mem_cons_of_mem _ z), o4, o5⟩, ?_, ?_, fun _ => ?_, by omega⟩
  ·rw [items_lev lev l z, List.length_cons]; omega
  ·cases z; exact o2.1 rfl
  ·rw [List.length_cons] at o1; omega
  ·exact o2.2
  ·rw [List.length_cons, List.length_cons]; omega
  ·rw [hr]; simp
  ·rw [List.length_cons, List.length_cons]; omega
 ·cases h4
theorem Stk.ent {V F : Nat} {e : Entry} {r : List Item} (h : Stk V F (.ent e :: r)) : Stk V (F + 1) r := by
 obtain ⟨segs, sok, sl, e', hv, hv2⟩ := h
 obtain ⟨s', rest, o, hr, h3, _, _⟩ := seg_top segs _ _ sok e'.symm
 obtain ⟨o1, o2, o3, o4, o5⟩ := o
 refine ⟨s' :: rest, ⟨by rw [List.length_cons] at o1; omega, o2.2, fun lv k' z => o3 lv k' (List.mem_cons_of_mem _ z), o4, o5⟩, by rw [List.length_cons]; omega, by rw [hr]; simp, fun _ => by rw [List.length_cons]; omega, by omega⟩
theorem segs_len : ∀ segs : List (List Item), SegsOk segs → segs.flatten.length ≤ 131072 * segs.length
 | [], _ => Nat.le_refl _
 | s :: rest, ⟨o1, _, _, _, o5⟩ => by
  have := segs_len rest o5
  rw [List.flatten_cons, List.length_append, List.length_cons]; omega
theorem Stk.len {V F : Nat} {st : List Item} (h : Stk V F st) : st.length ≤ 2097152 := by
 obtain ⟨segs, sok, sl, e, _, _⟩ := h
 rw [e]
 have := segs_len segs sok
 omega
theorem Stk.few {V F : Nat} {st : List Item} (h : Stk V F st) : V ≤ 16 * F + 16 := let ⟨_, _, _, _, _, q⟩ := h; q
theorem entsY_len (hb : Bool) : ∀ (n : Nat) (b : Bytes) (l : List Ent), entsY hb n b = some l → 16 * l.length ≤ b.length
 | 0, _, _, h => by cases h
 | n + 1, b, l, h => by
  unfold entsY at h
  obtain ⟨x, hx, h⟩ := Option.bind_eq_some_iff.mp h
  obtain ⟨_, h16, hle⟩ := entOf_len hx
  split at h
  ·split at h
   ·cases h
    show 16 * 1 ≤ b.length
    omega
   ·obtain ⟨l', e, rfl⟩ := Option.map_eq_some_iff.mp h
    have := entsY_len hb n _ _ e
    rw [List.length_drop] at this
    rw [List.length_cons]; omega
  ·cases h
theorem nodeP_len {b : Bytes} {at_ : Nat} {l : List Ent} (h : nodeP b at_ = some l) : 16 * l.length ≤ b.length := by
 unfold nodeP at h
 split at h
 ·cases h
 ·have := entsY_len _ _ _ _ h
  rw [List.length_drop, List.length_take, List.length_drop] at this
  omega
end Sv
end
section
namespace Sv
open PySem PySem.Spec L2
section
variable {P : Program} {w : World} {K : Frag} {mg : Str → Option Value} {base : Heap} {A : Adr} {f : Addr} {fd : FuncData}
noncomputable def IsEntE (K : Frag) (A : Adr) (H : Hp) (p : Addr) (e : Sn35.Entry) : Prop := ∃ x, IsEnt K A H p x ∧ x.e = e ∧ x.last = false
theorem IsEntE.up {H H' : Hp} {p : Addr} {e : Sn35.Entry} (s : Same H H') (h : IsEntE K A H p e) : IsEntE K A H' p e := let ⟨x, a, b⟩ := h; ⟨x, a.up s, b⟩
noncomputable def IsItem (K : Frag) (A : Adr) (H : Hp) (p : Addr) : Item → Prop
 | .ent e => ∃ (pe : Addr) (lev : Nat), OAt H A.Step p [("entry", .ref pe), ("block_number", .non), ("level", .int lev)] ∧ IsEntE K A H pe e
 | .blk lev k => OAt H A.Step p [("entry", .non), ("block_number", .int k), ("level", .int lev)]
theorem IsItem.up {H H' : Hp} {p : Addr} {i : Item} (s : Same H H') (h : IsItem K A H p i) : IsItem K A H' p i := by
 cases i with
 | ent e => obtain ⟨pe, lev, o, q⟩ := h; exact ⟨pe, lev, o.up s, q.up s⟩
 | blk lev k => exact OAt.up s h
noncomputable def spStepInit (A : Adr) : Sp := fun vs H Q _ => ∃ (x : Addr) (H1 : Hp) (lv : Nat) (vb ve : V), vs = [.ref x, .int lv, vb, ve] ∧ Ini A.Step x H H1 ∧ ∀ H', Same H1 H' → OAt H' A.Step x [("entry", ve), ("block_number", vb), ("level", .int lv)] → Q .non H'
theorem sc_Step_init : FnScope ["self", "level", "block_number", "entry"] ["self", "level", "block_number", "entry"] (defScope s_Step_init) := ⟨rfl, rfl, rfl, dk, rfl, dk, dk⟩
theorem ok_Step_init (F : Fun K "__init__" "Step.__init__" s_Step_init f fd) (T : Txt K mg A) : FnOk P w K mg base (CXR P w) 1 f fd ["self", "level", "block_number", "entry"] (spStepInit A) := by
 refine F.okR sc_Step_init (fun vs H Q E h => ?_) (fun cdv A' outer s H vs Q E hr h => ?_)
 ·obtain ⟨x, H1, lv, vb, ve, rfl, _⟩ := h
  rfl
 ·obtain ⟨x, H1, lv, vb, ve, rfl, ini, k⟩ := h
  refine ⟨_, (pss_cons (ps_fld (pv 0) (pv 1) rfl)
 (pss_cons (ps_fld (pv 0) (pv 2) rfl)
 (pss_one (ps_fld (pv 0) (pv 3) rfl)))), ?_⟩
  refine ⟨_, rfl, _, rfl, fldS T.o_Step ini.at dk (by decide) fun H2 o2 e2 => ?_⟩
  refine ⟨_, rfl, _, rfl, fldS T.o_Step o2 dk (by decide) fun H3 o3 e3 => ?_⟩
  refine ⟨_, rfl, _, rfl, fldS T.o_Step o3 dk (by decide) fun H4 o4 e4 => ?_⟩
  exact ⟨_, Fg.refl _, k H4 (((ini.same.put ini.new e2).put ini.new e3).put ini.new e4) o4.at⟩
noncomputable def spSteps (K : Frag) (A : Adr) : Sp := fun vs H Q _ => ∃ (pe : Addr) (lev : Nat) (l : List Ent), vs = [.ref pe, .int lev] ∧ LOf (IsEnt K A) H pe l ∧ l.length ≤ 65536 ∧
 ∀ p B as, Same H B → B p = none → Objs (IsItem K A) B as (items lev l).reverse → Q (.ref p) (upd B p (.lst (as.map V.ref)))
theorem sc_steps_back : FnScope ["entries", "level", "steps", "entry"] ["entries", "level"] (defScope s_steps_back) := ⟨rfl, rfl, rfl, dk, rfl, dk, dk⟩
noncomputable abbrev Dq38 (P : Program) (w : World) (K : Frag) (mg : Str → Option Value) (base : Heap) (A : Adr) : Prop := DefC P w K mg base 1 "Step" A.Step ["self", "level", "block_number", "entry"] (spStepInit A)
theorem ok_steps_back (F : Fun K "steps_back" "steps_back" s_steps_back f fd) (T : Txt K mg A) (d_Step : Dq38 P w K mg base A) :
  FnOk P w K mg base (CXR P w) 3 f fd ["entries", "level"] (spSteps K A) := by
 refine F.okR sc_steps_back (fun vs H Q E h => ?_) (fun cdv A' outer s H vs Q E hr h => ?_)
 ·obtain ⟨pe, lev, l, rfl, _⟩ := h
  rfl
 ·obtain ⟨pe, lev, l, rfl, ⟨es, el, nl, fr⟩, hl, k⟩ := h
  refine ⟨_, (pss_cons (ps_set (i := 2) sc_steps_back.nd rfl (Or.inl rfl) (pe_lst pa_nil))
 (pss_cons (ps_for PassesOwn.leaving rfl (pi_reversed rfl T.n_reversed (pa_cons (pv 0) pa_nil)) (pg_name (i := 3) sc_steps_back.nd rfl (Or.inl rfl))
 (pss_cons (ps_cut (ps_if (pt_not (pt_val (pe_fld (pv 3) rfl)))
 (pss_one (ps_expr (pe_bm PySem.F.plainAttrs_list PySem.F.slot_list_append PySem.F.type_list_append mt_append (pv 2) (pa_cons (pe_hide rfl (pe_new d_Step hr (by decide) rfl passR (pa_cons (pv 1) (pa_cons pe_non (pa_cons (pv 3) pa_nil))))) pa_nil))))
 pss_nil))
 (pss_one (ps_if (pt_cmpR op_notN (pe_fld (pv 3) rfl) pe_non (nomark _))
 (pss_one (ps_expr (pe_bm PySem.F.plainAttrs_list PySem.F.slot_list_append PySem.F.type_list_append mt_append (pv 2) (pa_cons (pe_hide rfl (pe_new d_Step hr (by decide) rfl passR (pa_cons (pe_op op_add (pv 1) pe_int) (pa_cons (pe_fld (pv 3) rfl) (pa_cons pe_non pa_nil))))) pa_nil))))
 pss_nil))))
 (pss_one (ps_ret (pv 2))))), ?_⟩
  refine ⟨Nat.zero_le _, fun pf hpf => ?_⟩
  have npe : pe ≠ pf := ne_of_none el hpf
  refine ⟨_, rfl, pe, es.map V.ref, rfl, SqL.of ((Same.new hpf) _ _ el), ?_⟩
  have il := items_len lev l
  refine for_rev (a := pe) (fun j σ H' => ∃ v3, σ = [some (.ref pe), some (.int lev), some (.ref pf), v3] ∧ ∃ B as, upd B pf (.lst (as.map V.ref)) = H' ∧ B pf = none ∧ Same H B ∧ Objs (IsItem K A) B as (items lev (l.drop (l.length - j))).reverse)
   ⟨none, rfl, H, [], rfl, hpf, Same.refl _, by rw [Nat.sub_zero, List.drop_length]; exact .nil⟩ ?_ ?_ ?_
  ·rintro j σ H' _ ⟨v3, _, B, as, rfl, hq, sB, _⟩
   exact SqL.of ((sB.trans (Same.new hq)) _ _ el)
  ·rintro j y σ H' hj hy ⟨v3, rfl, B, as, rfl, hq, sB, ob⟩
   rw [List.length_map] at hj hy
   rw [List.getElem?_map] at hy
   cases ha : es[es.length - 1 - j]? with
   | none => rw [ha] at hy; cases hy
   | some b =>
   rw [ha] at hy
   cases hy
   rw [nl] at hj ha
   have hjl : l.length - 1 - j < l.length := by omega
   obtain ⟨x, hx⟩ : ∃ x, l[l.length - 1 - j]? = some x := ⟨_, List.getElem?_eq_getElem hjl⟩
   have ie : IsEnt K A B b x := (fr _ b x ha hx).up sB
   have hdrop : l.drop (l.length - (j + 1)) = x :: l.drop (l.length - j) := by
    rw [show l.length - (j + 1) = l.length - 1 - j by omega, List.drop_eq_getElem_cons hjl]
    rw [List.getElem?_eq_getElem hjl] at hx
    rw [Option.some.inj hx, show l.length - 1 - j + 1 = l.length - j by omega]
   have eit : (items lev (l.drop (l.length - (j + 1)))).reverse = (items lev (l.drop (l.length - j))).reverse ++ (itemsOf lev x).reverse := by
    rw [hdrop]
    unfold items
    rw [List.flatMap_cons, List.reverse_append]
   have ilj := items_len lev (l.drop (l.length - j))
   rw [List.length_drop] at ilj
   refine ⟨fun σ H' => σ = [some (.ref pe), some (.int lev), some (.ref pf), some (.ref b)] ∧ ∃ B as, upd B pf (.lst (as.map V.ref)) = H' ∧ B pf = none ∧ Same H B ∧ IsEnt K A B b x ∧ Objs (IsItem K A) B as ((items lev (l.drop (l.length - j))).reverse ++ (if x.last = true then [] else [.ent x.e])), ?_, ?_⟩
   ·obtain ⟨pn, oe, bn, eok⟩ := id (ie.up (Same.new (o := .lst (as.map V.ref)) hq))
    refine ⟨_, rfl, _, _, (oe).dx, (oe).fs, _, rfl, (oe).e, T.o_Entry.cl, T.o_Entry.na _ dk, (oe).get (lkS dk (lkS dk (lkS dk lk0))), _, rfl, ?_⟩
    cases hlast : x.last with
    | true =>
     refine iteF ?_
     exact ⟨rfl, B, as, rfl, hq, sB, ie, by rw [if_pos rfl, List.append_nil]; exact ob⟩
    | false =>
     refine iteT ?_
     refine ⟨_, rfl, .inl ⟨rfl, _, SqL.of upd_same⟩, pf, _, upd_same, trivial, ?_⟩
     rw [del_upd hq]
     refine ⟨_, rfl, _, rfl, fun z dz hz hdz nez => ?_⟩
     refine ⟨z, B, lev, .non, .ref b, rfl, .of hz hdz nez, fun H2 s2 oz => ⟨rfl, fun hq2 => ?_⟩⟩
     refine ⟨pf, as.map V.ref, _, rfl, rfl, upd_same, ?_, ?_⟩
     ·rw [List.length_map, ob.1, List.length_reverse]
      show _ < 16777216
      omega
     rw [upd_upd]
     refine ⟨rfl, H2, as ++ [z], by rw [List.map_append]; rfl, hq2, sB.trans s2, ie.up s2, ?_⟩
     rw [if_neg (by decide)]
     exact (ob.up fun _ _ q => q.up s2).snoc ⟨b, lev, oz, x, ie.up s2, rfl, hlast⟩
   ·rintro σ H' ⟨rfl, B, as, rfl, hq, sB, ie, ob⟩
    obtain ⟨pn, oe, bn, eok⟩ := id (ie.up (Same.new (o := .lst (as.map V.ref)) hq))
    refine ⟨_, rfl, _, _, (oe).dx, (oe).fs, _, rfl, (oe).e, T.o_Entry.cl, T.o_Entry.na _ dk, (oe).get (lkS dk (lkS dk lk0)), rfl, _, rfl, ?_⟩
    have elen : ((items lev (l.drop (l.length - j))).reverse ++ (if x.last = true then [] else [Item.ent x.e])).length ≤ 2 * l.length + 1 := by
     rw [List.length_append, List.length_reverse]
     split <;> simp <;> omega
    have eof : (itemsOf lev x).reverse = (if x.last = true then [] else [.ent x.e]) ++ (match x.e.down with | some k => [.blk (lev + 1) k] | none => []) := by
     unfold itemsOf
     rw [List.reverse_append]
     congr 1
     ·split <;> rfl
     ·cases x.e.down <;> rfl
    rw [eof, ← List.append_assoc] at eit
    cases hdn : x.e.down with
    | none =>
     refine iteN (fun z => absurd rfl z) (fun _ => ?_)
     refine ⟨_, rfl, B, as, rfl, hq, sB, ?_⟩
     rw [eit, hdn, List.append_nil]
     exact ob
    | some kk =>
     refine iteN (fun _ => ?_) (fun z => by cases z)
     refine ⟨_, rfl, .inl ⟨rfl, _, SqL.of upd_same⟩, pf, _, upd_same, trivial, ?_⟩
     rw [del_upd hq]
     obtain ⟨pn2, oe2, _, _⟩ := id ie
     have oe2 : OAt B A.Entry b [("name", .ref pn2), ("kind", if x.last = true then .non else .int (x.e.space : Nat)), ("below", vO x.e.down), ("is_last", .bl x.last), ("uses", .int (x.e.seq : Nat)), ("number", .int (x.e.number : Nat)), ("length", .int (x.len : Nat))] := oe2
     rw [hdn] at oe2
     refine ⟨_, rfl, _, _, rfl, rfl, _, rfl, _, _, (oe2).dx, (oe2).fs, _, rfl, (oe2).e, T.o_Entry.cl, T.o_Entry.na _ dk, (oe2).get (lkS dk (lkS dk lk0)), fun z dz hz hdz nez => ?_⟩
     refine ⟨z, B, lev + 1, .int (kk : Int), .non, rfl, .of hz hdz nez, fun H2 s2 oz => ⟨rfl, fun hq2 => ?_⟩⟩
     refine ⟨pf, as.map V.ref, _, rfl, rfl, upd_same, ?_, ?_⟩
     ·rw [List.length_map, ob.1]
      show _ < 16777216
      omega
     rw [upd_upd]
     refine ⟨_, rfl, H2, as ++ [z], by rw [List.map_append]; rfl, hq2, sB.trans s2, ?_⟩
     rw [eit, hdn]
     exact (ob.up fun _ _ q => q.up s2).snoc oz
  ·rintro σ H' ⟨v3, rfl, B, as, rfl, hq, sB, ob⟩
   rw [List.length_map, nl, Nat.sub_self, List.drop_zero] at ob
   exact ⟨_, rfl, _, Fg.refl _, k pf B as sB hq ob⟩
noncomputable def spGreat (K : Frag) : Sp := fun vs H Q _ => ∃ (a : Addr) (l : List Nat), vs = [.ref a] ∧ Bs K H a l ∧ l.length ≤ 2 ^ 20 ∧ ∀ p, H p = none → Q (.ref p) (upd H p (.lst (vN (Sn35.up l))))
theorem sc_great_letters : FnScope ["name", "code"] ["name"] (defScope s_great_letters) := ⟨rfl, rfl, rfl, dk, rfl, dk, dk⟩
theorem ok_great_letters (F : Fun K "great_letters" "great_letters" s_great_letters f fd) (T : Txt K mg A) : FnOk P w K mg base (CXR P w) 1 f fd ["name"] (spGreat K) := by
 refine F.okR sc_great_letters (fun vs H Q E h => ?_) (fun cdv A' outer s H vs Q E hr h => ?_)
 ·obtain ⟨a, l, rfl, _⟩ := h
  rfl
 ·obtain ⟨a, l, rfl, hb, hl, k⟩ := h
  refine ⟨_, (pss_one (ps_ret (pe_lc (own := [("code", 1)]) rfl sc_great_letters.nd (pi_list (pv 0)) (blkOk_by (by (show blkC ["name", "code"] (defScope s_great_letters) _ _ = true); decide +kernel)) (fun _ _ _ _ _ => pg_name (i := 1) sc_great_letters.nd rfl (Or.inl rfl)) (fun _ _ _ _ _ => pts_nil) (fun _ _ _ _ _ => by exact (pe_ifExp (pt_chain op_le op_le pe_int (pv 1) pe_int) (pe_op op_sub (pv 1) pe_int) (pv 1)))))), ?_⟩
  refine ⟨_, rfl, a, rfl, ⟨_, hb⟩, fun D hD => ?_⟩
  refine lc_list (K := K) (a := a) (xs := vN l) (fun i H' => upd H D (.lst (vN ((Sn35.up l).take i))) = H') rfl (fun i H' _ z => by rw [← z]; exact (Same.new hD).seq hb) ?_ ?_
  ·rintro i y H' hi rfl
   obtain ⟨c, hc, rfl⟩ := vN_get hi
   have hup : (Sn35.up l)[i]? = some (if 97 ≤ c ∧ c ≤ 122 then c - 32 else c) := by
    unfold Sn35.up
    rw [List.getElem?_map, hc]; rfl
   have fin : ∀ z : Nat, (Sn35.up l)[i]? = some z → upd (upd H D (.lst (vN ((Sn35.up l).take i)))) D (.lst (vN ((Sn35.up l).take i) ++ [V.int (z : Int)])) = upd H D (.lst (vN ((Sn35.up l).take (i + 1)))) := fun z hz => by
    rw [upd_upd, List.take_add_one, hz]
    simp [vN]
   have hlt : (vN ((Sn35.up l).take i)).length < sizeLine := by
    rw [vN_len, List.length_take, up_len]
    show _ < 16777216
    omega
   refine ⟨rfl, tYes_of ?_⟩
   refine ⟨_, rfl, _, _, rfl, rfl, _, rfl, iteP (fun q1 => ?_) (fun q1 => ?_)⟩
   ·refine ⟨_, _, rfl, rfl, _, rfl, iteP (fun q2 => ?_) (fun q2 => ?_)⟩
    ·refine ⟨_, rfl, _, _, rfl, rfl, _, upd_same, hlt, ?_⟩
     have := fin (c - 32) (by rw [hup, if_pos ⟨by omega, by omega⟩])
     rw [show ((c - 32 : Nat) : Int) = (c : Int) - 32 by omega] at this
     exact this.symm
    ·refine ⟨_, rfl, _, upd_same, hlt, ?_⟩
     exact (fin c (by rw [hup, if_neg (by omega)])).symm
   ·refine ⟨_, rfl, ?_⟩
    refine ⟨_, rfl, _, upd_same, hlt, ?_⟩
    exact (fin c (by rw [hup, if_neg (by omega)])).symm
  ·rintro H' rfl
   have et : (Sn35.up l).take (vN l).length = Sn35.up l := List.take_of_length_le (by rw [up_len, vN_len]; exact Nat.le_refl _)
   rw [et]
   exact ⟨_, Fg.refl _, k D hD⟩
end
end Sv
end
section
namespace Sv
open PySem PySem.Spec L2
theorem upd_comm {H : Hp} {p q : Addr} {o u : HO} (h : p ≠ q) : upd (upd H p o) q u = upd (upd H q u) p o := by
 funext b
 by_cases z1 : b = p
 ·subst z1; rw [upd_ne h, upd_same, upd_same]
 ·by_cases z2 : b = q
  ·subst z2; rw [upd_same, upd_ne z1, upd_same]
  ·rw [upd_ne z2, upd_ne z1, upd_ne z1, upd_ne z2]
theorem Objs.last {α : Type} {R : Hp → Addr → α → Prop} {H : Hp} {as : List Addr} {l : List α} {x : α} (h : Objs R H as (l ++ [x])) : ∃ as' a, as = as' ++ [a] ∧ Objs R H as' l ∧ R H a x := by
 obtain ⟨n, f⟩ := h
 rw [List.length_append] at n
 have n : as.length = l.length + 1 := n
 rcases List.eq_nil_or_concat as with z | ⟨as', a, z⟩
 ·rw [z] at n; simp at n
 subst z
 have n' : as'.length = l.length := by rw [List.concat_eq_append, List.length_append] at n; simp at n; exact n
 refine ⟨as', a, List.concat_eq_append .., ⟨n', fun i b y h1 h2 => ?_⟩, ?_⟩
 ·have hi : i < l.length := (List.getElem?_eq_some_iff.mp h2).1
  refine f i b y ?_ ?_
  ·rw [List.concat_eq_append, List.getElem?_append_left (by omega)]; exact h1
  ·rw [List.getElem?_append_left hi]; exact h2
 ·refine f l.length _ x ?_ (by simp)
  rw [List.concat_eq_append, ← n']; simp
theorem Objs.app {α : Type} {R : Hp → Addr → α → Prop} {H : Hp} {as bs : List Addr} {l m : List α} (h1 : Objs R H as l) (h2 : Objs R H bs m) : Objs R H (as ++ bs) (l ++ m) := by
 refine ⟨by rw [List.length_append, List.length_append, h1.1, h2.1], fun i b y q1 q2 => ?_⟩
 by_cases hi : i < as.length
 ·rw [List.getElem?_append_left hi] at q1
  rw [List.getElem?_append_left (by rw [← h1.1]; exact hi)] at q2
  exact h1.2 i b y q1 q2
 ·rw [List.getElem?_append_right (by omega)] at q1
  rw [List.getElem?_append_right (by rw [← h1.1]; omega), ← h1.1] at q2
  exact h2.2 _ b y q1 q2
section
variable {K : Frag} {A : Adr} {B H : Hp} {pk p : Addr} {kvs : List (Key × V)}
theorem _root_.L2.Same.delD (s : Same B H) (h : B pk = none) : Same B (del H pk) := fun b o e => by
 rw [del_ne (ne_of_none e h)]; exact s b o e
theorem OAt.delD {C : Addr} {fv : List (Str × V)} (h : OAt H C p fv) (hk : H pk = some (.dK kvs)) : OAt (del H pk) C p fv := by
 obtain ⟨dx, fs, e, l⟩ := h
 exact ⟨dx, fs, by rw [del_ne (ne_of e hk (by intro z; cases z))]; exact e, l⟩
theorem _root_.L2.SqL.delD {xs : List V} (h : SqL K H p xs) (hk : H pk = some (.dK kvs)) : SqL K (del H pk) p xs := by
 rcases h with (h | ⟨o, h⟩) | h
 ·exact .inl (.inl (by rw [del_ne (ne_of h hk (by intro z; cases z))]; exact h))
 ·exact .inl (.inr ⟨o, by rw [del_ne (ne_of h hk (by intro z; cases z))]; exact h⟩)
 ·exact .inr h
theorem IsEnt.delD {x : Ent} (h : IsEnt K A H p x) (hk : H pk = some (.dK kvs)) : IsEnt K A (del H pk) p x := let ⟨pn, o, b, r⟩ := h; ⟨pn, o.delD hk, b.delD hk, r⟩
theorem IsItem.delD {i : Item} (h : IsItem K A H p i) (hk : H pk = some (.dK kvs)) : IsItem K A (del H pk) p i := by
 cases i with
 | ent e => obtain ⟨pe, lev, o, x, q, r⟩ := h; exact ⟨pe, lev, o.delD hk, x, q.delD hk, r⟩
 | blk lev k => exact OAt.delD h hk
end
theorem lastUp_snoc (l : List Sn35.Entry) (e : Sn35.Entry) : lastUp (l ++ [e]) = Sn35.up e.name := by simp [lastUp]
theorem block_len {v : Sn35.Volume} {c : Sn35.Content} {k : Nat} {d : List Nat} (vok : VolOk v) (h : Sn35.block v c k = some d) : d.length ≤ 65536 := by
 obtain ⟨nb, en, h1, h8⟩ := vok.blk512
 unfold Sn35.block at h
 generalize (if v.cluster ≤ v.block then v.cluster else Sn35.SECTOR) * k = pp at h
 simp only at h
 split at h
 ·cases h
 split at h
 ·cases h
 have tl := taken_len (v := v) (c := c) (place := pp) (many := v.block) (by omega)
 have bl : (c.bytes v pp v.block).length = 512 * nb := by rw [tl, en]
 obtain ⟨ed, ho⟩ := unm_shape bl h
 rw [ed, mend_len bl (by rw [bl]; omega), bl]
 omega
theorem blkP_ok {v : Sn35.Volume} {m : Option Sn35.Content} {k : Nat} {l : List Ent} (vok : VolOk v) (h : blkP v m k = some l) : NodeOk l ∧ l.length ≤ 65536 := by
 unfold blkP at h
 obtain ⟨c, hc, h⟩ := Option.bind_eq_some_iff.mp h
 obtain ⟨b, hb, h⟩ := Option.bind_eq_some_iff.mp h
 have := nodeP_len h
 have := block_len vok hb
 exact ⟨nodeP_ok h, by omega⟩
section
variable {P : Program} {w : World} {K : Frag} {mg : Str → Option Value} {base : Heap} {A : Adr} {f : Addr} {fd : FuncData}
noncomputable def spOrder (K : Frag) (A : Adr) : Sp := fun vs H Q E => ∃ (py pr : Addr) (v : Sn35.Volume) (r : Sn35.Rec), vs = [.ref py, .ref pr] ∧ IsLayout K A H py v ∧ IsRec K A H pr r ∧ Orr A.NotSo E (entriesP v r) fun es => ∀ p H', Same H H' → LOf (IsEntE K A) H' p es → Q (.ref p) H'
theorem sc_entries_in_order : FnScope ["layout", "record", "folder", "found", "before", "waiting", "step", "name"] ["layout", "record"] (defScope s_entries_in_order) := ⟨rfl, rfl, rfl, dk, rfl, dk, dk⟩
noncomputable abbrev HH (B : Hp) (pk : Addr) (kvs : List (Key × V)) (pf : Addr) (F : List Addr) (pw : Addr) (W : List Addr) : Hp := upd (upd (upd B pk (.dK kvs)) pf (.lst (F.map V.ref))) pw (.lst (W.map V.ref))
noncomputable abbrev Dq39 (P : Program) (w : World) (K : Frag) (mg : Str → Option Value) (base : Heap) (A : Adr) : Prop := DefC P w K mg base 10 "Folder" A.Folder ["self", "layout", "record"] (spFolInit K A)
noncomputable abbrev Dq41 (P : Program) (w : World) (K : Frag) (mg : Str → Option Value) (base : Heap) (A : Adr) : Prop := DefM P w K mg base 9 A.Folder "block_entries" ["self", "number"] (spBlkE K A)
noncomputable abbrev Dq40 (P : Program) (w : World) (K : Frag) (mg : Str → Option Value) (base : Heap) (A : Adr) : Prop := Def P w K mg base 3 "steps_back" ["entries", "level"] (spSteps K A)
noncomputable abbrev Dq7 (P : Program) (w : World) (K : Frag) (mg : Str → Option Value) (base : Heap) (A : Adr) : Prop := Def P w K mg base 1 "great_letters" ["name"] (spGreat K)
theorem ok_entries_in_order (F : Fun K "entries_in_order" "entries_in_order" s_entries_in_order f fd) (T : Txt K mg A) (d_must : Dq1 P w K mg base A) (d_Folder : Dq39 P w K mg base A)
  (d_steps_back : Dq40 P w K mg base A) (d_block_entries : Dq41 P w K mg base A) (d_great_letters : Dq7 P w K mg base A) :
  FnOk P w K mg base (CXR P w) 12 f fd ["layout", "record"] (spOrder K A) := by
 refine F.okR sc_entries_in_order (fun vs H Q E h => ?_) (fun cdv A' outer s H vs Q E hr h => ?_)
 ·obtain ⟨py, pr, v, r, rfl, _⟩ := h
  rfl
 ·obtain ⟨py, pr, v, r, rfl, iL, ir, k⟩ := h
  obtain ⟨pi, img, oL, hbi, hvi, vok⟩ := id iL
  refine ⟨_, (pss_cons (ps_set (i := 2) sc_entries_in_order.nd rfl (Or.inl rfl) (pe_new d_Folder hr (by decide) rfl passR (pa_cons (pv 0) (pa_cons (pv 1) pa_nil))))
 (pss_cons (ps_set (i := 3) sc_entries_in_order.nd rfl (Or.inl rfl) (pe_lst pa_nil))
 (pss_cons (ps_set (i := 4) sc_entries_in_order.nd rfl (Or.inl rfl) (pe_lst pa_nil))
 (pss_cons (ps_set (i := 5) sc_entries_in_order.nd rfl (Or.inl rfl) (pe_hide rfl (pe_hide rfl (pe_fn d_steps_back hr (by decide) rfl passR (pa_cons (pe_fld (pv 2) rfl) (pa_cons pe_int pa_nil))))))
 (pss_cons (ps_while PassesOwn.leaving (pt_cmpR op_gt (pe_callB call_len_seq rfl T.n_len boot_len (pa_cons (pv 5) pa_nil)) pe_int (nomark _))
 (pss_cons (ps_set (i := 6) sc_entries_in_order.nd rfl (Or.inl rfl) (pe_bm0 PySem.F.plainAttrs_list PySem.F.slot_list_pop PySem.F.type_list_pop mt_pop (pv 5)))
 (pss_one (ps_if (pt_cmpR op_isN (pe_fld (pv 6) rfl) pe_non (nomark _))
 (pss_cons (ps_must d_must hr (by decide) rfl passR (pe_cmpR op_le (pe_fld (pv 6) rfl) (pe_gc T.c_MOST_LEVELS rfl) (nomark _)))
 (pss_one (ps_expr (pe_bm PySem.F.plainAttrs_list PySem.F.slot_list_extend PySem.F.type_list_extend mt_extend (pv 5) (pa_cons (pe_hide rfl (pe_hide rfl (pe_fn d_steps_back hr (by decide) rfl passR (pa_cons (pe_mth (pv 2) d_block_entries hr (by decide) passR (pa_cons (pe_fld (pv 6) rfl) pa_nil)) (pa_cons (pe_fld (pv 6) rfl) pa_nil))))) pa_nil)))))
 (pss_cons (ps_set (i := 7) sc_entries_in_order.nd rfl (Or.inl rfl) (pe_hide rfl (pe_hide rfl (pe_hide rfl (pe_fn d_great_letters hr (by decide) rfl passR (pa_cons (pe_fld (pe_fld (pv 6) rfl) rfl) pa_nil))))))
 (pss_cons (ps_must d_must hr (by decide) rfl passR (pe_cmpR (op_ltL hr.units) (pv 4) (pv 7) (nomark _)))
 (pss_cons (ps_set (i := 4) sc_entries_in_order.nd rfl (Or.inl rfl) (pv 7))
 (pss_cons (ps_expr (pe_bm PySem.F.plainAttrs_list PySem.F.slot_list_append PySem.F.type_list_append mt_append (pv 3) (pa_cons (pe_fld (pv 6) rfl) pa_nil)))
 (pss_one (ps_must d_must hr (by decide) rfl passR (pe_cmpR op_le (pe_callB call_len_seq rfl T.n_len boot_len (pa_cons (pv 3) pa_nil)) (pe_gc T.c_MOST_ENTRIES rfl) (nomark _))))))))))))
 (pss_one (ps_ret (pv 3)))))))), ?_⟩
  refine ⟨_, rfl, _, rfl, fun x dx hx hdx ne => ?_⟩
  refine ⟨x, H, py, pr, v, r, rfl, .of hx hdx ne, iL, ir, ?_⟩
  have eP : entriesP v r = (firstP v r).bind fun l => (moreP v r).bind fun m => fin (outs v m (items 1 l)) := rfl
  cases hf : firstP v r with
  | none =>
   rw [eP, hf] at k
   exact k
  | some l =>
  cases hm : moreP v r with
  | none =>
   rw [eP, hf, hm] at k
   exact k
  | some m =>
  rw [hf, hm] at eP
  have eP : entriesP v r = fin (outs v m (items 1 l)) := eP
  have hmB : ∀ c', m = some c' → ∀ b, c'.inside = some b → Byt b := fun c' hc' b hb => by
   obtain ⟨_, _, _, rok, _⟩ := ir
   unfold moreP at hm
   cases hfd : r.find 0xA0 Sn35.I30 with
   | none => rw [hfd] at hm; cases hm; cases hc'
   | some a =>
    rw [hfd] at hm
    obtain ⟨c, hc, rfl⟩ := Option.map_eq_some_iff.mp hm
    cases hc'
    exact content_byt (find_ok rok hfd).1 hc b hb
  have nok : NodeOk l ∧ l.length ≤ 65536 := by
   unfold firstP at hf
   obtain ⟨a, ha, hf⟩ := Option.bind_eq_some_iff.mp hf
   split at hf
   ·cases hf
   obtain ⟨c, hc, hf⟩ := Option.bind_eq_some_iff.mp hf
   obtain ⟨b, hb, hf⟩ := Option.bind_eq_some_iff.mp hf
   split at hf
   ·cases hf
   refine ⟨nodeP_ok hf, ?_⟩
   have h1 := nodeP_len hf
   have h2 := find_small ir ha
   obtain ⟨_, _, _, rok, _⟩ := ir
   have aok := (find_ok rok ha).1
   rw [content_here aok (by have := aok.cl; omega)] at hc
   obtain ⟨z, hz, rfl⟩ := Option.map_eq_some_iff.mp hc
   cases hb
   obtain ⟨q1, q2, q3⟩ := part_len hz
   omega
  intro B pk sB hpk ifo
  refine ⟨rfl, ?_⟩
  refine ⟨Nat.zero_le _, fun pf hpf => ?_⟩
  refine ⟨Nat.zero_le _, fun pb hpb => ?_⟩
  have npk_pf : pk ≠ pf := ne_of_none upd_same hpf
  have npf_pb : pf ≠ pb := ne_of_none upd_same hpb
  have npk_pb : pk ≠ pb := fun z => by rw [← z, upd_ne npk_pf, upd_same] at hpb; cases hpb
  have hB_pf : B pf = none := by rw [upd_ne npk_pf.symm] at hpf; exact hpf
  have hB_pb : B pb = none := by rw [upd_ne npf_pb.symm, upd_ne npk_pb.symm] at hpb; exact hpb
  have eH : upd (upd (upd B pk (.dK [])) pf (.lst [])) pb (.lst []) = upd (upd (upd B pb (.lst [])) pk (.dK [])) pf (.lst []) := by
   rw [upd_comm npf_pb, upd_comm npk_pb]
  rw [eH]
  have sB1 : Same B (upd B pb (.lst [])) := Same.new hB_pb
  have bb1 : Bs K (upd B pb (.lst [])) pb [] := SqL.of upd_same
  have ifo1 := ifo.up sB1
  have sH1 := sB.trans sB1
  have h1pk : (upd B pb (.lst [])) pk = none := by rw [upd_ne npk_pb]; exact hpk
  have h1pf : (upd B pb (.lst [])) pf = none := by rw [upd_ne npf_pb]; exact hB_pf
  generalize upd B pb (.lst []) = B1 at bb1 ifo1 sH1 h1pk h1pf
  obtain ⟨pl, pfe, vb, ofo, iLf, lfe, obk⟩ := id ifo1
  refine ⟨pf, _, upd_same, trivial, ?_⟩
  have d1 : del (upd (upd B1 pk (.dK [])) pf (.lst [])) pf = upd B1 pk (.dK []) := del_upd (by rw [upd_ne npk_pf.symm]; exact h1pf)
  rw [d1]
  refine ⟨pk, _, upd_same, trivial, ?_⟩
  rw [del_upd h1pk]
  refine ⟨_, rfl, _, _, (ofo).dx, (ofo).fs, _, rfl, (ofo).e, T.o_Folder.cl, T.o_Folder.na _ dk, (ofo).get (lkS dk (lkS dk lk0)), ?_⟩
  refine ⟨pfe, 1, l, rfl, lfe, nok.2, fun pw B2 ws s2 hpw ow => ?_⟩
  intro hq1 hq2
  have npk_pw : pk ≠ pw := fun z => by rw [z, upd_same] at hq1; cases hq1
  have npf_pw : pf ≠ pw := fun z => by rw [z, upd_ne npk_pw.symm, upd_same] at hq2; cases hq2
  have h2pk : B2 pk = none := by rw [upd_ne npk_pw] at hq1; exact hq1
  have h2pf : B2 pf = none := by rw [upd_ne npk_pf.symm, upd_ne npf_pw] at hq2; exact hq2
  have eH2 : upd (upd (upd B2 pw (.lst (ws.map V.ref))) pk (.dK [])) pf (.lst []) = HH B2 pk [] pf [] pw ws := by
   show _ = upd (upd (upd B2 pk (.dK [])) pf (.lst [])) pw (.lst (ws.map V.ref))
   rw [upd_comm npk_pw.symm, upd_comm npf_pw.symm]
  rw [eH2]
  let W : Nat → List (Option V) → Hp → Prop := fun ms σ H' => ∃ (pb : Addr) (v6 v7 : Option V) (B : Hp) (kvs : List (Key × V)) (fs : List Addr) (es : List Sn35.Entry) (ws : List Addr) (st : List Item) (nv : Nat), σ = [some (.ref py), some (.ref pr), some (.ref x), some (.ref pf), some (.ref pb), some (.ref pw), v6, v7] ∧ ms = mS v m st ∧
   HH B pk kvs pf fs pw ws = H' ∧ B pk = none ∧ B pf = none ∧ B pw = none ∧ Same H B ∧ IsFol K A B x v l m pk ∧ KBok K A v m B kvs ∧ kvs.length ≤ nv ∧ Objs (IsEntE K A) B fs es ∧ Objs (IsItem K A) B ws st.reverse ∧ Stk nv es.length st ∧ Sn35.ordered es = true ∧ es.length ≤ 4096 ∧ Bs K B pb (lastUp es) ∧
   entriesP v r = fin ((outs v m st).map (es ++ ·))
  refine ⟨W, ⟨_, pb, none, none, B2, [], [], [], ws, items 1 l, 0, rfl, rfl, rfl, h2pk, h2pf, hpw, sH1.trans s2, ifo1.up s2, (fun n y z => by cases z), Nat.le_refl _, .nil, ow, .init nok.1 nok.2, rfl, by decide, s2.seq bb1, by rw [eP]; simp⟩, ?_⟩
  clear eH2 eH hq1 hq2 ow hpw s2 h2pk h2pf
  rintro ms σ H' ⟨pb', v6, v7, B, kvs, fs, es, ws, st, nv, rfl, rfl, rfl, hk, hf', hw, sHB, ifB, kb, hkl, oF, oW, stk, hord, h4096, bB, eR⟩
  have kbad : entriesP v r = none → ∀ H', E (.ref A.NotSo) none H' := fun z => by rw [z] at k; exact k
  have hstl := stk.len
  have lw : ws.length = st.length := by rw [oW.1, List.length_reverse]
  have sub : ∀ {fs' : List Addr} {ws' : List Addr} {kvs' : List (Key × V)}, Same B (HH B pk kvs' pf fs' pw ws') := fun {fs' ws' kvs'} b o e => by
   show upd (upd (upd B pk _) pf _) pw _ b = some o
   rw [upd_ne (ne_of_none e hw), upd_ne (ne_of_none e hf'), upd_ne (ne_of_none e hk)]; exact e
  refine ⟨_, rfl, pw, ws.map V.ref, rfl, .inl (SqL.of upd_same), _, _, rfl, rfl, _, rfl, ?_⟩
  rw [List.length_map, lw]
  refine iteP (fun c0 => ?_) (fun c0 => ?_)
  case refine_2 =>
   have e0 : st = [] := List.eq_nil_of_length_eq_zero (by omega)
   subst e0
   have eR : entriesP v r = some es := by
    rw [eR]
    show (if Sn35.ordered (es ++ []) = true ∧ (es ++ []).length ≤ Sn35.MOSTENTRIES then some (es ++ []) else none) = some es
    rw [List.append_nil, if_pos ⟨hord, h4096⟩]
   rw [eR] at k
   refine ⟨_, rfl, _, Fg.refl _, k pf _ (sHB.trans sub) ((oF.up fun _ _ z => z.up sub).lof ?_)⟩
   show upd (upd (upd B pk _) pf _) pw _ pf = _
   rw [upd_ne npf_pw]; exact upd_same
  cases st with
  | nil => simp at c0
  | cons it st' =>
  rw [List.reverse_cons] at oW
  obtain ⟨ws', wt, rfl, oW', iw⟩ := oW.last
  refine ⟨fun σ H' => ∃ m', m' < mS v m (it :: st') ∧ W m' σ H', fun _ _ z => z, ?_⟩
  refine ⟨_, rfl, .inl ⟨rfl, _, SqL.of upd_same⟩, pw, (ws' ++ [wt]).map V.ref, V.ref wt, rfl, rfl, upd_same, ?_, ?_⟩
  ·rw [List.length_map, List.length_append, List.getElem?_map]
   show Option.map V.ref ((ws' ++ [wt])[ws'.length + 1 - 1]?) = _
   rw [show ws'.length + 1 - 1 = ws'.length by omega]
   simp
  have edl : ((ws' ++ [wt]).map V.ref).dropLast = ws'.map V.ref := by
   rw [List.map_append]; simp
  have eHp : upd (HH B pk kvs pf fs pw (ws' ++ [wt])) pw (.lst ((ws' ++ [wt]).map V.ref).dropLast) = HH B pk kvs pf fs pw ws' := by
   rw [edl]; exact upd_upd
  rw [eHp]
  have hHp : (HH B pk kvs pf fs pw ws') pw = some (.lst (ws'.map V.ref)) := upd_same
  have dH1 : del (HH B pk kvs pf fs pw ws') pw = upd (upd B pk (.dK kvs)) pf (.lst (fs.map V.ref)) := del_upd (by rw [upd_ne npf_pw.symm, upd_ne npk_pw.symm]; exact hw)
  have dH2 : del (upd (upd B pk (.dK kvs)) pf (.lst (fs.map V.ref))) pf = upd B pk (.dK kvs) := del_upd (by rw [upd_ne npk_pf.symm]; exact hf')
  have mpos := mI_pos v m it
  rw [mS_cons]
  cases it with
  | blk lev kk =>
   have iw : OAt B A.Step wt [("entry", .non), ("block_number", .int kk), ("level", .int lev)] := iw
   have iw1 := iw.up (sub (fs' := fs) (ws' := ws') (kvs' := kvs))
   refine ⟨_, rfl, _, _, (iw1).dx, (iw1).fs, _, rfl, (iw1).e, T.o_Step.cl, T.o_Step.na _ dk, (iw1).get lk0, rfl, _, rfl, iteP (fun _ => ?_) (fun z => absurd rfl z)⟩
   refine ⟨_, rfl, _, _, (iw1).dx, (iw1).fs, _, rfl, (iw1).e, T.o_Step.cl, T.o_Step.na _ dk, (iw1).get (lkS dk (lkS dk lk0)), _, _, rfl, rfl, _, rfl, iteP (fun c1 => ?_) (fun c1 => ?_)⟩
   case refine_2 =>
    refine kbad ?_ _
    rw [eR, step_deep v m es kk st' (by omega)]; rfl
   refine ⟨_, Fg.refl _, ?_⟩
   rw [step_blk vok.byt hmB es kk st' (by omega)] at eR
   refine ⟨_, rfl, .inl ⟨rfl, _, SqL.of hHp⟩, pw, _, hHp, trivial, ?_⟩
   rw [dH1]
   refine ⟨pf, _, upd_same, trivial, ?_⟩
   rw [dH2]
   have sBk : Same B (upd B pk (.dK kvs)) := Same.new hk
   obtain ⟨pl', pfe', vb', ofo', _, _, _⟩ := id ifB
   have ofo2 := ofo'.up sBk
   refine ⟨_, rfl, x, _, _, rfl, ofo2.e, ofo2.get (lkS dk (lkS dk (lkS dk (lkS dk rfl)))), ?_⟩
   refine ⟨_, rfl, _, _, ((iw.up sBk)).dx, ((iw.up sBk)).fs, _, rfl, ((iw.up sBk)).e, T.o_Step.cl, T.o_Step.na _ dk, ((iw.up sBk)).get (lkS dk lk0), ?_⟩
   have hV := stk.few
   refine ⟨x, kk, v, l, m, pk, B, kvs, rfl, rfl, hk, ifB, kb, ?_, ?_⟩
   ·show kvs.length < 16777216
    omega
   cases hbk : blkP v m kk with
   | none =>
    rw [hbk] at eR
    exact kbad eR
   | some nes =>
   rw [hbk] at eR
   have eR : entriesP v r = fin ((outs v m (items lev nes ++ st')).map (es ++ ·)) := eR
   obtain ⟨nok2, nlen2⟩ := blkP_ok vok hbk
   intro pe B' kvs' sB' hk' kb' hkl' le
   have sB'k : Same B' (upd B' pk (.dK kvs')) := Same.new hk'
   refine ⟨_, rfl, _, _, ((iw.up (sB'.trans sB'k))).dx, ((iw.up (sB'.trans sB'k))).fs, _, rfl, ((iw.up (sB'.trans sB'k))).e, T.o_Step.cl, T.o_Step.na _ dk, ((iw.up (sB'.trans sB'k))).get (lkS dk (lkS dk lk0)), ?_⟩
   refine ⟨pe, lev, nes, rfl, le.same sB'k fun _ _ z => z.up sB'k, nlen2, fun pt B'' ts s'' hpt ot => ?_⟩
   intro hq3 hq4
   have hk'' : B'' pk = some (.dK kvs') := s'' _ _ upd_same
   have npk_pt : pk ≠ pt := ne_of_none hk'' hpt
   have npt_pf : pt ≠ pf := fun z => by rw [← z, upd_same] at hq3; cases hq3
   have hf'' : B'' pf = none := by rw [upd_ne npt_pf.symm] at hq3; exact hq3
   have npt_pw : pt ≠ pw := fun z => by rw [← z, upd_ne npt_pf, upd_same] at hq4; cases hq4
   have hw'' : B'' pw = none := by rw [upd_ne npf_pw.symm, upd_ne npt_pw.symm] at hq4; exact hq4
   refine ⟨pw, pt, ws'.map V.ref, ts.map V.ref, rfl, rfl, upd_same, ?_, ?_, ?_⟩
   ·rw [upd_ne npt_pw, upd_ne npt_pf]; exact upd_same
   ·rw [List.length_map, List.length_map, ot.1, List.length_reverse]
    have := items_len lev nes
    rw [List.length_append] at lw
    show _ ≤ 16777216
    omega
   have sD : Same B (del B'' pk) := ((sB'.trans sB'k).trans s'').delD hk
   have sD' : Same B' (del B'' pk) := (sB'k.trans s'').delD hk'
   have hptD : (del B'' pk) pt = none := by rw [del_ne npk_pt.symm]; exact hpt
   have sT : Same (del B'' pk) (upd (del B'' pk) pt (.lst (ts.map V.ref))) := Same.new hptD
   have eHn : upd (upd (upd (upd B'' pt (.lst (ts.map V.ref))) pf (.lst (fs.map V.ref))) pw (.lst (ws'.map V.ref))) pw (.lst (ws'.map V.ref ++ ts.map V.ref)) = HH (upd (del B'' pk) pt (.lst (ts.map V.ref))) pk kvs' pf fs pw (ws' ++ ts) := by
    rw [upd_upd]
    show _ = upd (upd (upd (upd (del B'' pk) pt (.lst (ts.map V.ref))) pk (.dK kvs')) pf (.lst (fs.map V.ref))) pw (.lst ((ws' ++ ts).map V.ref))
    rw [upd_comm (H := del B'' pk) npk_pt.symm, upd_del hk'', List.map_append]
   rw [eHn]
   have hlt := mS_items v m (by omega : lev ≤ 16) hbk
   refine ⟨mS v m (items lev nes ++ st'), by rw [mS_append]; omega, pb', _, v7, upd (del B'' pk) pt (.lst (ts.map V.ref)), kvs', fs, es, ws' ++ ts, items lev nes ++ st', nv + 1, rfl, rfl, rfl, ?_, ?_, ?_, sHB.trans (sD.trans sT), ifB.up (sD.trans sT), kb'.up (sD'.trans sT), by omega, oF.up fun _ _ z => z.up (sD.trans sT), ?_, stk.blk (by omega) nok2 nlen2, hord, h4096, (sD.trans sT).seq bB, eR⟩
   ·rw [upd_ne npk_pt]; exact del_same
   ·rw [upd_ne npt_pf.symm, del_ne npk_pf.symm]; exact hf''
   ·rw [upd_ne npt_pw.symm, del_ne npk_pw.symm]; exact hw''
   ·rw [List.reverse_append]
    exact (oW'.up fun _ _ z => z.up (sD.trans sT)).app (ot.up fun _ _ z => (z.delD hk'').up sT)
  | ent e =>
   obtain ⟨pe, lev, iw, x1, ie, rfl, hlast⟩ := iw
   have iw1 := iw.up (sub (fs' := fs) (ws' := ws') (kvs' := kvs))
   refine ⟨_, rfl, _, _, (iw1).dx, (iw1).fs, _, rfl, (iw1).e, T.o_Step.cl, T.o_Step.na _ dk, (iw1).get lk0, rfl, _, rfl, iteP (fun z => by cases z) (fun _ => ?_)⟩
   rw [step_ent] at eR
   obtain ⟨pn, oe, bn, eok⟩ := id ie
   obtain ⟨ne1, ne2⟩ := eok.ne hlast
   refine ⟨pw, _, hHp, trivial, ?_⟩
   rw [dH1]
   refine ⟨pf, _, upd_same, trivial, ?_⟩
   rw [dH2]
   refine ⟨pk, _, upd_same, trivial, ?_⟩
   rw [del_upd hk]
   refine ⟨_, rfl, _, _, (iw).dx, (iw).fs, _, rfl, (iw).e, T.o_Step.cl, T.o_Step.na _ dk, (iw).get lk0, _, _, (oe).dx, (oe).fs, _, rfl, (oe).e, T.o_Entry.cl, T.o_Entry.na _ dk, (oe).get lk0, ?_⟩
   refine ⟨pn, x1.e.name, rfl, bn, by omega, fun pm hpm => ?_⟩
   intro hq3 hq4 hq5
   have npk_pm : pk ≠ pm := fun z => by rw [z, upd_same] at hq3; cases hq3
   have npf_pm : pf ≠ pm := fun z => by rw [z, upd_ne npk_pm.symm, upd_same] at hq4; cases hq4
   have npw_pm : pw ≠ pm := fun z => by rw [z, upd_ne npf_pm.symm, upd_ne npk_pm.symm, upd_same] at hq5; cases hq5
   have sM : Same B (upd B pm (.lst (vN (Sn35.up x1.e.name)))) := Same.new hpm
   have bM : Bs K (upd B pm (.lst (vN (Sn35.up x1.e.name)))) pm (Sn35.up x1.e.name) := SqL.of upd_same
   have mk : (upd B pm (.lst (vN (Sn35.up x1.e.name)))) pk = none := by rw [upd_ne npk_pm]; exact hk
   have mf : (upd B pm (.lst (vN (Sn35.up x1.e.name)))) pf = none := by rw [upd_ne npf_pm]; exact hf'
   have mw : (upd B pm (.lst (vN (Sn35.up x1.e.name)))) pw = none := by rw [upd_ne npw_pm]; exact hw
   generalize upd B pm (.lst (vN (Sn35.up x1.e.name))) = B3 at sM bM mk mf mw
   have sub3 : ∀ {fs' : List Addr} {ws' : List Addr} {kvs' : List (Key × V)}, Same B3 (HH B3 pk kvs' pf fs' pw ws') := fun {fs' ws' kvs'} b o q => by
    show upd (upd (upd B3 pk _) pf _) pw _ b = some o
    rw [upd_ne (ne_of_none q mw), upd_ne (ne_of_none q mf), upd_ne (ne_of_none q mk)]; exact q
   refine ⟨_, rfl, _, rfl, pb', pm, lastUp es, Sn35.up x1.e.name, rfl, rfl, (sM.trans (sub3 (fs' := fs) (ws' := ws') (kvs' := kvs))).seq bB, (sub3 (fs' := fs) (ws' := ws') (kvs' := kvs)).seq bM, _, rfl, iteB (fun c1 => ?_) (fun c1 => ?_)⟩
   case refine_2 =>
    refine kbad ?_ _
    rw [eR]
    refine fin_bad fun z => ?_
    rw [ordered_snoc es x1.e ne1, c1, Bool.and_false] at z
    exact absurd z.1 (by decide)
   refine ⟨_, Fg.refl _, ?_⟩
   have hord2 : Sn35.ordered (es ++ [x1.e]) = true := by rw [ordered_snoc es x1.e ne1, hord, c1]; rfl
   have iw3 := iw.up (sM.trans (sub3 (fs' := fs) (ws' := ws') (kvs' := kvs)))
   have hpf3 : (HH B3 pk kvs pf fs pw ws') pf = some (.lst (fs.map V.ref)) := by
    show upd (upd (upd B3 pk _) pf _) pw _ pf = _
    rw [upd_ne npf_pw]; exact upd_same
   refine ⟨_, rfl, ?_⟩
   refine ⟨_, rfl, .inl ⟨rfl, _, SqL.of hpf3⟩, _, rfl, _, _, (iw3).dx, (iw3).fs, _, rfl, (iw3).e, T.o_Step.cl, T.o_Step.na _ dk, (iw3).get lk0, pf, fs.map V.ref, _, rfl, rfl, hpf3, ?_, ?_⟩
   ·rw [List.length_map, oF.1]
    show es.length < 16777216
    omega
   have eHf : upd (HH B3 pk kvs pf fs pw ws') pf (.lst (fs.map V.ref ++ [V.ref pe])) = HH B3 pk kvs pf (fs ++ [pe]) pw ws' := by
    show upd (upd (upd (upd B3 pk _) pf _) pw _) pf _ = upd (upd (upd B3 pk _) pf (.lst ((fs ++ [pe]).map V.ref))) pw _
    rw [upd_comm npf_pw.symm, upd_upd, List.map_append]; rfl
   rw [eHf]
   refine ⟨_, rfl, pf, (fs ++ [pe]).map V.ref, rfl, .inl (SqL.of ?_), _, _, rfl, rfl, _, rfl, ?_⟩
   ·show upd (upd (upd B3 pk _) pf _) pw _ pf = _
    rw [upd_ne npf_pw]; exact upd_same
   rw [List.length_map, List.length_append, oF.1]
   refine iteP (fun c2 => ?_) (fun c2 => ?_)
   case refine_2 =>
    refine kbad ?_ _
    rw [eR]
    refine fin_bad fun z => c2 ?_
    have z2 := z.2
    rw [List.length_append] at z2
    have z2 : es.length + 1 ≤ 4096 := z2
    show ((es.length + 1 : Nat) : Int) ≤ 4096
    omega
   have c2 : ((es.length + 1 : Nat) : Int) ≤ 4096 := c2
   refine ⟨_, Fg.refl _, ?_⟩
   have stk2 := stk.ent
   refine ⟨mS v m st', by omega, pm, _, _, B3, kvs, fs ++ [pe], es ++ [x1.e], ws', st', nv, rfl, rfl, rfl, mk, mf, mw, sHB.trans sM, ifB.up sM, kb.up sM, hkl, (oF.up fun _ _ z => z.up sM).snoc ⟨x1, ie.up sM, rfl, hlast⟩, oW'.up fun _ _ z => z.up sM, ?_, hord2, ?_, ?_, eR⟩
   ·rw [List.length_append]; exact stk2
   ·rw [List.length_append]
    show es.length + 1 ≤ 4096
    omega
   ·rw [lastUp_snoc]; exact bM
end
end Sv
end
section
namespace Sv
open Sn35
theorem less_irr : ∀ a : Bytes, less a a = false
 | [] => rfl
 | x :: r => by
  show (decide (x < x) || (x == x && less r r)) = false
  rw [less_irr r]; simp
theorem less_trans : ∀ {a b c : Bytes}, less a b = true → less b c = true → less a c = true
 | a, [], c, h, _ => by
  have : less a [] = false := by cases a <;> rfl
  rw [this] at h; cases h
 | a, y :: q, [], _, h => by cases h
 | [], y :: q, z :: r, _, _ => rfl
 | x :: p, y :: q, z :: r, h1, h2 => by
  have k1 : (decide (x < y) || (x == y && less p q)) = true := h1
  have k2 : (decide (y < z) || (y == z && less q r)) = true := h2
  show (decide (x < z) || (x == z && less p r)) = true
  simp only [Bool.or_eq_true, Bool.and_eq_true, decide_eq_true_eq, beq_iff_eq] at k1 k2 ⊢
  rcases k1 with k1 | ⟨e1, k1⟩
  ·rcases k2 with k2 | ⟨e2, k2⟩
   ·exact .inl (by omega)
   ·exact .inl (by omega)
  ·rcases k2 with k2 | ⟨e2, k2⟩
   ·exact .inl (by omega)
   ·exact .inr ⟨by omega, less_trans k1 k2⟩
theorem ordered_head : ∀ (a : Entry) (l : List Entry), ordered (a :: l) = true → ∀ b ∈ l, less (up a.name) (up b.name) = true
 | a, [], _, b, hb => by cases hb
 | a, x :: r, h, b, hb => by
  have h : (less (up a.name) (up x.name) && ordered (x :: r)) = true := h
  rw [Bool.and_eq_true] at h
  rcases List.mem_cons.mp hb with rfl | hb
  ·exact h.1
  ·exact less_trans h.1 (ordered_head x r h.2 b hb)
theorem ordered_tail {a : Entry} {l : List Entry} (h : ordered (a :: l) = true) : ordered l = true := by
 cases l with
 | nil => rfl
 | cons x r =>
  have h : (less (up a.name) (up x.name) && ordered (x :: r)) = true := h
  rw [Bool.and_eq_true] at h
  exact h.2
theorem ordered_apart : ∀ (pre : List Entry) (e : Entry) (post : List Entry), ordered (pre ++ e :: post) = true → ∀ b ∈ pre, up b.name ≠ up e.name
 | [], e, post, h, b, hb => by cases hb
 | a :: pre, e, post, h, b, hb => by
  rcases List.mem_cons.mp hb with rfl | hb
  ·intro z
   have := ordered_head b _ h e (List.mem_append_right _ (List.mem_cons_self ..))
   rw [z, less_irr] at this; cases this
  ·exact ordered_apart pre e post (ordered_tail h) b hb
theorem look_skip {pre : List Entry} {e : Entry} (w : Bytes) (h : e.space = 2) : lookFor (pre ++ [e]) w = lookFor pre w := by
 unfold lookFor seen
 rw [List.filter_append]
 have : [e].filter (fun e => e.space != 2) = [] := by simp [h]
 rw [this, List.append_nil]
theorem look_new {pre : List Entry} {e : Entry} (w : Bytes) (h : e.space ≠ 2) (ap : ∀ b ∈ pre, up b.name ≠ up e.name) : lookFor (pre ++ [e]) w = if up w = up e.name then some e else lookFor pre w := by
 unfold lookFor seen
 rw [List.filter_append]
 have : [e].filter (fun e => e.space != 2) = [e] := by simp [h]
 rw [this, List.find?_append]
 by_cases z : up w = up e.name
 ·rw [if_pos z]
  have n : (pre.filter fun e => e.space != 2).find? (fun x => up x.name == up w) = none := by
   rw [List.find?_eq_none]
   intro x hx y
   rw [beq_iff_eq] at y
   exact ap x (List.mem_filter.mp hx).1 (by rw [y, z])
  rw [n]
  simp [z]
 ·rw [if_neg z]
  have n : [e].find? (fun x => up x.name == up w) = none := by
   rw [List.find?_eq_none]
   intro x hx y
   rw [beq_iff_eq] at y
   rw [List.mem_singleton] at hx
   subst hx
   exact z y.symm
  rw [n]
  simp
theorem entriesP_ord {v : Volume} {r : Rec} {es : List Entry} (h : entriesP v r = some es) : ordered es = true ∧ es.length ≤ 4096 := by
 unfold entriesP at h
 obtain ⟨l, _, h⟩ := Option.bind_eq_some_iff.mp h
 obtain ⟨m, _, h⟩ := Option.bind_eq_some_iff.mp h
 unfold fin at h
 obtain ⟨o, _, h⟩ := Option.bind_eq_some_iff.mp h
 split at h
 ·rename_i c; cases h; exact c
 ·cases h
theorem split_len : ∀ (q w : Bytes), (splitBy 47 q w).length ≤ q.length + 1 ∧ ∀ x ∈ splitBy 47 q w, x.length ≤ q.length + w.length
 | [], w => by
  have e : splitBy 47 [] w = [w] := rfl
  rw [e]
  exact ⟨by simp, fun x hx => by rw [List.mem_singleton] at hx; rw [hx]; simp⟩
 | c :: r, w => by
  have e : splitBy 47 (c :: r) w = if c = 47 then w :: splitBy 47 r [] else splitBy 47 r (w ++ [c]) := by rw [splitBy]
  rw [e, List.length_cons]
  by_cases h : c = 47
  ·rw [if_pos h]
   obtain ⟨h1, h2⟩ := split_len r []
   refine ⟨by rw [List.length_cons]; omega, fun x hx => ?_⟩
   rcases List.mem_cons.mp hx with rfl | hx
   ·omega
   ·have := h2 x hx
    rw [List.length_nil] at this; omega
  ·rw [if_neg h]
   obtain ⟨h1, h2⟩ := split_len r (w ++ [c])
   refine ⟨by omega, fun x hx => ?_⟩
   have := h2 x hx
   rw [List.length_append, List.length_cons, List.length_nil] at this; omega
theorem names_len {p : Bytes} {ws : List Bytes} (hl : p.length ≤ 4096) (h : namesP p = some ws) : ws.length ≤ 4097 ∧ ∀ w ∈ ws, w.length ≤ 4096 := by
 unfold namesP at h
 split at h
 ·cases h
 split at h
 ·cases h
  split
  ·exact ⟨Nat.zero_le _, fun w hw => by cases hw⟩
  ·rename_i q _ _
   obtain ⟨h1, h2⟩ := split_len q []
   rw [List.length_cons] at hl
   refine ⟨by omega, fun w hw => ?_⟩
   have := h2 w hw
   rw [List.length_nil] at this; omega
 ·cases h
end Sv
end
section
namespace L2
open PySem PySem.Spec PyProof.Rows
noncomputable def rCatS (K : Frag) : R2 := fun x y H Q => ∃ l b xs zs, x = .ref l ∧ y = .ref b ∧ SqL K H l xs ∧ SqL K H b zs ∧ xs.length + zs.length ≤ sizeLine ∧ ∀ p, H p = none → Q (.ref p) (upd H p (.lst (xs ++ zs)))
theorem op_catS {X : Cx} : OpR X (binaryOp .Add) (rCatS X.K) := by
 intro pins s σ H x y v u Q I rx ry h
 obtain ⟨l, b, xs, zs, rfl, rfl, hH, hB, hz, q⟩ := h
 cases rx
 cases ry
 obtain ⟨its, r, pl, z⟩ := I.list hH
 obtain ⟨its2, r2, pl2, z2⟩ := I.list hB
 have hl := r.length
 have hl2 := r2.length
 obtain ⟨⟨cls, dd, data, sl⟩, ho, hc, n, hd⟩ := id pl.isList
 obtain ⟨⟨cls2, dd2, data2, sl2⟩, ho2, hc2, n2, hd2⟩ := id pl2.isList
 simp only at hc hd hc2 hd2
 subst hc hd hc2 hd2
 refine concat_meets ⟨_, ho, rfl⟩ ⟨_, ho2, rfl⟩ noFill_list_add seq_list_add PySem.F.slot_list_add PySem.F.entry_list_add (PySem.F.args_list_add_2 _ _) (list_addW l b its.toArray its2.toArray n n2 dd dd2 sl sl2 (by simp only [List.size_toArray]; omega)) ⟨ho, ho2, ?_⟩
 have ea : its.toArray ++ its2.toArray = (its ++ its2).toArray := by simp
 rw [ea]
 exact ⟨.ref _, _, I.lnew (t' := s.toks) (r.append r2) (by rw [List.length_append]; omega), rfl, q _ I.fresh⟩
end L2
namespace Sv
open PySem PySem.Spec L2
section
variable {P : Program} {w : World} {K : Frag} {mg : Str → Option Value} {base : Heap} {A : Adr} {f : Addr} {fd : FuncData}
noncomputable def spBounds (K : Frag) : Sp := fun vs H Q _ => ∃ (m : Int) (pi pp : Addr) (img p : List Nat), vs = [.int m, .ref pi, .ref pp] ∧ Bs K H pi img ∧ Bs K H pp p ∧ Q (.bl (decide (0 ≤ m ∧ m ≤ 33554432 ∧ img.length ≤ 33554432 ∧ p.length ≤ 4096))) H
theorem sc_in_bounds : FnScope ["most", "image", "path"] ["most", "image", "path"] (defScope s_in_bounds) := ⟨rfl, rfl, rfl, dk, rfl, dk, dk⟩
theorem ok_in_bounds (F : Fun K "in_bounds" "in_bounds" s_in_bounds f fd) (T : Txt K mg A) : FnOk P w K mg base (CXR P w) 1 f fd ["most", "image", "path"] (spBounds K) := by
 refine F.okR sc_in_bounds (fun vs H Q E h => ?_) (fun cdv A' outer s H vs Q E hr h => ?_)
 ·obtain ⟨m, pi, pp, img, p, rfl, _⟩ := h
  rfl
 ·obtain ⟨m, pi, pp, img, p, rfl, hi, hp, k⟩ := h
  obtain ⟨q, hq⟩ : ∃ q, q = decide (0 ≤ m ∧ m ≤ 33554432 ∧ img.length ≤ 33554432 ∧ p.length ≤ 4096) := ⟨_, rfl⟩
  rw [← hq] at k
  refine ⟨_, (pss_one (ps_ret (pe_and (pe_chain op_le op_le pe_int (pv 0) (pe_gc T.c_MOST_BYTES rfl)) (pe_and (pe_cmpR op_le (pe_callB call_len_seq rfl T.n_len boot_len (pa_cons (pv 1) pa_nil)) (pe_gc T.c_MOST_BYTES rfl) (nomark _)) (pe_one (pe_cmpR op_le (pe_callB call_len_seq rfl T.n_len boot_len (pa_cons (pv 2) pa_nil)) (pe_gc T.c_MOST_PATH rfl) (nomark _))))))), ?_⟩
  obtain ⟨M, hM⟩ : ∃ M : Int, M = 33554432 := ⟨_, rfl⟩
  refine ⟨_, rfl, _, _, rfl, rfl, _, rfl, iteP (fun c1 => ?_) (fun c1 => ?_)⟩
  case refine_2 =>
   have e : q = false := by rw [hq]; exact decide_eq_false fun z => c1 z.1
   rw [e] at k
   exact ⟨_, rfl, iteF ⟨_, Fg.refl _, k⟩⟩
  have c1 : 0 ≤ m := c1
  refine ⟨_, _, rfl, rfl, ?_⟩
  obtain ⟨b2, hb2⟩ : ∃ b, b = decide (m ≤ 33554432) := ⟨_, rfl⟩
  refine ⟨b2, by rw [hb2], ?_⟩
  refine iteB (fun c2 => ?_) (fun c2 => ?_)
  case refine_2 =>
   have e : q = false := by rw [hq]; exact decide_eq_false fun z => by rw [c2] at hb2; exact of_decide_eq_false hb2.symm z.2.1
   rw [e] at k
   exact ⟨_, Fg.refl _, k⟩
  have c2 : m ≤ 33554432 := by rw [c2] at hb2; exact of_decide_eq_true hb2.symm
  refine ⟨_, rfl, pi, vN img, rfl, .inl hi, _, _, rfl, rfl, ?_⟩
  rw [vN_len]
  obtain ⟨b3, hb3⟩ : ∃ b, b = decide ((img.length : Int) ≤ 33554432) := ⟨_, rfl⟩
  refine ⟨b3, by rw [hb3], ?_⟩
  refine iteB (fun c3 => ?_) (fun c3 => ?_)
  case refine_2 =>
   have e : q = false := by rw [hq]; exact decide_eq_false fun z => by rw [c3] at hb3; exact of_decide_eq_false hb3.symm (by omega)
   rw [e] at k
   exact ⟨_, Fg.refl _, k⟩
  have c3 : (img.length : Int) ≤ 33554432 := by rw [c3] at hb3; exact of_decide_eq_true hb3.symm
  refine ⟨_, rfl, pp, vN p, rfl, .inl hp, _, _, rfl, rfl, ?_⟩
  rw [vN_len]
  refine ⟨_, Fg.refl _, ?_⟩
  have e : q = decide ((p.length : Int) ≤ 4096) := by
   rw [hq]
   by_cases c4 : (p.length : Int) ≤ 4096
   ·rw [decide_eq_true c4]; exact decide_eq_true ⟨c1, c2, by omega, by omega⟩
   ·rw [decide_eq_false c4]; exact decide_eq_false fun z => c4 (by omega)
  rw [e] at k
  exact k
noncomputable def spNames (K : Frag) (A : Adr) : Sp := fun vs H Q E => ∃ (pp : Addr) (p : List Nat), vs = [.ref pp] ∧ Bs K H pp p ∧ p.length ≤ 4096 ∧ Orr A.NotThere E (namesP p) fun ws => ∀ q H', Same H H' → LOf (Bs K) H' q ws → Q (.ref q) H'
theorem split_cons (c : Nat) (r w : List Nat) : Sn35.splitBy 47 (c :: r) w = if c = 47 then w :: Sn35.splitBy 47 r [] else Sn35.splitBy 47 r (w ++ [c]) := by
 rw [Sn35.splitBy]
theorem sc_names_in : FnScope ["path", "stroke", "names", "code"] ["path"] (defScope s_names_in) := ⟨rfl, rfl, rfl, dk, rfl, dk, dk⟩
theorem ok_names_in (F : Fun K "names_in" "names_in" s_names_in f fd) (T : Txt K mg A) (d_codes : Dq4 P w K mg base A) : FnOk P w K mg base (CXR P w) 2 f fd ["path"] (spNames K A) := by
 refine F.okR sc_names_in (fun vs H Q E h => ?_) (fun cdv A' outer s H vs Q E hr h => ?_)
 ·obtain ⟨pp, p, rfl, _⟩ := h
  rfl
 ·obtain ⟨pp, p, rfl, hp, hl, k⟩ := h
  refine ⟨_, (pss_cons (ps_set (i := 1) sc_names_in.nd rfl (Or.inl rfl) (pe_ix ix_list (pe_fn d_codes hr (by decide) rfl passR (pa_cons pe_str pa_nil)) pe_int (fun _ _ => rfl)))
 (pss_cons (ps_if (pt_cmpR (op_neL hr.units) (pe_slice sl_list (pv 0) po_none (po_some pe_int)) (pe_lst (pa_cons (pv 1) pa_nil)) (nomark _))
 (pss_one (ps_raise rfl T.x_NotThere T.xc_NotThere rfl (pa_cons pe_str pa_nil) (fun _ _ _ _ _ _ _ I hx q => raiseR I hx q)))
 pss_nil)
 (pss_cons (ps_if (pt_cmpR op_eq (pe_callB call_len_seq rfl T.n_len boot_len (pa_cons (pv 0) pa_nil)) pe_int (nomark _))
 (pss_one (ps_ret (pe_lst pa_nil)))
 pss_nil)
 (pss_cons (ps_set (i := 2) sc_names_in.nd rfl (Or.inl rfl) (pe_lst (pa_cons (pe_lst pa_nil) pa_nil)))
 (pss_cons (ps_for PassesOwn.leaving rfl (pi_list (pe_slice sl_list (pv 0) (po_some pe_int) po_none)) (pg_name (i := 3) sc_names_in.nd rfl (Or.inl rfl))
 (pss_one (ps_if (pt_cmpR op_eq (pv 3) (pv 1) (nomark _))
 (pss_one (ps_expr (pe_bm PySem.F.plainAttrs_list PySem.F.slot_list_append PySem.F.type_list_append mt_append (pv 2) (pa_cons (pe_lst pa_nil) pa_nil))))
 (pss_one (ps_expr (pe_bm PySem.F.plainAttrs_list PySem.F.slot_list_append PySem.F.type_list_append mt_append (pe_ix ix_list (pv 2) (pe_op op_sub (pe_callB call_len_seq rfl T.n_len boot_len (pa_cons (pv 2) pa_nil)) pe_int) (fun _ _ => rfl)) (pa_cons (pv 3) pa_nil)))))))
 (pss_one (ps_ret (pv 2)))))))), ?_⟩
  have e47 : vN (Str.ofString "/").cps.toList = [V.int 47] := by decide +kernel
  refine ⟨"/", rfl, dk, fun pc hpc => ?_⟩
  rw [e47]
  refine ⟨pc, [V.int 47], 0, V.int 47, rfl, rfl, SqL.of upd_same, dk, ?_⟩
  have s1 : Same H (upd H pc (.lst [V.int 47])) := Same.new hpc
  generalize upd H pc (.lst [V.int 47]) = H1 at s1
  refine ⟨_, rfl, _, rfl, pp, vN p, rfl, s1.seq hp, fun pt hpt => ?_⟩
  have ec : cutV (vN p) none (some 1) = vN (p.take 1) := by
   cases p with
   | nil => rfl
   | cons c q =>
    have e := cut_vN (l := c :: q) (i := 0) (n := 1) (by simp)
    exact e
  rw [ec]
  have s2 : Same H (upd H1 pt (.lst (vN (p.take 1)))) := s1.trans (Same.new hpt)
  have b2 : Bs K (upd H1 pt (.lst (vN (p.take 1)))) pt (p.take 1) := SqL.of upd_same
  generalize upd H1 pt (.lst (vN (p.take 1))) = H2 at s2 b2
  refine ⟨_, rfl, by show 1 ≤ sizeLine; decide, fun pq hpq => ?_⟩
  have s3 : Same H2 (upd H2 pq (.lst [V.int 47])) := Same.new hpq
  have b3 : Bs K (upd H2 pq (.lst [V.int 47])) pq [47] := SqL.of (xs := vN [47]) upd_same
  generalize upd H2 pq (.lst [V.int 47]) = H3 at s3 b3
  have s3' := s2.trans s3
  refine ⟨pt, pq, p.take 1, [47], rfl, rfl, s3.seq b2, b3, _, rfl, iteN (fun c1 => ?_) (fun c1 => ?_)⟩
  ·have en : namesP p = none := by
    cases p with
    | nil => rfl
    | cons c q =>
     show (if c = 47 then _ else none) = none
     rw [if_neg fun z => c1 (by rw [z]; rfl)]
   rw [en] at k
   exact ⟨by show 1 ≤ sizeLine; decide, k _⟩
  cases p with
  | nil => cases c1
  | cons c q =>
  have c1 : [c] = [47] := c1
  cases c1
  have en : namesP (47 :: q) = some (if q = [] then [] else Sn35.splitBy 47 q []) := rfl
  rw [en] at k
  have k : ∀ q' H', Same H H' → LOf (Bs K) H' q' (if q = [] then [] else Sn35.splitBy 47 q []) → Q (.ref q') H' := k
  refine ⟨_, rfl, pp, vN (47 :: q), rfl, .inl (s3'.seq hp), rfl, _, rfl, ?_⟩
  rw [vN_len]
  refine iteE (fun c2 => ?_) (fun c2 => ?_)
  ·have e0 : q = [] := List.eq_nil_of_length_eq_zero (by rw [List.length_cons] at c2; omega)
   subst e0
   exact ⟨Nat.zero_le _, fun pz hpz => ⟨_, Fg.refl _, k pz _ (s3'.trans (Same.new hpz)) (.nil upd_same)⟩⟩
  have q0 : q ≠ [] := fun z => c2 (by rw [z]; rfl)
  rw [if_neg q0] at k
  refine ⟨Nat.zero_le _, fun a0 ha0 => ?_⟩
  refine ⟨by show 1 ≤ sizeLine; decide, fun pn hpn => ?_⟩
  have na0 : a0 ≠ pn := ne_of_none upd_same hpn
  have h3n : H3 pn = none := by rw [upd_ne na0.symm] at hpn; exact hpn
  refine ⟨_, rfl, _, rfl, pp, vN (47 :: q), rfl, ?_, fun pr hpr => ?_⟩
  ·exact ((s3'.trans (Same.new ha0)).trans (Same.new hpn)).seq hp
  have ec2 : cutV (vN (47 :: q)) (some 1) none = vN q := by
   unfold cutV
   have : HT.sIx (vN (47 :: q)).length 0 (some 1) = 1 := by
    have := HT.sIx_nat (vN (47 :: q)).length 0 1
    exact this.trans (by rw [vN_len, List.length_cons]; omega)
   rw [this]
   show ((vN (47 :: q)).drop 1).take ((vN (47 :: q)).length - 1) = vN q
   rw [List.take_of_length_le (by rw [List.length_drop]; omega)]
   rfl
  rw [ec2]
  refine ⟨_, rfl, ⟨_, SqL.of upd_same⟩, ?_⟩
  have nprn : pn ≠ pr := ne_of_none upd_same hpr
  have npra : a0 ≠ pr := fun z => by rw [← z, upd_ne na0, upd_same] at hpr; cases hpr
  have h3r : H3 pr = none := by rw [upd_ne nprn.symm, upd_ne npra.symm] at hpr; exact hpr
  have sr : Same H3 (upd H3 pr (.lst (vN q))) := Same.new h3r
  have eH : upd (upd (upd H3 a0 (.lst [])) pn (.lst [V.ref a0])) pr (.lst (vN q)) = upd (upd (upd H3 pr (.lst (vN q))) pn (.lst [V.ref a0])) a0 (.lst []) := by
   rw [upd_comm nprn, upd_comm npra, upd_comm na0]
  rw [eH]
  refine for_list (K := K) (a := pr) (xs := vN q) (fun j σ H' => ∃ v3, σ = [some (.ref pp), some (.int 47), some (.ref pn), v3] ∧ ∃ (B : Hp) (as : List Addr) (a : Addr) (ws : List (List Nat)) (w : List Nat), upd (upd B pn (.lst ((as ++ [a]).map V.ref))) a (.lst (vN w)) = H' ∧ B pn = none ∧ B a = none ∧ a ≠ pn ∧ Same (upd H3 pr (.lst (vN q))) B ∧ Objs (Bs K) B as ws ∧ ws.length ≤ j ∧ w.length ≤ j ∧ Sn35.splitBy 47 q [] = ws ++ Sn35.splitBy 47 (q.drop j) w)
   ⟨none, rfl, _, [], a0, [], [], rfl, by rw [upd_ne nprn]; exact h3n, by rw [upd_ne npra]; exact ha0, na0, Same.refl _, .nil, Nat.le_refl _, Nat.le_refl _, rfl⟩ ?_ ?_ ?_
  ·rintro j σ H' _ ⟨v3, _, B, as, a, ws, w, rfl, hn, ha, ne, sB, _⟩
   exact SqL.of ((((sB.trans (Same.new hn)).trans (Same.new (by rw [upd_ne ne]; exact ha)))) _ _ upd_same)
  ·rintro j y σ H' hy ⟨v3, rfl, B, as, a, ws, w, rfl, hn, ha, ne, sB, ob, wl, ww, es⟩
   obtain ⟨c, hc, rfl⟩ := vN_get hy
   have hjl : j < q.length := (List.getElem?_eq_some_iff.mp hc).1
   rw [List.length_cons] at hl
   have hd : q.drop j = c :: q.drop (j + 1) := by
    rw [List.drop_eq_getElem_cons hjl]
    congr 1
    rw [List.getElem?_eq_getElem hjl] at hc
    exact Option.some.inj hc
   rw [hd, split_cons] at es
   have hpnH : upd (upd B pn (.lst ((as ++ [a]).map V.ref))) a (.lst (vN w)) pn = some (.lst ((as ++ [a]).map V.ref)) := by rw [upd_ne ne.symm]; exact upd_same
   refine ⟨_, rfl, _, rfl, rfl, _, rfl, iteE (fun c3 => ?_) (fun c3 => ?_)⟩
   ·have c3 : c = 47 := by omega
    rw [if_pos c3] at es
    refine ⟨_, rfl, .inl ⟨rfl, _, SqL.of hpnH⟩, Nat.zero_le _, fun a1 ha1 => ?_⟩
    have n1 : a ≠ a1 := ne_of_none upd_same ha1
    have n2 : pn ≠ a1 := ne_of_none hpnH ha1
    have hB1 : B a1 = none := by rw [upd_ne n1.symm, upd_ne n2.symm] at ha1; exact ha1
    refine ⟨pn, (as ++ [a]).map V.ref, _, rfl, rfl, by rw [upd_ne n2]; exact hpnH, ?_, ?_⟩
    ·rw [List.length_map, List.length_append, ob.1]
     show ws.length + 1 < 16777216
     omega
    have sW : Same B (upd B a (.lst (vN w))) := Same.new ha
    refine ⟨_, rfl, upd B a (.lst (vN w)), as ++ [a], a1, ws ++ [w], [], ?_, by rw [upd_ne ne.symm]; exact hn, by rw [upd_ne n1.symm]; exact hB1, n2.symm, sB.trans sW, (Objs.up (R := Bs K) (fun (b : Addr) (y : List Nat) (z : Bs K B b y) => sW.seq z) ob).snoc (SqL.of upd_same), by rw [List.length_append]; show ws.length + 1 ≤ _; omega, Nat.zero_le _, by rw [es, List.append_assoc]; rfl⟩
    rw [upd_comm (H := upd (upd B pn _) a _) n2.symm, upd_comm (H := upd B pn _) ne, upd_upd, upd_comm (H := B) ne, List.map_append (l₁ := as ++ [a])]
    rfl
   ·have c3 : ¬ c = 47 := fun z => c3 (by omega)
    rw [if_neg c3] at es
    refine ⟨_, rfl, _, rfl, pn, (as ++ [a]).map V.ref, rfl, .inl (SqL.of hpnH), _, _, rfl, rfl, ?_⟩
    have hat : atI ((as ++ [a]).map V.ref) ((((as ++ [a]).map V.ref).length : Int) - 1) = some (V.ref a) := by
     rw [List.length_map, List.length_append, show (((as.length + [a].length : Nat) : Int) - 1) = ((as.length : Nat) : Int) by simp]
     refine atI_nat ?_
     rw [List.getElem?_map]; simp
    refine ⟨pn, (as ++ [a]).map V.ref, _, V.ref a, rfl, rfl, SqL.of hpnH, hat, ?_⟩
    refine ⟨.inl ⟨rfl, _, SqL.of upd_same⟩, _, rfl, a, vN w, _, rfl, rfl, upd_same, ?_, ?_⟩
    ·rw [vN_len]
     show w.length < 16777216
     omega
    rw [upd_upd]
    refine ⟨_, rfl, B, as, a, ws, w ++ [c], ?_, hn, ha, ne, sB, ob, by omega, by rw [List.length_append]; show w.length + 1 ≤ _; omega, es⟩
    rw [show vN (w ++ [c]) = vN w ++ [V.int (c : Int)] by simp [vN]]
  ·rintro σ H' ⟨v3, rfl, B, as, a, ws, w, rfl, hn, ha, ne, sB, ob, wl, ww, es⟩
   rw [vN_len, List.drop_length] at es
   have es : Sn35.splitBy 47 q [] = ws ++ [w] := es
   rw [es] at k
   have sA : Same B (upd B a (.lst (vN w))) := Same.new ha
   have sN : Same (upd B a (.lst (vN w))) (upd (upd B a (.lst (vN w))) pn (.lst ((as ++ [a]).map V.ref))) := Same.new (by rw [upd_ne ne.symm]; exact hn)
   refine ⟨_, rfl, _, Fg.refl _, ?_⟩
   rw [upd_comm ne.symm]
   refine k pn _ (((s3'.trans sr).trans sB).trans (sA.trans sN)) (Objs.lof ?_ upd_same)
   have o2 : Objs (Bs K) (upd B a (.lst (vN w))) (as ++ [a]) (ws ++ [w]) := (Objs.up (R := Bs K) (fun (b : Addr) (y : List Nat) (z : Bs K B b y) => sA.seq z) ob).snoc (SqL.of upd_same)
   exact Objs.up (R := Bs K) (fun (b : Addr) (y : List Nat) z => sN.seq z) o2
end
end Sv
end
section
namespace Sv
open PySem PySem.Spec L2
noncomputable def kN (l : List Nat) : List Key := l.map fun (n : Nat) => (Sum.inl (n : Int) : Key)
theorem kN_v (l : List Nat) : (kN l).map kV = vN l := by simp [kN, vN, kV]
theorem kN_inj {l m : List Nat} (h : kN l = kN m) : l = m := by
 unfold kN at h
 refine (List.map_inj_right ?_).mp h
 intro a b e
 have e : (a : Int) = (b : Int) := Sum.inl.inj e
 omega
section
variable {K : Frag} {A : Adr} {B H : Hp} {pk p : Addr} {kvs : List (List Key × V)}
theorem OAt.delT {C : Addr} {fv : List (Str × V)} (h : OAt H C p fv) (hk : H pk = some (.dT kvs)) : OAt (del H pk) C p fv := by
 obtain ⟨dx, fs, e, l⟩ := h
 exact ⟨dx, fs, by rw [del_ne (ne_of e hk (by intro z; cases z))]; exact e, l⟩
theorem _root_.L2.SqL.delT {xs : List V} (h : SqL K H p xs) (hk : H pk = some (.dT kvs)) : SqL K (del H pk) p xs := by
 rcases h with (h | ⟨o, h⟩) | h
 ·exact .inl (.inl (by rw [del_ne (ne_of h hk (by intro z; cases z))]; exact h))
 ·exact .inl (.inr ⟨o, by rw [del_ne (ne_of h hk (by intro z; cases z))]; exact h⟩)
 ·exact .inr h
theorem IsEntE.delT {e : Sn35.Entry} (h : IsEntE K A H p e) (hk : H pk = some (.dT kvs)) : IsEntE K A (del H pk) p e := by
 obtain ⟨x, ⟨pn, o, b, r⟩, q⟩ := h
 exact ⟨x, ⟨pn, o.delT hk, b.delT hk, r⟩, q⟩
theorem IsEntE.o {e : Sn35.Entry} (h : IsEntE K A H p e) : ∃ (pn : Addr) (ln : Nat), OAt H A.Entry p [("name", .ref pn), ("kind", .int (e.space : Nat)), ("below", vO e.down), ("is_last", .bl false), ("uses", .int (e.seq : Nat)), ("number", .int (e.number : Nat)), ("length", .int (ln : Nat))] ∧ Bs K H pn e.name ∧ 1 ≤ e.name.length ∧ e.name.length ≤ 255 := by
 obtain ⟨x, ⟨pn, o, b, r⟩, rfl, hl⟩ := h
 rw [hl] at o
 exact ⟨pn, x.len, o, b, r.ne hl⟩
end
section
variable {P : Program} {w : World} {K : Frag} {mg : Str → Option Value} {base : Heap} {A : Adr} {f : Addr} {fd : FuncData}
noncomputable def KNok (K : Frag) (A : Adr) (H : Hp) (kvs : List (List Key × V)) (es : List Sn35.Entry) : Prop := ∀ nm : List Nat, match lookFor es nm with
 | none => valV kvs (kN (Sn35.up nm)) = none
 | some e => ∃ pe, valV kvs (kN (Sn35.up nm)) = some (.ref pe) ∧ IsEntE K A H pe e
theorem KNok.up {H H' : Hp} {kvs : List (List Key × V)} {es : List Sn35.Entry} (s : Same H H') (h : KNok K A H kvs es) : KNok K A H' kvs es := fun nm => by
 have := h nm
 cases z : lookFor es nm with
 | none => rw [z] at this; exact this
 | some e => rw [z] at this; obtain ⟨pe, a, b⟩ := this; exact ⟨pe, a, b.up s⟩
noncomputable def IsNames (K : Frag) (A : Adr) (H : Hp) (p : Addr) (es : List Sn35.Entry) : Prop := ∃ kvs, H p = some (.dT kvs) ∧ KNok K A H kvs es
theorem IsNames.up {H H' : Hp} {p : Addr} {es : List Sn35.Entry} (s : Same H H') (h : IsNames K A H p es) : IsNames K A H' p es := let ⟨kvs, a, b⟩ := h; ⟨kvs, s _ _ a, b.up s⟩
noncomputable def spByName (K : Frag) (A : Adr) : Sp := fun vs H Q E => ∃ (py pr : Addr) (v : Sn35.Volume) (r : Sn35.Rec), vs = [.ref py, .ref pr] ∧ IsLayout K A H py v ∧ IsRec K A H pr r ∧ Orr A.NotSo E (entriesP v r) fun es => ∀ p H', Same H H' → IsNames K A H' p es → Q (.ref p) H'
theorem sc_entries_by_name : FnScope ["layout", "record", "by_name", "entry"] ["layout", "record"] (defScope s_entries_by_name) := ⟨rfl, rfl, rfl, dk, rfl, dk, dk⟩
noncomputable abbrev Dq17 (P : Program) (w : World) (K : Frag) (mg : Str → Option Value) (base : Heap) (A : Adr) : Prop := Def P w K mg base 12 "entries_in_order" ["layout", "record"] (spOrder K A)
theorem ok_entries_by_name (F : Fun K "entries_by_name" "entries_by_name" s_entries_by_name f fd) (T : Txt K mg A) (d_entries_in_order : Dq17 P w K mg base A) (d_great_letters : Dq7 P w K mg base A) :
  FnOk P w K mg base (CXR P w) 13 f fd ["layout", "record"] (spByName K A) := by
 refine F.okR sc_entries_by_name (fun vs H Q E h => ?_) (fun cdv A' outer s H vs Q E hr h => ?_)
 ·obtain ⟨py, pr, v, r, rfl, _⟩ := h
  rfl
 ·obtain ⟨py, pr, v, r, rfl, iL, ir, k⟩ := h
  refine ⟨_, (pss_cons (ps_set (i := 2) sc_entries_by_name.nd rfl (Or.inl rfl) pe_dnewT)
 (pss_cons (ps_for PassesOwn.leaving rfl (pi_list (pe_fn d_entries_in_order hr (by decide) rfl passR (pa_cons (pv 0) (pa_cons (pv 1) pa_nil)))) (pg_name (i := 3) sc_entries_by_name.nd rfl (Or.inl rfl))
 (pss_one (ps_if (pt_cmpR op_ne (pe_fld (pv 3) rfl) (pe_gc T.c_KIND_NOT_LOOKED_FOR rfl) (nomark _))
 (pss_one (ps_dput (hu_of hr) (pv 2) (pe_callTy call_tuple_of rfl T.n_tuple boot_tuple (pa_cons (pe_fn d_great_letters hr (by decide) rfl passR (pa_cons (pe_fld (pv 3) rfl) pa_nil)) pa_nil)) (pv 3) rfl))
 pss_nil)))
 (pss_one (ps_ret (pv 2))))), ?_⟩
  intro pd hpd
  have s0 : Same H (upd H pd (.dT [])) := Same.new hpd
  refine ⟨_, rfl, _, rfl, py, pr, v, r, rfl, iL.up s0, ir.up s0, ?_⟩
  cases hes : entriesP v r with
  | none =>
   rw [hes] at k
   exact k
  | some es =>
  rw [hes] at k
  have k : ∀ p H', Same H H' → IsNames K A H' p es → Q (.ref p) H' := k
  obtain ⟨hord, h4096⟩ := entriesP_ord hes
  rintro pl H1 s1 ⟨as, el, nl, fr⟩
  have hd1 : H1 pd = some (.dT []) := s1 _ _ upd_same
  have npl : pl ≠ pd := ne_of el hd1 (by intro z; cases z)
  have eH1 : upd (del H1 pd) pd (.dT []) = H1 := upd_del hd1
  have sD : Same H (del H1 pd) := fun b o e => by
   rw [del_ne (ne_of_none e hpd)]; exact s1 _ _ (s0 b o e)
  have el' : (del H1 pd) pl = some (.lst (as.map V.ref)) := by rw [del_ne npl]; exact el
  have fr' : ∀ (i : Nat) (a : Addr) (x : Sn35.Entry), as[i]? = some a → es[i]? = some x → IsEntE K A (del H1 pd) a x := fun i a x h1 h2 => (fr i a x h1 h2).delT hd1
  have hdd : (del H1 pd) pd = none := del_same
  rw [← eH1]
  generalize del H1 pd = D1 at sD el' fr' hdd
  refine ⟨pl, rfl, ⟨_, SqL.of ((Same.new hdd) _ _ el')⟩, ?_⟩
  refine for_list (K := K) (a := pl) (xs := as.map V.ref) (fun j σ H' => ∃ v3, σ = [some (.ref py), some (.ref pr), some (.ref pd), v3] ∧ ∃ (B : Hp) (kvs : List (List Key × V)), upd B pd (.dT kvs) = H' ∧ B pd = none ∧ Same D1 B ∧ kvs.length ≤ j ∧ KNok K A B kvs (es.take j))
   ⟨none, rfl, D1, [], rfl, hdd, Same.refl _, Nat.le_refl _, fun nm => rfl⟩ ?_ ?_ ?_
  ·rintro j σ H' _ ⟨v3, _, B, kvs, rfl, hB, sB, _⟩
   exact SqL.of ((sB.trans (Same.new hB)) _ _ el')
  ·rintro j y σ H' hj ⟨v3, rfl, B, kvs, rfl, hB, sB, kl, kn⟩
   rw [List.getElem?_map] at hj
   cases ha : as[j]? with
   | none => rw [ha] at hj; cases hj
   | some b =>
   rw [ha] at hj
   cases hj
   have hjl : j < es.length := by rw [← nl]; exact (List.getElem?_eq_some_iff.mp ha).1
   obtain ⟨e, he⟩ : ∃ e, es[j]? = some e := ⟨_, List.getElem?_eq_getElem hjl⟩
   have ie : IsEntE K A B b e := (fr' j b e ha he).up sB
   have sBd : Same B (upd B pd (.dT kvs)) := Same.new hB
   obtain ⟨pn, ln, oe, bn, n1, n2⟩ := (ie.up sBd).o
   have etk : es.take (j + 1) = es.take j ++ [e] := by
    rw [List.take_add_one, he]; rfl
   refine ⟨_, rfl, _, _, (oe).dx, (oe).fs, _, rfl, (oe).e, T.o_Entry.cl, T.o_Entry.na _ dk, (oe).get (lkS dk lk0), rfl, _, rfl, iteNE (fun c => ?_) (fun c => ?_)⟩
   ·have c' : e.space ≠ 2 := fun z => c (by rw [z]; rfl)
    refine ⟨_, rfl, _, rfl, ?_⟩
    refine ⟨_, rfl, _, _, (oe).dx, (oe).fs, _, rfl, (oe).e, T.o_Entry.cl, T.o_Entry.na _ dk, (oe).get lk0, pn, e.name, rfl, bn, by omega, fun pm hpm => ?_⟩
    refine ⟨pm, vN (Sn35.up e.name), rfl, .inl ⟨SqL.of upd_same, fun pt hpt => ?_⟩⟩
    have nm1 : pd ≠ pm := ne_of_none upd_same hpm
    have nmt : pm ≠ pt := ne_of_none upd_same hpt
    have ndt : pd ≠ pt := fun z => by rw [← z, upd_ne nm1, upd_same] at hpt; cases hpt
    have hBm : B pm = none := by rw [upd_ne nm1.symm] at hpm; exact hpm
    have hBt : B pt = none := by rw [upd_ne nmt.symm, upd_ne ndt.symm] at hpt; exact hpt
    have sB2 : Same B (upd (upd B pm (.lst (vN (Sn35.up e.name)))) pt (.tup (vN (Sn35.up e.name)))) := (Same.new hBm).trans (Same.new (by rw [upd_ne nmt.symm]; exact hBt))
    have eH2 : upd (upd (upd B pd (.dT kvs)) pm (.lst (vN (Sn35.up e.name)))) pt (.tup (vN (Sn35.up e.name))) = upd (upd (upd B pm (.lst (vN (Sn35.up e.name)))) pt (.tup (vN (Sn35.up e.name)))) pd (.dT kvs) := by
     rw [upd_comm nm1, upd_comm ndt]
    rw [eH2]
    have etup : (upd (upd (upd B pm (.lst (vN (Sn35.up e.name)))) pt (.tup (vN (Sn35.up e.name)))) pd (.dT kvs)) pt = some (.tup ((kN (Sn35.up e.name)).map kV)) := by
     rw [upd_ne ndt.symm, upd_same, kN_v]
    refine ⟨pd, _, rfl, DPut.t upd_same etup (by show kvs.length < 16777216; omega), ?_⟩
    rw [upd_upd]
    have hB2 : (upd (upd B pm (.lst (vN (Sn35.up e.name)))) pt (.tup (vN (Sn35.up e.name)))) pd = none := by rw [upd_ne ndt, upd_ne nm1]; exact hB
    refine ⟨_, rfl, _, putK kvs (kN (Sn35.up e.name)) (.ref b), rfl, hB2, sB.trans sB2, by have := length_putK kvs (kN (Sn35.up e.name)) (.ref b); omega, ?_⟩
    have kn2 := kn.up sB2
    have ap : ∀ x ∈ es.take j, Sn35.up x.name ≠ Sn35.up e.name := by
     refine ordered_apart (es.take j) e (es.drop (j + 1)) ?_
     rw [List.append_cons, ← etk, List.take_append_drop]; exact hord
    intro nm
    show match lookFor (es.take (j + 1)) nm with | none => _ | some e => _
    rw [etk, look_new nm c' ap, valV_put]
    by_cases z : Sn35.up nm = Sn35.up e.name
    ·rw [if_pos z, if_pos (by rw [z])]
     exact ⟨b, rfl, ie.up sB2⟩
    ·rw [if_neg z, if_neg (fun q => z (kN_inj q))]
     exact kn2 nm
   ·have c' : e.space = 2 := by omega
    refine ⟨_, rfl, B, kvs, rfl, hB, sB, by omega, ?_⟩
    intro nm
    show match lookFor (es.take (j + 1)) nm with | none => _ | some e => _
    rw [etk, look_skip nm c']
    exact kn nm
  ·rintro σ H' ⟨v3, rfl, B, kvs, rfl, hB, sB, kl, kn⟩
   rw [List.length_map, nl, List.take_length] at kn
   have sBd : Same B (upd B pd (.dT kvs)) := Same.new hB
   exact ⟨_, rfl, _, Fg.refl _, k pd _ (sD.trans (sB.trans sBd)) ⟨kvs, upd_same, kn.up sBd⟩⟩
noncomputable def spRecOf (K : Frag) (A : Adr) : Sp := fun vs H Q E => ∃ (x pe : Addr) (v : Sn35.Volume) (t : Sn35.Content) (e : Sn35.Entry), vs = [.ref x, .ref pe] ∧ IsVolS K A H x v t ∧ IsEntE K A H pe e ∧ Orr A.NotSo E (entP v t e) fun r => ∀ p H', Same H H' → IsRec K A H' p r → Q (.ref p) H'
theorem sc_Volume_record_of : FnScope ["self", "entry", "record"] ["self", "entry"] (defScope s_Volume_record_of) := ⟨rfl, rfl, rfl, dk, rfl, dk, dk⟩
theorem ok_record_of (F : Fun K "record_of" "Volume.record_of" s_Volume_record_of f fd) (T : Txt K mg A) (d_must : Dq1 P w K mg base A) (d_record : Dq15 P w K mg base A) :
  FnOk P w K mg base (CXR P w) 11 f fd ["self", "entry"] (spRecOf K A) := by
 refine F.okR sc_Volume_record_of (fun vs H Q E h => ?_) (fun cdv A' outer s H vs Q E hr h => ?_)
 ·obtain ⟨x, pe, v, t, e, rfl, _⟩ := h
  rfl
 ·obtain ⟨x, pe, v, t, e, rfl, iv, ie, k⟩ := h
  obtain ⟨fv, pl, ps, o, l1, l2, l3, l4, _, _⟩ := id iv
  obtain ⟨pn, ln, oe, bn, n1, n2⟩ := ie.o
  refine ⟨_, (pss_cons (ps_set (i := 2) sc_Volume_record_of.nd rfl (Or.inl rfl) (pe_mth (pv 0) d_record hr (by decide) passR (pa_cons (pe_fld (pv 1) rfl) pa_nil)))
 (pss_cons (ps_must d_must hr (by decide) rfl passR (pe_cmpR op_eq (pe_fld (pv 2) rfl) (pe_fld (pv 1) rfl) (nomark _)))
 (pss_one (ps_ret (pv 2))))), ?_⟩
  refine ⟨_, rfl, x, _, _, rfl, o.e, o.get l3, ?_⟩
  refine ⟨_, rfl, _, _, (oe).dx, (oe).fs, _, rfl, (oe).e, T.o_Entry.cl, T.o_Entry.na _ dk, (oe).get (lkS dk (lkS dk (lkS dk (lkS dk (lkS dk lk0))))), ?_⟩
  refine ⟨x, e.number, v, t, rfl, iv, ?_⟩
  unfold entP at k
  cases hr' : recAt v t e.number with
  | none =>
   rw [hr'] at k
   exact k
  | some r =>
  rw [hr'] at k
  have k : Orr A.NotSo E (if r.seq = e.seq then some r else none) fun r => ∀ p H', Same H H' → IsRec K A H' p r → Q (.ref p) H' := k
  intro pr H1 s1 ir
  obtain ⟨pa, orc, la, rok, rsm⟩ := id ir
  have oe1 := oe.up s1
  refine ⟨_, rfl, _, _, (orc).dx, (orc).fs, _, rfl, (orc).e, T.o_Record.cl, T.o_Record.na _ dk, (orc).get (lkS dk (lkS dk lk0)), _, rfl, _, _, (oe1).dx, (oe1).fs, _, rfl, (oe1).e, T.o_Entry.cl, T.o_Entry.na _ dk, (oe1).get (lkS dk (lkS dk (lkS dk (lkS dk lk0)))), rfl, _, rfl, iteE (fun c => ?_) (fun c => ?_)⟩
  ·rw [if_pos (by omega)] at k
   exact ⟨_, Fg.refl _, _, rfl, _, Fg.refl _, k pr H1 s1 ir⟩
  ·rw [if_neg (by omega)] at k
   exact k _
end
end Sv
end
section
namespace Sv
open PySem PySem.Spec L2
section
variable {P : Program} {w : World} {K : Frag} {mg : Str → Option Value} {base : Heap} {A : Adr} {f : Addr} {fd : FuncData}
noncomputable def OrW (A : Adr) (E : XK) (o : Sn35.Way) (k : Sn35.Rec → Prop) : Prop := match o with
 | .bad => ∀ H', E (.ref A.NotSo) none H'
 | .missing => ∀ H', E (.ref A.NotThere) none H'
 | .at_ r => k r
noncomputable def OrR (A : Adr) (E : XK) (o : Res) (k : List Nat → Prop) : Prop := match o with
 | .bad => ∀ H', E (.ref A.NotSo) none H'
 | .missing => ∀ H', E (.ref A.NotThere) none H'
 | .sort => ∀ H', E (.ref A.WrongSort) none H'
 | .many => ∀ H', E (.ref A.TooMany) none H'
 | .ok l => k l
noncomputable def KFok (K : Frag) (A : Adr) (v : Sn35.Volume) (t : Sn35.Content) (H : Hp) (kvs : List (Key × V)) : Prop := ∀ (n : Int) (y : V), valV kvs (Sum.inl n) = some y → ∃ (k : Nat) (q : Addr) (r : Sn35.Rec) (es : List Sn35.Entry), n = (k : Int) ∧ y = .ref q ∧ recAt v t k = some r ∧ entriesP v r = some es ∧ IsNames K A H q es
theorem KFok.up {v : Sn35.Volume} {t : Sn35.Content} {H H' : Hp} {kvs : List (Key × V)} (s : Same H H') (h : KFok K A v t H kvs) : KFok K A v t H' kvs := fun n y e => by
 obtain ⟨k, q, r, es, a, b, c, d, i⟩ := h n y e
 exact ⟨k, q, r, es, a, b, c, d, i.up s⟩
theorem KFok.put {v : Sn35.Volume} {t : Sn35.Content} {H : Hp} {kvs : List (Key × V)} {k : Nat} {q : Addr} {r : Sn35.Rec} {es : List Sn35.Entry} (h : KFok K A v t H kvs) (e1 : recAt v t k = some r) (e2 : entriesP v r = some es) (i : IsNames K A H q es) : KFok K A v t H (putK kvs (Sum.inl (k : Int)) (.ref q)) := fun n y z => by
 rw [valV_put] at z
 by_cases c : (Sum.inl n : Key) = Sum.inl (k : Int)
 ·have c' : n = (k : Int) := Sum.inl.inj c
  subst c'
  rw [if_pos rfl] at z
  cases z
  exact ⟨k, q, r, es, rfl, rfl, e1, e2, i⟩
 ·rw [if_neg (fun w => c w)] at z
  exact h n y z
noncomputable def spRecAt (K : Frag) (A : Adr) : Sp := fun vs H Q E => ∃ (x pp : Addr) (p : List Nat) (v : Sn35.Volume) (t : Sn35.Content) (r : Sn35.Rec), vs = [.ref x, .ref pp] ∧ IsVol K A H x v t r ∧ recAt v t 5 = some r ∧ Bs K H pp p ∧ p.length ≤ 4096 ∧ OrW A E (lookP v t p) fun r => ∀ q H', Same H H' → IsRec K A H' q r → Q (.ref q) H'
theorem sc_record_at : FnScope ["volume", "path", "record", "number", "folders", "name", "entry"] ["volume", "path"] (defScope s_record_at) := ⟨rfl, rfl, rfl, dk, rfl, dk, dk⟩
noncomputable abbrev Dq18 (P : Program) (w : World) (K : Frag) (mg : Str → Option Value) (base : Heap) (A : Adr) : Prop := DefM P w K mg base 11 A.Volume "record_of" ["self", "entry"] (spRecOf K A)
noncomputable abbrev Dq43 (P : Program) (w : World) (K : Frag) (mg : Str → Option Value) (base : Heap) (A : Adr) : Prop := Def P w K mg base 13 "entries_by_name" ["layout", "record"] (spByName K A)
noncomputable abbrev Dq42 (P : Program) (w : World) (K : Frag) (mg : Str → Option Value) (base : Heap) (A : Adr) : Prop := Def P w K mg base 2 "names_in" ["path"] (spNames K A)
theorem ok_record_at (F : Fun K "record_at" "record_at" s_record_at f fd) (T : Txt K mg A) (d_names_in : Dq42 P w K mg base A) (d_entries_by_name : Dq43 P w K mg base A) (d_great_letters : Dq7 P w K mg base A)
  (d_record_of : Dq18 P w K mg base A) :
  FnOk P w K mg base (CXR P w) 14 f fd ["volume", "path"] (spRecAt K A) := by
 refine F.okR sc_record_at (fun vs H Q E h => ?_) (fun cdv A' outer s H vs Q E hr h => ?_)
 ·obtain ⟨x, pp, p, v, t, r, rfl, _⟩ := h
  rfl
 ·obtain ⟨x, pp, p, v, t, r5, rfl, iv, hr5, hp, hl, k⟩ := h
  obtain ⟨pl, ps, pt5, ov, iL, ic, ir5⟩ := id iv
  unfold lookP at k
  rw [hr5] at k
  have k : OrW A E (match namesP p with | none => .missing | some ws => downP v t r5 ws) fun r => ∀ q H', Same H H' → IsRec K A H' q r → Q (.ref q) H' := k
  refine ⟨_, (pss_cons (ps_set (i := 2) sc_record_at.nd rfl (Or.inl rfl) (pe_fld (pv 0) rfl))
 (pss_cons (ps_set (i := 3) sc_record_at.nd rfl (Or.inl rfl) (pe_gc T.c_TOP_FOLDER rfl))
 (pss_cons (ps_set (i := 4) sc_record_at.nd rfl (Or.inl rfl) pe_dnewK)
 (pss_cons (ps_for PassesOwn.leaving rfl (pi_list (pe_hide rfl (pe_fn d_names_in hr (by decide) rfl passR (pa_cons (pv 1) pa_nil)))) (pg_name (i := 5) sc_record_at.nd rfl (Or.inl rfl))
 (pss_cons (ps_if (pt_not (pt_val (pe_fld (pv 2) rfl)))
 (pss_one (ps_raise rfl T.x_NotThere T.xc_NotThere rfl (pa_cons pe_str pa_nil) (fun _ _ _ _ _ _ _ I hx q => raiseR I hx q)))
 pss_nil)
 (pss_cons (ps_cut (ps_if (pt_cmp (pc_dnotin (hu_of hr) (pv 3) (pv 4)))
 (pss_one (ps_dput (hu_of hr) (pv 4) (pv 3) (pe_hide rfl (pe_fn d_entries_by_name hr (by decide) rfl passR (pa_cons (pe_fld (pv 0) rfl) (pa_cons (pv 2) pa_nil)))) rfl))
 pss_nil))
 (pss_cons (ps_set (i := 6) sc_record_at.nd rfl (Or.inl rfl) (pe_dget1 (hu_of hr) (pe_dget (hu_of hr) (pv 4) (pv 3) (fun _ _ => rfl)) (pe_callTy call_tuple_of rfl T.n_tuple boot_tuple (pa_cons (pe_fn d_great_letters hr (by decide) rfl passR (pa_cons (pv 5) pa_nil)) pa_nil)) ⟨rfl, rfl, rfl, rfl⟩))
 (pss_cons (ps_if (pt_cmpR op_isN (pv 6) pe_non (nomark _))
 (pss_one (ps_raise rfl T.x_NotThere T.xc_NotThere rfl (pa_cons pe_str pa_nil) (fun _ _ _ _ _ _ _ I hx q => raiseR I hx q)))
 pss_nil)
 (pss_cons (ps_set (i := 3) sc_record_at.nd rfl (Or.inl rfl) (pe_fld (pv 6) rfl))
 (pss_one (ps_set (i := 2) sc_record_at.nd rfl (Or.inl rfl) (pe_hide rfl (pe_mth (pv 0) d_record_of hr (by decide) passR (pa_cons (pv 6) pa_nil)))))))))))
 (pss_one (ps_ret (pv 2))))))), ?_⟩
  refine ⟨_, rfl, _, _, (ov).dx, (ov).fs, _, rfl, (ov).e, T.o_Volume.cl, T.o_Volume.na _ dk, (ov).get lk0, ?_⟩
  intro pf hpf
  refine ⟨pf, _, upd_same, trivial, ?_⟩
  rw [del_upd hpf]
  refine ⟨_, rfl, pp, p, rfl, hp, hl, ?_⟩
  cases hnm : namesP p with
  | none =>
   rw [hnm] at k
   exact k
  | some ws =>
  rw [hnm] at k
  have k : OrW A E (downP v t r5 ws) fun r => ∀ q H', Same H H' → IsRec K A H' q r → Q (.ref q) H' := k
  have wlen := names_len hl hnm
  rintro pn H1 s1 ⟨as, el, nl, fr⟩ hq1
  have sq1 : Same H1 (upd H1 pf (.dK [])) := Same.new hq1
  refine ⟨pn, rfl, ⟨_, SqL.of (sq1 _ _ el)⟩, ?_⟩
  refine for_list (K := K) (a := pn) (xs := as.map V.ref) (fun j σ H' => ∃ (pr : Addr) (num : Nat) (v5 v6 : Option V), σ = [some (.ref x), some (.ref pp), some (.ref pr), some (.int (num : Int)), some (.ref pf), v5, v6] ∧ ∃ (B : Hp) (kvs : List (Key × V)) (r : Sn35.Rec), upd B pf (.dK kvs) = H' ∧ B pf = none ∧ Same H1 B ∧ kvs.length ≤ j ∧ KFok K A v t B kvs ∧ recAt v t num = some r ∧ IsRec K A B pr r ∧ downP v t r5 ws = downP v t r (ws.drop j))
   ⟨pt5, 5, none, none, rfl, H1, [], r5, rfl, hq1, Same.refl _, Nat.le_refl _, (fun n y z => by cases z), hr5, ir5.up s1, rfl⟩ ?_ ?_ ?_
  ·rintro j σ H' _ ⟨pr, num, v5, v6, _, B, kvs, r, rfl, hB, sB, _⟩
   exact SqL.of ((sB.trans (Same.new hB)) _ _ el)
  ·rintro j y σ H' hj ⟨pr, num, v5, v6, rfl, B, kvs, r, rfl, hB, sB, kl, kf, hrec, ir, eD⟩
   rw [List.getElem?_map] at hj
   cases ha : as[j]? with
   | none => rw [ha] at hj; cases hj
   | some b =>
   rw [ha] at hj
   cases hj
   have hjl : j < ws.length := by rw [← nl]; exact (List.getElem?_eq_some_iff.mp ha).1
   obtain ⟨nm, hnmj⟩ : ∃ e, ws[j]? = some e := ⟨_, List.getElem?_eq_getElem hjl⟩
   have bnm : Bs K B b nm := sB.seq (fr j b nm ha hnmj)
   have nml : nm.length ≤ 4096 := wlen.2 nm (List.mem_of_getElem? hnmj)
   have hdr : ws.drop j = nm :: ws.drop (j + 1) := by
    rw [List.drop_eq_getElem_cons hjl]
    congr 1
    rw [List.getElem?_eq_getElem hjl] at hnmj
    exact Option.some.inj hnmj
   rw [hdr, downP] at eD
   have sBd : Same B (upd B pf (.dK kvs)) := Same.new hB
   obtain ⟨pa, orc, la, rok, rsm⟩ := id (ir.up sBd)
   refine ⟨_, rfl, _, _, (orc).dx, (orc).fs, _, rfl, (orc).e, T.o_Record.cl, T.o_Record.na _ dk, (orc).get (lkS dk lk0), _, rfl, ?_⟩
   cases hfo : r.folder with
   | false =>
    rw [hfo, if_pos rfl] at eD
    rw [eD] at k
    exact iteT ⟨by show 1 ≤ sizeLine; decide, k _⟩
   | true =>
   rw [hfo, if_neg (by decide)] at eD
   refine iteF ?_
   refine ⟨fun σ H' => ∃ es, entriesP v r = some es ∧ σ = [some (.ref x), some (.ref pp), some (.ref pr), some (.int (num : Int)), some (.ref pf), some (.ref b), v6] ∧ ∃ (B' : Hp) (kvs' : List (Key × V)) (q : Addr), upd B' pf (.dK kvs') = H' ∧ B' pf = none ∧ Same B B' ∧ kvs'.length ≤ kvs.length + 1 ∧ KFok K A v t B' kvs' ∧ valV kvs' (Sum.inl (num : Int)) = some (.ref q) ∧ IsNames K A B' q es, ?_, ?_⟩
   ·refine ⟨_, rfl, _, rfl, pf, _, rfl, DGet.k (k := Sum.inl (num : Int)) upd_same, _, rfl, ?_⟩
    cases hv : valV kvs (Sum.inl (num : Int)) with
    | some y =>
     refine iteF ?_
     obtain ⟨n', q, r', es, e1, rfl, e3, e4, e5⟩ := kf _ _ hv
     have e1 : n' = num := by omega
     subst e1
     rw [hrec] at e3
     cases e3
     exact ⟨es, e4, rfl, B, kvs, q, rfl, hB, Same.refl _, by omega, kf, hv, e5⟩
    | none =>
     refine iteT ?_
     refine ⟨pf, _, upd_same, trivial, ?_⟩
     rw [del_upd hB]
     have s1B := s1.trans sB
     have ov2 := ov.up s1B
     refine ⟨_, rfl, _, _, (ov2).dx, (ov2).fs, _, rfl, (ov2).e, T.o_Volume.cl, T.o_Volume.na _ dk, (ov2).get (lkS dk (lkS dk lk0)), _, rfl, ?_⟩
     refine ⟨pl, pr, v, r, rfl, iL.up s1B, ir, ?_⟩
     cases hes : entriesP v r with
     | none =>
      rw [hes] at eD
      have eD : downP v t r5 ws = .bad := eD
      rw [eD] at k
      exact k
     | some es =>
     intro q B2 s2 inn hq2
     refine ⟨_, rfl, _, rfl, pf, _, rfl, DPut.k (k := Sum.inl (num : Int)) upd_same (by show kvs.length < 16777216; omega), ?_⟩
     rw [upd_upd]
     exact ⟨es, rfl, rfl, B2, _, q, rfl, hq2, s2, length_putK _ _ _, (kf.up s2).put hrec hes inn, by rw [valV_put, if_pos rfl], inn⟩
   rintro σ H' ⟨es, hes, rfl, B', kvs', q, rfl, hB', sB', kl', kf', hv', inn⟩
   rw [hes] at eD
   have eD : downP v t r5 ws = (match lookFor es nm with | none => Sn35.Way.missing | some e => match entP v t e with | none => .bad | some q => downP v t q (ws.drop (j + 1))) := eD
   obtain ⟨nkv, enk, kn⟩ := id inn
   have sBd' : Same B' (upd B' pf (.dK kvs')) := Same.new hB'
   refine ⟨_, rfl, _, rfl, pf, _, rfl, ?_, q, rfl, .inr ⟨nkv, .inl (sBd' _ _ enk)⟩, ?_⟩
   ·have := DGet.k (H := upd B' pf (.dK kvs')) (a := pf) (kvs := kvs') (k := Sum.inl (num : Int)) upd_same
    rw [hv'] at this
    exact this
   refine ⟨_, rfl, b, nm, rfl, (sB'.trans sBd').seq bnm, by omega, fun pm hpm => ?_⟩
   refine ⟨pm, vN (Sn35.up nm), rfl, .inl ⟨SqL.of upd_same, fun pt hpt => ?_⟩⟩
   have nm1 : pf ≠ pm := ne_of_none upd_same hpm
   have nmt : pm ≠ pt := ne_of_none upd_same hpt
   have ndt : pf ≠ pt := fun z => by rw [← z, upd_ne nm1, upd_same] at hpt; cases hpt
   have hBm : B' pm = none := by rw [upd_ne nm1.symm] at hpm; exact hpm
   have hBt : B' pt = none := by rw [upd_ne nmt.symm, upd_ne ndt.symm] at hpt; exact hpt
   have sB2 : Same B' (upd (upd B' pm (.lst (vN (Sn35.up nm)))) pt (.tup (vN (Sn35.up nm)))) := (Same.new hBm).trans (Same.new (by rw [upd_ne nmt.symm]; exact hBt))
   have eH2 : upd (upd (upd B' pf (.dK kvs')) pm (.lst (vN (Sn35.up nm)))) pt (.tup (vN (Sn35.up nm))) = upd (upd (upd B' pm (.lst (vN (Sn35.up nm)))) pt (.tup (vN (Sn35.up nm)))) pf (.dK kvs') := by
    rw [upd_comm nm1, upd_comm ndt]
   rw [eH2]
   have hB2 : (upd (upd B' pm (.lst (vN (Sn35.up nm)))) pt (.tup (vN (Sn35.up nm)))) pf = none := by rw [upd_ne ndt, upd_ne nm1]; exact hB'
   have etup : (upd (upd B' pm (.lst (vN (Sn35.up nm)))) pt (.tup (vN (Sn35.up nm)))) pt = some (.tup ((kN (Sn35.up nm)).map kV)) := by
    rw [upd_same, kN_v]
   generalize upd (upd B' pm (.lst (vN (Sn35.up nm)))) pt (.tup (vN (Sn35.up nm))) = B2 at sB2 hB2 etup
   have sBd2 : Same B2 (upd B2 pf (.dK kvs')) := Same.new hB2
   refine ⟨_, DGet.t ((sB2.trans sBd2) _ _ enk) (sBd2 _ _ etup), ?_⟩
   have kn' := kn nm
   cases hlk : lookFor es nm with
   | none =>
    rw [hlk] at kn' eD
    have kn' : valV nkv (kN (Sn35.up nm)) = none := kn'
    have eD : downP v t r5 ws = .missing := eD
    rw [kn']
    rw [eD] at k
    exact ⟨_, rfl, rfl, _, rfl, iteP (fun _ => ⟨by show 1 ≤ sizeLine; decide, k _⟩) (fun z => absurd rfl z)⟩
   | some e =>
   rw [hlk] at kn' eD
   obtain ⟨pe, kn', ie⟩ : ∃ pe, valV nkv (kN (Sn35.up nm)) = some (.ref pe) ∧ IsEntE K A B' pe e := kn'
   rw [kn']
   refine ⟨_, rfl, rfl, _, rfl, iteP (fun z => by cases z) (fun _ => ?_)⟩
   obtain ⟨pnn, ln, oe, bn, n1, n2⟩ := (ie.up (sB2.trans sBd2)).o
   refine ⟨_, rfl, _, _, (oe).dx, (oe).fs, _, rfl, (oe).e, T.o_Entry.cl, T.o_Entry.na _ dk, (oe).get (lkS dk (lkS dk (lkS dk (lkS dk (lkS dk lk0))))), ?_⟩
   refine ⟨pf, _, upd_same, trivial, ?_⟩
   rw [del_upd hB2]
   have sH2 := ((s1.trans sB).trans sB').trans sB2
   have iv2 := (iv.up sH2).s
   obtain ⟨fv, pl', ps', o, l1, l2, l3, l4, _, _⟩ := id iv2
   refine ⟨_, rfl, x, _, _, rfl, o.e, o.get l4, ?_⟩
   refine ⟨_, rfl, x, pe, v, t, e, rfl, iv2, ie.up sB2, ?_⟩
   have eD : downP v t r5 ws = (match entP v t e with | none => .bad | some q => downP v t q (ws.drop (j + 1))) := eD
   cases hen : entP v t e with
   | none =>
    rw [hen] at eD
    have eD : downP v t r5 ws = .bad := eD
    rw [eD] at k
    exact k
   | some r2 =>
   rw [hen] at eD
   intro pr2 B3 s3 ir2 hq3
   exact ⟨pr2, e.number, _, _, rfl, B3, kvs', r2, rfl, hq3, ((sB.trans sB').trans sB2).trans s3, by omega, kf'.up (sB2.trans s3), entP_rec hen, ir2, eD⟩
  ·rintro σ H' ⟨pr, num, v5, v6, rfl, B, kvs, r, rfl, hB, sB, kl, kf, hrec, ir, eD⟩
   rw [List.length_map, nl, List.drop_length] at eD
   have eD : downP v t r5 ws = .at_ r := eD
   rw [eD] at k
   have sBd : Same B (upd B pf (.dK kvs)) := Same.new hB
   exact ⟨_, rfl, _, Fg.refl _, k pr _ ((s1.trans sB).trans sBd) (ir.up sBd)⟩
end
end Sv
end
section
namespace Sv
open PySem PySem.Spec L2
theorem data_size {v : Sn35.Volume} {r : Sn35.Rec} {c : Sn35.Content} (rok : RecOk r) (h : dataP v r = some c) : c.size < 2 ^ 64 := by
 unfold dataP at h
 cases hf : r.find 0x80 [] with
 | none => rw [hf] at h; cases h; decide
 | some a =>
  rw [hf] at h
  have h : Sn35.content v a = some c := h
  obtain ⟨aok, _⟩ := find_ok rok hf
  unfold Sn35.content at h
  simp only at h
  split at h
  ·split at h
   ·cases h
   obtain ⟨x, hx, rfl⟩ := Option.map_eq_some_iff.mp h
   have := le_lt aok.byt 16 4
   show Sn35.le a.bytes 16 4 < _
   omega
  split at h
  ·cases h
  obtain ⟨l, hl, h⟩ := Option.bind_eq_some_iff.mp h
  split at h
  ·cases h
  cases h
  have := le_lt aok.byt 48 8
  show Sn35.le a.bytes 48 8 < _
  omega
theorem num_text (n : Nat) : (Str.ofString (toString ((n : Nat) : Int))).cps.toList = Sn35.decimal n := TL.tl_num n
theorem num_len {n : Nat} (h : n < 2 ^ 64) : (Sn35.decimal n).length ≤ 20 := TL.numL_len (k := 20) (by decide) (by omega)
section
variable {P : Program} {w : World} {K : Frag} {mg : Str → Option Value} {base : Heap} {A : Adr} {f : Addr} {fd : FuncData}
noncomputable def spFileSize (K : Frag) (A : Adr) : Sp := fun vs H Q E => ∃ (py pr : Addr) (v : Sn35.Volume) (r : Sn35.Rec), vs = [.ref py, .ref pr] ∧ IsLayout K A H py v ∧ IsRec K A H pr r ∧ Orr A.NotSo E (dataP v r) fun c => ∀ H', Same H H' → Q (.int (c.size : Nat)) H'
theorem sc_file_size : FnScope ["layout", "record", "content"] ["layout", "record"] (defScope s_file_size) := ⟨rfl, rfl, rfl, dk, rfl, dk, dk⟩
noncomputable abbrev Dq44 (P : Program) (w : World) (K : Frag) (mg : Str → Option Value) (base : Heap) (A : Adr) : Prop := Def P w K mg base 9 "file_held" ["layout", "record"] (spFileHeld K A)
theorem ok_file_size (F : Fun K "file_size" "file_size" s_file_size f fd) (T : Txt K mg A) (d_file_held : Dq44 P w K mg base A) :
  FnOk P w K mg base (CXR P w) 10 f fd ["layout", "record"] (spFileSize K A) := by
 refine F.okR sc_file_size (fun vs H Q E h => ?_) (fun cdv A' outer s H vs Q E hr h => ?_)
 ·obtain ⟨py, pr, v, r, rfl, _⟩ := h
  rfl
 ·obtain ⟨py, pr, v, r, rfl, iL, ir, k⟩ := h
  refine ⟨_, (pss_cons (ps_set (i := 2) sc_file_size.nd rfl (Or.inl rfl) (pe_fn d_file_held hr (by decide) rfl passR (pa_cons (pv 0) (pa_cons (pv 1) pa_nil))))
 (pss_one (ps_ret (pe_ifExp (pt_cmpR op_isN (pv 2) pe_non (nomark _)) pe_int (pe_fld (pv 2) rfl))))), ?_⟩
  refine ⟨_, rfl, _, rfl, py, pr, v, r, rfl, iL, ir, ?_⟩
  cases hd : dataP v r with
  | none =>
   rw [hd] at k
   exact k
  | some c =>
  rw [hd] at k
  intro y H' s' oh
  rcases oh with ⟨_, rfl, rfl⟩ | ⟨p, rfl, ih⟩
  ·exact ⟨_, rfl, rfl, _, rfl, iteP (fun _ => ⟨_, Fg.refl _, k H' s'⟩) (fun z => absurd rfl z)⟩
  ·refine ⟨_, rfl, rfl, _, rfl, iteP (fun z => by cases z) (fun _ => ?_)⟩
   refine ⟨_, rfl, ?_⟩
   exact ih.size T (Q := fun v H' => ∃ H2, Fg H2 H' ∧ Q v H2) ⟨_, Fg.refl _, k H' s'⟩
noncomputable def spLine (K : Frag) (A : Adr) : Sp := fun vs H Q E => ∃ (x pe : Addr) (v : Sn35.Volume) (t : Sn35.Content) (e : Sn35.Entry), vs = [.ref x, .ref pe] ∧ IsVolS K A H x v t ∧ IsEntE K A H pe e ∧ Orr A.NotSo E (lineP v t e) fun l => ∀ q H', Same H H' → H' q = none → l.length ≤ 1000 → Q (.ref q) (upd H' q (.lst (vN l)))
theorem sc_line_of : FnScope ["volume", "entry", "record", "ending"] ["volume", "entry"] (defScope s_line_of) := ⟨rfl, rfl, rfl, dk, rfl, dk, dk⟩
noncomputable abbrev Dq45 (P : Program) (w : World) (K : Frag) (mg : Str → Option Value) (base : Heap) (A : Adr) : Prop := Def P w K mg base 10 "file_size" ["layout", "record"] (spFileSize K A)
theorem ok_line_of (F : Fun K "line_of" "line_of" s_line_of f fd) (T : Txt K mg A) (d_codes : Dq4 P w K mg base A) (d_file_size : Dq45 P w K mg base A) (d_record_of : Dq18 P w K mg base A) :
  FnOk P w K mg base (CXR P w) 12 f fd ["volume", "entry"] (spLine K A) := by
 refine F.okR sc_line_of (fun vs H Q E h => ?_) (fun cdv A' outer s H vs Q E hr h => ?_)
 ·obtain ⟨x, pe, v, t, e, rfl, _⟩ := h
  rfl
 ·obtain ⟨x, pe, v, t, e, rfl, iv, ie, k⟩ := h
  obtain ⟨fv, pl, ps, o, l1, l2, l3, l4, iL, _⟩ := id iv
  refine ⟨_, (pss_cons (ps_set (i := 2) sc_line_of.nd rfl (Or.inl rfl) (pe_mth (pv 0) d_record_of hr (by decide) passR (pa_cons (pv 1) pa_nil)))
 (pss_cons (ps_set (i := 3) sc_line_of.nd rfl (Or.inl rfl) (pe_cut (pe_ifExp (pt_val (pe_fld (pv 2) rfl)) pe_str (pe_op op_add_str pe_str (pe_callTy call_str_int rfl T.n_str boot_str (pa_cons (pe_fn d_file_size hr (by decide) rfl passR (pa_cons (pe_fld (pv 0) rfl) (pa_cons (pv 2) pa_nil))) pa_nil))))))
 (pss_one (ps_ret (pe_op op_catS (pe_op op_catS (pe_fld (pv 1) rfl) (pe_fn d_codes hr (by decide) rfl passR (pa_cons (pv 3) pa_nil))) (pe_fn d_codes hr (by decide) rfl passR (pa_cons pe_str pa_nil))))))), ?_⟩
  refine ⟨_, rfl, x, _, _, rfl, o.e, o.get l4, ?_⟩
  refine ⟨_, rfl, x, pe, v, t, e, rfl, iv, ie, ?_⟩
  cases hen : entP v t e with
  | none =>
   unfold lineP at k
   rw [hen] at k
   exact k
  | some r =>
  intro pr H1 s1 ir
  have eL : lineP v t e = if r.folder = true then some (e.name ++ [47, 10]) else (dataP v r).map fun c => e.name ++ (32 :: (Sn35.decimal c.size ++ [10])) := by
   unfold lineP
   rw [hen]; rfl
  obtain ⟨pa, orc, la, rok, rsm⟩ := id ir
  refine ⟨fun y H2 => ∃ z : Str, y = .str z ∧ z.cps.toList.length ≤ 21 ∧ Same H1 H2 ∧ lineP v t e = some (e.name ++ (z.cps.toList ++ [10])), ?_, ?_⟩
  ·refine ⟨_, rfl, _, _, (orc).dx, (orc).fs, _, rfl, (orc).e, T.o_Record.cl, T.o_Record.na _ dk, (orc).get (lkS dk lk0), _, rfl, ?_⟩
   cases hfo : r.folder with
   | true =>
    refine iteT ?_
    rw [hfo, if_pos rfl] at eL
    refine ⟨_, rfl, dk, Same.refl _, ?_⟩
    rw [eL]
    have : (Str.ofString "/").cps.toList = [47] := by decide +kernel
    rw [this]; rfl
   | false =>
    refine iteF ?_
    rw [hfo, if_neg (by decide)] at eL
    have o1 := o.up s1
    refine ⟨_, rfl, _, _, o1.dx, o1.fs, _, rfl, o1.e, T.o_Volume.cl, T.o_Volume.na _ dk, o1.get l1, _, rfl, ?_⟩
    refine ⟨pl, pr, v, r, rfl, iL.up s1, ir, ?_⟩
    cases hd : dataP v r with
    | none =>
     rw [eL, hd] at k
     exact k
    | some c =>
    rw [hd] at eL
    have hsz := data_size rok hd
    have hnl := num_len hsz
    intro H2 s2
    refine ⟨_, rfl, ?_, ?_⟩
    ·rw [Int.natAbs_natCast]
     by_cases z : c.size = 0
     ·rw [z]; decide
     ·exact Nat.lt_of_lt_of_le ((Nat.log2_lt z).mpr hsz) (by decide)
    have e1 : (Str.ofString " ").cps.toList = [32] := by decide +kernel
    refine ⟨_, _, rfl, rfl, ?_, _, rfl, ?_, s2, ?_⟩
    ·rw [TL.len_tl, TL.len_tl]
     show (Str.ofString " ").cps.toList.length + (Str.ofString (toString ((c.size : Nat) : Int))).cps.toList.length ≤ 16777216
     rw [e1, num_text]
     show 1 + _ ≤ _
     omega
    ·have := TL.tl_append (Str.ofString " ") (Str.ofString (toString ((c.size : Nat) : Int)))
     rw [show (Str.ofString " " ++ Str.ofString (toString ((c.size : Nat) : Int))).cps.toList = _ from this]
     show ((Str.ofString " ").cps.toList ++ (Str.ofString (toString ((c.size : Nat) : Int))).cps.toList).length ≤ 21
     rw [e1, num_text, List.length_append]
     show 1 + _ ≤ _
     omega
    ·have := TL.tl_append (Str.ofString " ") (Str.ofString (toString ((c.size : Nat) : Int)))
     rw [show (Str.ofString " " ++ Str.ofString (toString ((c.size : Nat) : Int))).cps.toList = _ from this]
     show _ = some (e.name ++ (((Str.ofString " ").cps.toList ++ (Str.ofString (toString ((c.size : Nat) : Int))).cps.toList) ++ [10]))
     rw [e1, num_text, eL]
     simp
  rintro y H2 ⟨z, rfl, zl, s2, eZ⟩
  rw [eZ] at k
  have k : ∀ q H', Same H H' → H' q = none → (e.name ++ (z.cps.toList ++ [10])).length ≤ 1000 → Q (.ref q) (upd H' q (.lst (vN (e.name ++ (z.cps.toList ++ [10]))))) := k
  obtain ⟨pn, ln, oe, bn, n1, n2⟩ := (ie.up (s1.trans s2)).o
  refine ⟨_, rfl, _, _, (oe).dx, (oe).fs, _, rfl, (oe).e, T.o_Entry.cl, T.o_Entry.na _ dk, (oe).get lk0, ?_⟩
  refine ⟨_, rfl, z, rfl, by rw [← Array.length_toList]; omega, fun p1 hp1 => ?_⟩
  have s3 : Same H2 (upd H2 p1 (.lst (vN z.cps.toList))) := Same.new hp1
  refine ⟨pn, p1, vN e.name, vN z.cps.toList, rfl, rfl, s3.seq bn, SqL.of upd_same, ?_, fun p2 hp2 => ?_⟩
  ·rw [vN_len, vN_len]
   show _ ≤ 16777216
   omega
  have e10 : (Str.ofString "\n").cps.toList = [10] := by decide +kernel
  refine ⟨"\n", rfl, dk, fun p3 hp3 => ?_⟩
  rw [e10]
  have n23 : p2 ≠ p3 := ne_of_none upd_same hp3
  have s4 : Same (upd H2 p1 (.lst (vN z.cps.toList))) (upd (upd H2 p1 (.lst (vN z.cps.toList))) p2 (.lst (vN e.name ++ vN z.cps.toList))) := Same.new hp2
  refine ⟨p2, p3, vN e.name ++ vN z.cps.toList, vN [10], rfl, rfl, SqL.of (by rw [upd_ne n23]; exact upd_same), SqL.of upd_same, ?_, fun p4 hp4 => ?_⟩
  ·rw [List.length_append, vN_len, vN_len, vN_len]
   show _ + 1 ≤ 16777216
   omega
  have ev : (vN e.name ++ vN z.cps.toList) ++ vN [10] = vN (e.name ++ (z.cps.toList ++ [10])) := by simp [vN]
  rw [ev]
  refine ⟨_, Fg.refl _, k p4 _ (((s1.trans s2).trans s3).trans (s4.trans (Same.new hp3))) hp4 ?_⟩
  rw [List.length_append, List.length_append]
  show _ + (_ + 1) ≤ _
  omega
noncomputable def spListing (K : Frag) (A : Adr) : Sp := fun vs H Q E => ∃ (most : Int) (pi pp : Addr) (img p : List Nat), vs = [.int most, .ref pi, .ref pp] ∧ Bs K H pi img ∧ Byt img ∧ img.length < 2 ^ 30 ∧ Bs K H pp p ∧ p.length ≤ 4096 ∧ OrR A E (listP most img p) fun l => ∀ q H', Same H H' → H' q = some (.lst (vN l)) → l.length ≤ 5000000 → Q (.ref q) H'
theorem sc_listing_at : FnScope ["most", "image", "path", "volume", "record", "listing", "entry"] ["most", "image", "path"] (defScope s_listing_at) := ⟨rfl, rfl, rfl, dk, rfl, dk, dk⟩
noncomputable abbrev Dq46 (P : Program) (w : World) (K : Frag) (mg : Str → Option Value) (base : Heap) (A : Adr) : Prop := DefC P w K mg base 11 "Volume" A.Volume ["self", "image"] (spVolInit K A)
noncomputable abbrev Dq47 (P : Program) (w : World) (K : Frag) (mg : Str → Option Value) (base : Heap) (A : Adr) : Prop := Def P w K mg base 14 "record_at" ["volume", "path"] (spRecAt K A)
noncomputable abbrev Dq48 (P : Program) (w : World) (K : Frag) (mg : Str → Option Value) (base : Heap) (A : Adr) : Prop := Def P w K mg base 12 "line_of" ["volume", "entry"] (spLine K A)
theorem ok_listing_at (F : Fun K "listing_at" "listing_at" s_listing_at f fd) (T : Txt K mg A) (d_Volume : Dq46 P w K mg base A) (d_record_at : Dq47 P w K mg base A)
  (d_entries_in_order : Dq17 P w K mg base A) (d_codes : Dq4 P w K mg base A) (d_line_of : Dq48 P w K mg base A) :
  FnOk P w K mg base (CXR P w) 15 f fd ["most", "image", "path"] (spListing K A) := by
 refine F.okR sc_listing_at (fun vs H Q E h => ?_) (fun cdv A' outer s H vs Q E hr h => ?_)
 ·obtain ⟨most, pi, pp, img, p, rfl, _⟩ := h
  rfl
 ·obtain ⟨most, pi, pp, img, p, rfl, hi, hB, hl, hp, hpl, k⟩ := h
  refine ⟨_, (pss_cons (ps_set (i := 3) sc_listing_at.nd rfl (Or.inl rfl) (pe_new d_Volume hr (by decide) rfl passR (pa_cons (pv 1) pa_nil)))
 (pss_cons (ps_set (i := 4) sc_listing_at.nd rfl (Or.inl rfl) (pe_fn d_record_at hr (by decide) rfl passR (pa_cons (pv 3) (pa_cons (pv 2) pa_nil))))
 (pss_cons (ps_if (pt_not (pt_val (pe_fld (pv 4) rfl)))
 (pss_one (ps_raise rfl T.x_WrongSort T.xc_WrongSort rfl (pa_cons pe_str pa_nil) (fun _ _ _ _ _ _ _ I hx q => raiseR I hx q)))
 pss_nil)
 (pss_cons (ps_set (i := 5) sc_listing_at.nd rfl (Or.inl rfl) (pe_lst pa_nil))
 (pss_cons (ps_for PassesOwn.leaving rfl (pi_list (pe_hide rfl (pe_fn d_entries_in_order hr (by decide) rfl passR (pa_cons (pe_fld (pv 3) rfl) (pa_cons (pv 4) pa_nil))))) (pg_name (i := 6) sc_listing_at.nd rfl (Or.inl rfl))
 (pss_one (ps_if (PW.pt (pw_and (pt_cmpR op_ne (pe_fld (pv 6) rfl) (pe_gc T.c_KIND_NOT_LOOKED_FOR rfl) (nomark _)) (pw_and1 (pt_cmpR (op_neL hr.units) (pe_fld (pv 6) rfl) (pe_fn d_codes hr (by decide) rfl passR (pa_cons pe_str pa_nil)) (nomark _)))))
 (pss_one (ps_expr (pe_bm PySem.F.plainAttrs_list PySem.F.slot_list_extend PySem.F.type_list_extend mt_extend (pv 5) (pa_cons (pe_hide rfl (pe_fn d_line_of hr (by decide) rfl passR (pa_cons (pv 3) (pa_cons (pv 6) pa_nil)))) pa_nil))))
 pss_nil)))
 (pss_cons (ps_if (pt_cmpR op_gt (pe_callB call_len_seq rfl T.n_len boot_len (pa_cons (pv 5) pa_nil)) (pv 0) (nomark _))
 (pss_one (ps_raise rfl T.x_TooMany T.xc_TooMany rfl (pa_cons pe_str pa_nil) (fun _ _ _ _ _ _ _ I hx q => raiseR I hx q)))
 pss_nil)
 (pss_one (ps_ret (pv 5))))))))), ?_⟩
  unfold listP onP at k
  refine ⟨_, rfl, fun x dx hx hdx ne => ?_⟩
  refine ⟨x, H, pi, img, rfl, .of hx hdx ne, hi, hB, hl, ?_⟩
  cases hv : volP img with
  | none =>
   rw [hv] at k
   exact k
  | some v =>
  rw [hv] at k
  simp only [Option.bind_some] at k ⊢
  cases ht : tabP v with
  | none =>
   rw [ht] at k
   exact k
  | some t =>
  rw [ht] at k
  simp only [Option.bind_some] at k ⊢
  cases hr5 : recAt v t 5 with
  | none =>
   have : lookP v t p = .bad := by unfold lookP; rw [hr5]
   rw [this] at k
   exact k
  | some r5 =>
  intro H1 s1 iv
  have iv : IsVol K A H1 x v t r5 := iv
  refine ⟨trivial, ?_⟩
  refine ⟨_, rfl, _, rfl, x, pp, p, v, t, r5, rfl, iv, hr5, s1.seq hp, hpl, ?_⟩
  cases hw : lookP v t p with
  | bad => rw [hw] at k; exact k
  | missing => rw [hw] at k; exact k
  | at_ r =>
  rw [hw] at k
  simp only at k
  intro pr H2 s2 ir
  obtain ⟨pa, orc, la, rok, rsm⟩ := id ir
  refine ⟨_, rfl, _, _, (orc).dx, (orc).fs, _, rfl, (orc).e, T.o_Record.cl, T.o_Record.na _ dk, (orc).get (lkS dk lk0), _, rfl, ?_⟩
  cases hfo : r.folder with
  | false =>
   rw [hfo, if_pos rfl] at k
   exact iteT ⟨by show 1 ≤ sizeLine; decide, k _⟩
  | true =>
  rw [hfo, if_neg (by decide)] at k
  refine iteF ?_
  refine ⟨Nat.zero_le _, fun pl hpl' => ?_⟩
  refine ⟨pl, _, upd_same, trivial, ?_⟩
  rw [del_upd hpl']
  have iv2 := iv.up s2
  obtain ⟨py, ps, pt, ov, iL, ic, it⟩ := id iv2
  refine ⟨_, rfl, _, _, (ov).dx, (ov).fs, _, rfl, (ov).e, T.o_Volume.cl, T.o_Volume.na _ dk, (ov).get (lkS dk (lkS dk lk0)), _, rfl, py, pr, v, r, rfl, iL, ir, ?_⟩
  unfold listedP at k
  cases hes : entriesP v r with
  | none =>
   rw [hes] at k
   exact k
  | some es =>
  rw [hes] at k
  simp only [Option.bind_some] at k
  obtain ⟨hord, h4096⟩ := entriesP_ord hes
  rintro pe H3 s3 ⟨as, el, nl, fr⟩ hq3
  have s0 := (s1.trans s2).trans s3
  refine ⟨pe, rfl, ⟨_, SqL.of ((Same.new hq3) _ _ el)⟩, ?_⟩
  refine for_list (K := K) (a := pe) (xs := as.map V.ref) (fun j σ H' => ∃ v6, σ = [some (.int most), some (.ref pi), some (.ref pp), some (.ref x), some (.ref pr), some (.ref pl), v6] ∧ ∃ (B : Hp) (out : List Nat), upd B pl (.lst (vN out)) = H' ∧ B pl = none ∧ Same H3 B ∧ out.length ≤ 1000 * j ∧ linesP v t es = (linesP v t (es.drop j)).map (out ++ ·))
   ⟨none, rfl, H3, [], rfl, hq3, Same.refl _, Nat.zero_le _, by simp⟩ ?_ ?_ ?_
  ·rintro j σ H' _ ⟨v6, _, B, out, rfl, hB', sB, _⟩
   exact SqL.of ((sB.trans (Same.new hB')) _ _ el)
  ·rintro j y σ H' hj ⟨v6, rfl, B, out, rfl, hB', sB, ol, eo⟩
   rw [List.getElem?_map] at hj
   cases ha : as[j]? with
   | none => rw [ha] at hj; cases hj
   | some b =>
   rw [ha] at hj
   cases hj
   have hjl : j < es.length := by rw [← nl]; exact (List.getElem?_eq_some_iff.mp ha).1
   obtain ⟨e, he⟩ : ∃ e, es[j]? = some e := ⟨_, List.getElem?_eq_getElem hjl⟩
   have hdr : es.drop j = e :: es.drop (j + 1) := by
    rw [List.drop_eq_getElem_cons hjl]
    congr 1
    rw [List.getElem?_eq_getElem hjl] at he
    exact Option.some.inj he
   rw [hdr] at eo
   have ie : IsEntE K A B b e := (fr j b e ha he).up sB
   have sBl : Same B (upd B pl (.lst (vN out))) := Same.new hB'
   obtain ⟨pn, ln, oe, bn, n1, n2⟩ := (ie.up sBl).o
   refine ⟨_, rfl, _, _, (oe).dx, (oe).fs, _, rfl, (oe).e, T.o_Entry.cl, T.o_Entry.na _ dk, (oe).get (lkS dk lk0), rfl, _, rfl, iteNE (fun c1 => ?_) (fun c1 => ?_)⟩
   ·have e46 : (Str.ofString ".").cps.toList = [46] := by decide +kernel
    refine ⟨_, rfl, _, _, (oe).dx, (oe).fs, _, rfl, (oe).e, T.o_Entry.cl, T.o_Entry.na _ dk, (oe).get lk0, ".", rfl, dk, fun p1 hp1 => ?_⟩
    rw [e46]
    have n1l : pl ≠ p1 := ne_of_none upd_same hp1
    have hB1 : B p1 = none := by rw [upd_ne n1l.symm] at hp1; exact hp1
    have eH : upd (upd B pl (.lst (vN out))) p1 (.lst (vN [46])) = upd (upd B p1 (.lst (vN [46]))) pl (.lst (vN out)) := upd_comm n1l
    have sB1 : Same B (upd B p1 (.lst (vN [46]))) := Same.new hB1
    have hBl : (upd B p1 (.lst (vN [46]))) pl = none := by rw [upd_ne n1l]; exact hB'
    have b46 : Bs K (upd B p1 (.lst (vN [46]))) p1 [46] := SqL.of upd_same
    rw [eH]
    generalize upd B p1 (.lst (vN [46])) = B1 at sB1 hBl b46
    have sBl1 : Same B1 (upd B1 pl (.lst (vN out))) := Same.new hBl
    have bn' := (Same.grow (p := pl) (o := .lst (vN out)) sB1).seq bn
    refine ⟨pn, p1, e.name, [46], rfl, rfl, bn', sBl1.seq b46, _, rfl, iteN (fun c2 => ?_) (fun c2 => ?_)⟩
    ·have yes : (e.space != 2 && e.name != [46]) = true := by
      rw [Bool.and_eq_true]
      exact ⟨bne_iff_ne.mpr fun z => c1 (by rw [z]; rfl), bne_iff_ne.mpr c2⟩
     rw [linesP_cons v t e _ yes] at eo
     refine ⟨_, rfl, .inl ⟨rfl, _, SqL.of upd_same⟩, pl, _, upd_same, trivial, ?_⟩
     rw [del_upd hBl]
     refine ⟨_, rfl, _, rfl, x, b, v, t, e, rfl, (iv2.up ((s3.trans sB).trans sB1)).s, ie.up sB1, ?_⟩
     cases hln : lineP v t e with
     | none =>
      rw [hln] at eo
      have eo : linesP v t es = none := eo
      rw [eo] at k
      exact k
     | some ln =>
     rw [hln] at eo
     have eo : linesP v t es = ((linesP v t (es.drop (j + 1))).map (ln ++ ·)).map (out ++ ·) := eo
     intro q B2 s4 hq lnl hq2
     have nq : q ≠ pl := fun z => by rw [z, upd_same] at hq2; cases hq2
     have hB2 : B2 pl = none := by rw [upd_ne nq.symm] at hq2; exact hq2
     refine ⟨pl, q, vN out, vN ln, rfl, rfl, upd_same, by rw [upd_ne nq]; exact upd_same, ?_, ?_⟩
     ·rw [vN_len, vN_len]
      show _ ≤ 16777216
      omega
     rw [upd_upd]
     refine ⟨_, rfl, upd B2 q (.lst (vN ln)), out ++ ln, by rw [show vN (out ++ ln) = vN out ++ vN ln by simp [vN]], hq2, (sB.trans sB1).trans (s4.trans (Same.new hq)), by rw [List.length_append]; omega, ?_⟩
     rw [eo, Option.map_map]
     congr 1
     funext z
     simp
    ·have no : (e.space != 2 && e.name != [46]) = false := by
      rw [Bool.and_eq_false_iff]
      exact .inr (by rw [c2]; rfl)
     rw [linesP_skip v t e _ no] at eo
     exact ⟨_, rfl, B1, out, rfl, hBl, sB.trans sB1, by omega, eo⟩
   ·have no : (e.space != 2 && e.name != [46]) = false := by
     rw [Bool.and_eq_false_iff]
     exact .inl (by rw [show e.space = 2 by omega]; rfl)
    rw [linesP_skip v t e _ no] at eo
    exact ⟨_, rfl, B, out, rfl, hB', sB, by omega, eo⟩
  ·rintro σ H' ⟨v6, rfl, B, out, rfl, hB', sB, ol, eo⟩
   rw [List.length_map] at eo ol
   rw [nl] at eo ol
   rw [List.drop_length, linesP_nil] at eo
   have eo : linesP v t es = some out := by rw [eo]; simp
   rw [eo] at k
   have k : OrR A E (if most < (out.length : Int) then .many else .ok out) fun l => ∀ q H', Same H H' → H' q = some (.lst (vN l)) → l.length ≤ 5000000 → Q (.ref q) H' := k
   refine ⟨_, rfl, pl, vN out, rfl, .inl (SqL.of upd_same), _, rfl, _, _, rfl, rfl, _, rfl, ?_⟩
   rw [vN_len]
   refine iteP (fun c => ?_) (fun c => ?_)
   ·rw [if_pos c] at k
    exact ⟨by show 1 ≤ sizeLine; decide, k _⟩
   ·rw [if_neg c] at k
    exact ⟨_, rfl, _, Fg.refl _, k pl _ ((s0.trans sB).trans (Same.new hB')) upd_same (by omega)⟩
end
end Sv
end
section
namespace L2
open PySem PySem.Spec PyProof.Rows
noncomputable def cxL (CX : CXT) (P : Program) (w : World) (K : Frag) (mg : Str → Option Value) (base : Heap) (N : List Str) (qual : Str) (scope : Scope) (f : Addr) (cd : Value) (cl : List (Str × Addr)) (A : Around) (outer : List Env) (s : Shared) (H : Hp) (E : XK) : Cx where
 prog := P
 w := w
 K := K
 mg := mg
 base := base
 A := A.deeper (envX qual scope s.heap.objs.size f cd cl)
 N := N
 s_0 := s
 H_0 := H
 env := envX qual scope s.heap.objs.size f cd cl
 outer := outer
 stack := envX qual scope s.heap.objs.size f cd cl :: outer
 ex := []
 calm := true
 fn := fun _ => false
 pn := []
 xe := fun e s' => wpAny (model P w) (A.deeper (envX qual scope s.heap.objs.size f cd cl)) (leaving (envX qual scope s.heap.objs.size f cd cl) e) (fun _ s'' => CX outer H s E e s'') (fun e' s'' => CX outer H s E e' s'') s'
section
variable {P : Program} {w : World} {K : Frag} {mg : Str → Option Value} {base : Heap} {N : List Str} {qual : Str} {scope : Scope} {f : Addr} {cd : Value} {cl : List (Str × Addr)} {A : Around} {outer : List Env} {s_0 s : Shared} {H_0 H : Hp} {E : XK}
theorem passL : Passes (CXR P w) (cxL (CXR P w) P w K mg base N qual scope f cd cl A outer s_0 H_0 E) E := by
 intro pins σ H s e s' I h
 obtain ⟨ea, cls, a0, H', B, rfl, os, bare, un, hok, fly, inB, q⟩ := h
 have I1 := I.call' (ch := []) os un hok bare (fun b z => absurd z (by simp))
 show wpAny _ _ (leaving _ _) _ _ s'
 refine wpAny_leaves_onW I.ok.frames rfl fly fun h2 fly2 up => ?_
 refine cx_mk I1 rfl (fun b o e hb p => inB b o e hb (p.imp id fun ⟨o', e'⟩ => ?_)) fly2 (fun b _ o e d => up b o e d) q
 exact I.base.there b o' e' (by intro z; cases z)
structure CellsOk (N : List Str) (scope : Scope) (cl : List (Str × Addr)) (h : Heap) (H : Hp) (vs : List V) : Prop where
 len : vs.length = N.length
 inj : ∀ x y c, cl.lookup x = some c → cl.lookup y = some c → x = y
 has : ∀ x, (scope.names.lookup x = some .cell ∨ scope.names.lookup x = some .free) → ∃ c, cl.lookup x = some c
 fre : ∀ x ∈ N, scope.names.lookup x = some .free
 cell : ∀ x c, cl.lookup x = some c → (∃ v, h.IsCell c v) ∧ H c = none
 val : ∀ (i : Nat) (x : Str) (v : V), N[i]? = some x → vs[i]? = some v → ∃ c u, cl.lookup x = some c ∧ h.IsCell c (some u) ∧ RelV v u
theorem lam_start {CX : CXT} {h1 : Heap} {vs : List V} {tk : Nat} (hk : scope.kind = .function) (hd : A.handled = none) (e0 : Env0 P w K mg base A outer s H) (c : CellsOk N scope cl s.heap H vs)
  (hns : h1.Ns s.heap.objs.size (fun x => ([] : List (Str × Value)).reverse.lookup x)) (kp : ∀ b o, s.heap.get? b = some o → h1.get? b = some o) :
  Inv (cxL CX P w K mg base N qual scope f cd cl A outer s H E) [] (vs.map some) H { s with heap := h1, toks := tk } := by
 have noA : ∀ b : Addr, b ∉ (cxL CX P w K mg base N qual scope f cd cl A outer s H E).ex := fun b z => absurd (show b ∈ ([] : List Addr) from z) (by simp)
 have ckeep : ∀ {a : Addr} {v : Option Value}, s.heap.IsCell a v → h1.IsCell a v := fun {a v} ⟨o, ho, hd⟩ => ⟨o, kp _ _ ho, hd⟩
 refine ⟨⟨e0.mod, hk, rfl, rfl, Nat.le_refl _, c.inj, c.has, fun y c z => (by cases z), fun _ => hd, Around.frames_deeper e0.frames, .inr ⟨rfl, rfl⟩, fun b z => absurd z (noA b), e0.bs, e0.bsz, fun b _ _ => noA b, fun b z => absurd z (noA b), e0.funs, e0.frf⟩,
  rfl, e0.bare, Un.kept kp, ⟨_, hns, fun i y v h1 h2 h3 => ?_⟩, fun y a h => ?_, e0.hok.fresh (Nat.le_refl _), fun y a h => (c.cell y a h).2, fun p hp => absurd (show p ∈ ([] : List (Addr × Obj)) from hp) (by simp), e0.hok.kept kp, ?_⟩
 ·have hv : vs[i]? = some v := by
   rw [List.getElem?_map] at h2
   cases e : vs[i]? with
   | none => rw [e] at h2; cases h2
   | some a => rw [e] at h2; cases h2; rfl
  obtain ⟨a, u, e1, e2, r⟩ := c.val i y v h1 hv
  exact ⟨u, r, .inr ⟨.inr (c.fre y (List.mem_of_getElem? h1)), a, e1, ckeep e2⟩⟩
 ·obtain ⟨v, z⟩ := (c.cell y a h).1
  exact ⟨v, ckeep z⟩
 ·show (vs.map some).length = N.length
  rw [List.length_map]; exact c.len
theorem lam_run {k : Nat} {name : Str} {params : Arguments} {body : Expr} {pm ctv : Value} {c' : Addr} {vs : List V} {t : TE} {Q : VK} (hr : Room (k + 1) A) (e0 : Env0 P w K mg base A outer s H)
  (ho : s.heap.get? f = some (kla_obj name qual params body scope cl pm c' ctv)) (hrec : s.heap.CodeRec (.ref c') qual) (hbind : bindArgs (kla_fn name qual params body scope cl pm (.ref c') ctv) ⟨[], []⟩ = pure [])
  (hk : scope.kind = .function) (hco : scope.isCoroutine = false) (hgen : scope.isGenerator = false) (hcell : ∀ x ∈ scope.names, x.2 ≠ .cell) (c : CellsOk N scope cl s.heap H vs)
  (ht : PE (cxL (CXR P w) P w K mg base N qual scope f (.ref c') cl A outer s H E) body t) (hq : t (vs.map some) H Q) :
  codeAny (model P w) A (.call (.ref f) ⟨[], []⟩) (CR (CXR P w) outer P w H s Q E) s := by
 have lim : s.heap.NoLimit := e0.mod.nolimit.keeps fun b o e => (e0.bs b o e).1
 refine PySem.W.kla_callFunE hr.depth ho rfl hco hgen rfl hrec ?_
 rw [hbind]
 refine wpAny_pure (wpAny_newFunctionEnv hcell (fun x hx => by cases hx) (fun h₁ hns hsb => ⟨lim.fresh _ hsb, ?_⟩) hk)
 show codeAny _ _ (.expr body (envX qual scope s.heap.objs.size f (.ref c') cl)) _ _
 have hk₁ : ∀ b o, s.heap.get? b = some o → h₁.get? b = some o := fun b o e => hsb.extBut b o (Nat.ne_of_lt (Heap.lt_size e)) (Heap.get?_push_of_some _ e)
 have I : Inv (cxL (CXR P w) P w K mg base N qual scope f (.ref c') cl A outer s H E) [] (vs.map some) H { s with heap := h₁, toks := s.toks + ([] : List (Str × Value)).length } := lam_start hk hr.hd e0 c hns hk₁
 refine PySem.W.kla_codeExpr (wpAny_mono (ht [] _ _ H Q I hq) (fun v s' hs => ?_) fun e s' hs => hs)
 obtain ⟨vv, H', J, rv, q⟩ := hs
 exact ⟨vv, H', J.os, J.bare, J.base, J.hok, rv, q⟩
end
section
variable {X : Cx} {x : Str} {p pos : Pos} {i k : Nat} {f c' : Addr} {name qual : Str} {params : Arguments} {body : Expr} {scope : Scope} {cl : List (Str × Addr)} {pm ctv : Value} {N : List Str} {vs : List V} {tb : TE} {E : XK}
noncomputable def Still (h : Heap) (H : Hp) (fs : List Addr) (b : Addr) (o : Obj) : Prop := h.get? b = some o ∧ H b = none ∧ b ∉ fs
theorem Still.at {b : Addr} {o : Obj} {pins : List (Addr × Obj)} {σ : St} {H : Hp} {s : Shared} (h : Still X.s_0.heap X.H_0 X.fs b o) (hex : X.ex = []) (I : Inv X pins σ H s) : s.heap.get? b = some o ∧ H b = none :=
 ⟨I.base.keep b o h.1 h.2.1 h.2.2 (by rw [hex]; simp), I.base.free b o h.1 h.2.1 (by rw [hex]; simp)⟩
structure LamOk (h : Heap) (H : Hp) (fs : List Addr) (f c' : Addr) (name qual : Str) (params : Arguments) (body : Expr) (scope : Scope) (cl : List (Str × Addr)) (pm ctv : Value) (N : List Str) (vs : List V) : Prop where
 fn : Still h H fs f (kla_obj name qual params body scope cl pm c' ctv)
 code : ∃ oc ar t, Still h H fs c' oc ∧ oc.data = .fields ar ∧ ar[1]? = some (.str qual t)
 len : vs.length = N.length
 inj : ∀ x y c, cl.lookup x = some c → cl.lookup y = some c → x = y
 has : ∀ x, (scope.names.lookup x = some .cell ∨ scope.names.lookup x = some .free) → ∃ c, cl.lookup x = some c
 fre : ∀ x ∈ N, scope.names.lookup x = some .free
 cell : ∀ x c, cl.lookup x = some c → ∃ o v, Still h H fs c o ∧ o.data = .cell v
 val : ∀ (i : Nat) (x : Str) (v : V), N[i]? = some x → vs[i]? = some v → ∃ c u o, cl.lookup x = some c ∧ Still h H fs c o ∧ o.data = .cell (some u) ∧ RelV v u
theorem pe_lamcall (L : LamOk X.s_0.heap X.H_0 X.fs f c' name qual params body scope cl pm ctv N vs) (hex : X.ex = []) (hr : Room (k + 1) X.A) (hx : Passes (CXR X.prog X.w) X E) (hv : PE X (.Name x p) (tVar i)) (hbind : bindArgs (kla_fn name qual params body scope cl pm (.ref c') ctv) ⟨[], []⟩ = pure [])
  (hk : scope.kind = .function) (hco : scope.isCoroutine = false) (hgen : scope.isGenerator = false) (hcell : ∀ x ∈ scope.names, x.2 ≠ .cell)
  (hb : ∀ s H, PE (cxL (CXR X.prog X.w) X.prog X.w X.K X.mg X.base N qual scope f (.ref c') cl X.A X.stack s H E) body tb) :
  PE X (.Call (.Name x p) [] [] pos) (fun σ H Q => tVar i σ H fun v H1 => v = .ref f ∧ tb (vs.map some) H1 Q) := by
 intro pins s σ H Q I h
 refine wpAny_Call_Name_kw (thn (hv pins s σ H _ I h) fun u s1 ⟨v, H1, I1, r, q⟩ => ?_)
 obtain ⟨rfl, q⟩ := q
 obtain rfl : u = Value.ref f := r
 have e1 := (L.fn.at hex I1).1
 refine PySem.W.callWith_F0 ⟨_, _, _, _, e1⟩ (wpAny_call (codeAny_mono (lam_run (k := k) (E := E) (vs := vs) (t := tb) (Q := Q) hr I1.env0 e1 ?_ hbind hk hco hgen hcell ?_ (hb s1 H1) q) fun r s' hq => ?_))
 ·obtain ⟨oc, ar, t, st, d1, d2⟩ := L.code
  exact ⟨c', oc, ar, t, rfl, (st.at hex I1).1, d1, d2⟩
 ·refine ⟨L.len, L.inj, L.has, L.fre, fun y c e => ?_, fun j y v e1 e2 => ?_⟩
  ·obtain ⟨o, v, st, d⟩ := L.cell y c e
   exact ⟨⟨v, o, (st.at hex I1).1, d⟩, (st.at hex I1).2⟩
  ·obtain ⟨c, u, o, e3, st, d, rv⟩ := L.val j y v e1 e2
   exact ⟨c, u, e3, ⟨o, (st.at hex I1).1, d⟩, rv⟩
 ·cases r with
  | error e => exact hx pins σ H1 s1 e s' I1 hq
  | ok fl =>
   cases fl with
   | ret u => exact I1.after hq
   | next => exact False.elim hq
   | brk => exact False.elim hq
   | cont => exact False.elim hq
end
end L2
end
section
namespace L2
open PySem PySem.Spec PyProof.Rows
theorem Fun.runR {P : Program} {w : World} {K : Frag} {mg : Str → Option Value} {base : Heap} {x qual : Str} {st : Stmt} {f : Addr} {fd : FuncData} {N ps : List Str} {k : Nat} {A : Around} {outer : List Env} {s : Shared} {H : Hp} {args : Args} {us : List Value} {vs : List V} {Q : VK} {E : XK}
  (F : Fun K x qual st f fd) (S : FnScope N ps (defScope st)) (hl : vs.length = ps.length) (hr : Room (k + 1) A) (e0 : Env0 P w K mg base A outer s H) (hb : BindsTo s fd args (ps.zip us)) (r : Vals vs us)
  (hbody : ∀ cdv : Value, Room k (A.deeper (envOfC qual (defScope st) s.heap.objs.size f cdv)) →
   ∃ t, PSs (cxOf (CXR P w) P w K mg base N qual (defScope st) f cdv A outer s H E) (defBody st) t ∧ t { nx := fun _ H' => ∃ H2, Fg H2 H' ∧ Q .non H2, rt := fun v H' => ∃ H2, Fg H2 H' ∧ Q v H2 } (start N vs) H) :
  codeAny (model P w) A (.call (.ref f) args) (CR (CXR P w) outer P w H s Q E) s := by
 obtain ⟨oc, od, kV, doc, pm, an, cdv, ct, osl, rfl, lk, hcd⟩ := F.ex
 have KX : K.In s.heap := e0.mod.kin.keeps fun b o e => (e0.bs b o e).1
 have lim : s.heap.NoLimit := e0.mod.nolimit.keeps fun b o e => (e0.bs b o e).1
 have hkind : ∀ y ∈ ps.zip us, (defScope st).names.lookup y.1 = some .local ∨ ((defScope st).names.lookup y.1 = some .cell ∧ ((cellsFrom (s.heap.objs.size + 1) (defScope st).names []).lookup y.1).isSome = true) := fun ⟨n, v⟩ hy => by
  rcases S.par n (List.of_mem_zip hy).1 with q | q
  ·exact .inl q
  ·exact .inr ⟨q, PySem.W.cellsFrom_some _ _ _ (.inl q)⟩
 refine codeAny_call_function hr.depth (KX _ _ lk) rfl S.co S.gen rfl (PySem.W.codeRec_of KX hcd) (hb _ _ _ _ ?_)
 refine wpAny_newFunctionEnv_cells S.kind hkind fun env he s1 x => ?_
 subst he
 refine ⟨lim.keeps x.toInCall.keep, codeAny_func ?_⟩
 obtain ⟨t, ht, hq⟩ := hbody cdv (hr.deeper _)
 have I : Inv (cxOf (CXR P w) P w K mg base N qual (defScope st) f cdv A outer s H E) [] (start N vs) H s1 := inv_start S hr.hd e0 hl r x
 refine wpAny_mono (ht [] s1 (start N vs) H _ I hq) (fun fl s' hs => ?_) fun e s' hs => hs
 have fin : ∀ {σ' : St} {H' : Hp} {v : V} {u : Value}, Inv (cxOf (CXR P w) P w K mg base N qual (defScope st) f cdv A outer s H E) [] σ' H' s' → RelV v u → (∃ H2, Fg H2 H' ∧ Q v H2) → CE outer P w H s Q u s' :=
  fun {σ' H' v u} J rv ⟨H2, g, q⟩ => ⟨v, H2, J.os, J.bare, (J.fg g).base, (J.fg g).hok, rv, q⟩
 cases fl with
 | ret u =>
  obtain ⟨v, σ', H', J, rv, q⟩ := hs
  exact fin J rv q
 | next =>
  obtain ⟨σ', H', J, q⟩ := hs
  exact fin (v := V.non) (u := Value.none) J rfl q
 | brk =>
  obtain ⟨_, _, _, q⟩ := hs
  exact False.elim q
 | cont =>
  obtain ⟨_, _, _, q⟩ := hs
  exact False.elim q
section
variable {X : Cx} {x : Str} {p pos lpos : Pos} {fa c P : Addr} {params : Arguments} {body : Expr} {scope : Scope} {E : XK} {sp : List V → Hp → VK → Prop}
theorem pe_lamarg (hg : Gl X x) (hm : X.mg x = some (.ref fa)) (hkp : keepIn X.K (.ref fa) = true) (hx : Passes (CXR X.prog X.w) X E) (hfn : ∀ y, X.fn y = true)
  (hfree : ∀ y ∈ scope.names, y.2 = .free → y.1 ∈ X.N) (hcl : ∀ y ∈ X.N, X.env.scope.names.lookup y = some .cell) (hfr : ∀ y ∈ X.N, scope.names.lookup y = some .free) (hno : ∀ y ∈ scope.names, y.2 ≠ .cell)
  (hcode : X.env.code = .ref c) (C : CodeHd X.base c P) (hB : X.base.BuiltinsAt X.mg P) (hd : defaultsOf params X.env = ([], []))
  (run : ∀ (s1 : Shared) (H1 : Hp) (f c' : Addr) (pm ctv : Value) (cl : List (Str × Addr)) (vs : List V) (Q : VK), Env0 X.prog X.w X.K X.mg X.base X.A X.stack s1 H1 → LamOk s1.heap H1 (frs X.stack) f c' "<lambda>" (X.env.qual ++ "<lambda>") params body scope cl pm ctv X.N vs → sp vs H1 Q →
   codeAny (model X.prog X.w) X.A (.call (.ref fa) ⟨[.ref f], []⟩) (CR (CXR X.prog X.w) X.stack X.prog X.w H1 s1 Q E) s1)
  (hdb : (x == ("__debug__" : Str)) = false := by decide)
  (he : starEach [.Lambda params body scope lpos] X.env = [(false, eval (.Lambda params body scope lpos) X.env)] := by rfl) :
  PE X (.Call (.Name x p) [.Lambda params body scope lpos] [] pos) (fun σ H Q => ∃ vs, σ = vs.map some ∧ H P = some (.tbl #[]) ∧ ∀ ps, sp vs (upd H P (.tbl ps)) Q) := by
 intro pins s σ H Q I h
 obtain ⟨vs, rfl, hP, hsp⟩ := h
 refine wpAny_Call_Name_kw (ld_glob I hg hm ?_ hdb)
 refine PySem.W.callWith_K (h₀ := X.base) I.ok.mod.kin hkp ?_ he rfl
 rw [he]
 refine Calls.spliced_cons ?_
 have hfree' : ∀ y ∈ scope.names, y.2 = .free → ∃ c, X.env.cells.lookup y.1 = some c := fun y hy e => I.ok.has _ (.inl (hcl _ (hfree y hy e)))
 have hPs : s.heap.get? P = some (PySem.W.tabObj #[]) := I.hok P _ hP
 have hgP : mainGlobals ≠ P := fun z => by
  obtain ⟨o, es, ep, e, _⟩ := I.mod.glob
  rw [z] at e
  rw [(I.bs _ _ e).2] at hP; cases hP
 refine PySem.W.kla_eval hd (PySem.W.kla_makeFunction (mg := X.mg) (closure_ok hfree') I.ok.glob (I.mod.glob.keeps I.bk) hcode (C.keeps I.bk) hPs trivial rfl hgP (hB.keeps I.bk) fun c' ctv h' tk hx' hge hlt hrec htb => ?_)
 refine Calls.spliced_nil ?_
 generalize hps : (#[] ++ #[rawInt lpos.line, rawInt lpos.col, Value.ref c'] : Array Value) = ps at htb
 generalize hcle : cloFrom X.env.cells scope.names [] = cl
 generalize hpm : (X.mg "__name__").getD .none = pm
 have kp1 : ∀ b o, b ≠ P → s.heap.get? b = some o → (h'.push (kla_obj "<lambda>" (X.env.qual ++ "<lambda>") params body scope cl pm c' ctv)).get? b = some o := fun b o ne e => Heap.get?_push_of_some _ (hx' b o ne e)
 have neP : ∀ b, H b = none → b ≠ P := fun b n z => by rw [z, hP] at n; cases n
 have szP : s.heap.objs.size ≤ h'.objs.size := Nat.le_trans hge (Nat.le_of_lt hlt)
 have I1 : Inv X pins (vs.map some) (upd H P (.tbl ps)) { s with heap := h'.push (kla_obj "<lambda>" (X.env.qual ++ "<lambda>") params body scope cl pm c' ctv), toks := tk } := by
  refine I.un ⟨fun b o e n _ _ => kp1 b o (neP b n) e, fun b o e n _ _ => ⟨o.slots, kp1 b o (neP b n) e⟩, fun b o e n _ => by rw [upd_ne (neP b n)]; exact n, fun b o e _ => ?_, fun b xs e => ?_, fun b o u e => ?_, fun b qs e => ?_⟩ fun b u e => ?_
  ·by_cases z : b = P
   ·rw [z]; exact ⟨_, Heap.get?_push_of_some _ htb⟩
   ·exact ⟨o, kp1 b o z e⟩
  ·rw [upd_ne (fun z => by rw [z, hP] at e; cases e)]; exact e
  ·rw [upd_ne (fun z => by rw [z, hP] at e; cases e)]; exact e
  ·by_cases z : b = P
   ·rw [z, hP] at e
    cases e
    exact ⟨ps, by rw [z, upd_same]; simp⟩
   ·exact ⟨#[], by rw [upd_ne z, e]; simp⟩
  ·by_cases z : b = P
   ·rw [z, upd_same] at e
    cases e
    rw [z]
    show (h'.push _).get? P = some { cls := .none, data := .fields ps }
    exact Heap.get?_push_of_some _ htb
   ·rw [upd_ne z] at e
    refine (I.hok b u e).stay (fun d v hd q => kp1 d v ?_ q) (fun d q => ?_) fun d xs q => ?_
    ·rcases hd with rfl | q2
     ·exact z
     ·intro y; rw [y, hP] at q2; cases q2
    ·rw [upd_ne (fun y => by rw [y, hP] at q; cases q)]; exact q
    ·rw [upd_ne (fun y => by rw [y, hP] at q; cases q)]; exact q
 refine ⟨I1.kIn, ?_⟩
 have frlt : ∀ b ∈ frs X.stack, b < s.heap.objs.size := fun b hb => by
  obtain ⟨_, o, e, _⟩ := I.stack.mem hb
  exact Heap.lt_size e
 have hPlt : P < s.heap.objs.size := Heap.lt_size hPs
 have fresh : ∀ b, s.heap.objs.size ≤ b → (upd H P (.tbl ps)) b = none ∧ b ∉ frs X.stack := fun b hb => by
  refine ⟨?_, fun z => Nat.lt_irrefl _ (Nat.lt_of_lt_of_le (frlt b z) hb)⟩
  rw [upd_ne (Nat.ne_of_gt (Nat.lt_of_lt_of_le hPlt hb))]; exact I.hok.fresh hb
 have clm : ∀ y a, cl.lookup y = some a → X.env.cells.lookup y = some a ∧ scope.names.lookup y ≠ none := fun y a e => by
  rw [← hcle] at e
  rcases cloFrom_mem (PySem.mem_of_lookup e) with hm | ⟨h1, rfl⟩
  ·cases hm
  ·obtain ⟨d, hd⟩ := hfree' _ h1 rfl
   refine ⟨by rw [hd]; rfl, fun z => ?_⟩
   obtain ⟨v, hv⟩ := mem_lookup h1
   rw [z] at hv; cases hv
 have cst : ∀ y a o, X.env.cells.lookup y = some a → s.heap.get? a = some o → Still (h'.push (kla_obj "<lambda>" (X.env.qual ++ "<lambda>") params body scope cl pm c' ctv)) (upd H P (.tbl ps)) (frs X.stack) a o := fun y a o e ho => by
  have n := I.freeC y a e
  refine ⟨kp1 a o (neP a n) ho, by rw [upd_ne (neP a n)]; exact n, fun z => ?_⟩
  rcases List.mem_cons.mp (I.stkSub a z) with z | z
  ·exact I.cne y a e z
  ·obtain ⟨_, o2, e2, _⟩ := I.ok.funs.mem z
   have := I.ok.cab y a (hfn y) e
   exact Nat.lt_irrefl _ (Nat.lt_of_lt_of_le (Heap.lt_size e2) this)
 have L : LamOk (h'.push (kla_obj "<lambda>" (X.env.qual ++ "<lambda>") params body scope cl pm c' ctv)) (upd H P (.tbl ps)) (frs X.stack) h'.objs.size c' "<lambda>" (X.env.qual ++ "<lambda>") params body scope cl pm ctv X.N vs := by
  refine ⟨⟨Heap.get?_push_size _ rfl, fresh _ szP⟩, ?_, ?_, fun y z a e1 e2 => I.ok.inj y z a (clm y a e1).1 (clm z a e2).1, fun y hy => ?_, hfr, fun y a e => ?_, fun j y v e1 e2 => ?_⟩
  ·obtain ⟨c2, oc, ar, t, e, hoc, hd, hv⟩ := hrec
   cases e
   exact ⟨oc, ar, t, ⟨Heap.get?_push_of_some _ hoc, fresh _ hge⟩, hd, hv⟩
  ·have := I.len
   rw [List.length_map] at this; exact this
  ·rcases hy with hy | hy
   ·exact absurd rfl (hno _ (PySem.mem_of_lookup hy))
   ·rw [← hcle]
    exact mem_lookup (cloFrom_has (PySem.mem_of_lookup hy))
  ·obtain ⟨v, o, ho, hd⟩ := I.cell y a (clm y a e).1
   exact ⟨o, v, cst y a o (clm y a e).1 ho, hd⟩
  ·obtain ⟨m, hn, hl⟩ := I.loc
   have hyN := List.mem_of_getElem? e1
   obtain ⟨u, r, lk⟩ := hl j y v e1 (by rw [List.getElem?_map, e2]; rfl) (.inr (.inl (hcl y hyN)))
   rcases lk with ⟨k1, _⟩ | ⟨_, a, ea, o, ho, hd⟩
   ·have k1 : X.env.scope.names.lookup y = some .local := k1
    rw [hcl y hyN] at k1; cases k1
   ·obtain ⟨a', ea'⟩ : ∃ a', cl.lookup y = some a' := by
     rw [← hcle]
     exact mem_lookup (cloFrom_has (PySem.mem_of_lookup (hfr y hyN)))
    have := (clm y a' ea').1
    rw [ea] at this
    cases this
    exact ⟨a, u, o, ea', cst y a o ea ho, hd, r⟩
 refine wpAny_call (codeAny_mono (run _ _ h'.objs.size c' pm ctv cl vs Q I1.env0 L (hsp ps)) fun r s' hq => ?_)
 cases r with
 | error e => exact hx pins _ _ _ e s' I1 hq
 | ok fl =>
  cases fl with
  | ret u => exact I1.after hq
  | next => exact False.elim hq
  | brk => exact False.elim hq
  | cont => exact False.elim hq
end
end L2
end
section
namespace Sv
open PySem PySem.Spec L2
structure TxtX (K : Frag) (A : Adr) : Prop where
 m1 : mroIs K A.NotSo = true
 m2 : mroIs K A.NotThere = true
 m3 : mroIs K A.WrongSort = true
 m4 : mroIs K A.TooMany = true
 n12 : A.NotSo ≠ A.NotThere
 n13 : A.NotSo ≠ A.WrongSort
 n14 : A.NotSo ≠ A.TooMany
 n23 : A.NotThere ≠ A.WrongSort
 n24 : A.NotThere ≠ A.TooMany
 n34 : A.WrongSort ≠ A.TooMany
section
variable {P : Program} {w : World} {K : Frag} {mg : Str → Option Value} {base : Heap} {A : Adr} {f : Addr} {fd : FuncData}
theorem sc_answered : FnScope ["reading", "told"] ["reading"] (defScope s_answered) := ⟨rfl, rfl, rfl, dk, rfl, dk, dk⟩
theorem run_answered {A0 : Around} {outer : List Env} {s : Shared} {H : Hp} {Q : VK} {E : XK} {lf c' : Addr} {name qual : Str} {params : Arguments} {body : Expr} {scope : Scope} {cl : List (Str × Addr)} {pm ctv : Value} {N : List Str} {vs : List V} {tb : XK → TE} {res : Res}
  (F : Fun K "answered" "answered" s_answered f fd) (T : Txt K mg A) (T2 : TxtX K A) (L : LamOk s.heap H (frs outer) lf c' name qual params body scope cl pm ctv N vs) (hr0 : Room 17 A0) (e0 : Env0 P w K mg base A0 outer s H)
  (hargs : BindsTo s fd ⟨[.ref lf], []⟩ (List.zip ([("reading" : Str)] : List Str) [Value.ref lf]))
  (hbind : bindArgs (kla_fn name qual params body scope cl pm (.ref c') ctv) ⟨[], []⟩ = pure []) (hk : scope.kind = .function) (hco : scope.isCoroutine = false) (hgen : scope.isGenerator = false) (hcell : ∀ x ∈ scope.names, x.2 ≠ .cell)
  (hb : ∀ (A1 : Around) (outer1 : List Env) (s1 : Shared) (H1 : Hp) (E1 : XK), Room 15 (A1.deeper (envX qual scope s1.heap.objs.size lf (.ref c') cl)) → PE (cxL (CXR P w) P w K mg base N qual scope lf (.ref c') cl A1 outer1 s1 H1 E1) body (tb E1))
  (hq : ∀ (E1 : XK) (Q1 : VK), OrR A E1 res (fun l => ∀ q H', H' q = some (.lst (vN l)) → l.length ≤ 5000000 → Q1 (.ref q) H') → tb E1 (vs.map some) H Q1)
  (hQ : ∀ q H', H' q = some (.lst (res.ans.map V.int)) → Q (.ref q) H') :
  codeAny (model P w) A0 (.call (.ref f) ⟨[.ref lf], []⟩) (CR (CXR P w) outer P w H s Q E) s := by
 refine F.runR (N := ["reading", "told"]) (ps := ["reading"]) (k := 16) (us := [.ref lf]) (vs := [.ref lf]) sc_answered rfl hr0 e0 hargs (.cons rfl .nil) fun cdv hr => ?_
 refine ⟨_, (pss_cons (ps_try rfl rfl (fun D pn xe hps => pss_one (ps_set (i := 1) sc_answered.nd rfl (Or.inl rfl) (pe_lamcall (k := 15) L rfl hr hps (pv 0) hbind hk hco hgen hcell (fun s1 H1 => hb _ _ s1 H1 _ (hr.deeper _)))))
  (fun D => catch_cons rfl T.x_NotSo T.xc_NotSo (fun e => pss_one (ps_ret (pe_lst (pa_cons (pe_un un_neg pe_int) pa_nil))))
   (catch_cons rfl T.x_NotThere T.xc_NotThere (fun e => pss_one (ps_ret (pe_lst (pa_cons (pe_un un_neg pe_int) pa_nil))))
   (catch_cons rfl T.x_WrongSort T.xc_WrongSort (fun e => pss_one (ps_ret (pe_lst (pa_cons (pe_un un_neg pe_int) pa_nil))))
   (catch_cons rfl T.x_TooMany T.xc_TooMany (fun e => pss_one (ps_ret (pe_lst (pa_cons (pe_un un_neg pe_int) pa_nil)))) catch_nil)))))
  (pss_one (ps_ret (pe_op op_cat (pe_lst (pa_cons (pe_callB call_len_seq rfl T.n_len boot_len (pa_cons (pv 1) pa_nil)) pa_nil)) (pv 1))))), ?_⟩
 refine ⟨_, rfl, rfl, hq _ _ ?_⟩
 cases res with
 | bad => exact fun H' => ⟨A.NotSo, rfl, T.xc_NotSo, T2.m1, .inl ⟨rfl, fun σ => ⟨3, rfl, by show 1 ≤ sizeLine; decide, fun p hp => ⟨_, Fg.refl _, hQ p _ upd_same⟩⟩⟩⟩
 | missing => exact fun H' => ⟨A.NotThere, rfl, T.xc_NotThere, T2.m2, .inr ⟨T2.n12.symm, A.NotThere, rfl, T.xc_NotThere, T2.m2, .inl ⟨rfl, fun σ => ⟨4, rfl, by show 1 ≤ sizeLine; decide, fun p hp => ⟨_, Fg.refl _, hQ p _ upd_same⟩⟩⟩⟩⟩
 | sort => exact fun H' => ⟨A.WrongSort, rfl, T.xc_WrongSort, T2.m3, .inr ⟨T2.n13.symm, A.WrongSort, rfl, T.xc_WrongSort, T2.m3, .inr ⟨T2.n23.symm, A.WrongSort, rfl, T.xc_WrongSort, T2.m3, .inl ⟨rfl, fun σ => ⟨5, rfl, by show 1 ≤ sizeLine; decide, fun p hp => ⟨_, Fg.refl _, hQ p _ upd_same⟩⟩⟩⟩⟩⟩
 | many => exact fun H' => ⟨A.TooMany, rfl, T.xc_TooMany, T2.m4, .inr ⟨T2.n14.symm, A.TooMany, rfl, T.xc_TooMany, T2.m4, .inr ⟨T2.n24.symm, A.TooMany, rfl, T.xc_TooMany, T2.m4, .inr ⟨T2.n34.symm, A.TooMany, rfl, T.xc_TooMany, T2.m4, .inl ⟨rfl, fun σ => ⟨1, rfl, by show 1 ≤ sizeLine; decide, fun p hp => ⟨_, Fg.refl _, hQ p _ upd_same⟩⟩⟩⟩⟩⟩⟩
 | ok l =>
  intro q H' hl ll
  refine ⟨_, rfl, q, vN l, rfl, .inl (SqL.of hl), by show 1 ≤ sizeLine; decide, fun p1 hp1 => ?_⟩
  have n1 : q ≠ p1 := ne_of_none hl hp1
  refine ⟨_, rfl, p1, q, _, vN l, rfl, rfl, upd_same, by rw [upd_ne n1]; exact hl, ?_, fun p2 hp2 => ⟨_, Fg.refl _, hQ p2 _ ?_⟩⟩
  ·rw [vN_len]
   show 1 + l.length ≤ 16777216
   omega
  ·rw [upd_same, vN_len]
   show some (HO.lst (V.int (l.length : Int) :: vN l)) = some (HO.lst (V.int (l.length : Int) :: (l.map fun (x : Nat) => (x : Int)).map V.int))
   rw [vN_ints]
end
end Sv
end
section
namespace L2
open PySem PySem.Spec PyProof.Rows
theorem Fun.okC {P : Program} {w : World} {K : Frag} {mg : Str → Option Value} {base : Heap} {x qual : Str} {st : Stmt} {f : Addr} {fd : FuncData} {N ps : List Str} {k : Nat} {sp : Sp} (F : Fun K x qual st f fd) (S : FnScope N ps (defScope st)) (len : ∀ vs H Q E, sp vs H Q E → vs.length = ps.length)
  (hbody : ∀ (A : Around) (outer : List Env) (s : Shared) (H : Hp) (vs : List V) (Q : VK) (E : XK), Room k (A.deeper (envOfC qual (defScope st) s.heap.objs.size f fd.code)) → sp vs H Q E →
   ∃ t, PSs (cxOf (CXR P w) P w K mg base N qual (defScope st) f fd.code A outer s H E) (defBody st) t ∧ t { nx := fun _ H' => ∃ H2, Fg H2 H' ∧ Q .non H2, rt := fun v H' => ∃ H2, Fg H2 H' ∧ Q v H2 } (start N vs) H) : FnOk P w K mg base (CXR P w) (k + 1) f fd ps sp := by
 obtain ⟨oc, od, kV, doc, pm, an, cdv, ct, osl, rfl, lk, hcd⟩ := F.ex
 refine fn_of lk hcd S len fun A outer s H vs Q E hr hsp => ?_
 obtain ⟨t, h, q⟩ := hbody A outer s H vs Q E hr hsp
 refine ⟨_, fun pins s σ H D I hw => thn (h pins s σ H { D with nx := fun σ H => ∃ H2, Fg H2 H ∧ D.nx σ H2, rt := fun v H => ∃ H2, Fg H2 H ∧ D.rt v H2 } I hw) fun fl s' q => ?_, q⟩
 cases fl with
 | next => obtain ⟨σ, H, I, H2, f, q⟩ := q; exact ⟨σ, H2, I.fg f, q⟩
 | brk => exact q
 | cont => exact q
 | ret u => obtain ⟨v, σ, H, I, r, H2, f, q⟩ := q; exact ⟨v, σ, H2, I.fg f, r, q⟩
end L2
namespace Sv
open PySem PySem.Spec L2
section
variable {P : Program} {w : World} {K : Frag} {mg : Str → Option Value} {base : Heap} {A : Adr} {f : Addr} {fd : FuncData}
noncomputable def listAns (most : Int) (img p : List Nat) : List Int := if 0 ≤ most ∧ most ≤ 33554432 ∧ img.length ≤ 33554432 ∧ p.length ≤ 4096 then (listP most img p).ans else [-2]
noncomputable def spListOf (K : Frag) (Pt : Addr) : Sp := fun vs H Q _ => ∃ (most : Int) (pi pp : Addr) (img p : List Nat), vs = [.int most, .ref pi, .ref pp] ∧ Bs K H pi img ∧ Byt img ∧ img.length < 2 ^ 30 ∧ Bs K H pp p ∧ H Pt = some (.tbl #[]) ∧
 ∀ q H', H' q = some (.lst ((listAns most img p).map V.int)) → Q (.ref q) H'
theorem sc_list_of : FnScope ["most", "image", "path"] ["most", "image", "path"] (defScope s_list_of) := ⟨rfl, rfl, rfl, dk, rfl, dk, dk⟩
noncomputable abbrev Dq50 (P : Program) (w : World) (K : Frag) (mg : Str → Option Value) (base : Heap) (A : Adr) : Prop := Def P w K mg base 15 "listing_at" ["most", "image", "path"] (spListing K A)
noncomputable abbrev Dq49 (P : Program) (w : World) (K : Frag) (mg : Str → Option Value) (base : Heap) (A : Adr) : Prop := Def P w K mg base 1 "in_bounds" ["most", "image", "path"] (spBounds K)
theorem ok_list_of {fa c Pt : Addr} {fdA : FuncData} (F : Fun K "list_of" "list_of" s_list_of f fd) (T : Txt K mg A) (T2 : TxtX K A) (d_in_bounds : Dq49 P w K mg base A) (d_listing_at : Dq50 P w K mg base A)
  (FA : Fun K "answered" "answered" s_answered fa fdA) (mA : mg "answered" = some (.ref fa)) (bA : Binds K fdA ["reading"] []) (hcode : fd.code = .ref c) (C : CodeHd base c Pt) (hB : base.BuiltinsAt mg Pt) :
  FnOk P w K mg base (CXR P w) 18 f fd ["most", "image", "path"] (spListOf K Pt) := by
 refine F.okC sc_list_of (fun vs H Q E h => ?_) (fun A' outer s H vs Q E hr h => ?_)
 ·obtain ⟨most, pi, pp, img, p, rfl, _⟩ := h
  rfl
 ·obtain ⟨most, pi, pp, img, p, rfl, hi, hBy, hl, hp, hP, k⟩ := h
  refine ⟨_, (pss_cons (ps_if (pt_not (pt_val (pe_fn d_in_bounds hr (by decide) rfl passR (pa_cons (pv 0) (pa_cons (pv 1) (pa_cons (pv 2) pa_nil))))))
   (pss_one (ps_ret (pe_lst (pa_cons (pe_un un_neg pe_int) pa_nil)))) pss_nil)
   (pss_one (ps_ret (pe_lamarg (sp := fun vs H1 Q1 => vs = [.int most, .ref pi, .ref pp] ∧ Bs K H1 pi img ∧ Bs K H1 pp p ∧ p.length ≤ 4096 ∧ ∀ q H', H' q = some (.lst ((listP most img p).ans.map V.int)) → Q1 (.ref q) H') rfl mA FA.kp passR (fun _ => rfl)
    (by show ∀ y ∈ ([("image", .free), ("most", .free), ("path", .free), ("listing_at", .globalImplicit)] : List (Str × NameKind)), y.2 = .free → y.1 ∈ (["most", "image", "path"] : List Str); decide +kernel)
    (by show ∀ y ∈ (["most", "image", "path"] : List Str), (defScope s_list_of).names.lookup y = some .cell; decide +kernel)
    (by show ∀ y ∈ (["most", "image", "path"] : List Str), ([("image", .free), ("most", .free), ("path", .free), ("listing_at", .globalImplicit)] : List (Str × NameKind)).lookup y = some .free; decide +kernel) dk hcode C hB rfl (fun s1 H1 lf c' pm ctv cl vs1 Q1 e0 L h1 => ?_))))), ?_⟩
  ·obtain ⟨rfl, hi1, hp1, hpl, k1⟩ := h1
   refine run_answered (tb := fun E1 => tCall (spListing K A) [] E1 (tCons (tVar 0) (tCons (tVar 1) (tCons (tVar 2) tNil)))) (res := listP most img p) FA T T2 L hr e0 (bA s1 [.ref lf] (e0.mod.kin.keeps fun b o e => (e0.bs b o e).1) rfl) rfl rfl rfl rfl dk
    (fun A1 outer1 s2 H2 E1 hr1 => pe_fn d_listing_at hr1 (by decide) rfl passL (pa_cons (pv 0) (pa_cons (pv 1) (pa_cons (pv 2) pa_nil)))) (fun E1 Q2 ho => ?_) k1
   refine ⟨_, rfl, _, rfl, _, rfl, most, pi, pp, img, p, rfl, hi1, hBy, hl, hp1, hpl, ?_⟩
   revert ho
   cases listP most img p with
   | bad => exact id
   | missing => exact id
   | sort => exact id
   | many => exact id
   | ok l => exact fun ho q H' _ e ll => ho q H' e ll
  ·obtain ⟨b, hb⟩ : ∃ b, b = decide (0 ≤ most ∧ most ≤ 33554432 ∧ img.length ≤ 33554432 ∧ p.length ≤ 4096) := ⟨_, rfl⟩
   refine ⟨_, rfl, _, rfl, _, rfl, most, pi, pp, img, p, rfl, hi, hp, b, by rw [hb], ?_⟩
   cases b with
   | false =>
    refine iteT ?_
    have e : listAns most img p = [-2] := if_neg (of_decide_eq_false hb.symm)
    rw [e] at k
    exact ⟨2, rfl, by show 1 ≤ sizeLine; decide, fun q hq => ⟨_, Fg.refl _, k q _ upd_same⟩⟩
   | true =>
    refine iteF ?_
    have hc := of_decide_eq_true hb.symm
    have e : listAns most img p = (listP most img p).ans := if_pos hc
    rw [e] at k
    have nP : ∀ {a : Addr} {l : List Nat} {ps : Array Value}, Bs K H a l → Bs K (upd H Pt (.tbl ps)) a l := fun {a l ps} z => by
     rcases z with (z | ⟨o, z⟩) | z
     ·exact .inl (.inl (by rw [upd_ne (ne_of z hP (by intro y; cases y))]; exact z))
     ·exact .inl (.inr ⟨o, by rw [upd_ne (ne_of z hP (by intro y; cases y))]; exact z⟩)
     ·exact .inr z
    exact ⟨_, rfl, hP, fun ps => ⟨rfl, nP hi, nP hp, hc.2.2.2, fun q H' e => ⟨_, Fg.refl _, k q H' e⟩⟩⟩
end
end Sv
end
section
namespace L2
open PySem PySem.Spec PyProof.Rows
open PySem.W (WData Codec OpenSpec Well WellAll ReadsW ReadsAllW)
mutual
inductive Dw (K : Frag) (H : Hp) : V → WData → Prop
 | non : Dw K H .non .none
 | bl (b : Bool) : Dw K H (.bl b) (.bool b)
 | int (i : Int) : Dw K H (.int i) (.int i)
 | str (x : Str) : Dw K H (.str x) (.str x)
 | byt (b : Array UInt8) : Dw K H (.byt b) (.bytes b.toList)
 | lst {a : Addr} {xs : List V} {ds : List WData} : SqL K H a xs → DwAll K H xs ds → Dw K H (.ref a) (.list ds)
 | tup {a : Addr} {xs : List V} {ds : List WData} : SqT K H a xs → DwAll K H xs ds → Dw K H (.ref a) (.tuple ds)
inductive DwAll (K : Frag) (H : Hp) : List V → List WData → Prop
 | nil : DwAll K H [] []
 | cons {v : V} {vs : List V} {d : WData} {ds : List WData} : Dw K H v d → DwAll K H vs ds → DwAll K H (v :: vs) (d :: ds)
end
theorem dw_ints {K : Frag} {H : Hp} : ∀ ns : List Int, DwAll K H (ns.map V.int) (ns.map WData.int)
 | [] => .nil
 | n :: r => .cons (.int n) (dw_ints r)
theorem ints_dw {K : Frag} {H : Hp} : ∀ (ns : List Int) (xs : List V), DwAll K H xs (ns.map WData.int) → xs = ns.map V.int
 | [], xs, h => by
  cases h
  rfl
 | n :: r, xs, h => by
  cases h with
  | cons h1 h2 =>
   cases h1
   rw [ints_dw r _ h2] <;> rfl
section
variable {P : Program} {w : World} {K : Frag} {H : Hp} {h : Heap} {R : PySem.W.WRecords} {cl : Str → Option Addr}
theorem sqL_at {a : Addr} {xs : List V} (hok : HOk P w H h) (KX : K.In h) (q : SqL K H a xs) : ∃ (its : List Value) (o : Obj) (n : Nat), Vals xs its ∧ h.get? a = some o ∧ o.cls = .type "list" ∧ o.data = .seq its.toArray n := by
 rcases q with q | ⟨o, its, n, e, hc, _, hd, _, hv⟩
 ·obtain ⟨_, its, n, hv, e⟩ := (show ObjOk P w H h a (.lst xs) from q.ok hok)
  exact ⟨its, _, n, hv, e, rfl, rfl⟩
 ·exact ⟨its.toList, o, n, hv, KX _ _ e, hc, by simp [hd]⟩
theorem sqT_at {a : Addr} {xs : List V} (hok : HOk P w H h) (KX : K.In h) (q : SqT K H a xs) : ∃ (its : List Value) (o : Obj) (n : Nat), Vals xs its ∧ h.get? a = some o ∧ o.cls = .type "tuple" ∧ o.data = .seq its.toArray n := by
 rcases q with q | ⟨o, its, n, e, hc, hd, _, hv⟩
 ·obtain ⟨_, its, hv, o, e, hc, n, hd⟩ := (show ObjOk P w H h a (.tup xs) from q.ok hok)
  exact ⟨its, o, n, hv, e, hc, hd⟩
 ·exact ⟨its.toList, o, n, hv, KX _ _ e, hc, by simp [hd]⟩
mutual
theorem Dw.reads (hok : HOk P w H h) (KX : K.In h) : ∀ (d : WData) (v : V) (u : Value), Dw K H v d → RelV v u → ∃ as, ReadsW R cl h u d as
 | .none, _, _, x, r => by
  cases x
  cases r
  exact ⟨_, ReadsW.none⟩
 | .bool b, _, _, x, r => by
  cases x
  cases r
  exact ⟨_, ReadsW.bool b⟩
 | .int i, _, _, x, r => by
  cases x
  obtain ⟨t, rfl⟩ := r
  exact ⟨_, ReadsW.int i t⟩
 | .str s, _, _, x, r => by
  cases x
  obtain ⟨t, rfl⟩ := r
  exact ⟨_, ReadsW.str s t⟩
 | .bytes b, _, _, x, r => by
  cases x
  obtain ⟨t, rfl⟩ := r
  exact ⟨_, ReadsW.bytes _ t⟩
 | .list ds, _, _, x, r => by
  cases x with
  | lst hs ha =>
   cases r
   obtain ⟨its, o, n, rv, ho, hc, hd⟩ := sqL_at hok KX hs
   obtain ⟨as, hr⟩ := Dw.readsAll hok KX ds _ its ha rv
   exact ⟨_, ReadsW.list ho hc hd hr⟩
 | .tuple ds, _, _, x, r => by
  cases x with
  | tup hs ha =>
   cases r
   obtain ⟨its, o, n, rv, ho, hc, hd⟩ := sqT_at hok KX hs
   obtain ⟨as, hr⟩ := Dw.readsAll hok KX ds _ its ha rv
   exact ⟨_, ReadsW.tuple ho hc hd hr⟩
 | .float _, _, _, x, _ => by cases x
 | .dict _, _, _, x, _ => by cases x
 | .bytearray _, _, _, x, _ => by cases x
 | .set _, _, _, x, _ => by cases x
 | .frozenset _, _, _, x, _ => by cases x
 | .obj _ _, _, _, x, _ => by cases x
theorem Dw.readsAll (hok : HOk P w H h) (KX : K.In h) : ∀ (ds : List WData) (vs : List V) (us : List Value), DwAll K H vs ds → Vals vs us → ∃ as, ReadsAllW R cl h us ds as
 | [], _, _, x, r => by
  cases x
  cases r
  exact ⟨_, ReadsAllW.nil⟩
 | d :: ds, _, _, x, r => by
  cases x with
  | cons h1 h2 =>
   cases r with
   | cons r1 r2 =>
    obtain ⟨as, q1⟩ := Dw.reads hok KX d _ _ h1 r1
    obtain ⟨bs, q2⟩ := Dw.readsAll hok KX ds _ _ h2 r2
    exact ⟨_, ReadsAllW.cons q1 q2⟩
end
end
mutual
noncomputable def plW : WData → Bool
 | .none => true
 | .bool _ => true
 | .int _ => true
 | .str _ => true
 | .bytes _ => true
 | .list xs => plWs xs
 | .tuple xs => plWs xs
 | _ => false
noncomputable def plWs : List WData → Bool
 | [] => true
 | x :: r => plW x && plWs r
end
theorem plWs_map {α : Type} {f : α → WData} (h : ∀ a, plW (f a) = true) : ∀ l : List α, plWs (l.map f) = true
 | [] => rfl
 | x :: r => by
  show (plW (f x) && plWs (r.map f)) = true
  rw [h x, plWs_map h r] <;> rfl
theorem pl_enc : ∀ (c : Codec) (a : c.denote), plW (c.enc a) = true
 | .unit, _ => rfl
 | .bool, _ => rfl
 | .int _ _, _ => rfl
 | .nat _ _, _ => rfl
 | .u8, _ => rfl
 | .bytes _ _, _ => rfl
 | .text _ _ _ _, _ => rfl
 | .list _ _ c, a => plWs_map (fun x => pl_enc c x) a
 | .pair c d, a => by
  show (plW (c.enc a.1) && (plW (d.enc a.2) && true)) = true
  rw [pl_enc c a.1, pl_enc d a.2] <;> rfl
 | .triple c d e, a => by
  show (plW (c.enc a.1) && (plW (d.enc a.2.1) && (plW (e.enc a.2.2) && true))) = true
  rw [pl_enc c a.1, pl_enc d a.2.1, pl_enc e a.2.2] <;> rfl
 | .option c, none => rfl
 | .option c, some x => pl_enc c x
theorem pl_encAll : ∀ (cs : List Codec) (a : Codec.denoteAll cs), plWs (Codec.encAll cs a) = true
 | [], _ => rfl
 | c :: cs, a => by
  show (plW (c.enc a.1) && plWs (Codec.encAll cs a.2)) = true
  rw [pl_enc c a.1, pl_encAll cs a.2] <;> rfl
theorem weight_mem : ∀ {xs : List WData} {d : WData}, d ∈ xs → d.weight ≤ WData.weightAll xs
 | [], d, h => absurd h (by simp)
 | x :: r, d, h => by
  show d.weight ≤ x.weight + 1 + WData.weightAll r
  rcases List.mem_cons.mp h with e | m
  ·rw [e]
   omega
  ·have z := weight_mem m
   omega
noncomputable def toV : Value → V
 | .none => .non
 | .bool b => .bl b
 | .int i _ => .int i
 | .str x _ => .str x
 | .bytes b _ => .byt b
 | .ref a => .ref a
 | _ => .non
noncomputable def OkU (A : List Addr) : Value → Prop
 | .none => True
 | .bool _ => True
 | .int _ _ => True
 | .str _ _ => True
 | .bytes _ _ => True
 | .ref a => a ∈ A
 | _ => False
theorem OkU.mono {A B : List Addr} (h : ∀ a ∈ A, a ∈ B) : ∀ {u : Value}, OkU A u → OkU B u := fun {u} x => by
 cases u with
 | ref a => exact h a x
 | none => trivial
 | bool b => trivial
 | int i t => trivial
 | str s t => trivial
 | bytes b t => trivial
 | _ => exact False.elim x
theorem relV_toV {A : List Addr} {u : Value} (x : OkU A u) : RelV (toV u) u := by
 cases u with
 | ref a => rfl
 | none => rfl
 | bool b => rfl
 | int i t => exact ⟨t, rfl⟩
 | str s t => exact ⟨t, rfl⟩
 | bytes b t => exact ⟨t, rfl⟩
 | _ => exact False.elim x
theorem vals_toV {A : List Addr} : ∀ {vs : List Value}, (∀ u ∈ vs, OkU A u) → Vals (vs.map toV) vs
 | [], _ => .nil
 | u :: r, h => .cons (relV_toV (h u (List.mem_cons_self ..))) (vals_toV fun x hx => h x (List.mem_cons_of_mem _ hx))
noncomputable def ArgOb (h : Heap) (A : List Addr) (a : Addr) : Prop := ∃ vs : List Value, vs.length ≤ sizeLine ∧ (∀ u ∈ vs, OkU A u) ∧
 (h.get? a = some { cls := .type "list", data := .seq vs.toArray } ∨ h.get? a = some { cls := .type "tuple", data := .seq vs.toArray })
theorem ArgOb.mono {h : Heap} {A B : List Addr} {a : Addr} (k : ∀ a ∈ A, a ∈ B) (x : ArgOb h A a) : ArgOb h B a := by
 obtain ⟨vs, h1, h2, h3⟩ := x
 exact ⟨vs, h1, fun u hu => (h2 u hu).mono k, h3⟩
theorem wellAll_len {P : Params} {h : Heap} : ∀ {vs : List Value} {ds : List WData}, WellAll P h vs ds → vs.length = ds.length
 | _, _, .nil => rfl
 | _, _, .cons _ b => by
  show _ + 1 = _ + 1
  rw [wellAll_len b]
theorem well_list {P : Params} {h : Heap} {v : Value} {ds : List WData} (x : Well P h v (.list ds)) : ∃ (a : Addr) (vs : List Value), v = .ref a ∧ h.get? a = some { cls := .type "list", data := .seq vs.toArray } ∧ WellAll P h vs ds := by
 cases x with
 | list ho hall => exact ⟨_, _, rfl, ho, hall⟩
theorem well_tuple {P : Params} {h : Heap} {v : Value} {ds : List WData} (x : Well P h v (.tuple ds)) : ∃ (a : Addr) (vs : List Value), v = .ref a ∧ h.get? a = some { cls := .type "tuple", data := .seq vs.toArray } ∧ WellAll P h vs ds := by
 cases x with
 | tuple ho hall => exact ⟨_, _, rfl, ho, hall⟩
theorem well_cons {P : Params} {h : Heap} {us : List Value} {d : WData} {ds : List WData} (x : WellAll P h us (d :: ds)) : ∃ (v : Value) (vs : List Value), us = v :: vs ∧ Well P h v d ∧ WellAll P h vs ds := by
 cases x with
 | cons a b => exact ⟨_, _, rfl, a, b⟩
theorem line_of {n : Nat} (h : n ≤ 1048576) : n ≤ sizeLine := Nat.le_trans h (by decide)
section
variable {P : Params} {h : Heap}
mutual
theorem area_one : ∀ (d : WData) (v : Value), Well P h v d → plW d = true → d.weight ≤ 1048576 → ∃ A : List Addr, OkU A v ∧ ∀ a ∈ A, ArgOb h A a
 | .none, _, x, _, _ => by
  cases x
  exact ⟨[], trivial, fun a m => absurd m (by simp)⟩
 | .bool b, _, x, _, _ => by
  cases x
  exact ⟨[], trivial, fun a m => absurd m (by simp)⟩
 | .int i, _, x, _, _ => by
  cases x
  exact ⟨[], trivial, fun a m => absurd m (by simp)⟩
 | .str s, _, x, _, _ => by
  cases x
  exact ⟨[], trivial, fun a m => absurd m (by simp)⟩
 | .bytes b, _, x, _, _ => by
  cases x
  exact ⟨[], trivial, fun a m => absurd m (by simp)⟩
 | .list ds, _, x, p, z => by
  obtain ⟨a, vs, rfl, ho, hall⟩ := well_list x
  have z2 : WData.weightAll ds ≤ 1048576 := z
  obtain ⟨A, h1, h2⟩ := area_all ds _ hall p fun d hd => Nat.le_trans (weight_mem hd) z2
  have k : ∀ b ∈ A, b ∈ a :: A := fun b hb => List.mem_cons_of_mem _ hb
  refine ⟨a :: A, List.mem_cons_self .., fun b hb => ?_⟩
  rcases List.mem_cons.mp hb with e | m
  ·rw [e]
   exact ⟨vs, line_of (by rw [wellAll_len hall]; exact Nat.le_trans (PySem.W.length_le_weightAllW ds) z2), fun u hu => (h1 u hu).mono k, .inl ho⟩
  ·exact (h2 b m).mono k
 | .tuple ds, _, x, p, z => by
  obtain ⟨a, vs, rfl, ho, hall⟩ := well_tuple x
  have z2 : WData.weightAll ds ≤ 1048576 := z
  obtain ⟨A, h1, h2⟩ := area_all ds _ hall p fun d hd => Nat.le_trans (weight_mem hd) z2
  have k : ∀ b ∈ A, b ∈ a :: A := fun b hb => List.mem_cons_of_mem _ hb
  refine ⟨a :: A, List.mem_cons_self .., fun b hb => ?_⟩
  rcases List.mem_cons.mp hb with e | m
  ·rw [e]
   exact ⟨vs, line_of (by rw [wellAll_len hall]; exact Nat.le_trans (PySem.W.length_le_weightAllW ds) z2), fun u hu => (h1 u hu).mono k, .inr ho⟩
  ·exact (h2 b m).mono k
 | .float _, _, _, p, _ => Bool.noConfusion (show false = true from p)
 | .dict _, _, _, p, _ => Bool.noConfusion (show false = true from p)
 | .bytearray _, _, _, p, _ => Bool.noConfusion (show false = true from p)
 | .set _, _, _, p, _ => Bool.noConfusion (show false = true from p)
 | .frozenset _, _, _, p, _ => Bool.noConfusion (show false = true from p)
 | .obj _ _, _, _, p, _ => Bool.noConfusion (show false = true from p)
theorem area_all : ∀ (ds : List WData) (vs : List Value), WellAll P h vs ds → plWs ds = true → (∀ d ∈ ds, d.weight ≤ 1048576) → ∃ A : List Addr, (∀ u ∈ vs, OkU A u) ∧ ∀ a ∈ A, ArgOb h A a
 | [], _, x, _, _ => by
  cases x
  exact ⟨[], fun u m => absurd m (by simp), fun a m => absurd m (by simp)⟩
 | d :: ds, _, x, p, z => by
  obtain ⟨v, vs, rfl, x1, x2⟩ := well_cons x
  have q : plW d = true ∧ plWs ds = true := Bool.and_eq_true_iff.mp p
  obtain ⟨A, a1, a2⟩ := area_one d v x1 q.1 (z d (List.mem_cons_self ..))
  obtain ⟨B, b1, b2⟩ := area_all ds vs x2 q.2 fun e he => z e (List.mem_cons_of_mem _ he)
  have kA : ∀ b ∈ A, b ∈ A ++ B := fun b hb => List.mem_append.mpr (.inl hb)
  have kB : ∀ b ∈ B, b ∈ A ++ B := fun b hb => List.mem_append.mpr (.inr hb)
  refine ⟨A ++ B, fun u hu => ?_, fun b hb => ?_⟩
  ·rcases List.mem_cons.mp hu with e | m
   ·rw [e]
    exact a1.mono kA
   ·exact (b1 u m).mono kB
  ·rcases List.mem_append.mp hb with m | m
   ·exact (a2 b m).mono kA
   ·exact (b2 b m).mono kB
end
end
noncomputable def hoOf (o : Obj) : Option HO := match o.data with
 | .seq vs _ => if (o.cls == Value.type "list") = true then some (.frz o (.lst (vs.toList.map toV))) else some (.frz o (.tup (vs.toList.map toV)))
 | _ => none
noncomputable def argH (K : Frag) (h : Heap) (A : List Addr) : Hp := fun b => if b ∈ A then (if (K.lookup b).isNone = true then (h.get? b).bind hoOf else none) else none
noncomputable def OnlyF (H : Hp) : Prop := ∀ b, H b = none ∨ ∃ o u, H b = some (.frz o u)
theorem hoOf_lst (vs : List Value) : hoOf { cls := .type "list", data := .seq vs.toArray } = some (.frz { cls := .type "list", data := .seq vs.toArray } (.lst (vs.map toV))) := by
 show (if (Value.type "list" == Value.type "list") = true then some (HO.frz { cls := .type "list", data := .seq vs.toArray } (.lst (vs.toArray.toList.map toV))) else some (HO.frz { cls := .type "list", data := .seq vs.toArray } (.tup (vs.toArray.toList.map toV)))) = _
 rw [if_pos (beq_self_eq_true _)]
theorem hoOf_tup (vs : List Value) : hoOf { cls := .type "tuple", data := .seq vs.toArray } = some (.frz { cls := .type "tuple", data := .seq vs.toArray } (.tup (vs.map toV))) := by
 show (if (Value.type "tuple" == Value.type "list") = true then some (HO.frz { cls := .type "tuple", data := .seq vs.toArray } (.lst (vs.toArray.toList.map toV))) else some (HO.frz { cls := .type "tuple", data := .seq vs.toArray } (.tup (vs.toArray.toList.map toV)))) = _
 rw [if_neg (by decide)]
section
variable {P : Program} {w : World} {K : Frag} {h : Heap} {A : List Addr}
theorem argH_at {b : Addr} {o : Obj} (hb : b ∈ A) (hk : K.lookup b = none) (e : h.get? b = some o) : argH K h A b = hoOf o := by
 unfold argH
 rw [if_pos hb, hk, if_pos (show (none : Option Obj).isNone = true from rfl), e] <;> rfl
theorem of_argH {b : Addr} {u : HO} (q : argH K h A b = some u) : b ∈ A ∧ K.lookup b = none := by
 unfold argH at q
 by_cases hb : b ∈ A
 ·rw [if_pos hb] at q
  cases hk : K.lookup b with
  | none => exact ⟨hb, rfl⟩
  | some o =>
   rw [hk, if_neg (by simp)] at q
   cases q
 ·rw [if_neg hb] at q
  cases q
theorem argH_is (ar : ∀ a ∈ A, ArgOb h A a) {b : Addr} {u : HO} (q : argH K h A b = some u) : K.lookup b = none ∧ ∃ vs : List Value, vs.length ≤ sizeLine ∧ (∀ u ∈ vs, OkU A u) ∧
    ((h.get? b = some { cls := .type "list", data := .seq vs.toArray } ∧ u = .frz { cls := .type "list", data := .seq vs.toArray } (.lst (vs.map toV))) ∨
     (h.get? b = some { cls := .type "tuple", data := .seq vs.toArray } ∧ u = .frz { cls := .type "tuple", data := .seq vs.toArray } (.tup (vs.map toV)))) := by
  obtain ⟨hb, hk⟩ := of_argH q
  obtain ⟨vs, h1, h2, h3⟩ := ar b hb
  refine ⟨hk, vs, h1, h2, ?_⟩
  rcases h3 with e | e
  · rw [argH_at hb hk e, hoOf_lst] at q
    exact .inl ⟨e, (Option.some.inj q).symm⟩
  · rw [argH_at hb hk e, hoOf_tup] at q
    exact .inr ⟨e, (Option.some.inj q).symm⟩
theorem argH_only (ar : ∀ a ∈ A, ArgOb h A a) : OnlyF (argH K h A) := fun b => by
 cases q : argH K h A b with
 | none => exact .inl rfl
 | some u =>
  obtain ⟨_, vs, _, _, ⟨_, e⟩ | ⟨_, e⟩⟩ := argH_is ar q
  ·exact .inr ⟨_, _, by rw [e]⟩
  ·exact .inr ⟨_, _, by rw [e]⟩
theorem argH_ok (ar : ∀ a ∈ A, ArgOb h A a) : HOk P w (argH K h A) h := fun b u q => by
 obtain ⟨_, vs, h1, h2, ⟨e, rfl⟩ | ⟨e, rfl⟩⟩ := argH_is ar q
 ·exact ⟨e, by rw [List.length_map]; exact h1, vs, _, vals_toV h2, e⟩
 ·exact ⟨e, by rw [List.length_map]; exact h1, vs, vals_toV h2, _, e, rfl, _, rfl⟩
theorem seq_inj {c c' : Value} {vs us : List Value} (e : (some { cls := c, data := .seq vs.toArray } : Option Obj) = some { cls := c', data := .seq us.toArray }) : c = c' ∧ vs = us := by
 have e1 := Option.some.inj e
 have e2 : c = c' := congrArg Obj.cls e1
 have e3 : Data.seq vs.toArray = Data.seq us.toArray := congrArg Obj.data e1
 injection e3 with e4
 refine ⟨e2, ?_⟩
 have e5 := congrArg Array.toList e4
 simpa using e5
theorem argL (KX : K.In h) (ar : ∀ a ∈ A, ArgOb h A a) {a : Addr} {vs : List Value} (ha : a ∈ A) (e : h.get? a = some { cls := .type "list", data := .seq vs.toArray }) : (∀ u ∈ vs, OkU A u) ∧ SqL K (argH K h A) a (vs.map toV) := by
 obtain ⟨us, h1, h2, h3⟩ := ar a ha
 have hu : us = vs := by
  rcases h3 with q | q
  ·rw [e] at q
   exact (seq_inj q).2.symm
  ·rw [e] at q
   exact absurd (Value.type.inj (seq_inj q).1) (by decide)
 subst hu
 refine ⟨h2, ?_⟩
 cases hk : K.lookup a with
 | none => exact .inl (.inr ⟨_, by rw [argH_at ha hk e, hoOf_lst]⟩)
 | some o =>
  have e2 := KX a o hk
  rw [e] at e2
  obtain rfl := Option.some.inj e2
  exact .inr ⟨_, us.toArray, _, hk, rfl, rfl, rfl, by rw [List.size_toArray]; exact h1, by simpa using vals_toV h2⟩
theorem argT (KX : K.In h) (ar : ∀ a ∈ A, ArgOb h A a) {a : Addr} {vs : List Value} (ha : a ∈ A) (e : h.get? a = some { cls := .type "tuple", data := .seq vs.toArray }) : (∀ u ∈ vs, OkU A u) ∧ SqT K (argH K h A) a (vs.map toV) := by
 obtain ⟨us, h1, h2, h3⟩ := ar a ha
 have hu : us = vs := by
  rcases h3 with q | q
  ·rw [e] at q
   exact absurd (Value.type.inj (seq_inj q).1) (by decide)
  ·rw [e] at q
   exact (seq_inj q).2.symm
 subst hu
 refine ⟨h2, ?_⟩
 cases hk : K.lookup a with
 | none => exact .inl (.inr ⟨_, by rw [argH_at ha hk e, hoOf_tup]⟩)
 | some o =>
  have e2 := KX a o hk
  rw [e] at e2
  obtain rfl := Option.some.inj e2
  exact .inr ⟨_, us.toArray, _, hk, rfl, rfl, by rw [List.size_toArray]; exact h1, by simpa using vals_toV h2⟩
mutual
theorem dw_one {Pm : Params} (KX : K.In h) (ar : ∀ a ∈ A, ArgOb h A a) : ∀ (d : WData) (v : Value), Well Pm h v d → plW d = true → OkU A v → Dw K (argH K h A) (toV v) d
 | .none, _, x, _, _ => by
  cases x
  exact .non
 | .bool b, _, x, _, _ => by
  cases x
  exact .bl b
 | .int i, _, x, _, _ => by
  cases x
  exact .int i
 | .str s, _, x, _, _ => by
  cases x
  exact .str s
 | .bytes b, _, x, _, _ => by
  cases x
  have z := Dw.byt (K := K) (H := argH K h A) b.toArray
  exact z
 | .list ds, _, x, p, hu => by
  obtain ⟨a, vs, rfl, ho, hall⟩ := well_list x
  obtain ⟨h2, hs⟩ := argL KX ar hu ho
  exact .lst hs (dw_all KX ar ds _ hall p h2)
 | .tuple ds, _, x, p, hu => by
  obtain ⟨a, vs, rfl, ho, hall⟩ := well_tuple x
  obtain ⟨h2, hs⟩ := argT KX ar hu ho
  exact .tup hs (dw_all KX ar ds _ hall p h2)
 | .float _, _, _, p, _ => Bool.noConfusion (show false = true from p)
 | .dict _, _, _, p, _ => Bool.noConfusion (show false = true from p)
 | .bytearray _, _, _, p, _ => Bool.noConfusion (show false = true from p)
 | .set _, _, _, p, _ => Bool.noConfusion (show false = true from p)
 | .frozenset _, _, _, p, _ => Bool.noConfusion (show false = true from p)
 | .obj _ _, _, _, p, _ => Bool.noConfusion (show false = true from p)
theorem dw_all {Pm : Params} (KX : K.In h) (ar : ∀ a ∈ A, ArgOb h A a) : ∀ (ds : List WData) (vs : List Value), WellAll Pm h vs ds → plWs ds = true → (∀ u ∈ vs, OkU A u) → DwAll K (argH K h A) (vs.map toV) ds
 | [], _, x, _, _ => by
  cases x
  exact .nil
 | d :: ds, _, x, p, hu => by
  obtain ⟨v, vs, rfl, x1, x2⟩ := well_cons x
  have q : plW d = true ∧ plWs ds = true := Bool.and_eq_true_iff.mp p
  exact .cons (dw_one KX ar d v x1 q.1 (hu _ (List.mem_cons_self ..))) (dw_all KX ar ds vs x2 q.2 fun u m => hu u (List.mem_cons_of_mem _ m))
end
end
theorem layable_weight {ds : List WData} (h : WData.layableAll ds = true) : ∀ d ∈ ds, d.weight ≤ 1048576 := fun d hd =>
 (PySem.W.layableW_iff.mp (List.all_eq_true.mp h d hd)).2.2
theorem encAll_len : ∀ (cs : List Codec) (a : Codec.denoteAll cs), (Codec.encAll cs a).length = cs.length
 | [], _ => rfl
 | c :: cs, a => by
  show (Codec.encAll cs a.2).length + 1 = cs.length + 1
  rw [encAll_len cs a.2]
end L2
end
section
namespace L2
open PySem PySem.Spec PyProof.Rows
open PySem.W (WData Codec OpenSpec Well WellAll ReadsW ReadsAllW)
mutual
theorem Dw.up {K : Frag} {H H' : Hp} (s : Same H H') (sT : ∀ {a : Addr} {xs : List V}, SqT K H a xs → SqT K H' a xs) : ∀ (d : WData) (v : V), Dw K H v d → Dw K H' v d
 | .none, _, x => by cases x; exact .non
 | .bool b, _, x => by cases x; exact .bl b
 | .int i, _, x => by cases x; exact .int i
 | .str z, _, x => by cases x; exact .str z
 | .bytes b, _, x => by
  cases x
  exact .byt _
 | .list ds, _, x => by
  cases x with
  | lst hs ha => exact .lst (s.seq hs) (Dw.upAll s sT ds _ ha)
 | .tuple ds, _, x => by
  cases x with
  | tup hs ha => exact .tup (sT hs) (Dw.upAll s sT ds _ ha)
 | .float _, _, x => by cases x
 | .dict _, _, x => by cases x
 | .bytearray _, _, x => by cases x
 | .set _, _, x => by cases x
 | .frozenset _, _, x => by cases x
 | .obj _ _, _, x => by cases x
theorem Dw.upAll {K : Frag} {H H' : Hp} (s : Same H H') (sT : ∀ {a : Addr} {xs : List V}, SqT K H a xs → SqT K H' a xs) : ∀ (ds : List WData) (vs : List V), DwAll K H vs ds → DwAll K H' vs ds
 | [], _, x => by cases x; exact .nil
 | d :: ds, _, x => by
  cases x with
  | cons h1 h2 => exact .cons (Dw.up s sT d _ h1) (Dw.upAll s sT ds _ h2)
end
theorem spec_callT {P : Program} {w : World} {K : Frag} {mg mb : Str → Option Value} {CX : CXT} {k : Nat} {fa c Pt : Addr} {fd : FuncData} {ps : List Str} {sp : Sp} {s₁ : Shared} {vals : List Value} {ds : List WData} {R : PySem.W.WRecords} {cl : Str → Option Addr} {d0 : WData}
  (KX : K.In s₁.heap) (hns : s₁.heap.Ns mainGlobals mg) (hb : s₁.heap.Ns builtinsNs mb) (hbb : ∀ x : Str, x ≠ "__name__" → mb x = bootBuiltins x) (hlim : s₁.heap.NoLimit) (hg : s₁.gens = #[])
  (hbm : ∃ bm ob, mg "__builtins__" = some (.ref bm) ∧ bm ≠ builtinsNs ∧ s₁.heap.get? bm = some ob ∧ ob.cls = .type "module" ∧ ob.dict = some builtinsNs ∧ ob.data = .plain)
  (hIC : s₁.heap.IsCode c Pt #[]) (hTA : s₁.heap.TableAt c Pt #[]) (hKP : K.lookup Pt = none)
  (hwl : WellAll w.params s₁.heap vals ds) (hpl : plWs ds = true) (hwt : ∀ d ∈ ds, d.weight ≤ 1048576) (hr : Room k callerA)
  (F : ∀ base : Heap, K.In base → base.Ns mainGlobals mg → CodeHd base c Pt → base.BuiltinsAt mg Pt → FnOk P w K mg base CX k fa fd ps sp) (hbind : ∀ (s : Shared) (us : List Value), us.length = ps.length → BindsTo s fd ⟨us, []⟩ (ps.zip us)) (hlen : ds.length = ps.length)
  (hsp : ∀ (H : Hp) (xs : List V), H Pt = some (.tbl #[]) → DwAll K H xs ds → sp xs H (fun v H' => Dw K H' v d0) fun _ _ _ => False)
  (hCX : ∀ H e s', CX [] H s₁ (fun _ _ _ => False) e s' → False) :
  codeAny (model P w) callerA (.call (.ref fa) ⟨vals, []⟩) (fun r s' => ∃ u as, r = .ok (.ret u) ∧ ReadsW R cl s'.heap u d0 as ∧ OldK s₁.heap s'.heap ∧ s'.os = s₁.os ∧ AllBare s'.gens) s₁ := by
 obtain ⟨A, ho, ar⟩ := area_all ds vals hwl hpl hwt
 have hO : OnlyF (argH K s₁.heap A) := argH_only ar
 have hok0 : HOk P w (argH K s₁.heap A) s₁.heap := argH_ok ar
 have hS0 := dw_all KX ar ds vals hwl hpl ho
 have hV := vals_toV ho
 have hK : ∀ b u, argH K s₁.heap A b = some u → K.lookup b = none := fun b u q => (argH_is ar q).1
 have noS : ∀ {b : Addr} {o : Obj}, s₁.heap.get? b = some o → (∀ vs n, o.data ≠ .seq vs n) → argH K s₁.heap A b = none := fun {b o} e d => by
  cases q : argH K s₁.heap A b with
  | none => rfl
  | some u =>
   obtain ⟨_, vs, _, _, ⟨e2, _⟩ | ⟨e2, _⟩⟩ := argH_is ar q
   ·rw [e2] at e
    cases e
    exact absurd rfl (d _ _)
   ·rw [e2] at e
    cases e
    exact absurd rfl (d _ _)
 generalize argH K s₁.heap A = H0 at hO hok0 hS0 hK noS
 have hP0 : H0 Pt = none := noS hTA.2 (by intro vs n z; cases z)
 have sH : Same H0 (upd H0 Pt (.tbl #[])) := fun b o e => by rw [upd_ne (ne_of_none e hP0)]; exact e
 have hok : HOk P w (upd H0 Pt (.tbl #[])) s₁.heap := fun b u e => by
  by_cases z : b = Pt
  ·rw [z, upd_same] at e
   cases e
   rw [z]
   exact hTA.2
  ·rw [upd_ne z] at e
   exact (hok0 b u e).stay (fun _ _ _ q => q) (fun d q => sH _ _ q) fun d xs q => sH _ _ q
 have hS : DwAll K (upd H0 Pt (.tbl #[])) (vals.map toV) ds := Dw.upAll sH (fun {a xs} q => by
  rcases q with (q | ⟨o, q⟩) | q
  ·exact .inl (.inl (sH _ _ q))
  ·exact .inl (.inr ⟨o, sH _ _ q⟩)
  ·exact .inr q) _ _ hS0
 have hPH : (upd H0 Pt (.tbl #[])) Pt = some (.tbl #[]) := upd_same
 have noT : ∀ {b : Addr} {o : Obj}, s₁.heap.get? b = some o → (∀ vs n, o.data ≠ .seq vs n) → b ≠ Pt → (upd H0 Pt (.tbl #[])) b = none := fun {b o} e d ne => by rw [upd_ne ne]; exact noS e d
 have frz : ∀ b u, b ≠ Pt → (upd H0 Pt (.tbl #[])) b = some u → ∃ o u', (upd H0 Pt (.tbl #[])) b = some (.frz o u') := fun b u ne e => by
  rw [upd_ne ne] at e ⊢
  rcases hO b with z | z
  ·rw [z] at e; cases e
  ·exact z
 have nK : ∀ b o, K.lookup b = some o → (upd H0 Pt (.tbl #[])) b = none := fun b o e => by
  have ne : b ≠ Pt := fun z => by rw [z, hKP] at e; cases e
  rw [upd_ne ne]
  cases q : H0 b with
  | none => rfl
  | some u => rw [hK b u q] at e; cases e
 generalize upd H0 Pt (.tbl #[]) = H at hok hS hPH noT frz nK
 have base_of : ∀ {b : Addr} {o : Obj}, s₁.heap.get? b = some o → H b = none → (hidT s₁.heap H).get? b = some o := fun e n => hidT_get e n
 have dne : ∀ {b : Addr} {o : Obj} {es : Array DictEntry} {ep : Nat}, s₁.heap.get? b = some o → o.data = .dict es ep → H b = none := fun {b o es ep} e d => noT e (fun vs n z => by rw [d] at z; cases z) fun z => by
  rw [z, hTA.2] at e
  cases e
  cases d
 have nsK : ∀ {b : Addr} {m : Str → Option Value}, s₁.heap.Ns b m → (hidT s₁.heap H).Ns b m := fun {b m} ⟨o, es, ep, e, d, r⟩ => ⟨o, es, ep, base_of e (dne e d), d, r⟩
 have hKb : K.In (hidT s₁.heap H) := fun b o e => base_of (KX b o e) (nK b o e)
 have hM : Mod K mg (hidT s₁.heap H) := ⟨hKb, nsK hns, ⟨mb, nsK hb, hbb⟩, let ⟨mc, h1, h2⟩ := hlim; ⟨mc, nsK h1, h2⟩⟩
 have e0 : Env0 P w K mg (hidT s₁.heap H) callerA [] s₁ H := ⟨rfl, hM, fun b o e => of_hidT e, Nat.le_of_eq (hidT_size _ _), trivial, fun b hb => absurd (show b ∈ ([] : List Addr) from hb) (by simp), hok, .of_eq hg⟩
 have hC : CodeHd (hidT s₁.heap H) c Pt := by
  obtain ⟨o, vs, file, tf, flags, tg, inF, text, tt, e1, e2, e3, e4⟩ := PySem.W.CodeHd.of hIC hTA
  have ne : c ≠ Pt := e4.2.2.2.2.2.2
  exact ⟨o, vs, file, tf, flags, tg, inF, text, tt, base_of e1 (noT e1 (fun ws n z => by rw [e3] at z; cases z) ne), e2, e3, e4⟩
 have hcP : c ≠ Pt := by
  obtain ⟨o, vs, file, tf, flags, tg, inF, text, tt, e1, e2, e3, e4⟩ := hC
  exact e4.2.2.2.2.2.2
 have hBA : (hidT s₁.heap H).BuiltinsAt mg Pt := by
  obtain ⟨bm, ob, b1, b2, b3, b4, b5, b6⟩ := hbm
  have nP : bm ≠ Pt := fun q => by
   rw [q, hTA.2] at b3; cases b3; cases b4
  have nG : bm ≠ mainGlobals := fun q => by
   obtain ⟨o, es, ep, e, hd, _⟩ := hns
   rw [q, e] at b3; cases b3; rw [hd] at b6; cases b6
  exact ⟨bm, ob, b1, b2, nG, nP, base_of b3 (noT b3 (fun ws n z => by rw [b6] at z; cases z) nP), b4, b5, b6⟩
 have hl : vals.length = ps.length := by rw [wellAll_len hwl]; exact hlen
 refine codeAny_mono ((F _ hKb (nsK hns) hC hBA).run callerA [] s₁ H ⟨vals, []⟩ vals (vals.map toV) _ _ hr e0 (hbind s₁ vals hl) hV (hsp H _ hPH hS)) fun r s' x => ?_
 cases r with
 | error e => exact (hCX H e s' x).elim
 | ok fl =>
  cases fl with
  | next => exact False.elim x
  | brk => exact False.elim x
  | cont => exact False.elim x
  | ret u =>
   obtain ⟨v, H', os, bare, un, hok', r', q⟩ := x
   have kept : ∀ b o, b ≠ Pt → s₁.heap.get? b = some o → s'.heap.get? b = some o := fun b o ne e => by
    cases q2 : H b with
    | none => exact un.keep b o e q2 (by intro z; exact absurd (show b ∈ ([] : List Addr) from z) (by simp)) (by simp)
    | some u2 =>
     obtain ⟨ob, u3, z⟩ := frz b u2 ne q2
     have z2 := un.frzs b ob _ z
     obtain ⟨e1, _⟩ := hok b _ z
     obtain ⟨e2, _⟩ := hok' b _ z2
     rw [e] at e1
     cases e1
     exact e2
   have KX' : K.In s'.heap := fun b o e => kept b o (fun z => by rw [z, hKP] at e; cases e) (KX b o e)
   obtain ⟨as, hrd⟩ := Dw.reads (R := R) (cl := cl) hok' KX' d0 v u q r'
   obtain ⟨more, hmore⟩ := un.tbls Pt _ hPH
   have hT' : s'.heap.TableAt c Pt (#[] ++ more) := by
    obtain ⟨⟨o, vs, a1, a2, a3, a4⟩, _⟩ := hTA
    exact ⟨⟨o, vs, kept c o hcP a1, a2, a3, a4⟩, hok' Pt _ hmore⟩
   have hPs : Pt ≠ cStatics := fun z => by
    obtain ⟨mc, ⟨o, es, ep, e, d, _⟩, _⟩ := hlim
    rw [← z, hTA.2] at e; cases e; cases d
   exact ⟨u, as, rfl, hrd, (OldK.refl s₁.heap).step_table hTA hTA hT' (fun b o ne e => kept b o ne e) hPs, os, bare⟩
theorem walk_specT {r : OpenSpec} {k : Nat} {q : Program} {loose : List Str} {XP : (Str → Option Value) → Heap → Prop} {YP : World → Heap → Prop} {d : DefRec} {K : Params → Frag} {CX : World → CXT} {ps : List Str} {sp : Frag → Addr → Sp}
  (hwell : r.wellSaid = true) (hdf : d.params.defaults = []) (hlen : r.args.length = ps.length) (hr : Room k callerA) (hmem : d ∈ recsOf q)
  (hY : ∀ (w : World) (h : Heap), YP w h → (K w.params).In h)
  (F : ∀ (w : World) (mg : Str → Option Value) (fa : Addr) (h : Heap), YP w h → (K w.params).In h → h.Ns mainGlobals mg → mg d.name = some (.ref fa) →
   ∃ (fd : FuncData) (c Pt : Addr) (o oc : Obj) (vs : Array Value), (∀ (s : Shared) (us : List Value), us.length = ps.length → BindsTo s fd ⟨us, []⟩ (ps.zip us)) ∧ (K w.params).lookup fa = some o ∧ o.data = .func fd ∧ fd.code = .ref c ∧ (K w.params).lookup c = some oc ∧ oc.data = .fields vs ∧ vs[11]? = some (.ref Pt) ∧ (K w.params).lookup Pt = none ∧
    ∀ base : Heap, (K w.params).In base → base.Ns mainGlobals mg → CodeHd base c Pt → base.BuiltinsAt mg Pt → FnOk r.prog w (K w.params) mg base (CX w) k fa fd ps (sp (K w.params) Pt))
  (hsp : ∀ (K : Frag) (Pt : Addr) (H : Hp) (xs : List V) (a : Codec.denoteAll r.args), H Pt = some (.tbl #[]) → Codec.withinAll r.args a = true → Codec.app r.args r.asked a = true → DwAll K H xs (Codec.encAll r.args a) →
   sp K Pt xs H (fun v H' => Dw K H' v (r.ret.enc (Codec.app r.args r.f a))) fun _ _ _ => False)
  (hCX : ∀ (w : World) (H : Hp) (s : Shared) (e : Value) (s' : Shared), CX w [] H s (fun _ _ _ => False) e s' → False) :
  PySem.W.WalkOS q loose XP YP r d [] (fun f vs => PySem.call f vs) := by
 intro w s_0 s₁ mg mb G Y fa o pm cd doc dV kV ho hd hcd hD hmg hg args vals as hpre hlay hrd hwl hlo
 obtain ⟨a, e1, e2⟩ := PySem.W.os_pre_some hpre
 obtain ⟨e3, hwi⟩ := Codec.encAll_of_decAll r.args args a e1
 subst e3
 have KX := hY w _ Y
 obtain ⟨fd, c, Pt, o', oc, vs, hb, k1, k2, k3, k4, k5, k6, k7, hF⟩ := F w mg fa _ Y KX G.T.g hmg
 obtain ⟨a9, o9, fd9, c9, P9, t1, t2, t3, t4, t5, t6⟩ := G.T.tab d hmem
 rw [hmg] at t1
 cases t1
 have j1 := KX _ _ k1
 rw [t2] at j1
 cases j1
 rw [k2] at t3
 cases t3
 rw [k3] at t4
 cases t4
 have j2 := KX _ _ k4
 obtain ⟨⟨o8, vs8, f1, f2, f3, f4⟩, f5⟩ := id t6
 rw [j2] at f1
 cases f1
 rw [k5] at f3
 cases f3
 rw [k6] at f4
 cases f4
 refine PySem.W.enter_call (codeAny_mono (spec_callT (R := []) (cl := classAt s_0.heap) (d0 := r.ret.enc (Codec.app r.args r.f a)) KX G.T.g G.T.b G.T.builtins G.T.nolimit hg G.T.bmain t5 t6 k7 hwl (pl_encAll _ _) (layable_weight hlay) hr hF hb (by rw [encAll_len]; exact hlen)
  (fun H xs hO hS => hsp _ Pt H xs a hO hwi e2 hS) fun H e s' => hCX w H s₁ e s') fun r' s' hq => ?_)
 obtain ⟨u, as', rfl, h1, h2, h3, h4⟩ := hq
 exact ⟨.inl ⟨u, _, as', rfl, fun _ => rfl, h1, (OpenSpec.post_iff hwell hwi _ _).mpr rfl, fun z => Bool.noConfusion (show false = true from z)⟩, h2, h3, h4⟩
end L2
end
section
namespace Sv
open PySem PySem.Spec L2
section
variable {K : Frag} {mg : Str → Option Value} {h : Heap}
theorem gc_int {x : Str} {v : Int} {t : Nat} (X : K.In h) (G : h.Ns mainGlobals mg) (e : nsIn K mainGlobals x = some (some (.int v t))) : GC mg x (.int v) := ⟨_, mg_of X G e, ⟨t, rfl⟩⟩
theorem gc_str {x v : Str} {t : Nat} (X : K.In h) (G : h.Ns mainGlobals mg) (e : nsIn K mainGlobals x = some (some (.str v t))) : GC mg x (.str v) := ⟨_, mg_of X G e, ⟨t, rfl⟩⟩
theorem na_nil {C : Addr} : ∀ f ∈ ([] : List Str), NoAttr K C f := fun f hf => by cases hf
theorem na_cons {C : Addr} {f : Str} {fs : List Str} (a : findIn K (.ref C) f = some none) (r : ∀ g ∈ fs, NoAttr K C g) : ∀ g ∈ f :: fs, NoAttr K C g := fun g hg => by
 rcases List.mem_cons.mp hg with e | hg
 ·rw [e]; exact a
 ·exact r g hg
end
end Sv
end
section
namespace Sv
open PySem PySem.Spec L2
theorem all_top {P : Program} {w : World} {K : Frag} {h : Heap} {mg : Str → Option Value} {fa c Pt aNotSo aNotThere aWrongSort aTooMany aHeldHere aHeldInClusters aRun aLayout aEntry aFolder aStep aAttribute aRecord aVolume f0 f1 f2 f3 f4 f5 f6 f7 f8 f9 f10 f11 f12 f13 f14 f15 f16 f17 f18 f19 f20 f21 f22 f23 f24 f25 f26 f27 f28 f29 f30 f31 f32 f33 f34 f35 f36 f37 f38 f39 f40 f41 f42 f43 f44 f45 f46 f47 f48 f49 fA fL : Addr} {oc : Obj} {vs : Array Value} {g0 g1 g2 g3 g4 g5 g6 g7 g8 g9 g10 g11 g12 g13 g14 g15 g16 g17 g18 g19 g20 g21 g22 g23 g24 g25 g26 g27 g28 g29 g30 g31 g32 g33 g34 g35 g36 g37 g38 g39 g40 g41 g42 g43 g44 g45 g46 g47 g48 g49 gA gL : FuncData} {tRUN_BOUND tSECTOR tLONGEST_RECORD tLONGEST_BLOCK tBLOCK_BELOW tLAST tNAME_PLACE tFIRST_NODE tBLOCKS tFOLDER_NAME tMOST_LEVELS tMOST_ENTRIES tLIST_OF_ATTRIBUTES tEND_OF_ATTRIBUTES tSPARSE tDATA tTOP_FOLDER tKIND_NOT_LOOKED_FOR tMOST_BYTES tMOST_PATH : Nat} (X : K.In h) (G : h.Ns mainGlobals mg) (hfa : mg "list_of" = some (.ref fa))
  (xNotSo : nsIn K mainGlobals "NotSo" = some (some (.ref aNotSo))) (yNotSo : PySem.W.excIn K aNotSo exMro "Exception.__new__" = true) (mNotSo : mroIs K aNotSo = true) (xNotThere : nsIn K mainGlobals "NotThere" = some (some (.ref aNotThere))) (yNotThere : PySem.W.excIn K aNotThere exMro "Exception.__new__" = true) (mNotThere : mroIs K aNotThere = true)
  (xWrongSort : nsIn K mainGlobals "WrongSort" = some (some (.ref aWrongSort))) (yWrongSort : PySem.W.excIn K aWrongSort exMro "Exception.__new__" = true) (mWrongSort : mroIs K aWrongSort = true) (xTooMany : nsIn K mainGlobals "TooMany" = some (some (.ref aTooMany))) (yTooMany : PySem.W.excIn K aTooMany exMro "Exception.__new__" = true) (mTooMany : mroIs K aTooMany = true)
  (e1 : aNotSo ≠ aNotThere) (e2 : aNotSo ≠ aWrongSort) (e3 : aNotSo ≠ aTooMany) (e4 : aNotThere ≠ aWrongSort) (e5 : aNotThere ≠ aTooMany) (e6 : aWrongSort ≠ aTooMany) (zHeldHere : nsIn K mainGlobals "HeldHere" = some (some (.ref aHeldHere))) (zHeldInClusters : nsIn K mainGlobals "HeldInClusters" = some (some (.ref aHeldInClusters)))
  (zRun : nsIn K mainGlobals "Run" = some (some (.ref aRun))) (zLayout : nsIn K mainGlobals "Layout" = some (some (.ref aLayout))) (zEntry : nsIn K mainGlobals "Entry" = some (some (.ref aEntry))) (zFolder : nsIn K mainGlobals "Folder" = some (some (.ref aFolder))) (zStep : nsIn K mainGlobals "Step" = some (some (.ref aStep)))
  (zAttribute : nsIn K mainGlobals "Attribute" = some (some (.ref aAttribute))) (zRecord : nsIn K mainGlobals "Record" = some (some (.ref aRecord))) (zVolume : nsIn K mainGlobals "Volume" = some (some (.ref aVolume))) (nlen : nsIn K mainGlobals "len" = some none) (nmin : nsIn K mainGlobals "min" = some none)
  (nmax : nsIn K mainGlobals "max" = some none) (nsum : nsIn K mainGlobals "sum" = some none) (nall : nsIn K mainGlobals "all" = some none) (nord : nsIn K mainGlobals "ord" = some none) (nstr : nsIn K mainGlobals "str" = some none) (nlist : nsIn K mainGlobals "list" = some none) (ntuple : nsIn K mainGlobals "tuple" = some none)
  (nrange : nsIn K mainGlobals "range" = some none) (nreversed : nsIn K mainGlobals "reversed" = some none) (vRUN_BOUND : nsIn K mainGlobals "RUN_BOUND" = some (some (.int 4294967296 tRUN_BOUND))) (vSECTOR : nsIn K mainGlobals "SECTOR" = some (some (.int 512 tSECTOR)))
  (vLONGEST_RECORD : nsIn K mainGlobals "LONGEST_RECORD" = some (some (.int 4096 tLONGEST_RECORD))) (vLONGEST_BLOCK : nsIn K mainGlobals "LONGEST_BLOCK" = some (some (.int 65536 tLONGEST_BLOCK))) (vBLOCK_BELOW : nsIn K mainGlobals "BLOCK_BELOW" = some (some (.int 1 tBLOCK_BELOW))) (vLAST : nsIn K mainGlobals "LAST" = some (some (.int 2 tLAST)))
  (vNAME_PLACE : nsIn K mainGlobals "NAME_PLACE" = some (some (.int 82 tNAME_PLACE))) (vFIRST_NODE : nsIn K mainGlobals "FIRST_NODE" = some (some (.int 0x90 tFIRST_NODE))) (vBLOCKS : nsIn K mainGlobals "BLOCKS" = some (some (.int 0xA0 tBLOCKS))) (vFOLDER_NAME : nsIn K mainGlobals "FOLDER_NAME" = some (some (.str "$I30" tFOLDER_NAME)))
  (vMOST_LEVELS : nsIn K mainGlobals "MOST_LEVELS" = some (some (.int 16 tMOST_LEVELS))) (vMOST_ENTRIES : nsIn K mainGlobals "MOST_ENTRIES" = some (some (.int 4096 tMOST_ENTRIES))) (vLIST_OF_ATTRIBUTES : nsIn K mainGlobals "LIST_OF_ATTRIBUTES" = some (some (.int 0x20 tLIST_OF_ATTRIBUTES)))
  (vEND_OF_ATTRIBUTES : nsIn K mainGlobals "END_OF_ATTRIBUTES" = some (some (.int 0xFFFFFFFF tEND_OF_ATTRIBUTES))) (vSPARSE : nsIn K mainGlobals "SPARSE" = some (some (.int 0x8000 tSPARSE))) (vDATA : nsIn K mainGlobals "DATA" = some (some (.int 0x80 tDATA))) (vTOP_FOLDER : nsIn K mainGlobals "TOP_FOLDER" = some (some (.int 5 tTOP_FOLDER)))
  (vKIND_NOT_LOOKED_FOR : nsIn K mainGlobals "KIND_NOT_LOOKED_FOR" = some (some (.int 2 tKIND_NOT_LOOKED_FOR))) (vMOST_BYTES : nsIn K mainGlobals "MOST_BYTES" = some (some (.int 33554432 tMOST_BYTES))) (vMOST_PATH : nsIn K mainGlobals "MOST_PATH" = some (some (.int 4096 tMOST_PATH))) (pHeldHere : plainGet K aHeldHere Str.empty = true)
  (qHeldHere : hasDictIn K aHeldHere = true) (rHeldHere : plainOver K aHeldHere = true) (sHeldHere : findIn K (.ref aHeldHere) "__setattr__" = some (some (.builtin "object.__setattr__"))) (oHeldHere0 : findIn K (.ref aHeldHere) "content" = some none) (oHeldHere1 : findIn K (.ref aHeldHere) "size" = some none)
  (pHeldInClusters : plainGet K aHeldInClusters Str.empty = true) (qHeldInClusters : hasDictIn K aHeldInClusters = true) (rHeldInClusters : plainOver K aHeldInClusters = true) (sHeldInClusters : findIn K (.ref aHeldInClusters) "__setattr__" = some (some (.builtin "object.__setattr__")))
  (oHeldInClusters0 : findIn K (.ref aHeldInClusters) "layout" = some none) (oHeldInClusters1 : findIn K (.ref aHeldInClusters) "size" = some none) (oHeldInClusters2 : findIn K (.ref aHeldInClusters) "begun" = some none) (oHeldInClusters3 : findIn K (.ref aHeldInClusters) "runs" = some none) (pRun : plainGet K aRun Str.empty = true)
  (qRun : hasDictIn K aRun = true) (rRun : plainOver K aRun = true) (sRun : findIn K (.ref aRun) "__setattr__" = some (some (.builtin "object.__setattr__"))) (oRun0 : findIn K (.ref aRun) "begin" = some none) (oRun1 : findIn K (.ref aRun) "clusters" = some none) (pLayout : plainGet K aLayout Str.empty = true)
  (qLayout : hasDictIn K aLayout = true) (rLayout : plainOver K aLayout = true) (sLayout : findIn K (.ref aLayout) "__setattr__" = some (some (.builtin "object.__setattr__"))) (oLayout0 : findIn K (.ref aLayout) "image" = some none) (oLayout1 : findIn K (.ref aLayout) "cluster" = some none) (oLayout2 : findIn K (.ref aLayout) "end" = some none)
  (oLayout3 : findIn K (.ref aLayout) "records_place" = some none) (oLayout4 : findIn K (.ref aLayout) "record_length" = some none) (oLayout5 : findIn K (.ref aLayout) "block_length" = some none) (pEntry : plainGet K aEntry Str.empty = true) (qEntry : hasDictIn K aEntry = true) (rEntry : plainOver K aEntry = true)
  (sEntry : findIn K (.ref aEntry) "__setattr__" = some (some (.builtin "object.__setattr__"))) (oEntry0 : findIn K (.ref aEntry) "length" = some none) (oEntry1 : findIn K (.ref aEntry) "number" = some none) (oEntry2 : findIn K (.ref aEntry) "uses" = some none) (oEntry3 : findIn K (.ref aEntry) "is_last" = some none)
  (oEntry4 : findIn K (.ref aEntry) "below" = some none) (oEntry5 : findIn K (.ref aEntry) "kind" = some none) (oEntry6 : findIn K (.ref aEntry) "name" = some none) (pFolder : plainGet K aFolder Str.empty = true) (qFolder : hasDictIn K aFolder = true) (rFolder : plainOver K aFolder = true)
  (sFolder : findIn K (.ref aFolder) "__setattr__" = some (some (.builtin "object.__setattr__"))) (oFolder0 : findIn K (.ref aFolder) "layout" = some none) (oFolder1 : findIn K (.ref aFolder) "first_entries" = some none) (oFolder2 : findIn K (.ref aFolder) "blocks" = some none) (oFolder3 : findIn K (.ref aFolder) "known_blocks" = some none)
  (pStep : plainGet K aStep Str.empty = true) (qStep : hasDictIn K aStep = true) (rStep : plainOver K aStep = true) (sStep : findIn K (.ref aStep) "__setattr__" = some (some (.builtin "object.__setattr__"))) (oStep0 : findIn K (.ref aStep) "level" = some none) (oStep1 : findIn K (.ref aStep) "block_number" = some none)
  (oStep2 : findIn K (.ref aStep) "entry" = some none) (pAttribute : plainGet K aAttribute Str.empty = true) (qAttribute : hasDictIn K aAttribute = true) (rAttribute : plainOver K aAttribute = true) (sAttribute : findIn K (.ref aAttribute) "__setattr__" = some (some (.builtin "object.__setattr__")))
  (oAttribute0 : findIn K (.ref aAttribute) "data" = some none) (oAttribute1 : findIn K (.ref aAttribute) "kind" = some none) (oAttribute2 : findIn K (.ref aAttribute) "in_clusters" = some none) (oAttribute3 : findIn K (.ref aAttribute) "name" = some none) (pRecord : plainGet K aRecord Str.empty = true) (qRecord : hasDictIn K aRecord = true)
  (rRecord : plainOver K aRecord = true) (sRecord : findIn K (.ref aRecord) "__setattr__" = some (some (.builtin "object.__setattr__"))) (oRecord0 : findIn K (.ref aRecord) "uses" = some none) (oRecord1 : findIn K (.ref aRecord) "is_folder" = some none) (oRecord2 : findIn K (.ref aRecord) "attributes" = some none)
  (pVolume : plainGet K aVolume Str.empty = true) (qVolume : hasDictIn K aVolume = true) (rVolume : plainOver K aVolume = true) (sVolume : findIn K (.ref aVolume) "__setattr__" = some (some (.builtin "object.__setattr__"))) (oVolume0 : findIn K (.ref aVolume) "layout" = some none) (oVolume1 : findIn K (.ref aVolume) "stream" = some none)
  (oVolume2 : findIn K (.ref aVolume) "top" = some none) (w0 : nsIn K mainGlobals "must" = some (some (.ref f0))) (h0 : Fun K "must" "must" s_must f0 g0) (w1 : nsIn K mainGlobals "codes" = some (some (.ref f1))) (h1 : Fun K "codes" "codes" s_codes f1 g1) (w2 : nsIn K mainGlobals "part" = some (some (.ref f2))) (h2 : Fun K "part" "part" s_part f2 g2)
  (w3 : nsIn K mainGlobals "number_at" = some (some (.ref f3))) (h3 : Fun K "number_at" "number_at" s_number_at f3 g3) (w4 : nsIn K mainGlobals "signed_number_at" = some (some (.ref f4))) (h4 : Fun K "signed_number_at" "signed_number_at" s_signed_number_at f4 g4) (w5 : nsIn K mainGlobals "letters_at" = some (some (.ref f5)))
  (h5 : Fun K "letters_at" "letters_at" s_letters_at f5 g5) (w6 : findIn K (.ref aHeldHere) "__init__" = some (some (.ref f6))) (h6 : Fun K "__init__" "HeldHere.__init__" s_HeldHere_init f6 g6) (g_6 : makesIn K aHeldHere = true) (j6 : keepIn K (.ref aHeldHere) = true) (i6 : isFn K (.ref f6) = true)
  (w7 : findIn K (.ref aHeldHere) "taken" = some (some (.ref f7))) (h7 : Fun K "taken" "HeldHere.taken" s_HeldHere_taken f7 g7) (i7 : isFn K (.ref f7) = true) (w8 : nsIn K mainGlobals "clusters_told" = some (some (.ref f8))) (h8 : Fun K "clusters_told" "clusters_told" s_clusters_told f8 g8) (w9 : findIn K (.ref aRun) "__init__" = some (some (.ref f9)))
  (h9 : Fun K "__init__" "Run.__init__" s_Run_init f9 g9) (g_9 : makesIn K aRun = true) (j9 : keepIn K (.ref aRun) = true) (i9 : isFn K (.ref f9) = true) (w10 : findIn K (.ref aLayout) "volume_part" = some (some (.ref f10))) (h10 : Fun K "volume_part" "Layout.volume_part" s_Layout_volume_part f10 g10) (i10 : isFn K (.ref f10) = true)
  (w11 : nsIn K mainGlobals "power_of_two" = some (some (.ref f11))) (h11 : Fun K "power_of_two" "power_of_two" s_power_of_two f11 g11) (w12 : nsIn K mainGlobals "length_told" = some (some (.ref f12))) (h12 : Fun K "length_told" "length_told" s_length_told f12 g12) (w13 : findIn K (.ref aLayout) "__init__" = some (some (.ref f13)))
  (h13 : Fun K "__init__" "Layout.__init__" s_Layout_init f13 g13) (g_13 : makesIn K aLayout = true) (j13 : keepIn K (.ref aLayout) = true) (i13 : isFn K (.ref f13) = true) (w14 : nsIn K mainGlobals "without_marks" = some (some (.ref f14))) (h14 : Fun K "without_marks" "without_marks" s_without_marks f14 g14)
  (w15 : findIn K (.ref aAttribute) "__init__" = some (some (.ref f15))) (h15 : Fun K "__init__" "Attribute.__init__" s_Attribute_init f15 g15) (g_15 : makesIn K aAttribute = true) (j15 : keepIn K (.ref aAttribute) = true) (i15 : isFn K (.ref f15) = true) (w16 : nsIn K mainGlobals "attributes_in" = some (some (.ref f16)))
  (h16 : Fun K "attributes_in" "attributes_in" s_attributes_in f16 g16) (w17 : nsIn K mainGlobals "runs_in" = some (some (.ref f17))) (h17 : Fun K "runs_in" "runs_in" s_runs_in f17 g17) (w18 : findIn K (.ref aHeldInClusters) "__init__" = some (some (.ref f18))) (h18 : Fun K "__init__" "HeldInClusters.__init__" s_HeldInClusters_init f18 g18)
  (g_18 : makesIn K aHeldInClusters = true) (j18 : keepIn K (.ref aHeldInClusters) = true) (i18 : isFn K (.ref f18) = true) (w19 : nsIn K mainGlobals "run_part" = some (some (.ref f19))) (h19 : Fun K "run_part" "run_part" s_run_part f19 g19) (w20 : findIn K (.ref aHeldInClusters) "stored_part" = some (some (.ref f20)))
  (h20 : Fun K "stored_part" "HeldInClusters.stored_part" s_HeldInClusters_stored_part f20 g20) (i20 : isFn K (.ref f20) = true) (w21 : findIn K (.ref aHeldInClusters) "taken" = some (some (.ref f21))) (h21 : Fun K "taken" "HeldInClusters.taken" s_HeldInClusters_taken f21 g21) (i21 : isFn K (.ref f21) = true)
  (w22 : nsIn K mainGlobals "held" = some (some (.ref f22))) (h22 : Fun K "held" "held" s_held f22 g22) (w23 : findIn K (.ref aRecord) "__init__" = some (some (.ref f23))) (h23 : Fun K "__init__" "Record.__init__" s_Record_init f23 g23) (g_23 : makesIn K aRecord = true) (j23 : keepIn K (.ref aRecord) = true) (i23 : isFn K (.ref f23) = true)
  (w24 : findIn K (.ref aRecord) "attribute" = some (some (.ref f24))) (h24 : Fun K "attribute" "Record.attribute" s_Record_attribute f24 g24) (i24 : isFn K (.ref f24) = true) (w25 : nsIn K mainGlobals "records_held" = some (some (.ref f25))) (h25 : Fun K "records_held" "records_held" s_records_held f25 g25)
  (w26 : nsIn K mainGlobals "file_held" = some (some (.ref f26))) (h26 : Fun K "file_held" "file_held" s_file_held f26 g26) (w27 : findIn K (.ref aVolume) "record" = some (some (.ref f27))) (h27 : Fun K "record" "Volume.record" s_Volume_record f27 g27) (i27 : isFn K (.ref f27) = true) (w28 : findIn K (.ref aVolume) "__init__" = some (some (.ref f28)))
  (h28 : Fun K "__init__" "Volume.__init__" s_Volume_init f28 g28) (g_28 : makesIn K aVolume = true) (j28 : keepIn K (.ref aVolume) = true) (i28 : isFn K (.ref f28) = true) (w29 : nsIn K mainGlobals "block_number_in" = some (some (.ref f29))) (h29 : Fun K "block_number_in" "block_number_in" s_block_number_in f29 g29)
  (w30 : nsIn K mainGlobals "kind_in" = some (some (.ref f30))) (h30 : Fun K "kind_in" "kind_in" s_kind_in f30 g30) (w31 : nsIn K mainGlobals "name_in" = some (some (.ref f31))) (h31 : Fun K "name_in" "name_in" s_name_in f31 g31) (w32 : findIn K (.ref aEntry) "__init__" = some (some (.ref f32))) (h32 : Fun K "__init__" "Entry.__init__" s_Entry_init f32 g32)
  (g_32 : makesIn K aEntry = true) (j32 : keepIn K (.ref aEntry) = true) (i32 : isFn K (.ref f32) = true) (w33 : nsIn K mainGlobals "node_entries" = some (some (.ref f33))) (h33 : Fun K "node_entries" "node_entries" s_node_entries f33 g33) (w34 : nsIn K mainGlobals "first_node_entries" = some (some (.ref f34)))
  (h34 : Fun K "first_node_entries" "first_node_entries" s_first_node_entries f34 g34) (w35 : findIn K (.ref aFolder) "__init__" = some (some (.ref f35))) (h35 : Fun K "__init__" "Folder.__init__" s_Folder_init f35 g35) (g_35 : makesIn K aFolder = true) (j35 : keepIn K (.ref aFolder) = true) (i35 : isFn K (.ref f35) = true)
  (w36 : findIn K (.ref aFolder) "block" = some (some (.ref f36))) (h36 : Fun K "block" "Folder.block" s_Folder_block f36 g36) (i36 : isFn K (.ref f36) = true) (w37 : findIn K (.ref aFolder) "block_entries" = some (some (.ref f37))) (h37 : Fun K "block_entries" "Folder.block_entries" s_Folder_block_entries f37 g37) (i37 : isFn K (.ref f37) = true)
  (w38 : findIn K (.ref aStep) "__init__" = some (some (.ref f38))) (h38 : Fun K "__init__" "Step.__init__" s_Step_init f38 g38) (g_38 : makesIn K aStep = true) (j38 : keepIn K (.ref aStep) = true) (i38 : isFn K (.ref f38) = true) (w39 : nsIn K mainGlobals "steps_back" = some (some (.ref f39))) (h39 : Fun K "steps_back" "steps_back" s_steps_back f39 g39)
  (w40 : nsIn K mainGlobals "great_letters" = some (some (.ref f40))) (h40 : Fun K "great_letters" "great_letters" s_great_letters f40 g40) (w41 : nsIn K mainGlobals "entries_in_order" = some (some (.ref f41))) (h41 : Fun K "entries_in_order" "entries_in_order" s_entries_in_order f41 g41) (w42 : nsIn K mainGlobals "in_bounds" = some (some (.ref f42)))
  (h42 : Fun K "in_bounds" "in_bounds" s_in_bounds f42 g42) (w43 : nsIn K mainGlobals "names_in" = some (some (.ref f43))) (h43 : Fun K "names_in" "names_in" s_names_in f43 g43) (w44 : nsIn K mainGlobals "entries_by_name" = some (some (.ref f44))) (h44 : Fun K "entries_by_name" "entries_by_name" s_entries_by_name f44 g44)
  (w45 : findIn K (.ref aVolume) "record_of" = some (some (.ref f45))) (h45 : Fun K "record_of" "Volume.record_of" s_Volume_record_of f45 g45) (i45 : isFn K (.ref f45) = true) (w46 : nsIn K mainGlobals "record_at" = some (some (.ref f46))) (h46 : Fun K "record_at" "record_at" s_record_at f46 g46) (w47 : nsIn K mainGlobals "file_size" = some (some (.ref f47)))
  (h47 : Fun K "file_size" "file_size" s_file_size f47 g47) (w48 : nsIn K mainGlobals "line_of" = some (some (.ref f48))) (h48 : Fun K "line_of" "line_of" s_line_of f48 g48) (w49 : nsIn K mainGlobals "listing_at" = some (some (.ref f49))) (h49 : Fun K "listing_at" "listing_at" s_listing_at f49 g49) (wA : nsIn K mainGlobals "answered" = some (some (.ref fA)))
  (hA : Fun K "answered" "answered" s_answered fA gA) (wL : nsIn K mainGlobals "list_of" = some (some (.ref fL))) (hL : Fun K "list_of" "list_of" s_list_of fL gL) (hcode : gL.code = .ref c) (k4 : K.lookup c = some oc) (k5 : oc.data = .fields vs) (k6 : vs[11]? = some (.ref Pt)) (k7 : K.lookup Pt = none) :
  ∃ (fd : FuncData) (c Pt : Addr) (o oc : Obj) (vs : Array Value), (∀ (s : Shared) (us : List Value), us.length = (["most", "image", "path"] : List Str).length → BindsTo s fd ⟨us, []⟩ ((["most", "image", "path"] : List Str).zip us)) ∧ K.lookup fa = some o ∧ o.data = .func fd ∧ fd.code = .ref c ∧ K.lookup c = some oc ∧ oc.data = .fields vs ∧ vs[11]? = some (.ref Pt) ∧ K.lookup Pt = none ∧
   ∀ base : Heap, K.In base → base.Ns mainGlobals mg → CodeHd base c Pt → base.BuiltinsAt mg Pt → FnOk P w K mg base (CXR P w) 18 fa fd ["most", "image", "path"] (spListOf K Pt) := by
 have e := hfa.symm.trans (mg_of X G wL)
 cases e
 let A : Adr := ⟨aNotSo, aNotThere, aWrongSort, aTooMany, aHeldHere, aHeldInClusters, aRun, aLayout, aEntry, aFolder, aStep, aAttribute, aRecord, aVolume⟩
 have T : Txt K mg A := ⟨mg_of X G xNotSo, yNotSo, mg_of X G xNotThere, yNotThere, mg_of X G xWrongSort, yWrongSort, mg_of X G xTooMany, yTooMany, mg_none_of X G nlen, mg_none_of X G nmin, mg_none_of X G nmax, mg_none_of X G nsum, mg_none_of X G nall, mg_none_of X G nord, mg_none_of X G nstr, mg_none_of X G nlist, mg_none_of X G ntuple, mg_none_of X G nrange, mg_none_of X G nreversed, gc_int X G vRUN_BOUND, gc_int X G vSECTOR, gc_int X G vLONGEST_RECORD, gc_int X G vLONGEST_BLOCK, gc_int X G vBLOCK_BELOW, gc_int X G vLAST, gc_int X G vNAME_PLACE, gc_int X G vFIRST_NODE, gc_int X G vBLOCKS, gc_str X G vFOLDER_NAME, gc_int X G vMOST_LEVELS, gc_int X G vMOST_ENTRIES, gc_int X G vLIST_OF_ATTRIBUTES, gc_int X G vEND_OF_ATTRIBUTES, gc_int X G vSPARSE, gc_int X G vDATA, gc_int X G vTOP_FOLDER, gc_int X G vKIND_NOT_LOOKED_FOR, gc_int X G vMOST_BYTES, gc_int X G vMOST_PATH, ⟨⟨pHeldHere, qHeldHere, rHeldHere, sHeldHere⟩, (na_cons oHeldHere0 (na_cons oHeldHere1 na_nil))⟩, ⟨⟨pHeldInClusters, qHeldInClusters, rHeldInClusters, sHeldInClusters⟩, (na_cons oHeldInClusters0 (na_cons oHeldInClusters1 (na_cons oHeldInClusters2 (na_cons oHeldInClusters3 na_nil))))⟩, ⟨⟨pRun, qRun, rRun, sRun⟩, (na_cons oRun0 (na_cons oRun1 na_nil))⟩, ⟨⟨pLayout, qLayout, rLayout, sLayout⟩, (na_cons oLayout0 (na_cons oLayout1 (na_cons oLayout2 (na_cons oLayout3 (na_cons oLayout4 (na_cons oLayout5 na_nil))))))⟩, ⟨⟨pEntry, qEntry, rEntry, sEntry⟩, (na_cons oEntry0 (na_cons oEntry1 (na_cons oEntry2 (na_cons oEntry3 (na_cons oEntry4 (na_cons oEntry5 (na_cons oEntry6 na_nil)))))))⟩, ⟨⟨pFolder, qFolder, rFolder, sFolder⟩, (na_cons oFolder0 (na_cons oFolder1 (na_cons oFolder2 (na_cons oFolder3 na_nil))))⟩, ⟨⟨pStep, qStep, rStep, sStep⟩, (na_cons oStep0 (na_cons oStep1 (na_cons oStep2 na_nil)))⟩, ⟨⟨pAttribute, qAttribute, rAttribute, sAttribute⟩, (na_cons oAttribute0 (na_cons oAttribute1 (na_cons oAttribute2 (na_cons oAttribute3 na_nil))))⟩, ⟨⟨pRecord, qRecord, rRecord, sRecord⟩, (na_cons oRecord0 (na_cons oRecord1 (na_cons oRecord2 na_nil)))⟩, ⟨⟨pVolume, qVolume, rVolume, sVolume⟩, (na_cons oVolume0 (na_cons oVolume1 (na_cons oVolume2 na_nil)))⟩⟩
 have T2 : TxtX K A := ⟨mNotSo, mNotThere, mWrongSort, mTooMany, e1, e2, e3, e4, e5, e6⟩
 obtain ⟨oc1, od1, kV1, doc1, pm1, an1, cdv1, ct1, osl1, eL, lk1, hcd1⟩ := hL.ex
 refine ⟨gL, c, Pt, _, oc, vs, ?_, lk1, rfl, hcode, k4, k5, k6, k7, fun base KB GB C hB => ?_⟩
 ·intro s us hu
  subst eL
  exact match us, hu with | [_, _, _], _ => .of_eq rfl
 have d_must : Dq1 P w K mg base A := ⟨⟨_, _, ok_must h0 T, mg_of X G w0, h0.kp, h0.binds fun _ _ _ _ _ _ us hl => match us, hl with | [_], _ => rfl⟩⟩
 have d_codes : Dq4 P w K mg base A := ⟨⟨_, _, ok_codes h1 T, mg_of X G w1, h1.kp, h1.binds fun _ _ _ _ _ _ us hl => match us, hl with | [_], _ => rfl⟩⟩
 have d_part : Dq3 P w K mg base A := ⟨⟨_, _, ok_part h2 T d_must, mg_of X G w2, h2.kp, h2.binds fun _ _ _ _ _ _ us hl => match us, hl with | [_, _, _], _ => rfl⟩⟩
 have d_number_at : Dq2 P w K mg base A := ⟨⟨_, _, ok_number_at h3 T d_part, mg_of X G w3, h3.kp, h3.binds fun _ _ _ _ _ _ us hl => match us, hl with | [_, _, _], _ => rfl⟩⟩
 have d_signed_number_at : Dq8 P w K mg base A := ⟨⟨_, _, ok_signed_number_at h4 T d_number_at, mg_of X G w4, h4.kp, h4.binds fun _ _ _ _ _ _ us hl => match us, hl with | [_, _, _], _ => rfl⟩⟩
 have d_letters_at : Dq9 P w K mg base A := ⟨⟨_, _, ok_letters_at h5 T d_number_at, mg_of X G w5, h5.kp, h5.binds fun _ _ _ _ _ _ us hl => match us, hl with | [_, _, _], _ => rfl⟩⟩
 have d_HeldHere : Dq27 P w K mg base A := ⟨⟨_, _, ok_HeldHere_init h6 T d_number_at d_part, mg_of X G zHeldHere, ⟨g_6, w6, i6, j6⟩, h6.binds fun _ _ _ _ _ _ us hl => match us, hl with | [_, _], _ => rfl⟩⟩
 have d_HeldHere_taken : Dq13 P w K mg base A := ⟨⟨_, _, ok_HeldHere_taken h7 T d_part, ⟨w7, i7, h7.kp⟩, h7.binds fun _ _ _ _ _ _ us hl => match us, hl with | [_, _, _], _ => rfl⟩, T.o_HeldHere.cl⟩
 have d_clusters_told : Dq23 P w K mg base A := ⟨⟨_, _, ok_clusters_told h8 T d_signed_number_at, mg_of X G w8, h8.kp, h8.binds fun _ _ _ _ _ _ us hl => match us, hl with | [_], _ => rfl⟩⟩
 have d_Run : Dq22 P w K mg base A := ⟨⟨_, _, ok_Run_init h9 T, mg_of X G zRun, ⟨g_9, w9, i9, j9⟩, h9.binds fun _ _ _ _ _ _ us hl => match us, hl with | [_, _, _], _ => rfl⟩⟩
 have d_volume_part : Dq10 P w K mg base A := ⟨⟨_, _, ok_volume_part h10 T d_must d_part, ⟨w10, i10, h10.kp⟩, h10.binds fun _ _ _ _ _ _ us hl => match us, hl with | [_, _, _], _ => rfl⟩, T.o_Layout.cl⟩
 have d_power_of_two : Dq19 P w K mg base A := ⟨⟨_, _, ok_power_of_two h11 T, mg_of X G w11, h11.kp, h11.binds fun _ _ _ _ _ _ us hl => match us, hl with | [_], _ => rfl⟩⟩
 have d_length_told : Dq20 P w K mg base A := ⟨⟨_, _, ok_length_told h12 T d_must d_power_of_two, mg_of X G w12, h12.kp, h12.binds fun _ _ _ _ _ _ us hl => match us, hl with | [_, _, _], _ => rfl⟩⟩
 have d_Layout : Dq30 P w K mg base A := ⟨⟨_, _, ok_Layout_init h13 T d_must d_codes d_part d_number_at d_length_told, mg_of X G zLayout, ⟨g_13, w13, i13, j13⟩, h13.binds fun _ _ _ _ _ _ us hl => match us, hl with | [_, _], _ => rfl⟩⟩
 have d_without_marks : Dq11 P w K mg base A := ⟨⟨_, _, ok_without_marks h14 T d_must d_part d_number_at, mg_of X G w14, h14.kp, h14.binds fun _ _ _ _ _ _ us hl => match us, hl with | [_], _ => rfl⟩⟩
 have d_Attribute : Dq21 P w K mg base A := ⟨⟨_, _, ok_Attribute_init h15 T d_must d_number_at d_letters_at, mg_of X G zAttribute, ⟨g_15, w15, i15, j15⟩, h15.binds fun _ _ _ _ _ _ us hl => match us, hl with | [_, _], _ => rfl⟩⟩
 have d_attributes_in : Dq29 P w K mg base A := ⟨⟨_, _, ok_attributes_in h16 T d_must d_number_at d_part d_Attribute, mg_of X G w16, h16.kp, h16.binds fun _ _ _ _ _ _ us hl => match us, hl with | [_, _], _ => rfl⟩⟩
 have d_runs_in : Dq24 P w K mg base A := ⟨⟨_, _, ok_runs_in h17 T d_must d_number_at d_signed_number_at d_Run, mg_of X G w17, h17.kp, h17.binds fun _ _ _ _ _ _ us hl => match us, hl with | [_, _, _], _ => rfl⟩⟩
 have d_HeldInClusters : Dq28 P w K mg base A := ⟨⟨_, _, ok_Cl_init h18 T d_must d_number_at d_clusters_told d_runs_in, mg_of X G zHeldInClusters, ⟨g_18, w18, i18, j18⟩, h18.binds fun _ _ _ _ _ _ us hl => match us, hl with | [_, _, _], _ => rfl⟩⟩
 have d_run_part : Dq25 P w K mg base A := ⟨⟨_, _, ok_run_part h19 T d_volume_part, mg_of X G w19, h19.kp, h19.binds fun _ _ _ _ _ _ us hl => match us, hl with | [_, _, _, _], _ => rfl⟩⟩
 have d_stored_part : Dq26 P w K mg base A := ⟨⟨_, _, ok_stored_part h20 T d_run_part, ⟨w20, i20, h20.kp⟩, h20.binds fun _ _ _ _ _ _ us hl => match us, hl with | [_, _, _], _ => rfl⟩, T.o_HeldInClusters.cl⟩
 have d_HeldInClusters_taken : Dq14 P w K mg base A := ⟨⟨_, _, ok_Cl_taken h21 T d_must d_stored_part, ⟨w21, i21, h21.kp⟩, h21.binds fun _ _ _ _ _ _ us hl => match us, hl with | [_, _, _], _ => rfl⟩, T.o_HeldInClusters.cl⟩
 have d_held : Dq6 P w K mg base A := ⟨⟨_, _, ok_held h22 T d_HeldHere d_HeldInClusters, mg_of X G w22, h22.kp, h22.binds fun _ _ _ _ _ _ us hl => match us, hl with | [_, _], _ => rfl⟩⟩
 have d_Record : Dq12 P w K mg base A := ⟨⟨_, _, ok_Record_init h23 T d_must d_codes d_part d_number_at d_without_marks d_attributes_in, mg_of X G zRecord, ⟨g_23, w23, i23, j23⟩, h23.binds fun _ _ _ _ _ _ us hl => match us, hl with | [_, _], _ => rfl⟩⟩
 have d_attribute : Dq5 P w K mg base A := ⟨⟨_, _, ok_attribute h24 T d_codes, ⟨w24, i24, h24.kp⟩, h24.binds fun _ _ _ _ _ _ us hl => match us, hl with | [_, _, _], _ => rfl⟩, T.o_Record.cl⟩
 have d_records_held : Dq31 P w K mg base A := ⟨⟨_, _, ok_records_held h25 T d_must d_volume_part d_Record d_attribute d_held, mg_of X G w25, h25.kp, h25.binds fun _ _ _ _ _ _ us hl => match us, hl with | [_], _ => rfl⟩⟩
 have d_file_held : Dq44 P w K mg base A := ⟨⟨_, _, ok_file_held h26 T d_attribute d_held, mg_of X G w26, h26.kp, h26.binds fun _ _ _ _ _ _ us hl => match us, hl with | [_, _], _ => rfl⟩⟩
 have d_record : Dq15 P w K mg base A := ⟨⟨_, _, ok_record h27 T d_Record d_HeldHere_taken d_HeldInClusters_taken, ⟨w27, i27, h27.kp⟩, h27.binds fun _ _ _ _ _ _ us hl => match us, hl with | [_, _], _ => rfl⟩, T.o_Volume.cl⟩
 have d_Volume : Dq46 P w K mg base A := ⟨⟨_, _, ok_Volume_init h28 T d_Layout d_records_held d_record, mg_of X G zVolume, ⟨g_28, w28, i28, j28⟩, h28.binds fun _ _ _ _ _ _ us hl => match us, hl with | [_, _], _ => rfl⟩⟩
 have d_block_number_in : Dq32 P w K mg base A := ⟨⟨_, _, ok_block_number_in h29 T d_must d_number_at, mg_of X G w29, h29.kp, h29.binds fun _ _ _ _ _ _ us hl => match us, hl with | [_], _ => rfl⟩⟩
 have d_kind_in : Dq33 P w K mg base A := ⟨⟨_, _, ok_kind_in h30 T d_must d_number_at, mg_of X G w30, h30.kp, h30.binds fun _ _ _ _ _ _ us hl => match us, hl with | [_], _ => rfl⟩⟩
 have d_name_in : Dq34 P w K mg base A := ⟨⟨_, _, ok_name_in h31 T d_must d_codes d_number_at d_letters_at, mg_of X G w31, h31.kp, h31.binds fun _ _ _ _ _ _ us hl => match us, hl with | [_], _ => rfl⟩⟩
 have d_Entry : Dq35 P w K mg base A := ⟨⟨_, _, ok_Entry_init h32 T d_must d_part d_number_at d_block_number_in d_kind_in d_name_in, mg_of X G zEntry, ⟨g_32, w32, i32, j32⟩, h32.binds fun _ _ _ _ _ _ us hl => match us, hl with | [_, _, _], _ => rfl⟩⟩
 have d_node_entries : Dq16 P w K mg base A := ⟨⟨_, _, ok_node_entries h33 T d_must d_part d_number_at d_Entry, mg_of X G w33, h33.kp, h33.binds fun _ _ _ _ _ _ us hl => match us, hl with | [_, _], _ => rfl⟩⟩
 have d_first_node_entries : Dq36 P w K mg base A := ⟨⟨_, _, ok_first_node_entries h34 T d_must d_number_at d_attribute d_held d_node_entries, mg_of X G w34, h34.kp, h34.binds fun _ _ _ _ _ _ us hl => match us, hl with | [_, _], _ => rfl⟩⟩
 have d_Folder : Dq39 P w K mg base A := ⟨⟨_, _, ok_Folder_init h35 T d_first_node_entries d_attribute d_held, mg_of X G zFolder, ⟨g_35, w35, i35, j35⟩, h35.binds fun _ _ _ _ _ _ us hl => match us, hl with | [_, _, _], _ => rfl⟩⟩
 have d_block : Dq37 P w K mg base A := ⟨⟨_, _, ok_block h36 T d_must d_codes d_part d_number_at d_without_marks d_HeldHere_taken d_HeldInClusters_taken, ⟨w36, i36, h36.kp⟩, h36.binds fun _ _ _ _ _ _ us hl => match us, hl with | [_, _], _ => rfl⟩, T.o_Folder.cl⟩
 have d_block_entries : Dq41 P w K mg base A := ⟨⟨_, _, ok_block_entries h37 T d_must d_block d_node_entries, ⟨w37, i37, h37.kp⟩, h37.binds fun _ _ _ _ _ _ us hl => match us, hl with | [_, _], _ => rfl⟩, T.o_Folder.cl⟩
 have d_Step : Dq38 P w K mg base A := ⟨⟨_, _, ok_Step_init h38 T, mg_of X G zStep, ⟨g_38, w38, i38, j38⟩, h38.binds fun _ _ _ _ _ _ us hl => match us, hl with | [_, _, _, _], _ => rfl⟩⟩
 have d_steps_back : Dq40 P w K mg base A := ⟨⟨_, _, ok_steps_back h39 T d_Step, mg_of X G w39, h39.kp, h39.binds fun _ _ _ _ _ _ us hl => match us, hl with | [_, _], _ => rfl⟩⟩
 have d_great_letters : Dq7 P w K mg base A := ⟨⟨_, _, ok_great_letters h40 T, mg_of X G w40, h40.kp, h40.binds fun _ _ _ _ _ _ us hl => match us, hl with | [_], _ => rfl⟩⟩
 have d_entries_in_order : Dq17 P w K mg base A := ⟨⟨_, _, ok_entries_in_order h41 T d_must d_Folder d_steps_back d_block_entries d_great_letters, mg_of X G w41, h41.kp, h41.binds fun _ _ _ _ _ _ us hl => match us, hl with | [_, _], _ => rfl⟩⟩
 have d_in_bounds : Dq49 P w K mg base A := ⟨⟨_, _, ok_in_bounds h42 T, mg_of X G w42, h42.kp, h42.binds fun _ _ _ _ _ _ us hl => match us, hl with | [_, _, _], _ => rfl⟩⟩
 have d_names_in : Dq42 P w K mg base A := ⟨⟨_, _, ok_names_in h43 T d_codes, mg_of X G w43, h43.kp, h43.binds fun _ _ _ _ _ _ us hl => match us, hl with | [_], _ => rfl⟩⟩
 have d_entries_by_name : Dq43 P w K mg base A := ⟨⟨_, _, ok_entries_by_name h44 T d_entries_in_order d_great_letters, mg_of X G w44, h44.kp, h44.binds fun _ _ _ _ _ _ us hl => match us, hl with | [_, _], _ => rfl⟩⟩
 have d_record_of : Dq18 P w K mg base A := ⟨⟨_, _, ok_record_of h45 T d_must d_record, ⟨w45, i45, h45.kp⟩, h45.binds fun _ _ _ _ _ _ us hl => match us, hl with | [_, _], _ => rfl⟩, T.o_Volume.cl⟩
 have d_record_at : Dq47 P w K mg base A := ⟨⟨_, _, ok_record_at h46 T d_names_in d_entries_by_name d_great_letters d_record_of, mg_of X G w46, h46.kp, h46.binds fun _ _ _ _ _ _ us hl => match us, hl with | [_, _], _ => rfl⟩⟩
 have d_file_size : Dq45 P w K mg base A := ⟨⟨_, _, ok_file_size h47 T d_file_held, mg_of X G w47, h47.kp, h47.binds fun _ _ _ _ _ _ us hl => match us, hl with | [_, _], _ => rfl⟩⟩
 have d_line_of : Dq48 P w K mg base A := ⟨⟨_, _, ok_line_of h48 T d_codes d_file_size d_record_of, mg_of X G w48, h48.kp, h48.binds fun _ _ _ _ _ _ us hl => match us, hl with | [_, _], _ => rfl⟩⟩
 have d_listing_at : Dq50 P w K mg base A := ⟨⟨_, _, ok_listing_at h49 T d_Volume d_record_at d_entries_in_order d_codes d_line_of, mg_of X G w49, h49.kp, h49.binds fun _ _ _ _ _ _ us hl => match us, hl with | [_, _, _], _ => rfl⟩⟩
 exact ok_list_of hL T T2 d_in_bounds d_listing_at hA (mg_of X G wA) (hA.binds fun _ _ _ _ _ _ us hl => match us, hl with | [_], _ => rfl) hcode C hB
end Sv
end
section
namespace Sv
open PySem PySem.Spec L2
theorem nats_len (l : List Int) : (Sn35Neutral.nats l).length = l.length := by unfold Sn35Neutral.nats; rw [List.length_map]
theorem nats_back : ∀ (l : List Int), (∀ z ∈ l, 0 ≤ z) → vN (Sn35Neutral.nats l) = l.map V.int
 | [], _ => rfl
 | a :: r, h => by
  have h1 := h a (List.mem_cons_self ..)
  have ih := nats_back r fun z hz => h z (List.mem_cons_of_mem _ hz)
  show V.int ((a.toNat : Nat) : Int) :: vN (Sn35Neutral.nats r) = V.int a :: r.map V.int
  rw [ih, show ((a.toNat : Nat) : Int) = a by omega]
theorem nats_byt {l : List Int} (h : ∀ z ∈ l, 0 ≤ z ∧ z ≤ 255) : Byt (Sn35Neutral.nats l) := by
 intro x hx
 obtain ⟨z, hz, rfl⟩ := List.mem_map.mp hx
 have := h z hz
 show z.toNat < 256
 omega
theorem within_false {z : Int} {m : Nat} (h : ¬ (0 ≤ z ∧ z ≤ (m : Int))) : Sn35.within z m = false := by
 unfold Sn35.within
 cases h1 : decide (0 ≤ z) with
 | false => rfl
 | true =>
  cases h2 : decide (z ≤ (m : Int)) with
  | false => rfl
  | true => exact absurd ⟨of_decide_eq_true h1, of_decide_eq_true h2⟩ h
theorem list_is {most : Int} {img p : List Int} (hi : ∀ z ∈ img, 0 ≤ z ∧ z ≤ 255) (hl : img.length < 2 ^ 30) : PySn35.list_of most img p = listAns most (Sn35Neutral.nats img) (Sn35Neutral.nats p) := by
 have e : PySn35.list_of most img p = (Sn35Neutral.does (.list (Sn35Neutral.nats img) (img.length : Int) (Sn35Neutral.nats p) (p.length : Int) most)).value :: (Sn35Neutral.does (.list (Sn35Neutral.nats img) (img.length : Int) (Sn35Neutral.nats p) (p.length : Int) most)).out.map (fun (x : Nat) => (x : Int)) := rfl
 rw [e]
 unfold listAns
 by_cases h : 0 ≤ most ∧ most ≤ 33554432 ∧ (Sn35Neutral.nats img).length ≤ 33554432 ∧ (Sn35Neutral.nats p).length ≤ 4096
 ·rw [if_pos h]
  have d := list_due (most := most) (img := Sn35Neutral.nats img) (p := Sn35Neutral.nats p) (nats_byt hi) (by rw [nats_len]; exact hl) h.1 h.2.1 h.2.2.1 h.2.2.2
  rw [nats_len, nats_len] at d
  exact d
 ·rw [if_neg h]
  rw [nats_len, nats_len] at h
  have e2 : Sn35Neutral.does (.list (Sn35Neutral.nats img) (img.length : Int) (Sn35Neutral.nats p) (p.length : Int) most) = ⟨-2, []⟩ := by
   refine if_pos (c := Sn35.within (img.length : Int) Sn35.MOST = false ∨ Sn35.within (p.length : Int) Sn35.MOSTPATH = false ∨ Sn35.within most Sn35.MOST = false) ?_
   by_cases h1 : img.length ≤ 33554432
   ·by_cases h2 : p.length ≤ 4096
    ·exact .inr (.inr (within_false fun z => h ⟨z.1, by have := z.2; unfold Sn35.MOST at this; omega, h1, h2⟩))
    ·exact .inr (.inl (within_false fun z => h2 (by have := z.2; unfold Sn35.MOSTPATH at this; omega)))
   ·exact .inl (within_false fun z => h1 (by have := z.2; unfold Sn35.MOST at this; omega))
  rw [e2]; rfl
end Sv
end
section
open PySem PySem.W PyProof.Rows
set_option maxRecDepth 100000 in
set_option maxHeartbeats 0 in
theorem PySem.Challenge.cw_strictvolume_s01_list_of_holds : PySem.Challenge.rw_strictvolume_s01_list_of.Holds := by
 w_on; k_headS; (case hw => exact ⟨[.int 0, .list [], .list []], dk, dk⟩)
 k_fillS
 refine L2.walk_specT (r := PySem.Challenge.rw_strictvolume_s01_list_of) (k := 18) (CX := fun w => L2.CXR (PySem.Challenge.rw_strictvolume_s01_list_of).prog w) (ps := ["most", "image", "path"]) (sp := fun K Pt => Sv.spListOf K Pt) dk rfl rfl ⟨rfl, by decide, by decide⟩ (List.mem_of_find?_eq_some (p := fun e : DefRec => e.name == "list_of") rfl) (fun w h Y => PySem.W.kIn_of Y) ?F ?S ?X
 case F =>
  intro w mg fa h Y KX G hmg
  refine' Sv.all_top KX G hmg ?_ ?yNotSo ?mNotSo ?_ ?yNotThere ?mNotThere ?_ ?yWrongSort ?mWrongSort ?_ ?yTooMany ?mTooMany ?e1 ?e2 ?e3 ?e4 ?e5 ?e6 ?_ ?_ ?_ ?_ ?_ ?_ ?_ ?_ ?_ ?_ ?_ ?_ ?_ ?_ ?_ ?_ ?_ ?_ ?_ ?_ ?_ ?_ ?_ ?_ ?_ ?_ ?_ ?_ ?_ ?_ ?_ ?_ ?_ ?_ ?_ ?_ ?_ ?_ ?_ ?_ ?_ ?_ ?_ ?_ ?_ ?_ ?_ ?_ ?_ ?_ ?_ ?_ ?_ ?_ ?_ ?_ ?_ ?_ ?_ ?_ ?_ ?_ ?_ ?_ ?_ ?_ ?_ ?_ ?_ ?_ ?_ ?_ ?_ ?_ ?_ ?_ ?_ ?_ ?_ ?_ ?_ ?_ ?_ ?_ ?_ ?_ ?_ ?_ ?_ ?_ ?_ ?_ ?_ ?_ ?_ ?_ ?_ ?_ ?_ ?_ ?_ ?_ ?_ ?_ ?_ ?_ ?_ ?_ ?_ ?_ ?_ ?_ ?_ ?_ ?_ ?_ ?_ ?_ ?_ ?_ ?_ ?_ ?_ ?_ ?_ ?_ ?_ ?_ ?_ ?_ ?_ ?_ ?_ ?_ ?_ ?_ ?_ ?_ ?_ ?_ ?_ ?_ ?_ ?_ ?_ ?_ ?_ ?_ ?_ ?_ ?_ ?_ ?_ ?_ ?_ ?_ ?_ ?_ ?_ ?_ ?_ ?_ ?_ ?_ ?_ ?_ ?_ ?_ ?_ ?_ ?_ ?_ ?_ ?_ ?_ ?_ ?_ ?_ ?_ ?_ ?_ ?_ ?_ ?_ ?_ ?_ ?_ ?_ ?_ ?_ ?_ ?_ ?_ ?_ ?_ ?_ ?_ ?_ ?_ ?_ ?_ ?_ ?_ ?_ ?_ ?_ ?_ ?_ ?_ ?_ ?_ ?_ ?_ ?_ ?_ ?_ ?_ ?_ ?_ ?_ ?_ ?_ ?_ ?_ ?_ ?_ ?_ ?_ ?_ ?_ ?_ ?_ ?_ ?_ ?_ ?_ ?_ ?_ ?_ ?_ ?_ ?_ ?_ ?_ ?_ ?_ ?_ ?_ ?_ ?_ ?_ ?_ ?_ ?_ ?_ ?_ ?_ ?_ ?_ ?_ ?_ ?_ ?hcode ?_ ?k5 ?k6 ?k7
  all_goals (try k_is)
  all_goals (try (refine' L2.fun_mk ?l ?c ?k; (case l => k_is); (case c => k_is); (case k => k_is)))
  (case hcode => exact rfl)
  all_goals (try k_is)
  (case yNotSo => kernel_rfl); (case mNotSo => kernel_rfl); (case yNotThere => kernel_rfl); (case mNotThere => kernel_rfl); (case yWrongSort => kernel_rfl); (case mWrongSort => kernel_rfl); (case yTooMany => kernel_rfl); (case mTooMany => kernel_rfl); (case e1 => decide); (case e2 => decide); (case e3 => decide); (case e4 => decide); (case e5 => decide); (case e6 => decide); (case k5 => exact rfl); (case k6 => exact rfl); (case k7 => kernel_rfl)
 case S =>
  intro K Pt H xs a hP hwi hask hx
  cases hx with
  | cons h1 h2 =>
  cases h2 with
  | cons h2 h3 =>
  cases h3 with
  | cons h3 h4 =>
  cases h4
  cases h1
  cases h2 with
  | lst s2 a2 =>
  cases h3 with
  | lst s3 a3 =>
  have e2 := L2.ints_dw a.2.1 _ a2
  have e3 := L2.ints_dw a.2.2.1 _ a3
  subst e2 e3
  have q : (Codec.inInt (Int.negSucc 2147483647) (Int.ofNat 2147483647) a.1 && ((Codec.inLen 0 100000 a.2.1 && a.2.1.all (Codec.inInt (Int.ofNat 0) (Int.ofNat 255))) && ((Codec.inLen 0 4096 a.2.2.1 && a.2.2.1.all (Codec.inInt (Int.ofNat 0) (Int.ofNat 255))) && true))) = true := hwi
  simp only [Bool.and_eq_true] at q
  obtain ⟨q1, ⟨q2, q3⟩, ⟨q4, q5⟩, _⟩ := q
  have l2 : a.2.1.length ≤ 100000 := (Codec.inNat_iff.mp q2).2
  have r2 : ∀ z ∈ a.2.1, 0 ≤ z ∧ z ≤ 255 := fun z hz => Codec.inInt_iff.mp (List.all_eq_true.mp q3 z hz)
  have r3 : ∀ z ∈ a.2.2.1, 0 ≤ z ∧ z ≤ 255 := fun z hz => Codec.inInt_iff.mp (List.all_eq_true.mp q5 z hz)
  have v2 := Sv.nats_back a.2.1 fun z hz => (r2 z hz).1
  have v3 := Sv.nats_back a.2.2.1 fun z hz => (r3 z hz).1
  refine ⟨a.1, _, _, Sn35Neutral.nats a.2.1, Sn35Neutral.nats a.2.2.1, rfl, by show L2.SqL K H _ _; rw [v2]; exact s2, Sv.nats_byt r2, by rw [Sv.nats_len]; omega, by show L2.SqL K H _ _; rw [v3]; exact s3, hP, fun p H' hp => ?_⟩
  have e : PySn35.list_of a.1 a.2.1 a.2.2.1 = Sv.listAns a.1 (Sn35Neutral.nats a.2.1) (Sn35Neutral.nats a.2.2.1) := Sv.list_is r2 (by omega)
  rw [← e] at hp
  exact .lst (L2.SqL.of hp) (L2.dw_ints _)
 case X =>
  intro w H s e s' x
  obtain ⟨_, _, _, _, _, _, _, _, _, _, _, _, z⟩ := x
  exact z
end
