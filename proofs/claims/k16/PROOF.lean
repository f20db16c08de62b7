import PyProof.Rows.All
import Wide.All
import OpenK.AllK
import Wide.FinOn
import Lean
import PyProof.EqAt
import PyProof.EqKinds
import PyProof.TupleCall
import PyProof.NeData
import PyProof.P3Eq
import PySem.Challenge.RW_ownclocks_k16_each_piece_walked
set_option Elab.async false
set_option linter.all false
set_option maxRecDepth 100000
set_option maxHeartbeats 4000000
local macro_rules | `(tactic| omega) => `(tactic| lia)
set_option hygiene false in
local macro_rules | `(tactic| ac_rfl) => `(tactic| (first | (refine tvC rfl ?_) | (refine tvO rfl ?_) | (refine tvK rfl ?_) | (refine tv rfl ?_) | (refine ⟨_, rfl, ?_⟩)))
set_option hygiene false in
local macro_rules | `(tactic| infer_instance) => `(tactic| repeat (first | (refine ⟨_, rfl, ?_⟩) | (refine ⟨_, _, rfl, rfl, ⟨by decide, by decide⟩, ?_⟩) | (refine ⟨_, _, rfl, rfl, .inl ⟨by decide, by decide⟩, ?_⟩) | (refine ⟨_, _, rfl, rfl, .inr ⟨by decide, by decide⟩, ?_⟩) | (refine ⟨_, _, rfl, rfl, (show (0 : Int) < _ from by decide), ?_⟩) | (refine ⟨_, _, rfl, rfl, ?_⟩) | (refine ⟨rfl, ?_⟩)))
set_option Elab.async false
set_option linter.all false
set_option maxRecDepth 100000
abbrev zA:=@List.getElem?_eq_some_iff
abbrev zB:=@List.length_map
abbrev zC:=@List.getElem?_eq_getElem
abbrev zD:=@Array.length_toList
abbrev zE:=@List.getD_eq_getElem?_getD
abbrev zF:=@Array.getElem?_eq_getElem
abbrev zG:=@Nat.le_refl
abbrev zH:=@Array.getElem?_toList
abbrev zI:=@List.mem_cons_of_mem
abbrev zJ:=@List.getElem?_map
abbrev zK:=@List.mem_of_getElem?
abbrev zL:=@List.size_toArray
abbrev zM:=@List.length_append
abbrev zN:=@List.mem_cons_self
abbrev zO:=@Nat.lt_of_lt_of_le
abbrev zP:=@List.length_cons
abbrev zQ:=@List.append_assoc
abbrev zR:=@List.mem_singleton
abbrev zS:=@List.map_append
abbrev zT:=@List.mem_cons
abbrev zU:=@List.mem_append_right
abbrev zV:=@Bool.false_ne_true
abbrev zW:=@List.not_mem_nil
abbrev zX:=@List.length_take
abbrev zY:=@Nat.ne_of_lt
abbrev zZ:=@Nat.zero_le
abbrev yA:=@Nat.le_trans
abbrev yB:=@Bool.false_eq_true
abbrev yC:=@Array.toList_append
abbrev yD:=@List.getElem?_of_mem
abbrev yE:=@List.mem_append
abbrev yF:=@List.append_nil
abbrev yG:=@List.getElem?_append_right
abbrev yH:=@List.mem_map
abbrev yI:=@List.map_cons
abbrev yJ:=@List.mem_filter
abbrev yK:=@List.flatten_cons
abbrev yL:=@List.perm_append_comm
abbrev yM:=@List.take_length
abbrev yN:=@List.flatMap_append
abbrev yO:=@List.take_add_one
abbrev yP:=@List.take_append_drop
abbrev yQ:=@List.getElem?_take
abbrev yR:=@List.mem_singleton_self
abbrev yS:=@List.mem_append_left
abbrev yT:=@List.length_range
abbrev yU:=@List.getElem?_append_left
abbrev yV:=@List.mem_range
abbrev yW:=@List.ext_getElem?
abbrev yX:=@List.nodup_cons
abbrev yY:=@List.length_set
abbrev yZ:=@Nat.le_of_lt
abbrev y6:=@List.getElem?_set_self
abbrev y7:=@Array.getElem?_eq_none
abbrev y8:=@Int.emod_lt_of_pos
abbrev y9:=@Array.getElem?_eq_some_iff
abbrev qA:=@Nat.zero_add
abbrev qB:=@Nat.le_succ
abbrev qC:=@List.pairwise_append
abbrev qD:=@List.getElem?_set_ne
abbrev qE:=@Int.toNat_natCast
abbrev qF:=@Int.le_of_lt
abbrev qG:=@Option.map_eq_some_iff
abbrev qH:=@Nat.lt_of_le_of_lt
abbrev qI:=@List.getElem?_drop
abbrev qJ:=@List.flatten_singleton
abbrev qK:=@Int.le_trans
abbrev qL:=@List.of_mem_zip
abbrev qM:=@Int.emod_nonneg
abbrev qN:=@Nat.lt_irrefl
abbrev qO:=@List.getElem?_eq_none
abbrev qP:=@Nat.lt_succ_of_lt
abbrev qQ:=@List.reverse_reverse
abbrev qR:=@Int.le_refl
abbrev qS:=@Array.toList_extract
abbrev qT:=@Array.perm_iff_toList_perm
abbrev qU:=@List.length_drop
abbrev qV:=@List.drop_eq_getElem_cons
abbrev qW:=@Array.swapIfInBounds_def
abbrev qX:=@List.find?_cons
abbrev qY:=@Int.eq_ofNat_of_zero_le
abbrev qZ:=@Nat.le_of_eq
abbrev q8:=@Nat.add_zero
abbrev q9:=@List.take_of_length_le
abbrev jA:=@List.flatMap_singleton
abbrev jB:=@Array.toList_reverse
abbrev jC:=@Nat.not_lt_zero
abbrev jD:=@Nat.min_eq_left
abbrev jE:=@List.length_nil
abbrev jF:=@List.filter_nil
abbrev jG:=@List.reverse_append
abbrev jH:=@List.getElem?_range
abbrev jI:=@Int.toNat_of_nonneg
abbrev jJ:=@List.pairwise_cons
abbrev jK:=@List.drop_drop
abbrev jL:=@Int.not_lt
abbrev jM:=@List.pairwise_iff_getElem
abbrev jN:=@List.getElem?_zip_eq_some
abbrev jO:=@Nat.le_of_lt_succ
abbrev jP:=@List.flatMap_cons
abbrev jQ:=@List.drop_sublist
abbrev jR:=@Option.isSome_iff_exists
abbrev jS:=@List.sum_cons
abbrev jT:=@List.any_cons
abbrev jU:=@Nat.lt_succ_self
abbrev jV:=@List.mem_flatMap
abbrev jW:=@List.map_flatMap
abbrev jX:=@List.eraseIdx_cons_succ
abbrev jY:=@List.map_nil
abbrev jZ:=@List.nil_append
abbrev j0:=@Bool.eq_iff_iff
abbrev j3:=@List.mem_of_mem_take
abbrev j4:=@List.mem_of_mem_drop
abbrev j5:=@List.map_eq_nil_iff
abbrev j6:=@List.length_reverse
abbrev j7:=@List.filterMap_cons
abbrev j8:=@Nat.sub_self
abbrev j9:=@Nat.le_succ_of_le
abbrev kB:=@List.take_sublist
abbrev kC:=@List.reverse_perm
abbrev kD:=@List.map_set
abbrev kE:=@List.filter_congr
abbrev kF:=@Int.zero_add
abbrev kG:=@Array.toList_push
abbrev kH:=@List.eraseIdxIfInBounds_toArray
abbrev kI:=@Nat.succ_le_succ
abbrev kJ:=@List.mem_reverse
abbrev kK:=@List.getElem_mem
abbrev kL:=@List.cons_append
abbrev kM:=@Bool.and_eq_true
abbrev kN:=@Array.toList_map
abbrev kO:=@Nat.min_le_left
abbrev kP:=@Nat.max_eq_left
abbrev kQ:=@List.zip_append
abbrev kR:=@Nat.sub_le
abbrev kT:=@List.take_zero
abbrev kU:=@Array.size_map
abbrev kW:=@List.mem_or_eq_of_mem_set
abbrev kX:=@List.take_add
abbrev kY:=@List.getElem?_take_of_lt
abbrev kZ:=@List.flatMap_eq_nil_iff
abbrev k4:=@List.filter_cons_of_pos
abbrev k6:=@List.filter_cons_of_neg
abbrev k8:=@Nat.sub_zero
abbrev vA:=@Nat.ne_of_gt
abbrev vB:=@Nat.min_self
abbrev vC:=@Nat.lt_trans
abbrev vD:=@List.pairwise_lt_range
abbrev vE:=@List.map_map
abbrev vF:=@List.drop_eq_nil_of_le
abbrev vG:=@List.any_map
abbrev vH:=@Int.lt_trans
abbrev vI:=@Int.le_of_eq
abbrev vJ:=@List.length_filter_le
abbrev vK:=@List.getElem?_reverse
abbrev vL:=@List.countP_mono_left
abbrev vN:=@Array.getElem_toList
namespace L2
open PySem PySem.Spec PyProof.Rows
abbrev Key:=Sum Int Str
def keyIs:Key→Value→Bool
 | .inl k,v=>Value.isInt k v
 | .inr x,v=>Value.isStrOf x v
def keyH (w:World):Key→Int
 | .inl k=>hashInt k
 | .inr x=>hashStr w x
theorem keyIs_shape:∀ {k:Key} {v:Value},keyIs k v=true→(∃ i t,k=Sum.inl i∧v=Value.int i t)∨(∃ x t,k=Sum.inr x∧v=Value.str x t)
 | .inl i,v,h=>by
  obtain⟨t,e⟩:=Value.isInt_shape (k:=i) (v:=v) h
  exact .inl ⟨i,t,rfl,e⟩
 | .inr x,v,h=>by
  obtain⟨t,e⟩:=Value.isStrOf_shape (x:=x) (v:=v) h
  exact .inr ⟨x,t,rfl,e⟩
theorem keyIs_int (i:Int) (t:Tok):keyIs (.inl i) (.int i t)=true:=by simp [keyIs,Value.isInt]
theorem keyIs_str (x:Str) (t:Tok):keyIs (.inr x) (.str x t)=true:=by simp [keyIs,Value.isStrOf]
theorem key_ll (a b:Int):decide ((Sum.inl a:Key)=Sum.inl b)=(a == b):=by
 by_cases e:a=b
 ·subst e; simp
 ·have h:¬ (Sum.inl a:Key)=Sum.inl b:=fun q=>e (Sum.inl.inj q)
  rw[decide_eq_false h]
  exact(beq_eq_false_iff_ne.mpr e).symm
theorem key_rr (a b:Str):decide ((Sum.inr a:Key)=Sum.inr b)=decide (a=b):=by
 by_cases e:a=b
 ·subst e; simp
 ·have h:¬ (Sum.inr a:Key)=Sum.inr b:=fun q=>e (Sum.inr.inj q)
  rw[decide_eq_false h,decide_eq_false e]
theorem key_lr (a:Int) (b:Str):decide ((Sum.inl a:Key)=Sum.inr b)=false:=decide_eq_false (fun q=>nomatch q)
theorem key_rl (a:Str) (b:Int):decide ((Sum.inr a:Key)=Sum.inl b)=false:=decide_eq_false (fun q=>nomatch q)
def mixKind (prog:Program) (w:World):PySem.KeyKind prog w Key where
 is:=keyIs
 hash:=keyH w
 inj:=fun v a b ha hb=>by
  rcases keyIs_shape ha with ⟨i,t,rfl,rfl⟩|⟨x,t,rfl,rfl⟩
  ·rcases keyIs_shape hb with ⟨j,u,rfl,e⟩|⟨y,u,rfl,e⟩
   ·injection e with e1 _; rw[e1]
   ·exact nomatch e
  ·rcases keyIs_shape hb with ⟨j,u,rfl,e⟩|⟨y,u,rfl,e⟩
   ·exact nomatch e
   ·injection e with e1 _; rw[e1]
 byValue:=fun k v h=>by
  rcases keyIs_shape h with ⟨i,t,rfl,rfl⟩|⟨x,t,rfl,rfl⟩ <;> rfl
 pyHash:=fun hv h=>by
  rcases keyIs_shape hv with ⟨i,t,rfl,rfl⟩|⟨x,t,rfl,rfl⟩
  ·exact wpAny_pyHash_int h
  ·exact wpAny_pyHash_str h
 eqBool:=fun hu hv h=>by
  rcases keyIs_shape hu with ⟨i,t,rfl,rfl⟩|⟨x,t,rfl,rfl⟩
  ·rcases keyIs_shape hv with ⟨j,u,rfl,rfl⟩|⟨y,u,rfl,rfl⟩
   ·rw[key_ll] at h; exact wpAny_eqBool_int h
   ·rw[key_lr] at h; exact SeqAt.EqAt.int_str i t y u _ _ _ _ h
  ·rcases keyIs_shape hv with ⟨j,u,rfl,rfl⟩|⟨y,u,rfl,rfl⟩
   ·rw[key_rl] at h; exact SeqAt.EqAt.str_int x t j u _ _ _ _ h
   ·rw[key_rr] at h; exact wpAny_eqBool_str h
 «strs»:=fun k x t v h=>by
  rcases keyIs_shape h with ⟨i,u,rfl,e⟩|⟨y,u,rfl,e⟩
  ·exact nomatch e
  ·injection e with e1 _
   subst e1
   cases v <;> rfl
theorem mixKind_int (prog:Program) (w:World) (i:Int) (t:Tok):(mixKind prog w).is (.inl i) (.int i t)=true:=keyIs_int i t
theorem mixKind_str (prog:Program) (w:World) (x:Str) (t:Tok):(mixKind prog w).is (.inr x) (.str x t)=true:=keyIs_str x t
end L2
namespace L2
open PySem PySem.Spec PyProof.Rows
inductive V where
 | non|bl (b:Bool)|int (i:Int)|str (x:Str)|byt (b:Array UInt8)|flt (b:UInt64)|ref (a:Addr)|ty (n:String)
 deriving DecidableEq
def RelV:V→Value→Prop
 | .non,u=>u=Value.none
 | .bl b,u=>u=Value.bool b
 | .int i,u=>∃ t,u=Value.int i t
 | .str x,u=>∃ t,u=Value.str x t
 | .byt b,u=>∃ t,u=Value.bytes b t
 | .flt b,u=>∃ t,u=Value.float b t
 | .ref a,u=>u=Value.ref a
 | .ty n,u=>u=Value.type n
abbrev Vals:List V→List Value→Prop:=Paired RelV
theorem Vals.length {xs:List V} {us:List Value} (r:Vals xs us):xs.length=us.length:=Paired.length r
theorem Vals.get:∀ {xs:List V} {us:List Value} {i:Nat} {x:V},Vals xs us→xs[i]?=some x→∃ u,us[i]?=some u∧RelV x u
 | _,_,_,_,.nil,e=>by simp at e
 | _,_,0,_,.cons r _,e=>by simp at e; subst e; exact⟨_,rfl,r⟩
 | _,_,i + 1,x,.cons _ t,e=>by
  obtain⟨u,h1,h2⟩:=Vals.get (i:=i) (x:=x) t (by simpa using e)
  exact⟨u,by simpa using h1,h2⟩
theorem Vals.append:∀ {xs ys:List V} {us ws:List Value},Vals xs us→Vals ys ws→Vals (xs++ys) (us++ws)
 | _,_,_,_,.nil,s=>s
 | _,_,_,_,.cons r t,s=>.cons r (Vals.append t s)
theorem Vals.take:∀ {xs:List V} {us:List Value} (n:Nat),Vals xs us→Vals (xs.take n) (us.take n)
 | _,_,0,_=>.nil
 | _,_,_ + 1,.nil=>.nil
 | _,_,n + 1,.cons r t=>.cons r (Vals.take n t)
theorem Vals.drop:∀ {xs:List V} {us:List Value} (n:Nat),Vals xs us→Vals (xs.drop n) (us.drop n)
 | _,_,0,r=>r
 | _,_,_ + 1,.nil=>.nil
 | _,_,n + 1,.cons _ t=>Vals.drop n t
def RelO:Option V→Option Value→Prop
 | some v,some u=>RelV v u
 | none,none=>True
 | _,_=>False
def KV {κ:Type}:List (κ × V)→List (κ × Value)→Prop:=Paired fun(p:κ × V) (q:κ × Value)=>p.1=q.1∧RelV p.2 q.2
def kV:Key→V
 | .inl i=>.int i
 | .inr x=>.str x
inductive HO where
  | lst (xs:List V)
  | tup (xs:List V)
  | dK (kvs:List (Key × V))|dT (kvs:List (List Key × V))
  | set (S:Int→Bool) (n:Nat)
  | ins (C dx:Addr) (fs:List (Str × V))
  | own (x:Addr)
  | xd (fs:List (Str × V))
  | met (f x:Addr)
  | rng (lo hi:Int)
  | frz (o:Obj) (u:HO)
  | tbl (ps:Array Value)
  | ext (φ:Heap→Prop)
abbrev Hp:=Addr→Option HO
def upd (H:Hp) (a:Addr) (o:HO):Hp:=fun b=>if b=a then some o else H b
theorem upd_same {H:Hp} {a:Addr} {o:HO}:upd H a o a=some o:=by unfold upd; rw[if_pos rfl]
theorem upd_ne {H:Hp} {a b:Addr} {o:HO} (h:b ≠ a):upd H a o b=H b:=by unfold upd; rw[if_neg h]
theorem ne_of {H:Hp} {a b:Addr} {o u:HO} (h:H a=some o) (h':H b=some u) (d:o ≠ u):a ≠ b:=by
 intro e; subst e; rw[h] at h'; exact d (Option.some.inj h')
theorem ne_of_none {H:Hp} {a b:Addr} {o:HO} (h:H a=some o) (h':H b=none):a ≠ b:=by
 intro e; subst e; rw[h] at h'; cases h'
section
variable (P:Program) (w:World)
def ObjOk (H:Hp) (h:Heap) (a:Addr):HO→Prop
 | .lst xs=>xs.length≤sizeLine∧∃(its:List Value) (n:Nat),Vals xs its∧h.get? a=some { cls:=.type "list",data:=.seq its.toArray n }
 | .tup xs=>xs.length≤sizeLine∧∃ its:List Value,Vals xs its∧IsTup h a its.toArray
 | .dK kvs=>kvs.length≤sizeLine∧(a == sysModules)=false∧∃ vs,KV kvs vs∧h.DictOf (mixKind P w) a vs
 | .dT kvs=>kvs.length≤sizeLine∧(a == sysModules)=false∧∃ xs:List (List Key × Addr × Value),
   Paired (fun(p:List Key × V) (q:List Key × Addr × Value)=>p.1=q.1∧H q.2.1=some (.tup (p.1.map kV))∧RelV p.2 q.2.2) kvs xs ∧
   ∃ o es ep,h.get? a=some o∧o.ExactDict∧o.data=.dict es ep∧es.toList=xs.map (entryOfKey (tupleKind (mixKind P w)))∧(xs.map (·.1)).Nodup
 | .set S n=>h.SetOf (intKind P w) a S n
 | .ins C dx fs=>H dx=some (.own a)∧fs.length≤1000∧dx ≠ a∧h.get? a=some (PySem.W.instObj C dx) ∧
   ∃ mA,h.Ns1 dx mA∧(∀ f,RelO (fs.lookup f) (mA f))∧PySem.Within mA (fs.map (·.1))
 | .own _=>∃ o,h.get? a=some o
 | .xd fs=>∃ mA,h.Ns1 a mA∧∀ f,RelO (fs.lookup f) (mA f)
 | .rng lo hi=>∃ t u v,h.get? a=some { cls:=.type "range",data:=.fields #[.int lo t,.int hi u,.int 1 v] }
 | .frz o u=>h.get? a=some o∧ObjOk H h a u
 | .tbl ps=>h.get? a=some { cls:=.none,data:=.fields ps }
 | .met f x=>h.get? a=some (PySem.W.methodObj (.ref f) (.ref x))
 | .ext φ=>φ h∧(∃ o,h.get? a=some o)∧∀ h1 h2:Heap,φ h1→(∀ o,h1.get? a=some o→h2.get? a=some o)→φ h2
def HOk (H:Hp) (h:Heap):Prop:=∀ a o,H a=some o→ObjOk P w H h a o
end
section
variable {P:Program} {w:World} {H H':Hp} {h h':Heap} {a:Addr} {o:HO}
theorem ObjOk.lt (x:ObjOk P w H h a o):a < h.objs.size:=by
 cases o with
 | lst xs=>obtain⟨_,_,_,_,e⟩:=x; exact Heap.lt_size e
 | tup xs=>obtain⟨_,_,_,p⟩:=x; exact p.lt
 | dK kvs=>obtain⟨_,_,_,_,o,_,_,e,_⟩:=x; exact Heap.lt_size e
 | dT kvs=>obtain⟨_,_,_,_,o,_,_,e,_⟩:=x; exact Heap.lt_size e
 | set S n=>obtain⟨o,_,_,_,e,_⟩:=x; exact Heap.lt_size e
 | ins C dx fs=>obtain⟨_,_,_,e,_⟩:=x; exact Heap.lt_size e
 | own y=>obtain⟨_,e⟩:=x; exact Heap.lt_size e
 | xd fs=>obtain⟨_,⟨_,_,_,e,_⟩,_⟩:=x; exact Heap.lt_size e
 | rng lo hi=>obtain⟨_,_,_,e⟩:=x; exact Heap.lt_size e
 | frz ob u=>obtain⟨e,_⟩:=x; exact Heap.lt_size e
 | tbl ps=>exact Heap.lt_size (show h.get? a=some _ from x)
 | met f y=>exact Heap.lt_size (show h.get? a=some _ from x)
 | ext φ=>obtain⟨_,⟨_,e⟩,_⟩:=x; exact Heap.lt_size e
theorem Paired.mapP {α β:Type} {F G:α→β→Prop}:∀ {l₁:List α} {l₂:List β},Paired F l₁ l₂→(∀ a b,F a b→G a b)→Paired G l₁ l₂
 | _,_,.nil,_=>.nil
 | _,_,.cons r t,f=>.cons (f _ _ r) (Paired.mapP t f)
theorem ObjOk.stay (x:ObjOk P w H h a o) (k:∀ b u,(b=a∨H b=some (.own a))→h.get? b=some u→h'.get? b=some u)
  (ho:∀ b,H b=some (.own a)→H' b=some (.own a)) (ht:∀ b xs,H b=some (.tup xs)→H' b=some (.tup xs)):ObjOk P w H' h' a o:=by
 induction o with
 | lst xs=>obtain⟨z,its,n,r,e⟩:=x; exact⟨z,its,n,r,k _ _ (.inl rfl) e⟩
 | tup xs=>obtain⟨z,its,r,ob,e,c⟩:=x; exact⟨z,its,r,ob,k _ _ (.inl rfl) e,c⟩
 | dK kvs=>obtain⟨z,y,vs,r,ob,es,ep,e,c⟩:=x; exact⟨z,y,vs,r,ob,es,ep,k _ _ (.inl rfl) e,c⟩
 | dT kvs =>
  obtain⟨z,y,xs,r,ob,es,ep,e,c⟩:=x
  exact⟨z,y,xs,Paired.mapP r fun p q z=>⟨z.1,ht _ _ z.2.1,z.2.2⟩,ob,es,ep,k _ _ (.inl rfl) e,c⟩
 | set S n=>obtain⟨ob,es,ep,t,e,c⟩:=x; exact⟨ob,es,ep,t,k _ _ (.inl rfl) e,c⟩
 | ins C dx fs =>
  obtain⟨d,z,ne,e,mA,⟨od,es,ep,e2,c⟩,r⟩:=x
  exact⟨ho _ d,z,ne,k _ _ (.inl rfl) e,mA,⟨od,es,ep,k _ _ (.inr d) e2,c⟩,r⟩
 | own y=>obtain⟨ob,e⟩:=x; exact⟨ob,k _ _ (.inl rfl) e⟩
 | xd fs=>obtain⟨mA,⟨od,es,ep,e,c⟩,r⟩:=x; exact⟨mA,⟨od,es,ep,k _ _ (.inl rfl) e,c⟩,r⟩
 | rng lo hi=>obtain⟨t,u,v,e⟩:=x; exact⟨t,u,v,k _ _ (.inl rfl) e⟩
 | frz ob u ih=>obtain⟨e,q⟩:=x; exact⟨k _ _ (.inl rfl) e,ih q⟩
 | tbl ps =>
  have e:h.get? a=some { cls:=.none,data:=.fields ps }:=x
  show h'.get? a=some { cls:=.none,data:=.fields ps }
  exact k a _ (.inl rfl) e
 | met f y =>
  have e:h.get? a=some (PySem.W.methodObj (.ref f) (.ref y)):=x
  show h'.get? a=some (PySem.W.methodObj (.ref f) (.ref y))
  exact k a _ (.inl rfl) e
 | ext φ=>obtain⟨p,⟨o,e⟩,st⟩:=x; exact⟨st _ _ p fun o q=>k _ _ (.inl rfl) q,⟨o,k _ _ (.inl rfl) e⟩,st⟩
theorem HOk.lt (x:HOk P w H h) (e:H a=some o):a < h.objs.size:=(x a o e).lt
theorem HOk.fresh (x:HOk P w H h) (e:h.objs.size≤a):H a=none:=by
 cases q:H a with
 | none=>rfl
 | some u=>exact absurd (zO (x.lt q) e) (qN _)
theorem HOk.kept (x:HOk P w H h) (k:∀ b u,h.get? b=some u→h'.get? b=some u):HOk P w H h':=fun a o e =>
 (x a o e).stay (fun b u _ q=>k b u q) (fun _ q=>q) fun _ _ q=>q
theorem HOk.laid (x:HOk P w H h) (k:∀ b u,h.get? b=some u→h'.get? b=some u) (hp:h.objs.size≤a) (new:ObjOk P w (upd H a o) h' a o):HOk P w (upd H a o) h':=fun b u e=>by
 have hn:=x.fresh hp
 by_cases hb:b=a
 ·subst hb; rw[upd_same] at e; cases e; exact new
 ·rw[upd_ne hb] at e
  exact(x b u e).stay (fun c v _ q=>k c v q) (fun c q=>by rw[upd_ne (ne_of_none q hn)]; exact q) fun c xs q=>by rw[upd_ne (ne_of_none q hn)]; exact q
end
def Rd (H:Hp) (a:Addr) (u:HO):Prop:=H a=some u∨∃ o,H a=some (.frz o u)
theorem Rd.ok {P:Program} {w:World} {H:Hp} {h:Heap} {a:Addr} {u:HO} (r:Rd H a u) (x:HOk P w H h):ObjOk P w H h a u:=by
 rcases r with r|⟨o,r⟩
 ·exact x a u r
 ·obtain⟨_,q⟩:=x a _ r
  exact q
def Mut:Option HO→Prop
 | some (.lst _)=>True
 | some (.dK _)=>True
 | some (.dT _)=>True
 | some (.set _ _)=>True
 | some (.ins _ _ _)=>True
 | some (.ext _)=>True
 | _=>False
section
variable {P:Program} {w:World} {H:Hp} {h h':Heap} {x e:Addr} {o':HO}
theorem HOk.write (ok:HOk P w H h) (mu:Mut (H x)) (he:e=x∨H e=some (.own x)) (k:∀ b u,b ≠ e→h.get? b=some u→h'.get? b=some u) (heo:∃ u,h'.get? e=some u)
  (new:ObjOk P w (upd H x o') h' x o'):HOk P w (upd H x o') h':=fun b u q=>by
 have nown:∀ c y,H c=some (.own y)→c ≠ x:=fun c y r z=>by subst z; rw[r] at mu; exact mu
 have ntup:∀ c xs,H c=some (.tup xs)→c ≠ x:=fun c xs r z=>by subst z; rw[r] at mu; exact mu
 by_cases hb:b=x
 ·subst hb; rw[upd_same] at q; cases q; exact new
 ·rw[upd_ne hb] at q
  by_cases hbe:b=e
  ·have q':H b=some (.own x):=by
    rcases he with z|z
    ·exact absurd (hbe.trans z) hb
    ·rw[hbe]; exact z
   rw[q] at q'; cases q'
   obtain⟨v,hv⟩:=heo
   exact⟨v,by rw[hbe]; exact hv⟩
  ·refine(ok b u q).stay (fun c v hc r=>k c v ?_ r) (fun c r=>by rw[upd_ne (nown c b r)]; exact r) fun c xs r=>by rw[upd_ne (ntup c xs r)]; exact r
   rcases hc with rfl|hc
   ·exact hbe
   ·rintro rfl
    rcases he with z|z
    ·exact nown c b hc z
    ·rw[hc] at z; cases z; exact hb rfl
end
structure Un (fs ex:List Addr) (H H':Hp) (h h':Heap):Prop where
 keep:∀ b o,h.get? b=some o→H b=none→b ∉ fs→b ∉ ex→h'.get? b=some o
 slot:∀ b o,h.get? b=some o→H b=none→b ∈ fs→b ∉ ex→∃ sl,h'.get? b=some { o with slots:=sl }
 free:∀ b o,h.get? b=some o→H b=none→b ∉ ex→H' b=none
 there:∀ b o,h.get? b=some o→b ∉ ex→∃ o',h'.get? b=some o'
 tups:∀ b xs,H b=some (.tup xs)→H' b=some (.tup xs)
 frzs:∀ b o u,H b=some (.frz o u)→H' b=some (.frz o u)
 tbls:∀ b ps,H b=some (.tbl ps)→∃ more,H' b=some (.tbl (ps++more))
section
variable {fs fs' ex ex':List Addr} {H H1 H2:Hp} {h h1 h2 h':Heap} {a x e:Addr} {o:HO}
theorem Un.any (u:Un fs ex H H1 h h1) {b:Addr} {ob:Obj} (q:h.get? b=some ob) (n:H b=none) (hx:b ∉ ex):∃ sl,h1.get? b=some { ob with slots:=sl }:=by
 by_cases hb:b ∈ fs
 ·exact u.slot b ob q n hb hx
 ·exact⟨ob.slots,u.keep b ob q n hb hx⟩
theorem Un.kept (k:∀ b u,h.get? b=some u→h'.get? b=some u):Un fs ex H H h h' :=
 ⟨fun b ob q _ _ _=>k b ob q,fun b ob q _ _ _=>⟨ob.slots,k b ob q⟩,fun _ _ _ n _=>n,fun b ob q _=>⟨ob,k b ob q⟩,fun _ _ q=>q,fun _ _ _ q=>q,fun _ ps q=>⟨#[],by rw[q]; simp⟩⟩
theorem Un.refl:Un fs ex H H h h:=Un.kept fun _ _ q=>q
theorem Un.laid (k:∀ b u,h.get? b=some u→h'.get? b=some u) (hp:h.objs.size≤a) (hn:H a=none):Un fs ex H (upd H a o) h h' where
 keep:=fun b u q _ _ _=>k b u q
 slot:=fun b u q _ _ _=>⟨u.slots,k b u q⟩
 free:=fun b u q n _=>by rw[upd_ne (zY (zO (Heap.lt_size q) hp))]; exact n
 there:=fun b u q _=>⟨u,k b u q⟩
 tups:=fun b xs q=>by rw[upd_ne (ne_of_none q hn)]; exact q
 frzs:=fun b u xs q=>by rw[upd_ne (ne_of_none q hn)]; exact q
 tbls:=fun b ps q=>⟨#[],by rw[upd_ne (ne_of_none q hn),q]; simp⟩
theorem Un.write (mu:Mut (H x)) (he:e=x∨H e=some (.own x)) (k:∀ b u,b ≠ e→h.get? b=some u→h'.get? b=some u) (heo:∃ u,h'.get? e=some u):Un fs ex H (upd H x o) h h':=by
 have hx:∀ b,H b=none→b ≠ x:=fun b n z=>by subst z; rw[n] at mu; exact mu
 have hb:∀ b,H b=none→b ≠ e:=fun b n z=>by
  subst z
  rcases he with r|r
  ·exact hx b n r
  ·rw[n] at r; cases r
 have hm:∀ b u,H b=some u→¬ Mut (some u)→b ≠ x:=fun b u q nm z=>by subst z; rw[q] at mu; exact nm mu
 refine⟨fun b u q n _ _=>k b u (hb b n) q,fun b u q n _ _=>⟨u.slots,k b u (hb b n) q⟩,fun b u q n _=>by rw[upd_ne (hx b n)]; exact n,fun b u q _=>?_,
  fun b xs q=>by rw[upd_ne (hm b _ q fun z=>z)]; exact q,fun b u xs q=>by rw[upd_ne (hm b _ q fun z=>z)]; exact q,fun b ps q=>⟨#[],by rw[upd_ne (hm b _ q fun z=>z),q]; simp⟩⟩
 by_cases hbe:b=e
 ·subst hbe; exact heo
 ·exact⟨u,k b u hbe q⟩
end
def trk (h:Heap) (H:Hp):List Addr:=(List.range h.objs.size).filter fun a=>(H a).isSome
def hidT (h:Heap) (H:Hp):Heap:=PySem.W.hideAll h (trk h H)
theorem hidT_size (h:Heap) (H:Hp):(hidT h H).objs.size=h.objs.size:=PySem.W.hideAll_size _ _
theorem hidT_get {h:Heap} {H:Hp} {b:Addr} {o:Obj} (e:h.get? b=some o) (n:H b=none):(hidT h H).get? b=some o :=
 PySem.W.hideAll_get _ e fun hm=>by
  have q:(H b).isSome=true:=(yJ.mp hm).2
  rw[n] at q; simp at q
theorem of_hidT {h:Heap} {H:Hp} {b:Addr} {o:Obj} (e:(hidT h H).get? b=some o):h.get? b=some o∧H b=none:=by
 have e':h.get? b=some o:=PySem.W.of_hideAll (trk h H) e
 refine⟨e',?_⟩
 cases q:H b with
 | none=>rfl
 | some x =>
  have hm:b ∈ trk h H:=yJ.mpr ⟨yV.mpr (Heap.lt_size e'),by simp [q]⟩
  have z:(hidT h H).get? b=none:=PySem.W.hideAll_none (trk h H) hm
  rw[z] at e; cases e
end L2
namespace L2
open PySem PySem.Spec PyProof.Rows
structure Mod (K:PySem.W.Frag) (mg:Str→Option Value) (base:Heap):Prop where
 kin:K.In base
 glob:base.Ns mainGlobals mg
 blt:∃ mb,base.Ns builtinsNs mb∧∀ x:Str,x ≠ "__name__"→mb x=bootBuiltins x
 nolimit:base.NoLimit
set_option genInjectivity false in
set_option genSizeOf false in
structure Cx where
 prog:Program
 w:World
 K:PySem.W.Frag
 mg:Str→Option Value
 base:Heap
 A:Around
 N:List Str
 s₀:Shared
 H₀:Hp
 env:Env
 outer:List Env
 stack:List Env
 ex:List Addr
 fn:Str→Bool
 calm:Bool
 pn:List (Addr × Obj)
 xe:Value→Shared→Prop
def frs (l:List Env):List Addr:=l.filterMap (·.frame)
abbrev Cx.fs (X:Cx):List Addr:=frs X.outer
def Vis (sc:Scope) (x:Str):Prop:=sc.names.lookup x=some .local∨sc.names.lookup x=some .cell∨sc.names.lookup x=some .free
def Loc (sc:Scope) (x:Str):Prop:=sc.names.lookup x=some .local∨sc.names.lookup x=some .cell
def Look (env:Env) (h:Heap) (m:Str→Option Value) (x:Str) (u:Value):Prop :=
 (env.kindOf x=some .local∧m x=some u)∨((env.kindOf x=some .cell∨env.kindOf x=some .free)∧∃ c,env.cells.lookup x=some c∧h.IsCell c (some u))
structure Cx.Ok (X:Cx):Prop where
 mod:Mod X.K X.mg X.base
 kind:X.env.scope.kind=.function
 glob:X.env.globals=mainGlobals
 blt:X.env.builtins=builtinsNs
 above:X.s₀.heap.objs.size≤X.env.locals
 inj:∀ x y c,X.env.cells.lookup x=some c→X.env.cells.lookup y=some c→x=y
 has:∀ x,(X.env.kindOf x=some .cell∨X.env.kindOf x=some .free)→∃ c,X.env.cells.lookup x=some c
 cab:∀ x c,X.fn x=true→X.env.cells.lookup x=some c→X.s₀.heap.objs.size≤c
 hd:X.calm=true→X.A.handled=none
 frames:X.A.frames=some X.stack
 stk:X.stack=X.outer∨(X.stack=X.env::X.outer∧X.env.frame=some X.env.locals)
 exf:∀ b ∈ X.ex,b ≠ X.env.locals∧∀ x c,X.env.cells.lookup x=some c→c ≠ b
 bs:∀ b o,X.base.get? b=some o→X.s₀.heap.get? b=some o∧X.H₀ b=none
 bsz:X.base.objs.size≤X.s₀.heap.objs.size
 noex:∀ b o,X.base.get? b=some o→b ∉ X.ex
 exfs:∀ b ∈ X.ex,b ∉ X.fs
 funs:X.s₀.heap.FunFrames X.base X.outer
 frf:∀ b ∈ X.fs,X.H₀ b=none
structure Inv (X:Cx) (pins:List (Addr × Obj)) (σ:List (Option V)) (H:Hp) (s:Shared):Prop where
 ok:X.Ok
 os:s.os=X.s₀.os
 bare:AllBare s.gens
 base:Un X.fs X.ex X.H₀ H X.s₀.heap s.heap
 loc:∃ m,s.heap.Ns X.env.locals m∧∀(i:Nat) (x:Str) (v:V),X.N[i]?=some x→σ[i]?=some (some v)→Vis X.env.scope x→∃ u,RelV v u∧Look X.env s.heap m x u
 cell:∀ x c,X.env.cells.lookup x=some c→∃ v,s.heap.IsCell c v
 free:H X.env.locals=none
 freeC:∀ x c,X.env.cells.lookup x=some c→H c=none
 pin:∀ p ∈ X.pn++pins,s.heap.get? p.1=some p.2∧H p.1=none∧p.1 ≠ X.env.locals∧p.1 ∉ X.fs∧∀ v,p.2.data ≠ .cell v
 hok:HOk X.prog X.w H s.heap
 len:σ.length=X.N.length
section
variable {X:Cx} {pins:List (Addr × Obj)} {σ:List (Option V)} {H H':Hp} {s:Shared} {h':Heap}
theorem Cx.Ok.nofr (ok:X.Ok) {b:Addr} {o:Obj} (e:X.base.get? b=some o):b ∉ X.fs:=fun hb=>by
 have:=(ok.funs.mem hb).1
 rw[e] at this; cases this
theorem Inv.bs (I:Inv X pins σ H s):∀ b o,X.base.get? b=some o→s.heap.get? b=some o∧H b=none:=fun b o e =>
 ⟨I.base.keep b o (I.ok.bs b o e).1 (I.ok.bs b o e).2 (I.ok.nofr e) (I.ok.noex b o e),I.base.free b o (I.ok.bs b o e).1 (I.ok.bs b o e).2 (I.ok.noex b o e)⟩
theorem Inv.bk (I:Inv X pins σ H s):∀ b o,X.base.get? b=some o→s.heap.get? b=some o:=fun b o e=>(I.bs b o e).1
theorem Inv.mod (I:Inv X pins σ H s):Mod X.K X.mg X.base:=I.ok.mod
theorem Inv.kIn (I:Inv X pins σ H s):X.K.In s.heap:=I.ok.mod.kin.keeps I.bk
theorem Inv.nolimit (I:Inv X pins σ H s):s.heap.NoLimit:=I.ok.mod.nolimit.keeps I.bk
theorem Inv.lt (I:Inv X pins σ H s):X.env.locals < s.heap.objs.size:=let ⟨_,hn,_⟩:=I.loc; hn.lt
theorem Inv.sz (I:Inv X pins σ H s):X.s₀.heap.objs.size≤s.heap.objs.size:=yA I.ok.above (yZ I.lt)
theorem Inv.nofs (I:Inv X pins σ H s) {a:Addr} (h:s.heap.objs.size≤a):a ∉ X.fs:=fun hb=>by
 obtain⟨_,o,ho,_⟩:=I.ok.funs.mem hb
 exact absurd (zO (Heap.lt_size ho) (yA I.sz h)) (qN _)
theorem Inv.cne (I:Inv X pins σ H s):∀ x c,X.env.cells.lookup x=some c→c ≠ X.env.locals:=fun x c e z=>by
 obtain⟨v,o,ho,hd⟩:=I.cell x c e
 obtain⟨m,⟨o',es,ep,ho',hd',_⟩,_⟩:=I.loc
 rw[z,ho'] at ho; cases ho; rw[hd'] at hd; cases hd
theorem Inv.funs (I:Inv X pins σ H s):s.heap.FunFrames X.base X.outer:=by
 have all:∀(l:List Env),(∀ b ∈ frs l,b ∈ X.fs)→X.s₀.heap.FunFrames X.base l→s.heap.FunFrames X.base l:=by
  intro l
  induction l with
  | nil=>intro _ _; trivial
  | cons env r ih =>
   intro hs hl
   obtain⟨hk,⟨L,o,hf,hn,ho,hd⟩,hr⟩:=hl
   have hL:L ∈ X.fs:=hs L (by unfold frs; rw[j7,hf]; exact zN)
   obtain⟨sl,e⟩:=I.base.slot L o ho (I.ok.frf L hL) hL fun z=>I.ok.exfs L z hL
   exact⟨hk,⟨L,_,hf,hn,e,hd⟩,ih (fun b hb=>hs b (by unfold frs; rw[j7,hf]; exact zI _ hb)) hr⟩
 exact all X.outer (fun _ hb=>hb) I.ok.funs
theorem Inv.stack (I:Inv X pins σ H s):s.heap.FunFrames X.base X.stack:=by
 rcases I.ok.stk with e|⟨e,hf⟩
 ·rw[e]; exact I.funs
 ·rw[e]
  obtain⟨m,hn,_⟩:=I.loc
  refine .cons (by rw[I.ok.kind]; decide) hf hn ?_ I.funs
  exact Heap.get?_none_of_le (yA I.ok.bsz I.ok.above)
theorem Inv.stkSub (I:Inv X pins σ H s):∀ b ∈ frs X.stack,b ∈ X.env.locals::X.fs:=fun b hb=>by
 rcases I.ok.stk with e|⟨e,hf⟩
 ·rw[e] at hb; exact zI _ hb
 ·rw[e] at hb
  unfold frs at hb
  rw[j7,hf] at hb
  exact hb
theorem Inv.stkFree (I:Inv X pins σ H s):∀ b ∈ frs X.stack,H b=none:=fun b hb=>by
 rcases zT.mp (I.stkSub b hb) with e|hb
 ·rw[e]; exact I.free
 ·obtain⟨_,o,ho,_⟩:=I.ok.funs.mem hb
  exact I.base.free b o ho (I.ok.frf b hb) fun z=>I.ok.exfs b z hb
theorem Inv.step {g':Array GenState} {t':Nat} {d':Drawn} {ch:List Addr} (I:Inv X pins σ H s)
  (hch:∀ b ∈ ch,(b ∈ X.ex∨X.s₀.heap.objs.size≤b)∧b ≠ X.env.locals∧(∀ x c,X.env.cells.lookup x=some c→c ≠ b)∧∀ p ∈ X.pn++pins,p.1 ≠ b)
  (keep:∀ b o,b ≠ X.env.locals→b ∉ X.fs→b ∉ ch→s.heap.get? b=some o→H b=none→h'.get? b=some o)
  (slot:∀ b o,b ≠ X.env.locals→b ∈ X.fs→b ∉ ch→s.heap.get? b=some o→H b=none→∃ sl,h'.get? b=some { o with slots:=sl }) (free:∀ b o,b ∉ ch→s.heap.get? b=some o→H b=none→H' b=none)
  (there:∀ b o,b ∉ ch→s.heap.get? b=some o→∃ o',h'.get? b=some o')
  (tups:∀ b xs,H b=some (.tup xs)→H' b=some (.tup xs)) (frzs:∀ b o u,H b=some (.frz o u)→H' b=some (.frz o u)) (tbls:∀ b ps,H b=some (.tbl ps)→∃ more,H' b=some (.tbl (ps++more)))
  (ns:∀ m,s.heap.Ns X.env.locals m→h'.Ns X.env.locals m) (hok:HOk X.prog X.w H' h') (hg:AllBare g') :
  Inv X pins σ H' { s with heap:=h',gens:=g',drawn:=d',toks:=t' }:=by
 have neL:∀ b o,X.s₀.heap.get? b=some o→b ≠ X.env.locals:=fun b o e=>zY (zO (Heap.lt_size e) I.ok.above)
 have neC:∀ b o,X.s₀.heap.get? b=some o→b ∉ X.ex→b ∉ ch:=fun b o e hx hb=>by
  rcases(hch b hb).1 with z|z
  ·exact hx z
  ·exact absurd (zO (Heap.lt_size e) z) (qN _)
 have cellK:∀ x c,X.env.cells.lookup x=some c→∀ v,s.heap.IsCell c v→h'.IsCell c v:=fun x c e v ⟨o,ho,hd⟩=>by
  have nch:c ∉ ch:=fun z=>(hch c z).2.2.1 x c e rfl
  by_cases hc:c ∈ X.fs
  ·obtain⟨sl,q⟩:=slot c o (I.cne x c e) hc nch ho (I.freeC x c e)
   exact⟨_,q,hd⟩
  ·exact⟨o,keep c o (I.cne x c e) hc nch ho (I.freeC x c e),hd⟩
 refine⟨I.ok,I.os,hg,⟨fun b o e n hb hx=>?_,fun b o e n hb hx=>?_,fun b o e n hx=>?_,fun b o e hx=>?_,fun b xs e=>tups b xs (I.base.tups b xs e),fun b o xs e=>frzs b o xs (I.base.frzs b o xs e),fun b ps e=>?_⟩,?_,fun x c e=>?_,?_,fun x c e=>?_,fun p hp=>?_,hok,I.len⟩
 ·exact keep b o (neL b o e) hb (neC b o e hx) (I.base.keep b o e n hb hx) (I.base.free b o e n hx)
 ·obtain⟨sl,e1⟩:=I.base.slot b o e n hb hx
  obtain⟨sl',e2⟩:=slot b _ (neL b o e) hb (neC b o e hx) e1 (I.base.free b o e n hx)
  exact⟨sl',e2⟩
 ·obtain⟨o',e1⟩:=I.base.there b o e hx
  exact free b o' (neC b o e hx) e1 (I.base.free b o e n hx)
 ·obtain⟨o',e1⟩:=I.base.there b o e hx
  exact there b o' (neC b o e hx) e1
 ·obtain⟨m1,e1⟩:=I.base.tbls b ps e
  obtain⟨m2,e2⟩:=tbls b _ e1
  exact⟨m1++m2,by rw[e2,Array.append_assoc]⟩
 ·obtain⟨m,hn,hl⟩:=I.loc
  refine⟨m,ns m hn,fun i x v e1 e2 e3=>?_⟩
  obtain⟨u,r,l⟩:=hl i x v e1 e2 e3
  refine⟨u,r,?_⟩
  rcases l with l|⟨k,c,e,z⟩
  ·exact .inl l
  ·exact .inr ⟨k,c,e,cellK x c e _ z⟩
 ·obtain⟨v,z⟩:=I.cell x c e
  exact⟨v,cellK x c e v z⟩
 ·obtain⟨m,⟨o,_,_,ho,_⟩,_⟩:=I.loc
  exact free _ o (fun z=>(hch _ z).2.1 rfl) ho I.free
 ·obtain⟨v,o,ho,hd⟩:=I.cell x c e
  exact free c o (fun z=>(hch c z).2.2.1 x c e rfl) ho (I.freeC x c e)
 ·obtain⟨e,n,ne,nf,d⟩:=I.pin p hp
  have nch:p.1 ∉ ch:=fun z=>(hch p.1 z).2.2.2 p hp rfl
  exact⟨keep p.1 p.2 ne nf nch e n,free p.1 p.2 nch e n,ne,nf,d⟩
theorem Inv.un {t':Nat} (I:Inv X pins σ H s) (u:Un X.fs [] H H' s.heap h') (hok:HOk X.prog X.w H' h'):Inv X pins σ H' { s with heap:=h',toks:=t' }:=by
 obtain⟨m,⟨o,es,ep,ho,r⟩,_⟩:=id I.loc
 obtain⟨sl,hL⟩:=u.any ho I.free (by simp)
 exact I.step (g':=s.gens) (d':=s.drawn) (ch:=[]) (fun _ z=>nomatch z) (fun b o _ hb _ e n=>u.keep b o e n hb (by simp)) (fun b o _ hb _ e n=>u.slot b o e n hb (by simp)) (fun b o _ e n=>u.free b o e n (by simp)) (fun b o _ e=>u.there b o e (by simp)) u.tups u.frzs u.tbls (fun m' hm=>by
  obtain⟨o',es',ep',ho',r'⟩:=hm
  rw[ho] at ho'; cases ho'
  exact⟨_,es',ep',hL,r'⟩) hok I.bare
theorem Inv.call {g':Array GenState} {t':Nat} {d':Drawn} {ch:List Addr} (I:Inv X pins σ H s) (u:Un (frs X.stack) ch H H' s.heap h') (hok:HOk X.prog X.w H' h') (hg:AllBare g')
  (hch:∀ b ∈ ch,(b ∈ X.ex∨X.s₀.heap.objs.size≤b)∧b ≠ X.env.locals∧(∀ x c,X.env.cells.lookup x=some c→c ≠ b)∧∀ p ∈ X.pn++pins,p.1 ≠ b) :
  Inv X pins σ H' { s with heap:=h',gens:=g',drawn:=d',toks:=t' }:=by
 obtain⟨m,⟨o,es,ep,ho,r⟩,_⟩:=id I.loc
 obtain⟨sl,hL⟩:=u.any ho I.free fun z=>(hch _ z).2.1 rfl
 exact I.step (ch:=ch) hch (fun b o hL hb hc e n=>u.keep b o e n (fun z=>(zT.mp (I.stkSub b z)).elim hL hb) hc) (fun b o _ _ hc e n=>u.any e n hc) (fun b o hc e n=>u.free b o e n hc) (fun b o hc e=>u.there b o e hc) u.tups u.frzs u.tbls (fun m' hm=>by
  obtain⟨o',es',ep',ho',r'⟩:=hm
  rw[ho] at ho'; cases ho'
  exact⟨_,es',ep',hL,r'⟩) hok hg
theorem Inv.turned {t':Nat} {it:Addr} (I:Inv X pins σ H s) (k:∀ b o,b ≠ it→s.heap.get? b=some o→h'.get? b=some o) (hn:H it=none) (hL:it ≠ X.env.locals)
  (h1:it ∈ X.ex∨X.s₀.heap.objs.size≤it) (h2:∀ x c,X.env.cells.lookup x=some c→c ≠ it) (h3:∀ p ∈ X.pn++pins,p.1 ≠ it):Inv X pins σ H { s with heap:=h',toks:=t' }:=by
 have nit:∀ b u,H b=some u→b ≠ it:=fun b u e z=>by rw[z,hn] at e; cases e
 refine I.step (g':=s.gens) (d':=s.drawn) (ch:=[it]) (fun b hb=>?_) (fun b o _ _ hc e _=>k b o (fun z=>hc (by simp [z])) e) (fun b o _ _ hc e _=>⟨o.slots,k b o (fun z=>hc (by simp [z])) e⟩) (fun _ _ _ _ n=>n)
  (fun b o hc e=>⟨o,k b o (fun z=>hc (by simp [z])) e⟩) (fun _ _ e=>e) (fun _ _ _ e=>e) (fun b ps e=>⟨#[],by rw[e]; simp⟩) (fun m hm=>?_) (fun b u e=>?_) I.bare
 ·have e:b=it:=by simpa using hb
  subst e
  exact⟨h1,hL,h2,h3⟩
 ·obtain⟨o,es,ep,ho,r⟩:=hm
  exact⟨o,es,ep,k _ o (Ne.symm hL) ho,r⟩
 ·refine(I.hok b u e).stay (fun c v hc q=>k c v ?_ q) (fun _ q=>q) fun _ _ q=>q
  rcases hc with z|z
  ·rw[z]; exact nit b u e
  ·exact nit c _ z
theorem Inv.tok (I:Inv X pins σ H s) (t:Nat):Inv X pins σ H { s with toks:=t }:=I.un (h':=s.heap) (t':=t) Un.refl I.hok
theorem Inv.kept {t':Nat} (I:Inv X pins σ H s) (k:∀ b u,s.heap.get? b=some u→h'.get? b=some u):Inv X pins σ H { s with heap:=h',toks:=t' }:=I.un (Un.kept k) (I.hok.kept k)
theorem Inv.laid {a:Addr} {o:HO} {t':Nat} (I:Inv X pins σ H s) (k:∀ b u,s.heap.get? b=some u→h'.get? b=some u) (hp:s.heap.objs.size≤a) (new:ObjOk X.prog X.w (upd H a o) h' a o) :
  Inv X pins σ (upd H a o) { s with heap:=h',toks:=t' }:=I.un (Un.laid k hp (I.hok.fresh hp)) (I.hok.laid k hp new)
theorem Inv.write {x e:Addr} {o:HO} {t':Nat} (I:Inv X pins σ H s) (mu:Mut (H x)) (he:e=x∨H e=some (.own x)) (k:∀ b u,b ≠ e→s.heap.get? b=some u→h'.get? b=some u) (heo:∃ u,h'.get? e=some u)
  (new:ObjOk X.prog X.w (upd H x o) h' x o):Inv X pins σ (upd H x o) { s with heap:=h',toks:=t' }:=I.un (Un.write mu he k heo) (I.hok.write mu he k heo new)
theorem Inv.pins_of {pins':List (Addr × Obj)} (I:Inv X pins σ H s) (h:∀ p ∈ pins',s.heap.get? p.1=some p.2∧H p.1=none∧p.1 ≠ X.env.locals∧p.1 ∉ X.fs∧∀ v,p.2.data ≠ .cell v):Inv X pins' σ H s :=
 ⟨I.ok,I.os,I.bare,I.base,I.loc,I.cell,I.free,I.freeC,fun p hp=>(yE.mp hp).elim (fun z=>I.pin p (yS _ z)) (h p),I.hok,I.len⟩
theorem nodup_ix {N:List Str} (hN:N.Nodup) {i j:Nat} {x:Str} (a:N[i]?=some x) (b:N[j]?=some x):i=j:=by
 obtain⟨h1,e1⟩:=zA.mp a
 obtain⟨h2,e2⟩:=zA.mp b
 exact(List.getElem_inj hN).mp (e1.trans e2.symm)
theorem store_ok2 {M:Model} {A:Around} {E:Value→Shared→Prop} {i:Nat} {x:Str} {v:V} {u:Value} {Q:Unit→Shared→Prop} (I:Inv X pins σ H s) (hN:X.N.Nodup) (hi:X.N[i]?=some x) (hx:Loc X.env.scope x) (r:RelV v u)
  (h:∀ s',Inv X pins (σ.set i (some v)) H s'→(∃ a,Heap.SameBut a s.heap s'.heap∧(a=X.env.locals∨X.env.cells.lookup x=some a))→Q () s') (hf:X.fn x=true∨X.env.scope.names.lookup x=some .local:=by first|exact .inl rfl|exact .inr rfl|assumption):wpAny M A (storeName X.env x u) Q E s:=by
 obtain⟨m,hn,hl⟩:=id I.loc
 have hcls:(X.env.scope.kind == .class || (X.env.scope.kind == .module && X.env.locals != X.env.globals))=false:=by rw[I.ok.kind]; rfl
 have hiσ:i < σ.length:=by rw[I.len]; exact(zA.mp hi).1
 have cne:=I.cne
 have tracked:∀ {a:Addr} {h':Heap},(∃ o,s.heap.get? a=some o∧H a=none)→Heap.SameBut a s.heap h'→HOk X.prog X.w H h':=fun {a h'} ha hs b ob e=>by
  obtain⟨_,_,hfree⟩:=ha
  refine(I.hok b ob e).stay (fun c w' hc q=>(hs.2 c ?_).trans q) (fun _ q=>q) fun _ _ q=>q
  rintro rfl
  rcases hc with rfl|hc
  ·rw[hfree] at e; cases e
  ·rw[hfree] at hc; cases hc
 rcases hx with hk|hk
 ·refine wpAny_storeName_local hk hn (fun h' hn' hs=>?_) hcls
  obtain⟨oL,_,_,hoL,_⟩:=id hn
  refine h _ ⟨I.ok,I.os,I.bare,⟨fun b o e n hb hx=>?_,fun b o e n hb hx=>?_,I.base.free,fun b o e hx=>?_,I.base.tups,I.base.frzs,I.base.tbls⟩,⟨_,hn',fun j y v' e1 e2 e3=>?_⟩,fun y c e=>?_,I.free,I.freeC,fun p hp=>?_,tracked ⟨oL,hoL,I.free⟩ hs,by simpa using I.len⟩ ⟨_,hs,.inl rfl⟩
  ·exact(hs.2 b (zY (zO (Heap.lt_size e) I.ok.above))).trans (I.base.keep b o e n hb hx)
  ·obtain⟨sl,e1⟩:=I.base.slot b o e n hb hx
   exact⟨sl,(hs.2 b (zY (zO (Heap.lt_size e) I.ok.above))).trans e1⟩
  ·obtain⟨o',e1⟩:=I.base.there b o e hx
   exact⟨o',(hs.2 b (zY (zO (Heap.lt_size e) I.ok.above))).trans e1⟩
  ·by_cases hj:j=i
   ·subst hj
    rw[hi] at e1; cases e1
    rw[y6 hiσ] at e2
    cases e2
    exact⟨u,r,.inl ⟨hk,by simp⟩⟩
   ·rw[qD (Ne.symm hj)] at e2
    obtain⟨u',r',q⟩:=hl j y v' e1 e2 e3
    refine⟨u',r',?_⟩
    rcases q with ⟨k,e⟩|⟨k,c,e,z⟩
    ·refine .inl ⟨k,?_⟩
     have:y ≠ x:=fun e=>hj (nodup_ix hN e1 (e ▸ hi))
     simp [this,e]
    ·exact .inr ⟨k,c,e,z.sameBut hs (cne y c e)⟩
  ·obtain⟨w',z⟩:=I.cell y c e
   exact⟨w',z.sameBut hs (cne y c e)⟩
  ·obtain⟨e,n,ne,nf,d⟩:=I.pin p hp
   exact⟨(hs.2 p.1 ne).trans e,n,ne,nf,d⟩
 ·have hfn:X.fn x=true:=by
   rcases hf with z|z
   ·exact z
   ·rw[z] at hk; cases hk
  obtain⟨c,hc⟩:=I.ok.has x (.inl hk)
  obtain⟨w',z⟩:=I.cell x c hc
  refine wpAny_storeName_cell I.ok.kind hk hc z (fun h' hc' hs=>?_)
  obtain⟨oc,hoc,hocd⟩:=id z
  refine h { s with heap:=h' } ⟨I.ok,I.os,I.bare,⟨fun b o e n hb hx=>?_,fun b o e n hb hx=>?_,I.base.free,fun b o e hx=>?_,I.base.tups,I.base.frzs,I.base.tbls⟩,⟨m,hn.sameBut hs (Ne.symm (cne x c hc)),fun j y v' e1 e2 e3=>?_⟩,fun y c' e=>?_,I.free,I.freeC,fun p hp=>?_,tracked ⟨oc,hoc,I.freeC x c hc⟩ hs,by simpa using I.len⟩ ⟨c,hs,.inr hc⟩
  ·exact(hs.2 b (zY (zO (Heap.lt_size e) (I.ok.cab x c hfn hc)))).trans (I.base.keep b o e n hb hx)
  ·obtain⟨sl,e1⟩:=I.base.slot b o e n hb hx
   exact⟨sl,(hs.2 b (zY (zO (Heap.lt_size e) (I.ok.cab x c hfn hc)))).trans e1⟩
  ·obtain⟨o',e1⟩:=I.base.there b o e hx
   exact⟨o',(hs.2 b (zY (zO (Heap.lt_size e) (I.ok.cab x c hfn hc)))).trans e1⟩
  ·by_cases hj:j=i
   ·subst hj
    rw[hi] at e1; cases e1
    rw[y6 hiσ] at e2
    cases e2
    exact⟨u,r,.inr ⟨.inl hk,c,hc,hc'⟩⟩
   ·rw[qD (Ne.symm hj)] at e2
    obtain⟨u',r',q⟩:=hl j y v' e1 e2 e3
    refine⟨u',r',?_⟩
    rcases q with q|⟨k,c',e,z'⟩
    ·exact .inl q
    ·refine .inr ⟨k,c',e,z'.sameBut hs ?_⟩
     rintro rfl
     exact hj (nodup_ix hN e1 (I.ok.inj _ _ _ e hc ▸ hi))
  ·by_cases hcc:c'=c
   ·subst hcc; exact⟨_,hc'⟩
   ·obtain⟨w2,z2⟩:=I.cell y c' e
    exact⟨w2,z2.sameBut hs hcc⟩
  ·obtain⟨e,n,ne,nf,d⟩:=I.pin p hp
   refine⟨(hs.2 p.1 ?_).trans e,n,ne,nf,d⟩
   intro q
   rw[q,hoc] at e
   have q':oc=p.2:=Option.some.inj e
   exact d w' (by rw[← q']; exact hocd)
theorem store_ok {M:Model} {A:Around} {E:Value→Shared→Prop} {i:Nat} {x:Str} {v:V} {u:Value} {Q:Unit→Shared→Prop} (I:Inv X pins σ H s) (hN:X.N.Nodup) (hi:X.N[i]?=some x) (hx:Loc X.env.scope x) (r:RelV v u)
  (h:∀ s',Inv X pins (σ.set i (some v)) H s'→Q () s') (hf:X.fn x=true∨X.env.scope.names.lookup x=some .local:=by first|exact .inl rfl|exact .inr rfl|assumption):wpAny M A (storeName X.env x u) Q E s :=
 store_ok2 I hN hi hx r (fun s' I' _=>h s' I') hf
theorem Inv.call' {s':Shared} {ch:List Addr} (I:Inv X pins σ H s) (ho:s'.os=s.os) (u:Un (frs X.stack) ch H H' s.heap s'.heap) (hok:HOk X.prog X.w H' s'.heap) (hg:AllBare s'.gens)
  (hch:∀ b ∈ ch,(b ∈ X.ex∨X.s₀.heap.objs.size≤b)∧b ≠ X.env.locals∧(∀ x c,X.env.cells.lookup x=some c→c ≠ b)∧∀ p ∈ X.pn++pins,p.1 ≠ b):Inv X pins σ H' s':=by
 obtain⟨h',g',d',t',o'⟩:=s'
 have e:o'=s.os:=ho
 subst e
 exact I.call (g':=g') (t':=t') (d':=d') u hok hg hch
end
abbrev XK:=Value→Option Addr→Hp→Prop
abbrev St:=List (Option V)
abbrev VK:=V→Hp→Prop
abbrev TE:=St→Hp→VK→Prop
abbrev TT:=St→Hp→(Bool→Hp→Prop)→Prop
abbrev TA:=St→Hp→(List V→Hp→Prop)→Prop
set_option genInjectivity false in
set_option genSizeOf false in
structure Ends where
 nx:St→Hp→Prop
 rt:VK
 bk:St→Hp→Prop:=fun _ _=>False
 ct:St→Hp→Prop:=fun _ _=>False
abbrev TS:=Ends→St→Hp→Prop
inductive EP (X:Cx) (pins:List (Addr × Obj)) (σ:St) (Q:VK) (u:Value) (s':Shared):Prop where
 | mk (v H':_) (h_0:Inv X pins σ H' s') (h_1:RelV v u) (h_2:Q v H'):EP X pins σ Q u s'
inductive TP (X:Cx) (pins:List (Addr × Obj)) (σ:St) (Q:Bool→Hp→Prop) (b:Bool) (s':Shared):Prop where
 | mk (H':_) (h_0:Inv X pins σ H' s') (h_1:Q b H'):TP X pins σ Q b s'
inductive AP (X:Cx) (pins:List (Addr × Obj)) (σ:St) (Q:List V→Hp→Prop) (us:List Value) (s':Shared):Prop where
 | mk (vs H':_) (h_0:Inv X pins σ H' s') (h_1:Vals vs us) (h_2:Q vs H'):AP X pins σ Q us s'
def SP (X:Cx) (pins:List (Addr × Obj)) (D:Ends) (f:Flow) (s':Shared):Prop :=
 match f with
 | .next=>∃ σ' H',Inv X pins σ' H' s'∧D.nx σ' H'
 | .brk=>∃ σ' H',Inv X pins σ' H' s'∧D.bk σ' H'
 | .cont=>∃ σ' H',Inv X pins σ' H' s'∧D.ct σ' H'
 | .ret u=>∃ v σ' H',Inv X pins σ' H' s'∧RelV v u∧D.rt v H'
def PE (X:Cx) (e:Expr) (t:TE):Prop :=
 ∀(pins:List (Addr × Obj)) (s:Shared) (σ:St) (H:Hp) (Q:VK),Inv X pins σ H s→t σ H Q→wpAny (model X.prog X.w) X.A (eval e X.env) (EP X pins σ Q) X.xe s
def PT (X:Cx) (e:Expr) (t:TT):Prop :=
 ∀(pins:List (Addr × Obj)) (s:Shared) (σ:St) (H:Hp) (Q:Bool→Hp→Prop),Inv X pins σ H s→t σ H Q→wpAny (model X.prog X.w) X.A (isTrue e X.env (eval e X.env)) (TP X pins σ Q) X.xe s
def PW (X:Cx) (e:Expr) (t:TT):Prop :=
 ∀(whole:Sem Value) (pins:List (Addr × Obj)) (s:Shared) (σ:St) (H:Hp) (Q:Bool→Hp→Prop),Inv X pins σ H s→t σ H Q→wpAny (model X.prog X.w) X.A (isTrue e X.env whole) (TP X pins σ Q) X.xe s
theorem PW.pt {X:Cx} {e:Expr} {t:TT} (h:PW X e t):PT X e t:=h _
def PA (X:Cx) (es:List Expr) (t:TA):Prop :=
 ∀(pos:Pos) (pins:List (Addr × Obj)) (s:Shared) (σ:St) (H:Hp) (Q:List V→Hp→Prop),Inv X pins σ H s→t σ H Q→wpAny (model X.prog X.w) X.A (spliced (backTo pos (starEach es X.env))) (AP X pins σ Q) X.xe s
def PS (X:Cx) (st:Stmt) (t:TS):Prop :=
 ∀(pins:List (Addr × Obj)) (s:Shared) (σ:St) (H:Hp) (D:Ends),Inv X pins σ H s→t D σ H→wpAny (model X.prog X.w) X.A (exec st X.env) (SP X pins D) X.xe s
def PSs (X:Cx) (st:List Stmt) (t:TS):Prop :=
 ∀(pins:List (Addr × Obj)) (s:Shared) (σ:St) (H:Hp) (D:Ends),Inv X pins σ H s→t D σ H→wpAny (model X.prog X.w) X.A (execs st X.env) (SP X pins D) X.xe s
theorem thn {α:Type} {t:Sem α} {Q Q':α→Shared→Prop} {M:Model} {A:Around} {E:Value→Shared→Prop} {s:Shared} (h:wpAny M A t Q E s) (hQ:∀ a s,Q a s→Q' a s):wpAny M A t Q' E s:=wpAny_mono h hQ fun _ _ x=>x
end L2
namespace L2
open PySem PySem.Spec PyProof.Rows
section
variable {X:Cx}
inductive tVar (i:Nat) (σ:St) (H:Hp) (Q:VK):Prop where
 | mk (v:_) (h_0:σ[i]?=some (some v)) (h_1:Q v H):tVar i σ H Q
def tC (v:V):TE:=fun _ H Q=>Q v H
theorem pe_var {i:Nat} {x:Str} {pos:Pos} (hN:X.N[i]?=some x) (hv:Vis X.env.scope x) (hd:(x == ("__debug__":Str))=false:=by decide) (hcd:(x == ("__classdict__":Str))=false:=by decide):PE X (.Name x pos) (tVar i):=by
 intro pins s σ H Q I h
 obtain⟨v,e,h⟩:=h
 obtain⟨m,hn,hl⟩:=I.loc
 obtain⟨u,r,l⟩:=hl i x v hN e hv
 have fin:EP X pins σ Q u s:=⟨v,H,I,r,h⟩
 rcases l with ⟨hk,hm⟩|⟨hk,c,hc,hcell⟩
 ·exact wpAny_Name (wpAny_loadName_local I.ok.kind hk hn hm fin) hd
 ·rcases hk with hk|hk
  ·exact wpAny_Name (wpAny_loadName_cell I.ok.kind hk hc hcell fin) hd
  ·exact wpAny_Name (wpAny_loadName_free I.ok.kind hk hc hcell fin hcd) hd
theorem pe_int {i j pos}:PE X (.Constant (.int i) j pos) (tC (.int i)):=fun _ _ _ H _ I h=>wpAny_Constant_int ⟨.int i,H,I.tok _,⟨_,rfl⟩,h⟩
theorem pe_bl {b j pos}:PE X (.Constant (.bool b) j pos) (tC (.bl b)):=fun _ _ _ H _ I h=>Constant_bool ⟨.bl b,H,I,rfl,h⟩
theorem pe_non {j pos}:PE X (.Constant .none j pos) (tC .non):=fun _ _ _ H _ I h=>Constant_none ⟨.non,H,I,rfl,h⟩
theorem pe_str {x j pos}:PE X (.Constant (.str x) j pos) (tC (.str x)):=fun _ _ _ H _ I h=>Calls.Constant_str ⟨.str x,H,I.tok _,⟨_,rfl⟩,h⟩
def Gl (X:Cx) (x:Str):Prop:=X.env.kindOf x=some .globalImplicit
theorem ld_glob {E:Value→Shared→Prop} {pins:List (Addr × Obj)} {s:Shared} {σ:St} {H:Hp} {x:Str} {u:Value} {pos:Pos} {Q:Value→Shared→Prop} (I:Inv X pins σ H s) (hg:Gl X x) (hm:X.mg x=some u) (h:Q u s)
  (hd:(x == ("__debug__":Str))=false:=by decide):wpAny (model X.prog X.w) X.A (eval (.Name x pos) X.env) Q E s :=
 Calls.Name_function_global I.ok.kind hg (Calls.loadGlobal_global (by rw[I.ok.glob]; exact I.mod.glob.keeps I.bk) hm h) hd
theorem ld_blt {E:Value→Shared→Prop} {pins:List (Addr × Obj)} {s:Shared} {σ:St} {H:Hp} {x:Str} {u:Value} {pos:Pos} {Q:Value→Shared→Prop} (I:Inv X pins σ H s) (hg:Gl X x) (hm:X.mg x=none) (hv:bootBuiltins x=some u) (h:Q u s)
  (hn:x ≠ "__name__":=by decide) (hd:(x == ("__debug__":Str))=false:=by decide):wpAny (model X.prog X.w) X.A (eval (.Name x pos) X.env) Q E s:=by
 obtain⟨mb,h1,h2⟩:=I.mod.blt
 exact Calls.Name_function_global I.ok.kind hg (Calls.loadGlobal_builtin (by rw[I.ok.glob]; exact I.mod.glob.keeps I.bk) hm (by rw[I.ok.blt]; exact h1.keeps I.bk) ((h2 x hn).trans hv) h) hd
theorem pe_glob {x:Str} {v:V} {u:Value} {pos:Pos} (hg:Gl X x) (hm:X.mg x=some u) (r:RelV v u) (hd:(x == ("__debug__":Str))=false:=by decide):PE X (.Name x pos) (tC v) :=
 fun _ _ _ H _ I h=>ld_glob I hg hm ⟨v,H,I,r,h⟩ hd
variable {a b:Expr} {ta tb:TE} {pos:Pos}
inductive tB_ (Q:Bool→Hp→Prop) (x:V) (H1:Hp):Prop where
 | mk (c:_) (h_0:x=.bl c) (h_1:Q c H1):tB_ Q x H1
def tB (t:TE):TT:=fun σ H Q=>t σ H fun x H1=>tB_ Q x H1
theorem pt_val {e:Expr} {t:TE} (h:PE X e t) (he:∀ whole,isTrue e X.env whole=(do let v ← whole; standAt e.pos; holding [v] (truthy v)):=by intro _; rfl):PT X e (tB t):=by
 intro pins s σ H Q I hw
 refine isTrue_plain (thn (h pins s σ H _ I hw) fun v s1 ⟨x,H1,I1,r1,q1⟩=>?_) (he _)
 obtain⟨d,rfl,q⟩:=q1
 cases r1
 exact wpAny_truthy_bool ⟨H1,I1,q⟩
variable {tA tB':TT} {rest:List Expr}
def tAnd (t u:TT):TT:=fun σ H Q=>t σ H fun c H1=>if c=true then u σ H1 Q else Q false H1
def tOr (t u:TT):TT:=fun σ H Q=>t σ H fun c H1=>if c=true then Q true H1 else u σ H1 Q
theorem pw_and1 (ha:PT X a tA):PW X (.BoolOp .And [a] pos) tA:=by
 intro wh pins s σ H Q I h
 refine isTrue_and (thn (ha pins s σ H Q I h) fun c s1 e=>?_)
 cases c with
 | true=>exact isTrue_and_nil e
 | false=>exact e
theorem pw_or1 (ha:PT X a tA):PW X (.BoolOp .Or [a] pos) tA:=by
 intro wh pins s σ H Q I h
 refine isTrue_or (thn (ha pins s σ H Q I h) fun c s1 e=>?_)
 cases c with
 | false=>exact isTrue_or_nil e
 | true=>exact e
theorem pw_and (ha:PT X a tA) (hb:PW X (.BoolOp .And (b::rest) pos) tB'):PW X (.BoolOp .And (a::b::rest) pos) (tAnd tA tB'):=by
 intro wh pins s σ H Q I h
 refine isTrue_and (thn (ha pins s σ H _ I h) fun c s1 ⟨H1,I1,q1⟩=>?_)
 cases c with
 | true=>exact hb wh pins s1 σ H1 Q I1 q1
 | false=>exact⟨H1,I1,q1⟩
theorem pw_or (ha:PT X a tA) (hb:PW X (.BoolOp .Or (b::rest) pos) tB'):PW X (.BoolOp .Or (a::b::rest) pos) (tOr tA tB'):=by
 intro wh pins s σ H Q I h
 refine isTrue_or (thn (ha pins s σ H _ I h) fun c s1 ⟨H1,I1,q1⟩=>?_)
 cases c with
 | true=>exact⟨H1,I1,q1⟩
 | false=>exact hb wh pins s1 σ H1 Q I1 q1
def tIf (t:TT) (ta tb:TE):TE:=fun σ H Q=>t σ H fun c H1=>if c=true then ta σ H1 Q else tb σ H1 Q
theorem pe_ifExp {c:Expr} (hc:PT X c tA) (ha:PE X a ta) (hb:PE X b tb):PE X (.IfExp c a b pos) (tIf tA ta tb):=by
 intro pins s σ H Q I h
 refine wpAny_IfExp (thn (hc pins s σ H _ I h) fun d s1 ⟨H1,I1,q1⟩=>?_)
 cases d with
 | true=>exact ha pins s1 σ H1 Q I1 q1
 | false=>exact hb pins s1 σ H1 Q I1 q1
end
end L2
namespace L2
open PySem PySem.Spec PyProof.Rows
def SqL (K:PySem.W.Frag) (H:Hp) (a:Addr) (xs:List V):Prop :=
 Rd H a (.lst xs) ∨
  ∃(o:Obj) (its:Array Value) (n:Nat),K.lookup a=some o∧o.cls=.type "list"∧o.dict=none∧o.data=.seq its n∧its.size≤sizeLine∧Vals xs its.toList
def SqT (K:PySem.W.Frag) (H:Hp) (a:Addr) (xs:List V):Prop :=
 Rd H a (.tup xs) ∨
  ∃(o:Obj) (its:Array Value) (n:Nat),K.lookup a=some o∧o.cls=.type "tuple"∧o.data=.seq its n∧its.size≤sizeLine∧Vals xs its.toList
def absV:Value→Option V
 | .none=>some .non
 | .bool b=>some (.bl b)
 | .int i _=>some (.int i)
 | .str x _=>some (.str x)
 | .bytes b _=>some (.byt b)
 | .float b _=>some (.flt b)
 | .ref a=>some (.ref a)
 | .type n=>some (.ty n)
 | _=>none
theorem RelV.abs {x:V} {u:Value} (r:RelV x u):absV u=some x:=by
 cases x with
 | non=>cases r; rfl
 | bl _=>cases r; rfl
 | int _=>obtain⟨t,rfl⟩:=r; rfl
 | str _=>obtain⟨t,rfl⟩:=r; rfl
 | byt _=>obtain⟨t,rfl⟩:=r; rfl
 | flt _=>obtain⟨t,rfl⟩:=r; rfl
 | ref _=>cases r; rfl
 | ty _=>cases r; rfl
theorem RelV.inj {x y:V} {u:Value} (r:RelV x u) (q:RelV y u):x=y:=Option.some.inj (r.abs.symm.trans q.abs)
theorem Vals.inj:∀ {xs ys:List V} {us:List Value},Vals xs us→Vals ys us→xs=ys
 | _,_,_,.nil,.nil=>rfl
 | _,_,_,.cons r t,.cons r' t'=>by rw[r.inj r',Vals.inj t t']
section
variable {X:Cx} {pins:List (Addr × Obj)} {σ:St} {H:Hp} {s:Shared} {a:Addr} {xs ys:List V}
theorem SqL.of {K:PySem.W.Frag} (h:H a=some (.lst xs)):SqL K H a xs:=.inl (.inl h)
theorem SqT.of {K:PySem.W.Frag} (h:H a=some (.tup xs)):SqT K H a xs:=.inl (.inl h)
theorem Inv.list (I:Inv X pins σ H s) (h:SqL X.K H a xs):∃ its:List Value,Vals xs its∧PlainL s.heap a its.toArray∧xs.length≤sizeLine:=by
 rcases h with h|⟨o,its,n,hk,hc,hd,hs,hz,r⟩
 ·obtain⟨z,its,n,r,e⟩:=h.ok I.hok
  exact⟨its,r,⟨_,n,e,rfl,rfl,rfl⟩,z⟩
 ·refine⟨its.toList,r,⟨o,n,I.kIn a o hk,hc,hd,by simpa using hs⟩,?_⟩
  have e:=r.length
  simp only [zD] at e
  omega
theorem Inv.tuple (I:Inv X pins σ H s) (h:SqT X.K H a xs):∃ its:List Value,Vals xs its∧IsTup s.heap a its.toArray∧xs.length≤sizeLine:=by
 rcases h with h|⟨o,its,n,hk,hc,hs,hz,r⟩
 ·obtain⟨z,its,r,p⟩:=h.ok I.hok
  exact⟨its,r,p,z⟩
 ·refine⟨its.toList,r,⟨o,I.kIn a o hk,hc,n,by simpa using hs⟩,?_⟩
  have e:=r.length
  simp only [zD] at e
  omega
theorem Inv.list_inj (I:Inv X pins σ H s) (h:SqL X.K H a xs) (h':SqL X.K H a ys):xs=ys:=by
 obtain⟨its,r,⟨o,n,e,_,_,d⟩,_⟩:=I.list h
 obtain⟨its',r',⟨o',n',e',_,_,d'⟩,_⟩:=I.list h'
 rw[e] at e'; cases e'
 rw[d] at d'
 injection d' with d1 _
 have:its=its':=by simpa using congrArg Array.toList d1
 subst this
 exact r.inj r'
theorem Inv.tuple_inj (I:Inv X pins σ H s) (h:SqT X.K H a xs) (h':SqT X.K H a ys):xs=ys:=by
 obtain⟨its,r,⟨o,e,_,n,d⟩,_⟩:=I.tuple h
 obtain⟨its',r',⟨o',e',_,n',d'⟩,_⟩:=I.tuple h'
 rw[e] at e'; cases e'
 rw[d] at d'
 injection d' with d1 _
 have:its=its':=by simpa using congrArg Array.toList d1
 subst this
 exact r.inj r'
end
abbrev Cx.wish (X:Cx) (E:Value→Shared→Prop):Cx:={ X with xe:=E }
abbrev Cx.nox (X:Cx):Cx:=X.wish fun _ _=>False
theorem Cx.Ok.wish {X:Cx} (ok:X.Ok) (E:Value→Shared→Prop):(X.wish E).Ok :=
 ⟨ok.mod,ok.kind,ok.glob,ok.blt,ok.above,ok.inj,ok.has,ok.cab,ok.hd,ok.frames,ok.stk,ok.exf,ok.bs,ok.bsz,ok.noex,ok.exfs,ok.funs,ok.frf⟩
theorem Cx.Ok.unwish {X:Cx} {E:Value→Shared→Prop} (ok:(X.wish E).Ok):X.Ok :=
 ⟨ok.mod,ok.kind,ok.glob,ok.blt,ok.above,ok.inj,ok.has,ok.cab,ok.hd,ok.frames,ok.stk,ok.exf,ok.bs,ok.bsz,ok.noex,ok.exfs,ok.funs,ok.frf⟩
section
variable {X:Cx} {pins:List (Addr × Obj)} {σ:St} {H:Hp} {s:Shared} {E:Value→Shared→Prop}
theorem Inv.wish (I:Inv X pins σ H s) (E:Value→Shared→Prop):Inv (X.wish E) pins σ H s:=⟨I.ok.wish E,I.os,I.bare,I.base,I.loc,I.cell,I.free,I.freeC,I.pin,I.hok,I.len⟩
theorem Inv.unwish (I:Inv (X.wish E) pins σ H s):Inv X pins σ H s:=⟨I.ok.unwish,I.os,I.bare,I.base,I.loc,I.cell,I.free,I.freeC,I.pin,I.hok,I.len⟩
theorem SP.unwish {D:Ends} {f:Flow} {s':Shared} (h:SP (X.wish E) pins D f s'):SP X pins D f s':=by
 cases f with
 | next=>obtain⟨σ',H',I,q⟩:=h; exact⟨σ',H',I.unwish,q⟩
 | brk=>obtain⟨σ',H',I,q⟩:=h; exact⟨σ',H',I.unwish,q⟩
 | cont=>obtain⟨σ',H',I,q⟩:=h; exact⟨σ',H',I.unwish,q⟩
 | ret u=>obtain⟨v,σ',H',I,r,q⟩:=h; exact⟨v,σ',H',I.unwish,r,q⟩
theorem PSs.nox {st:List Stmt} {t:TS} (h:PSs X.nox st t):PSs X st t:=fun pins s σ H D I hw =>
 wpAny_mono (h pins s σ H D (I.wish _) hw) (fun _ _ q=>q.unwish) fun _ _ z=>False.elim z
end
section
variable {X:Cx} {st:Stmt} {rest:List Stmt} {t u:TS} {e:Expr} {te:TE} {pos:Pos}
def tNext:TS:=fun D σ H=>D.nx σ H
def tSeq (t u:TS):TS:=fun D σ H=>t { D with nx:=u D } σ H
theorem pss_nil:PSs X [] tNext:=fun _ _ σ H _ I h=>wpAny_execs_nil ⟨σ,H,I,h⟩
theorem pss_cons (h1:PS X st t) (h2:PSs X rest u):PSs X (st::rest) (tSeq t u):=by
 intro pins s σ H D I h
 refine wpAny_execs_cons (thn (h1 pins s σ H { D with nx:=u D } I h) fun f s1 q=>?_)
 cases f with
 | next =>
  obtain⟨σ',H',I',q⟩:=q
  exact h2 pins s1 σ' H' D I' q
 | ret v=>exact q
 | brk=>exact q
 | cont=>exact q
theorem pss_one (h1:PS X st t):PSs X [st] t:=by
 intro pins s σ H D I h
 refine wpAny_execs_cons (thn (h1 pins s σ H D I h) fun f s1 q=>?_)
 cases f with
 | next=>exact wpAny_execs_nil q
 | ret v=>exact q
 | brk=>exact q
 | cont=>exact q
def tBreak:TS:=fun D σ H=>D.bk σ H
theorem ps_break:PS X (.Break pos) tBreak:=fun _ _ σ H _ I h=>wpAny_Break ⟨σ,H,I,h⟩
theorem Inv.quiet {pins:List (Addr × Obj)} {σ:St} {H:Hp} {s:Shared} (I:Inv X pins σ H s):interactive X.env=false:=by simp [interactive,I.ok.kind]
def tDrop (te:TE):TS:=fun D σ H=>te σ H fun _ H1=>D.nx σ H1
theorem ps_expr (he:PE X e te) (hs:swapsWith e none pos.line X.env=pure false:=by rfl):PS X (.Expr e pos) (tDrop te):=by
 intro pins s σ H D I h
 exact wpAny_Expr_any (thn (he pins s σ H _ I h) fun v s1 ⟨x,H1,I1,r1,q1⟩=>⟨σ,H1,I1,q1⟩) I.quiet hs
def tRet (te:TE):TS:=fun D σ H=>te σ H D.rt
theorem ps_ret (he:PE X e te):PS X (.Return (some e) pos) (tRet te):=by
 intro pins s σ H D I h
 exact wpAny_Return_some (thn (he pins s σ H _ I h) fun v s1 ⟨x,H1,I1,r1,q1⟩=>⟨x,σ,H1,I1,r1,q1⟩)
def tIfS (c:TT) (t u:TS):TS:=fun D σ H=>c σ H fun b H1=>if b=true then t D σ H1 else u D σ H1
theorem ps_if {c:Expr} {a b:List Stmt} {tc:TT} (hc:PT X c tc) (ha:PSs X a t) (hb:PSs X b u):PS X (.If c a b pos) (tIfS tc t u):=by
 intro pins s σ H D I h
 refine wpAny_If (thn (hc pins s σ H _ I h) fun d s1 ⟨H1,I1,q1⟩=>?_)
 cases d with
 | true=>exact ha pins s1 σ H1 D I1 q1
 | false=>exact hb pins s1 σ H1 D I1 q1
end
abbrev TG:=V→St→Hp→(St→Hp→Prop)→Prop
abbrev TGs:=List V→St→Hp→(St→Hp→Prop)→Prop
def PG (X:Cx) (target:Expr) (t:TG):Prop :=
 ∀(pins:List (Addr × Obj)) (s:Shared) (σ:St) (H:Hp) (v:V) (u:Value) (Q:St→Hp→Prop),Inv X pins σ H s→RelV v u→t v σ H Q →
  wpAny (model X.prog X.w) X.A (assign target X.env u) (fun _ s'=>∃ σ' H',Inv X pins σ' H' s'∧Q σ' H') X.xe s
def PGs (X:Cx) (ts:List Expr) (t:TGs):Prop :=
 ∀(pins:List (Addr × Obj)) (s:Shared) (σ:St) (H:Hp) (vs:List V) (us:List Value) (Q:St→Hp→Prop),Inv X pins σ H s→Vals vs us→t vs σ H Q →
  wpAny (model X.prog X.w) X.A (assignInOrder ((assignEach ts X.env).map (·.2)) us) (fun _ s'=>∃ σ' H',Inv X pins σ' H' s'∧Q σ' H') X.xe s
section
variable {X:Cx} {pos:Pos}
def gName (i:Nat):TG:=fun v σ H Q=>Q (σ.set i (some v)) H
theorem pg_name {i:Nat} {x:Str} (hN:X.N.Nodup) (hi:X.N[i]?=some x) (hx:Loc X.env.scope x) (hf:X.fn x=true∨X.env.scope.names.lookup x=some .local:=by first|exact .inl rfl|exact .inr rfl|assumption):PG X (.Name x pos) (gName i):=by
 intro pins s σ H v u Q I r h
 exact wpAny_assign_Name (store_ok I hN hi hx r (fun s' I'=>⟨_,H,I',h⟩) hf)
def gNil:TGs:=fun vs σ H Q=>vs=[]∧Q σ H
inductive gCons (t:TG) (u:TGs) (vs:List V) (σ:St) (H:Hp) (Q:St→Hp→Prop):Prop where
 | mk (v r:_) (h_0:vs=v::r) (h_1:t v σ H fun σ' H'=>u r σ' H' Q):gCons t u vs σ H Q
theorem pgs_nil:PGs X [] gNil:=by
 intro pins s σ H vs us Q I r h
 obtain⟨e,h⟩:=h
 subst e
 cases r
 exact assignInOrder_nil ⟨σ,H,I,h⟩
theorem pgs_cons {e:Expr} {es:List Expr} {t:TG} {u:TGs} (h1:PG X e t) (h2:PGs X es u)
  (hs:(assignEach (e::es) X.env).map (·.2)=assign e X.env::(assignEach es X.env).map (·.2):=by rfl):PGs X (e::es) (gCons t u):=by
 intro pins s σ H vs us Q I r h
 obtain⟨v,vr,e1,h⟩:=h
 subst e1
 cases r with
 | cons r rr =>
  rw[hs]
  refine assignInOrder_cons (thn (h1 pins s σ H _ _ _ I r h) fun _ s1 ⟨σ1,H1,I1,q1⟩=>?_)
  exact h2 pins s1 σ1 H1 _ _ Q I1 rr q1
inductive gTup (K:PySem.W.Frag) (n:Nat) (t:TGs) (v:V) (σ:St) (H:Hp) (Q:St→Hp→Prop):Prop where
 | mk (a xs:_) (h_0:v=.ref a) (h_1:SqT K H a xs) (h_2:xs.length=n) (h_3:t xs σ H Q):gTup K n t v σ H Q
theorem pg_tup {es:List Expr} {k:Nat} {t:TGs} {n:Nat} (hc:X.calm=true) (h:PGs X es t)
  (hn:(assignEach es X.env).length=n:=by rfl) (hst:(assignEach es X.env).findIdx? (·.1)=none:=by rfl):PG X (.Tuple es k pos) (gTup X.K n t):=by
 intro pins s σ H v u Q I r hw
 obtain⟨a,xs,e1,hq,hl,hw⟩:=hw
 subst e1
 cases r
 obtain⟨its,rv,ht,hz⟩:=I.tuple hq
 refine assign_Tuple_tuple (I.ok.hd hc) ht (by simp [hn,← hl,rv.length]) hst fun h' hx=>?_
 have I1:Inv X pins σ H { s with heap:=h' }:=I.kept (t':=s.toks) fun b o e=>hx b o (zY (Heap.lt_size e)) e
 exact h pins _ σ H xs _ Q I1 (by simpa using rv) hw
def tAsg (te:TE) (g:TG):TS:=fun D σ H=>te σ H fun x H1=>g x σ H1 D.nx
theorem ps_asg {tg e:Expr} {te:TE} {g:TG} (he:PE X e te) (hg:PG X tg g) (hs:swapsWithSole [tg] e pos.line X.env=pure false:=by rfl) (hw:swappedStores [tg] e X.env=pure none:=by rfl)
  (h1:(assignEach [tg] X.env).map (·.2)=[assign tg X.env]:=by rfl):PS X (.Assign [tg] e pos) (tAsg te g):=by
 intro pins s σ H D I h
 refine wpAny_Assign_stores (thn (he pins s σ H _ I h) fun v s1 ⟨x,H1,I1,r1,q1⟩=>?_) hs hw
 rw[h1]
 exact thn (hg pins s1 σ H1 x v _ I1 r1 q1) fun _ s2 q=>q
theorem ps_set {i:Nat} {x:Str} {e:Expr} {te:TE} {pos':Pos} (hN:X.N.Nodup) (hi:X.N[i]?=some x) (hx:Loc X.env.scope x) (he:PE X e te) (hs:swapsWith e (some (.Name x pos')) pos.line X.env=pure false:=by rfl) (hf:X.fn x=true∨X.env.scope.names.lookup x=some .local:=by first|exact .inl rfl|exact .inr rfl|assumption) :
  PS X (.Assign [.Name x pos'] e pos) (tAsg te (gName i)):=by
 intro pins s σ H D I h
 refine wpAny_Assign_Name (thn (he pins s σ H _ I h) fun v s1 ⟨y,H1,I1,r1,q1⟩=>?_) hs
 exact store_ok I1 hN hi hx r1 (fun s2 I2=>⟨_,H1,I2,q1⟩) hf
end
section
variable {X:Cx} {pos:Pos}
def tWhile (c:TT) (tb:TS):TS:=fun D σ H=>∃ W:Nat→St→Hp→Prop,(∃ m,W m σ H)∧∀ m σ H,W m σ H →
 c σ H fun b H1=>if b=true then ∃ N:St→Hp→Prop,(∀ σ' H',N σ' H'→∃ m',m' < m∧W m' σ' H')∧tb { D with nx:=N,ct:=N,bk:=D.nx } σ H1 else D.nx σ H1
theorem ps_while {c:Expr} {body:List Stmt} {tc:TT} {tb:TS} (hp:PassesOwn (model X.prog X.w) X.A X.env X.xe) (hc:PT X c tc) (hb:PSs X body tb):PS X (.While c body [] pos) (tWhile tc tb):=by
 intro pins s σ H D I h
 obtain⟨W,⟨m0,w0⟩,turn⟩:=h
 refine wpAny_While (codeAny_whileLoop (fun n s'=>∃ σ' H',Inv X pins σ' H' s'∧W n σ' H') ?_ m0 ⟨σ,H,I,w0⟩)
 rintro n s1 ⟨σ1,H1,I1,w1⟩
 refine wpAny_passesOwn hp (thn (hc pins s1 σ1 H1 _ I1 (turn n σ1 H1 w1)) fun b s2 ⟨H2,I2,q2⟩=>?_)
 cases b with
 | true =>
  obtain⟨N,hN,q2⟩:=q2
  rw[if_pos rfl]
  refine wpAny_passesOwn hp (thn (hb pins s2 σ1 H2 _ I2 q2) fun f s3 q3=>?_)
  cases f with
  | next =>
   obtain⟨σ3,H3,I3,n3⟩:=q3
   obtain⟨m',hm,w3⟩:=hN σ3 H3 n3
   exact⟨m',hm,σ3,H3,I3,w3⟩
  | cont =>
   obtain⟨σ3,H3,I3,n3⟩:=q3
   obtain⟨m',hm,w3⟩:=hN σ3 H3 n3
   exact⟨m',hm,σ3,H3,I3,w3⟩
  | brk=>exact q3
  | ret v=>exact q3
 | false =>
  rw[if_neg zV]
  exact wpAny_execs_nil ⟨σ1,H2,I2,q2⟩
end
structure It where
 go:Nat→Hp→Prop
 yld:Nat→Hp→V→Hp→Prop
 stop:Nat→Hp→Prop
def FpOk (X:Cx) (pins:List (Addr × Obj)) (H:Hp) (b:Addr):Prop :=
 H b=none∧b ≠ X.env.locals∧b ∉ X.fs∧(b ∈ X.ex∨X.s₀.heap.objs.size≤b)∧(∀ x c,X.env.cells.lookup x=some c→c ≠ b)∧∀ p ∈ X.pn++pins,p.1 ≠ b
theorem Inv.fpOk {X:Cx} {pins:List (Addr × Obj)} {σ:St} {H H':Hp} {s:Shared} {b:Addr} (I:Inv X pins σ H s) (hb:s.heap.objs.size≤b) (hn:H' b=none):FpOk X pins H' b:=by
 refine⟨hn,vA (zO I.lt hb),I.nofs hb,.inr (yA I.sz hb),fun x c e z=>?_,fun p hp z=>?_⟩
 ·obtain⟨v,q⟩:=I.cell x c e
  exact absurd (zO q.lt (by rw[z]; exact hb)) (qN _)
 ·exact absurd (zO (Heap.lt_size (I.pin p hp).1) (by rw[z]; exact hb)) (qN _)
structure Turn (P:Program) (w:World) (K:PySem.W.Frag) (tg:Expr) (J:It) (fp:List Addr) (it:Addr) (tn:Nat→Heap→Prop):Prop where
 mem:it ∈ fp
 obj:∀ i h,tn i h→∀ b ∈ fp,∃ o,h.get? b=some o∧∀ v,o.data ≠ .cell v
 keep:∀ i h h',tn i h→(∀ b ∈ fp,∀ o,h.get? b=some o→h'.get? b=some o)→tn i h'
 item:∀(X:Cx),X.prog=P→X.w=w→X.K=K→X.calm=true→∀(i:Nat) (pins:List (Addr × Obj)) (s:Shared) (σ:St) (H:Hp) (E:Value→Shared→Prop),Inv X pins σ H s→(∀ b ∈ fp,FpOk X pins H b)→tn i s.heap→J.go i H →
  wpAny (model P w) X.A (pyNext (.ref it)) (fun r s1=>∃ u,r=some u ∧
   wpAny (model P w) X.A (letOwnedTupleGo tg (.ref it) u) (fun _ s2=>∃ x H',Inv X pins σ H' s2∧RelV x u∧J.yld i H x H'∧tn (i + 1) s2.heap∧∀ b ∈ fp,H' b=none) E s1) E s
 done:∀(X:Cx),X.prog=P→X.w=w→X.K=K→X.calm=true→∀(i:Nat) (pins:List (Addr × Obj)) (s:Shared) (σ:St) (H:Hp) (E:Value→Shared→Prop),Inv X pins σ H s→(∀ b ∈ fp,FpOk X pins H b)→tn i s.heap→J.stop i H →
  wpAny (model P w) X.A (pyNext (.ref it)) (fun r s1=>r=none∧Inv X pins σ H s1) E s
 self:∀(A:Around) (i:Nat) (s:Shared) (Q:Value→Shared→Prop) (E:Value→Shared→Prop),tn i s.heap→Q (.ref it) s→wpAny (model P w) A (pyIter (.ref it)) Q E s
abbrev TI:=St→Hp→(It→Hp→Prop)→Prop
def PIE (X:Cx) (pins:List (Addr × Obj)) (σ:St) (tg:Expr) (R:It→Hp→Prop) (itv:Value) (s2:Shared):Prop :=
 ∃(it:Addr) (fp:List Addr) (tn:Nat→Heap→Prop) (J:It) (H':Hp),itv=.ref it∧Inv X pins σ H' s2∧Turn X.prog X.w X.K tg J fp it tn∧tn 0 s2.heap∧(∀ b ∈ fp,FpOk X pins H' b)∧R J H'
def PI (X:Cx) (tg iter:Expr) (wi:TI):Prop :=
 ∀(pins:List (Addr × Obj)) (s:Shared) (σ:St) (H:Hp) (R:It→Hp→Prop),Inv X pins σ H s→wi σ H R →
  wpAny (model X.prog X.w) X.A (eval iter X.env) (fun v s1=>wpAny (model X.prog X.w) X.A (pyIter v) (PIE X pins σ tg R) X.xe s1) X.xe s
theorem go_of {M:Model} {A:Around} {E:Value→Shared→Prop} {s:Shared} {tg:Expr} {it:Addr} {u:Value} {o:Obj} {n:String} {vs:Array Value} {Q:Unit→Shared→Prop} (ho:s.heap.get? it=some o) (hc:o.cls=.type n) (hd:o.data=.fields vs)
  (hn:["enumerate","zip","dict_itemiterator","dict_reverseitemiterator","odict_iterator","itertools.zip_longest","itertools.pairwise"].contains n=false) (hQ:Q () s):wpAny M A (letOwnedTupleGo tg (.ref it) u) Q E s:=by
 unfold letOwnedTupleGo
 cases tg <;> first
  | exact wpAny_pure hQ
  | (cases u <;> first
    | exact wpAny_pure hQ
    | (refine wpAny_bind (wpAny_load ho ?_)
       rw[hc,hd]
       show wpAny M A (if (["enumerate","zip","dict_itemiterator","dict_reverseitemiterator","odict_iterator","itertools.zip_longest","itertools.pairwise"].contains n && vs[0]? == some (rawInt _))=true then _ else _) Q E s
       rw[if_neg (by intro h; rw[hn,Bool.false_and] at h; cases h)]
       exact wpAny_pure hQ))
def Itl (K:PySem.W.Frag) (a:Addr):It :=
 ⟨fun i H=>∃ xs x,SqL K H a xs∧xs[i]?=some x,fun i H x H'=>H'=H∧∀ xs,SqL K H a xs→xs[i]?=some x,fun i H=>∃ xs,SqL K H a xs∧xs.length≤i⟩
def Itt (K:PySem.W.Frag) (a:Addr):It :=
 ⟨fun i H=>∃ xs x,SqT K H a xs∧xs[i]?=some x,fun i H x H'=>H'=H∧∀ xs,SqT K H a xs→xs[i]?=some x,fun i H=>∃ xs,SqT K H a xs∧xs.length≤i⟩
def Itr (lo:Int) (n:Nat):It:=⟨fun i _=>i < n,fun i H x H'=>H'=H∧x=.int (lo + i),fun i _=>n≤i⟩
theorem turn_list {P:Program} {w:World} {K:PySem.W.Frag} {tg:Expr} (a it:Addr):Turn P w K tg (Itl K a) [it] it (fun i h=>h.IsListIter it a i) where
 mem:=by simp
 obj:=fun i h st b hb=>by
  have e:b=it:=by simpa using hb
  subst e
  obtain⟨o,e,c,d⟩:=st
  exact⟨o,e,fun v z=>by rw[d] at z; cases z⟩
 keep:=fun i h h' st k=>st.at fun o e=>k it (by simp) o e
 item:=by
  intro X hP hw hK hc i pins s σ H E I hf st hg
  subst hP hw hK
  obtain⟨xs,x,hq,hx⟩:=hg
  obtain⟨its,rv,p,hz⟩:=I.list hq
  obtain⟨u,hu,ru⟩:=rv.get hx
  obtain⟨f0,f1,f2,f3,f4,f5⟩:=hf it (by simp)
  refine wpAny_pyNext_list_item st p.isList (x:=u) (by simpa using hu) fun h' st' sb=>?_
  have I1:Inv X pins σ H { s with heap:=h' }:=I.turned (t':=s.toks) (fun b o hb e=>(sb.2 b hb).trans e) f0 f1 f3 f4 f5
  obtain⟨o,e,c,d⟩:=id st'
  exact⟨u,rfl,go_of (s:={ s with heap:=h' }) e c d (by decide) ⟨x,H,I1,ru,⟨rfl,fun ys hy=>by rw[I.list_inj hy hq]; exact hx⟩,st',fun b hb=>(hf b hb).1⟩⟩
 done:=by
  intro X hP hw hK hc i pins s σ H E I hf st hg
  subst hP hw hK
  obtain⟨xs,hq,hx⟩:=hg
  obtain⟨its,rv,p,hz⟩:=I.list hq
  obtain⟨f0,f1,f2,f3,f4,f5⟩:=hf it (by simp)
  have hl:=rv.length
  exact wpAny_pyNext_list_end (I.ok.hd hc) st p.isList (by simp; omega) fun h' eb=>⟨rfl,I.turned (t':=s.toks) (fun b o hb e=>eb b o hb e) f0 f1 f3 f4 f5⟩
 self:=fun _ _ _ _ _ st h=>wpAny_pyIter_listiter st h
theorem turn_tuple {P:Program} {w:World} {K:PySem.W.Frag} {tg:Expr} (a it:Addr):Turn P w K tg (Itt K a) [it] it (fun i h=>h.IsTupleIter it a i) where
 mem:=by simp
 obj:=fun i h st b hb=>by
  have e:b=it:=by simpa using hb
  subst e
  obtain⟨o,e,c,d⟩:=st
  exact⟨o,e,fun v z=>by rw[d] at z; cases z⟩
 keep:=fun i h h' st k=>st.at fun o e=>k it (by simp) o e
 item:=by
  intro X hP hw hK hc i pins s σ H E I hf st hg
  subst hP hw hK
  obtain⟨xs,x,hq,hx⟩:=hg
  obtain⟨its,rv,p,hz⟩:=I.tuple hq
  obtain⟨u,hu,ru⟩:=rv.get hx
  obtain⟨f0,f1,f2,f3,f4,f5⟩:=hf it (by simp)
  refine wpAny_pyNext_tuple_item st (show s.heap.IsTuple a its.toArray from p) (x:=u) (by simpa using hu) fun h' st' sb=>?_
  have I1:Inv X pins σ H { s with heap:=h' }:=I.turned (t':=s.toks) (fun b o hb e=>(sb.2 b hb).trans e) f0 f1 f3 f4 f5
  obtain⟨o,e,c,d⟩:=id st'
  exact⟨u,rfl,go_of (s:={ s with heap:=h' }) e c d (by decide) ⟨x,H,I1,ru,⟨rfl,fun ys hy=>by rw[I.tuple_inj hy hq]; exact hx⟩,st',fun b hb=>(hf b hb).1⟩⟩
 done:=by
  intro X hP hw hK hc i pins s σ H E I hf st hg
  subst hP hw hK
  obtain⟨xs,hq,hx⟩:=hg
  obtain⟨its,rv,p,hz⟩:=I.tuple hq
  obtain⟨f0,f1,f2,f3,f4,f5⟩:=hf it (by simp)
  have hl:=rv.length
  exact wpAny_pyNext_tuple_end (I.ok.hd hc) st (show s.heap.IsTuple a its.toArray from p) (by simp; omega) fun h' eb=>⟨rfl,I.turned (t':=s.toks) (fun b o hb e=>eb b o hb e) f0 f1 f3 f4 f5⟩
 self:=fun _ _ _ _ _ st h=>wpAny_pyIter_tupleiter st h
theorem turn_range {P:Program} {w:World} {K:PySem.W.Frag} {tg:Expr} (it:Addr) (lo:Int) (n:Nat):Turn P w K tg (Itr lo n) [it] it (fun i h=>IsRangeIter h it (lo + (i:Nat) * 1) ((n:Int) - (i:Nat)) 1) where
 mem:=by simp
 obj:=fun i h st b hb=>by
  have e:b=it:=by simpa using hb
  subst e
  exact⟨_,st,fun v z=>by
   have z':Data.fields _=Data.cell v:=z
   cases z'⟩
 keep:=fun i h h' st k=>k it (by simp) _ st
 item:=by
  intro X hP hw hK hc i pins s σ H E I hf st hg
  subst hP hw hK
  obtain⟨f0,f1,f2,f3,f4,f5⟩:=hf it (by simp)
  have W:=Walks.range (prog:=X.prog) (w:=X.w) (I.ok.hd hc) it lo 1 n
  refine W.item i s _ _ hg st fun v h' tk hv st' kk=>?_
  obtain⟨t,rfl⟩:=hv
  have I1:Inv X pins σ H { s with heap:=h',toks:=tk }:=I.turned (fun b o hb e=>kk b o (by simpa using hb) e) f0 f1 f3 f4 f5
  refine⟨_,rfl,go_of (s:={ s with heap:=h',toks:=tk }) (n:="range_iterator") st' rfl rfl (by decide) ⟨.int (lo + i),H,I1,⟨t,?_⟩,⟨rfl,rfl⟩,st',fun b hb=>(hf b hb).1⟩⟩
  rw[Int.mul_one]
 done:=by
  intro X hP hw hK hc i pins s σ H E I hf st hg
  subst hP hw hK
  obtain⟨f0,f1,f2,f3,f4,f5⟩:=hf it (by simp)
  exact wpAny_pyNext_range_end (I.ok.hd hc) st (by have:n≤i:=hg; omega) fun h' eb=>⟨rfl,I.turned (t':=s.toks) (fun b o hb e=>eb b o hb e) f0 f1 f3 f4 f5⟩
 self:=fun _ _ _ _ _ st h=>wpAny_pyIter_rangeiter st h
end L2
namespace L2
open PySem PySem.Spec PyProof.Rows
section
variable {X:Cx} {tg:Expr}
inductive iList_ (K:PySem.W.Frag) (R:It→Hp→Prop) (x:V) (H1:Hp):Prop where
 | mk (a:_) (h_0:x=.ref a) (h_1:(∃ xs,SqL K H1 a xs)) (h_2:R (Itl K a) H1):iList_ K R x H1
def iList (K:PySem.W.Frag) (tl:TE):TI:=fun σ H R=>tl σ H fun x H1=>iList_ K R x H1
inductive iTup_ (K:PySem.W.Frag) (R:It→Hp→Prop) (x:V) (H1:Hp):Prop where
 | mk (a:_) (h_0:x=.ref a) (h_1:(∃ xs,SqT K H1 a xs)) (h_2:R (Itt K a) H1):iTup_ K R x H1
def iTup (K:PySem.W.Frag) (tl:TE):TI:=fun σ H R=>tl σ H fun x H1=>iTup_ K R x H1
theorem pi_list {l:Expr} {tl:TE} (hl:PE X l tl):PI X tg l (iList X.K tl):=by
 intro pins s σ H R I h
 refine thn (hl pins s σ H _ I h) fun v s1 ⟨x,H1,I1,r1,q1⟩=>?_
 obtain⟨a,e,⟨xs,hq⟩,q⟩:=q1
 subst e
 cases r1
 obtain⟨its,rv,p,hz⟩:=I1.list hq
 refine wpAny_pyIter_list p.isList ?_
 refine⟨s1.heap.objs.size,[s1.heap.objs.size],_,_,H1,rfl,I1.kept (t':=s1.toks) fun b o e=>Heap.get?_push_of_some _ e,turn_list a _,⟨_,Heap.get?_push_size _ rfl,rfl,rfl⟩,fun b hb=>?_,q⟩
 have e:b=s1.heap.objs.size:=by simpa using hb
 subst e
 exact I1.fpOk (zG _) (I1.hok.fresh (zG _))
theorem pi_tup {l:Expr} {tl:TE} (hl:PE X l tl):PI X tg l (iTup X.K tl):=by
 intro pins s σ H R I h
 refine thn (hl pins s σ H _ I h) fun v s1 ⟨x,H1,I1,r1,q1⟩=>?_
 obtain⟨a,e,⟨xs,hq⟩,q⟩:=q1
 subst e
 cases r1
 obtain⟨its,rv,p,hz⟩:=I1.tuple hq
 refine wpAny_pyIter_tuple (show s1.heap.IsTuple a its.toArray from p) ?_
 refine⟨s1.heap.objs.size,[s1.heap.objs.size],_,_,H1,rfl,I1.kept (t':=s1.toks) fun b o e=>Heap.get?_push_of_some _ e,turn_tuple a _,⟨_,Heap.get?_push_size _ rfl,rfl,rfl⟩,fun b hb=>?_,q⟩
 have e:b=s1.heap.objs.size:=by simpa using hb
 subst e
 exact I1.fpOk (zG _) (I1.hok.fresh (zG _))
theorem range_it {pins:List (Addr × Obj)} {σ:St} {H:Hp} {s:Shared} {R:It→Hp→Prop} {E:Value→Shared→Prop} {lo hi:Int} {t u v:Tok} {tk:Nat} (I:Inv X pins σ H s) (h1:-(2 ^ 62)≤lo) (h2:lo < 2 ^ 62) (h3:-(2 ^ 62)≤hi) (h4:hi < 2 ^ 62)
  (q:R (Itr lo (hi - lo).toNat) H):wpAny (model X.prog X.w) X.A (pyIter (.ref s.heap.objs.size)) (PIE X pins σ tg R) E { s with heap:=s.heap.push { cls:=.type "range",data:=.fields #[.int lo t,.int hi u,.int 1 v] },toks:=tk }:=by
 refine wpAny_pyIter_range (IsRange.new ..) (small_one h1 h2 h3 h4) ?_
 have I1:Inv X pins σ H { s with heap:=s.heap.push { cls:=.type "range",data:=.fields #[.int lo t,.int hi u,.int 1 v] },toks:=tk }:=I.kept fun b o e=>Heap.get?_push_of_some _ e
 refine⟨(s.heap.push { cls:=.type "range",data:=.fields #[.int lo t,.int hi u,.int 1 v] }).objs.size,[(s.heap.push { cls:=.type "range",data:=.fields #[.int lo t,.int hi u,.int 1 v] }).objs.size],_,_,H,rfl,
  I1.kept (t':=tk) fun b o e=>Heap.get?_push_of_some _ e,turn_range _ lo (hi - lo).toNat,?_,fun b hb=>?_,q⟩
 ·have e1:lo + ((0:Nat):Int) * 1=lo:=by simp
  have e2:(((hi - lo).toNat:Nat):Int) - ((0:Nat):Int)=Builtin.Range.rangeSize lo hi 1:=by rw[rangeSize_one]; split <;> omega
  show IsRangeIter _ _ (lo + ((0:Nat):Int) * 1) ((((hi - lo).toNat:Nat):Int) - ((0:Nat):Int)) 1
  rw[e1,e2]
  exact Heap.get?_push_size _ rfl
 ·have e:b=(s.heap.push { cls:=.type "range",data:=.fields #[.int lo t,.int hi u,.int 1 v] }).objs.size:=by simpa using hb
  subst e
  exact I1.fpOk (zG _) (I1.hok.fresh (zG _))
inductive iRng1_ (R:It→Hp→Prop) (vs:List V) (H1:Hp):Prop where
 | mk (j:Int) (h_0:vs=[.int j]) (h_1:-(2 ^ 62)≤j) (h_2:j < 2 ^ 62) (h_3:R (Itr 0 j.toNat) H1):iRng1_ R vs H1
def iRng1 (ta:TA):TI:=fun σ H R=>ta σ H fun vs H1=>iRng1_ R vs H1
theorem pi_range1 {a:Expr} {ta:TA} {p pos:Pos} (hg:Gl X "range") (hm:X.mg "range"=none) (ha:PA X [a] ta) (hs:starEach [a] X.env=[(false,eval a X.env)]:=by rfl):PI X tg (.Call (.Name "range" p) [a] [] pos) (iRng1 ta):=by
 intro pins s σ H R I h
 refine Call_ (ld_blt I hg hm boot_range (PyProof.Rows.callWith_type1 (thn (ha pos pins s σ H _ I h) fun us s1 ⟨vs,H1,I1,r1,q1⟩=>?_) hs rfl))
 obtain⟨j,e,q1,q2,q⟩:=q1
 subst e
 cases r1 with
 | cons r rr =>
  cases rr
  obtain⟨t,rfl⟩:=r
  exact call_range_1 (range_it I1 (by omega) (by omega) q1 q2 (by simpa using q))
def tFor (wi:TI) (g:TG) (tb:TS):TS:=fun D σ H=>wi σ H fun J H1=>∃ W:Nat→Nat→St→Hp→Prop,(∃ m,W 0 m σ H1)∧∀ i m σ H,W i m σ H →
 (J.stop i H∧D.nx σ H)∨(J.go i H∧∃ N:St→Hp→Prop,(∀ σ' H',N σ' H'→∃ m',m' < m∧W (i + 1) m' σ' H')∧∀ x H',J.yld i H x H'→g x σ H' fun σ2 H2=>tb { D with nx:=N,ct:=N,bk:=D.nx } σ2 H2)
def pinsAt (fp:List Addr) (h:Heap):List (Addr × Obj):=fp.filterMap fun b=>(h.get? b).map fun o=>(b,o)
theorem mem_pinsAt {fp:List Addr} {h:Heap} {b:Addr} {o:Obj} (hb:b ∈ fp) (e:h.get? b=some o):(b,o) ∈ pinsAt fp h:=List.mem_filterMap.mpr ⟨b,hb,by rw[e]; rfl⟩
theorem of_pinsAt {fp:List Addr} {h:Heap} {p:Addr × Obj} (hp:p ∈ pinsAt fp h):p.1 ∈ fp∧h.get? p.1=some p.2:=by
 obtain⟨b,hb,e⟩:=List.mem_filterMap.mp hp
 cases q:h.get? b with
 | none=>rw[q] at e; cases e
 | some o =>
  rw[q] at e
  have e':(b,o)=p:=Option.some.inj e
  subst e'
  exact⟨hb,q⟩
theorem Inv.pinned {pins:List (Addr × Obj)} {σ:St} {H:Hp} {s:Shared} {fp:List Addr} (I:Inv X pins σ H s) (hf:∀ b ∈ fp,FpOk X pins H b) (ho:∀ b ∈ fp,∃ o,s.heap.get? b=some o∧∀ v,o.data ≠ .cell v):Inv X (pins++pinsAt fp s.heap) σ H s :=
 I.pins_of fun p hp=>(yE.mp hp).elim (fun z=>I.pin p (zU _ z)) fun z=>by
  obtain⟨hb,e⟩:=of_pinsAt z
  obtain⟨f0,f1,f2,_⟩:=hf p.1 hb
  obtain⟨o,e',d⟩:=ho p.1 hb
  rw[e] at e'; cases e'
  exact⟨e,f0,f1,f2,d⟩
theorem Inv.unpinned {pins pl:List (Addr × Obj)} {σ:St} {H:Hp} {s:Shared} (I:Inv X (pins++pl) σ H s):Inv X pins σ H s:=I.pins_of fun p hp=>I.pin p (zU _ (yS _ hp))
theorem ps_for {iter:Expr} {body:List Stmt} {wi:TI} {g:TG} {tb:TS} {pos:Pos} (hp:PassesOwn (model X.prog X.w) X.A X.env X.xe) (hc:X.calm=true) (hi:PI X tg iter wi) (hg:PG X tg g) (hb:PSs X body tb)
  (hs:∀ x,foldedSetIterable iter X.env x=pure x:=by intro _; rfl):PS X (.For tg iter body [] pos) (tFor wi g tb):=by
 intro pins s σ H D I h
 refine wpAny_For (thn (hi pins s σ H _ I h) fun v s1 h1=>thn h1 fun itv s2 h2=>?_) hs
 obtain⟨it,fp,tn,J,H2,e,I2,T,st2,f2,W,⟨m0,w0⟩,turn⟩:=h2
 subst e
 have stat:∀ {H':Hp},(∀ b ∈ fp,H' b=none)→∀ b ∈ fp,FpOk X pins H' b:=fun hn b hb=>⟨hn b hb,(f2 b hb).2⟩
 refine codeAny_forLoop_any (fun n s'=>∃ i σ' H',Inv X pins σ' H' s'∧tn i s'.heap∧(∀ b ∈ fp,H' b=none)∧W i n σ' H') ?_ m0 ⟨0,σ,H2,I2,st2,fun b hb=>(f2 b hb).1,w0⟩
 rintro n s3 ⟨i,σ3,H3,I3,st3,fr3,w3⟩
 rcases turn i n σ3 H3 w3 with ⟨stop,qn⟩|⟨go,N,hN,step⟩
 ·refine wpAny_passesOwn hp (thn (T.done X rfl rfl rfl hc i pins s3 σ3 H3 X.xe I3 (stat fr3) st3 stop) fun r s4 ⟨hr,I4⟩=>?_)
  subst hr
  exact wpAny_execs_nil ⟨σ3,H3,I4,qn⟩
 ·refine wpAny_passesOwn hp (thn (T.item X rfl rfl rfl hc i pins s3 σ3 H3 X.xe I3 (stat fr3) st3 go) fun r s4 ⟨u,hr,h4⟩=>?_)
  subst hr
  refine wpAny_passesOwn hp (thn h4 fun _ s5 ⟨x,H5,I5,r5,y5,st5,fr5⟩=>?_)
  have I5':=I5.pinned (stat fr5) (T.obj _ _ st5)
  refine wpAny_passesOwn hp (thn (hg _ s5 σ3 H5 x u _ I5' r5 (step x H5 y5)) fun _ s6 ⟨σ6,H6,I6,q6⟩=>?_)
  refine wpAny_passesOwn hp (thn (hb _ s6 σ6 H6 _ I6 q6) fun f s7 q7=>?_)
  have again:∀ {σ7:St} {H7:Hp},Inv X (pins++pinsAt fp s5.heap) σ7 H7 s7→N σ7 H7→∃ m,m < n∧∃ i σ' H',Inv X pins σ' H' s7∧tn i s7.heap∧(∀ b ∈ fp,H' b=none)∧W i m σ' H':=fun {σ7 H7} I7 n7=>by
   obtain⟨m',hm,w7⟩:=hN σ7 H7 n7
   refine⟨m',hm,i + 1,σ7,H7,I7.unpinned,T.keep _ _ _ st5 fun b hb o e=>(I7.pin (b,o) (zU _ (zU _ (mem_pinsAt hb e)))).1,fun b hb=>?_,w7⟩
   obtain⟨o,e,d⟩:=T.obj _ _ st5 b hb
   exact(I7.pin (b,o) (zU _ (zU _ (mem_pinsAt hb e)))).2.1
  cases f with
  | next=>obtain⟨σ7,H7,I7,n7⟩:=q7; exact again I7 n7
  | cont=>obtain⟨σ7,H7,I7,n7⟩:=q7; exact again I7 n7
  | brk=>obtain⟨σ7,H7,I7,q7⟩:=q7; exact⟨σ7,H7,I7.unpinned,q7⟩
  | ret v=>obtain⟨x7,σ7,H7,I7,r7,q7⟩:=q7; exact⟨x7,σ7,H7,I7.unpinned,r7,q7⟩
end
theorem for_list {K:PySem.W.Frag} {a:Addr} {xs:List V} {g:TG} {tb:TS} {D:Ends} {σ:St} {H:Hp} (Pv:Nat→St→Hp→Prop) (h0:Pv 0 σ H) (hl:∀ i σ H,i≤xs.length→Pv i σ H→SqL K H a xs)
  (hs:∀ i x σ H,xs[i]?=some x→Pv i σ H→g x σ H fun σ2 H2=>tb { D with nx:=Pv (i + 1),ct:=Pv (i + 1),bk:=D.nx } σ2 H2) (hd:∀ σ H,Pv xs.length σ H→D.nx σ H) :
  ∃ W:Nat→Nat→St→Hp→Prop,(∃ m,W 0 m σ H)∧∀ i m σ H,W i m σ H →
   ((Itl K a).stop i H∧D.nx σ H)∨((Itl K a).go i H∧∃ N:St→Hp→Prop,(∀ σ' H',N σ' H'→∃ m',m' < m∧W (i + 1) m' σ' H')∧∀ x H',(Itl K a).yld i H x H'→g x σ H' fun σ2 H2=>tb { D with nx:=N,ct:=N,bk:=D.nx } σ2 H2):=by
 refine⟨fun i m σ H=>m=xs.length - i∧i≤xs.length∧Pv i σ H,⟨xs.length,by simp,zZ _,h0⟩,?_⟩
 rintro i m σ H ⟨rfl,hi,p⟩
 have q:=hl i σ H hi p
 by_cases hlt:i < xs.length
 ·refine .inr ⟨⟨xs,xs[i],q,by simp [hlt]⟩,Pv (i + 1),fun σ' H' p'=>⟨xs.length - (i + 1),by omega,rfl,hlt,p'⟩,fun x H' y=>?_⟩
  obtain⟨e,y⟩:=y
  subst e
  exact hs i x σ _ (y xs q) p
 ·have e:i=xs.length:=by omega
  subst e
  exact .inl ⟨⟨xs,q,zG _⟩,hd σ H p⟩
theorem for_tup {K:PySem.W.Frag} {a:Addr} {xs:List V} {g:TG} {tb:TS} {D:Ends} {σ:St} {H:Hp} (Pv:Nat→St→Hp→Prop) (h0:Pv 0 σ H) (hl:∀ i σ H,i≤xs.length→Pv i σ H→SqT K H a xs)
  (hs:∀ i x σ H,xs[i]?=some x→Pv i σ H→g x σ H fun σ2 H2=>tb { D with nx:=Pv (i + 1),ct:=Pv (i + 1),bk:=D.nx } σ2 H2) (hd:∀ σ H,Pv xs.length σ H→D.nx σ H) :
  ∃ W:Nat→Nat→St→Hp→Prop,(∃ m,W 0 m σ H)∧∀ i m σ H,W i m σ H →
   ((Itt K a).stop i H∧D.nx σ H)∨((Itt K a).go i H∧∃ N:St→Hp→Prop,(∀ σ' H',N σ' H'→∃ m',m' < m∧W (i + 1) m' σ' H')∧∀ x H',(Itt K a).yld i H x H'→g x σ H' fun σ2 H2=>tb { D with nx:=N,ct:=N,bk:=D.nx } σ2 H2):=by
 refine⟨fun i m σ H=>m=xs.length - i∧i≤xs.length∧Pv i σ H,⟨xs.length,by simp,zZ _,h0⟩,?_⟩
 rintro i m σ H ⟨rfl,hi,p⟩
 have q:=hl i σ H hi p
 by_cases hlt:i < xs.length
 ·refine .inr ⟨⟨xs,xs[i],q,by simp [hlt]⟩,Pv (i + 1),fun σ' H' p'=>⟨xs.length - (i + 1),by omega,rfl,hlt,p'⟩,fun x H' y=>?_⟩
  obtain⟨e,y⟩:=y
  subst e
  exact hs i x σ _ (y xs q) p
 ·have e:i=xs.length:=by omega
  subst e
  exact .inl ⟨⟨xs,q,zG _⟩,hd σ H p⟩
theorem for_range {lo:Int} {n:Nat} {g:TG} {tb:TS} {D:Ends} {σ:St} {H:Hp} (Pv:Nat→St→Hp→Prop) (h0:Pv 0 σ H)
  (hs:∀ i σ H,i < n→Pv i σ H→g (.int (lo + i)) σ H fun σ2 H2=>tb { D with nx:=Pv (i + 1),ct:=Pv (i + 1),bk:=D.nx } σ2 H2) (hd:∀ σ H,Pv n σ H→D.nx σ H) :
  ∃ W:Nat→Nat→St→Hp→Prop,(∃ m,W 0 m σ H)∧∀ i m σ H,W i m σ H →
   ((Itr lo n).stop i H∧D.nx σ H)∨((Itr lo n).go i H∧∃ N:St→Hp→Prop,(∀ σ' H',N σ' H'→∃ m',m' < m∧W (i + 1) m' σ' H')∧∀ x H',(Itr lo n).yld i H x H'→g x σ H' fun σ2 H2=>tb { D with nx:=N,ct:=N,bk:=D.nx } σ2 H2):=by
 refine⟨fun i m σ H=>m=n - i∧i≤n∧Pv i σ H,⟨n,by simp,zZ _,h0⟩,?_⟩
 rintro i m σ H ⟨rfl,hi,p⟩
 by_cases hlt:i < n
 ·refine .inr ⟨hlt,Pv (i + 1),fun σ' H' p'=>⟨n - (i + 1),by omega,rfl,hlt,p'⟩,fun x H' y=>?_⟩
  obtain⟨e,y⟩:=y
  subst e y
  exact hs i σ _ hlt p
 ·have e:i=n:=by omega
  subst e
  exact .inl ⟨zG _,hd σ H p⟩
end L2
namespace L2
open PySem PySem.Spec PyProof.Rows
abbrev R2:=V→V→Hp→VK→Prop
def OpR (X:Cx) (f:Value→Value→Sem Value) (r:R2):Prop :=
 ∀(pins:List (Addr × Obj)) (s:Shared) (σ:St) (H:Hp) (x y:V) (v u:Value) (Q:VK),Inv X pins σ H s→RelV x v→RelV y u→r x y H Q →
  wpAny (model X.prog X.w) X.A (f v u) (EP X pins σ Q) X.xe s
def UnR (X:Cx) (f:Value→Sem Value) (r:V→Hp→VK→Prop):Prop :=
 ∀(pins:List (Addr × Obj)) (s:Shared) (σ:St) (H:Hp) (x:V) (v:Value) (Q:VK),Inv X pins σ H s→RelV x v→r x H Q →
  wpAny (model X.prog X.w) X.A (f v) (EP X pins σ Q) X.xe s
def CallR (X:Cx) (f:Value) (r:List V→Hp→VK→Prop):Prop :=
 ∀(pins:List (Addr × Obj)) (s:Shared) (σ:St) (H:Hp) (xs:List V) (us:List Value) (Q:VK),Inv X pins σ H s→Vals xs us→r xs H Q →
  wpAny (model X.prog X.w) X.A (call f us) (EP X pins σ Q) X.xe s
def tOp (r:R2) (ta tb:TE):TE:=fun σ H Q=>ta σ H fun x H1=>tb σ H1 fun y H2=>r x y H2 Q
def tUn (r:V→Hp→VK→Prop) (ta:TE):TE:=fun σ H Q=>ta σ H fun x H1=>r x H1 Q
inductive rI (C:Int→Int→Prop) (g:Int→Int→V) (x:V) (y:V) (H:Hp) (Q:VK):Prop where
 | mk (i j:_) (h_0:x=.int i) (h_1:y=.int j) (h_2:C i j) (h_3:Q (g i j) H):rI C g x y H Q
inductive rI0 (g:Int→Int→V) (x:V) (y:V) (H:Hp) (Q:VK):Prop where
 | mk (i j:_) (h_0:x=.int i) (h_1:y=.int j) (h_2:Q (g i j) H):rI0 g x y H Q
inductive rU (g:Int→V) (x:V) (H:Hp) (Q:VK):Prop where
 | mk (i:_) (h_0:x=.int i) (h_1:Q (g i) H):rU g x H Q
section
variable {X:Cx} {a b c:Expr} {ta tb tc:TE} {pos:Pos}
theorem binT (ha:PE X a ta) (hb:PE X b tb) {pins:List (Addr × Obj)} {s:Shared} {σ:St} {H:Hp} {R:V→V→Hp→Prop} (I:Inv X pins σ H s)
  (h:ta σ H fun x H1=>tb σ H1 fun y H2=>R x y H2) {Q:Value→Shared→Prop} {f:Value→Value→Sem Value}
  (hf:∀ v u s2 x y H2,Inv X pins σ H2 s2→RelV x v→RelV y u→R x y H2→wpAny (model X.prog X.w) X.A (f v u) Q X.xe s2) :
  wpAny (model X.prog X.w) X.A (eval a X.env) (fun v s₁=>wpAny (model X.prog X.w) X.A (eval b X.env) (fun u s₂=>wpAny (model X.prog X.w) X.A (f v u) Q X.xe s₂) X.xe s₁) X.xe s:=by
 refine thn (ha pins s σ H _ I h) fun v s1 ⟨x,H1,I1,r1,q1⟩=>?_
 refine thn (hb pins s1 σ H1 _ I1 q1) fun u s2 ⟨y,H2,I2,r2,q2⟩=>?_
 exact hf v u s2 x y H2 I2 r1 r2 q2
theorem pe_op {op:Operator} {r:R2} (ho:OpR X (binaryOp op) r) (ha:PE X a ta) (hb:PE X b tb):PE X (.BinOp a op b pos) (tOp r ta tb):=by
 intro pins s σ H Q I h
 exact wpAny_BinOp (binT ha hb I h fun v u s2 x y H2 I2 rx ry q=>ho pins s2 σ H2 x y v u Q I2 rx ry q)
theorem pe_un {op:UnaryOp} {r:V→Hp→VK→Prop} (ho:UnR X (unaryOp op) r) (ha:PE X a ta):PE X (.UnaryOp op a pos) (tUn r ta):=by
 intro pins s σ H Q I h
 exact UnaryOp_ (thn (ha pins s σ H _ I h) fun v s1 ⟨x,H1,I1,r1,q1⟩=>ho pins s1 σ H1 x v Q I1 r1 q1)
theorem opI {f:Value→Value→Sem Value} {C:Int→Int→Prop} {g:Int→Int→Int}
  (rule:∀(i j:Int) (t u:Tok) (s:Shared) (Q:Value→Shared→Prop) (E:Value→Shared→Prop),C i j→Q (.int (g i j) s.toks) { s with toks:=s.toks + 1 }→wpAny (model X.prog X.w) X.A (f (.int i t) (.int j u)) Q E s) :
  OpR X f (rI C fun i j=>.int (g i j)):=by
 intro pins s σ H x y v u Q I rx ry h
 obtain⟨i,j,rfl,rfl,hc,q⟩:=h
 obtain⟨t,rfl⟩:=rx
 obtain⟨t',rfl⟩:=ry
 exact rule i j t t' s _ _ hc ⟨.int (g i j),H,I.tok _,⟨_,rfl⟩,q⟩
theorem opI0 {f:Value→Value→Sem Value} {g:Int→Int→Int}
  (rule:∀(i j:Int) (t u:Tok) (s:Shared) (Q:Value→Shared→Prop) (E:Value→Shared→Prop),Q (.int (g i j) s.toks) { s with toks:=s.toks + 1 }→wpAny (model X.prog X.w) X.A (f (.int i t) (.int j u)) Q E s) :
  OpR X f (rI0 fun i j=>.int (g i j)):=by
 intro pins s σ H x y v u Q I rx ry h
 obtain⟨i,j,rfl,rfl,q⟩:=h
 obtain⟨t,rfl⟩:=rx
 obtain⟨t',rfl⟩:=ry
 exact rule i j t t' s _ _ ⟨.int (g i j),H,I.tok _,⟨_,rfl⟩,q⟩
theorem opB0 {f:Value→Value→Sem Value} {g:Int→Int→Bool}
  (rule:∀(i j:Int) (t u:Tok) (s:Shared) (Q:Value→Shared→Prop) (E:Value→Shared→Prop),Q (.bool (g i j)) s→wpAny (model X.prog X.w) X.A (f (.int i t) (.int j u)) Q E s) :
  OpR X f (rI0 fun i j=>.bl (g i j)):=by
 intro pins s σ H x y v u Q I rx ry h
 obtain⟨i,j,rfl,rfl,q⟩:=h
 obtain⟨t,rfl⟩:=rx
 obtain⟨t',rfl⟩:=ry
 exact rule i j t t' s _ _ ⟨.bl (g i j),H,I,rfl,q⟩
def CDiv (i j:Int):Prop:=0 < j∧j < 1073741824
def CPow (i j:Int):Prop:=0≤j∧j≤1000000∧i.natAbs < 2 ^ 64
def CMul (i j:Int):Prop:=(-(2 ^ 64) < i∧i < 2 ^ 64)∨(-(2 ^ 64) < j∧j < 2 ^ 64)
theorem CMul.ok {i j:Int} (h:CMul i j):IntMulOk i j:=by
 rcases h with ⟨h1,h2⟩|⟨h1,h2⟩
 ·exact .of_left (intBits_le_64 h1 h2)
 ·exact .of_right (intBits_le_64 h1 h2)
theorem op_add:OpR X (binaryOp .Add) (rI0 fun i j=>.int (i + j)):=opI0 fun _ _ _ _ _ _ _ q=>add_int q
theorem op_sub:OpR X (binaryOp .Sub) (rI0 fun i j=>.int (i - j)):=opI0 fun _ _ _ _ _ _ _ q=>sub_int q
theorem op_mul:OpR X (binaryOp .Mult) (rI CMul fun i j=>.int (i * j)):=opI fun _ _ _ _ _ _ _ hc q=>mul_int q hc.ok
theorem op_fdiv:OpR X (binaryOp .FloorDiv) (rI CDiv fun i j=>.int (i / j)):=opI fun i j _ _ _ _ _ hc q=>by
 have h1:(0:Int) < j:=hc.1
 have h2:j < 1073741824:=hc.2
 exact floordiv_int (by omega) (by rw[Int.fdiv_eq_ediv_of_nonneg i (by omega)]; exact q) (.inl (PyProof.noPylong_small (by omega)))
theorem op_mod:OpR X (binaryOp .Mod) (rI (fun _ j=>0 < j) fun i j=>.int (i % j)):=opI fun i j _ _ _ _ _ hc q=>by
 have h1:(0:Int) < j:=hc
 exact mod_int' (by omega) (by rw[Int.fmod_eq_emod_of_nonneg i (by omega)]; exact q)
theorem op_pow:OpR X (binaryOp .Pow) (rI CPow fun i j=>.int (i ^ j.toNat)):=opI fun _ _ _ _ _ _ _ hc q=>pow_int_small hc.1 hc.2.1 hc.2.2 q
theorem unI {f:Value→Sem Value} {g:Int→Int}
  (rule:∀(i:Int) (t:Tok) (s:Shared) (Q:Value→Shared→Prop) (E:Value→Shared→Prop),Q (.int (g i) s.toks) { s with toks:=s.toks + 1 }→wpAny (model X.prog X.w) X.A (f (.int i t)) Q E s) :
  UnR X f (rU fun i=>.int (g i)):=by
 intro pins s σ H x v Q I rx h
 obtain⟨i,rfl,q⟩:=h
 obtain⟨t,rfl⟩:=rx
 exact rule i t s _ _ ⟨.int (g i),H,I.tok _,⟨_,rfl⟩,q⟩
theorem un_neg:UnR X (unaryOp .USub) (rU fun i=>.int (-i)):=unI fun _ _ _ _ _ q=>neg_int q
end
def scal:V→V→Bool
 | .non,.non=>true|.non,.int _=>true|.int _,.non=>true|.non,.bl _=>true|.bl _,.non=>true|.non,.str _=>true|.str _,.non=>true
 | .int _,.int _=>true|.bl _,.bl _=>true|.str _,.str _=>true|.byt _,.byt _=>true
 | .int _,.str _=>true|.str _,.int _=>true|.bl _,.str _=>true|.str _,.bl _=>true
 | _,_=>false
def rEq:R2:=fun x y H Q=>scal x y=true∧Q (.bl (decide (x=y))) H
def rNe:R2:=fun x y H Q=>scal x y=true∧Q (.bl (!decide (x=y))) H
theorem dec_int {i j:Int}:decide (V.int i=V.int j)=(i == j):=by
 rw[j0]
 simp
theorem dec_bl {i j:Bool}:decide (V.bl i=V.bl j)=(i == j):=by
 rw[j0]
 simp
theorem dec_str {i j:Str}:decide (V.str i=V.str j)=(i == j):=by
 rw[j0]
 simp
theorem dec_byt {i j:Array UInt8}:decide (V.byt i=V.byt j)=(i.toList == j.toList):=by
 rw[j0]
 cases i
 cases j
 simp
section
variable {X:Cx} {a b c:Expr} {ta tb tc:TE} {pos:Pos}
theorem fin_bl {pins:List (Addr × Obj)} {σ:St} {H:Hp} {s:Shared} {Q:VK} {k k':Bool} (I:Inv X pins σ H s) (q:Q (.bl k) H) (e:k=k'):EP X pins σ Q (.bool k') s:=by
 subst e
 exact⟨.bl k,H,I,rfl,q⟩
theorem op_eq:OpR X (compareOp .Eq) rEq:=by
 intro pins s σ H x y v u Q I rx ry h
 obtain⟨hs,q⟩:=h
 cases x with
 | non =>
  cases rx
  cases y with
  | non=>cases ry; exact PySem.EqNone.eq_none_none (fin_bl I q (by simp))
  | bl j=>cases ry; exact PySem.EqNone.eq_none_bool (fin_bl I q (by simp))
  | int j=>obtain⟨t',rfl⟩:=ry; exact PySem.EqNone.eq_none_int (fin_bl I q (by simp))
  | str j=>obtain⟨t',rfl⟩:=ry; exact PySem.EqNone.eq_none_str (fin_bl I q (by simp))
  | _=>exact absurd (show false=true from hs) zV
 | bl i =>
  cases rx
  cases y with
  | non=>cases ry; exact PySem.EqNone.eq_bool_none (fin_bl I q (by simp))
  | bl j=>cases ry; exact eq_bool (fin_bl I q dec_bl)
  | str j=>obtain⟨t',rfl⟩:=ry; exact PySem.EqMixed.eq_bool_str (fin_bl I q (by simp))
  | _=>exact absurd (show false=true from hs) zV
 | int i =>
  obtain⟨t,rfl⟩:=rx
  cases y with
  | non=>cases ry; exact PySem.EqNone.eq_int_none (fin_bl I q (by simp))
  | int j=>obtain⟨t',rfl⟩:=ry; exact eq_int (fin_bl I q dec_int)
  | str j=>obtain⟨t',rfl⟩:=ry; exact PySem.EqMixed.eq_int_str (fin_bl I q (by simp))
  | _=>exact absurd (show false=true from hs) zV
 | str i =>
  obtain⟨t,rfl⟩:=rx
  cases y with
  | non=>cases ry; exact PySem.EqNone.eq_str_none (fin_bl I q (by simp))
  | bl j=>cases ry; exact PySem.EqMixed.eq_str_bool (fin_bl I q (by simp))
  | int j=>obtain⟨t',rfl⟩:=ry; exact PySem.EqMixed.eq_str_int (fin_bl I q (by simp))
  | str j=>obtain⟨t',rfl⟩:=ry; exact eq_str (fin_bl I q dec_str)
  | _=>exact absurd (show false=true from hs) zV
 | byt i =>
  obtain⟨t,rfl⟩:=rx
  cases y with
  | byt j=>obtain⟨t',rfl⟩:=ry; exact PySem.W.eq_bytes (fin_bl I q dec_byt)
  | _=>exact absurd (show false=true from hs) zV
 | _=>cases y <;> exact absurd (show false=true from hs) zV
theorem op_ne:OpR X (compareOp .NotEq) rNe:=by
 intro pins s σ H x y v u Q I rx ry h
 obtain⟨hs,q⟩:=h
 cases x with
 | non =>
  cases rx
  cases y with
  | non=>cases ry; exact PySem.EqNone.ne_none_none (fin_bl I q (by simp))
  | bl j=>cases ry; exact PySem.EqNone.ne_none_bool (fin_bl I q (by simp))
  | int j=>obtain⟨t',rfl⟩:=ry; exact PySem.EqNone.ne_none_int (fin_bl I q (by simp))
  | str j=>obtain⟨t',rfl⟩:=ry; exact PySem.EqNone.ne_none_str (fin_bl I q (by simp))
  | _=>exact absurd (show false=true from hs) zV
 | bl i =>
  cases rx
  cases y with
  | non=>cases ry; exact PySem.EqNone.ne_bool_none (fin_bl I q (by simp))
  | bl j=>cases ry; exact ne_bool (fin_bl I q (congrArg not dec_bl))
  | str j=>obtain⟨t',rfl⟩:=ry; exact PySem.EqMixed.ne_bool_str (fin_bl I q (by simp))
  | _=>exact absurd (show false=true from hs) zV
 | int i =>
  obtain⟨t,rfl⟩:=rx
  cases y with
  | non=>cases ry; exact PySem.EqNone.ne_int_none (fin_bl I q (by simp))
  | int j=>obtain⟨t',rfl⟩:=ry; exact ne_int (fin_bl I q (congrArg not dec_int))
  | str j=>obtain⟨t',rfl⟩:=ry; exact PySem.EqMixed.ne_int_str (fin_bl I q (by simp))
  | _=>exact absurd (show false=true from hs) zV
 | str i =>
  obtain⟨t,rfl⟩:=rx
  cases y with
  | non=>cases ry; exact PySem.EqNone.ne_str_none (fin_bl I q (by simp))
  | bl j=>cases ry; exact PySem.EqMixed.ne_str_bool (fin_bl I q (by simp))
  | int j=>obtain⟨t',rfl⟩:=ry; exact PySem.EqMixed.ne_str_int (fin_bl I q (by simp))
  | str j=>obtain⟨t',rfl⟩:=ry; exact ne_str (fin_bl I q (congrArg not dec_str))
  | _=>exact absurd (show false=true from hs) zV
 | byt i =>
  obtain⟨t,rfl⟩:=rx
  cases y with
  | byt j=>obtain⟨t',rfl⟩:=ry; exact PySem.W.ne_bytes (fin_bl I q (congrArg not dec_byt))
  | _=>exact absurd (show false=true from hs) zV
 | _=>cases y <;> exact absurd (show false=true from hs) zV
theorem op_lt:OpR X (compareOp .Lt) (rI0 fun i j=>.bl (decide (i < j))):=opB0 fun _ _ _ _ _ _ _ q=>lt_int q
theorem op_le:OpR X (compareOp .LtE) (rI0 fun i j=>.bl (decide (i≤j))):=opB0 fun _ _ _ _ _ _ _ q=>le_int q
theorem op_gt:OpR X (compareOp .Gt) (rI0 fun i j=>.bl (decide (j < i))):=opB0 fun _ _ _ _ _ _ _ q=>gt_int q
theorem op_notN:OpR X (compareOp .IsNot) (fun x y H Q=>y=.non∧Q (.bl (!decide (x=.non))) H):=by
 intro pins s σ H x y v u Q I rx ry h
 obtain⟨rfl,q⟩:=h
 cases ry
 refine isnot_none_gen (fin_bl I q ?_)
 cases x <;> first
  | (cases rx; rfl)
  | (obtain⟨t,rfl⟩:=rx; rfl)
theorem nomark (b:Expr) {op:CmpOp} (h:op ≠ .In:=by decide) (h2:op ≠ .NotIn:=by decide):behindInMarks op b=false:=by
 have e1:(op == CmpOp.In)=false:=by cases op <;> first|rfl|exact absurd rfl h
 have e2:(op == CmpOp.NotIn)=false:=by cases op <;> first|rfl|exact absurd rfl h2
 cases b <;> simp [behindInMarks,e1,e2]
theorem pe_cmpR {op:CmpOp} {r:R2} (ho:OpR X (compareOp op) r) (ha:PE X a ta) (hb:PE X b tb) (hm:behindInMarks op b=false):PE X (.Compare a [op] [b] pos) (tOp r ta tb):=by
 intro pins s σ H Q I h
 exact wpAny_Compare1 (binT ha hb I h fun v u s2 x y H2 I2 rx ry q=>ho pins s2 σ H2 x y v u Q I2 rx ry q) hm
inductive tTest_ (Q:Bool→Hp→Prop) (x:V) (H':Hp):Prop where
 | mk (k:_) (h_0:x=.bl k) (h_1:Q k H'):tTest_ Q x H'
def tTest (t:TE):TT:=fun σ H Q=>t σ H fun x H'=>tTest_ Q x H'
theorem pt_cmpR {op:CmpOp} {r:R2} (ho:OpR X (compareOp op) r) (ha:PE X a ta) (hb:PE X b tb) (hm:behindInMarks op b=false):PT X (.Compare a [op] [b] pos) (tTest (tOp r ta tb)):=by
 intro pins s σ H Q I h
 refine wpAny_isTrue_Compare1 (thn (ha pins s σ H _ I h) fun v s1 ⟨x,H1,I1,r1,q1⟩=>thn (hb pins s1 σ H1 _ I1 q1) fun u s2 ⟨y,H2,I2,r2,q2⟩ =>
  thn (ho pins s2 σ H2 x y v u _ I2 r1 r2 q2) fun c s3 ⟨z,H3,I3,r3,k,e,q3⟩=>?_) hm
 subst e
 cases r3
 exact wpAny_truthy_bool ⟨H3,I3,q3⟩
theorem line63:(sizeLine:Nat) < 2 ^ 63:=by rw[sizeLine_eq]; decide
theorem vals1 {x:V} {us:List Value} (r:Vals [x] us):∃ u,us=[u]∧RelV x u:=by
 cases r with
 | cons r1 r2=>cases r2; exact⟨_,rfl,r1⟩
theorem vals2 {x y:V} {us:List Value} (r:Vals [x,y] us):∃ u w',us=[u,w']∧RelV x u∧RelV y w':=by
 cases r with
 | cons r1 r2 =>
  cases r2 with
  | cons r3 r4=>cases r4; exact⟨_,_,rfl,r1,r3⟩
theorem call_min2 (hc:X.calm=true):CallR X (.builtin "min") (fun xs H Q=>∃ i j,xs=[.int i,.int j]∧Q (.int (if j < i then j else i)) H):=by
 intro pins s σ H xs us Q I r h
 obtain⟨i,j,rfl,q⟩:=h
 obtain⟨u,w',rfl,⟨t,rfl⟩,⟨t',rfl⟩⟩:=vals2 r
 refine min_two_ints (I.ok.hd hc) fun h' tk k=>⟨_,H,I.kept k,?_,q⟩
 by_cases hj:j < i
 ·rw[if_pos hj,if_pos hj]; exact⟨_,rfl⟩
 ·rw[if_neg hj,if_neg hj]; exact⟨_,rfl⟩
theorem call_int1:CallR X (.type "int") (fun xs H Q=>(∃ i,xs=[.int i]∧Q (.int i) H)∨∃ k,xs=[.bl k]∧Q (.int (if k then 1 else 0)) H):=by
 intro pins s σ H xs us Q I r h
 rcases h with ⟨i,rfl,q⟩|⟨k,rfl,q⟩
 ·obtain⟨u,rfl,t,rfl⟩:=vals1 r
  exact call_int_int ⟨.int i,H,I,⟨_,rfl⟩,q⟩
 ·obtain⟨u,rfl,r1⟩:=vals1 r
  cases r1
  exact call_int_bool ⟨.int (if k then 1 else 0),H,I.tok _,⟨_,rfl⟩,q⟩
end
end L2
namespace L2
open PySem PySem.Spec PyProof.Rows
structure ObjM (h:Heap) (x dx C:Addr) (mA:Str→Option Value):Prop where
 obj:h.get? x=some (PySem.W.instObj C dx)
 ns:h.Ns1 dx mA
 ne:dx ≠ x
theorem lookIn_ns {h:Heap} {dx:Addr} {mA:Str→Option Value} (n:h.Ns1 dx mA):∃ od,h.get? dx=some od∧∀ name,PySem.W.lookIn name od=some (mA name):=by
 obtain⟨o,es,ep,ho,hd,hk,_,hm⟩:=n
 refine⟨o,ho,fun name=>?_⟩
 have e:=hm name
 unfold nsFind findBy at e
 rw[← Array.find?_toList] at e
 unfold PySem.W.lookIn
 rw[hd]
 dsimp only
 split
 ·rename_i y q
  rw[q] at e
  exact congrArg some e
 ·rename_i q
  rw[q] at e
  have a:es.toList.any (·.refKey)=false:=by
   rw[List.any_eq_false]
   intro y hy
   obtain⟨z,t,hkey⟩:=hk y (Array.mem_toList_iff.mp hy)
   simp [DictEntry.refKey,hkey]
  have a':¬ es.toList.any (·.refKey)=true:=by rw[a]; exact zV
  rw[if_neg a']
  exact congrArg some e
theorem ObjM.look {h:Heap} {x dx C:Addr} {mA:Str→Option Value} (I:ObjM h x dx C mA):∃ od,PySem.W.InstAt h x (PySem.W.instObj C dx) C (some od)∧∀ name,PySem.W.lookIn name od=some (mA name) :=
 let ⟨od,ho,hl⟩:=lookIn_ns I.ns
 ⟨od,⟨I.obj,rfl,rfl,ho⟩,hl⟩
section
variable {prog:Program} {w:World} {A:Around} {E:Value→Shared→Prop} {s:Shared} {K:PySem.W.Frag} {x dx C f:Addr} {mA:Str→Option Value} {name:Str} {v:Value}
theorem get_map {expr:Bool} {Q:Value→Shared→Prop} (X:K.In s.heap) (I:ObjM s.heap x dx C mA) (hg:PySem.W.plainGet K C name=true) (hh:PySem.W.hasDictIn K C=true)
  (ha:PySem.W.findIn K (.ref C) name=some none) (hv:mA name=some v) (hv':PySem.W.handedIn v=true) (h:Q v { s with toks:=s.toks + 1 }) :
  wpAny (model prog w) A (getAttr (.ref x) name expr) Q E s:=by
 obtain⟨od,J,hl⟩:=I.look
 exact PySem.W.get_value X J (PySem.W.plainGet_of hg).1 (PySem.W.findObj_own hh ha rfl (by rw[hl,hv])) hv' h
theorem get_meth {pl:Sem Bool} {Q:Value × List Value→Shared→Prop} (X:K.In s.heap) (I:ObjM s.heap x dx C mA) (hg:PySem.W.plainGet K C name=true)
  (hf:PySem.W.findIn K (.ref C) name=some (some (.ref f))) (ht:PySem.W.isFn K (.ref f)=true) (hv:mA name=none) (h:Q (.ref f,[.ref x]) s) :
  wpAny (model prog w) A (getMethod (.ref x) name pl) Q E s:=by
 obtain⟨od,J,hl⟩:=I.look
 exact PySem.W.method_fn X J (PySem.W.plainGet_of hg).1 (PySem.W.plainGet_of hg).2 hf (beq_iff_eq.mp ht) (by show(PySem.W.lookIn name od).map (·.isSome)=some false; rw[hl,hv]; rfl) h
theorem set_map {ns:List Str} {Q:Unit→Shared→Prop} (X:K.In s.heap) (I:ObjM s.heap x dx C mA)
  (hs:PySem.W.findIn K (.ref C) "__setattr__"=some (some (.builtin "object.__setattr__"))) (hp:PySem.W.plainOver K C=true) (ht:PySem.W.takerIn K C name=some none) (hh:PySem.W.hasDictIn K C=true)
  (hw:PySem.Within mA ns) (hsz:ns.length≤sizeLine)
  (h:∀ h',ObjM h' x dx C (fun y=>if y=name then some v else mA y)→Heap.SameBut dx s.heap h'→Q () { s with heap:=h',toks:=s.toks + 2 }) :
  wpAny (model prog w) A (setAttr (.ref x) name v) Q E s:=by
 obtain⟨od,J,hl⟩:=I.look
 refine PySem.W.set_plain X J hs (PySem.W.osa_open (s:={ s with toks:=s.toks + 1 }) (r:=none) X J hp ht fun b=>?_)
 obtain⟨cd,hc,hd'⟩:=PySem.W.any_some hh
 have hx:s.heap.get? x=some ⟨.ref C,some dx,.plain,#[]⟩:=I.obj
 refine wpAny_bind (wpAny_pure (wpAny_bind (wpAny_bind (wpAny_loadPart hx (wpAny_bind (PySem.W.Looks.here (s:={ s with toks:=s.toks + 1 }) (PySem.W.looks_clsIn X hc) ?_))))))
 rw[hd']
 refine wpAny_pure (a:=some dx) (wpAny_bind (wpAny_pure (wpAny_bind ?_)))
 refine wpAny_nsSet1 (s:={ s with toks:=s.toks + 1 }) I.ns fun h' hn2 hs2=>?_
 obtain⟨oD,esD,epD,hoD,hdD,hcD⟩:=hn2.count (PySem.Within.cons name v hw)
 refine wpAny_bind (wpAny_lookBehind hoD (by rw[hdD]; exact pastItsLine_dict (yA hcD (by rw[zP]; omega))) ?_)
 exact wpAny_pure (h _ ⟨(hs2.2 _ (Ne.symm I.ne)).trans I.obj,hn2,I.ne⟩ hs2)
theorem make_map {R:Result→Shared→Prop} {vs:List Value} {kw:List (Str × Value)} (X:K.In s.heap) (hm:PySem.W.makesIn K C=true)
  (hi:PySem.W.findIn K (.ref C) "__init__"=some (some (.ref f))) (hf:PySem.W.typeIn K (.ref f)=some (.type "function"))
  (h:codeAny (model prog w) (A.under (.builtin "type.__call__" ⟨.ref C::vs,kw⟩)) (.call (.ref f) ⟨.ref (s.heap.objs.size + 1)::vs,kw⟩) (PySem.W.InitBack (s.heap.objs.size + 1) R)
   { s with heap:=(s.heap.push PySem.W.emptyDict).push (PySem.W.instObj C s.heap.objs.size) }) :
  codeAny (model prog w) A (.call (.ref C) ⟨vs,kw⟩) R s:=by
 obtain⟨hh,g,d,t,os⟩:=s
 exact PySem.W.make_core (PySem.W.makes_of X hm) (PySem.W.looks_findIn X hi) (fun self=>PySem.W.bind_fn X self hf) (.inl rfl) h
end
def putF (f:Str) (v:V):List (Str × V)→List (Str × V)
 | []=>[(f,v)]
 | (g,x)::r=>if g=f then (g,v)::r else (g,x)::putF f v r
theorem lookup_putF (f g:Str) (v:V):∀ fs:List (Str × V),(putF f v fs).lookup g=if g=f then some v else fs.lookup g
 | []=>by
  show List.lookup g [(f,v)]=_
  by_cases h:g=f
  ·have hb:(g == f)=true:=beq_iff_eq.mpr h
   simp only [List.lookup,hb,if_pos h]
  ·have hb:(g == f)=false:=beq_eq_false_iff_ne.mpr h
   simp only [List.lookup,hb,if_neg h]
 | (k,x)::r=>by
  have ih:=lookup_putF f g v r
  rw[show putF f v ((k,x)::r)=(if k=f then (k,v)::r else (k,x)::putF f v r) from rfl]
  by_cases hk:k=f
  ·rw[if_pos hk]
   by_cases h:g=k
   ·have hb:(g == k)=true:=beq_iff_eq.mpr h
    simp only [List.lookup,hb,if_pos (h.trans hk)]
   ·have hb:(g == k)=false:=beq_eq_false_iff_ne.mpr h
    simp only [List.lookup,hb,if_neg (fun e:g=f=>h (e.trans hk.symm))]
  ·rw[if_neg hk]
   by_cases h:g=k
   ·have hb:(g == k)=true:=beq_iff_eq.mpr h
    simp only [List.lookup,hb,if_neg (fun e:g=f=>hk (h.symm.trans e))]
   ·have hb:(g == k)=false:=beq_eq_false_iff_ne.mpr h
    simp only [List.lookup,hb]
    exact ih
theorem keys_putF (f:Str) (v:V):∀ fs:List (Str × V),f ∈ (putF f v fs).map (·.1)∧∀ g,g ∈ fs.map (·.1)→g ∈ (putF f v fs).map (·.1)
 | []=>⟨by simp [putF],fun g h=>by simp at h⟩
 | (k,x)::r=>by
  obtain⟨i1,i2⟩:=keys_putF f v r
  rw[show putF f v ((k,x)::r)=(if k=f then (k,v)::r else (k,x)::putF f v r) from rfl]
  by_cases hk:k=f
  ·rw[if_pos hk]
   subst hk
   exact⟨by simp,fun g h=>by simpa using h⟩
  ·rw[if_neg hk]
   refine⟨?_,fun g h=>?_⟩
   ·rw[yI]
    exact zI _ i1
   ·rw[yI] at h ⊢
    rcases zT.mp h with e|e
    ·exact zT.mpr (.inl e)
    ·exact zI _ (i2 g e)
theorem length_putF (f:Str) (v:V):∀ fs:List (Str × V),(putF f v fs).length≤fs.length + 1
 | []=>by simp [putF]
 | (k,x)::r=>by
  have ih:=length_putF f v r
  rw[show putF f v ((k,x)::r)=(if k=f then (k,v)::r else (k,x)::putF f v r) from rfl]
  by_cases hk:k=f
  ·rw[if_pos hk,zP,zP]; omega
  ·rw[if_neg hk,zP,zP]; omega
theorem RelO.some_of {v:V} {o:Option Value} (r:RelO (some v) o):∃ u,o=some u∧RelV v u:=by
 cases o with
 | none=>exact(show False from r).elim
 | some u=>exact⟨u,rfl,r⟩
theorem RelO.none_of {o:Option Value} (r:RelO none o):o=none:=by
 cases o with
 | none=>rfl
 | some u=>exact(show False from r).elim
theorem handed_of {v:V} {u:Value} (r:RelV v u):PySem.W.handedIn u=true:=by
 cases v with
 | non=>cases (show u=Value.none from r); rfl
 | bl b=>cases (show u=Value.bool b from r); rfl
 | int i=>obtain⟨t,e⟩:=(show ∃ t,u=Value.int i t from r); cases e; rfl
 | str x=>obtain⟨t,e⟩:=(show ∃ t,u=Value.str x t from r); cases e; rfl
 | byt b=>obtain⟨t,e⟩:=(show ∃ t,u=Value.bytes b t from r); cases e; rfl
 | flt b=>obtain⟨t,e⟩:=(show ∃ t,u=Value.float b t from r); cases e; rfl
 | ref a=>cases (show u=Value.ref a from r); rfl
 | ty n=>cases (show u=Value.type n from r); rfl
section
variable {P:Program} {w:World} {H H':Hp} {h h':Heap} {a C dx:Addr} {fs fs':List (Str × V)}
theorem ins_get (hok:HOk P w H h) (e:H a=some (.ins C dx fs)):∃ mA,ObjM h a dx C mA∧(∀ f,RelO (fs.lookup f) (mA f))∧PySem.Within mA (fs.map (·.1))∧fs.length≤1000∧H dx=some (.own a):=by
 obtain⟨d,z,ne,ob,mA,n,r,q⟩:=(show ObjOk P w H h a (.ins C dx fs) from hok a _ e)
 exact⟨mA,⟨ob,n,ne⟩,r,q,z,d⟩
end
structure Cls (K:PySem.W.Frag) (C:Addr):Prop where
 pg:PySem.W.plainGet K C Str.empty=true
 hd:PySem.W.hasDictIn K C=true
 po:PySem.W.plainOver K C=true
 sa:PySem.W.findIn K (.ref C) "__setattr__"=some (some (.builtin "object.__setattr__"))
theorem Cls.get {K:PySem.W.Frag} {C:Addr} (c:Cls K C) (f:Str):PySem.W.plainGet K C f=true:=c.pg
def NoAttr (K:PySem.W.Frag) (C:Addr) (f:Str):Prop:=PySem.W.findIn K (.ref C) f=some none
theorem NoAttr.taker {K:PySem.W.Frag} {C:Addr} {f:Str} (n:NoAttr K C f):PySem.W.takerIn K C f=some none:=by
 unfold PySem.W.takerIn
 rw[show PySem.W.findIn K (.ref C) f=some none from n]
 rfl
structure Meth (K:PySem.W.Frag) (C:Addr) (m:Str) (f:Addr):Prop where
 at_:PySem.W.findIn K (.ref C) m=some (some (.ref f))
 fn:PySem.W.isFn K (.ref f)=true
 kp:PySem.W.keepIn K (.ref f)=true
section
variable {X:Cx} {pins:List (Addr × Obj)} {σ:St} {H:Hp} {s:Shared} {a C dx:Addr} {fs:List (Str × V)} {f:Str} {v:V} {A:Around} {E:Value→Shared→Prop}
theorem getattr_ok {b:Bool} {Q:Value→Shared→Prop} (I:Inv X pins σ H s) (e:H a=some (.ins C dx fs)) (c:Cls X.K C) (n:NoAttr X.K C f) (l:fs.lookup f=some v)
  (h:∀ u s',Inv X pins σ H s'→RelV v u→Q u s'):wpAny (model X.prog X.w) A (getAttr (.ref a) f b) Q E s:=by
 obtain⟨mA,O,r,_,_,_⟩:=ins_get I.hok e
 obtain⟨u,hu,ru⟩:=RelO.some_of (v:=v) (o:=mA f) (by rw[← l]; exact r f)
 exact get_map I.kIn O (c.get f) c.hd n hu (handed_of ru) (h u _ (I.tok _) ru)
theorem getmeth_ok {m:Str} {g:Addr} {pl:Sem Bool} {Q:Value × List Value→Shared→Prop} (I:Inv X pins σ H s) (e:H a=some (.ins C dx fs)) (c:Cls X.K C) (k:Meth X.K C m g) (l:fs.lookup m=none)
  (h:Q (.ref g,[.ref a]) s):wpAny (model X.prog X.w) A (getMethod (.ref a) m pl) Q E s:=by
 obtain⟨mA,O,r,_,_,_⟩:=ins_get I.hok e
 have hn:mA m=none:=RelO.none_of (by rw[← l]; exact r m)
 exact get_meth I.kIn O (c.get m) k.at_ k.fn hn h
theorem setattr_ok {y:V} {u:Value} {Q:Unit→Shared→Prop} (I:Inv X pins σ H s) (e:H a=some (.ins C dx fs)) (c:Cls X.K C) (n:NoAttr X.K C f) (hl:fs.length < 1000) (ry:RelV y u)
  (h:∀ s',Inv X pins σ (upd H a (.ins C dx (putF f y fs))) s'→Q () s'):wpAny (model X.prog X.w) A (setAttr (.ref a) f u) Q E s:=by
 obtain⟨mA,O,r,wi,_,ho⟩:=ins_get I.hok e
 have hz:(fs.map (·.1)).length≤sizeLine:=by rw[zB,sizeLine_eq]; omega
 refine set_map I.kIn O c.sa c.po n.taker c.hd wi hz fun h' O' sb=>h _ ?_
 have hd:∃ o,h'.get? dx=some o:=let ⟨o,_,_,e',_⟩:=O'.ns; ⟨o,e'⟩
 refine I.write (x:=a) (e:=dx) (by rw[e]; exact True.intro) (.inr ho) (fun b q hb z=>(sb.2 b hb).trans z) hd ?_
 refine⟨by rw[upd_ne O.ne]; exact ho,?_,O.ne,O'.obj,_,O'.ns,fun g=>?_,fun g hg=>?_⟩
 ·have:=length_putF f y fs; omega
 ·show RelO ((putF f y fs).lookup g) (if g=f then some u else mA g)
  rw[lookup_putF]
  by_cases q:g=f
  ·rw[if_pos q,if_pos q]; exact ry
  ·rw[if_neg q,if_neg q]; exact r g
 ·by_cases q:g=f
  ·rw[q]; exact(keys_putF f y fs).1
  ·refine(keys_putF f y fs).2 g (wi g fun z=>hg ?_)
   show(if g=f then some u else mA g)=none
   rw[if_neg q]; exact z
theorem Inv.made (I:Inv X pins σ H s):Inv X pins σ (upd (upd H s.heap.objs.size (.own (s.heap.objs.size + 1))) (s.heap.objs.size + 1) (.ins C s.heap.objs.size []))
  { s with heap:=(s.heap.push PySem.W.emptyDict).push (PySem.W.instObj C s.heap.objs.size) }:=by
 have e1:(s.heap.push PySem.W.emptyDict).get? s.heap.objs.size=some PySem.W.emptyDict:=Heap.get?_push_size s.heap rfl
 have e2:((s.heap.push PySem.W.emptyDict).push (PySem.W.instObj C s.heap.objs.size)).get? (s.heap.objs.size + 1)=some (PySem.W.instObj C s.heap.objs.size):=by
  have:=Heap.get?_push_size (s.heap.push PySem.W.emptyDict) (o:=PySem.W.instObj C s.heap.objs.size) rfl
  rwa [Heap.size_push] at this
 have e3:(s.heap.push PySem.W.emptyDict).Ns s.heap.objs.size (fun _=>none):=⟨PySem.W.emptyDict,#[],_,e1,rfl,(fun e he=>absurd he (by simp)),fun _=>rfl⟩
 have I1:=I.laid (a:=s.heap.objs.size) (o:=.own (s.heap.objs.size + 1)) (h':=s.heap.push PySem.W.emptyDict) (t':=s.toks) (fun b u q=>Heap.get?_push_of_some _ q) (zG _) ⟨_,e1⟩
 refine I1.laid (a:=s.heap.objs.size + 1) (o:=.ins C s.heap.objs.size []) (t':=s.toks) (fun b u q=>Heap.get?_push_of_some _ q) (qZ (Heap.size_push _ _)) ?_
 have ne:s.heap.objs.size ≠ s.heap.objs.size + 1:=zY (jU _)
 refine⟨by rw[upd_ne ne,upd_same],zZ _,ne,e2,fun _=>none,(Heap.Ns1.of_empty e3).at fun o q=>Heap.get?_push_of_some _ q,fun _=>True.intro,fun y hy=>absurd rfl hy⟩
theorem attr_of {prog:Program} {w:World} {env:Env} {e:Expr} {f:Str} {pos:Pos} {s:Shared} {Q:Value→Shared→Prop} (hb:attributeBase e f env (eval e env)=eval e env)
  (h:wpAny (model prog w) A (eval e env) (fun o s₁=>wpAny (model prog w) A (getAttr o f true) Q E s₁) E s):wpAny (model prog w) A (eval (.Attribute e f pos) env) Q E s :=
 Attribute_any_ h (by rw[arm_eval_Attribute,hb])
end
inductive tFld_ (K:PySem.W.Frag) (f:Str) (Q:VK) (x:V) (H1:Hp):Prop where
 | mk (a C dx fs v:_) (h_0:x=.ref a) (h_1:H1 a=some (.ins C dx fs)) (h_2:Cls K C) (h_3:NoAttr K C f) (h_4:fs.lookup f=some v) (h_5:Q v H1):tFld_ K f Q x H1
def tFld (K:PySem.W.Frag) (ta:TE) (f:Str):TE:=fun σ H Q=>ta σ H fun x H1=>tFld_ K f Q x H1
inductive sFld_ (K:PySem.W.Frag) (f:Str) (D:Ends) (σ:St) (y:V) (x:V) (H2:Hp):Prop where
 | mk (a C dx fs:_) (h_0:x=.ref a) (h_1:H2 a=some (.ins C dx fs)) (h_2:Cls K C) (h_3:NoAttr K C f) (h_4:fs.length < 1000) (h_5:D.nx σ (upd H2 a (.ins C dx (putF f y fs)))):sFld_ K f D σ y x H2
def sFld (K:PySem.W.Frag) (ta tv:TE) (f:Str):TS:=fun D σ H=>tv σ H fun y H1=>ta σ H1 fun x H2=>sFld_ K f D σ y x H2
section
variable {X:Cx} {o e value:Expr} {f:Str} {pos pos' tpos:Pos} {ta tv:TE}
theorem pe_fld (he:PE X e ta) (hb:attributeBase e f X.env (eval e X.env)=eval e X.env):PE X (.Attribute e f pos) (tFld X.K ta f):=by
 intro pins s σ H Q I h
 refine attr_of hb (thn (he pins s σ H _ I h) fun u s1 ⟨x,H1,I1,rx,a,C,dx,fs,v,ex,ea,c,n,l,q⟩=>?_)
 subst ex
 obtain rfl:u=Value.ref a:=rx
 exact getattr_ok I1 ea c n l fun u' s2 I2 ru=>⟨v,H1,I2,ru,q⟩
theorem ps_fld (ha:PE X o ta) (hv:PE X value tv) (hs:swapsWith value (some (.Attribute o f pos')) pos.line X.env=pure false):PS X (.Assign [.Attribute o f pos'] value pos) (sFld X.K ta tv f):=by
 intro pins s σ H D I h
 refine plainObj_wpAny_Assign_Attribute (thn (hv pins s σ H _ I h) fun u s1 ⟨y,H1,I1,ry,q⟩=>thn (ha pins s1 σ H1 _ I1 q) fun ov s2 ⟨x,H2,I2,rx,a,C,dx,fs,ex,ea,c,n,l,q2⟩=>?_) hs
 subst ex
 obtain rfl:ov=Value.ref a:=rx
 exact setattr_ok I2 ea c n l ry fun s3 I3=>⟨σ,_,I3,q2⟩
end
section
variable {X:Cx} {pins:List (Addr × Obj)} {σ:St} {H:Hp} {s:Shared} {A:Around} {E:Value→Shared→Prop} {Q:Value→Shared→Prop} {c:Value} {b:Bool}
end
end L2
namespace L2
open PySem PySem.Spec PyProof.Rows
structure Room (k:Nat) (A:Around):Prop where
 hd:A.handled=none
 dp:A.depth + 3 * k + 5 < recursionLimit
 un:A.units + 16 * k + 200 < cLine
theorem Room.mono {j k:Nat} {A:Around} (r:Room k A) (h:j≤k):Room j A:=⟨r.hd,by have:=r.dp; omega,by have:=r.un; omega⟩
theorem Room.deeper {k:Nat} {A:Around} (r:Room (k + 1) A) (env:Env):Room k (A.deeper env) :=
 ⟨r.hd,by have:=r.dp; show A.depth + 1 + 3 * k + 5 < _; omega,by have:=r.un; show A.units + 3 + 16 * k + 200 < _; omega⟩
theorem make_depth {A:Around} {C:Addr} {us:List Value} {kw:List (Str × Value)}:(A.under (.builtin "type.__call__" ⟨.ref C::us,kw⟩)).depth=A.depth + 1:=by
 first|rfl|simp [Around.under,Code.weight,Code.isCreation,Code.isGuard,Code.isCaller,Code.frames,Code.isFrame,guardIds]
theorem make_units {A:Around} {C:Addr} {us:List Value} {kw:List (Str × Value)}:(A.under (.builtin "type.__call__" ⟨.ref C::us,kw⟩)).units=A.units + 1:=by
 first|rfl|simp [Around.under,Code.cUnits,Code.frames,Code.isFrame]
theorem Room.make {k:Nat} {A:Around} (r:Room (k + 1) A) (C:Addr) (us:List Value) (kw:List (Str × Value)):Room k (A.under (.builtin "type.__call__" ⟨.ref C::us,kw⟩)) :=
 ⟨r.hd,by have:=r.dp; rw[make_depth]; omega,by have:=r.un; rw[make_units]; omega⟩
theorem Room.depth {k:Nat} {A:Around} (r:Room k A):A.depth < recursionLimit:=by have:=r.dp; omega
theorem Room.units {k:Nat} {A:Around} (r:Room k A):A.units + 64 < cLine:=by have:=r.un; omega
def tNil:TA:=fun _ H Q=>Q [] H
def tCons (ta:TE) (tr:TA):TA:=fun σ H Q=>ta σ H fun x H1=>tr σ H1 fun xs H2=>Q (x::xs) H2
section
variable {X:Cx} {e:Expr} {es:List Expr} {te:TE} {t:TA} {pos:Pos}
theorem pa_nil:PA X [] tNil:=fun _ _ _ _ H Q I h=>Calls.spliced_nil ⟨[],H,I,.nil,h⟩
theorem pa_cons (ha:PE X e te) (hr:PA X es t) (hs:starEach (e::es) X.env=(false,eval e X.env)::starEach es X.env:=by rfl):PA X (e::es) (tCons te t):=by
 intro pos pins s σ H Q I h
 rw[hs]
 show wpAny _ _ (spliced ((false,eval e X.env)::backTo pos (starEach es X.env))) _ _ s
 refine Calls.spliced_cons (thn (ha pins s σ H _ I h) fun u s1 ⟨x,H1,I1,r1,q1⟩=>?_)
 exact thn (hr pos pins s1 σ H1 _ I1 q1) fun us s2 ⟨xs,H2,I2,r2,q2⟩=>⟨x::xs,H2,I2,.cons r1 r2,q2⟩
def tTup (t:TA):TE:=fun σ H Q=>t σ H fun xs H1=>xs.length≤sizeLine∧∀ p,H1 p=none→Q (.ref p) (upd H1 p (.tup xs))
def tLst (t:TA):TE:=fun σ H Q=>t σ H fun xs H1=>xs.length≤sizeLine∧∀ p,H1 p=none→Q (.ref p) (upd H1 p (.lst xs))
theorem pe_tup {x1} (h:PA X es t):PE X (.Tuple es x1 pos) (tTup t):=by
 intro pins s σ H Q I hq
 refine wpAny_Tuple_spliced (thn (h pos pins s σ H _ I hq) fun us s1 ⟨xs,H1,I1,r,z,q⟩=>⟨by rw[← r.length]; exact z,?_⟩)
 have hf:H1 s1.heap.objs.size=none:=I1.hok.fresh (zG _)
 refine⟨.ref s1.heap.objs.size,upd H1 s1.heap.objs.size (.tup xs),I1.laid (t':=s1.toks) (fun b u e=>Heap.get?_push_of_some _ e) (zG _) ?_,rfl,q _ hf⟩
 exact⟨z,us,r,⟨_,Heap.get?_push_size _ rfl,rfl,_,rfl⟩⟩
theorem pe_lst (h:PA X es t):PE X (.List es pos) (tLst t):=by
 intro pins s σ H Q I hq
 refine wpAny_List_spliced (thn (h pos pins s σ H _ I hq) fun us s1 ⟨xs,H1,I1,r,z,q⟩=>⟨by rw[← r.length]; exact z,?_⟩)
 have hf:H1 s1.heap.objs.size=none:=I1.hok.fresh (zG _)
 refine⟨.ref s1.heap.objs.size,upd H1 s1.heap.objs.size (.lst xs),I1.laid (t':=s1.toks) (fun b u e=>Heap.get?_push_of_some _ e) (zG _) ?_,rfl,q _ hf⟩
 exact⟨z,us,0,r,Heap.get?_push_size _ rfl⟩
end
abbrev Sp:=List V→Hp→VK→XK→Prop
abbrev CXT:=List Env→Hp→Shared→XK→Value→Shared→Prop
structure Env0 (P:Program) (w:World) (K:PySem.W.Frag) (mg:Str→Option Value) (base:Heap) (A:Around) (outer:List Env) (s:Shared) (H:Hp):Prop where
 frames:A.frames=some outer
 mod:Mod K mg base
 bs:∀ b o,base.get? b=some o→s.heap.get? b=some o∧H b=none
 bsz:base.objs.size≤s.heap.objs.size
 funs:s.heap.FunFrames base outer
 frf:∀ b ∈ frs outer,H b=none
 hok:HOk P w H s.heap
 bare:AllBare s.gens
def CE (outer:List Env) (P:Program) (w:World) (H:Hp) (s:Shared) (Q:VK) (u:Value) (s':Shared):Prop :=
 ∃ v H',s'.os=s.os∧AllBare s'.gens∧Un (frs outer) [] H H' s.heap s'.heap∧HOk P w H' s'.heap∧RelV v u∧Q v H'
def CR (CX:CXT) (outer:List Env) (P:Program) (w:World) (H:Hp) (s:Shared) (Q:VK) (E:XK) (r:Result) (s':Shared):Prop :=
 match r with
 | .ok (.ret u)=>CE outer P w H s Q u s'
 | .ok _=>False
 | .error e=>CX outer H s E e s'
structure FnOk (P:Program) (w:World) (K:PySem.W.Frag) (mg:Str→Option Value) (base:Heap) (CX:CXT) (k:Nat) (f:Addr) (fd:FuncData) (ps:List Str) (sp:Sp):Prop where
 len:∀ vs H Q E,sp vs H Q E→vs.length=ps.length
 run:∀(A:Around) (outer:List Env) (s:Shared) (H:Hp) (args:Args) (us:List Value) (vs:List V) (Q:VK) (E:XK),Room k A→Env0 P w K mg base A outer s H→BindsTo s fd args (ps.zip us)→Vals vs us→sp vs H Q E →
  codeAny (model P w) A (.call (.ref f) args) (CR CX outer P w H s Q E) s
theorem FnOk.mono {P:Program} {w:World} {K:PySem.W.Frag} {mg:Str→Option Value} {base:Heap} {CX:CXT} {j k:Nat} {f:Addr} {fd:FuncData} {ps:List Str} {sp:Sp} (F:FnOk P w K mg base CX j f fd ps sp) (h:j≤k) :
  FnOk P w K mg base CX k f fd ps sp:=⟨F.len,fun A outer s H args us vs Q E hr=>F.run A outer s H args us vs Q E (hr.mono h)⟩
theorem FnOk.imp {P:Program} {w:World} {K:PySem.W.Frag} {mg:Str→Option Value} {base:Heap} {CX:CXT} {k:Nat} {f:Addr} {fd:FuncData} {ps:List Str} {sp sp':Sp} (F:FnOk P w K mg base CX k f fd ps sp)
  (h:∀ vs H Q E,sp' vs H Q E→sp vs H Q E):FnOk P w K mg base CX k f fd ps sp' :=
 ⟨fun vs H Q E q=>F.len vs H Q E (h _ _ _ _ q),fun A outer s H args us vs Q E hr he hb hv hs=>F.run A outer s H args us vs Q E hr he hb hv (h _ _ _ _ hs)⟩
theorem Env0.make {P:Program} {w:World} {K:PySem.W.Frag} {mg:Str→Option Value} {base:Heap} {A:Around} {outer:List Env} {s:Shared} {H:Hp} (e:Env0 P w K mg base A outer s H) (C:Addr) (us:List Value) (kw:List (Str × Value)) :
  Env0 P w K mg base (A.under (.builtin "type.__call__" ⟨.ref C::us,kw⟩)) outer s H:=⟨by first|exact e.frames|(simpa [Around.under,Code.envs,Code.isFrame,pushEnvs] using e.frames),e.mod,e.bs,e.bsz,e.funs,e.frf,e.hok,e.bare⟩
section
variable {X:Cx} {pins:List (Addr × Obj)} {σ:St} {H:Hp} {s s':Shared}
theorem Inv.env0 (I:Inv X pins σ H s):Env0 X.prog X.w X.K X.mg X.base X.A X.stack s H :=
 ⟨I.ok.frames,I.ok.mod,I.bs,yA I.ok.bsz I.sz,I.stack,I.stkFree,I.hok,I.bare⟩
theorem Inv.after {Q:VK} {u:Value} (I:Inv X pins σ H s) (h:CE X.stack X.prog X.w H s Q u s'):EP X pins σ Q u s':=by
 obtain⟨v,H',os,bare,un,hok,r,q⟩:=h
 obtain⟨hh,g,d,t,os'⟩:=s'
 obtain rfl:os'=s.os:=os
 exact⟨v,H',I.call (h':=hh) (g':=g) (d':=d) (t':=t) (ch:=[]) un hok bare (fun b z=>absurd z (by simp)),r,q⟩
end
def tCall (sp:Sp) (dvs:List V) (E:XK) (t:TA):TE:=fun σ H Q=>t σ H fun vs H1=>sp (vs++dvs) H1 Q E
inductive tMeth_ (C:Addr) (m:Str) (sp:Sp) (dvs:List V) (E:XK) (t:TA) (σ:St) (Q:VK) (x:V) (H1:Hp):Prop where
 | mk (a dx fs:_) (h_0:x=.ref a) (h_1:H1 a=some (.ins C dx fs)) (h_2:fs.lookup m=none) (h_3:t σ H1 fun vs H2=>sp (x::(vs++dvs)) H2 Q E):tMeth_ C m sp dvs E t σ Q x H1
def tMeth (C:Addr) (m:Str) (sp:Sp) (dvs:List V) (E:XK) (ta:TE) (t:TA):TE:=fun σ H Q=>ta σ H fun x H1=>tMeth_ C m sp dvs E t σ Q x H1
def tMake (C:Addr) (sp:Sp) (dvs:List V) (E:XK) (t:TA):TE:=fun σ H Q=>t σ H fun vs H1=>∀ x dx,H1 x=none→H1 dx=none→dx ≠ x →
 sp (.ref x::(vs++dvs)) (upd (upd H1 dx (.own x)) x (.ins C dx [])) (fun v H2=>v=.non∧Q (.ref x) H2) E
def Binds (K:PySem.W.Frag) (fd:FuncData) (ps:List Str) (ds:List Value):Prop :=
 ∀(s:Shared) (us:List Value),K.In s.heap→(us++ds).length=ps.length→BindsTo s fd ⟨us,[]⟩ (ps.zip (us++ds))
theorem Binds.all {K:PySem.W.Frag} {fd:FuncData} {ps:List Str} (h:∀ us:List Value,us.length=ps.length→bindArgs fd ⟨us,[]⟩=pure (ps.zip us)):Binds K fd ps []:=fun s us _ hl=>by
 rw[yF] at hl ⊢
 exact .of_eq (h us hl)
def Passes (CX:CXT) (X:Cx) (E:XK):Prop:=∀(pins:List (Addr × Obj)) (σ:St) (H:Hp) (s:Shared) (e:Value) (s':Shared),Inv X pins σ H s→CX X.stack H s E e s'→X.xe e s'
section
variable {X:Cx} {CX:CXT} {k:Nat} {f C:Addr} {fd:FuncData} {ps:List Str} {sp:Sp} {dvs:List V} {ds:List Value} {E:XK} {x m:Str} {p pos apos:Pos} {e o:Expr} {es:List Expr} {ta:TE} {t:TA}
theorem run_fn {pins:List (Addr × Obj)} {σ:St} {H:Hp} {s:Shared} {Q:VK} {us:List Value} {vs:List V} (F:FnOk X.prog X.w X.K X.mg X.base CX k f fd ps sp) (hr:Room k X.A) (hb:Binds X.K fd ps ds) (hd:Vals dvs ds) (hx:Passes CX X E)
  (I:Inv X pins σ H s) (r:Vals vs us) (h:sp (vs++dvs) H Q E):wpAny (model X.prog X.w) X.A (call (.ref f) us) (EP X pins σ Q) X.xe s:=by
 have r2:Vals (vs++dvs) (us++ds):=r.append hd
 have hl:(us++ds).length=ps.length:=by rw[← r2.length]; exact F.len _ _ _ _ h
 refine wpAny_call (codeAny_mono (F.run X.A X.stack s H ⟨us,[]⟩ (us++ds) (vs++dvs) Q E hr I.env0 (hb s us I.kIn hl) r2 h) fun r s' hq=>?_)
 cases r with
 | error e=>exact hx pins σ H s e s' I hq
 | ok fl =>
  cases fl with
  | ret u=>exact I.after hq
  | next=>exact False.elim hq
  | brk=>exact False.elim hq
  | cont=>exact False.elim hq
theorem pe_call (F:FnOk X.prog X.w X.K X.mg X.base CX k f fd ps sp) (hr:Room k X.A) (hg:Gl X x) (hm:X.mg x=some (.ref f)) (hk:PySem.W.keepIn X.K (.ref f)=true) (hb:Binds X.K fd ps ds) (hd:Vals dvs ds) (hx:Passes CX X E)
  (ha:PA X (e::es) t) (hdb:(x == ("__debug__":Str))=false:=by decide) (he:starEach (e::es) X.env=(false,eval e X.env)::starEach es X.env:=by rfl) (hpl:(backTo pos (starEach es X.env)).any (·.1)=false:=by rfl) :
  PE X (.Call (.Name x p) (e::es) [] pos) (tCall sp dvs E t):=by
 intro pins s σ H Q I h
 refine wpAny_Call_Name_kw (ld_glob I hg hm ?_ hdb)
 refine PySem.W.callWith_K (h₀:=X.base) I.ok.mod.kin hk (thn (ha pos pins s σ H _ I h) fun us s1 ⟨vs,H1,I1,r,q⟩=>⟨I1.kIn,?_⟩) he hpl
 exact run_fn F hr hb hd hx I1 r q
theorem pe_meth {pl:Sem Bool} (he:PE X o ta) (c:Cls X.K C) (hm:Meth X.K C m f) (F:FnOk X.prog X.w X.K X.mg X.base CX k f fd ps sp) (hr:Room k X.A) (hb:Binds X.K fd ps ds) (hd:Vals dvs ds) (hx:Passes CX X E) (ha:PA X (e::es) t)
  (hst:starEach (e::es) X.env=(false,eval e X.env)::starEach es X.env:=by rfl) (hpl:(backTo pos (starEach es X.env)).any (·.1)=false:=by rfl)
  (ht:eval (.Call (.Attribute o m apos) (e::es) [] pos) X.env=(do
   let ov ← eval o X.env
   standAt apos.atName
   let (f,first) ← holding [ov] (getMethod ov m pl)
   callWith pos f first (backTo pos (starEach (e::es) X.env)) (backToKw pos (keywordEach [] X.env))):=by rfl) :
  PE X (.Call (.Attribute o m apos) (e::es) [] pos) (tMeth C m sp dvs E ta t):=by
 intro pins s σ H Q I h
 refine PySem.W.methodCall_KW (pl:=pl) (thn (he pins s σ H _ I h) fun u s1 ⟨x,H1,I1,rx,a,dx,fs,ex,ea,l,q⟩=>?_) ht
 subst ex
 obtain rfl:u=Value.ref a:=rx
 refine getmeth_ok I1 ea c hm l ?_
 refine PySem.W.callWith_K (first:=[.ref a]) (h₀:=X.base) I.ok.mod.kin hm.kp (thn (ha pos pins s1 σ H1 _ I1 q) fun us s2 ⟨vs,H2,I2,r,q2⟩=>⟨I2.kIn,?_⟩) hst hpl
 exact run_fn (us:=.ref a::us) (vs:=.ref a::vs) F hr hb hd hx I2 (.cons rfl r) q2
structure Mk (K:PySem.W.Frag) (C f:Addr):Prop where
 makes:PySem.W.makesIn K C=true
 init:PySem.W.findIn K (.ref C) "__init__"=some (some (.ref f))
 fn:PySem.W.isFn K (.ref f)=true
 kp:PySem.W.keepIn K (.ref C)=true
theorem run_make {pins:List (Addr × Obj)} {σ:St} {H:Hp} {s:Shared} {Q:VK} {us:List Value} {vs:List V} (M:Mk X.K C f) (F:FnOk X.prog X.w X.K X.mg X.base CX k f fd ps sp) (hr:Room (k + 1) X.A) (hb:Binds X.K fd ps ds) (hd:Vals dvs ds)
  (hx:Passes CX X E) (I:Inv X pins σ H s) (r:Vals vs us)
  (h:∀ x dx,H x=none→H dx=none→dx ≠ x→sp (.ref x::(vs++dvs)) (upd (upd H dx (.own x)) x (.ins C dx [])) (fun v H2=>v=.non∧Q (.ref x) H2) E) :
  wpAny (model X.prog X.w) X.A (call (.ref C) us) (EP X pins σ Q) X.xe s:=by
 have hq:=h (s.heap.objs.size + 1) s.heap.objs.size (I.hok.fresh (qB _)) (I.hok.fresh (zG _)) (zY (jU _))
 have I2:=Inv.made (C:=C) I
 have r2:Vals (V.ref (s.heap.objs.size + 1)::(vs++dvs)) (Value.ref (s.heap.objs.size + 1)::(us++ds)):=.cons rfl (r.append hd)
 have hl:(Value.ref (s.heap.objs.size + 1)::us++ds).length=ps.length:=by
  have e:=r2.length
  rw[F.len _ _ _ _ hq] at e
  exact e.symm
 refine wpAny_call (make_map (f:=f) I.kIn M.makes M.init (beq_iff_eq.mp M.fn) (codeAny_mono (F.run _ X.stack _ _ ⟨Value.ref (s.heap.objs.size + 1)::us,[]⟩ (Value.ref (s.heap.objs.size + 1)::(us++ds)) _ _ E (hr.make C us [])
  (I2.env0.make C us []) (hb _ (Value.ref (s.heap.objs.size + 1)::us) I2.kIn hl) r2 hq) fun r s' hq'=>?_))
 cases r with
 | error e=>exact hx pins σ _ _ e s' I2 hq'
 | ok fl =>
  cases fl with
  | ret u =>
   obtain⟨v,H',I3,rv,ev,q3⟩:=I2.after hq'
   subst ev
   exact⟨rv,⟨V.ref (s.heap.objs.size + 1),H',I3,rfl,q3⟩⟩
  | next=>exact False.elim hq'
  | brk=>exact False.elim hq'
  | cont=>exact False.elim hq'
theorem pe_make (M:Mk X.K C f) (F:FnOk X.prog X.w X.K X.mg X.base CX k f fd ps sp) (hr:Room (k + 1) X.A) (hg:Gl X x) (hm:X.mg x=some (.ref C)) (hb:Binds X.K fd ps ds) (hd:Vals dvs ds) (hx:Passes CX X E)
  (ha:PA X (e::es) t) (hdb:(x == ("__debug__":Str))=false:=by decide) (he:starEach (e::es) X.env=(false,eval e X.env)::starEach es X.env:=by rfl) (hpl:(backTo pos (starEach es X.env)).any (·.1)=false:=by rfl) :
  PE X (.Call (.Name x p) (e::es) [] pos) (tMake C sp dvs E t):=by
 intro pins s σ H Q I h
 refine wpAny_Call_Name_kw (ld_glob I hg hm ?_ hdb)
 refine PySem.W.callWith_K (h₀:=X.base) I.ok.mod.kin M.kp (thn (ha pos pins s σ H _ I h) fun us s1 ⟨vs,H1,I1,r,q⟩=>⟨I1.kIn,?_⟩) he hpl
 exact run_make M F hr hb hd hx I1 r q
end
section
variable {X:Cx} {CX:CXT} {k:Nat} {f C:Addr} {fd:FuncData} {ps ks:List Str} {sp:Sp} {E:XK} {x m:Str} {p pos apos kpos:Pos} {e o:Expr} {es:List Expr} {kws:List Keyword} {te ta:TE} {t tk:TA} {nm:Option Str}
variable {g:List Value→List Value→List Value} {gV:List V→List V→List V}
end
structure FnScope (N P:List Str) (sc:Scope):Prop where
 kind:sc.kind=.function
 co:sc.isCoroutine=false
 gen:sc.isGenerator=false
 nd:N.Nodup
 pre:N.take P.length=P
 par:∀ x ∈ P,sc.names.lookup x=some .local∨sc.names.lookup x=some .cell
 nofree:∀ y ∈ sc.names,y.2 ≠ .free
theorem bindL_out {kindOf:Str→Option NameKind} {x:Str}:∀ {binds:List (Str × Value)} {m:Str→Option Value},(∀ v,(x,v) ∉ binds)→bindL kindOf binds m x=m x
 | [],_,_=>rfl
 | (n,v)::r,m,h=>by
  unfold bindL
  rw[bindL_out fun w hw=>h w (zI _ hw)]
  split
  ·have:x ≠ n:=by rintro rfl; exact h v zN
   simp [this]
  ·rfl
theorem bindC_out {kindOf:Str→Option NameKind} {x:Str}:∀ {binds:List (Str × Value)} {m:Str→Option Value},(∀ v,(x,v) ∉ binds)→bindC kindOf binds m x=m x
 | [],_,_=>rfl
 | (n,v)::r,m,h=>by
  unfold bindC
  rw[bindC_out fun w hw=>h w (zI _ hw)]
  split
  ·rfl
  ·have:x ≠ n:=by rintro rfl; exact h v zN
   simp [this]
theorem bindL_get {kindOf:Str→Option NameKind} {x:Str} {v:Value}:∀ {P:List Str} {vs:List Value} {i:Nat} {m:Str→Option Value},P.Nodup→P[i]?=some x→vs[i]?=some v→kindOf x=some .local →
  bindL kindOf (P.zip vs) m x=some v
 | [],_,_,_,_,h,_,_=>by simp at h
 | _::_,[],_,_,_,_,h,_=>by simp at h
 | p::P,w::vs,0,m,nd,h1,h2,hk=>by
  simp at h1 h2; subst h1; subst h2
  show bindL kindOf ((p,w)::P.zip vs) m p=_
  unfold bindL
  rw[bindL_out fun v hv=>(yX.mp nd).1 (qL hv).1,if_pos hk]
  simp
 | p::P,w::vs,i + 1,m,nd,h1,h2,hk=>by
  show bindL kindOf ((p,w)::P.zip vs) m x=_
  unfold bindL
  exact bindL_get (i:=i) (yX.mp nd).2 (by simpa using h1) (by simpa using h2) hk
theorem bindC_get {kindOf:Str→Option NameKind} {x:Str} {v:Value}:∀ {P:List Str} {vs:List Value} {i:Nat} {m:Str→Option Value},P.Nodup→P[i]?=some x→vs[i]?=some v→kindOf x ≠ some .local →
  bindC kindOf (P.zip vs) m x=some v
 | [],_,_,_,_,h,_,_=>by simp at h
 | _::_,[],_,_,_,_,h,_=>by simp at h
 | p::P,w::vs,0,m,nd,h1,h2,hk=>by
  simp at h1 h2; subst h1; subst h2
  show bindC kindOf ((p,w)::P.zip vs) m p=_
  unfold bindC
  rw[bindC_out fun v hv=>(yX.mp nd).1 (qL hv).1,if_neg hk]
  simp
 | p::P,w::vs,i + 1,m,nd,h1,h2,hk=>by
  show bindC kindOf ((p,w)::P.zip vs) m x=_
  unfold bindC
  exact bindC_get (i:=i) (yX.mp nd).2 (by simpa using h1) (by simpa using h2) hk
def start (N:List Str) (vs:List V):St:=vs.map some++List.replicate (N.length - vs.length) none
def cxOf (CX:CXT) (P:Program) (w:World) (K:PySem.W.Frag) (mg:Str→Option Value) (base:Heap) (N:List Str) (qual:Str) (scope:Scope) (f:Addr) (cd:Value) (A:Around) (outer:List Env) (s:Shared) (H:Hp) (E:XK):Cx where
 prog:=P
 w:=w
 K:=K
 mg:=mg
 base:=base
 A:=A.deeper (envOfC qual scope s.heap.objs.size f cd)
 N:=N
 s₀:=s
 H₀:=H
 env:=envOfC qual scope s.heap.objs.size f cd
 outer:=outer
 stack:=envOfC qual scope s.heap.objs.size f cd::outer
 ex:=[]
 calm:=true
 fn:=fun _=>true
 pn:=[]
 xe:=fun e s'=>wpAny (model P w) (A.deeper (envOfC qual scope s.heap.objs.size f cd)) (leaving (envOfC qual scope s.heap.objs.size f cd) e) (fun _ s''=>CX outer H s E e s'') (fun e' s''=>CX outer H s E e' s'') s'
theorem cell_has {sc:Scope} {n:Nat} {x:Str} (h:sc.names.lookup x=some .cell):∃ c,(cellsFrom n sc.names []).lookup x=some c:=by
 have q:=PySem.W.cellsFrom_some sc.names n [] (.inl h)
 exact jR.mp q
theorem inv_start {CX:CXT} {P:Program} {w:World} {K:PySem.W.Frag} {mg:Str→Option Value} {base:Heap} {N ps:List Str} {qual:Str} {scope:Scope} {f:Addr} {cd:Value} {A:Around} {outer:List Env} {s s1:Shared} {H:Hp} {E:XK} {us:List Value} {vs:List V}
  (S:FnScope N ps scope) (hd:A.handled=none) (e0:Env0 P w K mg base A outer s H) (hl:vs.length=ps.length) (r:Vals vs us)
  (x:InCallC s s.heap.objs.size (bindL (envOfC qual scope s.heap.objs.size f cd).kindOf (ps.zip us) fun _=>none) (cellsFrom (s.heap.objs.size + 1) scope.names []) (bindC (envOfC qual scope s.heap.objs.size f cd).kindOf (ps.zip us) fun _=>none) s1) :
  Inv (cxOf CX P w K mg base N qual scope f cd A outer s H E) [] (start N vs) H s1:=by
 have hpl:ps.length≤N.length:=by have:=congrArg List.length S.pre; rw[zX] at this; omega
 obtain⟨h1,tk,rfl,hk⟩:=x.done
 have noA:∀ b:Addr,b ∉ (cxOf CX P w K mg base N qual scope f cd A outer s H E).ex:=fun b z=>absurd (show b ∈ ([]:List Addr) from z) (by simp)
 refine⟨⟨e0.mod,S.kind,rfl,rfl,zG _,fun y z c h1 h2=>?_,fun y hy=>?_,fun y c _ h=>?_,fun _=>hd,Around.frames_deeper e0.frames,.inr ⟨rfl,rfl⟩,fun b z=>absurd z (noA b),e0.bs,e0.bsz,fun b _ _=>noA b,fun b z=>absurd z (noA b),e0.funs,e0.frf⟩,
  rfl,e0.bare,Un.kept hk,⟨_,x.toInCall.ns,fun i y v h1 h2 h3=>?_⟩,fun y c h=>⟨_,x.cell y c h⟩,e0.hok.fresh (zG _),fun y c h=>?_,fun p hp=>absurd (show p ∈ ([]:List (Addr × Obj)) from hp) (by simp),e0.hok.kept hk,?_⟩
 ·exact name_of_addr x.apart (PySem.mem_of_lookup h1) (PySem.mem_of_lookup h2)
 ·have hy:scope.names.lookup y=some .cell∨scope.names.lookup y=some .free:=hy
  rcases hy with hy|hy
  ·exact cell_has hy
  ·exact absurd rfl (S.nofree _ (PySem.mem_of_lookup hy))
 ·exact yZ (x.above y c (PySem.mem_of_lookup h))
 ·have hi:i < vs.length:=by
   unfold start at h2
   by_cases hi:i < vs.length
   ·exact hi
   ·rw[yG (by simpa using hi)] at h2
    rw[List.getElem?_replicate] at h2
    split at h2 <;> cases h2
  have ha:vs[i]?=some v:=by
   unfold start at h2
   rw[yU (by simpa using hi),zJ] at h2
   cases e:vs[i]? with
   | none=>rw[e] at h2; cases h2
   | some a=>rw[e] at h2; cases h2; rfl
  obtain⟨u,hu,rv⟩:=r.get ha
  have hp:ps[i]?=some y:=by
   rw[← S.pre,kY (by omega)]; exact h1
  have ndP:ps.Nodup:=by rw[← S.pre]; exact S.nd.sublist (kB _ _)
  refine⟨u,rv,?_⟩
  rcases S.par y (zK hp) with k|k
  ·exact .inl ⟨k,bindL_get ndP hp hu k⟩
  ·obtain⟨c,e⟩:=cell_has (n:=s.heap.objs.size + 1) k
   refine .inr ⟨.inl k,c,e,?_⟩
   have q:=x.cell y c e
   rw[bindC_get ndP hp hu (by show scope.names.lookup y ≠ _; rw[k]; decide)] at q
   exact q
 ·exact e0.hok.fresh (yZ (x.above y c (PySem.mem_of_lookup h)))
 ·unfold start
  show _=N.length
  rw[zM,zB,List.length_replicate]
  omega
theorem fn_of {CX:CXT} {P:Program} {w:World} {K:PySem.W.Frag} {mg:Str→Option Value} {base:Heap} {k:Nat} {f:Addr} {name qual:Str} {params:Arguments} {body:List Stmt} {scope:Scope} {dV kV doc pm cdv ct oc:Value} {an od:Option Addr}
  {osl:Array (Option Value)} {N ps:List Str} {sp:Sp} (lk:K.lookup f=some ⟨oc,od,.func (PySem.W.fnOf name qual params body scope dV kV doc pm an cdv ct),osl⟩) (hcd:PySem.W.codeIn K cdv qual=true) (S:FnScope N ps scope)
  (len:∀ vs H Q E,sp vs H Q E→vs.length=ps.length)
  (hbody:∀(A:Around) (outer:List Env) (s:Shared) (H:Hp) (vs:List V) (Q:VK) (E:XK),Room k (A.deeper (envOfC qual scope s.heap.objs.size f cdv))→sp vs H Q E →
   ∃ t,PSs (cxOf CX P w K mg base N qual scope f cdv A outer s H E) body t∧t { nx:=fun _ H'=>Q .non H',rt:=Q } (start N vs) H) :
  FnOk P w K mg base CX (k + 1) f (PySem.W.fnOf name qual params body scope dV kV doc pm an cdv ct) ps sp:=by
 refine⟨len,fun A outer s H args us vs Q E hr e0 hb r hsp=>?_⟩
 have hl:=len _ _ _ _ hsp
 have KX:K.In s.heap:=e0.mod.kin.keeps fun b o e=>(e0.bs b o e).1
 have lim:s.heap.NoLimit:=e0.mod.nolimit.keeps fun b o e=>(e0.bs b o e).1
 have hkind:∀ y ∈ ps.zip us,scope.names.lookup y.1=some .local∨(scope.names.lookup y.1=some .cell∧((cellsFrom (s.heap.objs.size + 1) scope.names []).lookup y.1).isSome=true):=fun⟨n,v⟩ hy=>by
  rcases S.par n (qL hy).1 with q|q
  ·exact .inl q
  ·exact .inr ⟨q,PySem.W.cellsFrom_some _ _ _ (.inl q)⟩
 refine codeAny_call_function hr.depth (KX _ _ lk) rfl S.co S.gen rfl (PySem.W.codeRec_of KX hcd) (hb _ _ _ _ ?_)
 refine wpAny_newFunctionEnv_cells S.kind hkind fun env he s1 x=>?_
 subst he
 refine⟨lim.keeps x.toInCall.keep,codeAny_func ?_⟩
 obtain⟨t,ht,hq⟩:=hbody A outer s H vs Q E (hr.deeper _) hsp
 have I:Inv (cxOf CX P w K mg base N qual scope f cdv A outer s H E) [] (start N vs) H s1:=inv_start S hr.hd e0 hl r x
 refine wpAny_mono (ht [] s1 (start N vs) H _ I hq) (fun fl s' hs=>?_) fun e s' hs=>hs
 have fin:∀ {σ':St} {H':Hp} {v:V} {u:Value},Inv (cxOf CX P w K mg base N qual scope f cdv A outer s H E) [] σ' H' s'→RelV v u→Q v H'→CE outer P w H s Q u s' :=
  fun {σ' H' v u} J rv q=>⟨v,H',J.os,J.bare,J.base,J.hok,rv,q⟩
 cases fl with
 | ret u =>
  obtain⟨v,σ',H',J,rv,q⟩:=hs
  exact fin J rv q
 | next =>
  obtain⟨σ',H',J,q⟩:=hs
  exact fin (v:=V.non) (u:=Value.none) J rfl q
 | brk =>
  obtain⟨_,_,_,q⟩:=hs
  exact False.elim q
 | cont =>
  obtain⟨_,_,_,q⟩:=hs
  exact False.elim q
end L2
namespace L2
open PySem PySem.Spec PyProof.Rows
section
variable {X:Cx} {x:Str} {p pos:Pos} {e:Expr} {es:List Expr} {t:TA} {id T:String} {r:List V→Hp→VK→Prop}
def tCB (r:List V→Hp→VK→Prop) (t:TA):TE:=fun σ H Q=>t σ H fun vs H1=>r vs H1 Q
theorem pe_callB (hc:CallR X (.builtin id) r) (hg:Gl X x) (hm:X.mg x=none) (hv:bootBuiltins x=some (.builtin id)) (ha:PA X (e::es) t) (hn:x ≠ "__name__":=by decide) (hdb:(x == ("__debug__":Str))=false:=by decide)
  (he:starEach (e::es) X.env=(false,eval e X.env)::starEach es X.env:=by rfl) (hpl:(backTo pos (starEach es X.env)).any (·.1)=false:=by rfl):PE X (.Call (.Name x p) (e::es) [] pos) (tCB r t):=by
 intro pins s σ H Q I h
 refine wpAny_Call_Name_kw (ld_blt I hg hm hv ?_ hn hdb)
 exact PyProof.Rows.callWith_builtin1 (thn (ha pos pins s σ H _ I h) fun us s1 ⟨vs,H1,I1,r1,q1⟩=>hc pins s1 σ H1 vs us Q I1 r1 q1) he hpl
theorem pe_callTy (hc:CallR X (.type T) r) (hg:Gl X x) (hm:X.mg x=none) (hv:bootBuiltins x=some (.type T)) (ha:PA X (e::es) t) (hn:x ≠ "__name__":=by decide) (hdb:(x == ("__debug__":Str))=false:=by decide)
  (he:starEach (e::es) X.env=(false,eval e X.env)::starEach es X.env:=by rfl) (hpl:(backTo pos (starEach es X.env)).any (·.1)=false:=by rfl):PE X (.Call (.Name x p) (e::es) [] pos) (tCB r t):=by
 intro pins s σ H Q I h
 refine wpAny_Call_Name_kw (ld_blt I hg hm hv ?_ hn hdb)
 exact PyProof.Rows.callWith_type1 (thn (ha pos pins s σ H _ I h) fun us s1 ⟨vs,H1,I1,r1,q1⟩=>hc pins s1 σ H1 vs us Q I1 r1 q1) he hpl
end
end L2
namespace L2
open PySem PySem.Spec PyProof.Rows
section
variable {κ:Type} [DecidableEq κ]
def valV (kvs:List (κ × V)) (k:κ):Option V:=(kvs.find? fun kv=>decide (kv.1=k)).map (·.2)
def putK (kvs:List (κ × V)) (k:κ) (v:V):List (κ × V) :=
 if (kvs.any fun kv=>decide (kv.1=k))=true then kvs.map (fun kv=>if kv.1=k then (kv.1,v) else kv) else kvs++[(k,v)]
theorem valV_pos {p:κ × V} {r:List (κ × V)} {k:κ} (e:p.1=k):valV (p::r) k=some p.2:=by simp [valV,qX,e]
theorem valV_neg {p:κ × V} {r:List (κ × V)} {k:κ} (e:¬ p.1=k):valV (p::r) k=valV r k:=by simp [valV,qX,e]
theorem valV_any (k:κ):∀ kvs:List (κ × V),(kvs.any fun kv=>decide (kv.1=k))=(valV kvs k).isSome
 | []=>rfl
 | p::r=>by
  rw[jT]
  by_cases e:p.1=k
  ·simp only [valV_pos e,decide_eq_true e,Bool.true_or,Option.isSome_some]
  ·rw[valV_neg e,decide_eq_false e,Bool.false_or]; exact valV_any k r
theorem length_putK (kvs:List (κ × V)) (k:κ) (v:V):(putK kvs k v).length≤kvs.length + 1:=by
 unfold putK
 split
 ·rw[zB]; omega
 ·rw[zM,zP,jE]; omega
theorem putK_new {kvs:List (κ × V)} {k:κ} (v:V) (h:valV kvs k=none):putK kvs k v=kvs++[(k,v)]:=by
 unfold putK
 rw[valV_any,h]
 exact if_neg (by decide)
theorem RelO.isSome_eq {o:Option V} {u:Option Value} (r:RelO o u):o.isSome=u.isSome:=by
 cases o with
 | none=>cases u with
  | none=>rfl
  | some _=>exact(show False from r).elim
 | some _=>cases u with
  | none=>exact(show False from r).elim
  | some _=>rfl
theorem KV.val {kvs:List (κ × V)} {vs:List (κ × Value)} (r:KV kvs vs) (k:κ):RelO (valV kvs k) (valueAt vs k):=by
 unfold KV at r
 induction r with
 | nil=>exact True.intro
 | @cons p q ps qs h t ih =>
  obtain⟨h1,h2⟩:=h
  by_cases e:p.1=k
  ·have e':q.1=k:=h1.symm.trans e
   have b:valueAt (q::qs) k=some q.2:=by simp [valueAt,qX,e']
   rw[valV_pos e,b]; exact h2
  ·have e':¬ q.1=k:=fun z=>e (h1.trans z)
   have b:valueAt (q::qs) k=valueAt qs k:=by simp [valueAt,qX,e']
   rw[valV_neg e,b]; exact ih
theorem KV.any {kvs:List (κ × V)} {vs:List (κ × Value)} (r:KV kvs vs) (k:κ):(kvs.any fun kv=>decide (kv.1=k))=vs.any fun kv=>decide (kv.1=k):=by
 unfold KV at r
 induction r with
 | nil=>rfl
 | cons h t ih=>rw[jT,jT,ih,h.1]
theorem KV.repl {kvs:List (κ × V)} {vs:List (κ × Value)} (r:KV kvs vs) (k:κ) {y:V} {u:Value} (ry:RelV y u) :
  KV (kvs.map fun kv=>if kv.1=k then (kv.1,y) else kv) (vs.map fun kv=>if kv.1=k then (kv.1,u) else kv):=by
 unfold KV at r ⊢
 induction r with
 | nil=>exact .nil
 | @cons p q ps qs h t ih =>
  rw[yI,yI]
  refine .cons ?_ ih
  obtain⟨h1,h2⟩:=h
  by_cases e:p.1=k
  ·rw[if_pos e,if_pos (h1.symm.trans e)]; exact⟨h1,ry⟩
  ·rw[if_neg e,if_neg (fun z=>e (h1.trans z))]; exact⟨h1,h2⟩
theorem KV.put {kvs:List (κ × V)} {vs:List (κ × Value)} (r:KV kvs vs) (k:κ) {y:V} {u:Value} (ry:RelV y u):KV (putK kvs k y) (stored vs k u):=by
 unfold putK stored
 rw[r.any k]
 by_cases e:(vs.any fun kv=>decide (kv.1=k))=true
 ·rw[if_pos e,if_pos e]; exact r.repl k ry
 ·rw[if_neg e,if_neg e]; exact Paired.snoc r ⟨rfl,ry⟩
theorem KV.length {kvs:List (κ × V)} {vs:List (κ × Value)} (r:KV kvs vs):kvs.length=vs.length:=Paired.length r
end
theorem kV_is {P:Program} {w:World} {k:Key} {u:Value} (r:RelV (kV k) u):(mixKind P w).is k u=true:=by
 cases k with
 | inl i=>obtain⟨t,e⟩:=(show ∃ t,u=Value.int i t from r); subst e; exact mixKind_int P w i t
 | inr x=>obtain⟨t,e⟩:=(show ∃ t,u=Value.str x t from r); subst e; exact mixKind_str P w x t
theorem items_are {P:Program} {w:World}:∀ {ks:List Key} {us:List Value},Vals (ks.map kV) us→ItemsAre (mixKind P w) ks us
 | [],_,r=>by rw[jY] at r; cases r; exact .nil
 | k::ks,_,r=>by
  rw[yI] at r
  cases r with
  | cons h t=>exact .cons (kV_is h) (items_are t)
abbrev KT (H:Hp):List (List Key × V)→List (List Key × Addr × Value)→Prop:=Paired fun p q=>p.1=q.1∧H q.2.1=some (.tup (p.1.map kV))∧RelV p.2 q.2.2
theorem KT.val {H:Hp} {kvs:List (List Key × V)} {xs:List (List Key × Addr × Value)} (r:KT H kvs xs) (k:List Key):RelO (valV kvs k) ((atKey xs k).map (·.2)):=by
 induction r with
 | nil=>exact True.intro
 | @cons p q ps qs h t ih =>
  obtain⟨h1,_,h2⟩:=h
  by_cases e:p.1=k
  ·have e':q.1=k:=h1.symm.trans e
   have b:atKey (q::qs) k=some q.2:=by simp [atKey,qX,e']
   rw[valV_pos e,b]; exact h2
  ·have e':¬ q.1=k:=fun z=>e (h1.trans z)
   have b:atKey (q::qs) k=atKey qs k:=by simp [atKey,qX,e']
   rw[valV_neg e,b]; exact ih
theorem KT.repl {H:Hp} {kvs:List (List Key × V)} {xs:List (List Key × Addr × Value)} (r:KT H kvs xs) (k:List Key) {y:V} {u:Value} (ry:RelV y u) :
  KT H (kvs.map fun kv=>if kv.1=k then (kv.1,y) else kv) (xs.map (putAt k u)):=by
 induction r with
 | nil=>exact .nil
 | @cons p q ps qs h t ih =>
  rw[yI,yI]
  refine .cons ?_ ih
  obtain⟨h1,h2,h3⟩:=h
  unfold putAt
  by_cases e:p.1=k
  ·rw[if_pos e,if_pos (h1.symm.trans e)]; exact⟨h1,h2,ry⟩
  ·rw[if_neg e,if_neg (fun z=>e (h1.trans z))]; exact⟨h1,h2,h3⟩
theorem KT.put {H:Hp} {kvs:List (List Key × V)} {xs:List (List Key × Addr × Value)} (r:KT H kvs xs) (k:List Key) {b:Addr} {y:V} {u:Value} (hb:H b=some (.tup (k.map kV))) (ry:RelV y u) :
  KT H (putK kvs k y) (storedH xs k b u):=by
 have e:(kvs.any fun kv=>decide (kv.1=k))=(atKey xs k).isSome:=by
  rw[valV_any,(r.val k).isSome_eq,Option.isSome_map]
 unfold putK storedH
 rw[e]
 by_cases q:(atKey xs k).isSome=true
 ·rw[if_pos q,if_pos q]; exact r.repl k ry
 ·rw[if_neg q,if_neg q]; exact Paired.snoc r ⟨rfl,hb,ry⟩
theorem KT.keeps {H H':Hp} {kvs:List (List Key × V)} {xs:List (List Key × Addr × Value)} (r:KT H kvs xs) (ht:∀ b ys,H b=some (.tup ys)→H' b=some (.tup ys)):KT H' kvs xs :=
 Paired.mapP r fun _ _ z=>⟨z.1,ht _ _ z.2.1,z.2.2⟩
section
variable {P:Program} {w:World} {H:Hp} {h:Heap} {a:Addr}
theorem rd_of {u:HO} (ok:HOk P w H h) (e:Rd H a u):ObjOk P w H h a u:=e.ok ok
theorem dk_rd {kvs:List (Key × V)} (ok:HOk P w H h) (e:Rd H a (.dK kvs)):kvs.length≤sizeLine∧(a == sysModules)=false∧∃ vs,KV kvs vs∧h.DictOf (mixKind P w) a vs :=
 show ObjOk P w H h a (.dK kvs) from rd_of ok e
theorem dk_of {kvs:List (Key × V)} (ok:HOk P w H h) (e:H a=some (.dK kvs)):kvs.length≤sizeLine∧(a == sysModules)=false∧∃ vs,KV kvs vs∧h.DictOf (mixKind P w) a vs:=dk_rd ok (.inl e)
theorem key_of {ks:List Key} (ok:HOk P w H h) (e:H a=some (.tup (ks.map kV))):(tupleKind (mixKind P w)).is h ks a:=by
 obtain⟨_,its,r,o,h1,h2,n,h3⟩:=(show ObjOk P w H h a (.tup (ks.map kV)) from ok a _ e)
 exact⟨o,its.toArray,n,h1,h2,h3,by simpa using items_are r⟩
theorem dt_rd {kvs:List (List Key × V)} (ok:HOk P w H h) (e:Rd H a (.dT kvs)):kvs.length≤sizeLine∧(a == sysModules)=false ∧
  ∃ xs,KT H kvs xs∧h.DictOfH (tupleKind (mixKind P w)) a xs:=by
 obtain⟨z,y,xs,r,o,es,ep,h1,h2,h3,h4,h5⟩:=(show ObjOk P w H h a (.dT kvs) from rd_of ok e)
 refine⟨z,y,xs,r,o,es,ep,h1,h2,h3,h4,fun x hx=>?_,h5⟩
 have all:∀ {l:List (List Key × V)} {m:List (List Key × Addr × Value)},KT H l m→∀ x ∈ m,(tupleKind (mixKind P w)).is h x.1 x.2.1:=by
  intro l m q
  induction q with
  | nil=>intro x hx; exact nomatch hx
  | @cons p q ps qs hq t ih =>
   intro x hx
   rcases zT.mp hx with e|hx
   ·subst e
    exact key_of ok (by rw[← hq.1]; exact hq.2.1)
   ·exact ih x hx
 exact all r x hx
theorem dt_of {kvs:List (List Key × V)} (ok:HOk P w H h) (e:H a=some (.dT kvs)):kvs.length≤sizeLine∧(a == sysModules)=false ∧
  ∃ xs,KT H kvs xs∧h.DictOfH (tupleKind (mixKind P w)) a xs:=dt_rd ok (.inl e)
end
def DGet (H:Hp) (a:Addr) (y:V) (r:Option V):Prop :=
 (∃ kvs k,Rd H a (.dK kvs)∧y=kV k∧r=valV kvs k)∨∃ kvs k b,Rd H a (.dT kvs)∧y=.ref b∧H b=some (.tup (k.map kV))∧r=valV kvs k
def DPut (H:Hp) (a:Addr) (y v:V) (H':Hp):Prop :=
 (∃ kvs k,H a=some (.dK kvs)∧y=kV k∧kvs.length < sizeLine∧H'=upd H a (.dK (putK kvs k v))) ∨
 ∃ kvs k b,H a=some (.dT kvs)∧y=.ref b∧H b=some (.tup (k.map kV))∧kvs.length < sizeLine∧H'=upd H a (.dT (putK kvs k v))
theorem DGet.k {H:Hp} {a:Addr} {kvs:List (Key × V)} {k:Key} (e:H a=some (.dK kvs)):DGet H a (kV k) (valV kvs k):=.inl ⟨kvs,k,.inl e,rfl,rfl⟩
theorem DPut.k {H:Hp} {a:Addr} {kvs:List (Key × V)} {k:Key} {v:V} (e:H a=some (.dK kvs)) (hl:kvs.length < sizeLine):DPut H a (kV k) v (upd H a (.dK (putK kvs k v))):=.inl ⟨kvs,k,e,rfl,hl,rfl⟩
section
variable {X:Cx} {pins:List (Addr × Obj)} {σ:St} {H:Hp} {s:Shared} {a:Addr} {y v:V} {u r:Value} {o:Option V} {A:Around} {E:Value→Shared→Prop}
theorem Inv.big (I:Inv X pins σ H s):sysModules < s.heap.objs.size:=by
 have h:mainGlobals < s.heap.objs.size:=(I.mod.glob.keeps I.bk).lt
 exact vC (by decide) h
theorem d_getItem {Q:Value→Shared→Prop} (hu:A.units + 1 < cLine) (I:Inv X pins σ H s) (g:DGet H a y (some v)) (ry:RelV y u) (h:∀ w' s',Inv X pins σ H s'→RelV v w'→Q w' s') :
  wpAny (model X.prog X.w) A (getItem (.ref a) u) Q E s:=by
 rcases g with ⟨kvs,k,e,ey,l⟩|⟨kvs,k,b,e,ey,eb,l⟩
 ·subst ey
  obtain⟨z,hd,vs,rel,dd⟩:=dk_rd I.hok e
  obtain⟨w',hw,rw'⟩:=RelO.some_of (v:=v) (o:=valueAt vs k) (by rw[l]; exact rel.val k)
  exact wpAny_getItem_of (kV_is ry) dd.mapOf hw (h w' _ (I.tok _) rw')
 ·subst ey
  cases (show u=Value.ref b from ry)
  obtain⟨z,hd,xs,rel,dd⟩:=dt_rd I.hok e
  obtain⟨w',hw,rw'⟩:=RelO.some_of (v:=v) (o:=(atKey xs k).map (·.2)) (by rw[l]; exact rel.val k)
  obtain⟨p,hp,hp2⟩:=qG.mp hw
  refine wpAny_getItem_heap (tupleKind_room_in1 hu) (key_of I.hok eb) dd hp ?_
  rw[hp2]
  exact h w' _ (I.tok _) rw'
theorem d_write {h':Heap} {t':Nat} {ob:HO} (I:Inv X pins σ H s) (mu:Mut (H a)) (hs:Heap.SameBut a s.heap h') (he:∃ q,h'.get? a=some q) (new:ObjOk X.prog X.w (upd H a ob) h' a ob) :
  Inv X pins σ (upd H a ob) { s with heap:=h',toks:=t' } :=
 I.write (x:=a) (e:=a) mu (.inl rfl) (fun b q hb z=>(hs.2 b hb).trans z) he new
theorem dk_new {P:Program} {w:World} {H':Hp} {h':Heap} {kvs:List (Key × V)} {vs:List (Key × Value)} (z:kvs.length≤sizeLine) (hd:(a == sysModules)=false) (rel:KV kvs vs) (dd:h'.DictOf (mixKind P w) a vs) :
  ObjOk P w H' h' a (.dK kvs):=⟨z,hd,vs,rel,dd⟩
theorem d_setItem {H':Hp} {Q:Unit→Shared→Prop} (hu:A.units + 1 < cLine) (I:Inv X pins σ H s) (g:DPut H a y v H') (ry:RelV y u) (rv:RelV v r) (h:∀ s',Inv X pins σ H' s'→Q () s') :
  wpAny (model X.prog X.w) A (setItem (.ref a) u r) Q E s:=by
 rcases g with ⟨kvs,k,e,ey,l,eH⟩|⟨kvs,k,b,e,ey,eb,l,eH⟩
 ·subst ey eH
  obtain⟨z,hd,vs,rel,dd⟩:=dk_of I.hok e
  have hz:vs.length≤sizeLine:=by rw[← rel.length]; exact z
  have hl:(putK kvs k v).length≤sizeLine:=by have:=length_putK kvs k v; omega
  refine wpAny_setItem_pairs (hsz:=hz) (kV_is ry) dd fun h' dd' hs=>h _ ?_
  have he:∃ q,h'.get? a=some q:=let ⟨q,_,_,hq,_⟩:=dd'; ⟨q,hq⟩
  exact d_write I (by rw[e]; exact True.intro) hs he (dk_new hl hd (rel.put k rv) dd')
 ·subst ey eH
  cases (show u=Value.ref b from ry)
  obtain⟨z,hd,xs,rel,dd⟩:=dt_of I.hok e
  have hz:xs.length≤sizeLine:=by rw[← Paired.length rel]; exact z
  have hl:(putK kvs k v).length≤sizeLine:=by have:=length_putK kvs k v; omega
  refine wpAny_setItem_heap (hsz:=hz) (tupleKind_room_in1 hu) (key_of I.hok eb) dd fun h' dd' hs=>h _ ?_
  obtain⟨q,es,ep,hq,h2,h3,h4,_,h5⟩:=dd'
  refine d_write I (by rw[e]; exact True.intro) hs ⟨q,hq⟩ ⟨hl,hd,_,(rel.put k eb rv).keeps fun c ys ec=>?_,q,es,ep,hq,h2,h3,h4,h5⟩
  rw[upd_ne (ne_of ec e (fun z=>nomatch z))]
  exact ec
end
section
variable {X:Cx} {pins:List (Addr × Obj)} {σ:St} {H:Hp} {s:Shared} {a:Addr} {kvs:List (Key × V)} {k:Key} {u:Value} {A:Around} {E:Value→Shared→Prop}
end
def NoSl (i:Expr):Prop:=∀ ov iv,subscripted i false ov iv=operate [ov,iv] (getItem ov iv)
theorem subD_of {prog:Program} {w:World} {A:Around} {E:Value→Shared→Prop} {s:Shared} {env:Env} {value slice:Expr} {pos:Pos} {T id:String} {Q:Value→Shared→Prop}
  (hl:typeLookup (.type T) "__getitem__"=pure (some (.builtin id))) (hs:NoSl slice)
  (h:wpAny (model prog w) A (eval value env) (fun o s₁=>wpAny (model prog w) A (eval slice env) (fun i s₂=>s₂.TypeIs o T∧wpAny (model prog w) A (getItem o i) Q E s₂) E s₁) E s) :
  wpAny (model prog w) A (eval (.Subscript value slice pos) env) Q E s:=by
 refine Subscript_ (wpAny_mono h (fun o s₁ h₁=>wpAny_mono h₁ (fun i s₂ h₂=>?_) fun _ _ x=>x) fun _ _ x=>x)
 obtain⟨hT,h₂⟩:=h₂
 unfold subscriptTail
 refine wpAny_bind ?_
 rw[getitemInPython_of_ne hT.not_modules]
 refine wpAny_bind (wpAny_specialOf hT hl ?_)
 have fin:wpAny (model prog w) A (subscripted slice false o i) (fun r s₃=>wpAny (model prog w) A (letTemporaryGo value o r >>= fun _=>pure r) Q E s₃) E s₂:=by
  rw[hs o i]
  exact wpAny_operating (wpAny_mono h₂ (fun r s₃ h₃=>wpAny_bind (wpAny_letTemporaryGo (wpAny_pure h₃))) fun _ _ x=>x)
 first
  | exact wpAny_pure (wpAny_bind fin)
  | exact wpAny_bind (wpAny_pure (wpAny_bind fin))
  | exact wpAny_bind fin
theorem dict_typeIs {X:Cx} {pins:List (Addr × Obj)} {σ:St} {H:Hp} {s:Shared} {a:Addr} {y:V} {o:Option V} (I:Inv X pins σ H s) (g:DGet H a y o):s.TypeIs (.ref a) "dict":=by
 rcases g with ⟨kvs,k,e,_,_⟩|⟨kvs,k,b,e,_,_,_⟩
 ·obtain⟨_,_,vs,_,dd⟩:=dk_rd I.hok e
  exact dd.typeIs
 ·obtain⟨_,_,xs,_,dd⟩:=dt_rd I.hok e
  exact dd.typeIs
inductive tDGet_ (Q:VK) (x:V) (y:V) (H2:Hp):Prop where
 | mk (a v:_) (h_0:x=.ref a) (h_1:DGet H2 a y (some v)) (h_2:Q v H2):tDGet_ Q x y H2
def tDGet (td ty:TE):TE:=fun σ H Q=>td σ H fun x H1=>ty σ H1 fun y H2=>tDGet_ Q x y H2
inductive sDPut_ (D:Ends) (σ:St) (v:V) (x:V) (y:V) (H3:Hp):Prop where
 | mk (a H4:_) (h_0:x=.ref a) (h_1:DPut H3 a y v H4) (h_2:D.nx σ H4):sDPut_ D σ v x y H3
def sDPut (td ty tv:TE):TS:=fun D σ H=>tv σ H fun v H1=>td σ H1 fun x H2=>ty σ H2 fun y H3=>sDPut_ D σ v x y H3
section
variable {X:Cx} {o i e value:Expr} {pos pos' tpos:Pos} {td ty tv:TE}
theorem pe_dget (hu:X.A.units + 1 < cLine) (ho:PE X o td) (hi:PE X i ty) (hs:NoSl i):PE X (.Subscript o i pos) (tDGet td ty):=by
 intro pins s σ H Q I h
 refine subD_of PySem.F.slot_dict_getitem.lookup hs (thn (ho pins s σ H _ I h) fun u s1 ⟨x,H1,I1,rx,q1⟩=>thn (hi pins s1 σ H1 _ I1 q1) fun iv s2 ⟨y,H2,I2,ry,a,v,ex,g,q2⟩=>?_)
 subst ex
 obtain rfl:u=Value.ref a:=rx
 exact⟨dict_typeIs I2 g,d_getItem hu I2 g ry fun w' s3 I3 rw'=>⟨v,H2,I3,rw',q2⟩⟩
theorem ps_dput (hu:X.A.units + 1 < cLine) (ho:PE X o td) (hi:PE X i ty) (hv:PE X value tv) (hs:swapsWith value (some (.Subscript o i pos')) pos.line X.env=pure false) :
  PS X (.Assign [.Subscript o i pos'] value pos) (sDPut td ty tv):=by
 intro pins s σ H D I h
 refine wpAny_Assign_Subscript (thn (hv pins s σ H _ I h) fun r s1 ⟨v,H1,I1,rv,q1⟩=>thn (ho pins s1 σ H1 _ I1 q1) fun u s2 ⟨x,H2,I2,rx,q2⟩=>thn (hi pins s2 σ H2 _ I2 q2) fun iv s3 ⟨y,H3,I3,ry,a,H4,ex,g,q3⟩=>?_) hs
 subst ex
 obtain rfl:u=Value.ref a:=rx
 exact d_setItem hu I3 g ry rv fun s4 I4=>⟨σ,H4,I4,q3⟩
end
theorem dk_empty {P:Program} {w:World} {H:Hp} (h:Heap) (hb:sysModules < h.objs.size):ObjOk P w H (h.push { cls:=.type "dict",data:=.dict #[] }) h.objs.size (.dK []) :=
 ⟨zZ _,beq_eq_false_iff_ne.mpr (Ne.symm (zY hb)),[],.nil,Heap.DictOf.new h⟩
def tDNewK:TE:=fun _ H Q=>∀ p,H p=none→Q (.ref p) (upd H p (.dK []))
section
variable {X:Cx} {pos:Pos}
theorem pe_dnewK:PE X (.Dict [] [] pos) tDNewK:=fun pins s σ H Q I h =>
 wpAny_Dict_empty ⟨.ref s.heap.objs.size,_,I.laid (a:=s.heap.objs.size) (o:=.dK []) (t':=s.toks) (fun _ _ q=>Heap.get?_push_of_some _ q) (zG _) (dk_empty s.heap I.big),rfl,h _ (I.hok.fresh (zG _))⟩
end
section
variable {X:Cx} {pins:List (Addr × Obj)} {σ:St} {H:Hp} {s:Shared} {a:Addr} {y d:V} {u r:Value} {o:Option V} {A:Around} {E:Value→Shared→Prop}
end
section
variable {X:Cx} {o e f:Expr} {apos cpos:Pos} {td ty tx:TE}
end
section
variable {X:Cx} {pins:List (Addr × Obj)} {σ:St} {H:Hp} {s:Shared} {a:Addr} {kvs:List (Key × V)} {A:Around} {E:Value→Shared→Prop}
end
section
variable {X:Cx} {pins:List (Addr × Obj)} {σ:St} {H:Hp} {s:Shared} {a:Addr} {y:V} {u:Value} {A:Around} {E:Value→Shared→Prop}
end
end L2
namespace HT
open PySem PyProof.Rows
def lexLt:List Int→List Int→Bool
 | [],[]=>false
 | [],_::_=>true
 | _::_,[]=>false
 | x::xs,y::ys=>if x=y then lexLt xs ys else decide (x < y)
theorem lexLt_cons (x y:Int) (xs ys:List Int):lexLt (x::xs) (y::ys)=if x=y then lexLt xs ys else decide (x < y):=rfl
theorem lexLt_nil_nil:lexLt [] []=false:=rfl
theorem lexLt_nil_cons (y:Int) (ys:List Int):lexLt [] (y::ys)=true:=rfl
theorem lexLt_cons_nil (x:Int) (xs:List Int):lexLt (x::xs) []=false:=rfl
theorem eqAt_int (A:Around) (s:Shared) (a:Int) (t:Tok) (c:Int) (u:Tok):∃ e,SeqAt.EqAt A s (.int a t) (.int c u) e∧(e=true ↔ a=c) :=
 ⟨(a == c),SeqAt.EqAt.int_int a t c u,by simp⟩
theorem rcLt_int (A:Around) (s:Shared) (a:Int) (t:Tok) (c:Int) (u:Tok) (prog:Program) (w:World) (E:Value→Shared→Prop) (Q:Value→Shared→Prop) (h:Q (.bool (decide (a < c))) s) :
  wpAny (model prog w) A (richCompare .Lt (.int a t) (.int c u)) Q E s :=
 (PyProof.Rows.lt_int h:wpAny (model prog w) A (compareOp .Lt (.int a t) (.int c u)) Q E s)
section
open PySem.SeqAt
open PySem.AutoSeq1 (wpAny_loadPart')
open PySem.MeetsSeq PySem.MeetsSeq2 PySem.MeetsSeq3
theorem tuple_lt_ints (l b:Addr) (items items2:Array Value) (n n2:Nat) (dd dd2:Option Addr) (sl sl2:Array (Option Value)) (ns ms:List Int) (hi:IntsAre items.toList ns) (hj:IntsAre items2.toList ms) :
  Meets (Builtin.«tuple.__lt__» ⟨[.ref l,.ref b],[]⟩)
   (fun _ R s=>s.heap.get? l=some { cls:=.type "tuple",dict:=dd,data:=.seq items n,slots:=sl }∧s.heap.get? b=some { cls:=.type "tuple",dict:=dd2,data:=.seq items2 n2,slots:=sl2 } ∧
    R (.ok (.ret (.bool (lexLt ns ms)))) s) :=
 .of_wp fun prog w A R s h=>by
  obtain⟨hp,g,d,tk,os⟩:=s; obtain⟨hl,hb,h⟩:=h
  have f2:=AutoSeq1.sub_tuple_tuple
  have z1:items.size=ns.length:=by rw[← hi.length]; simp
  have z2:items2.size=ms.length:=by rw[← hj.length]; simp
  wp_walk using wpAny_loadPart' hl,wpAny_loadPart' hb,wpAny_forIn_list _ (fun rest b s'=>b.1=none∧s'=⟨hp,g,d,tk,os⟩∧∃(vs ws:List Value) (ns' ms':List Int),rest=vs.zip ws ∧
   IntsAre vs ns'∧IntsAre ws ms'∧ns'.length + items2.size=ms'.length + items.size∧R (.ok (.ret (.bool (lexLt ns' ms')))) ⟨hp,g,d,tk,os⟩) _
  case turn =>
   rintro⟨y,x⟩ rest b s' ⟨hb',rfl,vs,ws,ns',ms',hz,hvi,hwi,hlen,hR⟩
   cases hvi with
   | nil=>rw[List.zip_nil_left] at hz; cases hz
   | cons a t hvi' =>
    cases hwi with
    | nil=>rw[List.zip_nil_right] at hz; cases hz
    | cons c u hwi' =>
     rw[List.zip_cons_cons] at hz
     injection hz with hyx hrest
     injection hyx with hy hx
     subst hy hx
     rw[lexLt_cons] at hR
     simp only [zP] at hlen
     obtain⟨e,he,hiff⟩:=eqAt_int A.in1 ⟨hp,g,d,tk,os⟩ a t c u
     refine wpAny_bind (he prog w _ _ ?_)
     cases e with
     | true =>
      rw[if_pos (hiff.mp rfl)] at hR
      wp_walk
      exact⟨rfl,rfl,_,_,_,_,hrest,hvi',hwi',by omega,hR⟩
     | false =>
      rw[if_neg (fun q=>absurd (hiff.mpr q) zV)] at hR
      have hri:=rcLt_int A.in1 ⟨hp,g,d,tk,os⟩ a t c u prog w
      wp_walk using hri
      exact⟨_,rfl,by simpa using hR⟩
  case fin =>
   rintro⟨b1,b2⟩ s' ⟨hb',rfl,vs,ws,ns',ms',hz,hvi,hwi,hlen,hR⟩
   simp only at hb'
   subst hb'
   have hv:lexLt ns' ms'=decide (items.size < items2.size):=by
    cases hvi with
    | nil =>
     cases hwi with
     | nil =>
      simp only [jE] at hlen
      rw[lexLt_nil_nil]
      exact(decide_eq_false (by omega)).symm
     | cons c u hw =>
      simp only [jE,zP] at hlen
      rw[lexLt_nil_cons]
      exact(decide_eq_true (by omega)).symm
    | cons a t hv =>
     cases hwi with
     | nil =>
      simp only [jE,zP] at hlen
      rw[lexLt_cons_nil]
      exact(decide_eq_false (by omega)).symm
     | cons c u hw =>
      rw[List.zip_cons_cons] at hz
      cases hz
   rw[hv] at hR
   wp_walk
   exact⟨_,rfl,by simpa [Builtin.Tuple.tupleCompareSizes] using hR⟩
  case h =>
   exact⟨rfl,rfl,items.toList,items2.toList,ns,ms,rfl,hi,hj,by omega,h⟩
end
section
variable {prog:Program} {w:World} {A:Around} {E:Value→Shared→Prop} {s:Shared}
theorem lt_tupInts {l b:Addr} {items items2:Array Value} {ns ms:List Int} {Q:Value→Shared→Prop} (hl:IsTup s.heap l items) (hb:IsTup s.heap b items2) (hi:IntsAre items.toList ns) (hj:IntsAre items2.toList ms)
  (hu:A.units < cLine) (h:Q (.bool (lexLt ns ms)) s):wpAny (model prog w) A (compareOp .Lt (.ref l) (.ref b)) Q E s:=by
 obtain⟨⟨cls,dd,data,sl⟩,ho,hc,n,hd⟩:=id hl
 obtain⟨⟨cls2,dd2,data2,sl2⟩,ho2,hc2,n2,hd2⟩:=id hb
 simp only at hc hd hc2 hd2
 subst hc hd hc2 hd2
 exact richCompare_meets_room (op:=.Lt) ⟨_,ho,rfl⟩ ⟨_,ho2,rfl⟩ PySem.F.slot_tuple_lt PySem.F.entry_tuple_lt (PySem.F.args_tuple_lt_2 _ _) (tuple_lt_ints l b items items2 n n2 dd dd2 sl sl2 ns ms hi hj)
  ⟨ho,ho2,show Value.bool (lexLt ns ms) ≠ Value.notImplemented∧Q (.bool (lexLt ns ms)) s from⟨(fun x=>nomatch x),h⟩⟩ hu
def sIx (n d:Nat):Option Int→Nat
 | none=>d
 | some v=>if v < 0 then (v + (n:Int)).toNat else min v.toNat n
theorem sIx_nat (n d k:Nat):sIx n d (some (k:Int))=min k n:=by
 show(if (k:Int) < 0 then ((k:Int) + (n:Int)).toNat else min (k:Int).toNat n)=min k n
 rw[if_neg (by omega),qE]
end
end HT
namespace L2
open PySem PySem.Spec PyProof.Rows
abbrev TO:=St→Hp→(Option Int→Hp→Prop)→Prop
def PO (X:Cx) (e:Option Expr) (t:TO):Prop :=
 ∀(pins:List (Addr × Obj)) (s:Shared) (σ:St) (H:Hp) (Q:Option Int→Hp→Prop),Inv X pins σ H s→t σ H Q →
  wpAny (model X.prog X.w) X.A (evalPart e X.env) (fun u s'=>∃ o H',Inv X pins σ H' s'∧IsPart u o∧Q o H') X.xe s
inductive tPart_ (Q:Option Int→Hp→Prop) (x:V) (H1:Hp):Prop where
 | mk (i:_) (h_0:x=.int i) (h_1:Q (some i) H1):tPart_ Q x H1
def tPart (t:TE):TO:=fun σ H Q=>t σ H fun x H1=>tPart_ Q x H1
section
variable {X:Cx} {e:Expr} {te:TE} {lo hi:Option Expr} {tl th:TO} {pos p2:Pos}
theorem po_some (h:PE X e te):PO X (some e) (tPart te):=by
 intro pins s σ H Q I hw
 rw[evalPart_some]
 refine thn (h pins s σ H _ I hw) fun u s1 ⟨x,H1,I1,r1,q1⟩=>?_
 obtain⟨i,rfl,q⟩:=q1
 obtain⟨t,rfl⟩:=r1
 exact⟨some i,H1,I1,.int i t,q⟩
def SlR (X:Cx) (r:V→Option Int→Option Int→Hp→VK→Prop):Prop :=
 ∀(pins:List (Addr × Obj)) (s:Shared) (σ:St) (H:Hp) (x:V) (v vl vu:Value) (lo hi:Option Int) (sl:Addr) (Q:VK),Inv X pins σ H s→RelV x v→s.heap.IsSliceOf sl vl vu .none→IsPart vl lo→IsPart vu hi→r x lo hi H Q →
  ∃ T id,typeLookup (.type T) "__getitem__"=pure (some (.builtin id))∧s.TypeIs v T∧wpAny (model X.prog X.w) X.A (getItem v (.ref sl)) (EP X pins σ Q) X.xe s
def tSl (r:V→Option Int→Option Int→Hp→VK→Prop) (te:TE) (tl th:TO):TE:=fun σ H Q=>te σ H fun x H1=>tl σ H1 fun l H2=>th σ H2 fun u H3=>r x l u H3 Q
theorem pe_slice {r:V→Option Int→Option Int→Hp→VK→Prop} (hr:SlR X r) (he:PE X e te) (hl:PO X lo tl) (hu:PO X hi th):PE X (.Subscript e (.Slice lo hi none p2) pos) (tSl r te tl th):=by
 intro pins s σ H Q I h
 refine Subscript_ (thn (he pins s σ H _ I h) fun v s1 ⟨x,H1,I1,r1,q1⟩=>?_)
 refine wpAny_Slice (thn (hl pins s1 σ H1 _ I1 q1) fun vl s2 ⟨l,H2,I2,pl,q2⟩=>thn (hu pins s2 σ H2 _ I2 q2) fun vu s3 ⟨u,H3,I3,pu,q3⟩=>?_)
 rw[evalPart_none]
 refine wpAny_pure ?_
 have I4:Inv X pins σ H3 { s3 with heap:=s3.heap.push { cls:=.type "slice",data:=.fields #[vl,vu,.none] } }:=I3.kept (t':=s3.toks) fun b ob q=>Heap.get?_push_of_some _ q
 obtain⟨T,id,hT,ht,hg⟩:=hr pins { s3 with heap:=s3.heap.push { cls:=.type "slice",data:=.fields #[vl,vu,.none] } } σ H3 x v vl vu l u s3.heap.objs.size Q I4 r1 (Heap.IsSliceOf.new ..) pl pu q3
 show wpAny (model X.prog X.w) X.A (subscriptTail e (.Slice lo hi none p2) v (.ref s3.heap.objs.size)) (EP X pins σ Q) X.xe { s3 with heap:=s3.heap.push { cls:=.type "slice",data:=.fields #[vl,vu,.none] } }
 exact tail_any (ops:=[.ref s3.heap.objs.size,v]) ht hT hg (by with_unfolding_all rfl)
def cutV (xs:List V) (lo hi:Option Int):List V:=(xs.drop (HT.sIx xs.length 0 lo)).take (HT.sIx xs.length xs.length hi - HT.sIx xs.length 0 lo)
theorem cutV_length (xs:List V) (lo hi:Option Int):(cutV xs lo hi).length≤xs.length:=by
 unfold cutV
 rw[zX,qU]
 omega
end
end L2
namespace L2
open PySem PySem.Spec PyProof.Rows
def ixN (n:Nat) (i:Int):Option Nat:=if 0≤i then (if i < n then some i.toNat else none) else if -(n:Int)≤i then some (i + n).toNat else none
def atI {α:Type} (xs:List α) (i:Int):Option α:=(ixN xs.length i).bind fun j=>xs[j]?
theorem ixN_seq {n:Nat} {i:Int} {j:Nat} (h:ixN n i=some j):seqIndex? i n=some j∧j < n∧-(n:Int)≤i∧i < n:=by
 unfold ixN at h
 by_cases h0:0≤i
 ·rw[if_pos h0] at h
  by_cases h1:i < n
  ·rw[if_pos h1] at h
   have e:i.toNat=j:=Option.some.inj h
   exact⟨by rw[seqIndex_of h0 h1,e],by omega,by omega,h1⟩
  ·rw[if_neg h1] at h; cases h
 ·rw[if_neg h0] at h
  by_cases h1:-(n:Int)≤i
  ·rw[if_pos h1] at h
   have e:(i + n).toNat=j:=Option.some.inj h
   exact⟨by rw[seqIndex_neg (by omega) h1,e],by omega,h1,by omega⟩
  ·rw[if_neg h1] at h; cases h
theorem atI_get {α:Type} {xs:List α} {i:Int} {v:α} (h:atI xs i=some v):∃ j,seqIndex? i xs.length=some j∧xs[j]?=some v∧j < xs.length∧-(xs.length:Int)≤i∧i < xs.length:=by
 unfold atI at h
 cases e:ixN xs.length i with
 | none=>rw[e] at h; cases h
 | some j =>
  rw[e] at h
  obtain⟨h1,h2,h3,h4⟩:=ixN_seq e
  exact⟨j,h1,h,h2,h3,h4⟩
theorem atI_nat {α:Type} {xs:List α} {j:Nat} {v:α} (h:xs[j]?=some v):atI xs (j:Int)=some v:=by
 have hj:j < xs.length:=(zA.mp h).1
 have e:ixN xs.length (j:Int)=some j:=by
  unfold ixN
  rw[if_pos (by omega),if_pos (by omega)]; simp
 unfold atI; rw[e]; exact h
def PlainIx (b:Expr):Prop:=∀ o i,subscripted b false o i=operate [o,i] (getItem o i)
def IxR (X:Cx) (r:R2):Prop :=
 ∀(value slice:Expr) (pins:List (Addr × Obj)) (s:Shared) (σ:St) (H:Hp) (x y:V) (v u:Value) (Q:VK),Inv X pins σ H s→RelV x v→RelV y u→r x y H Q →
  subscripted slice false v u=operate [v,u] (getItem v u)→wpAny (model X.prog X.w) X.A (subscriptTail value slice v u) (EP X pins σ Q) X.xe s
def MtR (X:Cx) (id:String) (r:V→List V→Hp→VK→Prop):Prop :=
 ∀(pins:List (Addr × Obj)) (s:Shared) (σ:St) (H:Hp) (x:V) (xs:List V) (v:Value) (us:List Value) (Q:VK),Inv X pins σ H s→RelV x v→Vals xs us→r x xs H Q →
  wpAny (model X.prog X.w) X.A (call (.builtin id) (v::us)) (EP X pins σ Q) X.xe s
section
variable {X:Cx} {a b:Expr} {ta tb:TE} {pos:Pos}
theorem pe_ix {r:R2} (hr:IxR X r) (ha:PE X a ta) (hb:PE X b tb) (hs:PlainIx b):PE X (.Subscript a b pos) (tOp r ta tb):=by
 intro pins s σ H Q I h
 exact Subscript_ (binT ha hb I h fun v u s2 x y H2 I2 rx ry q=>hr a b pins s2 σ H2 x y v u Q I2 rx ry q (hs _ _))
inductive rIxL (K:PySem.W.Frag) (x:V) (y:V) (H:Hp) (Q:VK):Prop where
 | mk (p xs i v:_) (h_0:x=.ref p) (h_1:y=.int i) (h_2:SqL K H p xs) (h_3:atI xs i=some v) (h_4:Q v H):rIxL K x y H Q
inductive rIxT (K:PySem.W.Frag) (x:V) (y:V) (H:Hp) (Q:VK):Prop where
 | mk (p xs i v:_) (h_0:x=.ref p) (h_1:y=.int i) (h_2:SqT K H p xs) (h_3:atI xs i=some v) (h_4:Q v H):rIxT K x y H Q
theorem ix_list:IxR X (rIxL X.K):=by
 intro value slice pins s σ H x y v u Q I rx ry h hs
 obtain⟨p,xs,i,z,rfl,rfl,hq,he,q⟩:=h
 cases rx
 obtain⟨t,rfl⟩:=ry
 obtain⟨its,r,pl,hz⟩:=I.list hq
 obtain⟨j,h1,h2,h3,h4,h5⟩:=atI_get he
 obtain⟨w,ew,rw'⟩:=r.get h2
 have hl:=r.length
 have hn:=line63
 have fin:EP X pins σ Q w s:=⟨z,H,I,rw',q⟩
 by_cases h0:0≤i
 ·have hj:i.toNat=j:=by
   rw[seqIndex_of h0 h5] at h1
   exact Option.some.inj h1
  exact item_listR pl.isList h0 (by omega) (by rw[hj]; simpa using ew) fin hs
 ·have hj:(i + (its.toArray.size:Int)).toNat=j:=by
   rw[seqIndex_neg (by omega) h4] at h1
   rw[zL,← hl]
   exact Option.some.inj h1
  exact subscriptTail_builtinR (x:=w) pl.isList.typeIs slot_list_getitem.lookup
   (wpAny_getItem_list_neg (Q:=fun r s'=>r=w∧EP X pins σ Q r s') pl.isList (by omega) (by rw[zL] <;> omega) (by omega) (by rw[hj]; simpa using ew) ⟨rfl,fin⟩) hs
theorem ix_tup:IxR X (rIxT X.K):=by
 intro value slice pins s σ H x y v u Q I rx ry h hs
 obtain⟨p,xs,i,z,rfl,rfl,hq,he,q⟩:=h
 cases rx
 obtain⟨t,rfl⟩:=ry
 obtain⟨its,r,pl,hz⟩:=I.tuple hq
 obtain⟨j,h1,h2,h3,h4,h5⟩:=atI_get he
 obtain⟨w,ew,rw'⟩:=r.get h2
 have hl:=r.length
 have hn:=line63
 have fin:EP X pins σ Q w s:=⟨z,H,I,rw',q⟩
 exact subscriptTail_builtinR (x:=w) pl.typeIs slot_tuple_getitem.lookup
  (getItem_tuple (j:=j) (Q:=fun r s'=>r=w∧EP X pins σ Q r s') pl (by omega) (by omega) (by rw[zL,← hl]; exact h1) (by simpa using ew) ⟨rfl,fin⟩) hs
theorem slice_bounds (lo hi:Option Int) (n:Nat):(sliceBounds lo hi none n).1=((HT.sIx n 0 lo:Nat):Int)∧(sliceBounds lo hi none n).2.1=((HT.sIx n n hi:Nat):Int)∧(sliceBounds lo hi none n).2.2=1:=by
 refine⟨?_,?_,rfl⟩
 ·cases lo with
  | none=>simp [sliceBounds,HT.sIx]
  | some i =>
   simp only [sliceBounds,HT.sIx,Option.getD_none,show(1:Int) > 0 by decide,if_true]
   by_cases h:i < 0
   ·simp only [h,if_true] <;> omega
   ·simp only [h,if_false] <;> omega
 ·cases hi with
  | none=>simp [sliceBounds,HT.sIx]
  | some i =>
   simp only [sliceBounds,HT.sIx,Option.getD_none,show(1:Int) > 0 by decide,if_true]
   by_cases h:i < 0
   ·simp only [h,if_true] <;> omega
   ·simp only [h,if_false] <;> omega
theorem slicePick_cut (its:List Value) (lo hi:Option Int):slicePick its.toArray lo hi none=((its.drop (HT.sIx its.length 0 lo)).take (HT.sIx its.length its.length hi - HT.sIx its.length 0 lo)).toArray:=by
 obtain⟨h1,h2,h3⟩:=slice_bounds lo hi its.toArray.size
 unfold slicePick
 rw[h1,h2,h3]
 simp only [sliceRange_one,pick_run,zL] <;> rfl
inductive rSlL (K:PySem.W.Frag) (x:V) (lo:Option Int) (hi:Option Int) (H:Hp) (Q:VK):Prop where
 | mk (a xs:_) (h_0:x=.ref a) (h_1:SqL K H a xs) (h_2:∀ p,H p=none→Q (.ref p) (upd H p (.lst (cutV xs lo hi)))):rSlL K x lo hi H Q
theorem sl_list:SlR X (rSlL X.K):=by
 intro pins s σ H x v vl vu lo hi sl Q I rx hs pl pu h
 obtain⟨a,xs,rfl,hx,q⟩:=h
 cases rx
 obtain⟨its,r,ht,hz⟩:=I.list hx
 have hlen:=r.length
 refine⟨"list",_,slot_list_getitem.lookup,ht.isList.typeIs,?_⟩
 refine wpAny_getItem_list_slice ht.isList hs pl pu .none (by simp) ?_ (by rw[zL] <;> omega)
 rw[slicePick_cut,← hlen]
 refine⟨.ref s.heap.objs.size,_,I.laid (t':=s.toks) (o:=.lst (cutV xs lo hi)) (fun b ob q=>Heap.get?_push_of_some _ q) (zG _) ?_,rfl,q _ (I.hok.fresh (zG _))⟩
 exact⟨yA (cutV_length xs lo hi) hz,_,0,(r.drop (HT.sIx xs.length 0 lo)).take (HT.sIx xs.length xs.length hi - HT.sIx xs.length 0 lo),Heap.get?_push_size _ rfl⟩
theorem call_len_seq:CallR X (.builtin "len") (fun xs H Q=>∃ p ys,xs=[.ref p]∧(SqL X.K H p ys∨SqT X.K H p ys)∧Q (.int ys.length) H):=by
 intro pins s σ H xs us Q I r h
 obtain⟨p,ys,rfl,hq,q⟩:=h
 obtain⟨u,rfl,rx⟩:=vals1 r
 cases rx
 have hn:=line63
 rcases hq with hq|hq
 ·obtain⟨its,r',pl,hz⟩:=I.list hq
  have hlen:=r'.length
  exact Calls.call_len_list pl.isList (by simp only [zL] <;> omega) ⟨.int ys.length,H,I.tok _,⟨s.toks + 1,by rw[zL,hlen]⟩,q⟩
 ·obtain⟨its,r',pl,hz⟩:=I.tuple hq
  have hlen:=r'.length
  exact len_tuple pl (by simp only [zL] <;> omega) ⟨.int ys.length,H,I.tok _,⟨s.toks + 1,by rw[zL,hlen]⟩,q⟩
theorem call_tuple_of:CallR X (.type "tuple") (fun xs H Q=>∃ p ys,xs=[.ref p]∧((SqL X.K H p ys∧∀ l,H l=none→Q (.ref l) (upd H l (.tup ys)))∨(SqT X.K H p ys∧Q (.ref p) H))):=by
 intro pins s σ H xs us Q I r h
 obtain⟨p,ys,rfl,h⟩:=h
 obtain⟨u,rfl,rx⟩:=vals1 r
 cases rx
 rcases h with ⟨hq,q⟩|⟨hq,q⟩
 ·obtain⟨its,r',pl,hz⟩:=I.list hq
  have hlen:=r'.length
  refine call_tuple_list pl.isList (fun h' kp=>?_) (by simp only [zL] <;> omega)
  have I1:Inv X pins σ H { s with heap:=h' }:=I.kept (t':=s.toks) kp
  have I2:Inv X pins σ (upd H h'.objs.size (.tup ys)) { s with heap:=h'.push { cls:=.type "tuple",data:=.seq its.toArray } } :=
   I1.laid (t':=s.toks) (fun b o e=>Heap.get?_push_of_some _ e) (zG _) (show ObjOk X.prog X.w _ _ _ (.tup ys) from⟨hz,its,r',IsTup.new _ _⟩)
  exact⟨.ref h'.objs.size,_,I2,rfl,q _ (I1.hok.fresh (zG _))⟩
 ·obtain⟨its,r',pl,hz⟩:=I.tuple hq
  exact call_tuple_same pl ⟨.ref p,H,I,rfl,q⟩
def tyV (K:PySem.W.Frag) (T:String) (x:V) (H:Hp):Prop:=match x with
 | .str _=>T="str"
 | .int _=>T="int"
 | .ref p=>(T="list"∧∃ xs,SqL K H p xs)∨(T="tuple"∧∃ o,K.lookup p=some o∧o.cls=.type "tuple"∧o.dict=none) ∨
   (T="dict"∧((∃ kvs,H p=some (.dK kvs))∨∃ kvs,H p=some (.dT kvs)))∨(T="set"∧∃ S n,H p=some (.set S n))
 | _=>False
theorem tyV_is {pins:List (Addr × Obj)} {σ:St} {H:Hp} {s:Shared} {T:String} {x:V} {v:Value} (I:Inv X pins σ H s) (r:RelV x v) (ty:tyV X.K T x H) :
  s.TypeIs v T∧∀ a,v=.ref a→∃ ob,s.heap.get? a=some ob∧ob.dict=none:=by
 cases x with
 | str z =>
  obtain⟨t,rfl⟩:=r
  cases (show T="str" from ty)
  exact⟨typeIs_str s z t,fun _ e=>nomatch e⟩
 | int i =>
  obtain⟨t,rfl⟩:=r
  cases (show T="int" from ty)
  exact⟨typeIs_int s i t,fun _ e=>nomatch e⟩
 | ref p =>
  cases r
  rcases ty with ⟨rfl,xs,hq⟩|⟨rfl,o,hk,hc,hd⟩|⟨rfl,hk⟩|⟨rfl,S,n,hk⟩
  ·obtain⟨its,_,pl,_⟩:=I.list hq
   refine⟨pl.isList.typeIs,fun a e=>?_⟩
   cases e
   obtain⟨o,n,e,c,hd,_⟩:=pl
   exact⟨o,e,hd⟩
  ·refine⟨⟨o,I.kIn p o hk,hc⟩,fun a e=>?_⟩
   cases e
   exact⟨o,I.kIn _ o hk,hd⟩
  ·have z:∃ o,s.heap.get? p=some o∧o.ExactDict:=by
    rcases hk with ⟨kvs,hk⟩|⟨kvs,hk⟩
    ·obtain⟨_,_,_,_,o,_,_,e,ex,_⟩:=I.hok p _ hk
     exact⟨o,e,ex⟩
    ·obtain⟨_,_,_,_,o,_,_,e,ex,_⟩:=I.hok p _ hk
     exact⟨o,e,ex⟩
   obtain⟨o,e,ex⟩:=z
   refine⟨⟨o,e,ex.1⟩,fun a e2=>?_⟩
   cases e2
   exact⟨o,e,ex.2.1⟩
  ·obtain⟨o,_,_,_,e,ex,_⟩:=I.hok p _ hk
   refine⟨⟨o,e,ex.1⟩,fun a e2=>?_⟩
   cases e2
   exact⟨o,e,ex.2.1⟩
 | _=>exact False.elim ty
def tBM (K:PySem.W.Frag) (T:String) (r:V→List V→Hp→VK→Prop) (to:TE) (t:TA):TE:=fun σ H Q=>to σ H fun x H1=>tyV K T x H1∧t σ H1 fun xs H2=>r x xs H2 Q
variable {o e:Expr} {es:List Expr} {to:TE} {t:TA} {name:Str} {apos cpos:Pos} {T id:String} {r:V→List V→Hp→VK→Prop}
theorem pe_bm (pa:PlainAttrs T) (slot:Slot T name id) (hty:typeOf (.builtin id)=pure (.type "method_descriptor")) (hm:MtR X id r) (ho:PE X o to) (ha:PA X (e::es) t)
  (hbase:attributeBase o name X.env (eval o X.env)=eval o X.env:=by rfl)
  (hfew:((backTo cpos (starEach (e::es) X.env)).all (fun x=>!x.1) && (backToKw cpos (keywordEach [] X.env)).all (fun x=>x.1.isSome)
   && decide ((e::es).length + ([]:List Keyword).length + (if ([]:List Keyword).isEmpty then 0 else 1) < 30))=true:=by rfl)
  (hline:(apos.endLine == cpos.line)=true:=by rfl) (hs:starEach (e::es) X.env=(false,eval e X.env)::starEach es X.env:=by rfl) (hplain:(backTo cpos (starEach es X.env)).any (·.1)=false:=by rfl) :
  PE X (.Call (.Attribute o name apos) (e::es) [] cpos) (tBM X.K T r to t):=by
 intro pins s σ H Q I h
 refine wpAny_Call_method_late hbase hfew hline rfl (thn (ho pins s σ H _ I h) fun v s1 ⟨x,H1,I1,r1,ty,q1⟩=>?_)
 obtain⟨h1,h2⟩:=tyV_is I1 r1 ty
 refine⟨T,id,pa,slot,hty,h1,h2,?_⟩
 have hA:=ha cpos pins s1 σ H1 _ I1 q1
 rw[hs] at hA ⊢
 refine Calls.callWith_builtin (by show(false || (backTo cpos (starEach es X.env)).any (·.1))=false; rw[hplain] <;> rfl) (Calls.evalArgs_plain ?_)
 exact thn hA fun us s2 ⟨vs,H2,I2,r2,q2⟩=>hm pins s2 σ H2 x vs v us Q I2 r1 r2 q2
/- xs.append(e),list.index on a module's tuple .. are MtR facts of 06m -/
end
end L2
namespace L2
open PySem PySem.Spec PyProof.Rows
def MtM (X:Cx) (id:String) (r:V→List V→Hp→VK→Prop):Prop :=
 ∀(pins:List (Addr × Obj)) (s:Shared) (σ:St) (H:Hp) (x:V) (xs:List V) (v:Value) (us:List Value) (Q:VK),Inv X pins σ H s→RelV x v→Vals xs us→r x xs H Q →
  wpAny (model X.prog X.w) X.A (call (.builtin id) (v::us)) (EP X pins σ Q) X.xe s
theorem pairedUn {α β:Type} {F:α→β→Prop} {x:α} {l:List α} {m:List β} (h:Paired F (x::l) m):∃ y r,m=y::r∧F x y∧Paired F l r:=by
 cases h with
 | cons p r=>exact⟨_,_,rfl,p,r⟩
theorem Vals.one {x:V} {us:List Value} (h:Vals [x] us):∃ u,us=[u]∧RelV x u:=by
 obtain⟨u,r,rfl,q,h2⟩:=pairedUn h
 cases h2
 exact⟨u,rfl,q⟩
theorem Vals.eraseIdx:∀ {xs:List V} {us:List Value} (i:Nat),Vals xs us→Vals (xs.eraseIdx i) (us.eraseIdx i)
 | _,_,_,.nil=>.nil
 | _,_,0,.cons _ t=>t
 | _,_,i + 1,.cons r t=>.cons r (Vals.eraseIdx i t)
theorem len_erase {α:Type}:∀(l:List α) (i:Nat),(l.eraseIdx i).length≤l.length
 | [],_=>zG _
 | _::_,0=>qB _
 | _::r,i + 1=>kI (len_erase r i)
section
variable {X:Cx} {pins:List (Addr × Obj)} {σ:St} {H:Hp} {s:Shared} {l b:Addr} {xs ys zs:List V}
theorem Inv.lset {its its':List Value} {n:Nat} {f:Array Value→Array Value} {t':Nat} (I:Inv X pins σ H s) (hH:H l=some (.lst xs))
  (e:s.heap.get? l=some { cls:=.type "list",data:=.seq its.toArray n }) (hf:f its.toArray=its'.toArray) (hv:Vals ys its') (hz:ys.length≤sizeLine) :
  Inv X pins σ (upd H l (.lst ys)) { s with heap:=s.heap.update l (Obj.mapSeq f),toks:=t' }:=by
 have q:=PySem.IsL.update e f
 rw[hf] at q
 refine I.write (x:=l) (e:=l) (by rw[hH]; exact trivial) (.inl rfl) (fun b' u hb hu=>(Heap.get?_update_other s.heap (Obj.mapSeq f) (Ne.symm hb)).trans hu) ⟨_,q⟩ ?_
 exact⟨hz,its',_,hv,q⟩
theorem Inv.lnew {its:List Value} {t':Nat} (I:Inv X pins σ H s) (hv:Vals ys its) (hz:ys.length≤sizeLine) :
  Inv X pins σ (upd H s.heap.objs.size (.lst ys)) { s with heap:=s.heap.push { cls:=.type "list",data:=.seq its.toArray },toks:=t' } :=
 I.laid (fun _ _ q=>Heap.get?_push_of_some _ q) (zG _) ⟨hz,its,0,hv,Heap.get?_push_size _ rfl⟩
theorem Inv.fresh (I:Inv X pins σ H s):H s.heap.objs.size=none:=I.hok.fresh (zG _)
theorem Inv.lstM (I:Inv X pins σ H s) (hH:H l=some (.lst xs)):xs.length≤sizeLine∧∃(its:List Value) (n:Nat),Vals xs its∧xs.length=its.length∧s.heap.get? l=some { cls:=.type "list",data:=.seq its.toArray n }:=by
 obtain⟨z,its,n,r,e⟩:=I.hok l _ hH
 exact⟨z,its,n,r,r.length,e⟩
end
section
variable {X:Cx}
inductive rAppend (x:V) (vs:List V) (H:Hp) (Q:VK):Prop where
 | mk (l xs y:_) (h_0:x=.ref l) (h_1:vs=[y]) (h_2:H l=some (.lst xs)) (h_3:xs.length < sizeLine) (h_4:Q .non (upd H l (.lst (xs++[y])))):rAppend x vs H Q
theorem mt_append:MtM X "list.append" rAppend:=by
 intro pins s σ H x vs v us Q I rx rv h
 obtain⟨l,xs,y,rfl,rfl,hH,hz,q⟩:=h
 cases rx
 obtain⟨u,rfl,ru⟩:=rv.one
 obtain⟨z,its,n,r,hl,e⟩:=I.lstM hH
 refine call_meets F.slot_list_append ⟨_,e,rfl⟩ F.entry_list_append (F.args_list_append_2 _ _) (PySem.list_append l its.toArray n u (by rw[zL]; omega)) ⟨e,?_⟩
 refine⟨.non,_,I.lset (its':=its++[u]) hH e (by simp) (r.append (.cons ru .nil)) ?_,rfl,q⟩
 rw[zM,List.length_singleton]
 omega
inductive rPopAt (x:V) (vs:List V) (H:Hp) (Q:VK):Prop where
 | mk (l xs i k y:_) (h_0:x=.ref l) (h_1:vs=[.int i]) (h_2:H l=some (.lst xs)) (h_3:-(2 ^ 63)≤i) (h_4:i < 2 ^ 63) (h_5:seqIndex? i xs.length=some k) (h_6:xs[k]?=some y) (h_7:Q y (upd H l (.lst (xs.eraseIdx k)))):rPopAt x vs H Q
theorem mt_popAt:MtM X "list.pop" rPopAt:=by
 intro pins s σ H x vs v us Q I rx rv h
 obtain⟨l,xs,i,k,y,rfl,rfl,hH,h1,h2,hk,hy,q⟩:=h
 cases rx
 obtain⟨u,rfl,ru⟩:=rv.one
 obtain⟨t,rfl⟩:=ru
 obtain⟨z,its,n,r,hl,e⟩:=I.lstM hH
 obtain⟨w,hw,rw'⟩:=r.get hy
 refine call_meets F.slot_list_pop ⟨_,e,rfl⟩ F.entry_list_pop (F.args_list_pop_2 _ _)
  (MeetsSeq.list_pop_at l its.toArray n i t k w (fitsIndex_both h1 h2) (by rw[zL,← hl]; exact hk) (by rw[← zH]; exact hw) (by rw[zL]; omega)) ⟨e,?_⟩
 refine⟨y,_,I.lset (its':=its.eraseIdx k) hH e ?_ (r.eraseIdx k) ?_,rw',q⟩
 ·show its.toArray.eraseIdxIfInBounds k=(its.eraseIdx k).toArray
  rw[kH]
 ·have:=len_erase xs k
  omega
inductive rCat (x:V) (y:V) (H:Hp) (Q:VK):Prop where
 | mk (l b xs zs:_) (h_0:x=.ref l) (h_1:y=.ref b) (h_2:H l=some (.lst xs)) (h_3:H b=some (.lst zs)) (h_4:xs.length + zs.length≤sizeLine) (h_5:∀ p,H p=none→Q (.ref p) (upd H p (.lst (xs++zs)))):rCat x y H Q
theorem op_cat:OpR X (binaryOp .Add) rCat:=by
 intro pins s σ H x y v u Q I rx ry h
 obtain⟨l,b,xs,zs,rfl,rfl,hH,hB,hz,q⟩:=h
 cases rx
 cases ry
 obtain⟨z,its,n,r,hl,e⟩:=I.lstM hH
 obtain⟨z2,its2,n2,r2,hl2,e2⟩:=I.lstM hB
 refine PySem.P.add_list e e2 ?_ (by rw[zL,zL]; omega)
 have ea:its.toArray++its2.toArray=(its++its2).toArray:=by simp
 rw[ea]
 exact⟨.ref _,_,I.lnew (t':=s.toks) (r.append r2) (by rw[zM]; omega),rfl,q _ I.fresh⟩
end
section
variable {prog:Program} {w:World} {A:Around} {E:Value→Shared→Prop} {s:Shared}
end
section
variable {X:Cx}
end
end L2
namespace Att
open PySem PySem.W PySem.Calls PyProof.Rows
theorem ints_of_wellAll {P:Params} {h:Heap}:∀(ns:List Int) (vs:List Value),WellAll P h vs (ns.map WData.int)→IntsAre vs ns:=by
 intro ns
 induction ns with
 | nil =>
  intro vs w
  rw[jY] at w
  cases w
  exact .nil
 | cons n ns ih =>
  intro vs w
  rw[yI] at w
  cases w with
  | cons a b =>
   cases a
   exact .cons _ _ (ih _ b)
theorem script_of {l:OpenLaw} {n:Nat} (hn:l.most=some n) {P:Params} {h:Heap} {args:List WData} {vals:List Value}
  (hpre:l.row.toRowW.claim.pre args=true) (hwl:WellAll P h vals args) :
  ∃ a vs ns,vals=[Value.ref a]∧args=[WData.list (ns.map WData.int)]∧h.get? a=some { cls:=.type "list",data:=.seq vs.toArray }∧IntsAre vs ns∧ns.length≤n:=by
 have hsh:WShape.hasAll [] args [.list .int]=true:=(pre_splitW hpre).1
 have hc:l.pre.holds [] { args:=args }=true:=(pre_splitW hpre).2
 obtain⟨d,r,rfl,h1,h2⟩:=hasAllW_cons hsh
 obtain rfl:=hasAllW_nil h2
 obtain⟨xs,rfl,h3⟩:=hasW_list h1
 obtain⟨ns,rfl⟩:=items_int h3
 have hlen:ns.length≤n:=by
  unfold OpenLaw.pre at hc
  have h4:(WTm.not (.lt (.lit (.int (n:Int))) (.len (.arg 0)))).holds [] { args:=[.list (ns.map .int)] }=true:=by
   have h4:=(holds_andW hc).1
   rw[hn] at h4
   exact h4
  have h5:=condW_of h4 (w_not (w_lt w_lit (w_len_list (w_arg rfl))))
  rw[zB] at h5
  refine Nat.le_of_not_lt fun q=>?_
  have q':(n:Int) < ((ns.length:Nat):Int):=by omega
  first
   | (rw[decide_eq_true q'] at h5; exact absurd h5 (by decide))
   | (simp at h5; omega)
 cases hwl with
 | cons w1 w2 =>
  cases w2
  cases w1 with
  | list ho hall=>exact⟨_,_,ns,rfl,rfl,ho,ints_of_wellAll ns _ hall,hlen⟩
theorem post_true (l:OpenLaw) (args:List WData):l.row.toRowW.claim.post args (.bool true) args=true :=
 postW_of (r:=l.row.toRowW) (X:=(true == true))
  (show WShape.has [] (.bool true) .bool=true by first|rfl|decide|simp [WShape.has,WShape.arms,WShape.armsAll])
  (show(WTm.eq .res (.lit (.bool true))).value [] { args:=args,res:=some (.bool true),after:=args }=some (.bool (true == true)) from w_eq_bool (w_res rfl) w_lit) rfl
theorem attach_call {l:OpenLaw} {n:Nat} {q:Program} {loose:List Str} {XP:(Str→Option Value)→Heap→Prop} {YP:World→Heap→Prop} {d:DefRec}
  (hn:l.most=some n) (hdf:d.params.defaults=[])
  (call:∀(w:World) (s₀ s₁:Shared) (mg mb:Str→Option Value) (fa:Addr) (o:Obj) (pm cd doc:Value) (a:Addr) (vs:List Value) (ns:List Int),
   Ground q loose [] XP w s₀ mg mb s₁.heap→YP w s₁.heap →
   s₁.heap.get? fa=some o→o.data=.func (docDef d.name d.params d.body d.scope pm cd doc)→s₁.heap.CodeRec cd d.name→mg d.name=some (.ref fa) →
   s₁.heap.get? a=some { cls:=.type "list",data:=.seq vs.toArray }→IntsAre vs ns→ns.length≤n→s₁.gens=#[] →
   codeAny (model l.prog w) callerA (.call (.ref fa) ⟨[.ref a],[]⟩) (fun r s'=>r=.ok (.ret (.bool true))∧OldK s₁.heap s'.heap∧s'.os=s₁.os∧AllBare s'.gens) s₁) :
  WalkO q loose XP YP l.row.toRowW d [] (fun f vs=>PySem.call f vs):=by
 intro w s₀ s₁ mg mb G Y fa o pm cd doc dV kV ho hd hcd hD hmg hg args vals as hpre hlay hrd hwl hlo
 obtain rfl:dV=.none:=Dflts.none hD hdf
 obtain rfl:kV=.none:=Dflts.noKw hD
 obtain⟨a,vs,ns,rfl,rfl,hobj,hints,hlen⟩:=script_of hn hpre hwl
 refine enter_call (codeAny_mono (call w s₀ s₁ mg mb fa o pm cd doc a vs ns G Y ho (fd_plain hd) hcd hmg hobj hints hlen hg) fun r s' hq=>?_)
 obtain⟨rfl,h2,h3,h4⟩:=hq
 exact⟨.inl ⟨.bool true,.bool true,[],rfl,fun _=>rfl,.bool true,post_true l _,fun _=>⟨List.Pairwise.nil,fun _ hm=>(nomatch hm)⟩⟩,h2,h3,h4⟩
section
variable {prog:Program} {w:World} {A:Around} {E:Value→Shared→Prop} {s:Shared} {K:Frag}
end
end Att
namespace L2
open PySem PySem.Spec PyProof.Rows
theorem vals_ints:∀ {vs:List Value} {ns:List Int},IntsAre vs ns→Vals (ns.map V.int) vs
 | _,_,.nil=>.nil
 | _,_,.cons n t h=>.cons ⟨t,rfl⟩ (vals_ints h)
end L2
namespace L2
open PySem PySem.Spec PyProof.Rows
end L2
/- THE LAST THEOREM (shape; LID,My.* are yours):
   My.Adr: a structure of the addresses that your layer names (classes,functions); My.Txt K t: a structure (Prop) of the equations over K;
   My.txt_mk:{K} {implicit addresses ..} (e1:nsIn K mainGlobals "law"=some (some (.ref f))) (e2:K.lookup f=some ⟨oc,od,.func (fnOf "law" "law" params body scope dV kV doc pm an cdv ct),sl⟩) (e3:codeIn K cdv "law"=true) ..:∃ t,My.Txt K t
set_option maxRecDepth 100000 in
set_option maxHeartbeats 0 in
theorem PySem.Challenge.cw_LID_holds : PySem.Challenge.rw_LID.Holds := by
 w_on; o_law; k_head; (case hw=>w_witness2)
 k_fill
 refine L2.walk_of (l:=PySem.Challenge.rw_LID) (n:=63) (k:=40) (x:="script") (CX:=fun w=>..) (sp:=fun _=>My.sp_law) rfl (by decide) rfl ⟨rfl,by decide,by decide⟩ (fun w h Y=>PySem.W.kIn_of Y) ?F ?S ?C
 case F =>
  intro w mg fa h KX G hmg
  have T:∃ t,My.Txt (L2.KOf KX) t:=by
   dsimp only [L2.KOf]                          -- K must stand as «<heap const> w.params» for k_is
   refine' My.txt_mk ?e1 ?e2 ?e3 ..
   (case e1=>PySem.W.k_is)                    -- in the order: a name -> its address -> its object -> its parts
   (case e2=>PySem.W.k_is)
   ..
  obtain⟨t,T⟩:=T
  have e0:=hmg.symm.trans (PySem.W.mg_of KX G T.law)
  cases e0                                       -- fa is the law's own address
  exact⟨_,fun s u=>.of_eq rfl,fun base kb nb=>My.law_fn T kb nb⟩     -- if «.of_eq rfl» comes too early: refine' ⟨_,?b,fun base kb nb=>My.law_fn T kb nb⟩; exact fun s u=>.of_eq rfl
 case S=>exact fun w H a ns hl hO hS=>..
 case C=>exact ..
(the tactic k_is has no namespace: write k_is) -/
namespace L2
open PySem PySem.Spec PyProof.Rows
def inClass (s:Stmt) (j:Nat):Stmt:=match s with
 | .ClassDef _ _ _ body _ _ _ _ _ _ _=>body.getD j (.Pass ⟨0,0,0,0⟩)
 | _=>.Pass ⟨0,0,0,0⟩
def defArgs (s:Stmt):Arguments:=match s with
 | .FunctionDef _ a _ _ _ _ _ _ _ _=>a
 | _=>{ posonlyargs:=[],args:=[],vararg:=none,kwonlyargs:=[],kw_defaults:=[],kwarg:=none,defaults:=[] }
def defBody (s:Stmt):List Stmt:=match s with
 | .FunctionDef _ _ b _ _ _ _ _ _ _=>b
 | _=>[]
def defScope (s:Stmt):Scope:=match s with
 | .FunctionDef _ _ _ _ _ _ sc _ _ _=>sc
 | _=>{ kind:=.function,names:=[],isGenerator:=false,isCoroutine:=false }
abbrev CX0:CXT:=fun _ _ _ _ _ _=>False
abbrev E0:XK:=fun _ _ _=>False
theorem pass0 {X:Cx}:Passes CX0 X E0:=fun _ _ _ _ _ _ _ h=>h.elim
structure Fun (K:PySem.W.Frag) (x qual:Str) (st:Stmt) (f:Addr) (fd:FuncData):Prop where
 ex:∃(oc:Value) (od:Option Addr) (kV doc pm:Value) (an:Option Addr) (cdv ct:Value) (osl:Array (Option Value)),
  fd=PySem.W.fnOf x qual (defArgs st) (defBody st) (defScope st) .none kV doc pm an cdv ct∧K.lookup f=some ⟨oc,od,.func fd,osl⟩∧PySem.W.codeIn K cdv qual=true
 kp:PySem.W.keepIn K (.ref f)=true
section
variable {P:Program} {w:World} {K:PySem.W.Frag} {mg:Str→Option Value} {base:Heap}
theorem Fun.ok {x qual:Str} {st:Stmt} {f:Addr} {fd:FuncData} {N ps:List Str} {k:Nat} {sp:Sp} (F:Fun K x qual st f fd) (S:FnScope N ps (defScope st)) (len:∀ vs H Q E,sp vs H Q E→vs.length=ps.length)
  (hbody:∀(cdv:Value) (A:Around) (outer:List Env) (s:Shared) (H:Hp) (vs:List V) (Q:VK) (E:XK),Room k (A.deeper (envOfC qual (defScope st) s.heap.objs.size f cdv))→sp vs H Q E →
   ∃ t,PSs (cxOf CX0 P w K mg base N qual (defScope st) f cdv A outer s H E).nox (defBody st) t∧t { nx:=fun _ H'=>Q .non H',rt:=Q } (start N vs) H):FnOk P w K mg base CX0 (k + 1) f fd ps sp:=by
 obtain⟨oc,od,kV,doc,pm,an,cdv,ct,osl,rfl,lk,hcd⟩:=F.ex
 refine fn_of lk hcd S len fun A outer s H vs Q E hr hsp=>?_
 obtain⟨t,h,q⟩:=hbody cdv A outer s H vs Q E hr hsp
 exact⟨t,h.nox,q⟩
theorem Fun.binds {x qual:Str} {st:Stmt} {f:Addr} {fd:FuncData} {ps:List Str} (F:Fun K x qual st f fd)
  (h:∀(kV doc pm:Value) (an:Option Addr) (cdv ct:Value) (us:List Value),us.length=ps.length→bindArgs (PySem.W.fnOf x qual (defArgs st) (defBody st) (defScope st) .none kV doc pm an cdv ct) ⟨us,[]⟩=pure (ps.zip us)):Binds K fd ps []:=by
 obtain⟨oc,od,kV,doc,pm,an,cdv,ct,osl,rfl,lk,hcd⟩:=F.ex
 exact .all (h kV doc pm an cdv ct)
theorem fun_mk {x qual:Str} {st:Stmt} {f:Addr} {oc:Value} {od an:Option Addr} {osl:Array (Option Value)} {kV doc pm cdv ct:Value} (l:K.lookup f=some ⟨oc,od,.func (PySem.W.fnOf x qual (defArgs st) (defBody st) (defScope st) .none kV doc pm an cdv ct),osl⟩)
  (c:PySem.W.codeIn K cdv qual=true) (k:PySem.W.keepIn K (.ref f)=true):Fun K x qual st f (PySem.W.fnOf x qual (defArgs st) (defBody st) (defScope st) .none kV doc pm an cdv ct):=⟨⟨oc,od,kV,doc,pm,an,cdv,ct,osl,rfl,l,c⟩,k⟩
end
theorem hu_of {A:Around} {k:Nat} (hr:Room k A):A.units + 1 < cLine:=qH (Nat.add_le_add_left (by decide:1≤64) _) hr.units
theorem small1000 {n:Nat} (h:n≤1000):n < sizeLine:=qH h (by decide)
section
variable {X:Cx}
theorem pv (i:Nat) {x:Str} {pos:Pos} (hN:X.N[i]?=some x:=by rfl) (hv:Vis X.env.scope x:=by first|exact Or.inl rfl|exact Or.inr (Or.inl rfl)|exact Or.inr (Or.inr rfl)) (hd:(x == ("__debug__":Str))=false:=by decide)
  (hcd:(x == ("__classdict__":Str))=false:=by decide):PE X (.Name x pos) (tVar i):=pe_var hN hv hd hcd
end
theorem iteF {A B:Prop} (h:B):if false=true then A else B:=by
 rw[if_neg zV]
 exact h
theorem iteT {A B:Prop} (h:A):if true=true then A else B:=by
 rw[if_pos rfl]
 exact h
theorem ite2 {c A B:Prop} [Decidable c] (h1:c→A) (h2:¬ c→B):if c then A else B:=by
 by_cases h:c
 ·rw[if_pos h]
  exact h1 h
 ·rw[if_neg h]
  exact h2 h
def Same (H H':Hp):Prop:=∀ b o,H b=some o→H' b=some o
theorem Same.refl (H:Hp):Same H H:=fun _ _ h=>h
theorem Same.trans {H H1 H2:Hp} (a:Same H H1) (b:Same H1 H2):Same H H2:=fun c o h=>b c o (a c o h)
theorem Same.free {H H':Hp} (e:Same H H') {l:Addr} (h:H' l=Option.none):H l=Option.none:=by
 cases q:H l with
 | none=>rfl
 | some o =>
  rw[e l o q] at h
  cases h
theorem Same.seq {K:PySem.W.Frag} {H H':Hp} {a:Addr} {xs:List V} (e:Same H H') (h:SqL K H a xs):SqL K H' a xs:=by
 rcases h with (h|⟨o,h⟩)|h
 ·exact .inl (.inl (e _ _ h))
 ·exact .inl (.inr ⟨o,e _ _ h⟩)
 ·exact .inr h
end L2
namespace L2
open PySem PySem.Spec PyProof.Rows
section
variable {X:Cx}
end
section
variable {κ:Type} [DecidableEq κ]
end
end L2
namespace L2
open PySem PySem.Spec PyProof.Rows
theorem iteB {c:Bool} {A B:Prop} (h1:c=true→A) (h2:c=false→B):if c=true then A else B:=by
 cases c with
 | true=>exact iteT (h1 rfl)
 | false=>exact iteF (h2 rfl)
mutual
inductive Dt (K:PySem.W.Frag) (H:Hp):Nat→V→PyData→Prop
 | non (n:Nat):Dt K H n .non .none
 | bl (n:Nat) (b:Bool):Dt K H n (.bl b) (.bool b)
 | int (n:Nat) (i:Int):Dt K H n (.int i) (.int i)
 | str (n:Nat) (x:Str) (h:PyData.canLay0 (.str x)=true):Dt K H n (.str x) (.str x)
 | lst {n:Nat} {a:Addr} {xs:List V} {ds:List PyData} (h:SqL K H a xs) (r:DtAll K H n xs ds):Dt K H (n + 1) (.ref a) (.list ds)
 | tup {n:Nat} {a:Addr} {xs:List V} {ds:List PyData} (h:SqT K H a xs) (r:DtAll K H n xs ds):Dt K H (n + 1) (.ref a) (.tuple ds)
inductive DtAll (K:PySem.W.Frag) (H:Hp):Nat→List V→List PyData→Prop
 | nil (n:Nat):DtAll K H n [] []
 | cons {n:Nat} {x:V} {d:PyData} {xs:List V} {ds:List PyData} (h:Dt K H n x d) (r:DtAll K H n xs ds):DtAll K H n (x::xs) (d::ds)
end
mutual
theorem Dt.reads {X:Cx} {pins:List (Addr × Obj)} {σ:St} {H:Hp} {s:Shared} (I:Inv X pins σ H s):∀ {n:Nat} {x:V} {d:PyData} {u:Value},Dt X.K H n x d→RelV x u→(∃ as,Reads s.heap u d as)∧d.canLay0=true∧d.depth≤n
 | _,_,_,_,.non n,r=>by cases r; exact⟨⟨_,.none⟩,rfl,by simp [PyData.depth]⟩
 | _,_,_,_,.bl n b,r=>by cases r; exact⟨⟨_,.bool b⟩,rfl,by simp [PyData.depth]⟩
 | _,_,_,_,.int n i,r=>by obtain⟨t,rfl⟩:=r; exact⟨⟨_,.int i t⟩,rfl,by simp [PyData.depth]⟩
 | _,_,_,_,.str n x h,r=>by obtain⟨t,rfl⟩:=r; exact⟨⟨_,.str x t⟩,h,by simp [PyData.depth]⟩
 | _,_,_,_,.lst h ra,r=>by
  cases r
  obtain⟨its,rv,pl,_⟩:=I.list h
  obtain⟨⟨as,q⟩,c,dp⟩:=DtAll.reads I ra rv
  obtain⟨o,ho,hc,k,hd⟩:=pl.isList
  exact⟨⟨_,.list ho hc hd (by simpa using q)⟩,c,by simp only [PyData.depth]; omega⟩
 | _,_,_,_,.tup h ra,r=>by
  cases r
  obtain⟨its,rv,pl,_⟩:=I.tuple h
  obtain⟨⟨as,q⟩,c,dp⟩:=DtAll.reads I ra rv
  obtain⟨o,ho,hc,k,hd⟩:=pl
  exact⟨⟨_,.tuple ho hc hd (by simpa using q)⟩,c,by simp only [PyData.depth]; omega⟩
theorem DtAll.reads {X:Cx} {pins:List (Addr × Obj)} {σ:St} {H:Hp} {s:Shared} (I:Inv X pins σ H s):∀ {n:Nat} {xs:List V} {ds:List PyData} {us:List Value},DtAll X.K H n xs ds→Vals xs us →
  (∃ as,ReadsAll s.heap us ds as)∧PyData.canLayAll0 ds=true∧PyData.depthAll ds≤n
 | _,_,_,_,.nil n,r=>by cases r; exact⟨⟨_,.nil⟩,rfl,by simp [PyData.depthAll]⟩
 | _,_,_,_,.cons h ra,r=>by
  cases r with
  | cons r1 r2 =>
   obtain⟨⟨as,q⟩,c,dp⟩:=Dt.reads I h r1
   obtain⟨⟨bs,q2⟩,c2,dp2⟩:=DtAll.reads I ra r2
   exact⟨⟨_,.cons q q2⟩,by simp [PyData.canLayAll0,c,c2],by simp only [PyData.depthAll]; omega⟩
end
section
variable {X:Cx}
inductive rEqD (K:PySem.W.Frag) (x:V) (y:V) (H:Hp) (Q:VK):Prop where
 | mk (d e n:_) (h_0:Dt K H n x d) (h_1:Dt K H n y e) (h_2:n≤64) (h_3:Q (.bl (PyData.eqv d e)) H):rEqD K x y H Q
inductive rNeD (K:PySem.W.Frag) (x:V) (y:V) (H:Hp) (Q:VK):Prop where
 | mk (d e n:_) (h_0:Dt K H n x d) (h_1:Dt K H n y e) (h_2:n≤64) (h_3:Q (.bl (!PyData.eqv d e)) H):rNeD K x y H Q
theorem op_eqD (hu:X.A.units + 64 < cLine):OpR X (compareOp .Eq) (rEqD X.K):=by
 intro pins s σ H x y v u Q I rx ry h
 obtain⟨d,e,n,hd,he,hn,q⟩:=h
 obtain⟨⟨as,ra⟩,ca,da⟩:=hd.reads I rx
 obtain⟨⟨bs,rb⟩,cb,db⟩:=he.reads I ry
 exact SeqAt.compareEq_reads ra rb ca cb (by omega) ⟨.bl _,H,I,rfl,q⟩
theorem op_neD (hu:X.A.units + 64 < cLine):OpR X (compareOp .NotEq) (rNeD X.K):=by
 intro pins s σ H x y v u Q I rx ry h
 obtain⟨d,e,n,hd,he,hn,q⟩:=h
 obtain⟨⟨as,ra⟩,ca,da⟩:=hd.reads I rx
 obtain⟨⟨bs,rb⟩,cb,db⟩:=he.reads I ry
 exact SeqAt.rcNeAt_reads ra rb ca cb (by omega) X.prog X.w X.xe _ ⟨.bl _,H,I,rfl,q⟩
structure ClsM (K:PySem.W.Frag) (C:Addr) (m:Str) (f:Addr):Prop where
 ga:PySem.W.specialIn K (.ref C) "__getattribute__"=some (some (.builtin "type.__getattribute__"))
 mc:∃ mc,PySem.W.readsIn K C mc=true∧PySem.W.findCls K (.ref C) mc m=some (.val (.ref f))
 kp:PySem.W.keepIn K (.ref f)=true
theorem pe_clsm {CX:CXT} {k:Nat} {f C:Addr} {fd:FuncData} {ps:List Str} {sp:Sp} {dvs:List V} {ds:List Value} {E:XK} {x m:Str} {p pos apos:Pos} {e:Expr} {es:List Expr} {t:TA} {pl:Sem Bool}
  (hg:Gl X x) (hm:X.mg x=some (.ref C)) (c:ClsM X.K C m f) (F:FnOk X.prog X.w X.K X.mg X.base CX k f fd ps sp) (hr:Room k X.A) (hb:Binds X.K fd ps ds) (hd:Vals dvs ds) (hx:Passes CX X E) (ha:PA X (e::es) t)
  (hdb:(x == ("__debug__":Str))=false:=by decide) (hst:starEach (e::es) X.env=(false,eval e X.env)::starEach es X.env:=by rfl) (hpl:(backTo pos (starEach es X.env)).any (·.1)=false:=by rfl)
  (ht:eval (.Call (.Attribute (.Name x p) m apos) (e::es) [] pos) X.env=(do
   let ov ← eval (.Name x p) X.env
   standAt apos.atName
   let (f,first) ← holding [ov] (getMethod ov m pl)
   callWith pos f first (backTo pos (starEach (e::es) X.env)) (backToKw pos (keywordEach [] X.env))):=by rfl) :
  PE X (.Call (.Attribute (.Name x p) m apos) (e::es) [] pos) (tCall sp dvs E t):=by
 intro pins s σ H Q I h
 refine PySem.W.methodCall_KW (pl:=pl) (ld_glob I hg hm ?_ hdb) ht
 obtain⟨mc,h1,h2⟩:=c.mc
 refine PySem.W.method_cls I.kIn c.ga (PySem.W.cls_value I.kIn h1 h2 rfl ?_)
 have I1:Inv X pins σ H { s with toks:=s.toks + 1 }:=I.tok _
 refine PySem.W.callWith_K (first:=[]) (h₀:=X.base) I.ok.mod.kin c.kp (thn (ha pos pins _ σ H _ I1 h) fun us s2 ⟨vs,H2,I2,r,q2⟩=>⟨I2.kIn,?_⟩) hst hpl
 exact run_fn (us:=us) (vs:=vs) F hr hb hd hx I2 r q2
end
end L2
namespace L2
open PySem PySem.Spec PyProof.Rows
theorem bt_len:bootBuiltins "len"=some (.builtin "len"):=by decide +kernel
theorem bt_tuple:bootBuiltins "tuple"=some (.type "tuple"):=by decide +kernel
theorem bt_int:bootBuiltins "int"=some (.type "int"):=by decide +kernel
theorem bt_min:bootBuiltins "min"=some (.builtin "min"):=by decide +kernel
theorem bt_any:bootBuiltins "any"=some (.builtin "any"):=by decide +kernel
theorem bt_sorted:bootBuiltins "sorted"=some (.builtin "sorted"):=by decide +kernel
structure FnAt (P:Program) (w:World) (K:PySem.W.Frag) (mg:Str→Option Value) (base:Heap) (k:Nat) (x:Str) (ps:List Str) (sp:Sp):Prop where
 ex:∃(f:Addr) (fd:FuncData),FnOk P w K mg base CX0 k f fd ps sp∧mg x=some (.ref f)∧PySem.W.keepIn K (.ref f)=true∧Binds K fd ps []
structure MethAt (P:Program) (w:World) (K:PySem.W.Frag) (mg:Str→Option Value) (base:Heap) (k:Nat) (C:Addr) (m:Str) (ps:List Str) (sp:Sp):Prop where
 ex:∃(f:Addr) (fd:FuncData),FnOk P w K mg base CX0 k f fd ps sp∧Meth K C m f∧Binds K fd ps []
 cls:Cls K C
structure MkAt (P:Program) (w:World) (K:PySem.W.Frag) (mg:Str→Option Value) (base:Heap) (k:Nat) (x:Str) (C:Addr) (ps:List Str) (sp:Sp):Prop where
 ex:∃(f:Addr) (fd:FuncData),FnOk P w K mg base CX0 k f fd ps sp∧Mk K C f∧Binds K fd ps []
 mg:mg x=some (.ref C)
structure ClsAt (P:Program) (w:World) (K:PySem.W.Frag) (mg:Str→Option Value) (base:Heap) (k:Nat) (C:Addr) (m:Str) (ps:List Str) (sp:Sp):Prop where
 ex:∃(f:Addr) (fd:FuncData),FnOk P w K mg base CX0 k f fd ps sp∧ClsM K C m f∧Binds K fd ps []
section
variable {X:Cx} {k:Nat} {ps:List Str} {sp:Sp} {x m:Str} {C:Addr} {p pos apos:Pos} {e o:Expr} {es:List Expr} {t:TA} {ta:TE}
theorem pe_fn (G:FnAt X.prog X.w X.K X.mg X.base k x ps sp) (hr:Room k X.A) (hg:Gl X x) (ha:PA X (e::es) t) (hdb:(x == ("__debug__":Str))=false:=by decide)
  (he:starEach (e::es) X.env=(false,eval e X.env)::starEach es X.env:=by rfl) (hpl:(backTo pos (starEach es X.env)).any (·.1)=false:=by rfl) :
  PE X (.Call (.Name x p) (e::es) [] pos) (tCall sp [] E0 t):=by
 obtain⟨f,fd,F,hm,hk,hb⟩:=G.ex
 exact pe_call F hr hg hm hk hb .nil pass0 ha hdb he hpl
theorem pe_mth {pl:Sem Bool} (G:MethAt X.prog X.w X.K X.mg X.base k C m ps sp) (hr:Room k X.A) (he:PE X o ta) (ha:PA X (e::es) t)
  (hst:starEach (e::es) X.env=(false,eval e X.env)::starEach es X.env:=by rfl) (hpl:(backTo pos (starEach es X.env)).any (·.1)=false:=by rfl)
  (ht:eval (.Call (.Attribute o m apos) (e::es) [] pos) X.env=(do
   let ov ← eval o X.env
   standAt apos.atName
   let (f,first) ← holding [ov] (getMethod ov m pl)
   callWith pos f first (backTo pos (starEach (e::es) X.env)) (backToKw pos (keywordEach [] X.env))):=by rfl) :
  PE X (.Call (.Attribute o m apos) (e::es) [] pos) (tMeth C m sp [] E0 ta t):=by
 obtain⟨f,fd,F,hm,hb⟩:=G.ex
 exact pe_meth (pl:=pl) he G.cls hm F hr hb .nil pass0 ha hst hpl ht
theorem pe_mk (M:MkAt X.prog X.w X.K X.mg X.base k x C ps sp) (hr:Room (k + 1) X.A) (hg:Gl X x) (ha:PA X (e::es) t) (hdb:(x == ("__debug__":Str))=false:=by decide)
  (he:starEach (e::es) X.env=(false,eval e X.env)::starEach es X.env:=by rfl) (hpl:(backTo pos (starEach es X.env)).any (·.1)=false:=by rfl) :
  PE X (.Call (.Name x p) (e::es) [] pos) (tMake C sp [] E0 t):=by
 obtain⟨f,fd,F,hm,hb⟩:=M.ex
 exact pe_make hm F hr hg M.mg hb .nil pass0 ha hdb he hpl
theorem pe_clsm' {pl:Sem Bool} (hg:Gl X x) (hm:X.mg x=some (.ref C)) (G:ClsAt X.prog X.w X.K X.mg X.base k C m ps sp) (hr:Room k X.A) (ha:PA X (e::es) t)
  (hdb:(x == ("__debug__":Str))=false:=by decide) (hst:starEach (e::es) X.env=(false,eval e X.env)::starEach es X.env:=by rfl) (hpl:(backTo pos (starEach es X.env)).any (·.1)=false:=by rfl)
  (ht:eval (.Call (.Attribute (.Name x p) m apos) (e::es) [] pos) X.env=(do
   let ov ← eval (.Name x p) X.env
   standAt apos.atName
   let (f,first) ← holding [ov] (getMethod ov m pl)
   callWith pos f first (backTo pos (starEach (e::es) X.env)) (backToKw pos (keywordEach [] X.env))):=by rfl) :
  PE X (.Call (.Attribute (.Name x p) m apos) (e::es) [] pos) (tCall sp [] E0 t):=by
 obtain⟨f,fd,F,c,hb⟩:=G.ex
 exact pe_clsm (pl:=pl) hg hm c F hr hb .nil pass0 ha hdb hst hpl ht
end
def Keep (L:List Addr) (H H':Hp):Prop:=∀ b o,H b=some o→b ∉ L→H' b=some o
theorem Same.upd {H H':Hp} {p:Addr} {o:HO} (h:Same H H') (n:H p=none):Same H (upd H' p o):=fun b u e=>by
 rw[upd_ne (ne_of_none e n)]
 exact h b u e
theorem Same.new {H:Hp} {p:Addr} {o:HO} (n:H p=none):Same H (L2.upd H p o):=(Same.refl H).upd n
theorem ints_get {ns:List Int} {i:Nat} {y:V} (h:(ns.map V.int)[i]?=some y):∃ z,y=V.int z∧ns[i]?=some z:=by
 rw[zJ] at h
 cases e:ns[i]? with
 | none=>rw[e] at h; cases h
 | some z=>rw[e] at h; exact⟨z,(Option.some.inj h).symm,rfl⟩
end L2
namespace L2
open PySem PySem.Spec PyProof.Rows
theorem ixT {K:PySem.W.Frag} {H:Hp} {p:Addr} {xs:List V} {i:Int} {v:V} {Q:VK} (h:H p=some (.tup xs)) (e:atI xs i=some v) (q:Q v H):rIxT K (.ref p) (.int i) H Q:=⟨p,xs,i,v,rfl,rfl,SqT.of h,e,q⟩
theorem tyL {K:PySem.W.Frag} {H:Hp} {p:Addr} {xs:List V} (h:H p=some (.lst xs)):tyV K "list" (.ref p) H:=.inl ⟨rfl,xs,SqL.of h⟩
theorem atI_map {α β:Type} {rs:List α} {f:α→β} {k:Int} {j:Nat} {r:α} (hk:k=(j:Int)) (h:rs[j]?=some r):atI (rs.map f) k=some (f r):=by
 rw[hk]
 exact atI_nat (by rw[zJ,h]; rfl)
theorem Keep.same {L:List Addr} {H H':Hp} (h:Same H H'):Keep L H H':=fun b o e _=>h b o e
theorem Keep.upd {L:List Addr} {H H':Hp} {a:Addr} {o:HO} (h:Keep L H H') (ha:a ∈ L):Keep L H (L2.upd H' a o):=fun b u e hb=>by
 rw[upd_ne (fun z=>hb (by rw[z]; exact ha))]
 exact h b u e hb
theorem Keep.new {L:List Addr} {H H':Hp} {a:Addr} {o:HO} (h:Keep L H H') (n:H a=none):Keep L H (L2.upd H' a o):=fun b u e hb=>by
 rw[upd_ne (ne_of_none e n)]
 exact h b u e hb
end L2
namespace L2
open PySem PySem.Spec PyProof.Rows
inductive Each {α:Type} (P:α→Prop):List α→Prop
 | nil:Each P []
 | cons {a:α} {l:List α}:P a→Each P l→Each P (a::l)
theorem Each.mem {α:Type} {P:α→Prop}:∀ {l:List α},Each P l→∀ a ∈ l,P a
 | _,.nil,_,h=>absurd h zW
 | _,.cons p r,a,h=>by
  rcases zT.mp h with e|e
  ·rw[e]; exact p
  ·exact r.mem a e
def Cx.comp (X:Cx) (scope:Scope) (cl:List (Str × Addr)) (C:Addr) (fp:List Addr) (N':List Str) (s2:Shared) (H2:Hp):Cx where
 prog:=X.prog
 w:=X.w
 K:=X.K
 mg:=X.mg
 base:=X.base
 A:=X.A
 N:=N'
 s₀:=s2
 H₀:=H2
 env:=compEnvC scope cl C X.env
 outer:=X.stack
 stack:=X.stack
 ex:=fp
 fn:=fun _=>false
 calm:=X.calm
 pn:=[]
 xe:=fun _ _=>False
structure CompOk (X:Cx) (scope:Scope) (cl:List (Str × Addr)) (own fr:List Str) (js:List Nat):Prop where
 kind:scope.kind=.function
 clos:closureFor scope X.env=pure cl
 nocell:∀ y ∈ scope.names,y.2 ≠ .cell
 names:∀ y ∈ scope.names,y.2=.local→scope.names.lookup y.1=some .local
 cells:Each (fun(p:Str × Addr)=>X.env.cells.lookup p.1=some p.2) cl
 has:Each (fun(p:Str × NameKind)=>((p.2 != .cell && p.2 != .free) || (cl.lookup p.1).isSome)=true) (relabel scope X.env).names
 fr:Paired (fun(x:Str) (j:Nat)=>X.N[j]?=some x∧(X.env.kindOf x=some .cell∨X.env.kindOf x=some .free)∧((relabel scope X.env).names.lookup x=some .cell∨(relabel scope X.env).names.lookup x=some .free)) fr js
 calm:X.calm=true
def blk (own:List Str) (js:List Nat) (σ:St):St:=own.map (fun _=>none)++js.map fun j=>(σ[j]?).join
theorem _root_.PySem.Paired.getL {α β:Type} {F:α→β→Prop}:∀ {l₁:List α} {l₂:List β} {i:Nat} {a:α},Paired F l₁ l₂→l₁[i]?=some a→∃ b,l₂[i]?=some b∧F a b
 | _,_,_,_,.nil,e=>by simp at e
 | _,_,0,_,.cons r _,e=>by simp at e; subst e; exact⟨_,rfl,r⟩
 | _,_,i + 1,a,.cons _ t,e=>by
  obtain⟨u,h1,h2⟩:=PySem.Paired.getL (i:=i) (a:=a) t (by simpa using e)
  exact⟨u,by simpa using h1,h2⟩
section
variable {X:Cx} {scope:Scope} {cl:List (Str × Addr)} {own fr:List Str} {js:List Nat} {pins:List (Addr × Obj)} {σ:St} {H:Hp} {s:Shared}
theorem CompOk.cell (c:CompOk X scope cl own fr js) {x:Str} {a:Addr} (h:cl.lookup x=some a):X.env.cells.lookup x=some a:=c.cells.mem _ (PySem.mem_of_lookup h)
theorem Inv.block (c:CompOk X scope cl own fr js) (I:Inv X pins σ H s) {fp:List Addr} (hf:∀ b ∈ fp,FpOk X pins H b∧b < s.heap.objs.size) {h':Heap} {C D:Addr} {m:Str→Option Value} {t':Nat}
  (k:∀ b o,s.heap.get? b=some o→h'.get? b=some o) (hC:s.heap.objs.size≤C) (hD:s.heap.objs.size≤D) (hDC:D ≠ C) (ns:h'.Ns C m) (hl:h'.get? D=some { cls:=.type "list",data:=.seq #[] }) :
  Inv (X.comp scope cl C fp (own++fr) s H) [] (blk own js σ) (upd H D (.lst [])) { s with heap:=h',toks:=t' }:=by
 have fC:H C=none:=I.hok.fresh hC
 have lt:∀ {b:Addr} {o:Obj},s.heap.get? b=some o→b < s.heap.objs.size:=fun e=>Heap.lt_size e
 have cne:∀ x a,cl.lookup x=some a→∃ v,s.heap.IsCell a v:=fun x a e=>I.cell x a (c.cell e)
 refine⟨⟨I.ok.mod,c.kind,I.ok.glob,I.ok.blt,hC,fun x y a h1 h2=>I.ok.inj x y a (c.cell h1) (c.cell h2),fun x hx=>?_,fun x a z=>(by cases z),I.ok.hd,I.ok.frames,.inl rfl,fun b hb=>⟨?_,fun x a e=>?_⟩,I.bs,yA I.ok.bsz I.sz,fun b o e hb=>?_,fun b hb hz=>?_,I.stack,I.stkFree⟩,
  rfl,I.bare,?_,⟨m,ns,fun i x v h1 h2 h3=>?_⟩,fun x a e=>?_,?_,fun x a e=>?_,fun p hp=>absurd (show p ∈ ([]:List (Addr × Obj)) from hp) zW,?_,?_⟩
 ·have hx':(relabel scope X.env).names.lookup x=some .cell∨(relabel scope X.env).names.lookup x=some .free:=hx
  have z:∀ kd,(relabel scope X.env).names.lookup x=some kd→(kd=.cell∨kd=.free)→∃ a,cl.lookup x=some a:=fun kd e1 e2=>by
   have q:=c.has.mem _ (PySem.mem_of_lookup e1)
   rcases e2 with e2|e2 <;> subst e2 <;> exact jR.mp q
  rcases hx' with h|h
  ·exact z _ h (.inl rfl)
  ·exact z _ h (.inr rfl)
 ·exact zY (zO (hf b hb).2 hC)
 ·exact(hf b hb).1.2.2.2.2.1 x a (c.cell e)
 ·rcases(hf b hb).1.2.2.2.1 with z|z
  ·exact I.ok.noex b o e z
  ·exact absurd (zO (Heap.lt_size e) (yA I.ok.bsz z)) (qN _)
 ·rcases zT.mp (I.stkSub b hz) with z|z
  ·exact(hf b hb).1.2.1 z
  ·exact(hf b hb).1.2.2.1 z
 ·exact Un.laid k hD (I.hok.fresh hD)
 ·-- the names that it shares
  have hi:own.length≤i:=by
   by_cases q:own.length≤i
   ·exact q
   ·unfold blk at h2
    rw[yU (by rw[zB]; omega),zJ] at h2
    cases e:own[i]? with
    | none=>rw[e] at h2; cases h2
    | some z=>rw[e] at h2; cases h2
  have h1':fr[i - own.length]?=some x:=by
   have q:(own++fr)[i]?=some x:=h1
   rw[yG hi] at q
   exact q
  obtain⟨j,hj,hN,hk,hr⟩:=c.fr.getL h1'
  have h2':σ[j]?=some (some v):=by
   unfold blk at h2
   rw[yG (by rw[zB]; exact hi),zB,zJ,hj] at h2
   have q:some ((σ[j]?).join)=some (some v):=h2
   have q':=Option.some.inj q
   cases e:σ[j]? with
   | none=>rw[e] at q'; cases q'
   | some z=>rw[e] at q'; rw[show z=some v from q']
  obtain⟨m0,hn0,hl0⟩:=I.loc
  obtain⟨u,r,l⟩:=hl0 j x v hN h2' (hk.elim (fun z=>.inr (.inl z)) fun z=>.inr (.inr z))
  refine⟨u,r,.inr ⟨hr,?_⟩⟩
  rcases l with ⟨hk',_⟩|⟨_,a,ea,ca⟩
  ·rcases hk with z|z <;> (rw[hk'] at z; cases z)
  ·have hx':∃ b,cl.lookup x=some b:=by
    have z:∀ kd,(relabel scope X.env).names.lookup x=some kd→(kd=.cell∨kd=.free)→∃ a,cl.lookup x=some a:=fun kd e1 e2=>by
     have q:=c.has.mem _ (PySem.mem_of_lookup e1)
     rcases e2 with e2|e2 <;> subst e2 <;> exact jR.mp q
    rcases hr with h|h
    ·exact z _ h (.inl rfl)
    ·exact z _ h (.inr rfl)
   obtain⟨b,eb⟩:=hx'
   have eab:=c.cell eb
   rw[ea] at eab
   cases eab
   obtain⟨o,ho,hd⟩:=ca
   exact⟨a,eb,o,k _ _ ho,hd⟩
 ·obtain⟨v,o,ho,hd⟩:=cne x a e
  exact⟨v,o,k _ _ ho,hd⟩
 ·show upd H D (.lst []) C=none
  rw[upd_ne hDC.symm]; exact fC
 ·obtain⟨v,o,ho,hd⟩:=cne x a e
  rw[upd_ne (zY (zO (lt ho) hD))]
  exact I.freeC x a (c.cell e)
 ·exact I.hok.laid k hD ⟨zZ _,[],0,.nil,hl⟩
 ·unfold blk
  show _=(own++fr).length
  have:=c.fr.length
  rw[zM,zM,zB,zB]
  omega
theorem Inv.unblock (I:Inv X pins σ H s) {fp:List Addr} (hf:∀ b ∈ fp,FpOk X pins H b) {N':List Str} {C:Addr} {pl:List (Addr × Obj)} {σ':St} {H':Hp} {s':Shared}
  (J:Inv (X.comp scope cl C fp N' s H) pl σ' H' s'):Inv X pins σ H' s' :=
 I.call' (ch:=fp) J.os J.base J.hok J.bare fun b hb=>⟨(hf b hb).2.2.2.1,(hf b hb).2.1,(hf b hb).2.2.2.2.1,(hf b hb).2.2.2.2.2⟩
end
def PTs (X:Cx) (ifs:List Expr) (t:TT):Prop :=
 ∀(pins:List (Addr × Obj)) (s:Shared) (σ:St) (H:Hp) (Q:Bool→Hp→Prop),Inv X pins σ H s→t σ H Q →
  wpAny (model X.prog X.w) X.A (forIn ifs true fun c r=>if r=true then do let ok ← isTrue c X.env (eval c X.env); pure (ForInStep.yield ok) else pure (ForInStep.yield r)) (TP X pins σ Q) X.xe s
def tTrue:TT:=fun _ H Q=>Q true H
theorem pts_nil {X:Cx}:PTs X [] tTrue:=fun _ _ _ H _ I h=>wpAny_tests_nil ⟨H,I,h⟩
theorem pts_one {X:Cx} {c:Expr} {t:TT} (h:PT X c t):PTs X [c] t:=fun pins s σ H Q I q=>wpAny_tests_one (h pins s σ H Q I q)
def CompW (J:It) (D:Addr) (σ0:St) (g:TG) (tc:TT) (te:TE) (H1:Hp) (Q:Hp→Prop):Prop :=
 ∃ W:Nat→Nat→Hp→Prop,(∃ m,W 0 m (upd H1 D (.lst [])))∧∀ i m H,W i m H →
  (J.stop i H∧Q H)∨(J.go i H∧∀ x H',J.yld i H x H'→g x σ0 H' fun σ2 H2=>tc σ2 H2 fun b H3 =>
   if b=true then te σ2 H3 fun y H4=>∃ ys,H4 D=some (.lst ys)∧ys.length < sizeLine∧∃ m',m' < m∧W (i + 1) m' (upd H4 D (.lst (ys++[y]))) else ∃ m',m' < m∧W (i + 1) m' H3)
section
variable {X:Cx} {elt iter tg:Expr} {ifs:List Expr} {scope:Scope} {cl:List (Str × Addr)} {own fr:List Str} {js:List Nat} {wi:TI} {g:TG} {tc:TT} {te:TE} {pos:Pos}
theorem comp_loop {pins:List (Addr × Obj)} {σ:St} {H1:Hp} {s1:Shared} {it:Addr} {fp:List Addr} {tn:Nat→Heap→Prop} {J:It} {C D:Addr} {h':Heap} {m:Str→Option Value} {t':Nat} {Q:Hp→Prop} {R:Result→Shared→Prop}
  (c:CompOk X scope cl own fr js) (I:Inv X pins σ H1 s1) (T:Turn X.prog X.w X.K tg J fp it tn) (st:tn 0 s1.heap) (hf:∀ b ∈ fp,FpOk X pins H1 b)
  (hg:PG (X.comp scope cl C fp (own++fr) s1 H1) tg g) (hc:PTs (X.comp scope cl C fp (own++fr) s1 H1) ifs tc) (he:PE (X.comp scope cl C fp (own++fr) s1 H1) elt te)
  (k:∀ b o,s1.heap.get? b=some o→h'.get? b=some o) (hC:s1.heap.objs.size≤C) (hD:s1.heap.objs.size≤D) (hDC:D ≠ C) (ns:h'.Ns C m) (hl:h'.get? D=some { cls:=.type "list",data:=.seq #[] })
  (q:CompW J D (blk own js σ) g tc te H1 Q)
  (fin:∀ H' s' m',Inv X pins σ H' s'→s'.heap.Ns C m'→H' C=none→Q H'→R (.ok .next) s') :
  codeAny (model X.prog X.w) X.A (.compLoop (.ListComp elt [⟨tg,iter,ifs,0⟩] scope pos) 0 (.ref it) (.ref D) (compEnvC scope cl C X.env)) R { s1 with heap:=h',toks:=t' }:=by
 have hf2:∀ b ∈ fp,FpOk X pins H1 b∧b < s1.heap.objs.size:=fun b hb=>by
  obtain⟨o,e,_⟩:=T.obj _ _ st b hb
  exact⟨hf b hb,Heap.lt_size e⟩
 have J0:Inv (X.comp scope cl C fp (own++fr) s1 H1) [] (blk own js σ) (upd H1 D (.lst [])) { s1 with heap:=h',toks:=t' }:=I.block c hf2 k hC hD hDC ns hl
 have fpN:∀ b ∈ fp,(upd H1 D (.lst [])) b=none:=fun b hb=>by
  rw[upd_ne (zY (zO (hf2 b hb).2 hD))]
  exact(hf b hb).1
 have st0:tn 0 h':=T.keep _ _ _ st fun b _ o e=>k b o e
 obtain⟨W,⟨m0,w0⟩,turn⟩:=q
 have stat:∀ {H':Hp},(∀ b ∈ fp,H' b=none)→∀ b ∈ fp,FpOk (X.comp scope cl C fp (own++fr) s1 H1) [] H' b:=fun hn b hb=>by
  refine⟨hn b hb,zY (zO (hf2 b hb).2 hC),fun z=>?_,.inl hb,fun x a e=>(hf b hb).2.2.2.2.1 x a (c.cell e),fun p hp=>absurd (show p ∈ ([]:List (Addr × Obj)) from hp) zW⟩
  rcases zT.mp (I.stkSub b z) with z|z
  ·exact(hf b hb).2.1 z
  ·exact(hf b hb).2.2.1 z
 refine codeAny_loop rfl (fun n s'=>∃ i H',Inv (X.comp scope cl C fp (own++fr) s1 H1) [] (blk own js σ) H' s'∧tn i s'.heap∧(∀ b ∈ fp,H' b=none)∧W i n H') ?_ m0 ⟨0,_,J0,st0,fpN,w0⟩
 rintro n s3 ⟨i,H3,I3,st3,fr3,w3⟩
 show wpAny _ X.A ((compTurn (.ListComp elt [⟨tg,iter,ifs,0⟩] scope pos) 0 (.ref it) (.ref D) (compEnvC scope cl C X.env)).onRaise (fun x=>do noteFrame x (compEnvC scope cl C X.env); theTreesLotGoes x)) _ _ s3
 refine wpAny_noted ?_
 rw[compTurn_list]
 have weak:∀ {α:Type} {tr:Sem α} {Q':α→Shared→Prop} {E':Value→Shared→Prop} {s':Shared},wpAny (model X.prog X.w) X.A tr Q' (fun _ _=>False) s'→wpAny (model X.prog X.w) X.A tr Q' E' s':=fun h=>wpAny_mono h (fun _ _ z=>z) fun _ _ z=>z.elim
 refine wpAny_bind (wpAny_standAt (wpAny_bind ?_))
 rcases turn i n H3 w3 with ⟨stop,qn⟩|⟨go,step⟩
 ·refine weak (thn (T.done (X.comp scope cl C fp (own++fr) s1 H1) rfl rfl rfl c.calm i [] s3 _ H3 _ I3 (stat fr3) st3 stop) fun r s4 ⟨hr,I4⟩=>?_)
  subst hr
  refine wpAny_pure ?_
  obtain⟨m',hn',_⟩:=I4.loc
  exact fin H3 s4 m' (I.unblock hf I4) hn' I4.free qn
 ·refine weak (thn (T.item (X.comp scope cl C fp (own++fr) s1 H1) rfl rfl rfl c.calm i [] s3 _ H3 _ I3 (stat fr3) st3 go) fun r s4 ⟨u,hr,h4⟩=>?_)
  subst hr
  refine wpAny_bind (weak (thn h4 fun _ s5 ⟨x,H5,I5,r5,y5,st5,fr5⟩=>?_))
  have I5':=I5.pinned (stat fr5) (T.obj _ _ st5)
  refine wpAny_bind (weak (thn (hg _ s5 _ H5 x u _ I5' r5 (step x H5 y5)) fun _ s6 ⟨σ6,H6,I6,q6⟩=>?_))
  have back:∀ {σ7:St} {H7:Hp} {s7:Shared} {m':Nat},Inv (X.comp scope cl C fp (own++fr) s1 H1) ([]++pinsAt fp s5.heap) σ7 H7 s7→m' < n→W (i + 1) m' H7→Inv (X.comp scope cl C fp (own++fr) s1 H1) [] (blk own js σ) H7 s7 →
    ∃ m,m < n∧∃ i H',Inv (X.comp scope cl C fp (own++fr) s1 H1) [] (blk own js σ) H' s7∧tn i s7.heap∧(∀ b ∈ fp,H' b=none)∧W i m H':=fun {σ7 H7 s7 m'} I7 hm w7 I8=>by
   refine⟨m',hm,i + 1,H7,I8,T.keep _ _ _ st5 fun b hb o e=>(I7.pin (b,o) (zU _ (zU _ (mem_pinsAt hb e)))).1,fun b hb=>?_,w7⟩
   obtain⟨o,e,d⟩:=T.obj _ _ st5 b hb
   exact(I7.pin (b,o) (zU _ (zU _ (mem_pinsAt hb e)))).2.1
  have anew:∀ {σ7:St} {H7:Hp} {s7:Shared} {pl:List (Addr × Obj)},Inv (X.comp scope cl C fp (own++fr) s1 H1) pl σ7 H7 s7→Inv (X.comp scope cl C fp (own++fr) s1 H1) [] (blk own js σ) H7 s7:=fun {σ7 H7 s7 pl} I7=>by
   have IX:=I.unblock hf I7
   obtain⟨m',hn',_⟩:=I7.loc
   obtain⟨mX,nX,lX⟩:=IX.loc
   refine⟨I7.ok,I7.os,I7.bare,I7.base,⟨m',hn',fun i x v h1 h2 h3=>?_⟩,I7.cell,I7.free,I7.freeC,fun p hp=>absurd (show p ∈ ([]:List (Addr × Obj)) from hp) zW,I7.hok,I3.len⟩
   have hi:own.length≤i:=by
    by_cases q:own.length≤i
    ·exact q
    ·unfold blk at h2
     rw[yU (by rw[zB]; omega),zJ] at h2
     cases e:own[i]? with
     | none=>rw[e] at h2; cases h2
     | some z=>rw[e] at h2; cases h2
   have h1':fr[i - own.length]?=some x:=by
    have q:(own++fr)[i]?=some x:=h1
    rw[yG hi] at q
    exact q
   obtain⟨j,hj,hN,hk,hr⟩:=c.fr.getL h1'
   have h2':σ[j]?=some (some v):=by
    unfold blk at h2
    rw[yG (by rw[zB]; exact hi),zB,zJ,hj] at h2
    have q:some ((σ[j]?).join)=some (some v):=h2
    have q':=Option.some.inj q
    cases e:σ[j]? with
    | none=>rw[e] at q'; cases q'
    | some z=>rw[e] at q'; rw[show z=some v from q']
   obtain⟨u,r,l⟩:=lX j x v hN h2' (hk.elim (fun z=>.inr (.inl z)) fun z=>.inr (.inr z))
   refine⟨u,r,.inr ⟨hr,?_⟩⟩
   rcases l with ⟨hk',_⟩|⟨_,a,ea,ca⟩
   ·rcases hk with z|z <;> (rw[hk'] at z; cases z)
   ·obtain⟨b,eb⟩:=I7.ok.has x hr
    have eab:=c.cell eb
    rw[ea] at eab
    cases eab
    exact⟨a,eb,ca⟩
  refine wpAny_bind (weak (thn (hc _ s6 σ6 H6 _ I6 q6) fun ok s7 ⟨H7,I7,q7⟩=>?_))
  cases ok with
  | false =>
   have q7':=(if_neg (by decide:¬ (false=true))).mp q7
   obtain⟨m',hm,w7⟩:=q7'
   exact wpAny_pure ⟨rfl,back I7 hm w7 (anew I7)⟩
  | true =>
   have q7':=(if_pos (rfl:true=true)).mp q7
   refine wpAny_bind (wpAny_bind (weak (thn (he _ s7 σ6 H7 _ I7 q7') fun y s8 ⟨v8,H8,I8,r8,ys,e8,z8,m',hm,w8⟩=>?_)))
   refine wpAny_bind (weak (thn (mt_append (X:=X.comp scope cl C fp (own++fr) s1 H1) _ s8 σ6 H8 (.ref D) [v8] (.ref D) [y] (fun _ H9=>H9=upd H8 D (.lst (ys++[v8]))) I8 rfl (.cons r8 .nil) ⟨D,ys,v8,rfl,rfl,e8,z8,rfl⟩) fun _ s9 ⟨_,H9,I9,_,e9⟩=>?_))
   subst e9
   exact wpAny_pure (wpAny_pure ⟨rfl,back I9 hm w8 (anew I9)⟩)
end
end L2
namespace L2
open PySem PySem.Spec PyProof.Rows
section
variable {X:Cx} {elt iter tg:Expr} {ifs:List Expr} {scope:Scope} {cl:List (Str × Addr)} {own fr:List Str} {js:List Nat} {wi:TI} {g:TG} {tc:TT} {te:TE} {pos:Pos}
def tComp (wi:TI) (own:List Str) (js:List Nat) (g:TG) (tc:TT) (te:TE):TE:=fun σ H Q=>wi σ H fun J H1=>∀ D,H1 D=none→CompW J D (blk own js σ) g tc te H1 fun H2=>Q (.ref D) H2
theorem pe_comp (c:CompOk X scope cl own fr js) (hi:PI X tg iter wi) (hg:∀ C fp s H,PG (X.comp scope cl C fp (own++fr) s H) tg g) (hc:∀ C fp s H,PTs (X.comp scope cl C fp (own++fr) s H) ifs tc)
  (he:∀ C fp s H,PE (X.comp scope cl C fp (own++fr) s H) elt te) (hs:∀ x,foldedSetIterable iter X.env x=pure x:=by intro _; rfl) :
  PE X (.ListComp elt [⟨tg,iter,ifs,0⟩] scope pos) (tComp wi own js g tc te):=by
 intro pins s σ H Q I h
 rw[eval_ListComp]
 refine wpAny_comprehension_free (use:=none) rfl hs c.clos c.kind c.names (thn (hi pins s σ H _ I h) fun v s1 h1=>thn h1 fun itv s2 h2=>?_)
 obtain⟨it,fp,tn,J,H2,rfl,I2,T,st2,f2,q⟩:=h2
 refine wpAny_newObj_type (wpAny_newFunctionEnv c.nocell (by intro y hy; simp at hy) (fun h₁ hns₁ hsb₁=>?_) c.kind)
 dsimp only at hns₁ hsb₁ ⊢
 generalize hH2:s2.heap.push { cls:=.type "list",dict:=none,data:=.seq ([]:List Value).toArray }=hp at hns₁ hsb₁ ⊢
 have hC:hp.objs.size=s2.heap.objs.size + 1:=by rw[← hH2,Heap.size_push]
 have hDC:s2.heap.objs.size ≠ hp.objs.size:=by rw[hC]; exact zY (jU _)
 have hCle:s2.heap.objs.size≤hp.objs.size:=by rw[hC]; exact qB _
 have old:∀ b o,s2.heap.get? b=some o→h₁.get? b=some o:=fun b o e=>hsb₁.extBut b o (by rw[hC]; exact zY (qP (Heap.lt_size e))) (Heap.get?_push_of_some _ (hH2 ▸ Heap.get?_push_of_some _ e))
 have hl:h₁.get? s2.heap.objs.size=some { cls:=.type "list",data:=.seq #[] }:=hsb₁.extBut _ _ hDC (Heap.get?_push_of_some _ (hH2 ▸ Heap.get?_push_size _ rfl))
 have loop:∀ t',codeAny (model X.prog X.w) X.A (.compLoop (.ListComp elt [⟨tg,iter,ifs,0⟩] scope pos) 0 (.ref it) (.ref s2.heap.objs.size) (compEnvC scope cl hp.objs.size X.env))
   (compPost (model X.prog X.w) X.A X.xe none (EP X pins σ Q) (.ref s2.heap.objs.size) hp.objs.size) { s2 with heap:=h₁,toks:=t' }:=fun t' =>
  comp_loop c I2 T st2 f2 (hg _ _ _ _) (hc _ _ _ _) (he _ _ _ _) old hCle (zG _) hDC hns₁ hl (q _ (I2.hok.fresh (zG _))) fun H' s' m' I' hn' hCn qn=>by
   refine⟨m',hn',fun h'' hs''=>⟨.ref s2.heap.objs.size,H',?_,rfl,qn⟩⟩
   obtain⟨f0,f1,_,f3,f4,f5⟩:=I2.fpOk hCle hCn
   exact I'.turned (t':=s'.toks) (fun b o hb e=>hs''.extBut b o hb e) f0 f1 f3 f4 f5
 have st1:tn 0 h₁:=T.keep _ _ _ st2 fun b _ o e=>old b o e
 exact codeAny_compStart_list (loop _) (T.self _ 0 _ _ _ st1 (loop _))
theorem ps_setC {i:Nat} {y:Str} {py spos:Pos} (hN:X.N.Nodup) (hiy:X.N[i]?=some y) (hx:Loc X.env.scope y)
  (hsw:swapsWith (.ListComp elt [⟨tg,iter,ifs,0⟩] scope pos) (some (.Name y py)) spos.line X.env=pure true)
  (c:CompOk X scope cl own fr js) (hi:PI X tg iter wi) (hg:∀ C fp s H,PG (X.comp scope cl C fp (own++fr) s H) tg g) (hc:∀ C fp s H,PTs (X.comp scope cl C fp (own++fr) s H) ifs tc)
  (he:∀ C fp s H,PE (X.comp scope cl C fp (own++fr) s H) elt te) (hs:∀ x,foldedSetIterable iter X.env x=pure x:=by intro _; rfl)
  (hfn:X.fn y=true∨X.env.scope.names.lookup y=some .local:=by first|exact .inl rfl|exact .inr rfl|assumption) :
  PS X (.Assign [.Name y py] (.ListComp elt [⟨tg,iter,ifs,0⟩] scope pos) spos) (tAsg (tComp wi own js g tc te) (gName i)):=by
 intro pins s σ H D I h
 rw[exec_Assign_Name_used _ _ _ _ hsw]
 refine wpAny_bind (wpAny_standAt (wpAny_bind ?_))
 show wpAny _ X.A (do let _ ← comprehension (.ListComp elt [⟨tg,iter,ifs,0⟩] scope pos) scope X.env _ (newList []) false (eval iter X.env) (some (assign (.Name y py) X.env))) _ _ s
 refine wpAny_bind (wpAny_mono (wpAny_comprehension_free (use:=some (assign (.Name y py) X.env)) (Q:=fun _ s'=>SP X pins D .next s') rfl hs c.clos c.kind c.names
  (thn (hi pins s σ H _ I h) fun v s1 h1=>thn h1 fun itv s2 h2=>?_)) (fun _ s' hq=>wpAny_pure (wpAny_pure hq)) fun _ _ e=>e)
 obtain⟨it,fp,tn,J,H2,rfl,I2,T,st2,f2,q⟩:=h2
 refine wpAny_newObj_type (wpAny_newFunctionEnv c.nocell (by intro y hy; simp at hy) (fun h₁ hns₁ hsb₁=>?_) c.kind)
 dsimp only at hns₁ hsb₁ ⊢
 generalize hH2:s2.heap.push { cls:=.type "list",dict:=none,data:=.seq ([]:List Value).toArray }=hp at hns₁ hsb₁ ⊢
 have hC:hp.objs.size=s2.heap.objs.size + 1:=by rw[← hH2,Heap.size_push]
 have hDC:s2.heap.objs.size ≠ hp.objs.size:=by rw[hC]; exact zY (jU _)
 have hCle:s2.heap.objs.size≤hp.objs.size:=by rw[hC]; exact qB _
 have old:∀ b o,s2.heap.get? b=some o→h₁.get? b=some o:=fun b o e=>hsb₁.extBut b o (by rw[hC]; exact zY (qP (Heap.lt_size e))) (Heap.get?_push_of_some _ (hH2 ▸ Heap.get?_push_of_some _ e))
 have hl:h₁.get? s2.heap.objs.size=some { cls:=.type "list",data:=.seq #[] }:=hsb₁.extBut _ _ hDC (Heap.get?_push_of_some _ (hH2 ▸ Heap.get?_push_size _ rfl))
 have loop:∀ t',codeAny (model X.prog X.w) X.A (.compLoop (.ListComp elt [⟨tg,iter,ifs,0⟩] scope pos) 0 (.ref it) (.ref s2.heap.objs.size) (compEnvC scope cl hp.objs.size X.env))
   (compPost (model X.prog X.w) X.A X.xe (some (assign (.Name y py) X.env)) (fun _ s'=>SP X pins D .next s') (.ref s2.heap.objs.size) hp.objs.size) { s2 with heap:=h₁,toks:=t' }:=fun t' =>
  comp_loop c I2 T st2 f2 (hg _ _ _ _) (hc _ _ _ _) (he _ _ _ _) old hCle (zG _) hDC hns₁ hl (q _ (I2.hok.fresh (zG _))) fun H' s' m' I' hn' hCn qn=>by
   obtain⟨f0,f1,f2',f3,f4,f5⟩:=I2.fpOk hCle hCn
   obtain⟨oC,es,ep,eC,dC,rC⟩:=id hn'
   have I'':Inv X (pins++[(hp.objs.size,oC)]) σ H' s':=I'.pins_of fun p hpp=>(yE.mp hpp).elim (fun z=>I'.pin p (zU _ z)) fun z=>by
    rw[zR] at z
    subst z
    exact⟨eC,f0,f1,f2',fun v z=>by rw[dC] at z; cases z⟩
   show wpAny _ X.A (assign (.Name y py) X.env (.ref s2.heap.objs.size)) _ _ s'
   refine thn (pg_name (i:=i) hN hiy hx hfn _ s' σ H' (.ref s2.heap.objs.size) (.ref s2.heap.objs.size) _ I'' rfl qn) fun _ s7 ⟨σ7,H7,I7,q7⟩=>?_
   have p7:=I7.pin (hp.objs.size,oC) (zU _ (zU _ (yR _)))
   refine⟨m',⟨oC,es,ep,p7.1,dC,rC⟩,fun h'' hs''=>⟨σ7,H7,?_,q7⟩⟩
   exact I7.unpinned.turned (t':=s7.toks) (fun b o hb e=>hs''.extBut b o hb e) p7.2.1 f1 f3 f4 f5
 have st1:tn 0 h₁:=T.keep _ _ _ st2 fun b _ o e=>old b o e
 exact codeAny_compStart_list (loop _) (T.self _ 0 _ _ _ st1 (loop _))
end
section
variable {g:TG} {tc:TT} {te:TE} {D:Addr} {σ0:St} {H1:Hp} {Q:Hp→Prop}
theorem comp_list {K:PySem.W.Frag} {a:Addr} {xs:List V} (Pv:Nat→Hp→Prop) (h0:Pv 0 (upd H1 D (.lst []))) (hl:∀ i H,i≤xs.length→Pv i H→SqL K H a xs)
  (hs:∀ i x H (m:Nat) (W:Nat→Nat→Hp→Prop),xs[i]?=some x→Pv i H→(∀ H',Pv (i + 1) H'→∃ m',m' < m∧W (i + 1) m' H')→g x σ0 H fun σ2 H2=>tc σ2 H2 fun b H3 =>
   if b=true then te σ2 H3 fun y H4=>∃ ys,H4 D=some (.lst ys)∧ys.length < sizeLine∧∃ m',m' < m∧W (i + 1) m' (upd H4 D (.lst (ys++[y]))) else ∃ m',m' < m∧W (i + 1) m' H3)
  (hd:∀ H,Pv xs.length H→Q H):CompW (Itl K a) D σ0 g tc te H1 Q:=by
 refine⟨fun i m H=>m=xs.length - i∧i≤xs.length∧Pv i H,⟨xs.length,by simp,zZ _,h0⟩,?_⟩
 rintro i m H ⟨rfl,hi,p⟩
 have q:=hl i H hi p
 by_cases hlt:i < xs.length
 ·refine .inr ⟨⟨xs,xs[i],q,by simp [hlt]⟩,fun x H' y=>?_⟩
  obtain⟨e,y⟩:=y
  subst e
  exact hs i x _ (xs.length - i) (fun i m H=>m=xs.length - i∧i≤xs.length∧Pv i H) (y xs q) p fun H' p'=>⟨xs.length - (i + 1),by omega,rfl,hlt,p'⟩
 ·have e:i=xs.length:=by omega
  subst e
  exact .inl ⟨⟨xs,q,zG _⟩,hd H p⟩
theorem comp_tup {K:PySem.W.Frag} {a:Addr} {xs:List V} (Pv:Nat→Hp→Prop) (h0:Pv 0 (upd H1 D (.lst []))) (hl:∀ i H,i≤xs.length→Pv i H→SqT K H a xs)
  (hs:∀ i x H (m:Nat) (W:Nat→Nat→Hp→Prop),xs[i]?=some x→Pv i H→(∀ H',Pv (i + 1) H'→∃ m',m' < m∧W (i + 1) m' H')→g x σ0 H fun σ2 H2=>tc σ2 H2 fun b H3 =>
   if b=true then te σ2 H3 fun y H4=>∃ ys,H4 D=some (.lst ys)∧ys.length < sizeLine∧∃ m',m' < m∧W (i + 1) m' (upd H4 D (.lst (ys++[y]))) else ∃ m',m' < m∧W (i + 1) m' H3)
  (hd:∀ H,Pv xs.length H→Q H):CompW (Itt K a) D σ0 g tc te H1 Q:=by
 refine⟨fun i m H=>m=xs.length - i∧i≤xs.length∧Pv i H,⟨xs.length,by simp,zZ _,h0⟩,?_⟩
 rintro i m H ⟨rfl,hi,p⟩
 have q:=hl i H hi p
 by_cases hlt:i < xs.length
 ·refine .inr ⟨⟨xs,xs[i],q,by simp [hlt]⟩,fun x H' y=>?_⟩
  obtain⟨e,y⟩:=y
  subst e
  exact hs i x _ (xs.length - i) (fun i m H=>m=xs.length - i∧i≤xs.length∧Pv i H) (y xs q) p fun H' p'=>⟨xs.length - (i + 1),by omega,rfl,hlt,p'⟩
 ·have e:i=xs.length:=by omega
  subst e
  exact .inl ⟨⟨xs,q,zG _⟩,hd H p⟩
theorem comp_range {lo:Int} {n:Nat} (Pv:Nat→Hp→Prop) (h0:Pv 0 (upd H1 D (.lst [])))
  (hs:∀ i H (m:Nat) (W:Nat→Nat→Hp→Prop),i < n→Pv i H→(∀ H',Pv (i + 1) H'→∃ m',m' < m∧W (i + 1) m' H')→g (.int (lo + i)) σ0 H fun σ2 H2=>tc σ2 H2 fun b H3 =>
   if b=true then te σ2 H3 fun y H4=>∃ ys,H4 D=some (.lst ys)∧ys.length < sizeLine∧∃ m',m' < m∧W (i + 1) m' (upd H4 D (.lst (ys++[y]))) else ∃ m',m' < m∧W (i + 1) m' H3)
  (hd:∀ H,Pv n H→Q H):CompW (Itr lo n) D σ0 g tc te H1 Q:=by
 refine⟨fun i m H=>m=n - i∧i≤n∧Pv i H,⟨n,by simp,zZ _,h0⟩,?_⟩
 rintro i m H ⟨rfl,hi,p⟩
 by_cases hlt:i < n
 ·refine .inr ⟨hlt,fun x H' y=>?_⟩
  obtain⟨e,y⟩:=y
  subst e y
  exact hs i _ (n - i) (fun i m H=>m=n - i∧i≤n∧Pv i H) hlt p fun H' p'=>⟨n - (i + 1),by omega,rfl,hlt,p'⟩
 ·have e:i=n:=by omega
  subst e
  exact .inl ⟨zG _,hd H p⟩
end
end L2
namespace L2
open PySem PySem.Spec PyProof.Rows
theorem bt_enumerate:bootBuiltins "enumerate"=some (.type "enumerate"):=by decide +kernel
def Ite (K:PySem.W.Frag) (a:Addr):It :=
 ⟨fun i H=>∃ xs x,SqL K H a xs∧xs[i]?=some x,fun i H x H'=>∃ p v,x=.ref p∧H p=none∧(∀ xs,SqL K H a xs→xs[i]?=some v)∧H'=upd H p (.tup [.int i,v]),fun i H=>∃ xs,SqL K H a xs∧xs.length≤i⟩
theorem turn_enum {P:Program} {w:World} {K:PySem.W.Frag} {elts:List Expr} {x1:Nat} {tpos:Pos} (a e it:Addr) (hne:e ≠ it) :
  Turn P w K (.Tuple elts x1 tpos) (Ite K a) [e,it] e (fun i h=>∃ old,IsEnum h e it i old∧h.IsListIter it a i) where
 mem:=by simp
 obj:=fun i h st b hb=>by
  obtain⟨old,h1,h2⟩:=st
  rcases zT.mp hb with r|r
  ·subst r
   exact⟨_,h1,fun v z=>by cases z⟩
  ·have r:=zR.mp r
   subst r
   obtain⟨o,e2,c,d⟩:=h2
   exact⟨o,e2,fun v z=>by rw[d] at z; cases z⟩
 keep:=fun i h h' st k=>by
  obtain⟨old,h1,h2⟩:=st
  exact⟨old,k e (by simp) _ h1,h2.at fun o q=>k it (by simp) o q⟩
 item:=by
  intro X hP hw hK hc i pins s σ H E I hf st hg
  subst hP hw hK
  obtain⟨xs,x,hq,hx⟩:=hg
  obtain⟨its,rv,p,hz⟩:=I.list hq
  obtain⟨u,hu,ru⟩:=rv.get hx
  obtain⟨old,h1,h2⟩:=st
  have fe:=hf e (by simp)
  have fi:=hf it (by simp)
  refine wpAny_pyNext_enum_item h1 h2 p.isList (x:=u) (by simpa using hu) hne fun h' out it' tup sz k=>?_
  refine⟨_,rfl,wpAny_letOwnedTupleGo_enum out fun h'' en sb=>?_⟩
  have np:H s.heap.objs.size=none:=I.hok.fresh (zG _)
  have lt:∀ {b:Addr} {o:Obj},s.heap.get? b=some o→b ≠ s.heap.objs.size:=fun q=>zY (Heap.lt_size q)
  have kk:∀ b o,b ≠ e→b ≠ it→s.heap.get? b=some o→h''.get? b=some o:=fun b o n1 n2 q=>sb.extBut b o n1 (k b o n1 n2 q)
  have pe:s.heap.objs.size ≠ e:=Ne.symm (lt h1)
  have pit:s.heap.objs.size ≠ it:=by
   obtain⟨o,e2,_⟩:=h2
   exact Ne.symm (lt e2)
  have tup2:h''.get? s.heap.objs.size=some { cls:=.type "tuple",data:=.seq #[.int i s.toks,u] }:=sb.extBut _ _ pe tup
  have it2:h''.IsListIter it a (i + 1):=it'.at fun o q=>sb.extBut it o (Ne.symm hne) q
  have nch:∀ {b:Addr},b ∉ [e,it]→b ≠ e∧b ≠ it:=fun hb=>⟨fun z=>hb (by simp [z]),fun z=>hb (by simp [z])⟩
  have trk:∀ {b:Addr} {o:HO},H b=some o→b ≠ e∧b ≠ it:=fun q=>⟨fun z=>(by rw[z,fe.1] at q; cases q),fun z=>(by rw[z,fi.1] at q; cases q)⟩
  have I1:Inv X pins σ (upd H s.heap.objs.size (.tup [.int i,x])) { s with heap:=h'',toks:=s.toks + 1 }:=by
   refine I.step (g':=s.gens) (d':=s.drawn) (ch:=[e,it]) (fun b hb=>?_) (fun b o _ _ hcc q _=>kk b o (nch hcc).1 (nch hcc).2 q) (fun b o _ _ hcc q _=>⟨o.slots,kk b o (nch hcc).1 (nch hcc).2 q⟩)
    (fun b o _ q n=>by rw[upd_ne (lt q)]; exact n) (fun b o hcc q=>⟨o,kk b o (nch hcc).1 (nch hcc).2 q⟩) (fun b ys q=>by rw[upd_ne (ne_of_none q np)]; exact q) (fun b o y q=>by rw[upd_ne (ne_of_none q np)]; exact q)
    (fun b ps q=>⟨#[],by rw[upd_ne (ne_of_none q np),q]; simp⟩) (fun m hm=>?_) (fun b o q=>?_) I.bare
   ·rcases zT.mp hb with r|r
    ·rw[r]; exact⟨fe.2.2.2.1,fe.2.1,fe.2.2.2.2.1,fe.2.2.2.2.2⟩
    ·rw[zR.mp r]; exact⟨fi.2.2.2.1,fi.2.1,fi.2.2.2.2.1,fi.2.2.2.2.2⟩
   ·obtain⟨o,es,ep,ho,r⟩:=hm
    exact⟨o,es,ep,kk _ o (Ne.symm fe.2.1) (Ne.symm fi.2.1) ho,r⟩
   ·by_cases hb:b=s.heap.objs.size
    ·subst hb
     rw[upd_same] at q
     cases q
     exact⟨(by show 2≤sizeLine; decide),[.int i s.toks,u],.cons ⟨_,rfl⟩ (.cons ru .nil),⟨_,tup2,rfl,_,rfl⟩⟩
    ·rw[upd_ne hb] at q
     refine(I.hok b o q).stay (fun c v hcc z=>?_) (fun c z=>by rw[upd_ne (ne_of_none z np)]; exact z) fun c ys z=>by rw[upd_ne (ne_of_none z np)]; exact z
     rcases hcc with r|r
     ·rw[r] at z ⊢; exact kk _ _ (trk q).1 (trk q).2 z
     ·exact kk _ _ (trk r).1 (trk r).2 z
  have en2:IsEnum h'' e it ((i + 1:Nat):Int) u:=en
  refine⟨.ref s.heap.objs.size,_,I1,rfl,⟨_,x,rfl,np,fun ys hy=>by rw[I.list_inj hy hq]; exact hx,rfl⟩,⟨u,en2,it2⟩,fun b hb=>?_⟩
  rcases zT.mp hb with r|r
  ·rw[r,upd_ne pe.symm]; exact fe.1
  ·rw[zR.mp r,upd_ne pit.symm]; exact fi.1
 done:=by
  intro X hP hw hK hc i pins s σ H E I hf st hg
  subst hP hw hK
  obtain⟨xs,hq,hx⟩:=hg
  obtain⟨its,rv,p,hz⟩:=I.list hq
  obtain⟨old,h1,h2⟩:=st
  obtain⟨f0,f1,f2,f3,f4,f5⟩:=hf it (by simp)
  have hl:=rv.length
  exact wpAny_pyNext_enum_end (I.ok.hd hc) h1 h2 p.isList (by simp; omega) fun h' eb=>⟨rfl,I.turned (t':=s.toks) (fun b o hb q=>eb b o hb q) f0 f1 f3 f4 f5⟩
 self:=fun _ _ _ _ _ st h=>by
  obtain⟨old,h1,_⟩:=st
  exact wpAny_pyIter_enum h1 h
section
variable {X:Cx}
inductive iEnum_ (K:PySem.W.Frag) (R:It→Hp→Prop) (vs:List V) (H1:Hp):Prop where
 | mk (a:_) (h_0:vs=[.ref a]) (h_1:(∃ xs,SqL K H1 a xs)) (h_2:R (Ite K a) H1):iEnum_ K R vs H1
def iEnum (K:PySem.W.Frag) (ta:TA):TI:=fun σ H R=>ta σ H fun vs H1=>iEnum_ K R vs H1
theorem pi_enum {l:Expr} {ta:TA} {p pos:Pos} {elts:List Expr} {x1:Nat} {tpos:Pos} (hg:Gl X "enumerate") (hm:X.mg "enumerate"=none) (ha:PA X [l] ta) (hs:starEach [l] X.env=[(false,eval l X.env)]:=by rfl) :
  PI X (.Tuple elts x1 tpos) (.Call (.Name "enumerate" p) [l] [] pos) (iEnum X.K ta):=by
 intro pins s σ H R I h
 refine Call_ (ld_blt I hg hm bt_enumerate (PyProof.Rows.callWith_type1 (thn (ha pos pins s σ H _ I h) fun us s1 ⟨vs,H1,I1,r1,q1⟩=>?_) hs rfl))
 obtain⟨a,rfl,⟨xs,hq⟩,q⟩:=q1
 obtain⟨u,rfl,ru⟩:=vals1 r1
 cases ru
 obtain⟨its,rv,pl,hz⟩:=I1.list hq
 refine call_enumerate_list pl.isList fun h' en it sz k=>?_
 refine wpAny_pyIter_enum en ?_
 have I2:Inv X pins σ H1 { s1 with heap:=h' }:=I1.kept (t':=s1.toks) k
 refine⟨s1.heap.objs.size + 1,[s1.heap.objs.size + 1,s1.heap.objs.size],_,_,H1,rfl,I2,turn_enum a _ _ (Nat.succ_ne_self _),⟨_,en,it⟩,fun b hb=>?_,q⟩
 rcases zT.mp hb with r|r
 ·rw[r]; exact I1.fpOk (qB _) (I1.hok.fresh (qB _))
 ·rw[zR.mp r]; exact I1.fpOk (zG _) (I1.hok.fresh (zG _))
theorem comp_enum {K:PySem.W.Frag} {a:Addr} {xs:List V} {g:TG} {tc:TT} {te:TE} {D:Addr} {σ0:St} {H1:Hp} {Q:Hp→Prop} (Pv:Nat→Hp→Prop) (h0:Pv 0 (upd H1 D (.lst []))) (hl:∀ i H,i≤xs.length→Pv i H→SqL K H a xs)
  (hs:∀ i x H (m:Nat) (W:Nat→Nat→Hp→Prop),xs[i]?=some x→Pv i H→(∀ H',Pv (i + 1) H'→∃ m',m' < m∧W (i + 1) m' H')→∀ p,H p=none→g (.ref p) σ0 (upd H p (.tup [.int i,x])) fun σ2 H2=>tc σ2 H2 fun b H3 =>
   if b=true then te σ2 H3 fun y H4=>∃ ys,H4 D=some (.lst ys)∧ys.length < sizeLine∧∃ m',m' < m∧W (i + 1) m' (upd H4 D (.lst (ys++[y]))) else ∃ m',m' < m∧W (i + 1) m' H3)
  (hd:∀ H,Pv xs.length H→Q H):CompW (Ite K a) D σ0 g tc te H1 Q:=by
 refine⟨fun i m H=>m=xs.length - i∧i≤xs.length∧Pv i H,⟨xs.length,by simp,zZ _,h0⟩,?_⟩
 rintro i m H ⟨rfl,hi,p⟩
 have q:=hl i H hi p
 by_cases hlt:i < xs.length
 ·refine .inr ⟨⟨xs,xs[i],q,by simp [hlt]⟩,fun x H' y=>?_⟩
  obtain⟨pp,v,rfl,np,hx,rfl⟩:=y
  exact hs i v _ (xs.length - i) (fun i m H=>m=xs.length - i∧i≤xs.length∧Pv i H) (hx xs q) p (fun H' p'=>⟨xs.length - (i + 1),by omega,rfl,hlt,p'⟩) pp np
 ·have e:i=xs.length:=by omega
  subst e
  exact .inl ⟨⟨xs,q,zG _⟩,hd H p⟩
mutual
theorem Dt.can {K:PySem.W.Frag} {H:Hp}:∀ {n:Nat} {x:V} {d:PyData},Dt K H n x d→d.canLay0=true
 | _,_,_,.non _=>rfl
 | _,_,_,.bl _ _=>rfl
 | _,_,_,.int _ _=>rfl
 | _,_,_,.str _ _ h=>h
 | _,_,_,.lst _ r=>by rw[PyData.canLay0]; exact DtAll.can r
 | _,_,_,.tup _ r=>by rw[PyData.canLay0]; exact DtAll.can r
theorem DtAll.can {K:PySem.W.Frag} {H:Hp}:∀ {n:Nat} {xs:List V} {ds:List PyData},DtAll K H n xs ds→PyData.canLayAll0 ds=true
 | _,_,_,.nil _=>rfl
 | _,_,_,.cons h r=>by rw[PyData.canLayAll0,Dt.can h,DtAll.can r]; rfl
end
theorem DtAll.of {K:PySem.W.Frag} {H:Hp} {α:Type} {n:Nat} {f:α→PyData} {P:V→α→Prop} (h:∀ x a,P x a→Dt K H n x (f a)):∀ {xs:List V} {as:List α},Paired P xs as→DtAll K H n xs (as.map f)
 | _,_,.nil=>.nil n
 | _,_,.cons p r=>.cons (h _ _ p) (DtAll.of h r)
theorem call_anyB (hc:X.calm=true):CallR X (.builtin "any") (fun xs H Q=>∃(p:Addr) (bs:List Bool),xs=[.ref p]∧SqL X.K H p (bs.map V.bl)∧Q (.bl (bs.any id)) H):=by
 intro pins s σ H xs us Q I r h
 obtain⟨p,bs,rfl,hq,q⟩:=h
 obtain⟨u,rfl,ru⟩:=vals1 r
 cases ru
 obtain⟨its,rv,pl,hz⟩:=I.list hq
 have hl:=rv.length
 rw[zB] at hl
 have lt:p < s.heap.objs.size:=by obtain⟨o,e,_⟩:=pl.isList; exact Heap.lt_size e
 refine call_any_walk (wpAny_pyIter_list pl.isList ?_)
 refine⟨_,_,_,_,_,_,fun i=>bs.getD i false,rfl,Walks.list (A:=X.A.in1) (I.ok.hd hc) s.heap.objs.size p (zY lt) its.toArray,⟨⟨_,Heap.get?_push_size _ rfl,rfl,rfl⟩,pl.isList.push _⟩,?_,fun h' tk k=>?_⟩
 ·intro i v s' Q' E' hP hQ
  have hi:its[i]?=some v:=by simpa using hP
  have hil:i < bs.length:=by have:=(zA.mp hi).1; omega
  obtain⟨u,hu,ru⟩:=rv.get (i:=i) (x:=V.bl bs[i]) (by rw[zJ,zC hil]; rfl)
  rw[hi] at hu
  cases hu
  cases (show v=Value.bool bs[i] from ru)
  refine wpAny_truthy_bool ?_
  have e:bs.getD i false=bs[i]:=by rw[zE,zC hil]; rfl
  rw[← e]
  exact hQ
 ·refine⟨.bl _,H,I.kept (t':=tk) fun b o e=>k b o (fun z=>?_) (Heap.get?_push_of_some _ e),rfl,?_⟩
  ·rw[zR.mp z] at e
   exact absurd (Heap.lt_size e) (qN _)
  ·have e:(List.range its.toArray.size).any (fun i=>bs.getD i false)=bs.any id:=by
    rw[zL,← hl]
    clear q hq hl rv hz
    induction bs with
    | nil=>rfl
    | cons b bs ih=>rw[zP,List.range_succ_eq_map,jT,vG,jT]; exact congrArg (b || ·) ih
   show Q (.bl _) H
   rw[e]
   exact q
end
end L2
namespace L2
open PySem PySem.Spec PyProof.Rows
section
variable {X:Cx} {K:PySem.W.Frag} {a b e o l:Expr} {es:List Expr} {ta tb te to tl:TE} {t:TA} {pos:Pos}
theorem ix_tupK (hK:X.K=K):IxR X (rIxT K):=by subst hK; exact ix_tup
theorem ix_listK (hK:X.K=K):IxR X (rIxL K):=by subst hK; exact ix_list
theorem pe_fldK {f:Str} (hK:X.K=K) (he:PE X e ta) (hb:attributeBase e f X.env (eval e X.env)=eval e X.env):PE X (.Attribute e f pos) (tFld K ta f):=by subst hK; exact pe_fld he hb
theorem pi_listK {tg:Expr} (hK:X.K=K) (hl:PE X l tl):PI X tg l (iList K tl):=by subst hK; exact pi_list hl
theorem pi_tupK {tg:Expr} (hK:X.K=K) (hl:PE X l tl):PI X tg l (iTup K tl):=by subst hK; exact pi_tup hl
theorem call_len_seqK (hK:X.K=K):CallR X (.builtin "len") (fun xs H Q=>∃ p ys,xs=[.ref p]∧(SqL K H p ys∨SqT K H p ys)∧Q (.int ys.length) H):=by subst hK; exact call_len_seq
theorem op_eqDK (hK:X.K=K) (hu:X.A.units + 64 < cLine):OpR X (compareOp .Eq) (rEqD K):=by subst hK; exact op_eqD hu
theorem op_neDK (hK:X.K=K) (hu:X.A.units + 64 < cLine):OpR X (compareOp .NotEq) (rNeD K):=by subst hK; exact op_neD hu
theorem pg_tupK {k:Nat} {t:TGs} {n:Nat} (hK:X.K=K) (hc:X.calm=true) (h:PGs X es t)
  (hn:(assignEach es X.env).length=n:=by rfl) (hst:(assignEach es X.env).findIdx? (·.1)=none:=by rfl):PG X (.Tuple es k pos) (gTup K n t):=by subst hK; exact pg_tup hc h hn hst
end
end L2
namespace L2
open PySem PySem.Spec PyProof.Rows
abbrev Cell:=Addr × HO
def Hs (H:Hp) (M:List Cell):Prop:=(M.map Prod.fst).Nodup∧∀ p ∈ M,H p.1=some p.2
def Hc (H:Hp) (Ms:List (List Cell)):Prop:=Hs H Ms.flatten
theorem Hs.perm {H:Hp} {M N:List Cell} (h:Hs H M) (p:M.Perm N):Hs H N :=
 ⟨(p.map Prod.fst).nodup_iff.mp h.1,fun c hc=>h.2 c (p.mem_iff.mpr hc)⟩
theorem Hs.sub {H:Hp} {M N:List Cell} (h:Hs H M) (s:List.Sublist N M):Hs H N :=
 ⟨h.1.sublist (s.map Prod.fst),fun c hc=>h.2 c (s.subset hc)⟩
theorem Hc.get {H:Hp} {Ms:List (List Cell)} (h:Hc H Ms) (i j:Nat) {c:List Cell} {a:Addr} {o:HO} (hi:Ms[i]?=some c) (hj:c[j]?=some (a,o)):H a=some o :=
 h.2 (a,o) (List.mem_flatten.mpr ⟨c,zK hi,zK hj⟩)
theorem pick_perm {α:Type}:∀ {Ms:List (List α)} {i:Nat} {c:List α},Ms[i]?=some c→Ms.flatten.Perm (c++(Ms.eraseIdx i).flatten)
 | [],i,c,h=>by simp at h
 | d::Ms,0,c,h=>by simp at h; subst h; exact List.Perm.refl _
 | d::Ms,i + 1,c,h=>by
  have ih:=pick_perm (Ms:=Ms) (i:=i) (c:=c) (by simpa using h)
  rw[yK,jX,yK]
  refine(ih.append_left d).trans ?_
  rw[← zQ,← zQ]
  exact(yL).append_right _
theorem set_perm {α:Type}:∀ {Ms:List (List α)} {i:Nat} {c c':List α},Ms[i]?=some c→(Ms.set i c').flatten.Perm (c'++(Ms.eraseIdx i).flatten)
 | [],i,c,c',h=>by simp at h
 | d::Ms,0,c,c',h=>List.Perm.refl _
 | d::Ms,i + 1,c,c',h=>by
  have ih:=set_perm (Ms:=Ms) (i:=i) (c:=c) (c':=c') (by simpa using h)
  rw[List.set_cons_succ,yK,jX,yK]
  refine(ih.append_left d).trans ?_
  rw[← zQ,← zQ]
  exact(yL).append_right _
theorem Hc.pick {H:Hp} {Ms:List (List Cell)} (h:Hc H Ms) (i:Nat) {c:List Cell} (hi:Ms[i]?=some c):Hc H (c::Ms.eraseIdx i):=Hs.perm h (pick_perm hi)
theorem Hc.back {H:Hp} {Ms:List (List Cell)} {i:Nat} {c c':List Cell} (h:Hc H (c'::Ms.eraseIdx i)) (hi:Ms[i]?=some c):Hc H (Ms.set i c'):=Hs.perm h (set_perm hi).symm
theorem Hc.split {H:Hp} {a b:List Cell} {Ms:List (List Cell)} (h:Hc H ((a++b)::Ms)):Hc H (a::b::Ms):=by
 unfold Hc at h ⊢
 rw[yK,yK,← zQ]
 exact h
theorem Hc.join {H:Hp} {a b:List Cell} {Ms:List (List Cell)} (h:Hc H (a::b::Ms)):Hc H ((a++b)::Ms):=by
 unfold Hc at h ⊢
 rw[yK,yK,← zQ] at h
 exact h
theorem Hc.swap {H:Hp} {a b:List Cell} {Ms:List (List Cell)} (h:Hc H (a::b::Ms)):Hc H (b::a::Ms):=by
 refine Hs.perm h ?_
 rw[yK,yK,yK,yK,← zQ,← zQ]
 exact yL.append_right _
theorem Hc.tl {H:Hp} {c:List Cell} {Ms:List (List Cell)} (h:Hc H (c::Ms)):Hc H Ms:=by
 refine Hs.sub h ?_
 rw[yK]
 exact List.sublist_append_right _ _
theorem Hc.same {H H':Hp} {Ms:List (List Cell)} (h:Hc H Ms) (s:Same H H'):Hc H' Ms:=⟨h.1,fun p hp=>s _ _ (h.2 p hp)⟩
theorem Hc.new {H:Hp} {Ms:List (List Cell)} (h:Hc H Ms) {p:Addr} (n:H p=none) (o:HO):Hc (upd H p o) ([(p,o)]::Ms):=by
 have ne:∀ c ∈ Ms.flatten,c.1 ≠ p:=fun c hc z=>by
  have e:=h.2 c hc
  rw[z,n] at e
  cases e
 refine⟨?_,fun c hc=>?_⟩
 ·show((p,o)::Ms.flatten |>.map Prod.fst).Nodup
  rw[yI,yX]
  exact⟨fun z=>by obtain⟨c,hc,e⟩:=yH.mp z; exact ne c hc e,h.1⟩
 ·rcases zT.mp (show c ∈ (p,o)::Ms.flatten from hc) with r|r
  ·rw[r]; exact upd_same
  ·rw[upd_ne (ne c r)]; exact h.2 c r
theorem Hc.newS {H H':Hp} {Ms:List (List Cell)} (h:Hc H Ms) {p:Addr} {o:HO} (n:H p=none) (e:H' p=some o) (s:Same H H'):Hc H' ([(p,o)]::Ms):=by
 have ne:∀ c ∈ Ms.flatten,c.1 ≠ p:=fun c hc z=>by
  have e:=h.2 c hc
  rw[z,n] at e
  cases e
 refine⟨?_,fun c hc=>?_⟩
 ·show((p,o)::Ms.flatten |>.map Prod.fst).Nodup
  rw[yI,yX]
  exact⟨fun z=>by obtain⟨c,hc,e⟩:=yH.mp z; exact ne c hc e,h.1⟩
 ·rcases zT.mp (show c ∈ (p,o)::Ms.flatten from hc) with r|r
  ·rw[r]; exact e
  ·exact s _ _ (h.2 c r)
theorem Hs.put {H:Hp} {A:List Cell} {a:Addr} {o o':HO} {B:List Cell} (h:Hs H (A++(a,o)::B)):Hs (upd H a o') (A++(a,o')::B):=by
 have ek:(A++(a,o')::B).map Prod.fst=(A++(a,o)::B).map Prod.fst:=by simp
 have nd:=h.1
 refine⟨by rw[ek]; exact nd,fun c hc=>?_⟩
 rw[zS,yI,List.nodup_append] at nd
 obtain⟨_,n2,n3⟩:=nd
 rw[yX] at n2
 rcases yE.mp hc with r|r
 ·have:c.1 ≠ a:=n3 c.1 (yH.mpr ⟨c,r,rfl⟩) a zN
  rw[upd_ne this]
  exact h.2 c (yS _ r)
 ·rcases zT.mp r with r|r
  ·rw[r]; exact upd_same
  ·have:c.1 ≠ a:=fun z=>n2.1 (z ▸ yH.mpr ⟨c,r,rfl⟩)
   rw[upd_ne this]
   exact h.2 c (zU _ (zI _ r))
theorem cut_at {α:Type}:∀ {l:List α} {j:Nat} {x:α},l[j]?=some x→∃ A B,l=A++x::B∧A.length=j
 | [],j,x,h=>by simp at h
 | y::l,0,x,h=>by simp at h; subst h; exact⟨[],l,rfl,rfl⟩
 | y::l,j + 1,x,h=>by
  obtain⟨A,B,e,n⟩:=cut_at (l:=l) (j:=j) (x:=x) (by simpa using h)
  exact⟨y::A,B,by rw[e]; rfl,by rw[zP,n]⟩
theorem set_cut {α:Type}:∀ {A B:List α} {x y:α},(A++x::B).set A.length y=A++y::B
 | [],_,_,_=>rfl
 | a::A,B,x,y=>by
  show a::(A++x::B).set A.length y=a::(A++y::B)
  rw[set_cut]
theorem Hc.put {H:Hp} {Ms:List (List Cell)} (h:Hc H Ms) (i j:Nat) {c:List Cell} {a:Addr} {o:HO} (hi:Ms[i]?=some c) (hj:c[j]?=some (a,o)) (o':HO):Hc (upd H a o') (Ms.set i (c.set j (a,o'))):=by
 obtain⟨A,B,e,n⟩:=cut_at hj
 subst e
 subst n
 rw[set_cut]
 refine Hc.back (c:=A++(a,o)::B) ?_ hi
 have h1:Hs H ((A++(a,o)::B)++(Ms.eraseIdx i).flatten):=h.pick i hi
 rw[zQ,kL] at h1
 have h2:=h1.put (o':=o')
 show Hs (upd H a o') ((A++(a,o')::B)++(Ms.eraseIdx i).flatten)
 rw[zQ,kL]
 exact h2
def rowsC (ls:List Addr) (os:List HO):List Cell:=ls.zip os
theorem rowsC_get {ls:List Addr} {os:List HO} {j:Nat} {l:Addr} {o:HO} (h1:ls[j]?=some l) (h2:os[j]?=some o):(rowsC ls os)[j]?=some (l,o):=by
 unfold rowsC
 rw[jN]
 exact⟨h1,h2⟩
theorem rowsC_set:∀ {ls:List Addr} {os:List HO} {j:Nat} {l:Addr} {o:HO},ls[j]?=some l→(rowsC ls os).set j (l,o)=rowsC ls (os.set j o)
 | [],_,_,_,_,h=>by simp at h
 | _::_,[],_,_,_,_=>by simp [rowsC]
 | a::ls,u::os,0,l,o,h=>by simp at h; subst h; rfl
 | a::ls,u::os,j + 1,l,o,h=>by
  show(a,u)::(rowsC ls os).set j (l,o)=(a,u)::rowsC ls (os.set j o)
  rw[rowsC_set (by simpa using h)]
theorem Hc.pad {H:Hp} {Ms:List (List Cell)} (h:Hc H Ms):Hc H ([]::Ms):=h
theorem map_set_same {α β:Type} {f:α→β} {l:List α} {j:Nat} {r r':α} (h:l[j]?=some r) (e:f r'=f r):(l.set j r').map f=l.map f:=by
 rw[kD,e]
 have:(l.map f)[j]?=some (f r):=by rw[zJ,h]; rfl
 obtain⟨hj,he⟩:=zA.mp this
 rw[← he]
 exact List.set_getElem_self hj
end L2
namespace L2
open PySem PySem.Spec PyProof.Rows
theorem Keep.new' {L:List Addr} {H H':Hp} {q:Addr} {o:HO} (k:Keep L H H') (n:H' q=none):Keep L H (L2.upd H' q o):=fun b u e hb=>by
 have h:=k b u e hb
 rw[upd_ne (ne_of_none h n)]
 exact h
theorem Keep.free1 {H H':Hp} {p q:Addr} {u:HO} (k:Keep [p] H H') (hp:H' p=some u) (n:H' q=none):H q=none:=by
 cases e:H q with
 | none=>rfl
 | some o =>
  have:=k q o e (fun z=>by rw[zR.mp z,hp] at n; cases n)
  rw[n] at this
  cases this
section
variable {X:Cx}
end
end L2
namespace L2
open PySem PySem.Spec PyProof.Rows
inductive tMethU_ {ι:Type} (cls:ι→Addr) (m:Str) (sp:ι→Sp) (E:XK) (t:TA) (σ:St) (Q:VK) (x:V) (H1:Hp):Prop where
 | mk (a i dx fs:_) (h_0:x=.ref a) (h_1:H1 a=some (.ins (cls i) dx fs)) (h_2:fs.lookup m=none) (h_3:t σ H1 fun vs H2=>sp i (x::vs) H2 Q E):tMethU_ cls m sp E t σ Q x H1
def tMethU {ι:Type} (cls:ι→Addr) (m:Str) (sp:ι→Sp) (E:XK) (ta:TE) (t:TA):TE:=fun σ H Q=>ta σ H fun x H1=>tMethU_ cls m sp E t σ Q x H1
section
variable {X:Cx} {k:Nat} {ps:List Str} {ι:Type} {cls:ι→Addr} {sp:ι→Sp} {m:Str} {pos apos:Pos} {e o:Expr} {es:List Expr} {t:TA} {ta:TE}
theorem pe_mthU {pl:Sem Bool} (G:∀ i,MethAt X.prog X.w X.K X.mg X.base k (cls i) m ps (sp i)) (hr:Room k X.A) (he:PE X o ta) (ha:PA X (e::es) t)
  (hst:starEach (e::es) X.env=(false,eval e X.env)::starEach es X.env:=by rfl) (hpl:(backTo pos (starEach es X.env)).any (·.1)=false:=by rfl)
  (ht:eval (.Call (.Attribute o m apos) (e::es) [] pos) X.env=(do
   let ov ← eval o X.env
   standAt apos.atName
   let (f,first) ← holding [ov] (getMethod ov m pl)
   callWith pos f first (backTo pos (starEach (e::es) X.env)) (backToKw pos (keywordEach [] X.env))):=by rfl) :
  PE X (.Call (.Attribute o m apos) (e::es) [] pos) (tMethU cls m sp E0 ta t):=by
 intro pins s σ H Q I h
 refine PySem.W.methodCall_KW (pl:=pl) (thn (he pins s σ H _ I h) fun u s1 ⟨x,H1,I1,rx,a,i,dx,fs,ex,ea,l,q⟩=>?_) ht
 obtain⟨f,fd,F,hm,hb⟩:=(G i).ex
 subst ex
 obtain rfl:u=Value.ref a:=rx
 refine getmeth_ok I1 ea (G i).cls hm l ?_
 refine PySem.W.callWith_K (first:=[.ref a]) (h₀:=X.base) I.ok.mod.kin hm.kp (thn (ha pos pins s1 σ H1 _ I1 q) fun us s2 ⟨vs,H2,I2,r,q2⟩=>⟨I2.kIn,?_⟩) hst hpl
 exact run_fn (us:=.ref a::us) (vs:=.ref a::vs) (ds:=[]) (dvs:=[]) F hr hb .nil pass0 I2 (.cons rfl r) (by rw[yF]; exact q2)
end
section
variable {X:Cx} {K:PySem.W.Frag} {o e:Expr} {es:List Expr} {to:TE} {t:TA} {name:Str} {apos cpos:Pos} {T id:String} {r:V→List V→Hp→VK→Prop}
end
theorem MethAt.imp {P:Program} {w:World} {K:PySem.W.Frag} {mg:Str→Option Value} {base:Heap} {k:Nat} {C:Addr} {m:Str} {ps:List Str} {sp sp':Sp} (G:MethAt P w K mg base k C m ps sp) (h:∀ vs H Q E,sp' vs H Q E→sp vs H Q E):MethAt P w K mg base k C m ps sp':=by
 obtain⟨f,fd,F,hm,hb⟩:=G.ex
 exact⟨⟨f,fd,F.imp h,hm,hb⟩,G.cls⟩
theorem MethAt.mono {P:Program} {w:World} {K:PySem.W.Frag} {mg:Str→Option Value} {base:Heap} {j k:Nat} {C:Addr} {m:Str} {ps:List Str} {sp:Sp} (G:MethAt P w K mg base j C m ps sp) (h:j≤k):MethAt P w K mg base k C m ps sp:=by
 obtain⟨f,fd,F,hm,hb⟩:=G.ex
 exact⟨⟨f,fd,F.mono h,hm,hb⟩,G.cls⟩
end L2
namespace L2
open PySem PySem.Spec PyProof.Rows
section
variable {X:Cx} {pins:List (Addr × Obj)} {σ:St} {H:Hp} {s:Shared} {d:Addr}
end
section
variable {X:Cx} {l tg:Expr} {td:TE} {g:TG} {tb:TS} {apos cpos pos:Pos} {body:List Stmt}
end
end L2
namespace L2
open PySem PySem.Spec PyProof.Rows
structure SrtS where
 arr:Array Keyed
 kf:Nat→Int
 kd:SortKind
structure SBk (a₀:SrtS) (st:SortSt):Prop where
 perm:(arrOf st).Perm a₀.arr
 kind:kindOf st=a₀.kd
 failed:failedOf st=none
 pend:pendingOf st=#[]
theorem SBk.size {a₀:SrtS} {st:SortSt} (h:SBk a₀ st):(arrOf st).size=a₀.arr.size:=h.perm.size_eq
theorem SBk.setArr {a₀:SrtS} {st:SortSt} (h:SBk a₀ st) {xs:Array Keyed} (hp:xs.Perm (arrOf st)):SBk a₀ (PyProof.Rows.setArr st xs):=⟨hp.trans h.perm,h.kind,h.failed,h.pend⟩
def intS (a:Array Keyed):SrtS:=⟨a,PyProof.Rows.K a,oneType'⟩
section
variable (a₀:SrtS)
def kAt (p:Nat):Int:=a₀.kf p
def lexP (p q:Nat):Prop:=kAt a₀ p < kAt a₀ q∨(kAt a₀ p=kAt a₀ q∧p < q)
structure Gh (st:SortSt) (g:Array Nat):Prop where
 base:SBk a₀ st
 size:g.size=a₀.arr.size
 at':∀ k:Nat,(arrOf st)[k]?=(g[k]?).bind fun(p:Nat)=>a₀.arr[p]?
 perm:g.toList.Perm (List.range a₀.arr.size)
def gAt (g:Array Nat) (k:Nat):Nat:=(g[k]?).getD 0
def SortedL (g:Array Nat) (n:Nat):Prop:=∀ i j,i < j→j < n→lexP a₀ (gAt g i) (gAt g j)
def DescL (g:Array Nat) (n:Nat):Prop:=∀ i j,i < j→j < n→lexP a₀ (gAt g j) (gAt g i)
structure Rest (g:Array Nat) (n:Nat):Prop where
 low:∀ k,k < n→gAt g k < n
 same:∀ k,n≤k→k < a₀.arr.size→gAt g k=k
end
section
variable {a₀:SrtS} {st:SortSt} {g:Array Nat}
theorem size_swapIB {α:Type} (xs:Array α) (i j:Nat):(xs.swapIfInBounds i j).size=xs.size:=Array.size_swapIfInBounds
theorem bind_swap {xs:Array Keyed} {g:Array Nat} (hs:xs.size=g.size) (h:∀ k:Nat,xs[k]?=(g[k]?).bind fun(p:Nat)=>a₀.arr[p]?) (i j:Nat):∀ k:Nat,(xs.swapIfInBounds i j)[k]?=((g.swapIfInBounds i j)[k]?).bind fun(p:Nat)=>a₀.arr[p]?:=fun k=>by
 by_cases hi:i < xs.size
 ·by_cases hj:j < xs.size
  ·rw[getElem?_swapIB hi hj,getElem?_swapIB (by omega) (by omega)]
   split
   ·exact h i
   ·split
    ·exact h j
    ·exact h k
  ·rw[qW,qW,dif_pos hi,dif_pos (by omega:i < g.size),dif_neg hj,dif_neg (by omega)]
   exact h k
 ·rw[qW,qW,dif_neg hi,dif_neg (by omega)]
  exact h k
theorem bind_swaps {β:Type} (p q:β→Nat):∀(l:List β) (xs:Array Keyed) (g:Array Nat),xs.size=g.size→(∀ k:Nat,xs[k]?=(g[k]?).bind fun(p:Nat)=>a₀.arr[p]?) →
  ∀ k:Nat,(l.foldl (fun a k=>a.swapIfInBounds (p k) (q k)) xs)[k]?=((l.foldl (fun a k=>a.swapIfInBounds (p k) (q k)) g)[k]?).bind fun(p:Nat)=>a₀.arr[p]?
 | [],_,_,_,h=>h
 | x::l,xs,g,hs,h=>bind_swaps p q l _ _ (by rw[size_swapIB,size_swapIB]; exact hs) (bind_swap hs h (p x) (q x))
theorem Gh.mirror (G:Gh a₀ st g) (i j d:Nat):Gh a₀ (setArr st (mirror (arrOf st) i j d)) (mirror g i j d) :=
 ⟨G.base.setArr (mirror_perm _ _ _ _),by rw[mirror_size]; exact G.size,bind_swaps _ _ _ _ _ (by rw[G.base.size,G.size]) G.at',(qT.mp (mirror_perm g i j d)).trans G.perm⟩
theorem Gh.bubble (G:Gh a₀ st g) (src d:Nat):Gh a₀ (setArr st (bubble (arrOf st) src d)) (bubble g src d) :=
 ⟨G.base.setArr (bubble_perm _ _ _),by rw[bubble_size]; exact G.size,bind_swaps _ _ _ _ _ (by rw[G.base.size,G.size]) G.at',(qT.mp (bubble_perm g src d)).trans G.perm⟩
theorem gAt_mirror {g:Array Nat} {i j:Nat} (hj:j≤g.size) (k:Nat):gAt (mirror g i j ((j - i) / 2)) k=if i≤k∧k < j then gAt g (i + j - 1 - k) else gAt g k:=by
 unfold gAt
 rw[getElem?_mirror_all hj]
 split <;> rfl
theorem gAt_bubble {g:Array Nat} {src d:Nat} (hs:src < g.size) (hd:d≤src) (k:Nat):gAt (bubble g src d) k=if k=src - d then gAt g src else if src - d < k∧k≤src then gAt g (k - 1) else gAt g k:=by
 unfold gAt
 rw[getElem?_bubble hs d hd]
 split
 ·rfl
 ·split <;> rfl
theorem Rest.mirror {g:Array Nat} {n i j:Nat} (R:Rest a₀ g n) (hj:j≤n) (hn:j≤g.size):Rest a₀ (mirror g i j ((j - i) / 2)) n:=by
 refine⟨fun k hk=>?_,fun k h1 h2=>?_⟩
 ·rw[gAt_mirror hn]
  split
  ·exact R.low _ (by omega)
  ·exact R.low _ hk
 ·rw[gAt_mirror hn,if_neg (by omega)]
  exact R.same k h1 h2
end
section
variable {prog:Program} {w:World} {A:Around} {E:Value→Shared→Prop} {s:Shared} {a₀:SrtS}
def LtOk (prog:Program) (w:World) (A:Around) (E:Value→Shared→Prop) (s:Shared) (a₀:SrtS):Prop:=∀ {st:SortSt} {g:Array Nat} {i j:Nat} {Q:Option Bool→SortSt→Prop},Gh a₀ st g→i < a₀.arr.size→j < a₀.arr.size→Q (some (decide (kAt a₀ (gAt g i) < kAt a₀ (gAt g j)))) st→wpS (model prog w) A E s (ltAt' i j) Q st
theorem wpS_ltG {st:SortSt} {g:Array Nat} {i j:Nat} {Q:Option Bool→SortSt→Prop} (G:Gh a₀ st g) (h0:LtOk prog w A E s a₀) (hi:i < a₀.arr.size) (hj:j < a₀.arr.size) (h:Q (some (decide (kAt a₀ (gAt g i) < kAt a₀ (gAt g j)))) st) :
  wpS (model prog w) A E s (ltAt' i j) Q st:=h0 G hi hj h
theorem intS_lt {a:Array Keyed} (h0:IntKeys a):LtOk prog w A E s (intS a):=fun {st g i j Q} G hi hj h=>by
 have k:∀ {i:Nat},i < a.size→PyProof.Rows.K (arrOf st) i=kAt (intS a) (gAt g i):=fun {i} hi=>by
  have hg:i < g.size:=by rw[G.size]; exact hi
  refine K_congr ?_
  rw[G.at' i,gAt,zF hg]
  rfl
 refine wpS_ltK (a₀:=a) ⟨G.base.perm,G.base.kind,G.base.failed,G.base.pend⟩ h0 hi hj ?_
 rw[k hi,k hj]
 exact h
theorem wpS_ascG {st:SortSt} {g:Array Nat} {a nrem:Nat} {Q:AscSt→SortSt→Prop} (h0:LtOk prog w A E s a₀) (hn:nrem≤a₀.arr.size) (ha:1≤a) (han:a≤nrem) (G:Gh a₀ st g) (hs:SortedL a₀ g a) (hr:Rest a₀ g a)
  (h:∀ n,a≤n→n≤nrem→SortedL a₀ g n→Rest a₀ g n→(n=nrem∨kAt a₀ (gAt g n) < kAt a₀ (gAt g (n - 1)))→Q (none,n) st):wpS (model prog w) A E s (ascLoop a nrem) Q st:=by
 unfold ascLoop
 refine wpS_forRange (I:=fun x c st'=>st'=st∧c=(none,x)∧SortedL a₀ g x∧Rest a₀ g x) ?step ?fin ⟨rfl,rfl,hs,hr⟩
 case fin =>
  rintro c st' ⟨rfl,rfl,hs',hr'⟩
  rw[show max a nrem=nrem by omega] at hs' hr' ⊢
  exact h nrem han (zG _) hs' hr' (.inl rfl)
 case step =>
  rintro x c st' hax hxn ⟨rfl,rfl,hs',hr'⟩
  dsimp only
  refine wpS_bind (wpS_ltG G h0 (by omega) (by omega) ?_)
  by_cases hless:kAt a₀ (gAt g x) < kAt a₀ (gAt g (x - 1))
  ·simp only [hless,decide_true,if_true]
   exact wpS_pure (h x hax (by omega) hs' hr' (.inr hless))
  ·simp only [hless,decide_false,yB,if_false]
   have ex:=hr'.same x (zG _) (by omega)
   refine wpS_pure ⟨rfl,rfl,fun i j hij hj=>?_,⟨fun k hk=>?_,fun k h1 h2=>hr'.same k (by omega) h2⟩⟩
   ·by_cases hjx:j < x
    ·exact hs' i j hij hjx
    ·have hj':j=x:=by omega
     subst hj'
     have li:=hr'.low i hij
     by_cases hi':i=j - 1
     ·subst hi'
      unfold lexP
      rw[ex] at hless ⊢
      omega
     ·have l1:=hs' i (j - 1) (by omega) (by omega)
      unfold lexP at l1 ⊢
      rw[ex] at hless ⊢
      omega
   ·by_cases hkx:k < x
    ·have:=hr'.low k hkx; omega
    ·have:k=x:=by omega
     subst this
     omega
theorem wpS_tail3G {st:SortSt} {g:Array Nat} {n nrem:Nat} {Q:Option Nat→SortSt→Prop} (h0:LtOk prog w A E s a₀) (hn:nrem≤a₀.arr.size) (h1:1≤n) (hnn:n≤nrem) (G:Gh a₀ st g) (hs:DescL a₀ g n) (hr:Rest a₀ g n)
  (h:∀ m st' g',Gh a₀ st' g'→1≤m→m≤nrem→SortedL a₀ g' m→Rest a₀ g' m→Q (some m) st'):wpS (model prog w) A E s (tail3 n nrem) Q st:=by
 unfold tail3
 have hsz:n≤g.size:=by rw[G.size]; omega
 refine wpS_bind (wpS_reverse ?_)
 have G':=G.mirror 0 n ((n - 0) / 2)
 refine wpS_bind (wpS_ascG h0 hn h1 hnn G' ?_ (hr.mirror (zG _) hsz) fun m hm1 hm2 hsm hrm _=>wpS_pure (h m _ _ G' (by omega) hm2 hsm hrm))
 intro i j hij hj
 rw[gAt_mirror hsz,gAt_mirror hsz,if_pos (by omega),if_pos (by omega)]
 exact hs _ _ (by omega) (by omega)
structure Fall (a₀:SrtS) (g:Array Nat) (x neq:Nat):Prop where
 le:neq + 1≤x
 d:DescL a₀ g (x - (neq + 1))
 lt:∀ i,i < x - (neq + 1)→kAt a₀ (gAt g (x - 1)) < kAt a₀ (gAt g i)
 eq:∀ i,x - (neq + 1)≤i→i < x→kAt a₀ (gAt g i)=kAt a₀ (gAt g (x - 1))
 up:∀ i j,x - (neq + 1)≤i→i < j→j < x→gAt g i < gAt g j
theorem Fall.turn {g:Array Nat} {x neq:Nat} (F:Fall a₀ g x neq) (hx:x≤g.size):DescL a₀ (mirror g (x - (neq + 1)) x ((x - (x - (neq + 1))) / 2)) x:=by
 obtain⟨hl,fd,flt,feq,fup⟩:=F
 have hbx:x - (neq + 1)≤x:=kR _ _
 clear hl
 generalize x - (neq + 1)=b at *
 intro i j hij hj
 have inn:∀ t,b≤t→t < x→b≤b + x - 1 - t∧b + x - 1 - t < x:=fun t h1 h2=>by omega
 rw[gAt_mirror hx,gAt_mirror hx]
 by_cases hi:b≤i
 ·have hi2:=vC hij hj
  have hj2:=yZ (qH hi hij)
  have mv:b + x - 1 - j < b + x - 1 - i:=by omega
  rw[if_pos ⟨hj2,hj⟩,if_pos ⟨hi,hi2⟩]
  have e1:=feq _ (inn j hj2 hj).1 (inn j hj2 hj).2
  have e2:=feq _ (inn i hi hi2).1 (inn i hi hi2).2
  exact .inr ⟨e1.trans e2.symm,fup _ _ (inn j hj2 hj).1 mv (inn i hi hi2).2⟩
 ·rw[if_neg (show ¬ (b≤i∧i < x) from fun z=>hi z.1)]
  by_cases hjb:b≤j
  ·rw[if_pos ⟨hjb,hj⟩]
   have e1:=feq _ (inn j hjb hj).1 (inn j hjb hj).2
   have l1:=flt i (Nat.not_le.mp hi)
   exact .inl (by rw[e1]; exact l1)
  ·rw[if_neg (show ¬ (b≤j∧j < x) from fun z=>hjb z.1)]
   exact fd i j hij (Nat.not_le.mp hjb)
theorem Fall.whole {g:Array Nat} {x:Nat} (F:Fall a₀ g x 0):DescL a₀ g x:=by
 intro i j hij hj
 by_cases hjb:j < x - 1
 ·exact F.d i j hij hjb
 ·have:j=x - 1:=by omega
  subst this
  exact .inl (F.lt i (by omega))
theorem Fall.next {g:Array Nat} {x:Nat} (hd:DescL a₀ g x) (hx:1≤x) (hl:kAt a₀ (gAt g x) < kAt a₀ (gAt g (x - 1))):Fall a₀ g (x + 1) 0:=by
 refine⟨by omega,?_,fun i hi=>?_,fun i h1 h2=>?_,fun i j h1 h2 h3=>by omega⟩
 ·rw[show x + 1 - (0 + 1)=x by omega]
  exact hd
 ·rw[show x + 1 - 1=x by omega]
  by_cases hi':i=x - 1
  ·rw[hi']; exact hl
  ·have:=hd i (x - 1) (by omega) (by omega)
   unfold lexP at this
   omega
 ·rw[show x + 1 - 1=i by omega]
theorem wpS_descG {st:SortSt} {g:Array Nat} {n nrem:Nat} {Q:DescSt→SortSt→Prop} (h0:LtOk prog w A E s a₀) (hn:nrem≤a₀.arr.size) (hnn:n≤nrem) (G:Gh a₀ st g) (hf:Fall a₀ g n 0) (hr:Rest a₀ g n)
  (h:∀ m neq st' g',Gh a₀ st' g'→n≤m→m≤nrem→Fall a₀ g' m neq→Rest a₀ g' m→Q (none,m,neq) st'):wpS (model prog w) A E s (descLoop n nrem) Q st:=by
 unfold descLoop
 refine wpS_forRange (I:=fun x c st'=>∃ neq g',c=(none,x,neq)∧Gh a₀ st' g'∧Fall a₀ g' x neq∧Rest a₀ g' x) ?step ?fin ⟨0,g,rfl,G,hf,hr⟩
 case fin =>
  rintro c st' ⟨neq,g',rfl,G',hf',hr'⟩
  rw[Nat.max_eq_right hnn] at hf' hr' ⊢
  exact h nrem neq st' g' G' hnn (zG _) hf' hr'
 case step =>
  rintro x c st' hax hxn ⟨neq,g',rfl,G',hf',hr'⟩
  dsimp only
  have hx1:1≤x:=yA (Nat.le_add_left 1 neq) hf'.le
  have hxs:x < a₀.arr.size:=zO hxn hn
  have hxp:x - 1 < a₀.arr.size:=qH (kR _ _) hxs
  have hsz:x≤g'.size:=by rw[G'.size]; exact yZ hxs
  have ex:=hr'.same x (zG _) hxs
  have rest1:∀ g2:Array Nat,Rest a₀ g2 x→Rest a₀ g2 (x + 1):=fun g2 R=>⟨fun k hk=>by
   by_cases hkx:k < x
   ·have:=R.low k hkx; omega
   ·have e:k=x:=by omega
    rw[e,R.same x (zG _) hxs]; omega,fun k h1 h2=>R.same k (by omega) h2⟩
  refine wpS_bind (wpS_ltG G' h0 hxs hxp ?_)
  by_cases hless:kAt a₀ (gAt g' x) < kAt a₀ (gAt g' (x - 1))
  ·simp only [hless,decide_true,if_true]
   by_cases hneq:neq > 0
   ·rw[if_pos hneq]
    have hd:=hf'.turn hsz
    have R2:=hr'.mirror (i:=x - (neq + 1)) (zG _) hsz
    refine wpS_bind (wpS_reverse (wpS_pure ⟨0,_,rfl,G'.mirror _ _ _,Fall.next hd hx1 ?_,rest1 _ R2⟩))
    rw[gAt_mirror hsz,gAt_mirror hsz,if_neg (by omega),if_pos (by have:=hf'.le; omega)]
    have e1:=hf'.eq (x - (neq + 1) + x - 1 - (x - 1)) (by have:=hf'.le; omega) (by have:=hf'.le; omega)
    rw[e1]
    exact hless
   ·rw[if_neg hneq]
    have e0:neq=0:=Nat.eq_zero_of_not_pos hneq
    subst e0
    exact wpS_pure ⟨0,g',rfl,G',Fall.next hf'.whole hx1 hless,rest1 _ hr'⟩
  ·simp only [hless,decide_false,yB,if_false]
   refine wpS_bind (wpS_ltG G' h0 hxp hxs ?_)
   by_cases hlarger:kAt a₀ (gAt g' (x - 1)) < kAt a₀ (gAt g' x)
   ·simp only [hlarger,decide_true,if_true]
    exact wpS_pure (h x neq st' g' G' hax (yZ hxn) hf' hr')
   ·simp only [hlarger,decide_false,yB,if_false]
    have heq:kAt a₀ (gAt g' x)=kAt a₀ (gAt g' (x - 1)):=by omega
    have hl:=hf'.le
    refine wpS_pure ⟨neq + 1,g',rfl,G',⟨by omega,?_,fun i hi=>?_,fun i h1 h2=>?_,fun i j h1 h2 h3=>?_⟩,rest1 _ hr'⟩
    ·rw[show x + 1 - (neq + 1 + 1)=x - (neq + 1) by omega]
     exact hf'.d
    ·rw[show x + 1 - 1=x by omega,heq]
     exact hf'.lt i (by omega)
    ·rw[show x + 1 - 1=x by omega]
     by_cases hix:i=x
     ·rw[hix]
     ·rw[heq]; exact hf'.eq i (by omega) (by omega)
    ·by_cases hjx:j=x
     ·rw[hjx,ex]
      exact hr'.low i (by omega)
     ·exact hf'.up i j (by omega) h2 (by omega)
theorem wpS_descPartG {st:SortSt} {g:Array Nat} {n nrem:Nat} {Q:Option Nat→SortSt→Prop} (h0:LtOk prog w A E s a₀) (hn:nrem≤a₀.arr.size) (hnn:n + 1≤nrem) (G:Gh a₀ st g) (hf:Fall a₀ g (n + 1) 0) (hr:Rest a₀ g (n + 1))
  (h:∀ m st' g',Gh a₀ st' g'→1≤m→m≤nrem→SortedL a₀ g' m→Rest a₀ g' m→Q (some m) st'):wpS (model prog w) A E s (descPart n nrem) Q st:=by
 unfold descPart
 refine wpS_bind (wpS_lift (wpAny_rule ⟨rfl,?_⟩))
 refine wpS_bind (wpS_descG h0 hn hnn G hf hr fun m neq st' g' G' hm1 hm2 hf' hr'=>?_)
 dsimp only
 have hsz:m≤g'.size:=by rw[G'.size]; omega
 by_cases hneq:neq > 0
 ·rw[if_pos hneq]
  exact wpS_bind (wpS_reverse (wpS_tail3G h0 hn (by omega) hm2 (G'.mirror _ _ _) (hf'.turn hsz) (hr'.mirror (zG _) hsz) h))
 ·rw[if_neg hneq]
  have e0:neq=0:=by omega
  subst e0
  exact wpS_tail3G h0 hn (by omega) hm2 G' hf'.whole hr' h
theorem gAt_range {n k:Nat} (h:k < n):gAt (Array.range n) k=k:=by
 unfold gAt
 simp [h]
theorem wpS_countG {st:SortSt} {nrem:Nat} {Q:Option Nat→SortSt→Prop} (h0:LtOk prog w A E s a₀) (hn:nrem=a₀.arr.size) (h1:1≤nrem) (G:Gh a₀ st (Array.range a₀.arr.size))
  (h:∀ m st' g',Gh a₀ st' g'→1≤m→m≤nrem→SortedL a₀ g' m→Rest a₀ g' m→Q (some m) st'):wpS (model prog w) A E s (countRun' 0 nrem) Q st:=by
 rw[countRun0_eq]
 have R:∀ n,n≤a₀.arr.size→Rest a₀ (Array.range a₀.arr.size) n:=fun n hn'=>⟨fun k hk=>by rw[gAt_range (zO hk hn')]; exact hk,fun k h1 h2=>gAt_range h2⟩
 refine wpS_bind (wpS_ascG h0 (qZ hn) (zG 1) h1 G (fun i j hij hj=>absurd (zO hij (jO hj)) (jC _)) (R 1 (hn ▸ h1)) fun n hn1 hn2 hsn hrn hor=>?_)
 dsimp only
 by_cases hnn:n=nrem
 ·rw[if_pos (by simpa using hnn)]
  exact wpS_pure (h n st _ G hn1 hn2 hsn hrn)
 ·rw[if_neg (by simpa using hnn)]
  have hlt:=hor.resolve_left hnn
  by_cases hgt:n > 1
  ·rw[if_pos hgt]
   refine wpS_bind (wpS_ltG G h0 (by omega) (by omega) ?_)
   by_cases hrose:kAt a₀ (gAt (Array.range a₀.arr.size) 0) < kAt a₀ (gAt (Array.range a₀.arr.size) (n - 1))
   ·simp only [hrose,decide_true,if_true]
    exact wpS_pure (h n st _ G hn1 hn2 hsn hrn)
   ·simp only [hrose,decide_false,yB,if_false]
    have hsz:n≤(Array.range a₀.arr.size).size:=by rw[G.size,← hn]; exact hn2
    have ez:n - (n - 1 + 1)=0:=by omega
    have hf:Fall a₀ (Array.range a₀.arr.size) n (n - 1):=by
     refine⟨by omega,fun i j hij hj=>absurd (ez ▸ hj:j < 0) (jC _),fun i hi=>absurd (ez ▸ hi:i < 0) (jC _),fun i h1 h2=>?_,fun i j h1 h2 h3=>?_⟩
     ·by_cases hi0:i=0
      ·subst hi0
       by_cases e:(0:Nat)=n - 1
       ·rw[← e]
       ·have:=hsn 0 (n - 1) (by omega) (by omega)
        unfold lexP at this
        omega
      ·have a1:=hsn 0 i (by omega) h2
       by_cases e:i=n - 1
       ·rw[e]
       ·have a2:=hsn i (n - 1) (by omega) (by omega)
        unfold lexP at a1 a2
        omega
     ·rw[gAt_range (by omega),gAt_range (by omega)]
      exact h2
    have hd:=hf.turn hsz
    rw[ez] at hd
    have hrm:=(R n (hn ▸ hn2)).mirror (i:=0) (zG _) hsz
    refine wpS_bind (wpS_reverse (wpS_descPartG h0 (by omega) (by omega) (G.mirror _ _ _) (Fall.next hd (by omega) ?_) ?_ h))
    ·rw[gAt_mirror hsz,gAt_mirror hsz,if_neg (by omega),if_pos (by omega),show 0 + n - 1 - (n - 1)=0 by omega]
     have e0:=hf.eq 0 (by omega) (by omega)
     rw[e0]
     exact hlt
    ·exact⟨fun k hk=>by
      by_cases hkn:k < n
      ·have:=hrm.low k hkn; omega
      ·have e:k=n:=by omega
       rw[e,hrm.same n (zG _) (by omega)]; omega,fun k h1 h2=>hrm.same k (by omega) h2⟩
  ·rw[if_neg hgt]
   have hn1':n=1:=by omega
   subst hn1'
   exact wpS_descPartG h0 (by omega) (by omega) G (Fall.next (fun i j hij hj=>absurd (zO hij (jO hj)) (jC _)) (zG _) hlt) (R 2 (by omega)) h
theorem wpS_binG {st:SortSt} {g:Array Nat} {n ok:Nat} {Q:Bool→SortSt→Prop} (h0:LtOk prog w A E s a₀) (hn:n=a₀.arr.size) (hok:ok≤n) (hok1:1≤ok) (G:Gh a₀ st g) (hs:SortedL a₀ g ok) (hr:Rest a₀ g ok)
  (h:∀ st' g',Gh a₀ st' g'→SortedL a₀ g' n→Q true st'):wpS (model prog w) A E s (binarySort' 0 n ok) Q st:=by
 rw[binarySort'_eq]
 simp only [qA]
 refine wpS_bind (wpS_mono (wpS_forRange (I:=fun k c st'=>c=(none,())∧∃ g',Gh a₀ st' g'∧SortedL a₀ g' k∧Rest a₀ g' k)
  (Q:=fun c st'=>c=(none,())∧∃ g',Gh a₀ st' g'∧SortedL a₀ g' n) ?step ?fin ?init) ?post)
 case post =>
  rintro c st' ⟨rfl,g',G',hs'⟩
  exact wpS_pure (h st' g' G' hs')
 case init =>
  rw[kP hok1]
  exact⟨rfl,g,G,hs,hr⟩
 case fin =>
  rintro c st' ⟨hc,g',G',hs',_⟩
  rw[kP hok1,Nat.max_eq_right hok] at hs'
  exact⟨hc,g',G',hs'⟩
 case step =>
  rintro k c st' hak hkn ⟨rfl,g',G',hs',hr'⟩
  have hk:k < a₀.arr.size:=by omega
  have ek:=hr'.same k (zG _) hk
  refine wpS_bind (wpS_mono (wpS_forRange (I:=fun x c st''=>st''=st'∧∃ l r,c=(none,l,r)∧l≤r∧r≤k∧r - l≤k - x ∧
    (∀ i,i < l→kAt a₀ (gAt g' i)≤kAt a₀ (gAt g' k))∧(∀ i,r≤i→i < k→kAt a₀ (gAt g' k) < kAt a₀ (gAt g' i)))
   (Q:=fun c st''=>st''=st'∧∃ l r,c=(none,l,r)∧l≤k ∧
    (∀ i,i < l→kAt a₀ (gAt g' i)≤kAt a₀ (gAt g' k))∧(∀ i,l≤i→i < k→kAt a₀ (gAt g' k) < kAt a₀ (gAt g' i))) ?istep ?ifin ?iinit) ?ipost)
  case iinit=>exact⟨rfl,0,k,rfl,by omega,by omega,by omega,fun i hi=>by omega,fun i h1 h2=>by omega⟩
  case ifin =>
   rintro c st'' ⟨rfl,l,r,rfl,hlr,hrk,hm,hlo,hhi⟩
   have:l=r:=by omega
   subst this
   exact⟨rfl,l,l,rfl,hrk,hlo,hhi⟩
  case istep =>
   rintro x c st'' _ hxk ⟨rfl,l,r,rfl,hlr,hrk,hm,hlo,hhi⟩
   dsimp only
   have mono:∀ i j,i≤j→j < k→kAt a₀ (gAt g' i)≤kAt a₀ (gAt g' j):=fun i j hij hj=>by
    by_cases e:i=j
    ·rw[e]; exact qR _
    ·have:=hs' i j (by omega) hj
     unfold lexP at this
     omega
   by_cases hge:l ≥ r
   ·rw[if_pos hge]
    have:l=r:=by omega
    subst this
    exact wpS_pure ⟨rfl,l,l,rfl,hrk,hlo,hhi⟩
   ·rw[if_neg hge]
    have m1:l≤(l + r) / 2:=by omega
    have m2:(l + r) / 2 < r:=by omega
    generalize (l + r) / 2=md at m1 m2 ⊢
    have mk:md < k:=zO m2 hrk
    refine wpS_bind (wpS_ltG G' h0 hk (vC mk hk) ?_)
    by_cases hless:kAt a₀ (gAt g' k) < kAt a₀ (gAt g' md)
    ·simp only [hless,decide_true,if_true]
     refine wpS_pure ⟨rfl,l,md,rfl,m1,yZ mk,Nat.le_pred_of_lt (zO (Nat.sub_lt_sub_right m1 m2) hm),hlo,fun i h1 h2=>?_⟩
     exact Int.lt_of_lt_of_le hless (mono _ _ h1 h2)
    ·simp only [hless,decide_false,yB,if_false]
     refine wpS_pure ⟨rfl,md + 1,r,rfl,m2,hrk,Nat.sub_le_sub_right (yA (Nat.sub_le_sub_left m1 r) hm) 1,fun i h1=>?_,hhi⟩
     exact qK (mono i md (jO h1) mk) (jL.mp hless)
  case ipost =>
   rintro c st'' ⟨rfl,l,r,rfl,hlk,hlo,hhi⟩
   show wpS _ _ _ _ (do moveDown' k l; pure (ForInStep.yield (none,()))) _ _
   rw[moveDown'_eq]
   have hks:k < g'.size:=by rw[G'.size]; exact hk
   have hkd:k - l≤k:=kR _ _
   have hkl:k - (k - l)=l:=Nat.sub_sub_self hlk
   refine wpS_bind (wpS_modify (wpS_pure ⟨rfl,bubble g' k (k - l),G'.bubble k (k - l),fun i j hij hj=>?_,⟨fun i hi=>?_,fun i h1 h2=>?_⟩⟩))
   ·rw[gAt_bubble hks hkd,gAt_bubble hks hkd,hkl]
    by_cases hil:i=l
    ·rw[if_pos hil,if_neg (vA (hil ▸ hij)),if_pos ⟨hil ▸ hij,jO hj⟩]
     exact .inl (hhi (j - 1) (Nat.le_pred_of_lt (hil ▸ hij)) (by omega))
    ·rw[if_neg hil]
     by_cases hil2:i < l
     ·rw[if_neg (by omega)]
      by_cases hjl:j=l
      ·rw[if_pos hjl]
       have a1:=hlo i hil2
       have a2:=hr'.low i (by omega)
       unfold lexP
       rw[ek] at a1 ⊢
       omega
      ·rw[if_neg hjl]
       by_cases hjl2:l < j
       ·rw[if_pos (by omega)]
        exact hs' i (j - 1) (by omega) (by omega)
       ·rw[if_neg (by omega)]
        exact hs' i j hij (by omega)
     ·rw[if_pos (by omega),if_neg (by omega),if_pos (by omega)]
      exact hs' (i - 1) (j - 1) (by omega) (by omega)
   ·rw[gAt_bubble hks hkd,hkl]
    split
    ·omega
    ·split
     ·have:=hr'.low (i - 1) (by omega); omega
     ·have:=hr'.low i (by omega); omega
   ·rw[gAt_bubble hks hkd,hkl,if_neg (by omega),if_neg (by omega)]
    exact hr'.same i (by omega) h2
theorem wpS_sortG {st:SortSt} {Q:Unit→SortSt→Prop} (h0:LtOk prog w A E s a₀) (hB:SBk a₀ st) (he:arrOf st=a₀.arr) (h2:2≤a₀.arr.size) (h64:a₀.arr.size < 64)
  (h:∀ st' g,(arrOf st').Perm a₀.arr→failedOf st'=none→(∀ k:Nat,(arrOf st')[k]?=((g:Array Nat)[k]?).bind fun(p:Nat)=>a₀.arr[p]?)→g.toList.Perm (List.range a₀.arr.size)→SortedL a₀ g a₀.arr.size→Q () st'):wpS (model prog w) A E s sortRuns' Q st:=by
 have G0:Gh a₀ st (Array.range a₀.arr.size):=⟨hB,by simp,fun k=>by
  rw[he]
  by_cases hk:k < a₀.arr.size
  ·have e:(Array.range a₀.arr.size)[k]?=some k:=by simp [hk]
   rw[e]
   rfl
  ·rw[y7 (by omega),y7 (by simpa using hk)]
   rfl,by rw[Array.toList_range]⟩
 rw[sortRuns'_eq]
 refine wpS_bind (wpS_get ?_)
 dsimp only
 have hmr:minRun' a₀.arr.size a₀.arr.size 0=a₀.arr.size:=by
  obtain⟨f,hf⟩:∃ f,a₀.arr.size=f + 1:=⟨a₀.arr.size - 1,by omega⟩
  have:minRun' (f + 1) a₀.arr.size 0=a₀.arr.size:=by rw[minRun'_succ,if_pos h64]; rfl
  rwa [← hf] at this
 simp only [hB.size,hmr]
 refine wpS_bind (wpS_mono (wpS_forRange
  (I:=fun x c st'=>(x=0∧c=(none,0)∧st'=st)∨(1≤x∧c=(none,a₀.arr.size)∧pendingOf st'=#[(0,a₀.arr.size,0)]∧∃ st'' g,Gh a₀ st'' g∧SortedL a₀ g a₀.arr.size∧arrOf st'=arrOf st''∧failedOf st'=none))
  (Q:=fun c st'=>c=(none,a₀.arr.size)∧pendingOf st'=#[(0,a₀.arr.size,0)]∧∃ st'' g,Gh a₀ st'' g∧SortedL a₀ g a₀.arr.size∧arrOf st'=arrOf st''∧failedOf st'=none) ?step ?fin (.inl ⟨rfl,rfl,rfl⟩)) ?post)
 case fin =>
  rintro c st' (⟨hx,_,_⟩|⟨_,hc,hD⟩)
  ·omega
  ·exact⟨hc,hD⟩
 case step =>
  rintro x c st' _ hx (⟨rfl,rfl,rfl⟩|⟨hx1,rfl,hD⟩)
  ·dsimp only
   rw[if_neg (by omega)]
   simp only [k8,vB,qA]
   refine wpS_bind (wpS_countG h0 rfl (by omega) G0 fun m st2 g2 G2 hm1 hm2 hs2 hr2=>?_)
   dsimp only
   by_cases hlt:m < a₀.arr.size
   ·rw[if_pos hlt]
    refine wpS_bind (wpS_lift (wpAny_rule ⟨rfl,?_⟩))
    refine wpS_bind (wpS_binG h0 rfl hm2 hm1 G2 hs2 hr2 fun st3 g3 G3 hs3=>?_)
    simp only [Bool.not_true,yB,if_false]
    refine wpS_bind (wpS_get ?_)
    have hb:(pendingOf st3).back?=none:=by rw[G3.base.pend]; rfl
    rw[hb]
    dsimp only
    exact wpS_bind (wpS_modify (wpS_pure (.inr ⟨by omega,rfl,by show(pendingOf st3).push _=_; rw[G3.base.pend]; rfl,st3,g3,G3,hs3,rfl,G3.base.failed⟩)))
   ·rw[if_neg hlt]
    have hm:m=a₀.arr.size:=by omega
    subst hm
    refine wpS_bind (wpS_get ?_)
    have hb:(pendingOf st2).back?=none:=by rw[G2.base.pend]; rfl
    rw[hb]
    dsimp only
    exact wpS_bind (wpS_modify (wpS_pure (.inr ⟨by omega,rfl,by show(pendingOf st2).push _=_; rw[G2.base.pend]; rfl,st2,g2,G2,hs2,rfl,G2.base.failed⟩)))
  ·dsimp only
   rw[if_pos (zG _)]
   exact wpS_pure ⟨rfl,hD⟩
 case post =>
  rintro c st' ⟨rfl,hD⟩
  dsimp only
  refine wpS_bind (wpS_mono (wpS_forRange (I:=fun _ c st''=>st''=st'∧c=(none,())) (Q:=fun c st''=>st''=st'∧c=(none,())) ?_ (fun _ _ hh=>hh) ⟨rfl,rfl⟩) ?_)
  ·rintro x c st'' _ _ ⟨rfl,rfl⟩
   refine wpS_bind (wpS_get ?_)
   rw[if_pos (by rw[hD.1]; exact zG 1)]
   exact wpS_pure ⟨rfl,rfl⟩
  ·rintro c st'' ⟨rfl,rfl⟩
   obtain⟨_,st3,g3,G3,hs3,ea,ef⟩:=hD
   refine wpS_pure (h _ g3 (by rw[ea]; exact G3.base.perm) ef (fun k=>by rw[ea]; exact G3.at' k) G3.perm hs3)
end
end L2
namespace L2
open PySem PySem.Spec PyProof.Rows
def StabOut (kz:List Int) (vs out:List Value):Prop :=
 ∃ is:List Nat,is.Perm (List.range vs.length)∧out=is.map (fun i=>vs.getD i .none)∧is.Pairwise (fun i j=>kz.getD i 0 < kz.getD j 0∨(kz.getD i 0=kz.getD j 0∧i < j))
theorem zip_at {keys:Array Value} {vs:List Value} {kz:List Int} (hk:IntsAre keys.toList kz) (hlen:kz.length=vs.length) {p:Nat} (hp:p < vs.length) :
  ∃ t,(keys.zip vs.toArray)[p]?=some (.int (kz.getD p 0) t,vs.getD p .none):=by
 have hl:=hk.length
 rw[zD] at hl
 have e1:kz[p]?=some (kz.getD p 0):=by
  rw[zE,zC (by omega)]; rfl
 obtain⟨t,ht⟩:=hk.get p _ e1
 refine⟨t,?_⟩
 have e2:vs[p]?=some (vs.getD p .none):=by
  rw[zE,zC hp]; rfl
 rw[← zH,ksk_zip,jN]
 exact⟨ht,e2⟩
theorem stab_of {keys:Array Value} {vs:List Value} {kz:List Int} (hk:IntsAre keys.toList kz) (hlen:kz.length=vs.length) {xs:Array Keyed} {g:Array Nat}
  (ha:∀ k:Nat,xs[k]?=(g[k]?).bind fun(p:Nat)=>(keys.zip vs.toArray)[p]?) (hp:g.toList.Perm (List.range vs.length)) (hs:SortedL (intS (keys.zip vs.toArray)) g vs.length):StabOut kz vs (xs.map (·.2)).toList:=by
 have hgl:g.size=vs.length:=by have:=hp.length_eq; simpa using this
 have hmem:∀ k,k < vs.length→∃ p,g[k]?=some p∧p < vs.length:=fun k hk'=>by
  have e:g[k]?=some g[k]:=zF (by omega)
  have:g[k] ∈ g.toList:=by simp
  exact⟨_,e,yV.mp (hp.mem_iff.mp this)⟩
 refine⟨g.toList,hp,?_,?_⟩
 ·refine yW fun k=>?_
  rw[zH,Array.getElem?_map,ha,zJ,zH]
  by_cases hk':k < vs.length
  ·obtain⟨p,e,hpl⟩:=hmem k hk'
   obtain⟨t,e2⟩:=zip_at hk hlen hpl
   rw[e]
   show Option.map _ ((keys.zip vs.toArray)[p]?)=_
   rw[e2]
   rfl
  ·have:g[k]?=none:=y7 (by omega)
   rw[this]
   rfl
 ·rw[jM]
  intro i j hi hj hij
  have hi':i < vs.length:=by simpa [hgl] using hi
  have hj':j < vs.length:=by simpa [hgl] using hj
  obtain⟨p,ep,hpl⟩:=hmem i hi'
  obtain⟨q,eq,hql⟩:=hmem j hj'
  have h1:=hs i j hij hj'
  have gi:gAt g i=p:=by unfold gAt; rw[ep]; rfl
  have gj:gAt g j=q:=by unfold gAt; rw[eq]; rfl
  have li:g.toList[i]=p:=by
   have:g.toList[i]?=some p:=by rw[zH]; exact ep
   exact(zA.mp this).2
  have lj:g.toList[j]=q:=by
   have:g.toList[j]?=some q:=by rw[zH]; exact eq
   exact(zA.mp this).2
  rw[gi,gj] at h1
  rw[li,lj]
  have kat:∀ p,p < vs.length→kAt (intS (keys.zip vs.toArray)) p=kz.getD p 0:=fun p hpl=>by
   obtain⟨t,e2⟩:=zip_at hk hlen hpl
   obtain⟨hb,e3⟩:=y9.mp e2
   show PyProof.Rows.K (keys.zip vs.toArray) p=_
   rw[K_eq hb,e3]
   rfl
  unfold lexP at h1
  rw[kat p hpl,kat q hql] at h1
  exact h1
abbrev Kept (g h:Heap):Prop:=∀ b o,g.get? b=some o→h.get? b=some o
theorem Kept.but {g h h':Heap} {a:Addr} (k:Kept g h) (s:Heap.SameBut a h h') (ha:g.objs.size≤a):Kept g h':=fun b o e =>
 (s.2 b (zY (zO (Heap.lt_size e) ha))).trans (k b o e)
section
variable {prog:Program} {w:World} {A:Around} {E:Value→Shared→Prop} {s:Shared} {g:Heap} {a kS:Addr} {vs:List Value} {kz:List Int} {keys:Array Value} {e e1:Nat} {P:PySem.Fin→Shared→Prop}
theorem sk_tail {st:SortSt} {gg:Array Nat} (F:Kept g s.heap) (nk:s.heap.get? kS=some (seqObj "list" keys e)) (na:s.heap.get? a=some (seqObj "list" #[] e1)) (hka:kS ≠ a) (hgk:g.objs.size≤kS) (hga:g.objs.size≤a)
  (hk:IntsAre keys.toList kz) (hlen:kz.length=vs.length) (h64:vs.length < 64) (hp:(arrOf st).Perm (keys.zip vs.toArray))
  (ha:∀ k:Nat,(arrOf st)[k]?=(gg[k]?).bind fun(p:Nat)=>(keys.zip vs.toArray)[p]?) (hgp:gg.toList.Perm (List.range vs.length)) (hs:SortedL (intS (keys.zip vs.toArray)) gg vs.length) (hfl:failedOf st=none)
  (h:∀ h' tk out c,Kept g h'→h'.get? a=some (seqObj "list" out c)→StabOut kz vs out.toList→P (.done (.ret .none)) { s with heap:=h',toks:=tk }) :
  wpAny (model prog w) A (ksk_tail a false e1 (.ref kS) st) P E s:=by
 have hsz:keys.size=vs.length:=by
  have h1:=hk.length
  rw[zD] at h1
  omega
 have hsz2:(arrOf st).size=vs.length:=by rw[hp.size_eq,Array.size_zip,hsz,zL,vB]
 have s1:=Heap.SameBut.update s.heap kS (Obj.mapSeq fun _=>(#[]:Array Value))
 have na1:(s.heap.update kS (Obj.mapSeq fun _=>(#[]:Array Value))).get? a=some (seqObj "list" #[] e1):=(s1.2 a hka.symm).trans na
 have s2:=Heap.SameBut.update (s.heap.update kS (Obj.mapSeq fun _=>(#[]:Array Value))) a (Obj.mapSeq fun _=>(arrOf st).map (·.2))
 obtain⟨c2,hc2⟩:∃ c2,((s.heap.update kS (Obj.mapSeq fun _=>(#[]:Array Value))).update a (Obj.mapSeq fun _=>(arrOf st).map (·.2))).get? a=some (seqObj "list" ((arrOf st).map (·.2)) c2) :=
  ⟨_,get?_update_seq na1 fun _=>(arrOf st).map (·.2)⟩
 unfold ksk_tail
 try dsimp only
 refine wpAny_bind (listUpdate_at nk rfl ?_ (by rw[hsz,sizeLine_eq]; omega) (zZ _))
 refine wpAny_bind (wpAny_letGo ?_)
 refine wpAny_bind (seqEpoch_at na1 rfl ?_)
 simp only [yB,if_false]
 refine wpAny_bind (listUpdate_at na1 rfl ?_ (zZ _) (by rw[kU,hsz2,sizeLine_eq]; omega))
 rw[hfl]
 simp only [bne_self_eq_false,yB,if_false]
 exact wpAny_pure (h _ _ _ c2 ((F.but s1 hgk).but s2 hga) hc2 (stab_of hk hlen ha hgp hs))
theorem sk_end (F:Kept g s.heap) (nk:s.heap.get? kS=some (seqObj "list" keys e)) (na:s.heap.get? a=some (seqObj "list" #[] e1)) (hka:kS ≠ a) (hgk:g.objs.size≤kS) (hga:g.objs.size≤a)
  (hk:IntsAre keys.toList kz) (hlen:kz.length=vs.length) (h64:vs.length < 64)
  (h:∀ h' tk out c,Kept g h'→h'.get? a=some (seqObj "list" out c)→StabOut kz vs out.toList→P (.done (.ret .none)) { s with heap:=h',toks:=tk }) :
  wpAny (model prog w) A (ksk_end a false vs.toArray e1 (.ref kS) keys) P E s:=by
 have hsz:keys.size=vs.length:=by
  have h1:=hk.length
  rw[zD] at h1
  omega
 have hzs:(keys.zip vs.toArray).size=vs.length:=by rw[Array.size_zip,hsz,zL,vB]
 unfold ksk_end
 try dsimp only
 simp only [yB,if_false]
 by_cases h2:vs.toArray.size < 2
 ·rw[if_pos h2,if_pos h2]
  refine wpAny_bind (wpAny_pure ?_)
  rw[StateT.run_pure]
  refine wpAny_bind (wpAny_pure ?_)
  try dsimp only
  rw[zL] at h2
  refine sk_tail (st:=SortSt.mk' general' (keys.zip vs.toArray) #[] 7 none) (gg:=Array.range vs.length) F nk na hka hgk hga hk hlen h64 (Array.Perm.refl _) (fun k=>?_) (by rw[Array.toList_range]) (fun i j hij hj=>by omega) rfl h
  show(keys.zip vs.toArray)[k]?=_
  by_cases hk':k < vs.length
  ·have e:(Array.range vs.length)[k]?=some k:=by simp [hk']
   rw[e]
   rfl
  ·rw[y7 (by omega),y7 (by simpa using hk')]
   rfl
 ·rw[if_neg h2,if_neg h2]
  rw[zL] at h2
  rw[ksk_kind hk (by rw[hsz]; omega)]
  refine wpAny_bind (wpAny_pure ?_)
  refine wpAny_bind (wpAny_mono (wpS_sortG (a₀:=intS (keys.zip vs.toArray)) (st:=SortSt.mk' oneType' (keys.zip vs.toArray) #[] 7 none)
   (Q:=fun _ st'=>∃ gg:Array Nat,(arrOf st').Perm (keys.zip vs.toArray)∧failedOf st'=none∧(∀ k:Nat,(arrOf st')[k]?=(gg[k]?).bind fun(p:Nat)=>(keys.zip vs.toArray)[p]?)∧gg.toList.Perm (List.range (keys.zip vs.toArray).size)∧SortedL (intS (keys.zip vs.toArray)) gg (keys.zip vs.toArray).size)
   (intS_lt (ksk_intKeys hk)) ⟨Array.Perm.refl _,rfl,rfl,rfl⟩ rfl (by show 2≤(keys.zip vs.toArray).size; rw[hzs]; omega) (by show(keys.zip vs.toArray).size < 64; rw[hzs]; exact h64) fun st' gg a1 a2 a3 a4 a5=>⟨gg,a1,a2,a3,a4,a5⟩) ?_ fun _ _ e=>e)
  rintro⟨⟨⟩,st'⟩ s' ⟨rfl,gg,hp,hf,ha,hgp,hs⟩
  try dsimp only
  exact sk_tail F nk na hka hgk hga hk hlen h64 hp ha (by rw[← hzs]; exact hgp) (by rw[← hzs]; exact hs) hf h
def KeyEnd (h:Heap) (k:Int) (s₁:Shared) (v:Value) (s₂:Shared):Prop:=∃ h' tk t',s₂={ s₁ with heap:=h',toks:=tk }∧v=.int k t'∧Kept h h'
theorem sk_rest {f:Value} (F:Kept g s.heap) (nk:s.heap.get? kS=some (seqObj "list" #[] 0)) (na:s.heap.get? a=some (seqObj "list" #[] e1)) (hka:kS ≠ a) (hgk:g.objs.size≤kS) (hga:g.objs.size≤a)
  (hlen:kz.length=vs.length) (h64:vs.length < 64)
  (turn:∀(i:Nat) (v:Value) (k:Int),vs[i]?=some v→kz[i]?=some k→∀(h:Heap) (tk:Nat),Kept g h →
   wpAny (model prog w) A (call f [v]) (KeyEnd h k { s with heap:=h,toks:=tk }) (fun _ _=>False) { s with heap:=h,toks:=tk })
  (h:∀ h' tk out c,Kept g h'→h'.get? a=some (seqObj "list" out c)→StabOut kz vs out.toList→P (.done (.ret .none)) { s with heap:=h',toks:=tk }) :
  wpAny (model prog w) A (ksk_rest a f false vs.toArray e1 (.ref kS)) P E s:=by
 unfold ksk_rest
 refine wpAny_bind (wpAny_rule ?_)
 first
  | rw[List.forIn_toArray]
  | (rw[← Array.forIn_toList]; simp only [List.toList_toArray])
  | rw[← Array.forIn_toList]
 refine wpAny_bind (ksk_fold (fun i s'=>∃ h' tk kA e,s'={ s with heap:=h',toks:=tk }∧Kept g h'∧h'.get? kS=some (seqObj "list" kA e)∧h'.get? a=some (seqObj "list" #[] e1)∧IntsAre kA.toList (kz.take i)) vs 0 s
  ⟨s.heap,s.toks,#[],0,rfl,F,nk,na,by simpa using IntsAre.nil⟩ ?step ?done)
 case step =>
  rintro j x s' hx ⟨h',tk,kA,e,rfl,F',nk',na',hk⟩
  simp only [qA] at hk ⊢
  have hj:j < vs.length:=(zA.mp hx).1
  obtain⟨k,hkj⟩:∃ k,kz[j]?=some k:=⟨_,zC (by omega)⟩
  have hz:kA.size≤vs.length:=by
   have h1:=hk.length
   rw[zD,zX] at h1
   omega
  refine wpAny_bind (wpAny_attempt (wpAny_mono (turn j x k hx hkj h' tk F') (fun v s'' he=>?_) fun _ _ hF=>hF.elim))
  obtain⟨g2,tk2,t2,rfl,rfl,F2⟩:=he
  try dsimp only
  have nk2:=F2 _ _ nk'
  have na2:=F2 _ _ na'
  have s1:=Heap.SameBut.update g2 kS (Obj.mapSeq (·.push (.int k t2)))
  obtain⟨c2,hc2⟩:∃ c2,(g2.update kS (Obj.mapSeq (·.push (.int k t2)))).get? kS=some (seqObj "list" (kA.push (.int k t2)) c2):=⟨_,get?_update_seq nk2 (·.push (.int k t2))⟩
  have ek:kz.take (j + 1)=kz.take j++[k]:=by rw[yO,hkj]; simp
  have ea:(kA.push (Value.int k t2)).toList=kA.toList++[Value.int k t2]:=by simp
  refine wpAny_bind (listUpdate_at nk2 rfl ?_ (by rw[sizeLine_eq]; omega) (yA (qZ (Array.size_push ..)) (by rw[sizeLine_eq]; omega)))
  exact wpAny_pure ⟨rfl,_,_,kA.push (.int k t2),c2,rfl,Kept.but (fun b o q=>F2 b o (F' b o q)) s1 hgk,hc2,(s1.2 a hka.symm).trans na2,by rw[ea,ek]; exact ksk_snoc hk⟩
 case done =>
  rintro s' ⟨h',tk,kA,e,rfl,F',nk',na',hk⟩
  have hk':IntsAre kA.toList kz:=by
   have e3:kz.take (0 + vs.length)=kz:=q9 (by omega)
   rw[e3] at hk
   exact hk
  try dsimp only
  refine wpAny_bind (listItems_at nk' rfl ?_)
  exact sk_end F' nk' na' hka hgk hga hk' hlen h64 fun h3 tk3 out c F3 N3 k3=>h h3 tk3 out c F3 N3 k3
theorem sk_sort {f:Value} {n:Nat} (F:Kept g s.heap) (ho:s.heap.get? a=some (seqObj "list" vs.toArray n)) (hga:g.objs.size≤a)
  (hlen:kz.length=vs.length) (h64:vs.length < 64)
  (turn:∀(i:Nat) (v:Value) (k:Int),vs[i]?=some v→kz[i]?=some k→∀(h:Heap) (tk:Nat),Kept g h →
   wpAny (model prog w) A (call f [v]) (KeyEnd h k { s with heap:=h,toks:=tk }) (fun _ _=>False) { s with heap:=h,toks:=tk })
  (h:∀ h' tk out c,Kept g h'→h'.get? a=some (seqObj "list" out c)→StabOut kz vs out.toList→P (.done (.ret .none)) { s with heap:=h',toks:=tk }) :
  wpAny (model prog w) A (ksk_tree a f false) P E s:=by
 have ha:a < s.heap.objs.size:=Heap.lt_size ho
 have s1:=Heap.SameBut.update s.heap a (Obj.mapSeq fun _=>(#[]:Array Value))
 obtain⟨e1,ho1⟩:∃ e1,(s.heap.update a (Obj.mapSeq fun _=>(#[]:Array Value))).get? a=some (seqObj "list" #[] e1):=⟨_,get?_update_seq ho fun _=>#[]⟩
 have F1:=F.but s1 hga
 have hkS:((s.heap.update a (Obj.mapSeq fun _=>(#[]:Array Value))).push (seqObj "tuple" vs.toArray 0)).objs.size=s.heap.objs.size + 1:=by rw[size_push',Heap.size_update]
 unfold ksk_tree
 refine wpAny_bind (listItems_at ho rfl ?_)
 refine wpAny_bind (listUpdate_at ho rfl ?_ (by rw[zL,sizeLine_eq]; omega) (zZ _))
 refine wpAny_bind (seqEpoch_at ho1 rfl ?_)
 refine wpAny_bind (wpAny_newTuple ?_ (by show vs.length≤_; rw[sizeLine_eq]; omega))
 refine wpAny_bind (wpAny_newList ?_ (zZ _))
 refine wpAny_holding ?_
 refine sk_rest (s:={ s with heap:=((s.heap.update a (Obj.mapSeq fun _=>(#[]:Array Value))).push (seqObj "tuple" vs.toArray 0)).push (seqObj "list" #[] 0) }) (kS:=((s.heap.update a (Obj.mapSeq fun _=>(#[]:Array Value))).push (seqObj "tuple" vs.toArray 0)).objs.size)
  (fun b o q=>Heap.get?_push_of_some _ (Heap.get?_push_of_some _ (F1 b o q))) (Heap.get?_push_size _ rfl) (Heap.get?_push_of_some _ (Heap.get?_push_of_some _ ho1)) (by rw[hkS]; exact vA (qP ha)) (by rw[hkS]; exact yA hga (yZ (qP ha))) hga hlen h64 turn h
theorem sk_sorted {l:Addr} {f:Value} {kw:List (Str × Value)} {Q:Value→Shared→Prop} (hl:s.heap.IsList l vs.toArray) (hlen:kz.length=vs.length) (h64:vs.length < 64)
  (ha1:argsOk "sorted" ⟨[.ref l],kw⟩) (ha2:∀ x,argsOk "list.sort" ⟨[.ref x],kw⟩) (ht:∀ x,Builtin.«list.sort» ⟨[.ref x],kw⟩=ksk_tree x f false)
  (turn:∀(i:Nat) (v:Value) (k:Int),vs[i]?=some v→kz[i]?=some k→∀(h:Heap) (tk:Nat),Kept s.heap h →
   wpAny (model prog w) A.in1.in1 (call f [v]) (KeyEnd h k { s with heap:=h,toks:=tk }) (fun _ _=>False) { s with heap:=h,toks:=tk })
  (h:∀ D h' tk out c,Kept s.heap h'→s.heap.objs.size≤D→h'.get? D=some (seqObj "list" out c)→StabOut kz vs out.toList→Q (.ref D) { s with heap:=h',toks:=tk }) :
  wpAny (model prog w) A (call (.builtin "sorted") [.ref l] kw) Q E s:=by
 refine call_function_entry_kw kind_sorted plain_sorted entry_sorted ha1 ?_
 unfold Builtin.«sorted»
 refine wpAny_bind (m:=checkCount "sorted" 1 1 _) (wpAny_pure ?_)
 refine wpAny_bind (collect_list hl ?_ (by rw[sizeLine_eq]; omega))
 refine wpAny_bind (wpAny_newList ?_ (by rw[sizeLine_eq]; omega))
 have hsz:((s.heap.push (seqObj "list" #[] 0)).update s.heap.objs.size (Obj.mapSeq (·++vs.toArray))).objs.size=s.heap.objs.size + 1:=by
  rw[Heap.size_update,size_push']
 have hoL:(((s.heap.push (seqObj "list" #[] 0)).update s.heap.objs.size (Obj.mapSeq (·++vs.toArray))).push (seqObj "list" vs.toArray 0)).get? (s.heap.objs.size + 1)=some (seqObj "list" vs.toArray 0):=by
  rw[← hsz]; exact Heap.get?_push_size _ rfl
 have keep:∀ b o,s.heap.get? b=some o→(((s.heap.push (seqObj "list" #[] 0)).update s.heap.objs.size (Obj.mapSeq (·++vs.toArray))).push (seqObj "list" vs.toArray 0)).get? b=some o:=fun b o q=>by
  have hlt:b < s.heap.objs.size:=Heap.lt_size q
  rw[Heap.get?_push_ne _ _ _ (by rw[hsz]; exact zY (qP hlt)),Heap.get?_update_ne _ _ _ _ (zY hlt),Heap.get?_push_ne _ _ _ (zY hlt)]
  exact q
 show wpAny _ _ _ _ _ { s with heap:=((s.heap.push (seqObj "list" #[] 0)).update s.heap.objs.size (Obj.mapSeq (·++vs.toArray))).push (seqObj "list" vs.toArray 0) }
 rw[hsz]
 refine wpAny_bind (wpAny_holding (wpAny_call_entry_kw slot_list_sort ⟨_,hoL,rfl⟩ entry_list_sort ?body (ha2 _)))
 case body =>
  have ht':=ht (s.heap.objs.size + 1)
  show wpAny (model prog w) A.in1.in1 (Builtin.«list.sort» ⟨[.ref (s.heap.objs.size + 1)],kw⟩) _ _ _
  rw[ht']
  refine sk_sort (s:={ s with heap:=((s.heap.push (seqObj "list" #[] 0)).update s.heap.objs.size (Obj.mapSeq (·++vs.toArray))).push (seqObj "list" vs.toArray 0) }) (g:=s.heap)
   keep hoL (qB _) hlen h64 turn fun h' tk out c F' N' k'=>⟨_,rfl,?_⟩
  exact wpAny_pure ⟨_,rfl,h _ h' tk out c F' (qB _) N' k'⟩
end
end L2
namespace L2
open PySem PySem.Spec PyProof.Rows PySem.W
abbrev lamPar (x:Str) (p:Pos):Arguments:={ posonlyargs:=[],args:=[{ arg:=x,annotation:=none,pos:=p }],vararg:=none,kwonlyargs:=[],kw_defaults:=[],kwarg:=none,defaults:=[] }
abbrev lamSc (x:Str):Scope:={ kind:=.function,names:=[(x,.local)],isGenerator:=false,isCoroutine:=false,more:=[] }
abbrev lamBody (x:Str) (i:Int) (p2 p3 p4:Pos):Expr:=.Subscript (.Name x p2) (.Constant (.int i) 0 p3) p4
section
variable {prog:Program} {w:World} {A:Around} {s:Shared}
theorem lam_ix {f t c':Addr} {x qual:Str} {pm ctv:Value} {p1 p2 p3 p4:Pos} {its:Array Value} {i k:Int} {u:Tok} {j:Nat}
  (ho:s.heap.get? f=some (kla_obj "<lambda>" qual (lamPar x p1) (lamBody x i p2 p3 p4) (lamSc x) [] pm c' ctv)) (hcd:s.heap.CodeRec (.ref c') qual) (hroom:A.depth < recursionLimit) (lim:s.heap.NoLimit)
  (ht:IsTup s.heap t its) (hlo:-(2 ^ 63)≤i) (hhi:i < 2 ^ 63) (hj:seqIndex? i its.size=some j) (hx:its[j]?=some (.int k u)) (hd:(x == ("__debug__":Str))=false)
  (hbind:∀ v,bindArgs (kla_fn "<lambda>" qual (lamPar x p1) (lamBody x i p2 p3 p4) (lamSc x) [] pm (.ref c') ctv) ⟨[v],[]⟩=pure [(x,v)]) :
  wpAny (model prog w) A (call (.ref f) [.ref t]) (KeyEnd s.heap k s) (fun _ _=>False) s:=by
 refine wpAny_call ?_
 refine kla_callFunE hroom ho rfl rfl rfl rfl hcd ?_
 rw[hbind]
 refine wpAny_pure (wpAny_newFunctionEnv (fun y hy=>?_) (fun y hy=>?_) (fun h₁ hns hsb=>⟨lim.fresh _ hsb,?_⟩) rfl)
 ·rw[zR.mp hy]; exact fun z=>nomatch z
 ·rw[zR.mp hy]
  show List.lookup x [(x,NameKind.local)]=_
  simp [List.lookup]
 ·have hk₁:Kept s.heap h₁:=fun b o e=>hsb.extBut b o (zY (Heap.lt_size e)) (Heap.get?_push_of_some _ e)
  refine kla_codeExpr (wpAny_mono (Q:=fun v s'=>KeyEnd s.heap k s v s') (E:=fun _ _=>False) ?_ (fun v s' h'=>h') fun _ _ h'=>h'.elim)
  refine Subscript_ (wpAny_Name (wpAny_loadName_local rfl ?_ hns (v:=.ref t) ?_ (wpAny_Constant_int ?_)) hd)
  ·show List.lookup x [(x,NameKind.local)]=_
   simp [List.lookup]
  ·show List.lookup x [(x,Value.ref t)]=_
   simp [List.lookup]
  ·have ht₁:IsTup h₁ t its:=let ⟨o,e,r⟩:=ht; ⟨o,hk₁ _ _ e,r⟩
   refine subscriptTail_builtinR (x:=.int k u) (s:={ s with heap:=h₁,toks:=s.toks + [(x,Value.ref t)].length + 1 }) ht₁.typeIs slot_tuple_getitem.lookup (getItem_tuple (j:=j) ht₁ hlo hhi hj hx ⟨rfl,h₁,_,u,rfl,rfl,hk₁⟩)
end
def codeO (c':Addr) (q:Str):HO:=.ext fun h=>h.CodeRec (.ref c') q
theorem codeRec_keeps {h1 h2:Heap} {c':Addr} {q:Str} (x:h1.CodeRec (.ref c') q) (k:∀ o,h1.get? c'=some o→h2.get? c'=some o):h2.CodeRec (.ref c') q:=by
 obtain⟨c,o,vs,t,e,ho,r⟩:=x
 cases e
 exact⟨c',o,vs,t,rfl,k _ ho,r⟩
theorem codeO_ok {P:Program} {w:World} {H:Hp} {h:Heap} {c':Addr} {q:Str} (x:h.CodeRec (.ref c') q):ObjOk P w H h c' (codeO c' q):=by
 refine⟨x,?_,fun h1 h2 x1 k=>codeRec_keeps x1 k⟩
 obtain⟨c,o,vs,t,e,ho,r⟩:=x
 cases e
 exact⟨o,ho⟩
section
variable {X:Cx} {pins:List (Addr × Obj)} {σ:St} {H:Hp} {s:Shared}
theorem Inv.grown {P c':Addr} {ps more:Array Value} {q:Str} {h':Heap} {t':Nat} (I:Inv X pins σ H s) (hP:H P=some (.tbl ps)) (hx:Heap.ExtBut P s.heap h') (hc:s.heap.objs.size≤c') (hrec:h'.CodeRec (.ref c') q)
  (htb:h'.get? P=some (tabObj (ps++more))):Inv X pins σ (upd (upd H P (.tbl (ps++more))) c' (codeO c' q)) { s with heap:=h',toks:=t' }:=by
 have hcn:=I.hok.fresh hc
 have hcP:P ≠ c':=ne_of_none hP hcn
 have other:∀ b,b ≠ P→b ≠ c'→upd (upd H P (.tbl (ps++more))) c' (codeO c' q) b=H b:=fun b n1 n2=>by rw[upd_ne n2,upd_ne n1]
 have atP:upd (upd H P (.tbl (ps++more))) c' (codeO c' q) P=some (.tbl (ps++more)):=by rw[upd_ne hcP,upd_same]
 have nP:∀ b,H b=none→b ≠ P:=fun b n z=>by subst z; rw[n] at hP; cases hP
 refine I.un ⟨fun b o e n _ _=>hx b o (nP b n) e,fun b o e n _ _=>⟨o.slots,hx b o (nP b n) e⟩,fun b o e n _=>?_,fun b o e _=>?_,fun b xs e=>?_,fun b o u e=>?_,fun b qs e=>?_⟩ fun b u e=>?_
 ·rw[other b (nP b n) (zY (zO (Heap.lt_size e) hc))]; exact n
 ·by_cases hb:b=P
  ·subst hb; exact⟨_,htb⟩
  ·exact⟨o,hx b o hb e⟩
 ·rw[other b (ne_of e hP (fun z=>nomatch z)) (ne_of_none e hcn)]; exact e
 ·rw[other b (ne_of e hP (fun z=>nomatch z)) (ne_of_none e hcn)]; exact e
 ·by_cases hb:b=P
  ·subst hb
   rw[hP] at e; cases e
   exact⟨more,atP⟩
  ·exact⟨#[],by rw[other b hb (ne_of_none e hcn),e]; simp⟩
 ·by_cases hb:b=c'
  ·subst hb
   rw[upd_same] at e; cases e
   exact codeO_ok hrec
  ·by_cases hbP:b=P
   ·subst hbP
    rw[atP] at e; cases e
    exact htb
   ·rw[other b hbP hb] at e
    refine(I.hok b u e).stay (fun d v hd q=>hx d v (fun z=>?_) q) (fun d z=>?_) fun d xs z=>?_
    ·subst z
     rcases hd with z|z
     ·exact hbP z.symm
     ·rw[hP] at z; cases z
    ·rw[other d (ne_of z hP (fun z=>nomatch z)) (ne_of_none z hcn)]; exact z
    ·rw[other d (ne_of z hP (fun z=>nomatch z)) (ne_of_none z hcn)]; exact z
end
def StabV (kz:List Int) (xs out:List V):Prop :=
 ∃ is:List Nat,is.Perm (List.range xs.length)∧out=is.map (fun i=>xs.getD i .non)∧is.Pairwise (fun i j=>kz.getD i 0 < kz.getD j 0∨(kz.getD i 0=kz.getD j 0∧i < j))
theorem vals_pick {xs:List V} {vs:List Value} (r:Vals xs vs):∀ is:List Nat,(∀ i ∈ is,i < xs.length)→Vals (is.map fun i=>xs.getD i .non) (is.map fun i=>vs.getD i .none)
 | [],_=>.nil
 | i::is,h=>by
  have e:xs[i]?=some (xs.getD i .non):=by rw[zE,zC (h i (.head _))]; rfl
  obtain⟨u,e2,r2⟩:=r.get e
  have e3:vs.getD i .none=u:=by rw[zE,e2]; rfl
  refine .cons ?_ (vals_pick r is fun j hj=>h j (.tail _ hj))
  show RelV (xs.getD i .non) (vs.getD i .none)
  rw[e3]; exact r2
theorem stab_vals {kz:List Int} {xs:List V} {vs out:List Value} (r:Vals xs vs) (h:StabOut kz vs out):∃ ys,Vals ys out∧StabV kz xs ys∧ys.length=xs.length:=by
 obtain⟨is,h1,h2,h3⟩:=h
 rw[← r.length] at h1
 subst h2
 exact⟨_,vals_pick r is fun i hi=>yV.mp (h1.mem_iff.mp hi),⟨is,h1,rfl,h3⟩,by rw[zB,h1.length_eq,yT]⟩
inductive rSrt (K:PySem.W.Frag) (P:Addr) (q:Str) (ln cl:Nat) (i:Int) (Q:VK) (v:V) (H1:Hp):Prop where
 | mk (l xs kz:_) (h_0:v=.ref l) (h_1:SqL K H1 l xs) (h_2:xs.length < 64) (h_3:kz.length=xs.length) (h_4:(∀(j:Nat) x k,xs[j]?=some x→kz[j]?=some k→∃ t ys,x=.ref t∧SqT K H1 t ys∧atI ys i=some (.int k))) (h_5:((H1 P=some (.tbl #[])∧∀ c' D out,H1 c'=none→c' ≠ D→H1 D=none→StabV kz xs out→Q (.ref D) (upd (upd (upd H1 P (.tbl #[rawInt ln,rawInt cl,.ref c'])) c' (codeO c' q)) D (.lst out)))∨(∃ c',H1 P=some (.tbl #[rawInt ln,rawInt cl,.ref c'])∧H1 c'=some (codeO c' q)∧∀ D out,H1 D=none→StabV kz xs out→Q (.ref D) (upd H1 D (.lst out))))):rSrt K P q ln cl i Q v H1
def tSrt (K:PySem.W.Frag) (P:Addr) (q:Str) (ln cl:Nat) (i:Int) (ta:TE):TE:=fun σ H Q=>ta σ H (rSrt K P q ln cl i Q)
theorem pe_srt {X:Cx} {k:Nat} {c P:Addr} {q x nm:Str} {a:Expr} {ta:TE} {i:Int} {p kp p1 p2 p3 p4 lp pos:Pos} (hr:Room k X.A) (hg:Gl X nm) (hm:X.mg nm=none) (hv:bootBuiltins nm=some (.builtin "sorted"))
  (hcode:X.env.code=.ref c) (hq:X.env.qual++"<lambda>"=q) (C:CodeHd X.base c P) (hB:X.base.BuiltinsAt X.mg P) (ha:PE X a ta) (hd:(x == ("__debug__":Str))=false)
  (hbind:∀(pm ctv:Value) (c':Addr) v,bindArgs (kla_fn "<lambda>" q (lamPar x p1) (lamBody x i p2 p3 p4) (lamSc x) [] pm (.ref c') ctv) ⟨[v],[]⟩=pure [(x,v)])
  (hcl:closureFor (lamSc x) X.env=pure []) (hdef:defaultsOf (lamPar x p1) X.env=([],[]))
  (hn:nm ≠ "__name__":=by decide) (hdb:(nm == ("__debug__":Str))=false:=by decide)
  (hs:starEach [a] X.env=(false,eval a X.env)::starEach [] X.env:=by rfl) (he:backTo pos (starEach [a] X.env)=(false,eval a X.env)::backTo pos (starEach [] X.env):=by rfl)
  (hpl:(backTo pos (starEach [a] X.env)).any (·.1)=false:=by rfl) :
  PE X (.Call (.Name nm p) [a] [⟨some "key",.Lambda (lamPar x p1) (lamBody x i p2 p3 p4) (lamSc x) lp,kp⟩] pos) (tSrt X.K P q lp.line lp.col i ta):=by
 intro pins s σ H Q I h
 refine wpAny_Call_Name_kw (ld_blt I hg hm hv ?_ hn hdb)
 have core:∀(l:Addr) (xs:List V) (kz:List Int) (s2:Shared) (H2:Hp) (f c':Addr) (pm ctv:Value),Inv X pins σ H2 s2→xs.length < 64→kz.length=xs.length →
   s2.heap.get? f=some (kla_obj "<lambda>" q (lamPar x p1) (lamBody x i p2 p3 p4) (lamSc x) [] pm c' ctv)→s2.heap.CodeRec (.ref c') q→SqL X.K H2 l xs →
   (∀(j:Nat) x k,xs[j]?=some x→kz[j]?=some k→∃ t ys,x=.ref t∧SqT X.K H2 t ys∧atI ys i=some (.int k)) →
   (∀ D out,H2 D=none→StabV kz xs out→Q (.ref D) (upd H2 D (.lst out))) →
   wpAny (model X.prog X.w) X.A (call (.builtin "sorted") [.ref l] [(Str.ofString "key",.ref f)]) (EP X pins σ Q) X.xe s2:=by
  intro l xs kz s2 H2 f c' pm ctv I2 h64 hlen hf hcd hl hkeys hQ
  obtain⟨its,r,hlst,hz⟩:=I2.list hl
  have hrl:=r.length
  refine sk_sorted (vs:=its) (kz:=kz) (let ⟨o,n,e,hc,_,hd⟩:=hlst; ⟨o,e,hc,n,hd⟩) (by omega) (by omega) (ksk_s1 _ _) (fun _=>ksk_l1 _ _) (fun _=>ksk_t1 _ _) (fun j v k hv hk h tk kp=>?_) fun D h' tk out cc kp hD hget hstab=>?_
  ·have hj:j < xs.length:=by rw[hrl]; exact(zA.mp hv).1
   have ex:xs[j]?=some xs[j]:=zC hj
   obtain⟨u,hu,ru⟩:=r.get ex
   rw[hv] at hu
   cases hu
   obtain⟨t,ys,e1,ht,hat⟩:=hkeys j _ k ex hk
   rw[e1] at ru
   cases ru
   obtain⟨jts,r2,pl,hz2⟩:=I2.tuple ht
   obtain⟨n,h1,h2,h3,h4,h5⟩:=atI_get hat
   obtain⟨w,ew,rw'⟩:=r2.get h2
   obtain⟨tok,rfl⟩:=rw'
   have hl2:=r2.length
   have hn:=line63
   have pl':IsTup h t jts.toArray:=let ⟨o,e,r⟩:=pl; ⟨o,kp _ _ e,r⟩
   exact lam_ix (s:={ s2 with heap:=h,toks:=tk }) (A:=X.A.in1.in1) (kp _ _ hf) (codeRec_keeps hcd fun o e=>kp _ _ e) hr.depth (I2.nolimit.keeps kp) pl' (by omega) (by omega) (by rw[zL,← hl2]; exact h1) (by simpa using ew) hd (hbind pm ctv c')
  ·obtain⟨ys,rv,sv,lv⟩:=stab_vals r hstab
   exact⟨.ref D,upd H2 D (.lst ys),I2.laid (t':=tk) kp hD ⟨by rw[lv]; exact hz,out.toList,cc,rv,by simpa using hget⟩,rfl,hQ D ys (I2.hok.fresh hD) sv⟩
 refine callWith_kw (thn (pa_cons ha pa_nil hs pos pins s σ H (fun vs H1=>match vs with|[v]=>rSrt X.K P q lp.line lp.col i Q v H1|_=>False) I h) ?_) he hpl
 rintro us s1 ⟨vs,H1,I1,r,q1⟩
 match vs,r,q1 with
 | [v],r,q1 =>
 obtain⟨l,xs,kz,rfl,hl,h64,hlen,hkeys,hT⟩:=q1
 cases r with
 | cons r0 r1 =>
 cases r1
 cases r0
 refine kws_cons (kla_eval hdef ?_)
 rw[hq]
 have C1:=C.keeps I1.bk
 have hB1:=hB.keeps I1.bk
 have hge:X.env.globals=mainGlobals:=I1.ok.glob
 have hgs:s1.heap.Ns mainGlobals X.mg:=I1.mod.glob.keeps I1.bk
 rcases hT with ⟨hP,hQ⟩|⟨c',hP,hc',hQ⟩
 ·have hPo:s1.heap.get? P=some (tabObj #[]):=I1.hok _ _ hP
  have hgP:mainGlobals ≠ P:=fun z=>by
   obtain⟨o,es,ep,e,hd',_⟩:=hgs
   rw[z,hPo] at e; cases e; cases hd'
  refine kla_makeFunction (mg:=X.mg) hcl hge hgs hcode C1 hPo True.intro rfl hgP hB1 fun c' ctv h' tk hx hge' hlt hrec htb=>?_
  refine kws_nil ?_
  have I2:=(I1.grown (t':=tk) hP hx hge' hrec htb).kept (t':=tk) (h':=h'.push (kla_obj "<lambda>" q (lamPar x p1) (lamBody x i p2 p3 p4) (lamSc x) [] ((X.mg "__name__").getD .none) c' ctv)) fun b o e=>Heap.get?_push_of_some _ e
  have hcn:=I1.hok.fresh hge'
  have oth:∀ {b:Addr} {u:HO},Rd H1 b u→(∀ ps,u ≠ .tbl ps)→Rd (upd (upd H1 P (.tbl (#[]++#[rawInt lp.line,rawInt lp.col,.ref c']))) c' (codeO c' q)) b u:=fun {b u} hb hu=>by
   rcases hb with hb|⟨o,hb⟩
   ·exact .inl (by rw[upd_ne (ne_of_none hb hcn),upd_ne (ne_of hb hP (hu _))]; exact hb)
   ·exact .inr ⟨o,by rw[upd_ne (ne_of_none hb hcn),upd_ne (ne_of hb hP (fun z=>nomatch z))]; exact hb⟩
  refine core l xs kz _ _ _ c' _ ctv I2 h64 hlen (Heap.get?_push_size _ rfl) (codeRec_keeps hrec fun o e=>Heap.get?_push_of_some _ e) ?_ (fun j y k ej ek=>?_) fun D out hD st=>?_
  ·rcases hl with hl|hl
   ·exact .inl (oth hl fun _ z=>nomatch z)
   ·exact .inr hl
  ·obtain⟨t,ys,e1,ht,hat⟩:=hkeys j y k ej ek
   refine⟨t,ys,e1,?_,hat⟩
   rcases ht with ht|ht
   ·exact .inl (oth ht fun _ z=>nomatch z)
   ·exact .inr ht
  ·have n1:D ≠ c':=fun z=>by rw[z,upd_same] at hD; cases hD
   rw[upd_ne n1] at hD
   have n2:D ≠ P:=fun z=>by rw[z,upd_same] at hD; cases hD
   rw[upd_ne n2] at hD
   exact hQ c' D out hcn n1.symm hD st
 ·have hPo:s1.heap.get? P=some (tabObj #[rawInt lp.line,rawInt lp.col,.ref c']):=I1.hok _ _ hP
  have hrec:s1.heap.CodeRec (.ref c') q:=(I1.hok _ _ hc').1
  refine kla_makeFunctionHit (mg:=X.mg) (cv:=.ref c') hcl hge hgs hcode C1 hPo (by simp [TriplesOk,rawInt]) (by simp [codeAmong,rawInt]) hB1 fun ctv h' tk hk _=>?_
  refine kws_nil ?_
  have kp:Kept s1.heap (h'.push (kla_obj "<lambda>" q (lamPar x p1) (lamBody x i p2 p3 p4) (lamSc x) [] ((X.mg "__name__").getD .none) c' ctv)):=fun b o e=>Heap.get?_push_of_some _ (hk b o e)
  exact core l xs kz _ _ _ c' _ ctv (I1.kept (t':=tk) kp) h64 hlen (Heap.get?_push_size _ rfl) (codeRec_keeps hrec fun o e=>kp _ _ e) hl hkeys fun D out hD st=>hQ D out hD st
end L2
namespace L2
open PySem PySem.Spec PyProof.Rows PySem.W
structure Tab (K:PySem.W.Frag) (mg:Str→Option Value) (h:Heap) (c P:Addr):Prop where
 hd:CodeHd h c P
 bl:h.BuiltinsAt mg P
def OnlyT (tabs:List (Addr × Addr)) (H:Hp):Prop:=∀ b,(b ∈ tabs.map (·.2)∧H b=some (.tbl #[]))∨(b ∉ tabs.map (·.2)∧(H b=none∨∃ o xs,H b=some (.frz o (.lst xs))))
theorem law_callT {P:Program} {w:World} {K:PySem.W.Frag} {mg mb:Str→Option Value} {CX:CXT} {k:Nat} {fa a:Addr} {fd:FuncData} {x:Str} {sp:Sp} {s₁:Shared} {vs:List Value} {ns:List Int} {tabs:List (Addr × Addr)}
  (KX:K.In s₁.heap) (hns:s₁.heap.Ns mainGlobals mg) (hb:s₁.heap.Ns builtinsNs mb) (hbb:∀ x:Str,x ≠ "__name__"→mb x=bootBuiltins x) (hlim:s₁.heap.NoLimit) (hg:s₁.gens=#[])
  (ha:s₁.heap.get? a=some { cls:=.type "list",data:=.seq vs.toArray }) (hi:IntsAre vs ns) (hl:ns.length≤sizeLine) (hr:Room k callerA)
  (hT:∀ q ∈ tabs,Tab K mg s₁.heap q.1 q.2∧s₁.heap.get? q.2=some (tabObj #[])∧K.lookup q.2=none)
  (F:∀ base:Heap,K.In base→base.Ns mainGlobals mg→(∀ q ∈ tabs,Tab K mg base q.1 q.2)→FnOk P w K mg base CX k fa fd [x] sp) (hbind:∀(s:Shared) (u:Value),BindsTo s fd ⟨[u],[]⟩ [(x,u)])
  (hsp:∀ H:Hp,OnlyT tabs H→SqL K H a (ns.map V.int)→sp [.ref a] H (fun v _=>v=.bl true) fun _ _ _=>False)
  (hCX:∀ H e s',CX [] H s₁ (fun _ _ _=>False) e s'→False) :
  codeAny (model P w) callerA (.call (.ref fa) ⟨[.ref a],[]⟩) (fun r s'=>r=.ok (.ret (.bool true))∧OldK s₁.heap s'.heap∧s'.os=s₁.os∧AllBare s'.gens) s₁:=by
 have rv:=vals_ints hi
 have lenV:=hi.length
 have tabAt:∀ {b:Addr},b ∈ tabs.map (·.2)→∃ c,Tab K mg s₁.heap c b∧s₁.heap.get? b=some (tabObj #[])∧K.lookup b=none:=fun {b} hb=>by
  obtain⟨q,hq,rfl⟩:=yH.mp hb
  exact⟨q.1,hT q hq⟩
 have naT:a ∉ tabs.map (·.2):=fun z=>by
  obtain⟨c,_,e,_⟩:=tabAt z
  rw[ha] at e; cases e
 have core:∀ H:Hp,OnlyT tabs H→SqL K H a (ns.map V.int)→HOk P w H s₁.heap→(∀ b,H b ≠ none→b=a∨b ∈ tabs.map (·.2))→(H a ≠ none→K.lookup a=none) →
   codeAny (model P w) callerA (.call (.ref fa) ⟨[.ref a],[]⟩) (fun r s'=>r=.ok (.ret (.bool true))∧OldK s₁.heap s'.heap∧s'.os=s₁.os∧AllBare s'.gens) s₁:=by
  intro H hO hS hok hA hK
  have base_of:∀ {b:Addr} {o:Obj},s₁.heap.get? b=some o→H b=none→(hidT s₁.heap H).get? b=some o:=fun e n=>hidT_get e n
  have noA':∀ {b:Addr} {o:Obj},s₁.heap.get? b=some o→o ≠ { cls:=.type "list",data:=.seq vs.toArray }→o ≠ tabObj #[]→H b=none:=fun {b o} e n1 n2=>by
   cases q:H b with
   | none=>rfl
   | some u =>
    rcases hA b (by rw[q]; simp) with e'|e'
    ·subst e'
     rw[ha] at e; cases e
     exact absurd rfl n1
    ·obtain⟨c,_,e2,_⟩:=tabAt e'
     rw[e] at e2; cases e2
     exact absurd rfl n2
  have noA:∀ {b:Addr} {o:Obj} {es:Array DictEntry} {ep:Nat},s₁.heap.get? b=some o→o.data=.dict es ep→H b=none:=fun {b o es ep} e d =>
   noA' e (fun z=>by subst z; cases d) (fun z=>by subst z; cases d)
  have nsK:∀ {b:Addr} {m:Str→Option Value},s₁.heap.Ns b m→(hidT s₁.heap H).Ns b m:=fun {b m} ⟨o,es,ep,e,d,r⟩=>⟨o,es,ep,base_of e (noA e d),d,r⟩
  have hKb:K.In (hidT s₁.heap H):=fun b o e=>base_of (KX b o e) (by
   cases q:H b with
   | none=>rfl
   | some u =>
    rcases hA b (by rw[q]; simp) with e'|e'
    ·subst e'
     rw[hK (by rw[q]; simp)] at e; cases e
    ·obtain⟨c,_,_,e2⟩:=tabAt e'
     rw[e] at e2; cases e2)
  have hTb:∀ q ∈ tabs,Tab K mg (hidT s₁.heap H) q.1 q.2:=fun q hq=>by
   obtain⟨⟨⟨o,vs',file,tf,flags,tg,inF,text,tt,e,hc,hd,r⟩,⟨bm,ob,b1,b2,b3,b4,b5,b6,b7,b8⟩⟩,_,_⟩:=hT q hq
   exact⟨⟨o,vs',file,tf,flags,tg,inF,text,tt,base_of e (noA' e (fun z=>by subst z; cases hd) (fun z=>by subst z; cases hc)),hc,hd,r⟩,
    ⟨bm,ob,b1,b2,b3,b4,base_of b5 (noA' b5 (fun z=>by subst z; cases b8) (fun z=>by subst z; cases b6)),b6,b7,b8⟩⟩
  have hM:Mod K mg (hidT s₁.heap H):=⟨hKb,nsK hns,⟨mb,nsK hb,hbb⟩,let ⟨mc,h1,h2⟩:=hlim; ⟨mc,nsK h1,h2⟩⟩
  have e0:Env0 P w K mg (hidT s₁.heap H) callerA [] s₁ H:=⟨rfl,hM,fun b o e=>of_hidT e,qZ (hidT_size _ _),trivial,fun b hb=>absurd (show b ∈ ([]:List Addr) from hb) (by simp),hok,.of_eq hg⟩
  refine codeAny_mono ((F _ hKb (nsK hns) hTb).run callerA [] s₁ H ⟨[.ref a],[]⟩ [.ref a] [.ref a] _ _ hr e0 (hbind s₁ (.ref a)) (.cons rfl .nil) (hsp H hO hS)) fun r s' h=>?_
  cases r with
  | error e=>exact(hCX H e s' h).elim
  | ok fl =>
   cases fl with
   | next=>exact False.elim h
   | brk=>exact False.elim h
   | cont=>exact False.elim h
   | ret u =>
    obtain⟨v,H',os,bare,un,hok',r',q⟩:=h
    have q':v=.bl true:=q
    subst q'
    obtain rfl:u=Value.bool true:=r'
    have kp:∀ b o,s₁.heap.get? b=some o→b ∉ tabs.map (·.2)→s'.heap.get? b=some o:=fun b o e hb'=>by
     rcases hO b with ⟨z,_⟩|⟨_,z|⟨ob,xs,z⟩⟩
     ·exact absurd z hb'
     ·exact un.keep b o e z (by intro z; exact absurd (show b ∈ ([]:List Addr) from z) (by simp)) (by simp)
     ·have z2:=un.frzs b ob _ z
      obtain⟨e1,_⟩:=hok b _ z
      obtain⟨e2,_⟩:=hok' b _ z2
      rw[e] at e1; cases e1
      exact e2
    have tb:∀ b,b ∈ tabs.map (·.2)→∃ more,s'.heap.get? b=some (tabObj (#[]++more)):=fun b hb'=>by
     rcases hO b with ⟨_,z⟩|⟨z,_⟩
     ·obtain⟨more,z2⟩:=un.tbls b _ z
      exact⟨more,hok' b _ z2⟩
     ·exact absurd hb' z
    refine⟨rfl,⟨fun b o e=>?_,fun b o e=>?_⟩,os,bare⟩
    ·by_cases hb':b ∈ tabs.map (·.2)
     ·obtain⟨more,e2⟩:=tb b hb'
      obtain⟨c,t,e3,_⟩:=tabAt hb'
      rw[e] at e3; cases e3
      exact .inr (.inl ⟨(t.hd.tab e).isCodeTable,rfl,#[],more,rfl,e2⟩)
     ·exact .inl (kp b o e hb')
    ·by_cases hb':b ∈ tabs.map (·.2)
     ·obtain⟨more,e2⟩:=tb b hb'
      exact⟨_,e2⟩
     ·exact⟨o,kp b o e hb'⟩
 cases hk:K.lookup a with
 | some o =>
  have e:=KX a o hk
  rw[ha] at e
  cases e
  refine core (fun b=>if b ∈ tabs.map (·.2) then some (.tbl #[]) else none) (fun b=>?_) (.inr ⟨_,vs.toArray,_,hk,rfl,rfl,rfl,by rw[zL,lenV]; exact hl,by simpa using rv⟩) (fun b u z=>?_) (fun b z=>?_) fun z=>absurd (if_neg naT) z
  ·by_cases hb':b ∈ tabs.map (·.2)
   ·exact .inl ⟨hb',if_pos hb'⟩
   ·exact .inr ⟨hb',.inl (if_neg hb')⟩
  ·by_cases hb':b ∈ tabs.map (·.2)
   ·have z':=(if_pos hb').symm.trans z
    cases z'
    obtain⟨c,_,e3,_⟩:=tabAt hb'
    exact e3
   ·have z':=(if_neg hb').symm.trans z
    cases z'
  ·by_cases hb':b ∈ tabs.map (·.2)
   ·exact .inr hb'
   ·exact absurd (if_neg hb') z
 | none =>
  refine core (fun b=>if b ∈ tabs.map (·.2) then some (.tbl #[]) else if b=a then some (.frz { cls:=.type "list",data:=.seq vs.toArray } (.lst (ns.map V.int))) else none) (fun b=>?_)
   (.inl (.inr ⟨{ cls:=.type "list",data:=.seq vs.toArray },(if_neg naT).trans (if_pos rfl)⟩)) (fun b u z=>?_) (fun b z=>?_) fun _=>hk
  ·by_cases hb':b ∈ tabs.map (·.2)
   ·exact .inl ⟨hb',if_pos hb'⟩
   ·refine .inr ⟨hb',?_⟩
    by_cases hba:b=a
    ·exact .inr ⟨_,_,(if_neg hb').trans (if_pos hba)⟩
    ·exact .inl ((if_neg hb').trans (if_neg hba))
  ·by_cases hb':b ∈ tabs.map (·.2)
   ·have z':=(if_pos hb').symm.trans z
    cases z'
    obtain⟨c,_,e3,_⟩:=tabAt hb'
    exact e3
   ·have z':=(if_neg hb').symm.trans z
    by_cases hba:b=a
    ·have z2:=(if_pos hba).symm.trans z'
     cases z2
     subst hba
     exact⟨ha,by rw[zB]; exact hl,vs,_,rv,ha⟩
    ·have z2:=(if_neg hba).symm.trans z'
     cases z2
  ·by_cases hb':b ∈ tabs.map (·.2)
   ·exact .inr hb'
   ·by_cases hba:b=a
    ·exact .inl hba
    ·exact absurd ((if_neg hb').trans (if_neg hba)) z
end L2
namespace L2
open PySem PySem.Spec PyProof.Rows PySem.W
theorem tabIn_of {K:PySem.W.Frag} {x:Str} {f c P:Addr} {oc oc':Value} {od od':Option Addr} {fd:FuncData} {vs:Array Value} {sl sl':Array (Option Value)} (e1:nsIn K mainGlobals x=some (some (.ref f))) (e2:K.lookup f=some ⟨oc,od,.func fd,sl⟩) (e3:fd.code=.ref c)
  (e4:K.lookup c=some ⟨oc',od',.fields vs,sl'⟩) (e5:vs[11]?=some (.ref P)):tabIn K x=some (c,P):=by
 unfold tabIn
 simp only [e1,e2,e3,e4,e5]
end L2
namespace L2
open PySem PySem.Spec PyProof.Rows PySem.W
section
variable {P:Program} {w:World} {K:PySem.W.Frag} {mg:Str→Option Value} {base:Heap}
theorem Fun.okC {x qual:Str} {st:Stmt} {f c:Addr} {fd:FuncData} {N ps:List Str} {k:Nat} {sp:Sp} (F:Fun K x qual st f fd) (hc:fd.code=.ref c) (S:FnScope N ps (defScope st)) (len:∀ vs H Q E,sp vs H Q E→vs.length=ps.length)
  (hbody:∀(A:Around) (outer:List Env) (s:Shared) (H:Hp) (vs:List V) (Q:VK) (E:XK),Room k (A.deeper (envOfC qual (defScope st) s.heap.objs.size f (.ref c)))→sp vs H Q E →
   ∃ t,PSs (cxOf CX0 P w K mg base N qual (defScope st) f (.ref c) A outer s H E).nox (defBody st) t∧t { nx:=fun _ H'=>Q .non H',rt:=Q } (start N vs) H):FnOk P w K mg base CX0 (k + 1) f fd ps sp:=by
 obtain⟨oc,od,kV,doc,pm,an,cdv,ct,osl,rfl,lk,hcd⟩:=F.ex
 have e:cdv=.ref c:=hc
 subst e
 refine fn_of lk hcd S len fun A outer s H vs Q E hr hsp=>?_
 obtain⟨t,h,q⟩:=hbody A outer s H vs Q E hr hsp
 exact⟨t,h.nox,q⟩
end
structure Sm (H H':Hp):Prop where
 keep:∀ b u,H b=some u→(∀ ps,u ≠ .tbl ps)→H' b=some u
 tabs:∀ b ps,H b=some (.tbl ps)→∃ ps',H' b=some (.tbl ps')
section
variable {H H' H'':Hp} {b p:Addr} {o:HO} {xs:List V}
theorem Sm.of (s:Same H H'):Sm H H':=⟨fun b u e _=>s b u e,fun b ps e=>⟨ps,s _ _ e⟩⟩
theorem Sm.trans (a:Sm H H') (b:Sm H' H''):Sm H H'':=⟨fun c u e n=>b.keep c u (a.keep c u e n) n,fun c ps e=>let ⟨ps',e'⟩:=a.tabs c ps e; b.tabs c ps' e'⟩
theorem Sm.tup (s:Sm H H') (e:H b=some (.tup xs)):H' b=some (.tup xs):=s.keep _ _ e fun _ z=>nomatch z
theorem Sm.lst (s:Sm H H') (e:H b=some (.lst xs)):H' b=some (.lst xs):=s.keep _ _ e fun _ z=>nomatch z
theorem Sm.free (s:Sm H H') (n:H' b=none):H b=none:=by
 cases e:H b with
 | none=>rfl
 | some u =>
  by_cases h:∃ ps,u=.tbl ps
  ·obtain⟨ps,rfl⟩:=h
   obtain⟨ps',e'⟩:=s.tabs b ps e
   rw[n] at e'; cases e'
  ·rw[s.keep b u e fun ps z=>h ⟨ps,z⟩] at n; cases n
theorem Sm.upd (s:Sm H H') (n:H p=none):Sm H (upd H' p o) :=
 ⟨fun b u e h=>by rw[upd_ne (ne_of_none e n)]; exact s.keep b u e h,fun b ps e=>by rw[upd_ne (ne_of_none e n)]; exact s.tabs b ps e⟩
end
def LamT (P:Addr) (q:Str) (ln cl:Nat) (H:Hp):Prop:=H P=some (.tbl #[])∨∃ c',H P=some (.tbl #[rawInt ln,rawInt cl,.ref c'])∧H c'=some (codeO c' q)
theorem LamT.same {P:Addr} {q:Str} {ln cl:Nat} {H H':Hp} (h:LamT P q ln cl H) (s:Same H H'):LamT P q ln cl H':=by
 rcases h with h|⟨c',h1,h2⟩
 ·exact .inl (s _ _ h)
 ·exact .inr ⟨c',s _ _ h1,s _ _ h2⟩
theorem LamT.updL {P p:Addr} {q:Str} {ln cl:Nat} {H:Hp} {xs:List V} {o:HO} (h:LamT P q ln cl H) (e:H p=some (.lst xs)):LamT P q ln cl (upd H p o):=by
 rcases h with h|⟨c',h1,h2⟩
 ·exact .inl (by rw[upd_ne (ne_of h e fun z=>nomatch z)]; exact h)
 ·exact .inr ⟨c',by rw[upd_ne (ne_of h1 e fun z=>nomatch z)]; exact h1,by rw[upd_ne (ne_of h2 e fun z=>nomatch z)]; exact h2⟩
theorem rSrt_of {K:PySem.W.Frag} {P l:Addr} {q:Str} {ln cl:Nat} {i:Int} {Q:VK} {xs:List V} {kz:List Int} {H1:Hp} (hl:SqL K H1 l xs) (h64:xs.length < 64) (hlen:kz.length=xs.length)
  (hk:∀(j:Nat) x k,xs[j]?=some x→kz[j]?=some k→∃ t ys,x=.ref t∧SqT K H1 t ys∧atI ys i=some (.int k)) (hT:LamT P q ln cl H1)
  (fin:∀ H6 D out,Sm H1 H6→LamT P q ln cl H6→H1 D=none→H6 D=some (.lst out)→StabV kz xs out→Q (.ref D) H6):rSrt K P q ln cl i Q (.ref l) H1:=by
 refine⟨l,xs,kz,rfl,hl,h64,hlen,hk,?_⟩
 rcases hT with hP|⟨c',hP,hc'⟩
 ·refine .inl ⟨hP,fun c' D out nc ne nD st=>fin _ D out ?_ ?_ nD upd_same st⟩
  ·have ncP:P ≠ c':=ne_of_none hP nc
   have nDP:P ≠ D:=ne_of_none hP nD
   refine⟨fun b u e h=>?_,fun b ps e=>?_⟩
   ·rw[upd_ne (ne_of_none e nD),upd_ne (ne_of_none e nc),upd_ne (ne_of e hP (h _))]; exact e
   ·by_cases hb:b=P
    ·subst hb; exact⟨_,by rw[upd_ne nDP,upd_ne ncP,upd_same]⟩
    ·exact⟨ps,by rw[upd_ne (ne_of_none e nD),upd_ne (ne_of_none e nc),upd_ne hb]; exact e⟩
  ·exact .inr ⟨c',by rw[upd_ne (ne_of_none hP nD),upd_ne (ne_of_none hP nc),upd_same],by rw[upd_ne ne,upd_same]⟩
 ·refine .inr ⟨c',hP,hc',fun D out nD st=>fin _ D out (Sm.of (Same.new nD)) ?_ nD upd_same st⟩
  exact LamT.same (.inr ⟨c',hP,hc'⟩) (Same.new nD)
theorem perm_unique {R:Nat→Nat→Prop} (asym:∀ a b,R a b→R b a→False):∀ {l₁ l₂:List Nat},l₁.Perm l₂→l₁.Pairwise R→l₂.Pairwise R→l₁=l₂
 | [],l₂,p,_,_=>by rw[List.nil_perm.mp p]
 | a::l₁,[],p,_,_=>by have:=p.length_eq; simp at this
 | a::l₁,b::l₂,p,h1,h2=>by
  have r1:=jJ.mp h1
  have r2:=jJ.mp h2
  have e:a=b:=by
   rcases zT.mp (p.mem_iff.mp (zN (a:=a))) with e|m
   ·exact e
   ·rcases zT.mp (p.mem_iff.mpr (zN (a:=b))) with e|m'
    ·exact e.symm
    ·exact(asym a b (r1.1 b m') (r2.1 a m)).elim
  subst e
  rw[perm_unique asym (List.Perm.cons_inv p) r1.2 r2.2]
theorem stab_is {kz:List Int} {n m:Nat} {is:List Nat} (hb:∀ i,i < n→0≤kz.getD i 0∧kz.getD i 0 < m) (hp:is.Perm (List.range n)) (hw:is.Pairwise (fun i j=>kz.getD i 0 < kz.getD j 0∨(kz.getD i 0=kz.getD j 0∧i < j))) :
  is=(List.range m).flatMap fun(t:Nat)=>(List.range n).filter fun i=>kz.getD i 0 == (t:Int):=by
 have hj:((List.range m).flatMap fun(t:Nat)=>(List.range n).filter fun i=>kz.getD i 0 == (t:Int)).Pairwise (fun i j=>kz.getD i 0 < kz.getD j 0∨(kz.getD i 0=kz.getD j 0∧i < j)):=by
  rw[List.pairwise_flatMap]
  refine⟨fun t _=>?_,?_⟩
  ·have h1:((List.range n).filter fun i=>kz.getD i 0 == (t:Int)).Pairwise (· < ·):=List.Pairwise.filter _ vD
   refine List.Pairwise.imp_of_mem (fun {i j} hi hj h=>?_) h1
   have e1:=(yJ.mp hi).2
   have e2:=(yJ.mp hj).2
   simp at e1 e2
   exact .inr ⟨by simp; omega,h⟩
  ·refine List.Pairwise.imp (fun {t u} h i hi j hj=>?_) (vD (n:=m))
   have e1:=(yJ.mp hi).2
   have e2:=(yJ.mp hj).2
   simp at e1 e2
   exact .inl (by simp; omega)
 refine perm_unique (fun a b h1 h2=>by omega) (hp.trans ?_) hw hj
 refine(List.perm_ext_iff_of_nodup List.nodup_range (hj.imp fun h e=>by subst e; omega)).mpr fun i=>?_
 rw[yV,jV]
 constructor
 ·intro h
  obtain⟨h1,h2⟩:=hb i h
  refine⟨(kz.getD i 0).toNat,yV.mpr (by omega),yJ.mpr ⟨yV.mpr h,?_⟩⟩
  have:((kz.getD i 0).toNat:Int)=kz.getD i 0:=by omega
  rw[this]
  simp
 ·rintro⟨t,_,h⟩
  exact yV.mp (yJ.mp h).1
theorem range_filter {α:Type} (d:α) (f:α→Bool):∀ L:List α,((List.range L.length).filter fun i=>f (L.getD i d)).map (fun i=>L.getD i d)=L.filter f:=fun L=>by
 have e:L=(List.range L.length).map fun i=>L.getD i d:=by
  refine yW fun k=>?_
  rw[zJ]
  by_cases h:k < L.length
  ·rw[jH h,zC h]
   show _=some (L.getD k d)
   rw[zE,zC h]
   rfl
  ·rw[qO (by omega),qO (by simp; omega)]
   rfl
 conv=>rhs; rw[e]
 rw[List.filter_map]
 rfl
theorem stab_bucket {α:Type} (d:α) (key:α→Int) {L:List α} {m:Nat} {is:List Nat} (hb:∀ x ∈ L,0≤key x∧key x < m) (hp:is.Perm (List.range L.length))
  (hw:is.Pairwise (fun i j=>(L.map key).getD i 0 < (L.map key).getD j 0∨((L.map key).getD i 0=(L.map key).getD j 0∧i < j))) :
  is.map (fun i=>L.getD i d)=(List.range m).flatMap fun(t:Nat)=>L.filter fun x=>key x == (t:Int):=by
 have eg:∀ i,i < L.length→(L.map key).getD i 0=key (L.getD i d):=fun i h=>by
  rw[zE,zJ,zC h,zE,zC h]
  rfl
 have hm:∀ i,i < L.length→L.getD i d ∈ L:=fun i h=>by
  rw[zE,zC h]
  exact kK h
 rw[stab_is (n:=L.length) (m:=m) (fun i h=>by rw[eg i h]; exact hb _ (hm i h)) hp hw,jW]
 congr 1
 funext t
 rw[← range_filter d (fun x=>key x == (t:Int)) L]
 congr 1
 refine kE fun i hi=>?_
 rw[eg i (yV.mp hi)]
theorem paired_pick {α:Type} {F:V→α→Prop} (d:α) {xs:List V} {L:List α} (r:Paired F xs L):∀ is:List Nat,(∀ i ∈ is,i < xs.length)→Paired F (is.map fun i=>xs.getD i .non) (is.map fun i=>L.getD i d)
 | [],_=>.nil
 | i::is,h=>by
  have e:xs[i]?=some (xs.getD i .non):=by rw[zE,zC (h i (.head _))]; rfl
  obtain⟨u,e2,r2⟩:=PySem.Paired.getL r e
  have e3:L.getD i d=u:=by rw[zE,e2]; rfl
  refine .cons ?_ (paired_pick d r is fun j hj=>h j (.tail _ hj))
  show F (xs.getD i .non) (L.getD i d)
  rw[e3]; exact r2
end L2
namespace L2
open PySem PyProof.Rows
theorem min_nm:(toString "min"++toString ".loop":String)="min.loop":=by decide
def itO (l:Addr):Obj:={ cls:=.type "list_iterator",data:=.fields #[.ref l,.int 0 0] }
def TupK (h h':Heap):Prop:=∀ b o,o.cls=.type "tuple"→h.get? b=some o→h'.get? b=some o
theorem tupK_upd {h:Heap} {S:Addr} {f:Obj→Obj} {o:Obj} (hS:h.get? S=some o) (hc:o.cls=.type "list"):TupK h (h.update S f):=fun b ob hb e=>by
 have hne:S ≠ b:=fun z=>by
  subst z
  rw[hS] at e
  cases e
  rw[hc] at hb
  exact absurd hb (by decide)
 exact(Heap.get?_update_other _ _ hne).trans e
theorem tupK_it {h h':Heap} {I l:Addr} {j:Nat} (hI:h.IsListIter I l j) (hk:∀ b o,b ∉ [I]→h.get? b=some o→h'.get? b=some o):TupK h h':=fun b ob hb e=>by
 refine hk b ob (fun z=>?_) e
 obtain⟨o,e1,hc,_⟩:=hI
 rw[zR.mp z,e1] at e
 cases e
 rw[hc] at hb
 exact absurd hb (by decide)
section
variable {prog:Program} {w:World} {A:Around} {R:Result→Shared→Prop} {I S l:Addr} {vs:List Value} {KI:Heap→Nat→Value→Prop} {bt:Nat→Nat→Bool} {kw:List (Str × Value)}
theorem mnK_loop {q:Addr} (hh:A.handled=none) (hlI:l ≠ I) (hSI:S ≠ I) (hlS:l ≠ S) (s₀:Shared) (turn:∀ i v,vs[i]?=some v→∀ h tk (Q E:Value→Shared→Prop),Kept s₀.heap h→(∀ u h' tk',Kept h h'→KI h' i u→Q u { s₀ with heap:=h',toks:=tk' })→wpAny (model prog w) A.in1 (call (.ref q) [v]) Q E { s₀ with heap:=h,toks:=tk })
  (mono:∀ h h' i u,KI h i u→TupK h h'→KI h' i u) (hcmp:∀ i j u v (s:Shared) (Q E:Value→Shared→Prop),KI s.heap i u→KI s.heap j v→Q (.bool (bt i j)) s→wpAny (model prog w) A.in1 (richCompare .Lt u v) Q E s)
  (hfI:s₀.heap.get? I=none) (hfS:s₀.heap.get? S=none)
  (hR:∀ v h' tk,vs[argBest bt (vs.length - 1)]?=some v→Kept s₀.heap h'→R (.ok (.ret v)) { s₀ with heap:=h',toks:=tk }) :
  ∀(k j:Nat) (h:Heap) (tk:Nat) (vb kb:Value) (c:Nat),vs.length - (j + 1)=k→j + 1≤vs.length→Kept s₀.heap h→h.IsListIter I l (j + 1)→h.IsList l vs.toArray→KI h (argBest bt j) kb→vs[argBest bt j]?=some vb →
   h.get? S=some (seqObj "list" #[vb,kb] c)→
   codeAny (model prog w) A (.builtin "min.loop" ⟨[.ref I,.ref q,.ref S],kw⟩) R { s₀ with heap:=h,toks:=tk }:=by
 have W:=Walks.list (prog:=prog) (w:=w) (A:=A.in1) hh I l hlI vs.toArray
 have hsz:vs.toArray.size=vs.length:=zL ..
 intro k
 induction k with
 | zero =>
  intro j h tk vb kb c hk hj K0 hit hls hK hvb hS 
  have hin:j + 1=vs.length:=by omega
  refine codeAny_builtin PySem.F.entry_min_loop (by
   rw[Around.under_plainId PySem.F.plain_min_loop _]
   refine wpAny_bind (m:=seqItems? (.ref S)) (wpAny_seqItems hS rfl (wpAny_bind (wpAny_tryCatch (W.done _ _ _ ⟨by rw[hsz,← hin]; exact hit,hls⟩ fun h' tk' hk'=>?_))))
   have hS':=hk' S _ (fun z=>hSI (zR.mp z)) hS
   refine wpAny_bind (m:=updateSeq S (fun _=>#[])) (wpAny_updateSeq hS' rfl (wpAny_bind (wpAny_letGo (wpAny_pure ?_))))
   refine hR vb _ _ (by rw[← hin]; exact hvb) fun b o e=>?_
   have n1:b ≠ S:=fun z=>by rw[z,hfS] at e; cases e
   have n2:b ≠ I:=fun z=>by rw[z,hfI] at e; cases e
   exact(Heap.get?_update_other _ _ (Ne.symm n1)).trans (hk' b o (fun z=>n2 (zR.mp z)) (K0 b o e)))
 | succ k ih =>
  intro j h tk vb kb c hk hj K0 hit hls hK hvb hS 
  have hlt:j + 1 < vs.length:=by omega
  refine codeAny_builtin PySem.F.entry_min_loop (by
   rw[Around.under_plainId PySem.F.plain_min_loop _]
   refine wpAny_bind (m:=seqItems? (.ref S)) (wpAny_seqItems hS rfl (wpAny_bind (wpAny_tryCatch (W.item (j + 1) _ _ _ (by rw[hsz]; exact hlt) ⟨hit,hls⟩ fun v h' tk' hP hst' hk'=>?_))))
   have hv:vs[j + 1]?=some v:=by simpa using hP
   have hS':=hk' S _ (fun z=>hSI (zR.mp z)) hS
   have T1:=tupK_it hit hk'
   have K1:Kept s₀.heap h':=fun b o e=>hk' b o (fun z=>by rw[zR.mp z,hfI] at e; cases e) (K0 b o e)
   refine wpAny_bind (m:=tryCatch (holding [v] (call (.ref q) [v])) _) (wpAny_tryCatch (wpAny_holding (turn (j + 1) v hv h' tk' _ _ K1 fun u h2 tk2 k2 hKu=>?_)))
   obtain⟨oI,i1,i2,i3⟩:=hst'.1
   obtain⟨oL,l1,l2⟩:=hst'.2
   have st2:h2.IsListIter I l (j + 1 + 1)∧h2.IsList l vs.toArray:=⟨⟨oI,k2 _ _ i1,i2,i3⟩,⟨oL,k2 _ _ l1,l2⟩⟩
   have K2:Kept s₀.heap h2:=fun b o e=>k2 b o (K1 b o e)
   have hS2:=k2 _ _ hS'
   have hKb:KI h2 (argBest bt j) kb:=mono _ _ _ _ hK fun b o c e=>k2 b o (T1 b o c e)
   refine wpAny_bind (wpAny_tryCatch (wpAny_holding (wpAny_bind (m:=richCompare .Lt u kb) (hcmp (j + 1) (argBest bt j) u kb _ _ _ hKu hKb ?_))))
   refine wpAny_bind (wpAny_holding (wpAny_truthy_bool (wpAny_bind (wpAny_letGo (wpAny_pure ?_)))))
   cases hb:bt (j + 1) (argBest bt j) with
   | true =>
    simp only [if_true]
    refine wpAny_bind (wpAny_updateSeq hS2 rfl (wpAny_bind (wpAny_letGo ?_)))
    rw[min_nm]
    have T3:TupK h2 (h2.update S (Obj.mapSeq fun _=>#[v,u])):=tupK_upd hS2 rfl
    have oth:∀ b o,b ≠ S→h2.get? b=some o→(h2.update S (Obj.mapSeq fun _=>#[v,u])).get? b=some o:=fun b o n e=>(Heap.get?_update_other _ _ (Ne.symm n)).trans e
    obtain⟨oI,i1,i2,i3⟩:=st2.1
    obtain⟨oL,l1,l2⟩:=st2.2
    refine wpAny_pure ⟨plainId_quiet PySem.F.plain_min_loop _,ih (j + 1) _ _ v u _ (by omega) hlt (fun b o e=>oth b o (fun z=>by rw[z,hfS] at e; cases e) (K2 b o e)) ⟨oI,oth _ _ hSI.symm i1,i2,i3⟩ ⟨oL,oth _ _ hlS l1,l2⟩ ?_ ?_ (Heap.get?_update_self _ hS2 rfl) ⟩
    ·simp only [argBest,hb,if_true]; exact mono _ _ _ _ hKu T3
    ·simp only [argBest,hb,if_true]; exact hv
   | false =>
    simp only [yB,if_false]
    refine wpAny_bind (wpAny_letGo ?_)
    rw[min_nm]
    refine wpAny_pure ⟨plainId_quiet PySem.F.plain_min_loop _,ih (j + 1) _ _ vb kb _ (by omega) hlt K2 st2.1 st2.2 ?_ ?_ hS2 ⟩
    ·simp only [argBest,hb,yB,if_false]; exact hKb
    ·simp only [argBest,hb,yB,if_false]; exact hvb)
theorem mnKy_call {q:Addr} {Q E:Value→Shared→Prop} {s:Shared} (hh:A.handled=none) (hl:s.heap.IsList l vs.toArray) (ha:argsOk "min" ⟨[.ref l],[(Str.ofString "key",.ref q)]⟩) (turn:∀ i v,vs[i]?=some v→∀ h tk (Q E:Value→Shared→Prop),Kept s.heap h→(∀ u h' tk',Kept h h'→KI h' i u→Q u { s with heap:=h',toks:=tk' })→wpAny (model prog w) A.in1 (call (.ref q) [v]) Q E { s with heap:=h,toks:=tk })
  (mono:∀ h h' i u,KI h i u→TupK h h'→KI h' i u) (hcmp:∀ i j u v (s:Shared) (Q E:Value→Shared→Prop),KI s.heap i u→KI s.heap j v→Q (.bool (bt i j)) s→wpAny (model prog w) A.in1 (richCompare .Lt u v) Q E s)
  (hne:0 < vs.length→∀ v h' tk,vs[argBest bt (vs.length - 1)]?=some v→Kept s.heap h'→Q v { s with heap:=h',toks:=tk })
  (hpos:0 < vs.length) :
  wpAny (model prog w) A (call (.builtin "min") [.ref l] [(Str.ofString "key",.ref q)]) Q E s:=by
 refine kmk_tree PySem.F.kind_min PySem.F.plain_min PySem.F.entry_min ha ?_
 refine wpAny_bind (m:=Builtin.Builtins.bindParams "min" ["key","default"] 0 ⟨[],[(Str.ofString "key",.ref q)]⟩) (wpAny_of_eq (show Builtin.Builtins.bindParams "min" ["key","default"] 0 ⟨[],[(Str.ofString "key",.ref q)]⟩=pure [some (.ref q),none] from rfl) ?_)
 refine wpAny_bind (wpAny_pure (wpAny_bind (wpAny_pyIter_list hl (wpAny_bind (wpAny_newList ?_ (zZ _))))))
 rw[min_nm]
 refine wpAny_pure ⟨plainId_quiet PySem.F.plain_min_loop _,?_⟩
 have hll:l < s.heap.objs.size:=by obtain⟨o,e,_⟩:=hl; exact Heap.lt_size e
 show codeAny _ _ _ _ { s with heap:=(s.heap.push (itO l)).push (seqObj "list" #[] 0) }
 have gI:((s.heap.push (itO l)).push (seqObj "list" #[] 0)).get? s.heap.objs.size=some (itO l):=Heap.get?_push_of_some _ (Heap.get?_push_size _ rfl)
 have hSz:(s.heap.push (itO l)).objs.size=s.heap.objs.size + 1:=size_push' ..
 have gS:((s.heap.push (itO l)).push (seqObj "list" #[] 0)).get? (s.heap.push (itO l)).objs.size=some (seqObj "list" #[] 0):=Heap.get?_push_size _ rfl
 have KK:Kept s.heap ((s.heap.push (itO l)).push (seqObj "list" #[] 0)):=fun b o e=>Heap.get?_push_of_some _ (Heap.get?_push_of_some _ e)
 have hl2:((s.heap.push (itO l)).push (seqObj "list" #[] 0)).IsList l vs.toArray:=by obtain⟨o,e,r⟩:=hl; exact⟨o,KK _ _ e,r⟩
 rw[hSz] at gS
 have hSz':(s.heap.push { cls:=.type "list_iterator",data:=.fields #[.ref l,.int 0 0] }).objs.size=s.heap.objs.size + 1:=hSz
 try rw[hSz']
 generalize hI:s.heap.objs.size=I at *
 have hlI:l ≠ I:=zY hll
 have hSI:I + 1 ≠ I:=Nat.succ_ne_self _
 have hlS:l ≠ I + 1:=zY (qP hll)
 have hfI:s.heap.get? I=none:=Heap.get?_none_of_le (by omega)
 have hfS:s.heap.get? (I + 1)=none:=Heap.get?_none_of_le (by omega)
 generalize ((s.heap.push (itO l)).push (seqObj "list" #[] 0))=h1 at *
 have W:=Walks.list (prog:=prog) (w:=w) (A:=A.in1) hh I l hlI vs.toArray
 have hsz:vs.toArray.size=vs.length:=zL ..
 have hit:h1.IsListIter I l 0:=⟨_,gI,rfl,rfl⟩
 refine codeAny_builtin PySem.F.entry_min_loop (by
  rw[Around.under_plainId PySem.F.plain_min_loop _]
  by_cases hn:0 < vs.length
  ·refine wpAny_bind (m:=seqItems? (.ref (I + 1))) (wpAny_seqItems gS rfl (wpAny_bind (wpAny_tryCatch (W.item 0 _ _ _ (by rw[hsz]; exact hn) ⟨hit,hl2⟩ fun v h' tk' hP hst' hk'=>?_))))
   have hv:vs[0]?=some v:=by simpa using hP
   have hS':=hk' (I + 1) _ (fun z=>hSI (zR.mp z)) gS
   have K1:Kept s.heap h':=fun b o e=>hk' b o (fun z=>by rw[zR.mp z,hfI] at e; cases e) (KK b o e)
   refine wpAny_bind (m:=tryCatch (holding [v] (call (.ref q) [v])) _) (wpAny_tryCatch (wpAny_holding (turn 0 v hv h' tk' _ _ K1 fun u h2 tk2 k2 hKu=>?_)))
   obtain⟨oI0,i10,i20,i30⟩:=hst'.1
   obtain⟨oL0,l10,l20⟩:=hst'.2
   have st2:h2.IsListIter I l 1∧h2.IsList l vs.toArray:=⟨⟨oI0,k2 _ _ i10,i20,i30⟩,⟨oL0,k2 _ _ l10,l20⟩⟩
   have K2:Kept s.heap h2:=fun b o e=>k2 b o (K1 b o e)
   have hS2:=k2 _ _ hS'
   refine wpAny_bind (wpAny_updateSeq hS2 rfl ?_)
   rw[min_nm]
   have T3:TupK h2 (h2.update (I + 1) (Obj.mapSeq fun _=>#[v,u])):=tupK_upd hS2 rfl
   have oth:∀ b o,b ≠ I + 1→h2.get? b=some o→(h2.update (I + 1) (Obj.mapSeq fun _=>#[v,u])).get? b=some o:=fun b o n e=>(Heap.get?_update_other _ _ (Ne.symm n)).trans e
   obtain⟨oI,i1,i2,i3⟩:=st2.1
   obtain⟨oL,l1,l2⟩:=st2.2
   refine wpAny_pure ⟨plainId_quiet PySem.F.plain_min_loop _,mnK_loop hh hlI hSI hlS s turn mono hcmp hfI hfS (fun v' h'' tk'' e1 e2=>hne hn v' h'' tk'' e1 e2) _ 0 _ _ v u _ rfl hn (fun b o e=>oth b o (fun z=>by rw[z,hfS] at e; cases e) (K2 b o e)) ⟨oI,oth _ _ hSI.symm i1,i2,i3⟩ ⟨oL,oth _ _ hlS l1,l2⟩ (mono _ _ _ _ hKu T3) hv (Heap.get?_update_self _ hS2 rfl)⟩
  ·exact absurd hpos hn)
end
end L2
namespace L2
open PySem PySem.Spec PyProof.Rows PySem.Calls
theorem best_lt (bt:Nat→Nat→Bool) (n:Nat):argBest bt n≤n:=by
 induction n with
 | zero=>exact zG _
 | succ n ih=>simp only [argBest]; split <;> omega
end L2
namespace L2
open PySem PySem.Spec PyProof.Rows PySem.W PySem.Calls
section
variable {prog:Program} {w:World} {A:Around} {s:Shared}
end
def kLt (a b:Int × Int):Bool:=HT.lexLt [a.1,a.2] [b.1,b.2]
def bestK (ks:List (Int × Int)):Nat:=argBest (fun i j=>kLt (ks.getD i (0,0)) (ks.getD j (0,0))) (ks.length - 1)
end L2
namespace L2
open PySem PySem.Spec PyProof.Rows
section
open PySem.SeqAt
open PySem.AutoSeq1 (wpAny_loadPart')
open PySem.MeetsSeq PySem.MeetsSeq2 PySem.MeetsSeq3
end
section
variable {prog:Program} {w:World} {A:Around} {E:Value→Shared→Prop} {s:Shared}
end
section
variable {X:Cx}
end
end L2
namespace L2
theorem len1 {α:Type} {us:List α} (h:us.length=1):∃ a,us=[a]:=List.length_eq_one_iff.mp h
theorem lenS {α:Type} {n:Nat} {us:List α} (h:us.length=n + 1):∃ a r,us=a::r∧r.length=n:=by
 cases us with
 | nil=>cases h
 | cons a r=>exact⟨a,r,rfl,Nat.succ.inj h⟩
theorem len2 {α:Type} {us:List α} (h:us.length=2):∃ a b,us=[a,b]:=by
 obtain⟨a,r,rfl,e⟩:=lenS h; obtain⟨b,rfl⟩:=len1 e; exact⟨a,b,rfl⟩
theorem len3 {α:Type} {us:List α} (h:us.length=3):∃ a b c,us=[a,b,c]:=by
 obtain⟨a,r,rfl,e⟩:=lenS h; obtain⟨b,c,rfl⟩:=len2 e; exact⟨a,b,c,rfl⟩
theorem len4 {α:Type} {us:List α} (h:us.length=4):∃ a b c d,us=[a,b,c,d]:=by
 obtain⟨a,r,rfl,e⟩:=lenS h; obtain⟨b,c,d,rfl⟩:=len3 e; exact⟨a,b,c,d,rfl⟩
end L2
namespace L2
open PySem PySem.Spec PyProof.Rows
open PySem.AutoSeq1 (wpAny_loadPart')
open PySem.MeetsSeq
section
theorem rem_loop (l:Addr) (items:Array Value) (n:Nat) (x:Value) (e:Nat→Bool) (j:Nat) (hj:j < items.size) (hit:e j=true) (hs1:items.size≤sizeLine) (k:Nat) :
  ∀ i:Nat,j - i=k→i≤j→(∀ m,i≤m→m < j→e m=false)→Meets (Builtin.«list.remove.loop» ⟨[.ref l,x,rawInt i],[]⟩)
   (fun A R s=>(∀ m (hm:m < items.size),SeqAt.EqAt A.in1 s items[m] x (e m))∧s.heap.get? l=some { cls:=.type "list",dict:=none,data:=.seq items n,slots:=#[] }∧R (.ok (.ret .none)) { s with heap:=s.heap.update l (Obj.mapSeq fun xs=>xs.eraseIdxIfInBounds j) }):=by
 induction k with
 | zero =>
  intro i hk hij hno prog w A R s h
  obtain⟨hp,g,d,tk,os⟩:=s; obtain⟨he,hl,h⟩:=h
  have hij':i=j:=Nat.le_antisymm hij (Nat.sub_eq_zero_iff_le.mp hk)
  subst hij'
  wp_walk using wpAny_loadPart' hl
  have hi:items[((i:Nat):Int).toNat]?=some items[i]:=by simp [hj]
  rw[hi]
  refine wpAny_bind (he i hj prog w _ _ ?_)
  rw[hit]
  have hz':(items.eraseIdxIfInBounds i).size≤sizeLine + 1:=yA (size_erased items _) (j9 hs1)
  wp_walk using (wpAny_updateSeq hl rfl (hz:=hs1) (_hz':=hz')),wpAny_loadPart' hl
  simpa using h
 | succ k ih =>
  intro i hk hij hno prog w A R s h
  obtain⟨hp,g,d,tk,os⟩:=s; obtain⟨he,hl,h⟩:=h
  have hlt:i < items.size:=qH hij hj
  have hlj:i < j:=by omega
  wp_walk using wpAny_loadPart' hl
  have hi:items[((i:Nat):Int).toNat]?=some items[i]:=by simp [hlt]
  have hc:((i:Int) + 1)=((i + 1:Nat):Int):=by push_cast; rfl
  rw[hi]
  refine wpAny_bind (he i hlt prog w _ _ ?_)
  rw[hno i (zG _) hlj]
  wp_walk
  rw[hc]
  exact⟨plainId_quiet plain_remove_loop _,codeAny_builtin entry_remove_loop (by
   rw[Around.under_plainId plain_remove_loop _]
   exact ih (i + 1) (by omega) hlj (fun m h1 h2=>hno m (by omega) h2) prog w A R _ ⟨he,hl,h⟩)⟩
theorem rem_meets (l:Addr) (items:Array Value) (n:Nat) (x:Value) (e:Nat→Bool) (j:Nat) (hj:j < items.size) (hit:e j=true) (hno:∀ m,m < j→e m=false) (hs1:items.size≤sizeLine) :
  Meets (Builtin.«list.remove» ⟨[.ref l,x],[]⟩)
   (fun A R s=>(∀ m (hm:m < items.size),SeqAt.EqAt A.in1 s items[m] x (e m))∧s.heap.get? l=some { cls:=.type "list",dict:=none,data:=.seq items n,slots:=#[] }∧R (.ok (.ret .none)) { s with heap:=s.heap.update l (Obj.mapSeq fun xs=>xs.eraseIdxIfInBounds j) }):=by
 intro prog w A R s h
 obtain⟨hp,g,d,tk,os⟩:=s; obtain⟨he,hl,h⟩:=h
 wp_walk using wpAny_loadPart' hl
 exact⟨plainId_quiet plain_remove_loop _,codeAny_builtin entry_remove_loop (by
  rw[Around.under_plainId plain_remove_loop _]
  exact rem_loop l items n x e j hj hit hs1 _ 0 rfl (zZ _) (fun m _ h2=>hno m h2) prog w A R _ ⟨he,hl,h⟩)⟩
end
section
variable {X:Cx}
inductive rRemove (K:PySem.W.Frag) (x:V) (vs:List V) (H:Hp) (Q:VK):Prop where
 | mk (l:Addr) (xs:List V) (y:V) (ds:List PyData) (d:PyData) (n j:Nat) (h_0:x=.ref l) (h_1:vs=[y]) (h_2:H l=some (.lst xs)) (h_3:Paired (fun x d=>Dt K H n x d) xs ds) (h_4:Dt K H n y d) (h_5:n≤60) (h_6:j < xs.length) (h_7:PyData.eqv (ds.getD j .none) d=true) (h_8:(∀ m,m < j→PyData.eqv (ds.getD m .none) d=false)) (h_9:Q .non (upd H l (.lst (xs.eraseIdx j)))):rRemove K x vs H Q
theorem mt_remove (hu:X.A.units + 64 < cLine):MtM X "list.remove" (rRemove X.K):=by
 intro pins s σ H x vs v us Q I rx rv h
 obtain⟨l,xs,y,ds,d,n,j,rfl,rfl,hH,hp,hy,hn,hj,hit,hno,q⟩:=h
 cases rx
 obtain⟨u,rfl,ru⟩:=rv.one
 obtain⟨z,its,c,r,hl,e⟩:=I.lstM hH
 obtain⟨⟨as,ra⟩,ca,da⟩:=hy.reads I ru
 refine call_meets F.slot_list_remove ⟨_,e,rfl⟩ F.entry_list_remove (F.args_list_remove_2 _ _)
  (rem_meets l its.toArray c u (fun m=>PyData.eqv (ds.getD m .none) d) j (by rw[zL,← hl]; exact hj) hit hno (by rw[zL]; omega)) ⟨fun m hm=>?_,e,?_⟩
 ·rw[zL] at hm
  have ex:xs[m]?=some (xs[m]'(by omega)):=zC _
  obtain⟨b,hb,hd⟩:=hp.getL ex
  obtain⟨w,hw,rw'⟩:=r.get ex
  obtain⟨⟨bs,rb⟩,cb,db⟩:=hd.reads I rw'
  have e1:its.toArray[m]=w:=by
   have:=zC hm
   rw[hw] at this
   simpa using (Option.some.inj this).symm
  have e2:ds.getD m .none=b:=by rw[zE,hb]; rfl
  rw[e1,e2]
  refine SeqAt.eqAt_reads b d _ s w u bs as rb ra cb ca ?_
  show X.A.units + 1 + min b.depth d.depth < cLine
  omega
 ·refine⟨.non,_,I.lset (its':=its.eraseIdx j) hH e ?_ (r.eraseIdx j) ?_,rfl,q⟩
  ·show its.toArray.eraseIdxIfInBounds j=(its.eraseIdx j).toArray
   rw[kH]
  ·have:=len_erase xs j
   omega
end
end L2
namespace L2
open PySem PySem.Spec PyProof.Rows PySem.W PySem.Calls
def PairFn (P:Program) (w:World) (K:PySem.W.Frag) (A:Around) (f:Addr):Prop :=
 ∀(s:Shared) (t t2:Addr) (its zts:Array Value) (k1 k2:Int) (u1 u2:Tok) (Q E:Value→Shared→Prop),K.In s.heap→s.heap.NoLimit→IsTup s.heap t its→2≤its.size→its[1]?=some (.ref t2)→IsTup s.heap t2 zts→2≤zts.size→zts[0]?=some (.int k1 u1)→zts[1]?=some (.int k2 u2) →
  (∀ a h' tk',Kept s.heap h'→IsTup h' a #[.int k1 u1,.int k2 u2]→Q (.ref a) { s with heap:=h',toks:=tk' })→wpAny (model P w) A (call (.ref f) [.ref t]) Q E s
abbrev rkS (x:Str) (i:Int) (p1 p2 p3 p4 p5:Pos):Expr:=.Subscript (.Subscript (.Name x p1) (.Constant (.int 1) 0 p2) p3) (.Constant (.int i) 0 p4) p5
section
variable {P:Program} {w:World} {K:PySem.W.Frag} {A:Around}
theorem pair_fn {f:Addr} {x qual:Str} {params:Arguments} {scope:Scope} {dV kV doc pm cdv ct oc:Value} {an od:Option Addr} {osl:Array (Option Value)} {p1 p2 p3 p4 p5 q1 q2 q3 q4 q5 pt pr:Pos}
  (lk:K.lookup f=some ⟨oc,od,.func (PySem.W.fnOf qual qual params [.Return (some (.Tuple [rkS x 0 p1 p2 p3 p4 p5,rkS x 1 q1 q2 q3 q4 q5] 0 pt)) pr] scope dV kV doc pm an cdv ct),osl⟩)
  (hcd:PySem.W.codeIn K cdv qual=true) (hco:scope.isCoroutine=false) (hgen:scope.isGenerator=false) (hsn:scope.names.lookup x=some .local) (hkd:scope.kind=.function) (hnc:∀ y ∈ scope.names,y.2 ≠ NameKind.cell)
  (hroom:A.depth < recursionLimit) (hd:(x == ("__debug__":Str))=false)
  (hb:∀(s:Shared) (v:Value),BindsTo s (PySem.W.fnOf qual qual params [.Return (some (.Tuple [rkS x 0 p1 p2 p3 p4 p5,rkS x 1 q1 q2 q3 q4 q5] 0 pt)) pr] scope dV kV doc pm an cdv ct) ⟨[v],[]⟩ [(x,v)]):PairFn P w K A f:=by
 intro s t t2 its zts k1 k2 u1 u2 Q E KX lim ht hts h1 ht2 hzs z0 z1 hQ
 refine wpAny_call (codeAny_call_function hroom (KX _ _ lk) rfl hco hgen rfl (PySem.W.codeRec_of KX hcd) (hb s _ _ _ _ _ ?_))
 refine wpAny_newFunctionEnv hnc (fun y hy=>?_) (fun h₁ hns hsb=>⟨lim.fresh _ hsb,codeAny_func ?_⟩) hkd
 ·rw[zR.mp hy]; exact hsn
 ·have hk₁:Kept s.heap h₁:=fun b o e=>hsb.extBut b o (zY (Heap.lt_size e)) (Heap.get?_push_of_some _ e)
  have ht₁:IsTup h₁ t its:=let ⟨o,e,r⟩:=ht; ⟨o,hk₁ _ _ e,r⟩
  have ht₂:IsTup h₁ t2 zts:=let ⟨o,e,r⟩:=ht2; ⟨o,hk₁ _ _ e,r⟩
  have j1:seqIndex? 1 its.size=some 1:=by generalize its.size=n at hts; unfold seqIndex?; simp; omega
  have i0:seqIndex? 0 zts.size=some 0:=by generalize zts.size=n at hzs; unfold seqIndex?; simp; omega
  have i1:seqIndex? 1 zts.size=some 1:=by generalize zts.size=n at hzs; unfold seqIndex?; simp; omega
  refine wpAny_mono (E:=fun _ _=>False) (Q:=fun f s'=>∃ a h' tk',f=.ret (.ref a)∧s'={ s with heap:=h',toks:=tk' }∧Kept s.heap h'∧IsTup h' a #[.int k1 u1,.int k2 u2]) ?_ (fun f s' ⟨a,h',tk',e1,e2,kk,tt⟩=>by subst e1 e2; exact hQ a h' tk' kk tt) fun _ _ h'=>h'.elim
  refine wpAny_execs_cons (wpAny_Return_some (wpAny_Tuple_spliced (Calls.spliced_cons ?_)))
  refine Subscript_ (Subscript_ (wpAny_Name (wpAny_loadName_local hkd hsn hns (v:=.ref t) ?_ (wpAny_Constant_int ?_)) hd))
  ·show List.lookup x [(x,Value.ref t)]=_
   simp [List.lookup]
  refine subscriptTail_builtinR (x:=.ref t2) (s:={ s with heap:=h₁,toks:=s.toks + [(x,Value.ref t)].length + 1 }) ht₁.typeIs slot_tuple_getitem.lookup (getItem_tuple (j:=1) ht₁ (by decide) (by decide) j1 h1 ⟨rfl,?_⟩)
  refine wpAny_Constant_int (subscriptTail_builtinR (x:=.int k1 u1) (s:={ s with heap:=h₁,toks:=s.toks + [(x,Value.ref t)].length + 1 + 1 }) ht₂.typeIs slot_tuple_getitem.lookup (getItem_tuple (j:=0) ht₂ (by decide) (by decide) i0 z0 ⟨rfl,?_⟩))
  refine Calls.spliced_cons ?_
  refine Subscript_ (Subscript_ (wpAny_Name (wpAny_loadName_local hkd hsn hns (v:=.ref t) ?_ (wpAny_Constant_int ?_)) hd))
  ·show List.lookup x [(x,Value.ref t)]=_
   simp [List.lookup]
  refine subscriptTail_builtinR (x:=.ref t2) (s:={ s with heap:=h₁,toks:=s.toks + [(x,Value.ref t)].length + 1 + 1 + 1 }) ht₁.typeIs slot_tuple_getitem.lookup (getItem_tuple (j:=1) ht₁ (by decide) (by decide) j1 h1 ⟨rfl,?_⟩)
  refine wpAny_Constant_int (subscriptTail_builtinR (x:=.int k2 u2) (s:={ s with heap:=h₁,toks:=s.toks + [(x,Value.ref t)].length + 1 + 1 + 1 + 1 }) ht₂.typeIs slot_tuple_getitem.lookup (getItem_tuple (j:=1) ht₂ (by decide) (by decide) i1 z1 ⟨rfl,?_⟩))
  exact Calls.spliced_nil ⟨(by show 2≤sizeLine; decide),_,_,_,rfl,rfl,fun b o e=>Heap.get?_push_of_some _ (hk₁ b o e),IsTup.new _ _⟩
inductive rMinF (K:PySem.W.Frag) (Q:VK) (v:V) (H1:Hp):Prop where
 | mk (l xs ks:_) (h_0:v=.ref l) (h_1:SqL K H1 l xs) (h_2:ks.length=xs.length) (h_3:xs ≠ []) (h_4:(∀(j:Nat) x (k:Int × Int),xs[j]?=some x→ks[j]?=some k→∃ t ys t2 zs,x=.ref t∧SqT K H1 t ys∧ys[1]?=some (.ref t2)∧SqT K H1 t2 zs∧zs[0]?=some (.int k.1)∧zs[1]?=some (.int k.2))) (h_5:∀ x,xs[bestK ks]?=some x→Q x H1):rMinF K Q v H1
def tMinF (K:PySem.W.Frag) (ta:TE):TE:=fun σ H Q=>ta σ H (rMinF K Q)
theorem pe_minKF {X:Cx} {k:Nat} {f:Addr} {nm g:Str} {a:Expr} {ta:TE} {p kp pk pos:Pos} (hc:X.calm=true) (hr:Room k X.A) (hg:Gl X nm) (hm:X.mg nm=none) (hv:bootBuiltins nm=some (.builtin "min")) (hg2:Gl X g) (hm2:X.mg g=some (.ref f))
  (hf:PairFn X.prog X.w X.K X.A.in1 f) (ha:PE X a ta)
  (hn:nm ≠ "__name__":=by decide) (hdb:(nm == ("__debug__":Str))=false:=by decide) (hdg:(g == ("__debug__":Str))=false:=by decide)
  (hs:starEach [a] X.env=(false,eval a X.env)::starEach [] X.env:=by rfl) (he:backTo pos (starEach [a] X.env)=(false,eval a X.env)::backTo pos (starEach [] X.env):=by rfl)
  (hpl:(backTo pos (starEach [a] X.env)).any (·.1)=false:=by rfl) :
  PE X (.Call (.Name nm p) [a] [⟨some "key",.Name g pk,kp⟩] pos) (tMinF X.K ta):=by
 intro pins s σ H Q I h
 refine wpAny_Call_Name_kw (ld_blt I hg hm hv ?_ hn hdb)
 refine callWith_kw (thn (pa_cons ha pa_nil hs pos pins s σ H (fun vs H1=>match vs with|[v]=>rMinF X.K Q v H1|_=>False) I h) ?_) he hpl
 rintro us s1 ⟨vs,H1,I1,r,q1⟩
 match vs,r,q1 with
 | [v],r,q1 =>
 obtain⟨l,xs,ks,rfl,hl,hlen,hne,hkeys,hQ⟩:=q1
 cases r with
 | cons r0 r1 =>
 cases r1
 cases r0
 refine kws_cons (ld_glob I1 hg2 hm2 (kws_nil ?_) hdg)
 obtain⟨its,rv,hlst,hz⟩:=I1.list hl
 have hrl:=rv.length
 have hpos:0 < its.length:=by rw[← hrl]; exact List.length_pos_iff.mpr hne
 refine mnKy_call (KI:=fun h i u=>∃ a ts,u=.ref a∧IsTup h a ts∧IntsAre ts.toList [(ks.getD i (0,0)).1,(ks.getD i (0,0)).2]) (bt:=fun i j=>kLt (ks.getD i (0,0)) (ks.getD j (0,0))) (vs:=its) (I1.ok.hd hc) hlst.isList (kmk_min_key _ _) (fun i v hv h tk Q' E' kp fin=>?_) (fun h h' i u z tk=>?_) (fun i j u v s' Q' E' z1 z2 hq'=>?_) (fun hp v h' tk hv hk=>?_) hpos
 ·have hi:i < xs.length:=by rw[hrl]; exact(zA.mp hv).1
  have ex:xs[i]?=some xs[i]:=zC hi
  have ek:ks[i]?=some ks[i]:=zC (by omega)
  obtain⟨u,hu,ru⟩:=rv.get ex
  rw[hv] at hu
  cases hu
  obtain⟨t,ys,t2,zs,e1,ht,y1,ht2,z0,z1⟩:=hkeys i _ _ ex ek
  rw[e1] at ru
  cases ru
  obtain⟨jts,r2,pl,_⟩:=I1.tuple ht
  obtain⟨zts,r3,pl3,_⟩:=I1.tuple ht2
  obtain⟨w1,ew1,rw1⟩:=r2.get y1
  cases rw1
  obtain⟨w2,ew2,t0,rfl⟩:=r3.get z0
  obtain⟨w3,ew3,t1,rfl⟩:=r3.get z1
  have hl2:=(zA.mp ew1).1
  have hl3:=(zA.mp ew3).1
  have pl':IsTup h t jts.toArray:=let ⟨o,e,r⟩:=pl; ⟨o,kp _ _ e,r⟩
  have pl3':IsTup h t2 zts.toArray:=let ⟨o,e,r⟩:=pl3; ⟨o,kp _ _ e,r⟩
  refine hf { s1 with heap:=h,toks:=tk } t t2 _ _ _ _ _ _ _ _ (I1.kIn.keeps kp) (I1.nolimit.keeps kp) pl' (by rw[zL]; omega) (by simpa using ew1) pl3' (by rw[zL]; omega) (by simpa using ew2) (by simpa using ew3) (fun a h' tk' k' tt=>?_)
  refine fin _ h' tk' k' ⟨a,_,rfl,tt,?_⟩
  have eg:ks.getD i (0,0)=ks[i]:=by rw[zE,ek]; rfl
  rw[eg]
  exact .cons _ t0 (.cons _ t1 .nil)
 ·obtain⟨a,ts,e1,⟨o,e2,e3,e4⟩,e5⟩:=z
  exact⟨a,ts,e1,⟨o,tk a o e3 e2,e3,e4⟩,e5⟩
 ·obtain⟨a,ts,rfl,e2,e3⟩:=z1
  obtain⟨b,ts',rfl,e5,e6⟩:=z2
  refine HT.lt_tupInts (A:=X.A.in1) e2 e5 e3 e6 ?_ hq'
  have:=hr.un
  show X.A.units + 1 < _
  omega
 ·have hb:bestK ks=argBest (fun i j=>kLt (ks.getD i (0,0)) (ks.getD j (0,0))) (its.length - 1):=by unfold bestK; rw[hlen,hrl]
  rw[← hb] at hv
  have hi:bestK ks < xs.length:=by rw[hrl]; exact(zA.mp hv).1
  have ex:xs[bestK ks]?=some xs[bestK ks]:=zC hi
  obtain⟨u,hu,ru⟩:=rv.get ex
  rw[hv] at hu
  cases hu
  exact⟨_,H1,I1.kept (t':=tk) hk,ru,hQ _ ex⟩
end
end L2
namespace L2
open PySem PyProof.Rows
section
variable {X:Cx}
end
end L2
namespace L2
open PySem PyProof.Rows
section
variable {prog:Program} {w:World} {A:Around} {E:Value→Shared→Prop} {s:Shared}
theorem countP_lt {α:Type} {f g:α→Bool}:∀ {l:List α},(∀ x ∈ l,f x=true→g x=true)→(∃ x ∈ l,g x=true∧f x=false)→l.countP f < l.countP g
 | [],_,⟨_,h,_⟩=>absurd h zW
 | y::l,h,⟨x,hx,h1,h2⟩=>by
  have mono:l.countP f≤l.countP g:=vL fun z hz=>h z (zI _ hz)
  have hy:=h y zN
  rw[List.countP_cons,List.countP_cons]
  rcases zT.mp hx with e|e
  ·subst e
   rw[h1,h2]
   simp only [if_true,yB,if_false]
   omega
  ·have ih:=countP_lt (fun z hz=>h z (zI _ hz)) ⟨x,e,h1,h2⟩
   cases e1:f y with
   | true=>rw[hy e1]; simp only [if_true]; omega
   | false =>
    simp only [yB,if_false]
    split <;> omega
end
section
variable {X:Cx}
end
end L2
namespace L2
open PySem PyProof.Rows
section
variable {prog:Program} {w:World} {A:Around} {R:Result→Shared→Prop} {I S l:Addr} {vs:List Value} {KI:Heap→Nat→Value→Prop} {bt:Nat→Nat→Bool} {kw:List (Str × Value)}
end
section
variable {X:Cx}
end
end L2
namespace L2
open PySem PySem.Spec PyProof.Rows
section
variable {X:Cx}
end
end L2
namespace L2
open PySem PySem.Spec PyProof.Rows
section
variable {X:Cx} {scope:Scope} {cl:List (Str × Addr)} {x0:Str} {own fr:List Str} {js:List Nat} {pins:List (Addr × Obj)} {σ:St} {H:Hp} {s:Shared}
end
section
variable {X:Cx} {elt iter tg:Expr} {ifs:List Expr} {scope:Scope} {cl:List (Str × Addr)} {x0:Str} {own fr:List Str} {js:List Nat} {wi:TI} {g:TG} {tc:TT} {te:TE} {pos:Pos}
end
end L2
namespace L2
open PySem PySem.Spec PyProof.Rows
section
variable {X:Cx} {K:PySem.W.Frag}
end
end L2
namespace L2
open PySem PySem.Spec PyProof.Rows
section
variable {X:Cx}
end
end L2
namespace L2
open PySem PySem.Spec PyProof.Rows
section
variable {X:Cx}
end
end L2
namespace L2
open PySem PyProof.Rows
section
variable {prog:Program} {w:World} {A:Around} {E:Value→Shared→Prop} {s:Shared}
structure LtH (prog:Program) (w:World) (A:Around) (E:Value→Shared→Prop) (s:Shared) (kd:SortKind) (D:Keyed→Prop) (rk:Keyed→Int):Prop where
 lt:∀ {st:SortSt} {x y:Keyed} {Q:Option Bool→SortSt→Prop},kindOf st=kd→D x→D y→Q (some (decide (rk x < rk y))) st→wpS (model prog w) A E s (lt' x y) Q st
variable {kd:SortKind} {D:Keyed→Prop} {rk:Keyed→Int}
def kv (rk:Keyed→Int) (a:Array Keyed) (i:Nat):Int:=match a[i]? with
 | some x=>rk x
 | none=>0
def AllD (D:Keyed→Prop) (a:Array Keyed):Prop:=∀(i:Nat) x,a[i]?=some x→D x
theorem kv_some {a:Array Keyed} {i:Nat} {x:Keyed} (h:a[i]?=some x):kv rk a i=rk x:=by unfold kv; rw[h]
theorem wpS_elem {a:Array Keyed} {i:Nat} {x:Keyed} {st:SortSt} {Q:Keyed→SortSt→Prop} (h:a[i]?=some x) (q:Q x st):wpS (model prog w) A E s (elem' a i) Q st:=by
 rw[elem'_eq,h]
 exact wpS_pure q
abbrev gallop':Bool→Keyed→Array Keyed→Nat→Nat→Nat→StateT SortSt Sem (Option Nat):=sortPriv% PySem.Builtin.gallop
abbrev mergeLo':Array Keyed→Array Keyed→StateT SortSt Sem (Array Keyed):=sortPriv% PySem.Builtin.mergeLo
abbrev mergeHi':Array Keyed→Array Keyed→StateT SortSt Sem (Array Keyed):=sortPriv% PySem.Builtin.mergeHi
def By (rk:Keyed→Int) (left:Bool) (key:Keyed) (a:Array Keyed) (i:Nat):Prop:=if left then kv rk a i < rk key else kv rk a i≤rk key
instance (left:Bool) (key:Keyed) (a:Array Keyed) (i:Nat):Decidable (By rk left key a i):=by unfold By; split <;> exact inferInstance
theorem By.down {left:Bool} {key:Keyed} {a:Array Keyed} {i j:Nat} (h:By rk left key a j) (le:kv rk a i≤kv rk a j):By rk left key a i:=by
 unfold By at h ⊢
 split at h
 ·rename_i z; rw[if_pos z]; omega
 ·rename_i z; rw[if_neg z]; omega
theorem bin_loop {bd:Nat→StateT SortSt Sem (Option Bool)} {B:Nat→Prop} [DecidablePred B] {n l0 h0:Nat} {st:SortSt} {Q:Option Nat→SortSt→Prop} (hb:∀ {i:Nat} {Q:Option Bool→SortSt→Prop},i < n→Q (some (decide (B i))) st→wpS (model prog w) A E s (bd i) Q st)
  (dn:∀ i j,i≤j→j < n→B j→B i) (l1:l0≤h0) (l2:h0≤n) (b1:∀ i,i < l0→B i) (b2:∀ i,h0≤i→i < n→¬ B i) (h:∀ k,k≤n→(∀ i,i < k→B i)→(∀ i,k≤i→i < n→¬ B i)→Q (some k) st):wpS (model prog w) A E s (do
   let mut lo:=l0
   let mut hi:=h0
   for _ in [0:n] do
    if lo ≥ hi then break
    let c:=lo + (hi - lo) / 2
    let some up ← bd c|return none
    if up then lo:=c + 1 else hi:=c
   return some hi) Q st:=by
 refine wpS_bind (wpS_mono (wpS_forRange (I:=fun x c st'=>st'=st∧∃ lo hi,c=(none,lo,hi)∧lo≤hi∧hi≤n∧hi - lo≤n - x∧(∀ i,i < lo→B i)∧(∀ i,hi≤i→i < n→¬ B i)) (Q:=fun c st'=>st'=st∧∃ hi,c.1=none∧c.2.2=hi∧hi≤n∧(∀ i,i < hi→B i)∧(∀ i,hi≤i→i < n→¬ B i)) ?step ?fin ⟨rfl,l0,h0,rfl,l1,l2,by omega,b1,b2⟩) ?post)
 case post =>
  rintro⟨r,lo,hi⟩ st' ⟨rfl,hi',e1,e2,e3,e4,e5⟩
  dsimp only at e1 e2 ⊢
  subst e1
  subst e2
  exact wpS_pure (h _ e3 e4 e5)
 case fin =>
  rintro c st' ⟨rfl,lo,hi,rfl,c1,c2,c3,c4,c5⟩
  have:lo=hi:=by omega
  subst this
  exact⟨rfl,_,rfl,rfl,c2,c4,c5⟩
 case step =>
  rintro x c st' x0 x1 ⟨rfl,lo,hi,rfl,c1,c2,c3,c4,c5⟩
  dsimp only
  by_cases q:lo ≥ hi
  ·rw[if_pos q]
   have:lo=hi:=by omega
   subst this
   exact wpS_pure ⟨rfl,_,rfl,rfl,c2,c4,c5⟩
  ·rw[if_neg q]
   have hm:lo + (hi - lo) / 2 < hi:=by omega
   refine wpS_bind (hb (by omega) ?_)
   dsimp only
   by_cases z:B (lo + (hi - lo) / 2)
   ·rw[decide_eq_true z,if_pos rfl]
    exact wpS_pure ⟨rfl,_,_,rfl,by omega,c2,by omega,fun i hi'=>dn i _ (by omega) (by omega) z,c5⟩
   ·rw[decide_eq_false z,if_neg (by decide)]
    exact wpS_pure ⟨rfl,_,_,rfl,by omega,by omega,by omega,c4,fun i i1 i2 y=>z (dn _ i i1 i2 y)⟩
theorem gallop_ok (HL:LtH prog w A E s kd D rk) {left:Bool} {key:Keyed} {a:Array Keyed} {bs n hint:Nat} {st:SortSt} {Q:Option Nat→SortSt→Prop} (hk:kindOf st=kd) (dk:D key) (da:AllD D a) (hs:bs + n≤a.size) (hh:hint < n)
  (so:∀ i j,i≤j→j < n→kv rk a (bs + i)≤kv rk a (bs + j))
  (h:∀ k,k≤n→(∀ i,i < k→By rk left key a (bs + i))→(∀ i,k≤i→i < n→¬ By rk left key a (bs + i))→Q (some k) st):wpS (model prog w) A E s (gallop' left key a bs n hint) Q st:=by
 have bey:∀ {i:Nat} {Q:Option Bool→SortSt→Prop},i < n→Q (some (decide (By rk left key a (bs + i)))) st→wpS (model prog w) A E s (do
   let x ← elem' a (bs + i)
   if left=true then lt' x key else do
    let __do_lift ← lt' key x
    pure (Option.map (fun x=>!x) __do_lift)) Q st:=fun {i Q} hi q=>by
  have e:a[bs + i]?=some (a[bs + i]'(by omega)):=zF _
  refine wpS_bind (wpS_elem e ?_)
  have ek:=kv_some (rk:=rk) e
  have dx:=da _ _ e
  cases left with
  | true =>
   rw[if_pos rfl]
   refine HL.lt hk dx dk ?_
   have:decide (rk (a[bs + i]'(by omega)) < rk key)=decide (By rk true key a (bs + i)):=decide_eq_decide.mpr (by unfold By; rw[if_pos rfl,ek])
   rw[this]
   exact q
  | false =>
   rw[if_neg (by decide)]
   refine wpS_bind (HL.lt hk dk dx (wpS_pure ?_))
   have:(!decide (rk key < rk (a[bs + i]'(by omega))))=decide (By rk false key a (bs + i)):=by
    rw[← decide_not]
    refine decide_eq_decide.mpr ?_
    unfold By
    rw[if_neg (by decide),ek]
    omega
   show Q (some (!decide (rk key < rk (a[bs + i]'(by omega))))) st
   rw[this]
   exact q
 have dn:∀ i j,i≤j→j < n→By rk left key a (bs + j)→By rk left key a (bs + i):=fun i j ij jn b=>b.down (so i j ij jn)
 refine wpS_bind (bey hh ?_)
 dsimp only
 by_cases z:By rk left key a (bs + hint)
 ·rw[decide_eq_true z,if_pos rfl]
  refine wpS_bind (wpS_mono (wpS_forRange (I:=fun x c st'=>st'=st∧∃ lo of,c=(none,lo,of)∧lo < of∧x + 1≤of∧hint + lo < n∧By rk left key a (bs + (hint + lo))) (Q:=fun c st'=>st'=st∧∃ lo of,c=(none,lo,of)∧lo < of∧hint + lo < n∧By rk left key a (bs + (hint + lo))∧(n - hint≤of∨(hint + of < n∧¬ By rk left key a (bs + (hint + of))))) ?step ?fin ⟨rfl,0,1,rfl,by omega,by omega,by omega,z⟩) ?post)
  case fin =>
   rintro c st' ⟨rfl,lo,of,rfl,c1,c2,c3,c4⟩
   exact⟨rfl,lo,of,rfl,c1,c3,c4,.inl (by omega)⟩
  case step =>
   rintro x c st' x0 x1 ⟨rfl,lo,of,rfl,c1,c2,c3,c4⟩
   dsimp only
   by_cases q:of ≥ n - hint
   ·rw[if_pos q]
    exact wpS_pure ⟨rfl,lo,of,rfl,c1,c3,c4,.inl q⟩
   ·rw[if_neg q]
    refine wpS_bind (bey (i:=hint + of) (by omega) ?_)
    dsimp only
    by_cases y:By rk left key a (bs + (hint + of))
    ·rw[decide_eq_true y]
     exact wpS_pure ⟨rfl,of,_,rfl,by omega,by omega,by omega,y⟩
    ·rw[decide_eq_false y]
     exact wpS_pure ⟨rfl,lo,of,rfl,c1,c3,c4,.inr ⟨by omega,y⟩⟩
  case post =>
   rintro c st' ⟨rfl,lo,of,rfl,c1,c3,c4,c5⟩
   dsimp only
   refine bin_loop (B:=fun i=>By rk left key a (bs + i)) bey dn (by omega) (by omega) (fun i hi=>dn i _ (by omega) (by omega) c4) (fun i i1 i2 b=>?_) h
   rcases c5 with q|⟨q1,q2⟩
   ·omega
   ·exact q2 (dn _ i (by omega) i2 b)
 ·rw[decide_eq_false z,if_neg (by decide)]
  refine wpS_bind (wpS_mono (wpS_forRange (I:=fun x c st'=>st'=st∧∃ lo of,c=(none,lo,of)∧lo < of∧x + 1≤of∧lo≤hint∧¬ By rk left key a (bs + (hint - lo))) (Q:=fun c st'=>st'=st∧∃ lo of,c=(none,lo,of)∧lo < of∧lo≤hint∧¬ By rk left key a (bs + (hint - lo))∧(hint + 1≤of∨(of≤hint∧By rk left key a (bs + (hint - of))))) ?step ?fin ⟨rfl,0,1,rfl,by omega,by omega,by omega,z⟩) ?post)
  case fin =>
   rintro c st' ⟨rfl,lo,of,rfl,c1,c2,c3,c4⟩
   exact⟨rfl,lo,of,rfl,c1,c3,c4,.inl (by omega)⟩
  case step =>
   rintro x c st' x0 x1 ⟨rfl,lo,of,rfl,c1,c2,c3,c4⟩
   dsimp only
   by_cases q:of ≥ hint + 1
   ·rw[if_pos q]
    exact wpS_pure ⟨rfl,lo,of,rfl,c1,c3,c4,.inl q⟩
   ·rw[if_neg q]
    refine wpS_bind (bey (i:=hint - of) (by omega) ?_)
    dsimp only
    by_cases y:By rk left key a (bs + (hint - of))
    ·rw[decide_eq_true y]
     exact wpS_pure ⟨rfl,lo,of,rfl,c1,c3,c4,.inr ⟨by omega,y⟩⟩
    ·rw[decide_eq_false y]
     exact wpS_pure ⟨rfl,of,_,rfl,by omega,by omega,by omega,y⟩
  case post =>
   rintro c st' ⟨rfl,lo,of,rfl,c1,c3,c4,c5⟩
   dsimp only
   refine bin_loop (B:=fun i=>By rk left key a (bs + i)) bey dn (by omega) (by omega) (fun i hi=>?_) (fun i i1 i2 b=>c4 (dn _ i (by omega) i2 b)) h
   rcases c5 with q|⟨q1,q2⟩
   ·omega
   ·exact dn i _ (by omega) (by omega) q2
end
end L2
namespace L2
open PySem PyProof.Rows
section
variable {prog:Program} {w:World} {A:Around} {E:Value→Shared→Prop} {s:Shared} {kd:SortKind} {D:Keyed→Prop} {rk:Keyed→Int}
def SL (rk:Keyed→Int) (l:List Keyed):Prop:=l.Pairwise fun x y=>rk x≤rk y
structure LoI (rk:Keyed→Int) (a b out:List Keyed) (ia ib:Nat):Prop where
 so:SL rk out
 ra:∀ x ∈ out,∀ y ∈ a.drop ia,rk x≤rk y
 rb:∀ x ∈ out,∀ y ∈ b.drop ib,rk x≤rk y
 pm:out.Perm (a.take ia++b.take ib)
variable {a b out:List Keyed} {ia ib:Nat}
theorem LoI.swap (h:LoI rk a b out ia ib):LoI rk b a out ib ia:=⟨h.so,h.rb,h.ra,h.pm.trans yL⟩
theorem SL.at_ {l:List Keyed} (h:SL rk l) {i j:Nat} {x y:Keyed} (hx:l[i]?=some x) (hy:l[j]?=some y) (ij:i≤j):rk x≤rk y:=by
 obtain⟨h1,e1⟩:=zA.mp hx
 obtain⟨h2,e2⟩:=zA.mp hy
 rcases Nat.lt_or_eq_of_le ij with q|q
 ·have:=jM.mp h i j h1 h2 q
  rw[e1,e2] at this
  exact this
 ·subst q
  rw[hx] at hy
  cases hy
  exact qR _
theorem mem_drop_at {l:List Keyed} {i:Nat} {y:Keyed} (h:y ∈ l.drop i):∃ j,i≤j∧l[j]?=some y:=by
 obtain⟨k,hk⟩:=yD h
 rw[qI] at hk
 exact⟨i + k,Nat.le_add_right _ _,hk⟩
theorem LoI.many (h:LoI rk a b out ia ib) (sa:SL rk a) {k:Nat} (hk:ia + k≤a.length) (le:∀ i x,ia≤i→i < ia + k→a[i]?=some x→∀ y ∈ b.drop ib,rk x≤rk y):LoI rk a b (out++(a.drop ia).take k) (ia + k) ib:=by
 have at_:∀ x ∈ (a.drop ia).take k,∃ i,ia≤i∧i < ia + k∧a[i]?=some x:=fun x hx=>by
  obtain⟨j,hj⟩:=yD hx
  rw[yQ] at hj
  split at hj
  ·rw[qI] at hj
   exact⟨ia + j,by omega,by omega,hj⟩
  ·cases hj
 refine⟨qC.mpr ⟨h.so,(sa.sublist (jQ _ _)).sublist (kB _ _),fun x hx y hy=>h.ra x hx y (j3 hy)⟩,fun x hx y hy=>?_,fun x hx y hy=>?_,?_⟩
 ·obtain⟨j,j1,ej⟩:=mem_drop_at hy
  rcases yE.mp hx with q|q
  ·refine h.ra x q y ?_
   rw[← jK] at hy
   exact j4 hy
  ·obtain⟨i,i1,i2,ei⟩:=at_ x q
   exact sa.at_ ei ej (by omega)
 ·rcases yE.mp hx with q|q
  ·exact h.rb x q y hy
  ·obtain⟨i,i1,i2,ei⟩:=at_ x q
   exact le i x i1 i2 ei y hy
 ·have e:a.take (ia + k)=a.take ia++(a.drop ia).take k:=kX
  rw[e,zQ]
  refine(List.Perm.append_right _ h.pm).trans ?_
  rw[zQ]
  exact List.Perm.append_left _ yL
theorem LoI.one (h:LoI rk a b out ia ib) (sa:SL rk a) {x:Keyed} (hx:a[ia]?=some x) (le:∀ y ∈ b.drop ib,rk x≤rk y):LoI rk a b (out++[x]) (ia + 1) ib:=by
 have hl:=(zA.mp hx).1
 have e:(a.drop ia).take 1=[x]:=by
  rw[qV hl]
  show [a[ia]]=[x]
  rw[(zA.mp hx).2]
 have:=h.many sa (k:=1) (by omega) fun i z i1 i2 ez y hy=>by
  have:i=ia:=by omega
  subst this
  rw[hx] at ez
  cases ez
  exact le y hy
 rw[e] at this
 exact this
theorem LoI.done (h:LoI rk a b out ia ib) (sa:SL rk a) (hb:b.length≤ib):SL rk (out++a.drop ia)∧(out++a.drop ia).Perm (a++b):=by
 refine⟨qC.mpr ⟨h.so,sa.sublist (jQ _ _),h.ra⟩,?_⟩
 refine(List.Perm.append_right _ h.pm).trans ?_
 rw[q9 hb,zQ]
 refine(List.Perm.append_left _ yL).trans ?_
 rw[← zQ,yP]
theorem LoI.last (h:LoI rk a b out ia ib) (sa:SL rk a) (sb:SL rk b) (le:∀ x ∈ b.drop ib,∀ y ∈ a.drop ia,rk x≤rk y):SL rk (out++b.drop ib++a.drop ia)∧(out++b.drop ib++a.drop ia).Perm (a++b):=by
 refine⟨qC.mpr ⟨qC.mpr ⟨h.so,sb.sublist (jQ _ _),h.rb⟩,sa.sublist (jQ _ _),fun x hx y hy=>?_⟩,?_⟩
 ·rcases yE.mp hx with q|q
  ·exact h.ra x q y hy
  ·exact le x q y hy
 ·refine(List.Perm.append_right _ (List.Perm.append_right _ h.pm)).trans ?_
  rw[zQ,zQ,← zQ (b.take ib),yP]
  refine(List.Perm.append_left _ yL).trans ?_
  rw[← zQ,yP]
abbrev setG (st:SortSt) (g:Nat):SortSt:=SortSt.mk' (kindOf st) (arrOf st) (pendingOf st) g (failedOf st)
theorem wpS_ite {α:Type} {c:Prop} [Decidable c] {x y:StateT SortSt Sem α} {st:SortSt} {Q:α→SortSt→Prop} (h1:c→wpS (model prog w) A E s x Q st) (h2:¬ c→wpS (model prog w) A E s y Q st):wpS (model prog w) A E s (if c then x else y) Q st:=by
 split
 ·rename_i z; exact h1 z
 ·rename_i z; exact h2 z
theorem kv_mono {a:Array Keyed} (sa:SL rk a.toList) {i j:Nat} (ij:i≤j) (hj:j < a.size):kv rk a i≤kv rk a j:=by
 rw[kv_some (rk:=rk) (zF (show i < a.size by omega)),kv_some (rk:=rk) (zF hj)]
 exact sa.at_ (by rw[zH]; exact zF (by omega)) (by rw[zH]; exact zF hj) ij
theorem ext_drop (a:Array Keyed) (i:Nat):(a.extract i a.size).toList=a.toList.drop i:=by
 rw[qS]
 show(a.toList.drop i).take (a.size - i)=_
 rw[q9 (by rw[qU,zD]; exact zG _)]
theorem ext_take (a:Array Keyed) (i k:Nat):(a.extract i (i + k)).toList=(a.toList.drop i).take k:=by
 rw[qS]
 show(a.toList.drop i).take (i + k - i)=_
 rw[Nat.add_sub_cancel_left]
def Good (rk:Keyed→Int) (a b m:Array Keyed):Prop:=m.toList.Perm (a.toList++b.toList)∧SL rk m.toList
abbrev LoA (rk:Keyed→Int) (a b out:Array Keyed) (ia ib:Nat):Prop:=LoI rk a.toList b.toList out.toList ia ib
section
variable {a b out:Array Keyed} {ia ib:Nat}
theorem g_done (h:LoA rk a b out ia ib) (sa:SL rk a.toList) (hb:b.size≤ib):Good rk a b (out++a.extract ia a.size++b.extract ib b.size):=by
 have e:(out++a.extract ia a.size++b.extract ib b.size).toList=out.toList++a.toList.drop ia:=by
  rw[yC,yC,ext_drop,ext_drop,show b.toList.drop ib=[] from vF (by rw[zD]; exact hb),yF]
 have:=h.done sa (by rw[zD]; exact hb)
 unfold Good
 rw[e]
 exact⟨this.2,this.1⟩
theorem g_doneA (h:LoA rk a b out ia ib) (sb:SL rk b.toList) (ha:a.size≤ia):Good rk a b (out++a.extract ia a.size++b.extract ib b.size):=by
 have e:(out++a.extract ia a.size++b.extract ib b.size).toList=out.toList++b.toList.drop ib:=by
  rw[yC,yC,ext_drop,ext_drop,show a.toList.drop ia=[] from vF (by rw[zD]; exact ha),yF]
 have:=h.swap.done sb (by rw[zD]; exact ha)
 unfold Good
 rw[e]
 exact⟨this.2.trans yL,this.1⟩
theorem g_last (h:LoA rk a b out ia ib) (sa:SL rk a.toList) (sb:SL rk b.toList) (ha:ia + 1=a.size) (hl:∀ x ∈ b.toList,∀ y,a[a.size - 1]?=some y→rk x≤rk y):Good rk a b (out++b.extract ib b.size++a.extract ia a.size):=by
 have e:(out++b.extract ib b.size++a.extract ia a.size).toList=out.toList++b.toList.drop ib++a.toList.drop ia:=by
  rw[yC,yC,ext_drop,ext_drop]
 have:=h.last sa sb fun x hx y hy=>by
  obtain⟨j,j1,ej⟩:=mem_drop_at hy
  have jl:=(zA.mp ej).1
  rw[zD] at jl
  refine hl x (j4 hx) y ?_
  rw[show a.size - 1=j by omega,← zH]
  exact ej
 unfold Good
 rw[e]
 exact⟨this.2,this.1⟩
theorem LoA.push (h:LoA rk a b out ia ib) (sa:SL rk a.toList) {x:Keyed} (hx:a[ia]?=some x) (le:∀ y ∈ b.toList.drop ib,rk x≤rk y):LoA rk a b (out.push x) (ia + 1) ib:=by
 show LoI rk a.toList b.toList (out.push x).toList (ia + 1) ib
 rw[kG]
 exact LoI.one h sa (by rw[zH]; exact hx) le
theorem LoA.pushB (h:LoA rk a b out ia ib) (sb:SL rk b.toList) {x:Keyed} (hx:b[ib]?=some x) (le:∀ y ∈ a.toList.drop ia,rk x≤rk y):LoA rk a b (out.push x) ia (ib + 1):=(LoA.push (a:=b) (b:=a) h.swap sb hx le).swap
theorem LoA.manyA (h:LoA rk a b out ia ib) (sa:SL rk a.toList) {k:Nat} (hk:ia + k≤a.size) (le:∀(i:Nat) x,ia≤i→i < ia + k→a[i]?=some x→∀ y ∈ b.toList.drop ib,rk x≤rk y):LoA rk a b (out++a.extract ia (ia + k)) (ia + k) ib:=by
 show LoI rk a.toList b.toList (out++a.extract ia (ia + k)).toList (ia + k) ib
 rw[yC,ext_take]
 exact LoI.many h sa (by rw[zD]; exact hk) fun i x i1 i2 e=>le i x i1 i2 (by rw[← zH]; exact e)
theorem LoA.manyB (h:LoA rk a b out ia ib) (sb:SL rk b.toList) {k:Nat} (hk:ib + k≤b.size) (le:∀(i:Nat) x,ib≤i→i < ib + k→b[i]?=some x→∀ y ∈ a.toList.drop ia,rk x≤rk y):LoA rk a b (out++b.extract ib (ib + k)) ia (ib + k):=(LoA.manyA (a:=b) (b:=a) h.swap sb hk le).swap
theorem le_drop {x:Keyed} {z:Keyed} {i:Nat} (sb:SL rk b.toList) (hz:b[i]?=some z) (le:rk x≤rk z):∀ y ∈ b.toList.drop i,rk x≤rk y:=fun y hy=>by
 obtain⟨j,j1,ej⟩:=mem_drop_at hy
 exact qK le (sb.at_ (by rw[zH]; exact hz) ej j1)
end
theorem mergeLo_ok (HL:LtH prog w A E s kd D rk) {a b:Array Keyed} {st:SortSt} {Q:Array Keyed→SortSt→Prop} (hk:kindOf st=kd) (da:AllD D a) (db:AllD D b) (na:1≤a.size) (nb:1≤b.size) (sa:SL rk a.toList) (sb:SL rk b.toList) (h0:∀ x y,b[0]?=some x→a[0]?=some y→rk x≤rk y)
  (hl:∀ x ∈ b.toList,∀ y,a[a.size - 1]?=some y→rk x≤rk y) (h:∀ m g,Good rk a b m→Q m (setG st g)):wpS (model prog w) A E s (mergeLo' a b) Q st:=by
 have e0:b[0]?=some (b[0]'(by omega)):=zF _
 have hst:∀ st':SortSt,st'=setG st' (gallopOf st'):=fun _=>rfl
 have L0:LoA rk a b #[] 0 0:=⟨List.Pairwise.nil,fun x hx=>absurd hx zW,fun x hx=>absurd hx zW,.refl _⟩
 have L1:LoA rk a b #[b[0]'(by omega)] 0 1:=LoA.pushB (out:=#[]) L0 sb e0 (le_drop sa (zF (by omega)) (h0 _ _ e0 (zF (by omega))))
 refine wpS_bind (wpS_lift (wpAny_rule ⟨rfl,?_⟩))
 refine wpS_bind (wpS_elem e0 ?_)
 dsimp only
 by_cases q1:(1 == b.size)=true
 ·rw[if_pos q1,hst st]
  have:=eq_of_beq q1
  exact wpS_pure (h _ _ (g_done L1 sa (by omega)))
 by_cases q2:(0 + 1 == a.size)=true
 ·rw[if_neg q1,if_pos q2,hst st]
  have:=eq_of_beq q2
  exact wpS_pure (h _ _ (g_last L1 sa sb (by omega) hl))
 have r1:1 ≠ b.size:=fun e=>q1 (beq_iff_eq.mpr e)
 have r2:1 ≠ a.size:=fun e=>q2 (beq_iff_eq.mpr e)
 rw[if_neg q1,if_neg q2]
 refine wpS_bind (wpS_get ?_)
 refine wpS_bind (wpS_mono (wpS_forRange (I:=fun x c st'=>∃ out ia ib mg g,c=(none,out,ia,ib,mg)∧st'=setG st g∧LoA rk a b out ia ib∧ia + 1 < a.size∧ib < b.size∧x + 1≤ia + ib) (Q:=fun c st'=>∃ m g,c.1=some m∧st'=setG st g∧Good rk a b m) ?step ?fin ⟨_,_,_,_,gallopOf st,rfl,rfl,L1,by omega,by omega,by omega⟩) ?post)
 case post =>
  rintro⟨r,c⟩ st' ⟨m,g,e1,rfl,e3⟩
  dsimp only at e1 ⊢
  subst e1
  exact wpS_pure (h _ _ e3)
 case fin =>
  rintro c st' ⟨out,ia,ib,mg,g,rfl,rfl,L,c1,c2,c3⟩
  omega
 case step =>
  rintro x c st' x0 x1 ⟨out,ia,ib,mg,g,rfl,rfl,L,c1,c2,c3⟩
  dsimp only
  have total:0 < a.size + b.size:=by omega
  refine wpS_bind (wpS_mono (wpS_forRange (I:=fun y c st'=>st'=setG st g∧∃ o1 i1 j1 p1 p2,c=(none,o1,i1,j1,p1,p2)∧LoA rk a b o1 i1 j1∧i1 + 1 < a.size∧j1 < b.size∧i1 + j1=ia + ib + y) (Q:=fun c st'=>st'=setG st g∧((∃ m,c.1=some m∧Good rk a b m)∨∃ o1 i1 j1 p1 p2,c=(none,o1,i1,j1,p1,p2)∧LoA rk a b o1 i1 j1∧i1 + 1 < a.size∧j1 < b.size∧ia + ib + 1≤i1 + j1)) ?step1 ?fin1 ⟨rfl,_,_,_,_,_,rfl,L,c1,c2,rfl⟩) ?post1)
  case fin1 =>
   rintro c st' ⟨rfl,o1,i1,j1,p1,p2,rfl,L',d1,d2,d3⟩
   exact⟨rfl,.inr ⟨o1,i1,j1,p1,p2,rfl,L',d1,d2,by omega⟩⟩
  case step1 =>
   rintro y c st' y0 y1 ⟨rfl,o1,i1,j1,p1,p2,rfl,L',d1,d2,d3⟩
   dsimp only
   have eb:b[j1]?=some (b[j1]'(by omega)):=zF _
   have ea:a[i1]?=some (a[i1]'(by omega)):=zF _
   refine wpS_bind (wpS_elem eb (wpS_bind (wpS_elem ea (wpS_bind (HL.lt hk (db _ _ eb) (da _ _ ea) ?_)))))
   dsimp only
   by_cases z:rk (b[j1]'(by omega)) < rk (a[i1]'(by omega))
   ·rw[decide_eq_true z,if_pos rfl]
    refine wpS_bind (wpS_elem eb ?_)
    have L2:=LoA.pushB L' sb eb (le_drop sa ea (qF z))
    by_cases t1:(j1 + 1 == b.size)=true
    ·rw[if_pos t1]
     have:=eq_of_beq t1
     exact wpS_pure ⟨rfl,.inl ⟨_,rfl,g_done L2 sa (by omega)⟩⟩
    ·rw[if_neg t1]
     have:j1 + 1 ≠ b.size:=fun e=>t1 (beq_iff_eq.mpr e)
     split
     ·exact wpS_pure ⟨rfl,.inr ⟨_,_,_,_,_,rfl,L2,d1,by omega,by omega⟩⟩
     ·exact wpS_pure ⟨rfl,_,_,_,_,_,rfl,L2,d1,by omega,by omega⟩
   ·rw[decide_eq_false z,if_neg (by decide)]
    refine wpS_bind (wpS_elem ea ?_)
    have L2:=LoA.push L' sa ea (le_drop sb eb (by omega))
    by_cases t1:(i1 + 1 + 1 == a.size)=true
    ·rw[if_pos t1]
     have:=eq_of_beq t1
     exact wpS_pure ⟨rfl,.inl ⟨_,rfl,g_last L2 sa sb (by omega) hl⟩⟩
    ·rw[if_neg t1]
     have:i1 + 1 + 1 ≠ a.size:=fun e=>t1 (beq_iff_eq.mpr e)
     split
     ·exact wpS_pure ⟨rfl,.inr ⟨_,_,_,_,_,rfl,L2,by omega,d2,by omega⟩⟩
     ·exact wpS_pure ⟨rfl,_,_,_,_,_,rfl,L2,by omega,d2,by omega⟩
  case post1 =>
   rintro⟨r,c⟩ st' ⟨rfl,⟨m,e1,gm⟩|⟨o1,i1,j1,p1,p2,e1,L',d1,d2,d3⟩⟩
   ·dsimp only at e1 ⊢
    subst e1
    exact wpS_pure ⟨m,g,rfl,rfl,gm⟩
   ·cases e1
    dsimp only
    refine wpS_bind (wpS_lift (wpAny_rule ⟨rfl,?_⟩))
    refine wpS_bind (wpS_mono (wpS_forRange (I:=fun y c st'=>∃ g' o2 i2 j2 mg' p3 p4,c=(none,o2,i2,j2,mg',p3,p4)∧st'=setG st g'∧LoA rk a b o2 i2 j2∧i2 + 1 < a.size∧j2 < b.size∧ia + ib + 1≤i2 + j2) (Q:=fun c st'=>∃ g',st'=setG st g'∧((∃ m,c.1=some m∧Good rk a b m)∨∃ o2 i2 j2 mg' p3 p4,c=(none,o2,i2,j2,mg',p3,p4)∧LoA rk a b o2 i2 j2∧i2 + 1 < a.size∧j2 < b.size∧ia + ib + 1≤i2 + j2)) ?step2 ?fin2 ⟨g,_,_,_,_,_,_,rfl,rfl,L',d1,d2,d3⟩) ?post2)
    case fin2 =>
     rintro c st' ⟨g',o2,i2,j2,mg',p3,p4,rfl,rfl,L2,f1,f2,f3⟩
     exact⟨g',rfl,.inr ⟨o2,i2,j2,mg',p3,p4,rfl,L2,f1,f2,f3⟩⟩
    case post2 =>
     rintro⟨r,c⟩ st' ⟨g',rfl,⟨m,e1,gm⟩|⟨o2,i2,j2,mg',p3,p4,e1,L2,f1,f2,f3⟩⟩
     ·dsimp only at e1 ⊢
      subst e1
      exact wpS_pure ⟨m,g',rfl,rfl,gm⟩
     ·cases e1
      dsimp only
      refine wpS_bind (wpS_modify ?_)
      exact wpS_pure ⟨o2,i2,j2,_,mg' + 1,rfl,rfl,L2,f1,f2,by omega⟩
    case step2 =>
     rintro y c st' y0 y1 ⟨g',o2,i2,j2,mg',p3,p4,rfl,rfl,L2,f1,f2,f3⟩
     have eb:b[j2]?=some (b[j2]'(by omega)):=zF _
     dsimp only
     refine wpS_ite (fun _=>?_) (fun _=>?_)
     all_goals
      refine wpS_bind (wpS_modify ?_)
      refine wpS_bind (wpS_elem eb ?_)
      refine wpS_bind (gallop_ok HL (st:=setG st _) hk (db _ _ eb) da (by omega) (by omega) (fun i j ij jn=>?so) fun k k1 k2 k3=>?_)
      case so=>exact kv_mono sa (by omega) (by omega)
      dsimp only
      have kle:∀(i:Nat) x,i2≤i→i < i2 + k→a[i]?=some x→rk x≤rk (b[j2]'(by omega)):=fun i x i1' i2' e=>by
       have:=k2 (i - i2) (by omega)
       unfold By at this
       rw[if_neg (by decide),show i2 + (i - i2)=i by omega,kv_some (rk:=rk) e] at this
       exact this
      have kgt:∀ y ∈ a.toList.drop (i2 + k),rk (b[j2]'(by omega))≤rk y:=fun y hy=>by
       obtain⟨j,j1',ej⟩:=mem_drop_at hy
       have jl:=(zA.mp ej).1
       rw[zD] at jl
       rw[zH] at ej
       have:=k3 (j - i2) (by omega) (by omega)
       unfold By at this
       rw[if_neg (by decide),show i2 + (j - i2)=j by omega,kv_some (rk:=rk) ej] at this
       omega
      have L3:=LoA.manyA L2 sa (k:=k) (by omega) fun i x i1' i2' e=>le_drop sb eb (kle i x i1' i2' e)
      refine wpS_ite (fun k0=>wpS_ite (fun t1=>?_) (fun t1=>wpS_ite (fun t2=>?_) (fun t2=>?_))) (fun k0=>?_)
      focus
       have:=eq_of_beq t1
       exact wpS_pure ⟨_,rfl,.inl ⟨_,rfl,g_last L3 sa sb (by omega) hl⟩⟩
      focus
       have:=eq_of_beq t2
       exact wpS_pure ⟨_,rfl,.inl ⟨_,rfl,g_doneA L3 sb (by omega)⟩⟩
      focus
       have g1:i2 + k + 1 < a.size:=by
        have h1:i2 + k + 1 ≠ a.size:=fun e=>t1 (beq_iff_eq.mpr e)
        have h2:i2 + k ≠ a.size:=fun e=>t2 (beq_iff_eq.mpr e)
        omega
       have ea:a[i2 + k]?=some (a[i2 + k]'(by omega)):=zF _
       have gi:i2≤i2 + k:=by omega
       have L4:=LoA.pushB L3 sb eb kgt
      rotate_left
      focus
       have k00:k=0:=by omega
       subst k00
       have g1:i2 + 1 < a.size:=f1
       have ea:a[i2]?=some (a[i2]'(by omega)):=zF _
       have gi:i2≤i2:=zG _
       have L4:=LoA.pushB L2 sb eb kgt
      all_goals
       refine wpS_bind (wpS_elem eb (wpS_ite (fun t3=>?_) (fun t3=>?_)))
       ·have:=eq_of_beq t3
        exact wpS_pure ⟨_,rfl,.inl ⟨_,rfl,g_done L4 sa (by omega)⟩⟩
       have h3:j2 + 1 ≠ b.size:=fun e=>t3 (beq_iff_eq.mpr e)
       refine wpS_bind (wpS_elem ea (wpS_bind (gallop_ok HL (st:=setG st _) hk (da _ _ ea) db (by omega) (by omega) (fun i j ij jn=>kv_mono sb (by omega) (by omega)) fun m m1 m2 m3=>?_)))
       dsimp only
       have mle:∀(i:Nat) x,j2 + 1≤i→i < j2 + 1 + m→b[i]?=some x→rk x≤rk _:=fun i x i1' i2' e=>by
        have:=m2 (i - (j2 + 1)) (by omega)
        unfold By at this
        rw[if_pos rfl,show j2 + 1 + (i - (j2 + 1))=i by omega,kv_some (rk:=rk) e] at this
        exact qF this
       have mgt:∀ y ∈ b.toList.drop (j2 + 1 + m),rk _≤rk y:=fun y hy=>by
        obtain⟨j,j1',ej⟩:=mem_drop_at hy
        have jl:=(zA.mp ej).1
        rw[zD] at jl
        rw[zH] at ej
        have:=m3 (j - (j2 + 1)) (by omega) (by omega)
        unfold By at this
        rw[if_pos rfl,show j2 + 1 + (j - (j2 + 1))=j by omega,kv_some (rk:=rk) ej] at this
        exact jL.mp this
       have L5:=LoA.manyB L4 sb (k:=m) (by omega) fun i x i1' i2' e=>le_drop sa ea (mle i x i1' i2' e)
       refine wpS_ite (fun m0=>wpS_ite (fun t4=>?_) (fun t4=>?_)) (fun m0=>?_)
       focus
        have:=eq_of_beq t4
        exact wpS_pure ⟨_,rfl,.inl ⟨_,rfl,g_done L5 sa (by omega)⟩⟩
       focus
        have h4:j2 + 1 + m ≠ b.size:=fun e=>t4 (beq_iff_eq.mpr e)
        have b5:j2 + 1 + m < b.size:=by omega
        have L6:=LoA.push L5 sa ea mgt
       rotate_left
       focus
        have m00:m=0:=by omega
        subst m00
        have b5:j2 + 1 < b.size:=by omega
        have L6:=LoA.push L4 sa ea mgt
       all_goals
        refine wpS_bind (wpS_elem ea (wpS_ite (fun t5=>?_) (fun t5=>?_)))
        ·have:=eq_of_beq t5
         exact wpS_pure ⟨_,rfl,.inl ⟨_,rfl,g_last L6 sa sb (by omega) hl⟩⟩
        ·have h5:=fun e=>t5 (beq_iff_eq.mpr e)
         refine wpS_ite (fun _=>?_) (fun _=>?_)
         ·exact wpS_pure ⟨_,rfl,.inr ⟨_,_,_,_,_,_,rfl,L6,by omega,by omega,by omega⟩⟩
         ·exact wpS_pure ⟨_,_,_,_,_,_,_,rfl,rfl,L6,by omega,by omega,by omega⟩
end
end L2
namespace L2
open PySem PyProof.Rows
section
variable {prog:Program} {w:World} {A:Around} {E:Value→Shared→Prop} {s:Shared} {kd:SortKind} {D:Keyed→Prop} {rk:Keyed→Int}
theorem SL.rev {l:List Keyed}:SL (fun x=>-rk x) l.reverse ↔ SL rk l:=by
 unfold SL
 rw[List.pairwise_reverse]
 exact⟨fun h=>h.imp fun {x y} q=>by omega,fun h=>h.imp fun {x y} q=>by omega⟩
theorem rev_drop {l:List Keyed} {n:Nat} (h:n≤l.length):l.reverse.drop (l.length - n)=(l.take n).reverse:=by
 rw[List.drop_reverse,show l.length - (l.length - n)=n by omega]
abbrev HiA (rk:Keyed→Int) (a b out:Array Keyed) (na nb:Nat):Prop:=LoI (fun x=>-rk x) a.toList.reverse b.toList.reverse out.toList (a.size - na) (b.size - nb)
section
variable {a b out:Array Keyed} {na nb:Nat}
theorem hi_good {m:List Keyed} (e1:SL (fun x=>-rk x) m) (e2:m.Perm (a.toList.reverse++b.toList.reverse)) {z:Array Keyed} (ez:z.toList=m.reverse):Good rk a b z:=by
 refine⟨?_,?_⟩
 ·rw[ez]
  exact(kC _).trans (e2.trans (List.Perm.append (kC _) (kC _)))
 ·rw[ez]
  have:SL (fun x=>-rk x) m.reverse.reverse:=by rw[qQ]; exact e1
  exact SL.rev.mp this
theorem hi_list (ha:na≤a.size):(a.extract 0 na).toList=a.toList.take na:=by
 rw[qS]
 show(a.toList.drop 0).take (na - 0)=_
 rw[List.drop_zero,k8]
theorem h_doneA (h:HiA rk a b out na nb) (e:na=0) (hb:nb≤b.size) (sb:SL rk b.toList):Good rk a b (a.extract 0 na++b.extract 0 nb++out.reverse):=by
 subst e
 obtain⟨e1,e2⟩:=LoI.done h.swap (SL.rev.mpr sb) (by rw[j6,zD]; omega)
 refine hi_good e1 (e2.trans yL) ?_
 have ed:b.toList.reverse.drop (b.size - nb)=(b.toList.take nb).reverse:=by
  have:=rev_drop (l:=b.toList) (n:=nb) (by rw[zD]; exact hb)
  rwa [zD] at this
 rw[yC,yC,hi_list hb,jB,ed,jG,qQ]
 simp
theorem h_doneB (h:HiA rk a b out na nb) (e:nb=0) (ha:na≤a.size) (sa:SL rk a.toList):Good rk a b (a.extract 0 na++b.extract 0 nb++out.reverse):=by
 subst e
 obtain⟨e1,e2⟩:=LoI.done h (SL.rev.mpr sa) (by rw[j6,zD]; omega)
 refine hi_good e1 e2 ?_
 have ed:a.toList.reverse.drop (a.size - na)=(a.toList.take na).reverse:=by
  have:=rev_drop (l:=a.toList) (n:=na) (by rw[zD]; exact ha)
  rwa [zD] at this
 rw[yC,yC,hi_list ha,jB,ed,jG,qQ]
 simp
theorem h_first (h:HiA rk a b out na nb) (e:nb=1) (ha:na≤a.size) (hb:1≤b.size) (sa:SL rk a.toList) (sb:SL rk b.toList) (h0:∀ x y,b[0]?=some x→a[0]?=some y→rk x≤rk y):Good rk a b (b.extract 0 nb++a.extract 0 na++out.reverse):=by
 subst e
 have eda:a.toList.reverse.drop (a.size - na)=(a.toList.take na).reverse:=by
  have:=rev_drop (l:=a.toList) (n:=na) (by rw[zD]; exact ha)
  rwa [zD] at this
 have edb:b.toList.reverse.drop (b.size - 1)=(b.toList.take 1).reverse:=by
  have:=rev_drop (l:=b.toList) (n:=1) (by rw[zD]; exact hb)
  rwa [zD] at this
 obtain⟨e1,e2⟩:=LoI.last h.swap (SL.rev.mpr sb) (SL.rev.mpr sa) fun x hx y hy=>by
  rw[eda,kJ] at hx
  rw[edb,kJ] at hy
  have hx:=j3 hx
  obtain⟨i,hi⟩:=yD hx
  have il:=(zA.mp hi).1
  rw[zD] at il
  obtain⟨j,hj⟩:=yD hy
  rw[yQ] at hj
  split at hj
  ·have:j=0:=by omega
   subst this
   rw[zH] at hj
   have ea:a[0]?=some (a[0]'(by omega)):=zF _
   have r1:=h0 _ _ hj ea
   have r2:=sa.at_ (by rw[zH]; exact ea) hi (zZ _)
   show -rk x≤-rk y
   omega
  ·cases hj
 refine hi_good e1 (e2.trans yL) ?_
 rw[yC,yC,hi_list ha,hi_list hb,jB,eda,edb,jG,jG,qQ,qQ,zQ]
theorem rev_at {na:Nat} {x:Keyed} (h1:1≤na) (hx:a[na - 1]?=some x) (ha:na≤a.size):a.toList.reverse[a.size - na]?=some x:=by
 rw[vK (by rw[zD]; omega),zD,zH,show a.size - 1 - (a.size - na)=na - 1 by omega]
 exact hx
def Bel (rk:Keyed→Int) (b:Array Keyed) (nb:Nat) (x:Keyed):Prop:=∀(i:Nat) y,i < nb→b[i]?=some y→rk y≤rk x
theorem Bel.drop {x:Keyed} (h:Bel rk b nb x) (hb:nb≤b.size):∀ y ∈ b.toList.reverse.drop (b.size - nb),-rk x≤-rk y:=fun y hy=>by
 have ed:b.toList.reverse.drop (b.size - nb)=(b.toList.take nb).reverse:=by
  have:=rev_drop (l:=b.toList) (n:=nb) (by rw[zD]; exact hb)
  rwa [zD] at this
 rw[ed,kJ] at hy
 obtain⟨i,hi⟩:=yD hy
 rw[yQ] at hi
 split at hi
 ·rename_i q
  rw[zH] at hi
  have:=h i y q hi
  omega
 ·cases hi
theorem bel_of {x z:Keyed} (sb:SL rk b.toList) (h1:1≤nb) (hz:b[nb - 1]?=some z) (le:rk z≤rk x):Bel rk b nb x:=fun i y hi ey =>
 qK (sb.at_ (by rw[zH]; exact ey) (by rw[zH]; exact hz) (by omega)) le
theorem HiA.push (h:HiA rk a b out na nb) (sa:SL rk a.toList) (h1:1≤na) (ha:na≤a.size) (hb:nb≤b.size) {x:Keyed} (hx:a[na - 1]?=some x) (le:Bel rk b nb x):HiA rk a b (out.push x) (na - 1) nb:=by
 have:=LoI.one h (SL.rev.mpr sa) (rev_at h1 hx ha) (le.drop hb)
 show LoI _ _ _ (out.push x).toList (a.size - (na - 1)) _
 rw[kG,show a.size - (na - 1)=a.size - na + 1 by omega]
 exact this
theorem HiA.pushB (h:HiA rk a b out na nb) (sb:SL rk b.toList) (h1:1≤nb) (hb:nb≤b.size) (ha:na≤a.size) {x:Keyed} (hx:b[nb - 1]?=some x) (le:Bel rk a na x):HiA rk a b (out.push x) na (nb - 1):=LoI.swap (HiA.push (a:=b) (b:=a) (LoI.swap h) sb h1 hb ha hx le)
theorem HiA.many (h:HiA rk a b out na nb) (sa:SL rk a.toList) (ha:na≤a.size) (hb:nb≤b.size) {at_:Nat} (hat:at_≤na) (le:∀(i:Nat) x,at_≤i→i < na→a[i]?=some x→Bel rk b nb x):HiA rk a b (out++(a.extract at_ na).reverse) at_ nb:=by
 have ed:a.toList.reverse.drop (a.size - na)=(a.toList.take na).reverse:=by
  have:=rev_drop (l:=a.toList) (n:=na) (by rw[zD]; exact ha)
  rwa [zD] at this
 have:=LoI.many h (SL.rev.mpr sa) (k:=na - at_) (by rw[j6,zD]; omega) fun i x i1 i2 e=>by
  rw[vK (by rw[zD]; omega),zD,zH] at e
  exact(le _ x (by omega) (by omega) e).drop hb
 show LoI _ _ _ (out++(a.extract at_ na).reverse).toList (a.size - at_) _
 have el:(out++(a.extract at_ na).reverse).toList=out.toList++(a.toList.reverse.drop (a.size - na)).take (na - at_):=by
  rw[yC,jB,qS,ed]
  congr 1
  show((a.toList.drop at_).take (na - at_)).reverse=_
  rw[List.take_reverse,zX,zD,jD ha,show na - (na - at_)=at_ by omega,List.drop_take]
 rw[el,show a.size - at_=a.size - na + (na - at_) by omega]
 exact this
theorem HiA.manyB (h:HiA rk a b out na nb) (sb:SL rk b.toList) (hb:nb≤b.size) (ha:na≤a.size) {at_:Nat} (hat:at_≤nb) (le:∀(i:Nat) x,at_≤i→i < nb→b[i]?=some x→Bel rk a na x):HiA rk a b (out++(b.extract at_ nb).reverse) na at_:=LoI.swap (HiA.many (a:=b) (b:=a) (LoI.swap h) sb hb ha hat le)
end
theorem mergeHi_ok (HL:LtH prog w A E s kd D rk) {a b:Array Keyed} {st:SortSt} {Q:Array Keyed→SortSt→Prop} (hk:kindOf st=kd) (da:AllD D a) (db:AllD D b) (ha1:1≤a.size) (hb1:1≤b.size) (sa:SL rk a.toList) (sb:SL rk b.toList) (h0:∀ x y,b[0]?=some x→a[0]?=some y→rk x≤rk y)
  (hl:∀ x ∈ b.toList,∀ y,a[a.size - 1]?=some y→rk x≤rk y) (h:∀ m g,Good rk a b m→Q m (setG st g)):wpS (model prog w) A E s (mergeHi' a b) Q st:=by
 have e0:a[a.size - 1]?=some (a[a.size - 1]'(by omega)):=zF _
 have hst:∀ st':SortSt,st'=setG st' (gallopOf st'):=fun _=>rfl
 have L0:HiA rk a b #[] a.size b.size:=by
  show LoI _ _ _ [] (a.size - a.size) (b.size - b.size)
  rw[j8,j8]
  exact⟨List.Pairwise.nil,fun x hx=>absurd hx zW,fun x hx=>absurd hx zW,.refl _⟩
 have L1:HiA rk a b #[a[a.size - 1]'(by omega)] (a.size - 1) b.size:=HiA.push (out:=#[]) L0 sa ha1 (zG _) (zG _) e0 fun i y hi ey=>hl y (zK (by rw[zH]; exact ey)) _ e0
 refine wpS_bind (wpS_lift (wpAny_rule ⟨rfl,?_⟩))
 refine wpS_bind (wpS_elem e0 ?_)
 dsimp only
 refine wpS_ite (fun q1=>?_) (fun q1=>wpS_ite (fun q2=>?_) (fun q2=>?_))
 ·rw[hst st]
  exact wpS_pure (h _ _ (h_doneA L1 (eq_of_beq q1) (zG _) sb))
 ·rw[hst st]
  exact wpS_pure (h _ _ (h_first L1 (eq_of_beq q2) (by omega) hb1 sa sb h0))
 have r1:a.size - 1 ≠ 0:=fun e=>q1 (beq_iff_eq.mpr e)
 have r2:b.size ≠ 1:=fun e=>q2 (beq_iff_eq.mpr e)
 refine wpS_bind (wpS_get ?_)
 refine wpS_bind (wpS_mono (wpS_forRange (I:=fun x c st'=>∃ out na nb mg g,c=(none,na,nb,out,mg)∧st'=setG st g∧HiA rk a b out na nb∧1≤na∧na≤a.size∧2≤nb∧nb≤b.size∧x + 1 + na + nb≤a.size + b.size) (Q:=fun c st'=>∃ m g,c.1=some m∧st'=setG st g∧Good rk a b m) ?step ?fin ⟨_,_,_,_,gallopOf st,rfl,rfl,L1,by omega,by omega,by omega,by omega,by omega⟩) ?post)
 case post =>
  rintro⟨r,c⟩ st' ⟨m,g,e1,rfl,e3⟩
  dsimp only at e1 ⊢
  subst e1
  exact wpS_pure (h _ _ e3)
 case fin =>
  rintro c st' ⟨out,na,nb,mg,g,rfl,rfl,L,c1,c2,c3,c4,c5⟩
  omega
 case step =>
  rintro x c st' x0 x1 ⟨out,na,nb,mg,g,rfl,rfl,L,c1,c2,c3,c4,c5⟩
  dsimp only
  have total:0 < a.size + b.size:=by omega
  refine wpS_bind (wpS_mono (wpS_forRange (I:=fun y c st'=>st'=setG st g∧∃ o1 i1 j1 p1 p2,c=(none,i1,j1,o1,p1,p2)∧HiA rk a b o1 i1 j1∧1≤i1∧i1≤a.size∧2≤j1∧j1≤b.size∧i1 + j1 + y=na + nb) (Q:=fun c st'=>st'=setG st g∧((∃ m,c.1=some m∧Good rk a b m)∨∃ o1 i1 j1 p1 p2,c=(none,i1,j1,o1,p1,p2)∧HiA rk a b o1 i1 j1∧1≤i1∧i1≤a.size∧2≤j1∧j1≤b.size∧i1 + j1 + 1≤na + nb)) ?step1 ?fin1 ⟨rfl,_,_,_,_,_,rfl,L,c1,c2,c3,c4,rfl⟩) ?post1)
  case fin1 =>
   rintro c st' ⟨rfl,o1,i1,j1,p1,p2,rfl,L',d1,d2,d3,d4,d5⟩
   exact⟨rfl,.inr ⟨o1,i1,j1,p1,p2,rfl,L',d1,d2,d3,d4,by omega⟩⟩
  case step1 =>
   rintro y c st' y0 y1 ⟨rfl,o1,i1,j1,p1,p2,rfl,L',d1,d2,d3,d4,d5⟩
   dsimp only
   have eb:b[j1 - 1]?=some (b[j1 - 1]'(by omega)):=zF _
   have ea:a[i1 - 1]?=some (a[i1 - 1]'(by omega)):=zF _
   refine wpS_bind (wpS_elem eb (wpS_bind (wpS_elem ea (wpS_bind (HL.lt hk (db _ _ eb) (da _ _ ea) ?_)))))
   dsimp only
   by_cases z:rk (b[j1 - 1]'(by omega)) < rk (a[i1 - 1]'(by omega))
   ·rw[decide_eq_true z,if_pos rfl]
    refine wpS_bind (wpS_elem ea ?_)
    have L2:=HiA.push L' sa d1 d2 d4 ea (bel_of sb (by omega) eb (qF z))
    refine wpS_ite (fun t1=>?_) (fun t1=>wpS_ite (fun _=>?_) (fun _=>?_))
    ·exact wpS_pure ⟨rfl,.inl ⟨_,rfl,h_doneA L2 (eq_of_beq t1) d4 sb⟩⟩
    ·have:i1 - 1 ≠ 0:=fun e=>t1 (beq_iff_eq.mpr e)
     exact wpS_pure ⟨rfl,.inr ⟨_,_,_,_,_,rfl,L2,by omega,by omega,d3,d4,by omega⟩⟩
    ·have:i1 - 1 ≠ 0:=fun e=>t1 (beq_iff_eq.mpr e)
     exact wpS_pure ⟨rfl,_,_,_,_,_,rfl,L2,by omega,by omega,d3,d4,by omega⟩
   ·rw[decide_eq_false z,if_neg (by decide)]
    refine wpS_bind (wpS_elem eb ?_)
    have L2:=HiA.pushB L' sb (by omega) d4 d2 eb (bel_of sa d1 ea (by omega))
    refine wpS_ite (fun t1=>?_) (fun t1=>wpS_ite (fun _=>?_) (fun _=>?_))
    ·exact wpS_pure ⟨rfl,.inl ⟨_,rfl,h_first L2 (eq_of_beq t1) d2 hb1 sa sb h0⟩⟩
    ·have:j1 - 1 ≠ 1:=fun e=>t1 (beq_iff_eq.mpr e)
     exact wpS_pure ⟨rfl,.inr ⟨_,_,_,_,_,rfl,L2,by omega,by omega,by omega,by omega,by omega⟩⟩
    ·have:j1 - 1 ≠ 1:=fun e=>t1 (beq_iff_eq.mpr e)
     exact wpS_pure ⟨rfl,_,_,_,_,_,rfl,L2,by omega,by omega,by omega,by omega,by omega⟩
  case post1 =>
   rintro⟨r,c⟩ st' ⟨rfl,⟨m,e1,gm⟩|⟨o1,i1,j1,p1,p2,e1,L',d1,d2,d3,d4,d5⟩⟩
   ·dsimp only at e1 ⊢
    subst e1
    exact wpS_pure ⟨m,g,rfl,rfl,gm⟩
   ·cases e1
    dsimp only
    refine wpS_bind (wpS_lift (wpAny_rule ⟨rfl,?_⟩))
    refine wpS_bind (wpS_mono (wpS_forRange (I:=fun y c st'=>∃ g' o2 i2 j2 mg' p3 p4,c=(none,i2,j2,o2,mg',p3,p4)∧st'=setG st g'∧HiA rk a b o2 i2 j2∧1≤i2∧i2≤a.size∧2≤j2∧j2≤b.size∧i2 + j2 + 1≤na + nb) (Q:=fun c st'=>∃ g',st'=setG st g'∧((∃ m,c.1=some m∧Good rk a b m)∨∃ o2 i2 j2 mg' p3 p4,c=(none,i2,j2,o2,mg',p3,p4)∧HiA rk a b o2 i2 j2∧1≤i2∧i2≤a.size∧2≤j2∧j2≤b.size∧i2 + j2 + 1≤na + nb)) ?step2 ?fin2 ⟨g,_,_,_,_,_,_,rfl,rfl,L',d1,d2,d3,d4,d5⟩) ?post2)
    case fin2 =>
     rintro c st' ⟨g',o2,i2,j2,mg',p3,p4,rfl,rfl,L2,f1,f2,f3,f4,f5⟩
     exact⟨g',rfl,.inr ⟨o2,i2,j2,mg',p3,p4,rfl,L2,f1,f2,f3,f4,f5⟩⟩
    case post2 =>
     rintro⟨r,c⟩ st' ⟨g',rfl,⟨m,e1,gm⟩|⟨o2,i2,j2,mg',p3,p4,e1,L2,f1,f2,f3,f4,f5⟩⟩
     ·dsimp only at e1 ⊢
      subst e1
      exact wpS_pure ⟨m,g',rfl,rfl,gm⟩
     ·cases e1
      dsimp only
      refine wpS_bind (wpS_modify ?_)
      exact wpS_pure ⟨o2,i2,j2,_,mg' + 1,rfl,rfl,L2,f1,f2,f3,f4,by omega⟩
    case step2 =>
     rintro y c st' y0 y1 ⟨g',o2,i2,j2,mg',p3,p4,rfl,rfl,L2,f1,f2,f3,f4,f5⟩
     have eb:b[j2 - 1]?=some (b[j2 - 1]'(by omega)):=zF _
     dsimp only
     refine wpS_ite (fun _=>?_) (fun _=>?_)
     all_goals
      refine wpS_bind (wpS_modify ?_)
      refine wpS_bind (wpS_elem eb ?_)
      refine wpS_bind (gallop_ok HL (st:=setG st _) hk (db _ _ eb) da (by omega) (by omega) (fun i j ij jn=>kv_mono sa (by omega) (by omega)) fun k k1 k2 k3=>?_)
      dsimp only
      have kle:Bel rk a k (b[j2 - 1]'(by omega)):=fun i x hi e=>by
       have:=k2 i hi
       unfold By at this
       rw[if_neg (by decide),qA,kv_some (rk:=rk) e] at this
       exact this
      have kgt:∀(i:Nat) x,k≤i→i < i2→a[i]?=some x→Bel rk b j2 x:=fun i x i1' i2' e=>by
       have:=k3 i i1' i2'
       unfold By at this
       rw[if_neg (by decide),qA,kv_some (rk:=rk) e] at this
       exact bel_of sb (by omega) eb (by omega)
      have L3:=HiA.many L2 sa f2 f4 k1 kgt
      refine wpS_ite (fun k0=>wpS_ite (fun t1=>?_) (fun t1=>?_)) (fun k0=>?_)
      focus exact wpS_pure ⟨_,rfl,.inl ⟨_,rfl,h_doneA L3 (eq_of_beq t1) f4 sb⟩⟩
      focus
       have g1:1≤k:=by
        have:k ≠ 0:=fun e=>t1 (beq_iff_eq.mpr e)
        omega
       have g2:k≤a.size:=by omega
       have g3:k≤i2:=k1
       have ea:a[k - 1]?=some (a[k - 1]'(by omega)):=zF _
       have so2:∀ i j,i≤j→j < j2 - 1→kv rk b (0 + i)≤kv rk b (0 + j):=fun i j ij jn=>kv_mono sb (by omega) (by omega)
       have L4:=HiA.pushB L3 sb (by omega) f4 g2 eb kle
      rotate_left
      focus
       have k00:k=i2:=by omega
       subst k00
       have g1:1≤k:=f1
       have g2:k≤a.size:=f2
       have g3:k≤k:=zG _
       have ea:a[k - 1]?=some (a[k - 1]'(by omega)):=zF _
       have so2:∀ i j,i≤j→j < j2 - 1→kv rk b (0 + i)≤kv rk b (0 + j):=fun i j ij jn=>kv_mono sb (by omega) (by omega)
       have L4:=HiA.pushB L2 sb (by omega) f4 g2 eb kle
      all_goals
       refine wpS_bind (wpS_elem eb (wpS_ite (fun t3=>?_) (fun t3=>?_)))
       ·exact wpS_pure ⟨_,rfl,.inl ⟨_,rfl,h_first L4 (eq_of_beq t3) g2 hb1 sa sb h0⟩⟩
       have h3:j2 - 1 ≠ 1:=fun e=>t3 (beq_iff_eq.mpr e)
       refine wpS_bind (wpS_elem ea (wpS_bind (gallop_ok HL (st:=setG st _) hk (da _ _ ea) db (by omega) (by omega) so2 fun m m1 m2 m3=>?_)))
       dsimp only
       have mle:Bel rk b m (a[k - 1]'(by omega)):=fun i x hi e=>by
        have:=m2 i hi
        unfold By at this
        rw[if_pos rfl,qA,kv_some (rk:=rk) e] at this
        exact qF this
       have mgt:∀(i:Nat) x,m≤i→i < j2 - 1→b[i]?=some x→Bel rk a k x:=fun i x i1' i2' e=>by
        have:=m3 i i1' i2'
        unfold By at this
        rw[if_pos rfl,qA,kv_some (rk:=rk) e] at this
        exact bel_of sa g1 ea (jL.mp this)
       have L5:=HiA.manyB L4 sb (by omega) g2 m1 mgt
       refine wpS_ite (fun m0=>wpS_ite (fun t4=>?_) (fun t4=>wpS_ite (fun t5=>?_) (fun t5=>?_))) (fun m0=>?_)
       focus exact wpS_pure ⟨_,rfl,.inl ⟨_,rfl,h_first L5 (eq_of_beq t4) g2 hb1 sa sb h0⟩⟩
       focus exact wpS_pure ⟨_,rfl,.inl ⟨_,rfl,h_doneB L5 (eq_of_beq t5) g2 sa⟩⟩
       focus
        have b5:2≤m:=by
         have h4:m ≠ 1:=fun e=>t4 (beq_iff_eq.mpr e)
         have h5:m ≠ 0:=fun e=>t5 (beq_iff_eq.mpr e)
         omega
        have b6:m≤b.size:=by omega
        have L6:=HiA.push L5 sa g1 g2 b6 ea mle
       rotate_left
       focus
        have m00:m=j2 - 1:=by omega
        subst m00
        have b5:2≤j2 - 1:=by omega
        have b6:j2 - 1≤b.size:=by omega
        have L6:=HiA.push L4 sa g1 g2 b6 ea mle
       all_goals
        refine wpS_bind (wpS_elem ea (wpS_ite (fun t6=>?_) (fun t6=>?_)))
        ·exact wpS_pure ⟨_,rfl,.inl ⟨_,rfl,h_doneA L6 (eq_of_beq t6) b6 sb⟩⟩
        ·have h6:k - 1 ≠ 0:=fun e=>t6 (beq_iff_eq.mpr e)
         refine wpS_ite (fun _=>?_) (fun _=>?_)
         ·exact wpS_pure ⟨_,rfl,.inr ⟨_,_,_,_,_,_,rfl,L6,by omega,by omega,by omega,by omega,by omega⟩⟩
         ·exact wpS_pure ⟨_,_,_,_,_,_,_,rfl,rfl,L6,by omega,by omega,by omega,by omega,by omega⟩
end
end L2
namespace L2
open PySem PyProof.Rows
section
variable {prog:Program} {w:World} {A:Around} {E:Value→Shared→Prop} {s:Shared} {kd:SortKind} {D:Keyed→Prop} {rk:Keyed→Int}
def Sg (rk:Keyed→Int) (a:Array Keyed) (lo n:Nat):Prop:=SL rk ((a.toList.drop lo).take n)
theorem seg_at {a:Array Keyed} {lo n i:Nat} (hi:i < n):((a.toList.drop lo).take n)[i]?=a[lo + i]?:=by
 rw[yQ,if_pos hi,qI,zH]
theorem Sg.kv {a:Array Keyed} {lo n:Nat} (h:Sg rk a lo n) (hs:lo + n≤a.size) {i j:Nat} (ij:i≤j) (hj:j < n):kv rk a (lo + i)≤kv rk a (lo + j):=by
 have ei:a[lo + i]?=some (a[lo + i]'(by omega)):=zF _
 have ej:a[lo + j]?=some (a[lo + j]'(by omega)):=zF _
 rw[kv_some (rk:=rk) ei,kv_some (rk:=rk) ej]
 exact SL.at_ h (by rw[seg_at (by omega)]; exact ei) (by rw[seg_at hj]; exact ej) ij
theorem Sg.of {a:Array Keyed} {lo n:Nat} (hs:lo + n≤a.size) (h:∀ i j,i≤j→j < n→L2.kv rk a (lo + i)≤L2.kv rk a (lo + j)):Sg rk a lo n:=by
 unfold Sg SL
 rw[jM]
 intro i j hi hj ij
 have ln:((a.toList.drop lo).take n).length=n:=by rw[zX,qU,zD]; omega
 have key:∀ {i:Nat} (hi:i < ((a.toList.drop lo).take n).length),rk (((a.toList.drop lo).take n)[i])=L2.kv rk a (lo + i):=fun {i} hi=>by
  have e:a[lo + i]?=some (((a.toList.drop lo).take n)[i]):=by rw[← seg_at (n:=n) (by omega)]; exact zC hi
  exact(kv_some (rk:=rk) e).symm
 rw[key hi,key hj]
 exact h i j (by omega) (by omega)
theorem ext_seg (a:Array Keyed) (i j:Nat):(a.extract i j).toList=(a.toList.drop i).take (j - i):=by rw[qS]; try rfl
theorem Sg.le {a:Array Keyed} {lo n:Nat} (h:Sg rk a lo n) {i j:Nat} {x y:Keyed} (i0:lo≤i) (ij:i≤j) (jn:j < lo + n) (ex:a[i]?=some x) (ey:a[j]?=some y):rk x≤rk y:=by
 refine SL.at_ h (i:=i - lo) (j:=j - lo) ?_ ?_ (by omega)
 ·rw[seg_at (by omega),show lo + (i - lo)=i by omega]; exact ex
 ·rw[seg_at (by omega),show lo + (j - lo)=j by omega]; exact ey
theorem mem_seg {a:Array Keyed} {lo n:Nat} {x:Keyed} (h:x ∈ (a.toList.drop lo).take n):∃ i,lo≤i∧i < lo + n∧a[i]?=some x:=by
 obtain⟨j,hj⟩:=yD h
 rw[yQ] at hj
 split at hj
 ·rw[qI,zH] at hj
  exact⟨lo + j,by omega,by omega,hj⟩
 ·cases hj
theorem Sg.join {a:Array Keyed} {lo n m:Nat} (h1:Sg rk a lo n) (h2:Sg rk a (lo + n) m) (le:∀(i j:Nat) x y,lo≤i→i < lo + n→lo + n≤j→j < lo + n + m→a[i]?=some x→a[j]?=some y→rk x≤rk y):Sg rk a lo (n + m):=by
 have e:(a.toList.drop lo).take (n + m)=(a.toList.drop lo).take n++(a.toList.drop (lo + n)).take m:=by rw[kX,jK]
 unfold Sg
 rw[e]
 refine qC.mpr ⟨h1,h2,fun x hx y hy=>?_⟩
 obtain⟨i,i1,i2,ei⟩:=mem_seg hx
 obtain⟨j,j1,j2,ej⟩:=mem_seg hy
 exact le i j x y i1 i2 j1 j2 ei ej
theorem wpS_set {st st2:SortSt} {Q:PUnit→SortSt→Prop} (h:Q ⟨⟩ st2):wpS (model prog w) A E s (set st2:StateT SortSt Sem PUnit) Q st:=by
 unfold wpS
 refine(wpAny_pure ?_:wpAny _ _ (pure (PUnit.unit,st2)) _ _ s)
 exact⟨rfl,h⟩
theorem wb_at:∀(l:List Keyed) (a:Array Keyed) (o k i:Nat),((l.zipIdx k).foldl (fun a (p:Keyed × Nat)=>a.setIfInBounds (o + p.2) p.1) a)[i]?=if o + k≤i∧i < o + k + l.length∧i < a.size then l[i - o - k]? else a[i]?
 | [],a,o,k,i=>by
  rw[if_neg (by rw[jE]; omega)]
  rfl
 | x::l,a,o,k,i=>by
  rw[List.zipIdx_cons,List.foldl_cons,wb_at l _ o (k + 1) i,Array.size_setIfInBounds,Array.getElem?_setIfInBounds,zP]
  by_cases q:i=o + k
  ·subst q
   rw[if_neg (by omega)]
   by_cases z:o + k < a.size
   ·rw[if_pos rfl,if_pos z,if_pos ⟨zG _,by omega,z⟩,show o + k - o - k=0 by omega]
    rfl
   ·rw[if_pos rfl,if_neg z,if_neg (by omega),y7 (by omega)]
  ·by_cases z:o + k≤i∧i < o + k + (l.length + 1)∧i < a.size
   ·rw[if_pos z,if_pos ⟨by omega,by omega,z.2.2⟩,show i - o - k=(i - o - (k + 1)) + 1 by omega]
    rfl
   ·rw[if_neg z,if_neg (by omega),if_neg (fun e=>q e.symm)]
theorem wb_list {m:Array Keyed} {a:Array Keyed} {o:Nat} (h:o + m.size≤a.size):(m.toList.zipIdx.foldl (fun a (p:Keyed × Nat)=>a.setIfInBounds (o + p.2) p.1) a).toList=a.toList.take o++m.toList++a.toList.drop (o + m.size):=by
 refine yW fun i=>?_
 rw[zH,wb_at,q8,zD]
 have l1:(a.toList.take o).length=o:=by rw[zX,zD]; omega
 by_cases q1:i < o
 ·rw[if_neg (by omega),zQ,yU (by omega),yQ,if_pos q1,zH]
 ·by_cases q2:i < o + m.size
  ·rw[if_pos ⟨by omega,q2,by omega⟩,zQ,yG (by omega),l1,yU (by rw[zD]; omega),k8]
  ·rw[if_neg (by omega),yG (by rw[zM,l1,zD]; omega),zM,l1,zD,qI,zH]
   congr 1
   omega
structure Ts (kd:SortKind) (D:Keyed→Prop) (a0:Array Keyed) (st:SortSt):Prop where
 pm:(arrOf st).toList.Perm a0.toList
 kd:kindOf st=kd
 fl:failedOf st=none
 dd:∀ x ∈ a0.toList,D x
variable {a0:Array Keyed} {st:SortSt}
theorem Ts.all (T:Ts kd D a0 st):AllD D (arrOf st):=fun i x e=>T.dd x (T.pm.mem_iff.mp (zK (by rw[zH]; exact e)))
theorem Ts.size (T:Ts kd D a0 st):(arrOf st).size=a0.size:=by
 have:=T.pm.length_eq
 rwa [zD,zD] at this
abbrev setP (st:SortSt) (p:Array (Nat × Nat × Nat)):SortSt:=SortSt.mk' (kindOf st) (arrOf st) p (gallopOf st) (failedOf st)
theorem mergeAt_ok (HL:LtH prog w A E s kd D rk) {i sa na pw nb pw2:Nat} {Q:Bool→SortSt→Prop} (T:Ts kd D a0 st) (hi:(pendingOf st)[i]?=some (sa,na,pw)) (hj:(pendingOf st)[i + 1]?=some (sa + na,nb,pw2)) (na1:1≤na) (nb1:1≤nb) (hs:sa + na + nb≤a0.size)
  (ga:Sg rk (arrOf st) sa na) (gb:Sg rk (arrOf st) (sa + na) nb)
  (h:∀ st',Ts kd D a0 st'→pendingOf st'=((pendingOf st).setIfInBounds i (sa,na + nb,pw)).eraseIdxIfInBounds (i + 1)→Sg rk (arrOf st') sa (na + nb)→(∀ k,k < sa∨sa + na + nb≤k→(arrOf st')[k]?=(arrOf st)[k]?)→Q true st'):wpS (model prog w) A E s (mergeAt' i) Q st:=by
 have sz:=T.size
 have da:=T.all
 refine wpS_bind (wpS_get ?_)
 dsimp only
 rw[hi,hj]
 dsimp only
 refine wpS_bind (wpS_set ?_)
 have eb0:(arrOf st)[sa + na]?=some ((arrOf st)[sa + na]'(by omega)):=zF _
 refine wpS_bind (wpS_elem eb0 ?_)
 have T1:∀ g p,Ts kd D a0 (SortSt.mk' (kindOf st) (arrOf st) p g (failedOf st)):=fun g p=>⟨T.pm,T.kd,T.fl,T.dd⟩
 refine wpS_bind (gallop_ok HL (st:=setP st _) T.kd (da _ _ eb0) da (by omega) (by omega) (fun i j ij jn=>ga.kv (by omega) ij jn) fun k k1 k2 k3=>?_)
 dsimp only
 have kle:∀(i:Nat) x,sa≤i→i < sa + k→(arrOf st)[i]?=some x→rk x≤rk ((arrOf st)[sa + na]'(by omega)):=fun i x i1 i2 e=>by
  have:=k2 (i - sa) (by omega)
  unfold By at this
  rw[if_neg (by decide),show sa + (i - sa)=i by omega,kv_some (rk:=rk) e] at this
  exact this
 have kgt:∀(i:Nat) x,sa + k≤i→i < sa + na→(arrOf st)[i]?=some x→rk ((arrOf st)[sa + na]'(by omega))≤rk x:=fun i x i1 i2 e=>by
  have:=k3 (i - sa) (by omega) (by omega)
  unfold By at this
  rw[if_neg (by decide),show sa + (i - sa)=i by omega,kv_some (rk:=rk) e] at this
  omega
 refine wpS_ite (fun t1=>?_) (fun t1=>?_)
 ·have e1:=eq_of_beq t1
  refine wpS_pure (h _ (T1 _ _) rfl (ga.join gb fun i j x y i1 i2 j1 j2 ex ey=>?_) fun k _=>rfl)
  exact qK (kle i x i1 (by omega) ex) (gb.le (zG _) j1 j2 eb0 ey)
 have h1:na - k ≠ 0:=fun e=>t1 (beq_iff_eq.mpr e)
 have ea1:(arrOf st)[sa + k + (na - k) - 1]?=some ((arrOf st)[sa + k + (na - k) - 1]'(by omega)):=zF _
 refine wpS_bind (wpS_elem ea1 ?_)
 refine wpS_bind (gallop_ok HL (st:=setP st _) T.kd (da _ _ ea1) da (by omega) (by omega) (fun i j ij jn=>gb.kv (by omega) ij jn) fun m m1 m2 m3=>?_)
 dsimp only
 have ea2:(arrOf st)[sa + na - 1]?=some ((arrOf st)[sa + k + (na - k) - 1]'(by omega)):=by rw[← ea1]; congr 1; omega
 generalize (arrOf st)[sa + k + (na - k) - 1]'(by omega)=z at m2 m3 ea2
 have mle:∀(i:Nat) x,sa + na≤i→i < sa + na + m→(arrOf st)[i]?=some x→rk x≤rk z:=fun i x i1 i2 e=>by
  have:=m2 (i - (sa + na)) (by omega)
  unfold By at this
  rw[if_pos rfl,show sa + na + (i - (sa + na))=i by omega,kv_some (rk:=rk) e] at this
  exact qF this
 have mgt:∀(i:Nat) x,sa + na + m≤i→i < sa + na + nb→(arrOf st)[i]?=some x→rk z≤rk x:=fun i x i1 i2 e=>by
  have:=m3 (i - (sa + na)) (by omega) (by omega)
  unfold By at this
  rw[if_pos rfl,show sa + na + (i - (sa + na))=i by omega,kv_some (rk:=rk) e] at this
  exact jL.mp this
 refine wpS_ite (fun t2=>?_) (fun t2=>?_)
 ·have e1:=eq_of_beq t2
  refine wpS_pure (h _ (T1 _ _) rfl (ga.join gb fun i j x y i1 i2 j1 j2 ex ey=>?_) fun k _=>rfl)
  exact qK (ga.le i1 (by omega) (by omega) ex ea2) (mgt j y (by omega) j2 ey)
 have h2:m ≠ 0:=fun e=>t2 (beq_iff_eq.mpr e)
 clear ea1
 have hx:((arrOf st).extract (sa + k) (sa + na)).toList=((arrOf st).toList.drop (sa + k)).take (na - k):=by rw[ext_seg]; congr 1; omega
 have hy:((arrOf st).extract (sa + na) (sa + na + m)).toList=((arrOf st).toList.drop (sa + na)).take m:=by rw[ext_seg]; congr 1; omega
 have sx:SL rk ((arrOf st).extract (sa + k) (sa + na)).toList:=by
  have:((arrOf st).toList.drop sa).take na=((arrOf st).toList.drop sa).take k++((arrOf st).toList.drop (sa + k)).take (na - k):=by
   rw[show na=k + (na - k) by omega,kX,jK]
   congr 3
   omega
  have g:=ga
  unfold Sg at g
  rw[this] at g
  rw[hx]
  exact(qC.mp g).2.1
 have sy:SL rk ((arrOf st).extract (sa + na) (sa + na + m)).toList:=by
  rw[hy]
  have:((arrOf st).toList.drop (sa + na)).take m=(((arrOf st).toList.drop (sa + na)).take nb).take m:=by rw[List.take_take,jD m1]
  rw[this]
  exact gb.sublist (kB _ _)
 have xat:∀ j,j < na - k→((arrOf st).extract (sa + k) (sa + na))[j]?=(arrOf st)[sa + k + j]?:=fun j hj=>by rw[← zH,hx,seg_at hj]
 have yat:∀ j,j < m→((arrOf st).extract (sa + na) (sa + na + m))[j]?=(arrOf st)[sa + na + j]?:=fun j hj=>by rw[← zH,hy,seg_at hj]
 have xsz:((arrOf st).extract (sa + k) (sa + na)).size=na - k:=by rw[Array.size_extract]; omega
 have ysz:((arrOf st).extract (sa + na) (sa + na + m)).size=m:=by rw[Array.size_extract]; omega
 have dx:AllD D ((arrOf st).extract (sa + k) (sa + na)):=fun i x e=>by
  have il:i < na - k:=by
   have:=(y9.mp e).1
   omega
  rw[xat i il] at e
  exact da _ x e
 have dy:AllD D ((arrOf st).extract (sa + na) (sa + na + m)):=fun i x e=>by
  have il:i < m:=by
   have:=(y9.mp e).1
   omega
  rw[yat i il] at e
  exact da _ x e
 have h0:∀ x y,((arrOf st).extract (sa + na) (sa + na + m))[0]?=some x→((arrOf st).extract (sa + k) (sa + na))[0]?=some y→rk x≤rk y:=fun x y ex ey=>by
  rw[yat 0 (by omega),q8] at ex
  rw[xat 0 (by omega),q8] at ey
  have:=kgt _ y (zG _) (by omega) ey
  rw[eb0] at ex
  cases ex
  exact this
 have hl:∀ x ∈ ((arrOf st).extract (sa + na) (sa + na + m)).toList,∀ y,((arrOf st).extract (sa + k) (sa + na))[((arrOf st).extract (sa + k) (sa + na)).size - 1]?=some y→rk x≤rk y:=fun x hx' y ey=>by
  rw[hy] at hx'
  obtain⟨i,i1,i2,ei⟩:=mem_seg hx'
  rw[xsz,xat _ (by omega),show sa + k + (na - k - 1)=sa + na - 1 by omega,ea2] at ey
  cases ey
  exact mle i x i1 i2 ei
 have fin:∀(mm:Array Keyed) (g:Nat),Good rk ((arrOf st).extract (sa + k) (sa + na)) ((arrOf st).extract (sa + na) (sa + na + m)) mm→Q true (SortSt.mk' (kindOf st) (mm.toList.zipIdx.foldl (fun a (p:Keyed × Nat)=>a.setIfInBounds (sa + k + p.2) p.1) (arrOf st)) (((pendingOf st).setIfInBounds i (sa,na + nb,pw)).eraseIdxIfInBounds (i + 1)) g (failedOf st)):=fun mm g gm=>by
  obtain⟨pm,sm⟩:=gm
  rw[hx,hy] at pm
  have ml:mm.size=na - k + m:=by
   have:=pm.length_eq
   rw[zD,zM,zX,zX,qU,qU,zD] at this
   omega
  have eR:=wb_list (m:=mm) (a:=arrOf st) (o:=sa + k) (by omega)
  obtain⟨R,eRR⟩:∃ R,R=mm.toList.zipIdx.foldl (fun a (p:Keyed × Nat)=>a.setIfInBounds (sa + k + p.2) p.1) (arrOf st):=⟨_,rfl⟩
  rw[← eRR] at eR ⊢
  have pR:R.toList.Perm (arrOf st).toList:=by
   rw[eR]
   have:(arrOf st).toList=(arrOf st).toList.take (sa + k)++(((arrOf st).toList.drop (sa + k)).take (na - k)++((arrOf st).toList.drop (sa + na)).take m)++(arrOf st).toList.drop (sa + k + mm.size):=by
    have e1:(arrOf st).toList.drop (sa + k)=((arrOf st).toList.drop (sa + k)).take (na - k)++(arrOf st).toList.drop (sa + na):=by
     have:=(yP (na - k) ((arrOf st).toList.drop (sa + k))).symm
     rw[jK,show sa + k + (na - k)=sa + na by omega] at this
     exact this
    have e2:(arrOf st).toList.drop (sa + na)=((arrOf st).toList.drop (sa + na)).take m++(arrOf st).toList.drop (sa + k + mm.size):=by
     have:=(yP m ((arrOf st).toList.drop (sa + na))).symm
     rw[jK,show sa + na + m=sa + k + mm.size by omega] at this
     exact this
    rw[zQ,zQ,← e2,← e1,yP]
   refine List.Perm.trans ?_ (List.Perm.of_eq this.symm)
   exact List.Perm.append_right _ (List.Perm.append_left _ pm)
  have Rat:∀ j,(j < sa + k∨sa + na + m≤j)→R[j]?=(arrOf st)[j]?:=fun j hj=>by
   rw[eRR,wb_at,q8,zD,if_neg (by omega)]
  have Rm:∀ j,j < na - k + m→R[sa + k + j]?=mm[j]?:=fun j hj=>by
   rw[eRR,wb_at,q8,zD,if_pos ⟨by omega,by omega,by omega⟩,show sa + k + j - (sa + k) - 0=j by omega,zH]
  have from_:∀ j x,j < na - k + m→mm[j]?=some x→(∃ i,sa + k≤i∧i < sa + na∧(arrOf st)[i]?=some x)∨∃ i,sa + na≤i∧i < sa + na + m∧(arrOf st)[i]?=some x:=fun j x hj ex=>by
   rcases yE.mp (pm.mem_iff.mp (zK (by rw[zH]; exact ex))) with q|q
   ·obtain⟨i,i1,i2,ei⟩:=mem_seg q
    exact .inl ⟨i,i1,by omega,ei⟩
   ·exact .inr (mem_seg q)
  refine h _ ⟨pR.trans T.pm,T.kd,T.fl,T.dd⟩ rfl ?_ fun j hj=>Rat j (by omega)
  have Rsz:R.size=(arrOf st).size:=by
   have:=pR.length_eq
   rwa [zD,zD] at this
  refine Sg.of (by show sa + (na + nb)≤R.size; omega) fun i j ij jn=>?_
  obtain⟨x,ex⟩:∃ x,R[sa + i]?=some x:=⟨_,zF (by omega)⟩
  obtain⟨y,ey⟩:∃ y,R[sa + j]?=some y:=⟨_,zF (by omega)⟩
  show kv rk R (sa + i)≤kv rk R (sa + j)
  rw[kv_some (rk:=rk) ex,kv_some (rk:=rk) ey]
  by_cases q1:j < k
  ·rw[Rat _ (by omega)] at ex ey
   exact ga.le (by omega) (by omega) (by omega) ex ey
  by_cases q2:na + m≤j
  ·rw[Rat _ (by omega)] at ey
   have yz:=mgt _ y (by omega) (by omega) ey
   by_cases q3:i < k
   ·rw[Rat _ (by omega)] at ex
    exact qK (ga.le (by omega) (by omega) (by omega) ex ea2) yz
   by_cases q4:na + m≤i
   ·rw[Rat _ (by omega)] at ex
    exact gb.le (by omega) (by omega) (by omega) ex ey
   ·rw[show sa + i=sa + k + (i - k) by omega,Rm _ (by omega)] at ex
    rcases from_ _ x (by omega) ex with ⟨l,l1,l2,el⟩|⟨l,l1,l2,el⟩
    ·exact qK (ga.le (by omega) (by omega) (by omega) el ea2) yz
    ·exact qK (mle l x l1 l2 el) yz
  ·rw[show sa + j=sa + k + (j - k) by omega,Rm _ (by omega)] at ey
   by_cases q3:i < k
   ·rw[Rat _ (by omega)] at ex
    rcases from_ _ y (by omega) ey with ⟨l,l1,l2,el⟩|⟨l,l1,l2,el⟩
    ·exact ga.le (by omega) (by omega) (by omega) ex el
    ·exact qK (kle _ x (by omega) (by omega) ex) (gb.le (zG _) l1 (by omega) eb0 el)
   ·rw[show sa + i=sa + k + (i - k) by omega,Rm _ (by omega)] at ex
    exact SL.at_ sm (by rw[zH]; exact ex) (by rw[zH]; exact ey) (by omega)
 refine wpS_ite (fun _=>?_) (fun _=>?_)
 ·refine wpS_bind (mergeLo_ok HL (st:=setP st _) T.kd dx dy (by omega) (by omega) sx sy h0 hl fun mm g gm=>?_)
  refine wpS_bind (wpS_modify (wpS_bind (wpS_get ?_)))
  have e:∀(b:Bool) (st':SortSt),b=true→Q true st'→Q b st':=fun b st' eb q=>by rw[eb]; exact q
  refine wpS_pure (e _ _ ?_ (fin mm g gm))
  show(failedOf st).isNone=true
  rw[T.fl]
  rfl
 ·refine wpS_bind (mergeHi_ok HL (st:=setP st _) T.kd dx dy (by omega) (by omega) sx sy h0 hl fun mm g gm=>?_)
  refine wpS_bind (wpS_modify (wpS_bind (wpS_get ?_)))
  have e:∀(b:Bool) (st':SortSt),b=true→Q true st'→Q b st':=fun b st' eb q=>by rw[eb]; exact q
  refine wpS_pure (e _ _ ?_ (fin mm g gm))
  show(failedOf st).isNone=true
  rw[T.fl]
  rfl
end
end L2
namespace L2
open PySem PyProof.Rows
section
variable {prog:Program} {w:World} {A:Around} {E:Value→Shared→Prop} {s:Shared} {kd:SortKind} {D:Keyed→Prop} {rk:Keyed→Int} {a0:Array Keyed} {st:SortSt}
theorem ltA_ok (HL:LtH prog w A E s kd D rk) (T:Ts kd D a0 st) {i j:Nat} {Q:Option Bool→SortSt→Prop} (hi:i < a0.size) (hj:j < a0.size) (q:Q (some (decide (kv rk (arrOf st) i < kv rk (arrOf st) j))) st):wpS (model prog w) A E s (ltAt' i j) Q st:=by
 have sz:=T.size
 have ei:(arrOf st)[i]?=some ((arrOf st)[i]'(by omega)):=zF _
 have ej:(arrOf st)[j]?=some ((arrOf st)[j]'(by omega)):=zF _
 rw[ltAt'_eq]
 refine wpS_bind (wpS_get (wpS_bind (wpS_elem ei (wpS_bind (wpS_elem ej (HL.lt T.kd (T.all _ _ ei) (T.all _ _ ej) ?_))))))
 rw[kv_some (rk:=rk) ei,kv_some (rk:=rk) ej] at q
 exact q
theorem kv_mir {a:Array Keyed} {i j:Nat} (hj:j≤a.size) (k:Nat):kv rk (mirror a i j ((j - i) / 2)) k=if i≤k∧k < j then kv rk a (i + j - 1 - k) else kv rk a k:=by
 unfold kv
 rw[getElem?_mirror_all hj]
 by_cases q:i≤k∧k < j
 ·rw[if_pos q,if_pos q]
 ·rw[if_neg q,if_neg q]
structure Nb (kd:SortKind) (D:Keyed→Prop) (a0:Array Keyed) (lo:Nat) (st st':SortSt):Prop where
 ts:Ts kd D a0 st'
 pd:pendingOf st'=pendingOf st
 old:∀ k,k < lo→(arrOf st')[k]?=(arrOf st)[k]?
theorem Nb.rev {lo i j:Nat} {st':SortSt} (h:Nb kd D a0 lo st st') (hi:lo≤i) (hj:j≤a0.size):Nb kd D a0 lo st (setArr st' (mirror (arrOf st') i j ((j - i) / 2))):=by
 refine⟨⟨?_,h.ts.kd,h.ts.fl,h.ts.dd⟩,h.pd,fun k hk=>?_⟩
 ·exact(qT.mp (mirror_perm (arrOf st') i j ((j - i) / 2))).trans h.ts.pm
 ·show(mirror (arrOf st') i j ((j - i) / 2))[k]?=_
  rw[getElem?_mirror_all (by rw[h.ts.size]; exact hj),if_neg (by omega)]
  exact h.old k hk
theorem kv_eqs {a:Array Keyed} {i j:Nat} (hj:j≤a.size) (e:∀ k,i≤k→k < j→kv rk a k=kv rk a (j - 1)) (k:Nat):kv rk (mirror a i j ((j - i) / 2)) k=kv rk a k:=by
 rw[kv_mir hj]
 split
 ·rename_i q
  rw[e _ (by omega) (by omega),← e k q.1 q.2]
 ·rfl
def Asc (rk:Keyed→Int) (a:Array Keyed) (lo n:Nat):Prop:=∀ i j,i≤j→j < n→kv rk a (lo + i)≤kv rk a (lo + j)
def Dsc (rk:Keyed→Int) (a:Array Keyed) (lo n:Nat):Prop:=∀ i j,i≤j→j < n→kv rk a (lo + j)≤kv rk a (lo + i)
theorem Asc.next {a:Array Keyed} {lo n:Nat} (h:Asc rk a lo n) (n1:1≤n) (le:¬ kv rk a (lo + n) < kv rk a (lo + n - 1)):Asc rk a lo (n + 1):=fun i j ij jn=>by
 by_cases q:j < n
 ·exact h i j ij q
 ·have:j=n:=by omega
  subst this
  by_cases z:i=j
  ·subst z; exact qR _
  ·have:=h i (j - 1) (by omega) (by omega)
   rw[show lo + (j - 1)=lo + j - 1 by omega] at this
   omega
theorem Dsc.next {a:Array Keyed} {lo n:Nat} (h:Dsc rk a lo n) (n1:1≤n) (le:kv rk a (lo + n)≤kv rk a (lo + n - 1)):Dsc rk a lo (n + 1):=fun i j ij jn=>by
 by_cases q:j < n
 ·exact h i j ij q
 ·have:j=n:=by omega
  subst this
  by_cases z:i=j
  ·subst z; exact qR _
  ·have:=h i (j - 1) (by omega) (by omega)
   rw[show lo + (j - 1)=lo + j - 1 by omega] at this
   omega
theorem asc_one {a:Array Keyed} {lo:Nat}:Asc rk a lo 1:=fun i j ij jn=>by
 have:i=j:=by omega
 subst this
 exact qR _
theorem Asc.turn {a:Array Keyed} {lo n:Nat} (h:Dsc rk a lo n) (hs:lo + n≤a.size):Asc rk (mirror a lo (lo + n) ((lo + n - lo) / 2)) lo n:=fun i j ij jn=>by
 rw[kv_mir hs,kv_mir hs,if_pos ⟨by omega,by omega⟩,if_pos ⟨by omega,by omega⟩]
 have:=h (n - 1 - j) (n - 1 - i) (by omega) (by omega)
 rw[show lo + (lo + n) - 1 - (lo + i)=lo + (n - 1 - i) by omega,show lo + (lo + n) - 1 - (lo + j)=lo + (n - 1 - j) by omega]
 exact this
theorem countRun_ok (HL:LtH prog w A E s kd D rk) (T:Ts kd D a0 st) {lo nrem:Nat} {Q:Option Nat→SortSt→Prop} (hs:lo + nrem≤a0.size) (n1:1≤nrem)
  (h:∀ n st',Nb kd D a0 lo st st'→1≤n→n≤nrem→Asc rk (arrOf st') lo n→Q (some n) st'):wpS (model prog w) A E s (countRun' lo nrem) Q st:=by
 have B0:Nb kd D a0 lo st st:=⟨T,rfl,fun _ _=>rfl⟩
 rw[countRun'_eq]
 refine wpS_bind (wpS_mono (wpS_forRange (I:=fun x c st'=>st'=st∧c=(none,x)∧1≤x∧x≤nrem∧Asc rk (arrOf st) lo x) (Q:=fun c st'=>st'=st∧∃ n,c=(none,n)∧1≤n∧n≤nrem∧Asc rk (arrOf st) lo n∧(n=nrem∨(n < nrem∧kv rk (arrOf st) (lo + n) < kv rk (arrOf st) (lo + n - 1)))) ?step ?fin ⟨rfl,rfl,zG _,n1,asc_one⟩) ?post)
 case fin =>
  rintro c st' ⟨rfl,rfl,x1,x2,x3⟩
  exact⟨rfl,_,rfl,x1,x2,x3,.inl (by omega)⟩
 case step =>
  rintro x c st' x0 xn ⟨rfl,rfl,x1,x2,x3⟩
  dsimp only
  refine wpS_bind (ltA_ok HL T (by omega) (by omega) ?_)
  dsimp only
  by_cases z:kv rk (arrOf st') (lo + x) < kv rk (arrOf st') (lo + x - 1)
  ·rw[decide_eq_true z,if_pos rfl]
   exact wpS_pure ⟨rfl,x,rfl,x1,x2,x3,.inr ⟨xn,z⟩⟩
  ·rw[decide_eq_false z,if_neg (by decide)]
   exact wpS_pure ⟨rfl,rfl,by omega,by omega,x3.next x1 z⟩
 case post =>
  rintro c st' ⟨rfl,n,rfl,x1,x2,x3,x4⟩
  dsimp only
  have sz:=T.size
  refine wpS_ite (fun q=>?_) (fun q=>?_)
  ·exact wpS_pure (h n st' B0 x1 x2 x3)
  have q':n ≠ nrem:=fun e=>q (beq_iff_eq.mpr e)
  obtain⟨nlt,lt⟩:n < nrem∧kv rk (arrOf st') (lo + n) < kv rk (arrOf st') (lo + n - 1):=x4.resolve_left q'
  refine wpS_ite (fun q2=>wpS_bind (ltA_ok HL T (by omega) (by omega) ?_)) (fun q2=>?_)
  focus
   dsimp only
   refine wpS_ite (fun z=>?_) (fun z=>?_)
   focus exact wpS_pure (h n st' B0 x1 x2 x3)
   have z:¬ kv rk (arrOf st') lo < kv rk (arrOf st') (lo + n - 1):=fun y=>z (decide_eq_true y)
   have all:∀ k,lo≤k→k < lo + n→kv rk (arrOf st') k=kv rk (arrOf st') (lo + n - 1):=fun k k1 k2=>by
    have r1:=x3 0 (k - lo) (by omega) (by omega)
    have r2:=x3 (k - lo) (n - 1) (by omega) (by omega)
    rw[show lo + (k - lo)=k by omega] at r1 r2
    rw[show lo + (n - 1)=lo + n - 1 by omega] at r2
    rw[q8] at r1
    omega
   refine wpS_bind (wpS_reverse ?_)
   have ke:=kv_eqs (rk:=rk) (a:=arrOf st') (i:=lo) (j:=lo + n) (by omega) all
   have B1:=B0.rev (i:=lo) (j:=lo + n) (zG _) (by omega)
   have d1:Dsc rk (arrOf (setArr st' (mirror (arrOf st') lo (lo + n) ((lo + n - lo) / 2)))) lo (n + 1):=fun i j ij jn=>by
    show kv rk (mirror (arrOf st') lo (lo + n) ((lo + n - lo) / 2)) (lo + j)≤kv rk (mirror (arrOf st') lo (lo + n) ((lo + n - lo) / 2)) (lo + i)
    rw[ke,ke]
    by_cases j1:j < n
    ·rw[all _ (by omega) (by omega),all (lo + i) (by omega) (by omega)]
     exact qR _
    ·have e1:lo + j=lo + n:=by omega
     by_cases i1:i=j
     ·subst i1; exact qR _
     ·rw[all (lo + i) (by omega) (by omega),e1]
      exact qF lt
   generalize setArr st' (mirror (arrOf st') lo (lo + n) ((lo + n - lo) / 2))=st1 at B1 d1
   clear ke all z
  rotate_left
  focus
   have hn:n=1:=by omega
   have d1:Dsc rk (arrOf st') lo (n + 1):=fun i j ij jn=>by
    by_cases e:i=j
    ·subst e; exact qR _
    ·have e1:lo + j=lo + n:=by omega
     have e2:lo + i=lo + n - 1:=by omega
     rw[e1,e2]
     exact qF lt
   obtain⟨st1,e1⟩:∃ st1,st1=st':=⟨_,rfl⟩
   have B1:Nb kd D a0 lo st' st1:=by rw[e1]; exact B0
   rw[← e1] at d1
   show wpS _ _ _ _ _ Q st'
   have go:∀(c:StateT SortSt Sem (Option Nat)),wpS (model prog w) A E s c Q st1→wpS (model prog w) A E s c Q st':=fun c y=>by rw[← e1]; exact y
   refine go _ ?_
   clear go e1
  all_goals
    refine wpS_bind (wpS_lift (wpAny_rule ⟨rfl,?_⟩))
    refine wpS_bind (wpS_mono (wpS_forRange (I:=fun x c st2=>∃ q,c=(none,x,q)∧Nb kd D a0 lo st' st2∧1≤x∧x≤nrem∧q < x∧Dsc rk (arrOf st2) lo x∧∀ k,lo + x - (q + 1)≤k→k < lo + x→kv rk (arrOf st2) k=kv rk (arrOf st2) (lo + x - 1)) (Q:=fun c st2=>∃ n2 q,c=(none,n2,q)∧Nb kd D a0 lo st' st2∧1≤n2∧n2≤nrem∧q < n2∧Dsc rk (arrOf st2) lo n2∧∀ k,lo + n2 - (q + 1)≤k→k < lo + n2→kv rk (arrOf st2) k=kv rk (arrOf st2) (lo + n2 - 1)) ?dstep ?dfin ⟨0,rfl,B1,by omega,by omega,by omega,d1,fun k k1 k2=>by rw[show k=lo + (n + 1) - 1 by omega]⟩) ?dpost)
    case dfin =>
     rintro c st2 ⟨q,rfl,y⟩
     exact⟨_,q,rfl,y⟩
    case dstep =>
     rintro x c st2 x0 xn ⟨q,rfl,B2,y1,y2,y3,y4,y5⟩
     dsimp only
     have sz:=B2.ts.size
     refine wpS_bind (ltA_ok HL B2.ts (by omega) (by omega) ?_)
     dsimp only
     by_cases z:kv rk (arrOf st2) (lo + x) < kv rk (arrOf st2) (lo + x - 1)
     ·rw[decide_eq_true z,if_pos rfl]
      have d2:=y4.next y1 (qF z)
      refine wpS_ite (fun q0=>?_) (fun q0=>?_)
      ·refine wpS_bind (wpS_reverse (wpS_pure ⟨0,rfl,B2.rev (by omega) (by omega),by omega,by omega,by omega,fun i j ij jn=>?_,fun k k1 k2=>by rw[show k=lo + (x + 1) - 1 by omega]⟩))
       have ke:=kv_eqs (rk:=rk) (a:=arrOf st2) (i:=lo + x - (q + 1)) (j:=lo + x) (by omega) y5
       show kv rk (mirror (arrOf st2) (lo + x - (q + 1)) (lo + x) ((lo + x - (lo + x - (q + 1))) / 2)) (lo + j)≤kv rk (mirror (arrOf st2) (lo + x - (q + 1)) (lo + x) ((lo + x - (lo + x - (q + 1))) / 2)) (lo + i)
       rw[ke,ke]
       exact d2 i j ij jn
      ·exact wpS_pure ⟨0,rfl,B2,by omega,by omega,by omega,d2,fun k k1 k2=>by rw[show k=lo + (x + 1) - 1 by omega]⟩
     ·rw[decide_eq_false z,if_neg (by decide)]
      refine wpS_bind (ltA_ok HL B2.ts (by omega) (by omega) ?_)
      dsimp only
      by_cases z2:kv rk (arrOf st2) (lo + x - 1) < kv rk (arrOf st2) (lo + x)
      ·rw[decide_eq_true z2,if_pos rfl]
       exact wpS_pure ⟨x,q,rfl,B2,y1,y2,y3,y4,y5⟩
      ·rw[decide_eq_false z2,if_neg (by decide)]
       have eq:kv rk (arrOf st2) (lo + x)=kv rk (arrOf st2) (lo + x - 1):=by omega
       refine wpS_pure ⟨q + 1,rfl,B2,by omega,by omega,by omega,y4.next y1 (vI eq),fun k k1 k2=>?_⟩
       rw[show lo + (x + 1) - 1=lo + x by omega,eq]
       by_cases kx:k=lo + x
       ·subst kx; exact eq
       ·exact y5 k (by omega) (by omega)
    case dpost =>
     rintro c st2 ⟨n2,q,rfl,B2,y1,y2,y3,y4,y5⟩
     dsimp only
     have sz:=B2.ts.size
     refine wpS_ite (fun q0=>?_) (fun q0=>?_)
     focus
      refine wpS_bind (wpS_reverse ?_)
      have ke:=kv_eqs (rk:=rk) (a:=arrOf st2) (i:=lo + n2 - (q + 1)) (j:=lo + n2) (by omega) y5
      have B3:=B2.rev (i:=lo + n2 - (q + 1)) (j:=lo + n2) (by omega) (by omega)
      have d3:Dsc rk (mirror (arrOf st2) (lo + n2 - (q + 1)) (lo + n2) ((lo + n2 - (lo + n2 - (q + 1))) / 2)) lo n2:=fun i j ij jn=>by
       rw[ke,ke]
       exact y4 i j ij jn
      refine wpS_bind (wpS_reverse ?_)
      have B4:=B3.rev (i:=lo) (j:=lo + n2) (zG _) (by omega)
      have as:=Asc.turn d3 (by rw[mirror_size]; omega)
      replace as:Asc rk (arrOf (setArr (setArr st2 (mirror (arrOf st2) (lo + n2 - (q + 1)) (lo + n2) ((lo + n2 - (lo + n2 - (q + 1))) / 2))) (mirror (arrOf (setArr st2 (mirror (arrOf st2) (lo + n2 - (q + 1)) (lo + n2) ((lo + n2 - (lo + n2 - (q + 1))) / 2)))) lo (lo + n2) ((lo + n2 - lo) / 2)))) lo n2:=as
      generalize setArr (setArr st2 (mirror (arrOf st2) (lo + n2 - (q + 1)) (lo + n2) ((lo + n2 - (lo + n2 - (q + 1))) / 2))) (mirror (arrOf (setArr st2 (mirror (arrOf st2) (lo + n2 - (q + 1)) (lo + n2) ((lo + n2 - (lo + n2 - (q + 1))) / 2)))) lo (lo + n2) ((lo + n2 - lo) / 2))=st5 at B4 as
      clear B3 d3 ke
     rotate_left
     focus
      refine wpS_bind (wpS_reverse ?_)
      have B4:=B2.rev (i:=lo) (j:=lo + n2) (zG _) (by omega)
      have as:=Asc.turn y4 (by omega)
      replace as:Asc rk (arrOf (setArr st2 (mirror (arrOf st2) lo (lo + n2) ((lo + n2 - lo) / 2)))) lo n2:=as
      generalize setArr st2 (mirror (arrOf st2) lo (lo + n2) ((lo + n2 - lo) / 2))=st5 at B4 as
     all_goals
      refine wpS_bind (wpS_mono (wpS_forRange (I:=fun x c st3=>st3=st5∧c=(none,x)∧1≤x∧x≤nrem∧Asc rk (arrOf st5) lo x) (Q:=fun c st3=>st3=st5∧∃ n,c=(none,n)∧1≤n∧n≤nrem∧Asc rk (arrOf st5) lo n) ?ustep ?ufin ⟨rfl,rfl,y1,y2,as⟩) ?upost)
      case ufin =>
       rintro c st3 ⟨rfl,rfl,u1,u2,u3⟩
       exact⟨rfl,_,rfl,u1,u2,u3⟩
      case ustep =>
       rintro x c st3 x0 xn ⟨rfl,rfl,u1,u2,u3⟩
       dsimp only
       refine wpS_bind (ltA_ok HL B4.ts (by omega) (by omega) ?_)
       dsimp only
       by_cases z:kv rk (arrOf st3) (lo + x) < kv rk (arrOf st3) (lo + x - 1)
       ·rw[decide_eq_true z,if_pos rfl]
        exact wpS_pure ⟨rfl,x,rfl,u1,u2,u3⟩
       ·rw[decide_eq_false z,if_neg (by decide)]
        exact wpS_pure ⟨rfl,rfl,by omega,by omega,u3.next u1 z⟩
      case upost =>
       rintro c st3 ⟨rfl,n3,rfl,u1,u2,u3⟩
       exact wpS_pure (h n3 st3 B4 u1 u2 u3)
end
end L2
namespace L2
open PySem PyProof.Rows
section
variable {prog:Program} {w:World} {A:Around} {E:Value→Shared→Prop} {s:Shared} {kd:SortKind} {D:Keyed→Prop} {rk:Keyed→Int} {a0:Array Keyed} {st:SortSt}
theorem kv_bub {a:Array Keyed} {src d:Nat} (hs:src < a.size) (hd:d≤src) (k:Nat):kv rk (bubble a src d) k=if k=src - d then kv rk a src else if src - d < k∧k≤src then kv rk a (k - 1) else kv rk a k:=by
 unfold kv
 rw[getElem?_bubble hs d hd]
 by_cases q:k=src - d
 ·rw[if_pos q,if_pos q]
 ·rw[if_neg q,if_neg q]
  by_cases z:src - d < k∧k≤src
  ·rw[if_pos z,if_pos z]
  ·rw[if_neg z,if_neg z]
theorem binary_ok (HL:LtH prog w A E s kd D rk) (T:Ts kd D a0 st) {lo n ok:Nat} {Q:Bool→SortSt→Prop} (hs:lo + n≤a0.size) (o1:1≤ok) (o2:ok≤n) (as:Asc rk (arrOf st) lo ok)
  (h:∀ st',Nb kd D a0 lo st st'→Asc rk (arrOf st') lo n→Q true st'):wpS (model prog w) A E s (binarySort' lo n ok) Q st:=by
 rw[binarySort'_eq]
 refine wpS_bind (wpS_mono (wpS_forRange (I:=fun k c st'=>c=(none,())∧Nb kd D a0 lo st st'∧1≤k∧k≤n∧Asc rk (arrOf st') lo k) (Q:=fun c st'=>c=(none,())∧Nb kd D a0 lo st st'∧Asc rk (arrOf st') lo n) ?step ?fin ⟨rfl,⟨T,rfl,fun _ _=>rfl⟩,by omega,by omega,by rw[kP o1]; exact as⟩) ?post)
 case post =>
  rintro c st' ⟨rfl,B,as'⟩
  exact wpS_pure (h st' B as')
 case fin =>
  rintro c st' ⟨rfl,B,k1,k2,as'⟩
  refine⟨rfl,B,?_⟩
  rw[show max (max ok 1) n=n by omega] at as'
  exact as'
 case step =>
  rintro k c st' k0 kn ⟨rfl,B,k1,k2,as'⟩
  dsimp only
  have sz:=B.ts.size
  refine wpS_bind (wpS_mono (wpS_forRange (I:=fun x c st2=>st2=st'∧∃ l r,c=(none,l,r)∧l≤r∧r≤k∧r - l≤k - x∧(∀ i,i < l→kv rk (arrOf st') (lo + i)≤kv rk (arrOf st') (lo + k))∧(∀ i,r≤i→i < k→kv rk (arrOf st') (lo + k)≤kv rk (arrOf st') (lo + i))) (Q:=fun c st2=>st2=st'∧∃ l r,c=(none,l,r)∧l≤k∧(∀ i,i < l→kv rk (arrOf st') (lo + i)≤kv rk (arrOf st') (lo + k))∧(∀ i,l≤i→i < k→kv rk (arrOf st') (lo + k)≤kv rk (arrOf st') (lo + i))) ?bstep ?bfin ⟨rfl,0,k,rfl,by omega,by omega,by omega,fun i hi=>absurd hi (by omega),fun i i1 i2=>absurd i2 (by omega)⟩) ?bpost)
  case bfin =>
   rintro c st2 ⟨rfl,l,r,rfl,r1,r2,r3,r4,r5⟩
   have:l=r:=by omega
   subst this
   exact⟨rfl,l,l,rfl,r2,r4,r5⟩
  case bstep =>
   rintro x c st2 x0 xn ⟨rfl,l,r,rfl,r1,r2,r3,r4,r5⟩
   dsimp only
   refine wpS_ite (fun q=>?_) (fun q=>?_)
   ·have:l=r:=by omega
    subst this
    exact wpS_pure ⟨rfl,l,l,rfl,r2,r4,r5⟩
   ·refine wpS_bind (ltA_ok HL B.ts (by omega) (by omega) ?_)
    dsimp only
    by_cases z:kv rk (arrOf st2) (lo + k) < kv rk (arrOf st2) (lo + (l + r) / 2)
    ·rw[decide_eq_true z,if_pos rfl]
     refine wpS_pure ⟨rfl,l,_,rfl,by omega,by omega,by omega,r4,fun i i1 i2=>?_⟩
     have:=as' ((l + r) / 2) i i1 i2
     omega
    ·rw[decide_eq_false z,if_neg (by decide)]
     refine wpS_pure ⟨rfl,_,r,rfl,by omega,r2,by omega,fun i hi=>?_,r5⟩
     have:=as' i ((l + r) / 2) (by omega) (by omega)
     omega
  case bpost =>
   rintro c st2 ⟨rfl,l,r,rfl,r2,r4,r5⟩
   dsimp only
   rw[moveDown'_eq]
   refine wpS_bind (wpS_modify (wpS_pure ?_))
   have hd:lo + k - (lo + l)≤lo + k:=by omega
   have hsr:lo + k < (arrOf st2).size:=by omega
   refine⟨rfl,⟨⟨(qT.mp (bubble_perm (arrOf st2) (lo + k) (lo + k - (lo + l)))).trans B.ts.pm,B.ts.kd,B.ts.fl,B.ts.dd⟩,B.pd,fun j hj=>?_⟩,by omega,by omega,fun i j ij jn=>?_⟩
   ·show(bubble (arrOf st2) (lo + k) (lo + k - (lo + l)))[j]?=_
    rw[getElem?_bubble hsr _ hd,if_neg (by omega),if_neg (by omega)]
    exact B.old j hj
   ·show kv rk (bubble (arrOf st2) (lo + k) (lo + k - (lo + l))) (lo + i)≤kv rk (bubble (arrOf st2) (lo + k) (lo + k - (lo + l))) (lo + j)
    rw[kv_bub hsr hd,kv_bub hsr hd,show lo + k - (lo + k - (lo + l))=lo + l by omega]
    have low:∀ i j,i≤j→j < k→kv rk (arrOf st2) (lo + i)≤kv rk (arrOf st2) (lo + j):=as'
    by_cases i1:i < l
    ·rw[if_neg (show ¬ lo + i=lo + l by omega),if_neg (show ¬ (lo + l < lo + i∧lo + i≤lo + k) by omega)]
     by_cases j1:j < l
     ·rw[if_neg (show ¬ lo + j=lo + l by omega),if_neg (show ¬ (lo + l < lo + j∧lo + j≤lo + k) by omega)]
      exact low i j ij (by omega)
     by_cases j2:j=l
     ·rw[if_pos (show lo + j=lo + l by omega)]
      exact r4 i i1
     ·rw[if_neg (show ¬ lo + j=lo + l by omega),if_pos (show lo + l < lo + j∧lo + j≤lo + k by omega),show lo + j - 1=lo + (j - 1) by omega]
      exact low i (j - 1) (by omega) (by omega)
    by_cases i2:i=l
    ·rw[if_pos (show lo + i=lo + l by omega)]
     by_cases j2:j=l
     ·rw[if_pos (show lo + j=lo + l by omega)]
      exact qR _
     ·rw[if_neg (show ¬ lo + j=lo + l by omega),if_pos (show lo + l < lo + j∧lo + j≤lo + k by omega),show lo + j - 1=lo + (j - 1) by omega]
      exact r5 (j - 1) (by omega) (by omega)
    ·rw[if_neg (show ¬ lo + i=lo + l by omega),if_pos (show lo + l < lo + i∧lo + i≤lo + k by omega),if_neg (show ¬ lo + j=lo + l by omega),if_pos (show lo + l < lo + j∧lo + j≤lo + k by omega),show lo + j - 1=lo + (j - 1) by omega,show lo + i - 1=lo + (i - 1) by omega]
     exact low (i - 1) (j - 1) (by omega) (by omega)
end
end L2
namespace L2
open PySem PyProof.Rows
section
variable {prog:Program} {w:World} {A:Around} {E:Value→Shared→Prop} {s:Shared} {kd:SortKind} {D:Keyed→Prop} {rk:Keyed→Int} {a0:Array Keyed} {st:SortSt}
def Pn (rk:Keyed→Int) (a:Array Keyed):Nat→List (Nat × Nat)→Nat→Prop
 | p,[],lo=>p=lo
 | p,(q,n)::r,lo=>q=p∧1≤n∧Sg rk a p n∧Pn rk a (p + n) r lo
theorem Pn.le {a:Array Keyed}:∀ {l:List (Nat × Nat)} {p lo:Nat},Pn rk a p l lo→p + l.length≤lo
 | [],p,lo,h=>qZ h
 | (q,n)::r,p,lo,⟨_,h2,_,h4⟩=>by
  have:=Pn.le h4
  rw[zP]
  omega
theorem Pn.app {a:Array Keyed}:∀ {l1 l2:List (Nat × Nat)} {p lo:Nat},Pn rk a p (l1++l2) lo ↔ ∃ m,Pn rk a p l1 m∧Pn rk a m l2 lo
 | [],l2,p,lo=>⟨fun h=>⟨p,rfl,h⟩,fun⟨m,h1,h2⟩=>by cases (show p=m from h1); exact h2⟩
 | (q,n)::r,l2,p,lo=>by
  constructor
  ·rintro⟨h1,h2,h3,h4⟩
   obtain⟨m,m1,m2⟩:=Pn.app.mp h4
   exact⟨m,⟨h1,h2,h3,m1⟩,m2⟩
  ·rintro⟨m,⟨h1,h2,h3,m1⟩,m2⟩
   exact⟨h1,h2,h3,Pn.app.mpr ⟨m,m1,m2⟩⟩
theorem Sg.congr {a a':Array Keyed} {lo n:Nat} (h:Sg rk a lo n) (e:∀ k,lo≤k→k < lo + n→a'[k]?=a[k]?):Sg rk a' lo n:=by
 have:(a'.toList.drop lo).take n=(a.toList.drop lo).take n:=by
  refine yW fun i=>?_
  by_cases hi:i < n
  ·rw[seg_at hi,seg_at hi]
   exact e _ (by omega) (by omega)
  ·rw[yQ,yQ,if_neg hi,if_neg hi]
 unfold Sg
 rw[this]
 exact h
theorem Pn.congr {a a':Array Keyed}:∀ {l:List (Nat × Nat)} {p lo:Nat},Pn rk a p l lo→(∀ k,p≤k→k < lo→a'[k]?=a[k]?)→Pn rk a' p l lo
 | [],_,_,h,_=>h
 | (q,n)::r,p,lo,⟨h1,h2,h3,h4⟩,e=>by
  have le:=Pn.le h4
  exact⟨h1,h2,h3.congr fun k k1 k2=>e k k1 (by omega),Pn.congr h4 fun k k1 k2=>e k (by omega) k2⟩
abbrev pq (p:Array (Nat × Nat × Nat)):List (Nat × Nat):=p.toList.map fun t=>(t.1,t.2.1)
theorem pq_split {p:Array (Nat × Nat × Nat)} {i:Nat} {x y:Nat × Nat × Nat} (hi:p[i]?=some x) (hj:p[i + 1]?=some y):∃ pre post,p.toList=pre++x::y::post∧pre.length=i:=by
 have l1:=(y9.mp hi)
 have l2:=(y9.mp hj)
 obtain⟨h1,e1⟩:=l1
 obtain⟨h2,e2⟩:=l2
 refine⟨p.toList.take i,p.toList.drop (i + 2),?_,by rw[zX,zD]; omega⟩
 have a1:i < p.toList.length:=by rw[zD]; exact h1
 have a2:i + 1 < p.toList.length:=by rw[zD]; exact h2
 have d1:=qV a1
 have d2:=qV a2
 rw[show p.toList[i]=x from by rw[vN]; exact e1] at d1
 rw[show p.toList[i + 1]=y from by rw[vN]; exact e2] at d2
 rw[← d2,← d1,yP]
theorem pq_merge {p:Array (Nat × Nat × Nat)} {pre post:List (Nat × Nat × Nat)} {x y z:Nat × Nat × Nat} {i:Nat} (e:p.toList=pre++x::y::post) (hl:pre.length=i):((p.setIfInBounds i z).eraseIdxIfInBounds (i + 1)).toList=pre++z::post:=by
 have e1:((p.setIfInBounds i z).eraseIdxIfInBounds (i + 1)).toList=(p.toList.set i z).eraseIdx (i + 1):=by simp
 rw[e1,e]
 subst hl
 rw[List.set_append_right _ _ (zG _),j8,List.set_cons_zero,List.eraseIdx_append_of_length_le (by omega),show pre.length + 1 - pre.length=1 by omega]
 rfl
theorem Pn.merge (HL:LtH prog w A E s kd D rk) {i lo:Nat} {Q:Bool→SortSt→Prop} (T:Ts kd D a0 st) (P:Pn rk (arrOf st) 0 (pq (pendingOf st)) lo) (hlo:lo≤a0.size) (hi:i + 1 < (pendingOf st).size)
  (h:∀ st',Ts kd D a0 st'→Pn rk (arrOf st') 0 (pq (pendingOf st')) lo→(pq (pendingOf st')).length + 1=(pq (pendingOf st)).length→(∀ k,lo≤k→(arrOf st')[k]?=(arrOf st)[k]?)→Q true st'):wpS (model prog w) A E s (mergeAt' i) Q st:=by
 obtain⟨⟨sa,na,pw⟩,ex⟩:∃ x,(pendingOf st)[i]?=some x:=⟨_,zF (by omega)⟩
 obtain⟨⟨sb,nb,pw2⟩,ey⟩:∃ x,(pendingOf st)[i + 1]?=some x:=⟨_,zF hi⟩
 obtain⟨pre,post,e,hl⟩:=pq_split ex ey
 have P':=P
 unfold pq at P'
 rw[e,zS,yI,yI] at P'
 obtain⟨m,p1,p2,p3,p4,p5,p6,p7,p8⟩:=Pn.app.mp P'
 have p2:sa=m:=p2
 subst p2
 have p5:sb=sa + na:=p5
 subst p5
 have hle:=Pn.le p8
 refine mergeAt_ok HL T ex ey p3 p6 (by omega) p4 p7 fun st' T' pe sg old=>h st' T' ?_ ?_ fun k hk=>old k (.inr (by omega))
 ·unfold pq
  rw[pe,pq_merge e hl,zS,yI]
  refine Pn.app.mpr ⟨sa,p1.congr fun k _ k2=>old k (.inl k2),rfl,by show 1≤na + nb; omega,sg,?_⟩
  rw[← Nat.add_assoc]
  exact p8.congr fun k k1 _=>old k (.inr k1)
 ·unfold pq
  rw[pe,pq_merge e hl,e,zB,zB,zM,zM,zP,zP,zP]
  omega
theorem sortAll (HL:LtH prog w A E s kd D rk) {Q:Unit→SortSt→Prop} (T:Ts kd D a0 st) (hp:pendingOf st=#[]) (h2:1≤a0.size)
  (h:∀ st',Ts kd D a0 st'→Sg rk (arrOf st') 0 a0.size→Q () st'):wpS (model prog w) A E s sortRuns' Q st:=by
 rw[sortRuns'_eq]
 have sz:=T.size
 refine wpS_bind (wpS_get ?_)
 dsimp only
 rw[sz]
 refine wpS_bind (wpS_mono (wpS_forRange (I:=fun x c st'=>∃ lo,c=(none,lo)∧Ts kd D a0 st'∧Pn rk (arrOf st') 0 (pq (pendingOf st')) lo∧lo≤a0.size∧(x≤lo∨a0.size≤lo)) (Q:=fun c st'=>∃ lo,c=(none,lo)∧Ts kd D a0 st'∧Pn rk (arrOf st') 0 (pq (pendingOf st')) a0.size) ?step ?fin ⟨0,rfl,T,by rw[hp]; rfl,by omega,.inl (zG _)⟩) ?post)
 case fin =>
  rintro c st' ⟨lo,rfl,T',P,l1,l2⟩
  have:lo=a0.size:=by omega
  subst this
  exact⟨_,rfl,T',P⟩
 case post =>
  rintro c st' ⟨lo,rfl,T',P⟩
  dsimp only
  refine wpS_bind (wpS_mono (wpS_forRange (I:=fun x c st2=>c=(none,())∧Ts kd D a0 st2∧Pn rk (arrOf st2) 0 (pq (pendingOf st2)) a0.size∧((pq (pendingOf st2)).length≤1∨(pq (pendingOf st2)).length + x≤a0.size)) (Q:=fun c st2=>c=(none,())∧Ts kd D a0 st2∧Pn rk (arrOf st2) 0 (pq (pendingOf st2)) a0.size∧(pq (pendingOf st2)).length≤1) ?fstep ?ffin ⟨rfl,T',P,.inr (by have:=Pn.le P; omega)⟩) ?fpost)
  case ffin =>
   rintro c st2 ⟨rfl,T2,P2,l⟩
   exact⟨rfl,T2,P2,by omega⟩
  case fpost =>
   rintro c st2 ⟨rfl,T2,P2,l⟩
   refine wpS_pure (h st2 T2 ?_)
   cases e:pq (pendingOf st2) with
   | nil=>rw[e] at P2; exact absurd (show 0=a0.size from P2) (by omega)
   | cons y r =>
    obtain⟨y1,y2⟩:=y
    rw[e] at P2 l
    cases r with
    | cons _ _=>rw[zP,zP] at l; omega
    | nil =>
     obtain⟨h1,h3,h4,h5⟩:=P2
     have h5:0 + y2=a0.size:=h5
     rw[show a0.size=y2 by omega]
     exact h4
  case fstep =>
   rintro x c st2 x0 xn ⟨rfl,T2,P2,l⟩
   refine wpS_bind (wpS_get ?_)
   have pl:(pq (pendingOf st2)).length=(pendingOf st2).size:=by rw[zB,zD]
   refine wpS_ite (fun q=>wpS_pure ⟨rfl,T2,P2,by omega⟩) (fun q=>?_)
   refine wpS_bind (Pn.merge HL T2 P2 (zG _) (by split <;> omega) fun st3 T3 P3 l3 _=>?_)
   exact wpS_pure ⟨rfl,T3,P3,by omega⟩
 case step =>
  rintro x c st' x0 xn ⟨lo,rfl,T',P,l1,l2⟩
  dsimp only
  refine wpS_ite (fun q=>?_) (fun q=>?_)
  ·have:lo=a0.size:=by omega
   subst this
   exact wpS_pure ⟨_,rfl,T',P⟩
  refine wpS_bind (countRun_ok HL T' (by omega) (by omega) fun n st1 B1 n1 n2 as1=>?_)
  dsimp only
  have P1:Pn rk (arrOf st1) 0 (pq (pendingOf st1)) lo:=by rw[B1.pd]; exact P.congr fun k _ k2=>B1.old k k2
  refine wpS_ite (fun z=>wpS_bind (wpS_lift (wpAny_rule ⟨rfl,wpS_bind (binary_ok HL B1.ts (by omega) n1 (by omega) as1 fun st2 B2 as2=>?_)⟩))) (fun z=>?_)
  focus
   have P2:Pn rk (arrOf st2) 0 (pq (pendingOf st2)) lo:=by rw[B2.pd]; exact P1.congr fun k _ k2=>B2.old k k2
   have sg2:Sg rk (arrOf st2) lo (min (a0.size - lo) (minRun' a0.size a0.size 0)):=Sg.of (by rw[B2.ts.size]; omega) as2
   have m1:1≤min (a0.size - lo) (minRun' a0.size a0.size 0):=by omega
   have m2:min (a0.size - lo) (minRun' a0.size a0.size 0)≤a0.size - lo:=by omega
   have T2:=B2.ts
   clear B2 as2
   generalize min (a0.size - lo) (minRun' a0.size a0.size 0)=m at sg2 m1 m2 ⊢
   rw[if_neg (by decide)]
  rotate_left
  focus
   have P2:=P1
   have sg2:Sg rk (arrOf st1) lo n:=Sg.of (by rw[B1.ts.size]; omega) as1
   have m1:=n1
   have m2:=n2
   have T2:=B1.ts
   clear P1 as1 B1 n1 n2
   generalize st1=st2 at P2 sg2 T2 ⊢
   generalize n=m at sg2 m1 m2 ⊢
  all_goals
   refine wpS_bind (wpS_get ?_)
   have fin:∀ st3,Ts kd D a0 st3→Pn rk (arrOf st3) 0 (pq (pendingOf st3)) lo→Sg rk (arrOf st3) lo m→∃ lo',(none,lo + m)=((none:Option Unit),lo')∧Ts kd D a0 (setPending st3 ((pendingOf st3).push (lo,m,0)))∧Pn rk (arrOf (setPending st3 ((pendingOf st3).push (lo,m,0)))) 0 (pq (pendingOf (setPending st3 ((pendingOf st3).push (lo,m,0))))) lo'∧lo'≤a0.size∧(x + 1≤lo'∨a0.size≤lo'):=fun st3 T3 P3 s3=>by
    refine⟨_,rfl,⟨T3.pm,T3.kd,T3.fl,T3.dd⟩,?_,by omega,by omega⟩
    show Pn rk (arrOf st3) 0 (((pendingOf st3).push (lo,m,0)).toList.map fun t=>(t.1,t.2.1)) (lo + m)
    rw[kG,zS]
    exact Pn.app.mpr ⟨lo,P3,rfl,m1,s3,rfl⟩
   cases hb:(pendingOf st2).back? with
   | none =>
    dsimp only
    refine wpS_bind (wpS_modify (wpS_pure ?_))
    exact fin st2 T2 P2 sg2
   | some t =>
    obtain⟨s1,l3,l4⟩:=t
    dsimp only
    refine wpS_bind (wpS_mono (wpS_forRange (I:=fun y c st3=>c=(none,())∧Ts kd D a0 st3∧Pn rk (arrOf st3) 0 (pq (pendingOf st3)) lo∧Sg rk (arrOf st3) lo m) (Q:=fun c st3=>c=(none,())∧Ts kd D a0 st3∧Pn rk (arrOf st3) 0 (pq (pendingOf st3)) lo∧Sg rk (arrOf st3) lo m) ?cstep ?cfin ⟨rfl,T2,P2,sg2⟩) ?cpost)
    case cfin=>exact fun c st3 y=>y
    case cstep =>
     rintro y c st3 y0 yn ⟨rfl,T3,P3,s3⟩
     refine wpS_bind (wpS_get ?_)
     by_cases pz:(pendingOf st3).size > 1
     ·rw[if_pos pz,zF (show(pendingOf st3).size - 2 < (pendingOf st3).size by omega)]
      dsimp only
      refine wpS_ite (fun _=>wpS_pure ⟨rfl,T3,P3,s3⟩) (fun _=>?_)
      refine wpS_bind (Pn.merge HL T3 P3 l1 (by omega) fun st4 T4 P4 _ o4=>?_)
      exact wpS_pure ⟨rfl,T4,P4,s3.congr fun k k1 _=>o4 k k1⟩
     ·rw[if_neg pz]
      exact wpS_pure ⟨rfl,T3,P3,s3⟩
    case cpost =>
     rintro c st3 ⟨rfl,T3,P3,s3⟩
     dsimp only
     refine wpS_bind (wpS_modify (wpS_bind (wpS_modify (wpS_pure ?_))))
     refine fin (setPending st3 _) ⟨T3.pm,T3.kd,T3.fl,T3.dd⟩ ?_ s3
     show Pn rk (arrOf st3) 0 (pq ((pendingOf st3).modify ((pendingOf st3).size - 1) _)) lo
     have e:pq ((pendingOf st3).modify ((pendingOf st3).size - 1) fun(x:Nat × Nat × Nat)=>(x.1,x.2.1,power' a0.size (2 * s1 + l3) (2 * s1 + l3 + l3 + m) a0.size))=pq (pendingOf st3):=by
      refine yW fun i=>?_
      unfold pq
      rw[zJ,zJ,zH,zH,Array.getElem?_modify]
      split
      ·cases (pendingOf st3)[i]? <;> rfl
      ·rfl
     rw[e]
     exact P3
end
end L2
namespace L2
open PySem PyProof.Rows
abbrev T3:=Int × Int × Int
def t3L (p q:T3):Bool:=decide (p.1 < q.1∨(p.1=q.1∧(p.2.1 < q.2.1∨(p.2.1=q.2.1∧p.2.2 < q.2.2))))
theorem t3L_iff (p q:T3):t3L p q=true ↔ (p.1 < q.1∨(p.1=q.1∧(p.2.1 < q.2.1∨(p.2.1=q.2.1∧p.2.2 < q.2.2)))):=by unfold t3L; exact decide_eq_true_iff
def rkT (ts:List T3) (t:T3):Int:=((ts.countP fun p=>t3L p t:Nat):Int)
theorem rkT_lt {ts:List T3} {t u:T3} (ht:t ∈ ts):decide (rkT ts t < rkT ts u)=t3L t u:=by
 cases e:t3L t u with
 | true =>
  refine decide_eq_true ?_
  unfold rkT
  have:=countP_lt (f:=fun p=>t3L p t) (g:=fun p=>t3L p u) (l:=ts) (fun x _ h=>?_) ⟨t,ht,e,?_⟩
  ·omega
  ·rw[t3L_iff] at h e ⊢; omega
  ·cases z:t3L t t with
   | false=>rfl
   | true=>rw[t3L_iff] at z; omega
 | false =>
  refine decide_eq_false ?_
  unfold rkT
  have:=vL (p:=fun p=>t3L p u) (q:=fun p=>t3L p t) (l:=ts) fun x _ h=>by
   have ne:¬ (t.1 < u.1∨(t.1=u.1∧(t.2.1 < u.2.1∨(t.2.1=u.2.1∧t.2.2 < u.2.2)))):=fun z=>by rw[(t3L_iff _ _).mpr z] at e; cases e
   rw[t3L_iff] at h ⊢
   omega
  omega
def t3E (p q:T3):Prop:=t3L q p=false
theorem t3E_anti {p q:T3} (h1:t3E p q) (h2:t3E q p):p=q:=by
 have n1:¬ (q.1 < p.1∨(q.1=p.1∧(q.2.1 < p.2.1∨(q.2.1=p.2.1∧q.2.2 < p.2.2)))):=fun z=>by rw[t3E,(t3L_iff _ _).mpr z] at h1; cases h1
 have n2:¬ (p.1 < q.1∨(p.1=q.1∧(p.2.1 < q.2.1∨(p.2.1=q.2.1∧p.2.2 < q.2.2)))):=fun z=>by rw[t3E,(t3L_iff _ _).mpr z] at h2; cases h2
 obtain⟨p1,p2,p3⟩:=p
 obtain⟨q1,q2,q3⟩:=q
 dsimp only at n1 n2
 have e1:p1=q1:=by omega
 have e2:p2=q2:=by omega
 have e3:p3=q3:=by omega
 rw[e1,e2,e3]
theorem sorted_uniq:∀ {l m:List T3},l.Perm m→l.Pairwise t3E→m.Pairwise t3E→l=m:=fun {l m} p h1 h2=>p.eq_of_pairwise (fun a b _ _ x y=>t3E_anti x y) h1 h2
section
variable {prog:Program} {w:World} {A:Around} {E:Value→Shared→Prop} {s:Shared}
def TriIn (h:Heap) (v:Value) (p:T3):Prop:=∃(a:Addr) (o:Obj) (n:Nat) (t u x:Tok),v=.ref a∧h.get? a=some o∧o.cls=.type "tuple"∧o.data=.seq #[.int p.1 t,.int p.2.1 u,.int p.2.2 x] n
theorem keyLt_tri {v u:Value} {p q:T3} {Q:Bool→Shared→Prop} (hv:TriIn s.heap v p) (hu:TriIn s.heap u q) (h:Q (t3L p q) s):wpAny (model prog w) A (keyLt' (tuples' true) v u) Q E s:=by
 obtain⟨a,o,n,t1,t2,t3,rfl,g1,_,d1⟩:=hv
 obtain⟨b,o',n',t4,t5,t6,rfl,g2,_,d2⟩:=hu
 refine PySem.W.kat_lt g1 d1 g2 d2 ?_
 refine PySem.W.kat_cons (wpAny_eqBool_int ?_)
 unfold t3L at h
 by_cases e:p.1=q.1
 ·rw[beq_iff_eq.mpr e]
  refine PySem.W.kat_yes (PySem.W.kat_cons (wpAny_eqBool_int ?_))
  by_cases e2:p.2.1=q.2.1
  ·rw[beq_iff_eq.mpr e2]
   refine PySem.W.kat_yes (PySem.W.kat_cons (wpAny_eqBool_int ?_))
   by_cases e3:p.2.2=q.2.2
   ·rw[beq_iff_eq.mpr e3]
    refine PySem.W.kat_yes (PySem.W.kat_nil ?_)
    rw[decide_eq_false (by omega)] at h
    exact h
   ·rw[show(p.2.2 == q.2.2)=false from by simpa using e3]
    refine PySem.W.kat_no (PySem.W.kat_one _ _ (wpAny_lt_int ?_))
    rw[decide_eq_decide.mpr (show _ ↔ p.2.2 < q.2.2 by omega)] at h
    exact h
  ·rw[show(p.2.1 == q.2.1)=false from by simpa using e2]
   refine PySem.W.kat_no (PySem.W.kat_one _ _ (wpAny_lt_int ?_))
   rw[decide_eq_decide.mpr (show _ ↔ p.2.1 < q.2.1 by omega)] at h
   exact h
 ·rw[show(p.1 == q.1)=false from by simpa using e]
  refine PySem.W.kat_no (oneLt_int ?_)
  rw[decide_eq_decide.mpr (show _ ↔ p.1 < q.1 by omega)] at h
  exact h
theorem TriIn.keep {h h':Heap} {v:Value} {p:T3} (k:∀ b o,o.cls=.type "tuple"→h.get? b=some o→h'.get? b=some o) (x:TriIn h v p):TriIn h' v p:=by
 obtain⟨a,o,n,t,u,y,e,g,c,d⟩:=x
 exact⟨a,o,n,t,u,y,e,k a o c g,c,d⟩
theorem TriIn.inj {h:Heap} {v:Value} {p q:T3} (x:TriIn h v p) (y:TriIn h v q):p=q:=by
 obtain⟨a,o,n,t,u,z,e,g,c,d⟩:=x
 obtain⟨a',o',n',t',u',z',e',g',c',d'⟩:=y
 rw[e] at e'
 cases e'
 rw[g] at g'
 cases g'
 rw[d] at d'
 have:(#[Value.int p.1 t,.int p.2.1 u,.int p.2.2 z]:Array Value)=#[.int q.1 t',.int q.2.1 u',.int q.2.2 z']:=by injection d'
 injection this with this
 injection this with a1 a2
 injection a2 with a2 a3
 injection a3 with a3 _
 injection a1 with b1
 injection a2 with b2
 injection a3 with b3
 exact Prod.ext b1 (Prod.ext b2 b3)
noncomputable def trV (h:Heap) (v:Value):T3:=by classical exact if q:∃ p,TriIn h v p then q.choose else (0,0,0)
theorem trV_is {h:Heap} {v:Value} {p:T3} (x:TriIn h v p):trV h v=p:=by
 unfold trV
 rw[dif_pos ⟨p,x⟩]
 exact TriIn.inj (Exists.choose_spec (⟨p,x⟩:∃ p,TriIn h v p)) x
theorem triH {ts:List T3} {h:Heap} (hs:s.heap=h):LtH prog w A E s (tuples' true) (fun x=>∃ t ∈ ts,TriIn h x.1 t) (fun x=>rkT ts (trV h x.1)):=⟨fun {st x y Q} hk ⟨t,ht,it⟩ ⟨u,hu,iu⟩ q=>by
 subst hs
 rw[trV_is it,trV_is iu,rkT_lt ht] at q
 rw[lt'_eq]
 refine wpS_bind (wpS_get ?_)
 rw[hk]
 refine wpS_bind (wpS_lift (wpAny_attempt (keyLt_tri it iu ⟨rfl,?_⟩)))
 exact wpS_pure q⟩
def Rise (h:Heap) (vs:List Value) (out:Array Value):Prop:=out.toList.Perm vs∧(out.toList.map (trV h)).Pairwise t3E
end
end L2
namespace L2
open PySem PyProof.Rows
section
variable {prog:Program} {w:World} {A:Around} {E:Value→Shared→Prop} {s:Shared}
theorem pairs_map (vs:List Value):(pairsOf vs).toList.map (·.2)=vs:=by
 rw[pairsOf_toList]
 exact List.map_snd_zip (zG _)
theorem sort3_tree {a:Addr} {vs:List Value} {n:Nat} {P:Fin→Shared→Prop} (hx:s.heap.get? a=some (seqObj "list" vs.toArray n)) (hp:∀ v ∈ vs,∃ p,TriIn s.heap v p) (hz:vs.length≤sizeLine)
  (h:∀ out:Array Value,Rise s.heap vs out→P (.done (.ret .none)) { s with heap:=sortedHeap s.heap a vs out }):wpAny (model prog w) A (Builtin.«list.sort» ⟨[.ref a],[]⟩) P E s:=by
 rw[list_sort_plain]
 have la:a < s.heap.objs.size:=Heap.lt_size hx
 have hz1:vs.toArray.size≤sizeLine:=by rw[zL]; exact hz
 refine wpAny_bind (listItems_at hx rfl (wpAny_bind (listUpdate_at hx rfl ?_ hz1 (zZ _))))
 obtain⟨c1,x1⟩:∃ c1,(s.heap.update a (Obj.mapSeq fun _=>#[])).get? a=some (seqObj "list" #[] c1):=⟨_,get?_update_seq hx (fun _=>#[])⟩
 refine wpAny_bind (seqEpoch_at x1 rfl (wpAny_bind (wpAny_newTuple ?_ (show vs.toArray.toList.length≤sizeLine from hz))))
 refine wpAny_bind (wpAny_newList (wpAny_holding ?_) (zZ _))
 have old:∀ b o,b ≠ a→s.heap.get? b=some o→(((s.heap.update a (Obj.mapSeq fun _=>#[])).push (seqObj "tuple" vs.toArray 0)).push (seqObj "list" #[] 0)).get? b=some o:=fun b o nb e=>by
  have lb:b < s.heap.objs.size:=Heap.lt_size e
  rw[Heap.get?_push_ne _ _ _ (by rw[size_push',Heap.size_update]; omega),Heap.get?_push_ne _ _ _ (by rw[Heap.size_update]; omega),Heap.get?_update_ne _ _ _ _ nb]
  exact e
 have x6:(((s.heap.update a (Obj.mapSeq fun _=>#[])).push (seqObj "tuple" vs.toArray 0)).push (seqObj "list" #[] 0)).get? a=some (seqObj "list" #[] c1):=by
  rw[Heap.get?_push_ne _ _ _ (by rw[size_push',Heap.size_update]; omega),Heap.get?_push_ne _ _ _ (by rw[Heap.size_update]; omega)]
  exact x1
 have keep:∀ v p,TriIn s.heap v p→TriIn (((s.heap.update a (Obj.mapSeq fun _=>#[])).push (seqObj "tuple" vs.toArray 0)).push (seqObj "list" #[] 0)) v p:=fun v p it=>it.keep fun b o cl e=>old b o (fun z=>by subst z; rw[hx] at e; cases e; exact absurd (show Value.type "list"=Value.type "tuple" from cl) (fun z=>by injection z with z; exact absurd z (by decide))) e
 show wpAny (model prog w) A _ P E { s with heap:=(((s.heap.update a (Obj.mapSeq fun _=>#[])).push (seqObj "tuple" vs.toArray 0)).push (seqObj "list" #[] 0)) }
 dsimp only
 have sz:vs.toArray.size=vs.length:=by simp
 by_cases h2:vs.toArray.size < 2
 ·rw[if_pos h2,if_pos h2]
  refine wpAny_bind (wpAny_pure ?_)
  rw[StateT.run_pure]
  refine wpAny_bind (wpAny_pure ?_)
  dsimp only
  refine wpAny_bind (seqEpoch_at x6 rfl (wpAny_bind (listUpdate_at x6 rfl ?_ (zZ _) (by rw[kU]; show(pairsOf vs).size≤_; rw[pairsOf_size]; omega))))
  simp only [bne_self_eq_false,yB,if_false]
  have em:((pairsOf vs).map fun x=>x.2).toList=vs:=by rw[kN]; exact pairs_map vs
  refine wpAny_pure (h _ ⟨by rw[show(((vs.toArray.zip vs.toArray).map fun x=>x.2):Array Value).toList=vs from em],?_⟩)
  rw[show(((vs.toArray.zip vs.toArray).map fun x=>x.2):Array Value).toList=vs from em]
  rw[sz] at h2
  match vs,h2 with
  | [],_=>exact List.Pairwise.nil
  | [v],_=>exact List.pairwise_singleton _ _
 ·rw[if_neg h2,if_neg h2]
  rw[sz] at h2
  obtain⟨s2,es2⟩:∃ s2:Shared,s2={ s with heap:=(((s.heap.update a (Obj.mapSeq fun _=>#[])).push (seqObj "tuple" vs.toArray 0)).push (seqObj "list" #[] 0)) }:=⟨_,rfl⟩
  have kt:∀(l:List Value),(∀ v ∈ l,∃ p,TriIn s.heap v p)→∃ fs:List Value,fs.length=l.length∧(∀ f ∈ fs,∃ i t,f=.int i t)∧PySem.W.KatTups (((s.heap.update a (Obj.mapSeq fun _=>#[])).push (seqObj "tuple" vs.toArray 0)).push (seqObj "list" #[] 0)) l fs:=fun l=>by
   induction l with
   | nil=>exact fun _=>⟨[],rfl,fun _ z=>absurd z zW,PySem.W.KatTups.nil⟩
   | cons v l ih =>
    intro hq
    obtain⟨p,ip⟩:=hq v zN
    obtain⟨b,o,m,t,u',y,rfl,g1,c1',d1⟩:=keep _ _ ip
    obtain⟨fs,e1,e2,e3⟩:=ih fun v' hv'=>hq v' (zI _ hv')
    refine⟨.int _ t::fs,by rw[zP,zP,e1],fun f hf=>?_,PySem.W.KatTups.cons g1 c1' d1 rfl e3⟩
    rcases zT.mp hf with z|z
    ·exact⟨_,_,z⟩
    ·exact e2 f z
  obtain⟨fs,f1,f2,f3⟩:=kt vs hp
  refine wpAny_bind (PySem.W.kat_kind (T:=.type "int") f3 (by omega) (fun f hf=>?_) (by decide) ?_)
  ·obtain⟨i,t,rfl⟩:=f2 f hf
   exact .now
  have psz:(pairsOf vs).size=vs.length:=pairsOf_size vs
  have HL:=triH (prog:=prog) (w:=w) (A:=A) (E:=E) (s:={ s with heap:=(((s.heap.update a (Obj.mapSeq fun _=>#[])).push (seqObj "tuple" vs.toArray 0)).push (seqObj "list" #[] 0)) }) (ts:=vs.map (trV s.heap)) rfl
  have T0:Ts (tuples' true) (fun x=>∃ t ∈ vs.map (trV s.heap),TriIn (((s.heap.update a (Obj.mapSeq fun _=>#[])).push (seqObj "tuple" vs.toArray 0)).push (seqObj "list" #[] 0)) x.1 t) (pairsOf vs) (SortSt.mk' (tuples' true) (vs.toArray.zip vs.toArray) #[] 7 none):=⟨.refl _,rfl,rfl,fun x hx'=>by
   rw[pairsOf_toList] at hx'
   have hm:=(qL (show(x.1,x.2) ∈ vs.zip vs from hx')).1
   obtain⟨p,ip⟩:=hp x.1 hm
   exact⟨p,yH.mpr ⟨x.1,hm,trV_is ip⟩,keep _ _ ip⟩⟩
  refine wpAny_bind (wpAny_mono (sortAll HL (Q:=fun _ st'=>Ts (tuples' true) (fun x=>∃ t ∈ vs.map (trV s.heap),TriIn (((s.heap.update a (Obj.mapSeq fun _=>#[])).push (seqObj "tuple" vs.toArray 0)).push (seqObj "list" #[] 0)) x.1 t) (pairsOf vs) st'∧Sg (fun x=>rkT (vs.map (trV s.heap)) (trV (((s.heap.update a (Obj.mapSeq fun _=>#[])).push (seqObj "tuple" vs.toArray 0)).push (seqObj "list" #[] 0)) x.1)) (arrOf st') 0 (pairsOf vs).size) T0 rfl (by omega) fun st' T' S'=>⟨T',S'⟩) ?_ fun _ _ e=>e)
  rintro⟨⟨⟩,st'⟩ s' ⟨rfl,T',S'⟩
  dsimp only
  have osz:=T'.size
  refine wpAny_bind (seqEpoch_at x6 rfl (wpAny_bind (listUpdate_at x6 rfl ?_ (zZ _) (by refine yA (qZ ((kU ..).trans (osz.trans psz))) ?_; omega))))
  rw[show failedOf st'=none from T'.fl]
  simp only [bne_self_eq_false,yB,if_false]
  have same:∀ x ∈ (arrOf st').toList,x.1=x.2∧x.2 ∈ vs:=fun x hx'=>by
   have:=T'.pm.mem_iff.mp hx'
   rw[pairsOf_toList] at this
   obtain⟨i,hi⟩:=yD this
   rw[jN] at hi
   exact⟨Option.some.inj (hi.1.symm.trans hi.2),zK hi.2⟩
  refine wpAny_pure (h _ ⟨?_,?_⟩)
  ·rw[kN]
   exact(T'.pm.map (·.2)).trans (.of_eq (pairs_map vs))
  ·rw[kN,vE]
   have S2:(arrOf st').toList.Pairwise fun x y=>rkT (vs.map (trV s.heap)) (trV (((s.heap.update a (Obj.mapSeq fun _=>#[])).push (seqObj "tuple" vs.toArray 0)).push (seqObj "list" #[] 0)) x.1)≤rkT (vs.map (trV s.heap)) (trV (((s.heap.update a (Obj.mapSeq fun _=>#[])).push (seqObj "tuple" vs.toArray 0)).push (seqObj "list" #[] 0)) y.1):=by
    have:=S'
    unfold Sg SL at this
    rw[List.drop_zero,q9 (by rw[zD]; omega)] at this
    exact this
   refine List.pairwise_map.mpr (S2.imp_of_mem fun {x y} hx' hy' le=>?_)
   obtain⟨e1,m1⟩:=same x hx'
   obtain⟨e2,m2⟩:=same y hy'
   obtain⟨p,ip⟩:=hp _ m1
   obtain⟨r,ir⟩:=hp _ m2
   rw[e1,e2,trV_is (keep _ _ ip),trV_is (keep _ _ ir)] at le
   show t3L (trV s.heap y.2) (trV s.heap x.2)=false
   rw[trV_is ip,trV_is ir,← rkT_lt (ts:=vs.map (trV s.heap)) (yH.mpr ⟨y.2,m2,trV_is ir⟩)]
   exact decide_eq_false (by omega)
end
end L2
namespace L2
open PySem PyProof.Rows
section
variable {prog:Program} {w:World} {A:Around} {E:Value→Shared→Prop} {s:Shared}
theorem sorted_tris {l:Addr} {vs:List Value} {Q:Value→Shared→Prop} (hl:s.heap.IsList l vs.toArray) (hp:∀ v ∈ vs,∃ p,TriIn s.heap v p) (hz:vs.length≤sizeLine)
  (h:∀ out:Array Value,Rise s.heap vs out→Q (.ref (s.heap.objs.size + 1)) { s with heap:=sortedAll s.heap vs out }):wpAny (model prog w) A (call (.builtin "sorted") [.ref l]) Q E s:=by
 refine Calls.call_function_entry (E:=E) kind_sorted plain_sorted entry_sorted (args_sorted1 _) ?_
 unfold Builtin.«sorted»
 refine wpAny_bind (m:=checkCount "sorted" 1 1 _) (wpAny_pure (wpAny_bind (collect_list hl (wpAny_bind (wpAny_newList ?_ hz)) hz)))
 have z1:((s.heap.push (seqObj "list" #[] 0)).update s.heap.objs.size (Obj.mapSeq (·++vs.toArray))).objs.size=s.heap.objs.size + 1:=by rw[Heap.size_update,size_push']
 have z2:(((s.heap.push (seqObj "list" #[] 0)).update s.heap.objs.size (Obj.mapSeq (·++vs.toArray))).push (seqObj "list" vs.toArray 0)).get? (s.heap.objs.size + 1)=some (seqObj "list" vs.toArray 0):=by rw[← z1]; exact Heap.get?_push_size _ rfl
 have keep:∀ v p,TriIn s.heap v p→TriIn (((s.heap.push (seqObj "list" #[] 0)).update s.heap.objs.size (Obj.mapSeq (·++vs.toArray))).push (seqObj "list" vs.toArray 0)) v p:=fun v p it=>it.keep fun b o _ e=>by
  have lb:b < s.heap.objs.size:=Heap.lt_size e
  rw[Heap.get?_push_ne _ _ _ (by rw[z1]; omega),Heap.get?_update_ne _ _ _ _ (by omega),Heap.get?_push_ne _ _ _ (by omega)]
  exact e
 show wpAny _ _ _ _ _ { s with heap:=(((s.heap.push (seqObj "list" #[] 0)).update s.heap.objs.size (Obj.mapSeq (·++vs.toArray))).push (seqObj "list" vs.toArray 0)) }
 rw[z1]
 refine wpAny_bind (wpAny_holding (wpAny_call_entry slot_list_sort ⟨_,z2,rfl⟩ entry_list_sort (sort3_tree z2 (fun v hv=>let ⟨p,ip⟩:=hp v hv; ⟨p,keep v p ip⟩) hz fun out ro=>⟨_,rfl,wpAny_pure ⟨_,rfl,h out ⟨ro.1,?_⟩⟩⟩) (args_list_sort _)))
 have e:out.toList.map (trV s.heap)=out.toList.map (trV (((s.heap.push (seqObj "list" #[] 0)).update s.heap.objs.size (Obj.mapSeq (·++vs.toArray))).push (seqObj "list" vs.toArray 0))):=List.map_congr_left fun v hv=>by
  obtain⟨p,ip⟩:=hp v (ro.1.mem_iff.mp hv)
  rw[trV_is ip,trV_is (keep v p ip)]
 rw[e]
 exact ro.2
end
section
variable {X:Cx}
theorem call_srt3 {K:PySem.W.Frag} (hK:X.K=K):CallR X (.builtin "sorted") (fun xs H Q=>∃(p:Addr) (us:List V) (ts:List T3),xs=[.ref p]∧SqL K H p us∧Paired (fun v (t:T3)=>∃ a,v=V.ref a∧H a=some (.tup [.int t.1,.int t.2.1,.int t.2.2])) us ts ∧
  ∀(l:Addr) (out:List V) (ms:List T3),H l=none→Paired (fun v (t:T3)=>∃ a,v=V.ref a∧H a=some (.tup [.int t.1,.int t.2.1,.int t.2.2])) out ms→ms.Perm ts→ms.Pairwise t3E→Q (.ref l) (upd H l (.lst out))):=by
 subst hK
 intro pins s σ H xs us Q I r h
 obtain⟨p,uv,ts,rfl,hq,htp,q⟩:=h
 obtain⟨u,rfl,ru⟩:=vals1 r
 cases ru
 obtain⟨its,rv,pl,hz⟩:=I.list hq
 have tri:∀(a:Addr) (t:T3),H a=some (.tup [.int t.1,.int t.2.1,.int t.2.2])→TriIn s.heap (.ref a) t:=fun a t ha=>by
  obtain⟨_,its2,rv2,o,g1,g2,n,g3⟩:=(show ObjOk X.prog X.w H s.heap a (.tup _) from I.hok a _ ha)
  cases rv2 with
  | cons r1 rv2 =>
  cases rv2 with
  | cons r2 rv2 =>
  cases rv2 with
  | cons r3 rv2 =>
  cases rv2
  obtain⟨t1,rfl⟩:=r1
  obtain⟨t2,rfl⟩:=r2
  obtain⟨t3,rfl⟩:=r3
  exact⟨a,o,n,t1,t2,t3,rfl,g1,g2,g3⟩
 have ls:=rv.length
 have shape:∀ {us:List V} {vs:List Value} {ts:List T3},Vals us vs→Paired (fun v (t:T3)=>∃ a,v=V.ref a∧H a=some (.tup [.int t.1,.int t.2.1,.int t.2.2])) us ts→(∀ v ∈ vs,∃(a:Addr) (t:T3),v=Value.ref a∧H a=some (.tup [.int t.1,.int t.2.1,.int t.2.2]))∧vs.map (trV s.heap)=ts:=fun {us vs ts} hv hp=>by
  induction hp generalizing vs with
  | nil=>cases hv; exact⟨fun v h=>absurd h zW,rfl⟩
  | @cons v t us ts p _ ih =>
   obtain⟨a,rfl,ha⟩:=p
   cases hv with
   | cons r rs =>
    obtain⟨i1,i2⟩:=ih rs
    cases r
    refine⟨fun v hv=>?_,?_⟩
    ·rcases zT.mp hv with e|e
     ·exact⟨a,t,e,ha⟩
     ·exact i1 v e
    ·rw[yI,i2,trV_is (tri a t ha)]
 obtain⟨sh1,sh2⟩:=shape rv htp
 refine sorted_tris pl.isList (fun v hv=>let ⟨a,t,e,ha⟩:=sh1 v hv; ⟨t,e ▸ tri a t ha⟩) (by omega) fun out ro=>?_
 obtain⟨e,he⟩:=sortedAll_at s.heap its out
 have back:∀ l:List Value,(∀ v ∈ l,∃(a:Addr) (t:T3),v=Value.ref a∧H a=some (.tup [.int t.1,.int t.2.1,.int t.2.2]))→∃ us:List V,Vals us l∧Paired (fun v (t:T3)=>∃ a,v=V.ref a∧H a=some (.tup [.int t.1,.int t.2.1,.int t.2.2])) us (l.map (trV s.heap)):=fun l=>by
  induction l with
  | nil=>exact fun _=>⟨[],.nil,.nil⟩
  | cons v l ih =>
   intro hv
   obtain⟨a,t,rfl,ha⟩:=hv v zN
   obtain⟨us,u1,u2⟩:=ih fun u hu=>hv u (zI _ hu)
   refine⟨.ref a::us,.cons rfl u1,?_⟩
   rw[yI,trV_is (tri a t ha)]
   exact .cons ⟨a,rfl,ha⟩ u2
 obtain⟨us,u1,u2⟩:=back out.toList fun v hv=>sh1 v (ro.1.mem_iff.mp hv)
 refine⟨.ref _,_,I.laid (t':=s.toks) (o:=.lst us) (fun _ _=>sortedAll_old) (qB _) ⟨?_,out.toList,e,u1,he⟩,rfl,q _ us _ (I.hok.fresh (qB _)) u2 ?_ ro.2⟩
 ·rw[u1.length,ro.1.length_eq]
  omega
 ·rw[← sh2]
  exact ro.1.map _
end
end L2
namespace Oc
theorem abb {p:Prop} (h:∀ G:Prop,(p→G)→G):p:=h p fun x=>x
end Oc
namespace Oc
open PySem L2
theorem jxL {K:PySem.W.Frag} {H:Hp} {p:Addr} {xs:List V} {j:Nat} {v:V} {Q:VK} (h:H p=some (.lst xs)) (hv:xs[j]?=some v) (q:Q v H):rIxL K (.ref p) (.int (j:Int)) H Q:=⟨p,xs,_,v,rfl,rfl,SqL.of h,atI_nat hv,q⟩
theorem jxTc {K:PySem.W.Frag} {H:Hp} {σ:St} {p:Addr} {xs:List V} {j:Nat} {v:V} {Q:VK} (h:H p=some (.tup xs)) (hv:xs[j]?=some v) (q:Q v H):tC (.int (j:Int)) σ H (fun y H2=>rIxT K (.ref p) y H2 Q):=⟨p,xs,_,v,rfl,rfl,SqT.of h,atI_nat hv,q⟩
theorem jxLc {K:PySem.W.Frag} {H:Hp} {σ:St} {p:Addr} {xs:List V} {j:Nat} {v:V} {Q:VK} (h:H p=some (.lst xs)) (hv:xs[j]?=some v) (q:Q v H):tC (.int (j:Int)) σ H (fun y H2=>rIxL K (.ref p) y H2 Q):=⟨p,xs,_,v,rfl,rfl,SqL.of h,atI_nat hv,q⟩
end Oc
namespace Oc
open PySem L2
theorem tv {i:Nat} {σ:St} {H:Hp} {Q:VK} {x:V} (h:σ[i]?=some (some x)) (q:Q x H):tVar i σ H Q:=⟨x,h,q⟩
theorem tvO {i:Nat} {r:R2} {tb:TE} {σ:St} {H:Hp} {Q:VK} {x:V} (h:σ[i]?=some (some x)) (q:tb σ H fun y H2=>r x y H2 Q):tOp r (tVar i) tb σ H Q:=⟨x,h,q⟩
theorem tvC {i:Nat} {tr:TA} {σ:St} {H:Hp} {Q:List V→Hp→Prop} {x:V} (h:σ[i]?=some (some x)) (q:tr σ H fun xs H2=>Q (x::xs) H2):tCons (tVar i) tr σ H Q:=⟨x,h,q⟩
theorem tvK {i:Nat} {sp:Sp} {dvs:List V} {E:XK} {tr:TA} {σ:St} {H:Hp} {Q:VK} {x:V} (h:σ[i]?=some (some x)) (q:tr σ H fun xs H2=>sp (x::xs++dvs) H2 Q E):tCall sp dvs E (tCons (tVar i) tr) σ H Q:=⟨x,h,q⟩
end Oc
namespace Oc
open PySem L2
def top (i:Nat):Stmt:=PySem.Challenge.pw_ownclocks_k16_each_piece_walked.main.body.getD i (.Pass ⟨0,0,0,0⟩)
theorem p64:(2:Int) ^ 64=18446744073709551616:=by decide
theorem p62:(2:Int) ^ 62=4611686018427387904:=by decide
end Oc
namespace Oc
open PySem L2
structure Txt (K:PySem.W.Frag) (mg:Str→Option Value):Prop where
 n_tuple:mg "tuple"=none
 n_len:mg "len"=none
 n_range:mg "range"=none
 n_list:mg "list"=none
 n_isinstance:mg "isinstance"=none
 n_bool:mg "bool"=none
 n_int:mg "int"=none
 n_any:mg "any"=none
 n_min:mg "min"=none
 n_enumerate:mg "enumerate"=none
 n_sorted:mg "sorted"=none
 n_sum:mg "sum"=none
end Oc
namespace Oc
open PySem L2
abbrev Tri:=Int × Int × Int
def triV (t:Tri):List V:=[.int t.1,.int t.2.1,.int t.2.2]
def triD (t:Tri):PyData:=.tuple [.int t.1,.int t.2.1,.int t.2.2]
abbrev Sta:=Str × Option Int
def staV:Sta→List V
 | (k,none)=>[.str k]
 | (k,some n)=>[.str k,.int n]
set_option genInjectivity false in
set_option genSizeOf false in
structure Wk where
 st:List Sta
 be:List Tri
 fe:List Tri
def StaOk (s:Sta):Prop:=(∃ n,s=(("relay":Str),some n)∧-1000000000≤n∧n≤1000000000)∨s=(("sorter":Str),none)∨(∃ n,s=(("thinner":Str),some n)∧2≤n∧n≤9)∨s=(("joiner":Str),none)∨s=(("sink":Str),none)
structure Wk.Ok (W:Wk):Prop where
 s1:1≤W.st.length
 s8:W.st.length≤8
 b12:W.be.length≤12
 f60:W.fe.length≤60
 sta:∀ s ∈ W.st,StaOk s
 bel:∀ t ∈ W.be,0≤t.1∧t.1 < W.st.length∧0≤t.2.1∧t.2.1 < W.st.length∧1≤t.2.2∧t.2.2≤9
 fee:∀ t ∈ W.fe,0≤t.1∧t.1 < W.st.length∧0≤t.2.1∧t.2.1≤50∧-1000000000≤t.2.2∧t.2.2≤1000000000
inductive IsTri (H:Hp) (x:V) (t:Tri):Prop where
 | mk (p:_) (h_0:x=.ref p) (h_1:H p=some (.tup (triV t))):IsTri H x t
inductive IsSta (H:Hp) (x:V) (s:Sta):Prop where
 | mk (p:_) (h_0:x=.ref p) (h_1:H p=some (.tup (staV s))):IsSta H x s
theorem IsTri.same {H H':Hp} (s:Same H H') {x:V} {t:Tri} (h:IsTri H x t):IsTri H' x t:=let ⟨p,e,q⟩:=h; ⟨p,e,s _ _ q⟩
theorem IsSta.same {H H':Hp} (s:Same H H') {x:V} {t:Sta} (h:IsSta H x t):IsSta H' x t:=let ⟨p,e,q⟩:=h; ⟨p,e,s _ _ q⟩
structure LsAt (H:Hp) (s b f:Addr) (W:Wk) (xs ys zs:List V):Prop where
 hs:H s=some (.lst xs)
 hb:H b=some (.lst ys)
 hf:H f=some (.lst zs)
 ps:Paired (IsSta H) xs W.st
 pb:Paired (IsTri H) ys W.be
 pf:Paired (IsTri H) zs W.fe
theorem pairedMono {α β:Type} {F G:α→β→Prop} (h:∀ a b,F a b→G a b) {l:List α} {m:List β} (p:Paired F l m):Paired G l m:=L2.Paired.mapP p h
theorem LsAt.same {H H':Hp} {s b f:Addr} {W:Wk} {xs ys zs:List V} (e:Same H H') (h:LsAt H s b f W xs ys zs):LsAt H' s b f W xs ys zs :=
 ⟨e _ _ h.hs,e _ _ h.hb,e _ _ h.hf,pairedMono (fun _ _=>IsSta.same e) h.ps,pairedMono (fun _ _=>IsTri.same e) h.pb,pairedMono (fun _ _=>IsTri.same e) h.pf⟩
structure WkAt (H:Hp) (w:Addr) (W:Wk):Prop where
 ex:∃ s b f xs ys zs,H w=some (.tup [.ref s,.ref b,.ref f])∧LsAt H s b f W xs ys zs
theorem WkAt.same {H H':Hp} {w:Addr} {W:Wk} (e:Same H H') (h:WkAt H w W):WkAt H' w W:=by
 obtain⟨s,b,f,xs,ys,zs,h1,h2⟩:=h.ex
 exact⟨s,b,f,xs,ys,zs,e _ _ h1,h2.same e⟩
theorem cells_dedup {H:Hp}:∀ {L:List Cell},(∀ c ∈ L,H c.1=some c.2)→∃ L':List Cell,Hs H L'∧∀ c ∈ L,c ∈ L'
 | [],_=>⟨[],⟨List.nodup_nil,fun _ h=>absurd h zW⟩,fun _ h=>absurd h zW⟩
 | c::L,h=>by
  obtain⟨L',h1,h2⟩:=cells_dedup (L:=L) fun d hd=>h d (zI _ hd)
  have hc:=h c zN
  by_cases hm:c.1 ∈ L'.map Prod.fst
  ·obtain⟨d,hd,e⟩:=yH.mp hm
   have ed:=h1.2 d hd
   rw[e,hc] at ed
   have:d=c:=Prod.ext e (Option.some.inj ed).symm
   refine⟨L',h1,fun x hx=>?_⟩
   rcases zT.mp hx with r|r
   ·rw[r,← this]; exact hd
   ·exact h2 x r
  ·refine⟨c::L',⟨by rw[yI,yX]; exact⟨hm,h1.1⟩,fun x hx=>?_⟩,fun x hx=>?_⟩
   ·rcases zT.mp hx with r|r
    ·rw[r]; exact hc
    ·exact h1.2 x r
   ·rcases zT.mp hx with r|r
    ·rw[r]; exact zN
    ·exact zI _ (h2 x r)
theorem paired_cells {α:Type} {H:Hp} {F:Hp→V→α→Prop} (hF:∀ x a,F H x a→∃ c:Cell,H c.1=some c.2∧∀ H':Hp,H' c.1=some c.2→F H' x a):∀ {xs:List V} {as:List α},Paired (F H) xs as→∃ L:List Cell,(∀ c ∈ L,H c.1=some c.2)∧∀ H':Hp,(∀ c ∈ L,H' c.1=some c.2)→Paired (F H') xs as
 | _,_,.nil=>⟨[],fun _ h=>absurd h zW,fun _ _=>.nil⟩
 | _,_,.cons p r=>by
  obtain⟨c,h1,h2⟩:=hF _ _ p
  obtain⟨L,h3,h4⟩:=paired_cells hF r
  refine⟨c::L,fun x hx=>?_,fun H' h=>.cons (h2 H' (h c zN)) (h4 H' fun x hx=>h x (zI _ hx))⟩
  rcases zT.mp hx with e|e
  ·rw[e]; exact h1
  ·exact h3 x e
theorem WkAt.cells2 {H:Hp} {w:Addr} {W:Wk} (h:WkAt H w W):∃(wc:List Cell) (s b f:Addr) (xs ys zs:List V),Hc H [wc]∧∀ H':Hp,(∀ c ∈ wc,H' c.1=some c.2)→H' w=some (.tup [.ref s,.ref b,.ref f])∧LsAt H' s b f W xs ys zs:=by
 obtain⟨s,b,f,xs,ys,zs,h1,h2⟩:=h.ex
 obtain⟨L1,a1,b1⟩:=paired_cells (F:=IsSta) (fun x a ⟨p,e,hp⟩=>⟨(p,_),hp,fun H' h'=>⟨p,e,h'⟩⟩) h2.ps
 obtain⟨L2,a2,b2⟩:=paired_cells (F:=IsTri) (fun x a ⟨p,e,hp⟩=>⟨(p,_),hp,fun H' h'=>⟨p,e,h'⟩⟩) h2.pb
 obtain⟨L3,a3,b3⟩:=paired_cells (F:=IsTri) (fun x a ⟨p,e,hp⟩=>⟨(p,_),hp,fun H' h'=>⟨p,e,h'⟩⟩) h2.pf
 obtain⟨L',c1,c2⟩:=cells_dedup (H:=H) (L:=(w,.tup [.ref s,.ref b,.ref f])::(s,.lst xs)::(b,.lst ys)::(f,.lst zs)::(L1++(L2++L3))) (fun c hc=>by
  rcases zT.mp hc with e|hc
  ·rw[e]; exact h1
  rcases zT.mp hc with e|hc
  ·rw[e]; exact h2.hs
  rcases zT.mp hc with e|hc
  ·rw[e]; exact h2.hb
  rcases zT.mp hc with e|hc
  ·rw[e]; exact h2.hf
  rcases yE.mp hc with e|hc
  ·exact a1 c e
  rcases yE.mp hc with e|e
  ·exact a2 c e
  ·exact a3 c e)
 refine⟨L',s,b,f,xs,ys,zs,by show Hs H [L'].flatten; rw[qJ]; exact c1,fun H' h'=>⟨?_,?_,?_,?_,?_,?_,?_⟩⟩
 ·exact h' _ (c2 _ zN)
 ·exact h' _ (c2 _ (zI _ zN))
 ·exact h' _ (c2 _ (zI _ (zI _ zN)))
 ·exact h' _ (c2 _ (zI _ (zI _ (zI _ zN))))
 ·exact b1 H' fun c hc=>h' c (c2 c (zI _ (zI _ (zI _ (zI _ (yS _ hc))))))
 ·exact b2 H' fun c hc=>h' c (c2 c (zI _ (zI _ (zI _ (zI _ (zU _ (yS _ hc)))))))
 ·exact b3 H' fun c hc=>h' c (c2 c (zI _ (zI _ (zI _ (zI _ (zU _ (zU _ hc)))))))
theorem IsTri.dt {K:PySem.W.Frag} {H:Hp} {x:V} {t:Tri} (h:IsTri H x t):Dt K H 1 x (triD t):=by
 obtain⟨p,rfl,e⟩:=h
 exact .tup (SqT.of e) (.cons (.int _ _) (.cons (.int _ _) (.cons (.int _ _) (.nil _))))
def idx {α:Type} (f:α→Bool):Nat→List α→List Int
 | _,[]=>[]
 | k,t::r=>if f t then (k:Int)::idx f (k + 1) r else idx f (k + 1) r
theorem idx_snoc {α:Type} (f:α→Bool):∀(l:List α) (k:Nat) (t:α),idx f k (l++[t])=idx f k l++(if f t then [((k + l.length:Nat):Int)] else [])
 | [],k,t=>by
  show idx f k [t]=[]++_
  unfold idx
  split <;> simp [idx]
 | x::l,k,t=>by
  show idx f k (x::(l++[t]))=idx f k (x::l)++_
  have ih:=idx_snoc f l (k + 1) t
  have e:k + 1 + l.length=k + (x::l).length:=by rw[zP]; omega
  rw[e] at ih
  unfold idx
  by_cases h:f x=true
  ·rw[if_pos h,if_pos h,ih]; rfl
  ·rw[if_neg h,if_neg h,ih]
theorem idx_take {α:Type} (f:α→Bool) {l:List α} {i:Nat} {t:α} (h:l[i]?=some t):idx f 0 (l.take (i + 1))=idx f 0 (l.take i)++(if f t then [(i:Int)] else []):=by
 have hi:=(zA.mp h).1
 rw[yO,h]
 show idx f 0 (l.take i++[t])=_
 rw[idx_snoc,zX,jD (yZ hi),qA]
theorem idx_len {α:Type} (f:α→Bool):∀(l:List α) (k:Nat),(idx f k l).length≤l.length
 | [],_=>zG _
 | x::l,k=>by
  have:=idx_len f l (k + 1)
  unfold idx
  split
  ·rw[zP,zP]; omega
  ·rw[zP]; omega
def Wk.wy (W:Wk) (s:Int):List Int:=(if W.fe.any (fun t=>t.1 == s) then [-1] else [])++idx (fun(t:Tri)=>t.2.1 == s) 0 W.be
def Wk.lv (W:Wk) (s:Int):List Int:=idx (fun(t:Tri)=>t.1 == s) 0 W.be
theorem _root_.PySem.Paired.gt {α β:Type} {F:α→β→Prop} {l₁:List α} {l₂:List β} (h:Paired F l₁ l₂) {i:Nat} {a:α} (e:l₁[i]?=some a):∃ b,l₂[i]?=some b∧F a b:=PySem.Paired.getL h e
inductive spWays (vs:List V) (H:Hp) (Q:VK) (x_3:XK):Prop where
 | mk (w:Addr) (W:Wk) (s:Int) (h_0:vs=[.ref w,.int s]) (h_1:WkAt H w W) (h_2:W.Ok) (h_3:∀(p:Addr) (H':Hp),H p=none→H' p=some (.lst ((W.wy s).map V.int))→Same H H'→Q (.ref p) H'):spWays vs H Q x_3
inductive spLeav (vs:List V) (H:Hp) (Q:VK) (x_3:XK):Prop where
 | mk (w:Addr) (W:Wk) (s:Int) (h_0:vs=[.ref w,.int s]) (h_1:WkAt H w W) (h_2:W.Ok) (h_3:∀(p:Addr) (H':Hp),H p=none→H' p=some (.lst ((W.lv s).map V.int))→Same H H'→Q (.ref p) H'):spLeav vs H Q x_3
section
variable {P:Program} {w:World} {K:PySem.W.Frag} {mg:Str→Option Value} {base:Heap}
theorem sc_ways:FnScope ["works","station","belts","fed"] ["works","station"] (defScope (top 2)):=⟨rfl,rfl,rfl,by decide +kernel,rfl,by decide +kernel,by decide +kernel⟩
theorem ok_ways {f:Addr} {fd:FuncData} {tk:Tok} (F:Fun K "ways" "ways" (top 2) f fd) (T:Txt K mg) (g_DOOR:mg "DOOR"=some (.int (-1) tk)):FnOk P w K mg base CX0 1 f fd ["works","station"] spWays:=by
 have nd:=sc_ways.nd
 refine F.ok sc_ways (fun vs H Q E h=>?_) (fun cdv A outer s H vs Q E hr h=>?_)
 ·obtain⟨w,W,z,rfl,_⟩:=h
  rfl
 ·obtain⟨w,W,z,rfl,hw,ok,q⟩:=h
  obtain⟨sa,ba,fa,xs,ys,zs,h1,h2⟩:=hw.ex
  refine⟨_,(@pss_cons _ _ _ _ _ (ps_setC (i:=2) nd rfl (Or.inl rfl) rfl (own:=["number","belt"]) (fr:=["station"]) (js:=[1]) ⟨rfl,rfl,by decide +kernel,by decide +kernel,by repeat (first|exact Each.nil|refine Each.cons rfl ?_),by repeat (first|exact Each.nil|refine Each.cons rfl ?_),by repeat (first|exact Paired.nil|refine Paired.cons ⟨rfl,by first|exact Or.inl rfl|exact Or.inr rfl,by first|exact Or.inl rfl|exact Or.inr rfl⟩ ?_),rfl⟩ (pi_enum rfl T.n_enumerate (@pa_cons _ _ _ _ _ (@pe_ix _ _ _ _ _ _ _ (ix_tupK (K:=K) rfl) (pv 0) pe_int (fun _ _=>rfl)) pa_nil (by rfl))) (fun _ _ _ _=>(pg_tupK (K:=K) (n:=2) rfl rfl (pgs_cons (pg_name (i:=0) (show List.Nodup (["number","belt","station"]:List Str) from by decide +kernel) rfl (by first|exact Or.inl rfl|exact Or.inr rfl)) (pgs_cons (pg_name (i:=1) (show List.Nodup (["number","belt","station"]:List Str) from by decide +kernel) rfl (by first|exact Or.inl rfl|exact Or.inr rfl)) pgs_nil)))) (fun _ _ _ _=>(pts_one (pt_cmpR op_eq (@pe_ix _ _ _ _ _ _ _ (ix_tupK (K:=K) rfl) (pv 1) pe_int (fun _ _=>rfl)) (pv 2) (nomark _)))) (fun _ _ _ _=>(pv 0)))
   (@pss_cons _ _ _ _ _ (ps_set (i:=3) nd rfl (by first|exact Or.inl rfl|exact Or.inr rfl) (pe_callB (call_anyB rfl) (by rfl) T.n_any bt_any (@pa_cons _ _ _ _ _ (pe_comp (own:=["feed"]) (fr:=["station"]) (js:=[1]) ⟨rfl,rfl,by decide +kernel,by decide +kernel,by repeat (first|exact Each.nil|refine Each.cons rfl ?_),by repeat (first|exact Each.nil|refine Each.cons rfl ?_),by repeat (first|exact Paired.nil|refine Paired.cons ⟨rfl,by first|exact Or.inl rfl|exact Or.inr rfl,by first|exact Or.inl rfl|exact Or.inr rfl⟩ ?_),rfl⟩ (pi_listK (K:=K) rfl (@pe_ix _ _ _ _ _ _ _ (ix_tupK (K:=K) rfl) (pv 0) pe_int (fun _ _=>rfl))) (fun _ _ _ _=>(pg_name (i:=0) (show List.Nodup (["feed","station"]:List Str) from by decide +kernel) rfl (by first|exact Or.inl rfl|exact Or.inr rfl))) (fun _ _ _ _=>pts_nil) (fun _ _ _ _=>(pe_cmpR op_eq (@pe_ix _ _ _ _ _ _ _ (ix_tupK (K:=K) rfl) (pv 0) pe_int (fun _ _=>rfl)) (pv 1) (nomark _)))) pa_nil (by rfl))))
   (@pss_one _ _ _ (@ps_ret _ _ _ _ (pe_ifExp (pt_val (pv 3)) (pe_op op_cat (@pe_lst _ _ _ _ (@pa_cons _ _ _ _ _ (pe_glob (v:=.int (-1)) (by rfl) g_DOOR ⟨_,rfl⟩) pa_nil (by rfl))) (pv 2)) (pv 2)))))),?_⟩
  refine⟨_,rfl,⟨_,_,_,_,rfl,rfl,SqT.of h1,(atI_nat (j:=1) rfl),ba,rfl,⟨_,SqL.of h2.hb⟩,fun D nD=>?_⟩⟩
  have lb:=h2.pb.length
  have b12:=ok.b12
  refine comp_enum (a:=ba) (xs:=ys) (fun i H4=>Same H H4∧H4 D=some (.lst ((idx (fun(t:Tri)=>t.2.1 == z) 0 (W.be.take i)).map V.int))) ⟨Same.new nD,upd_same⟩ (fun i H4 _ p=>SqL.of (p.1 _ _ h2.hb)) ?_ ?_
  ·rintro i x H4 m Wf hx ⟨s4,h4⟩ nx pp np
   obtain⟨t,ht,hp0⟩:=h2.pb.gt hx
   obtain⟨a0,rfl,ha⟩:=hp0
   have s5:Same H4 (upd H4 pp (.tup [.int i,.ref a0])):=Same.new np
   refine⟨pp,_,rfl,SqT.of upd_same,rfl,_,_,rfl,_,_,rfl,rfl,?_⟩
   refine⟨_,rfl,⟨_,_,_,_,rfl,rfl,SqT.of (s5 _ _ (s4 _ _ ha)),(atI_nat (j:=1) rfl),_,rfl,rfl,_,rfl,?_⟩⟩
   have et:decide (V.int t.2.1=V.int z)=(t.2.1 == z):=dec_int
   have eid:=idx_take (fun(t:Tri)=>t.2.1 == z) ht
   refine iteB (fun hb=>?_) (fun hb=>?_)
   ·rw[et] at hb
    refine⟨_,rfl,_,s5 _ _ h4,small1000 (by rw[zB]; have:=idx_len (fun(t:Tri)=>t.2.1 == z) (W.be.take i) 0; rw[zX] at this; omega),nx _ ⟨?_,?_⟩⟩
    ·exact((s4.trans s5).upd nD)
    ·rw[upd_same,eid,hb,if_pos rfl,zS]; rfl
   ·rw[et] at hb
    refine nx _ ⟨s4.trans s5,?_⟩
    rw[eid,hb,if_neg zV,yF]
    exact s5 _ _ h4
  ·rintro H4 ⟨s4,h4⟩
   rw[lb,yM] at h4
   refine⟨_,rfl,⟨_,_,_,_,rfl,rfl,SqT.of (s4 _ _ h1),(atI_nat (j:=2) rfl),fa,rfl,⟨_,SqL.of (s4 _ _ h2.hf)⟩,fun D2 nD2=>?_⟩⟩
   have lf:=h2.pf.length
   have f60:=ok.f60
   refine comp_list (a:=fa) (xs:=zs) (fun i H5=>Same H4 H5∧H5 D2=some (.lst (((W.fe.take i).map fun(t:Tri)=>t.1 == z).map V.bl))) ⟨Same.new nD2,upd_same⟩ (fun i H5 _ p=>SqL.of (p.1 _ _ (s4 _ _ h2.hf))) ?_ ?_
   ·rintro i x H5 m Wf hx ⟨s5,h5⟩ nx
    obtain⟨t,ht,hp0⟩:=h2.pf.gt hx
    obtain⟨a0,rfl,ha⟩:=hp0
    have hi:=(zA.mp ht).1
    refine⟨_,rfl,⟨_,_,_,_,rfl,rfl,SqT.of (s5 _ _ (s4 _ _ ha)),(atI_nat (j:=0) rfl),_,rfl,rfl,_,h5,small1000 (by rw[zB,zB,zX]; omega),nx _ ⟨s5.upd nD2,?_⟩⟩⟩
    rw[upd_same,yO,ht,zS,zS]
    show some (HO.lst (_++[V.bl (decide (V.int t.1=V.int z))]))=some (HO.lst (_++[V.bl (t.1 == z)]))
    rw[dec_int]
   ·rintro H5 ⟨s5,h5⟩
    rw[lf,yM] at h5
    refine⟨D2,_,rfl,SqL.of h5,?_⟩
    have ea:((W.fe.map fun(t:Tri)=>t.1 == z).any id)=W.fe.any fun t=>t.1 == z:=by rw[vG]; rfl
    refine⟨_,rfl,_,rfl,?_⟩
    refine iteB (fun hb=>?_) (fun hb=>?_)
    ·rw[ea] at hb
     refine⟨(by show 1≤sizeLine; decide),fun l1 n1=>?_⟩
     have s6:Same H5 (upd H5 l1 (.lst [V.int (-1)])):=Same.new n1
     refine⟨_,rfl,l1,D,_,_,rfl,rfl,upd_same,s6 _ _ (s5 _ _ h4),?_,fun c nc=>?_⟩
     ·rw[zB]
      have:=idx_len (fun(t:Tri)=>t.2.1 == z) W.be 0
      exact yZ (small1000 (by show 1 + _≤1000; omega))
     ·refine q c _ (((s4.trans s5).trans s6).free nc) ?_ (((s4.trans s5).trans s6).upd (((s4.trans s5).trans s6).free nc))
      rw[upd_same]
      unfold Wk.wy
      rw[hb,if_pos rfl,zS]
      rfl
    ·rw[ea] at hb
     refine⟨_,rfl,q D _ nD ?_ (s4.trans s5)⟩
     unfold Wk.wy
     rw[hb,if_neg zV,jZ]
     exact s5 _ _ h4
theorem sc_leav:FnScope ["works","station"] ["works","station"] (defScope (top 5)):=⟨rfl,rfl,rfl,by decide +kernel,rfl,by decide +kernel,by decide +kernel⟩
theorem ok_leav {f:Addr} {fd:FuncData} (F:Fun K "leaving" "leaving" (top 5) f fd) (T:Txt K mg):FnOk P w K mg base CX0 1 f fd ["works","station"] spLeav:=by
 have nd:=sc_leav.nd
 refine F.ok sc_leav (fun vs H Q E h=>?_) (fun cdv A outer s H vs Q E hr h=>?_)
 ·obtain⟨w,W,z,rfl,_⟩:=h
  rfl
 ·obtain⟨w,W,z,rfl,hw,ok,q⟩:=h
  obtain⟨sa,ba,fa,xs,ys,zs,h1,h2⟩:=hw.ex
  refine⟨_,(@pss_one _ _ _ (@ps_ret _ _ _ _ (pe_comp (own:=["number","belt"]) (fr:=["station"]) (js:=[1]) ⟨rfl,rfl,by decide +kernel,by decide +kernel,by repeat (first|exact Each.nil|refine Each.cons rfl ?_),by repeat (first|exact Each.nil|refine Each.cons rfl ?_),by repeat (first|exact Paired.nil|refine Paired.cons ⟨rfl,by first|exact Or.inl rfl|exact Or.inr rfl,by first|exact Or.inl rfl|exact Or.inr rfl⟩ ?_),rfl⟩ (pi_enum rfl T.n_enumerate (@pa_cons _ _ _ _ _ (@pe_ix _ _ _ _ _ _ _ (ix_tupK (K:=K) rfl) (pv 0) pe_int (fun _ _=>rfl)) pa_nil (by rfl))) (fun _ _ _ _=>(pg_tupK (K:=K) (n:=2) rfl rfl (pgs_cons (pg_name (i:=0) (show List.Nodup (["number","belt","station"]:List Str) from by decide +kernel) rfl (by first|exact Or.inl rfl|exact Or.inr rfl)) (pgs_cons (pg_name (i:=1) (show List.Nodup (["number","belt","station"]:List Str) from by decide +kernel) rfl (by first|exact Or.inl rfl|exact Or.inr rfl)) pgs_nil)))) (fun _ _ _ _=>(pts_one (pt_cmpR op_eq (@pe_ix _ _ _ _ _ _ _ (ix_tupK (K:=K) rfl) (pv 1) pe_int (fun _ _=>rfl)) (pv 2) (nomark _)))) (fun _ _ _ _=>(pv 0))))),?_⟩
  refine⟨_,rfl,⟨_,_,_,_,rfl,rfl,SqT.of h1,(atI_nat (j:=1) rfl),ba,rfl,⟨_,SqL.of h2.hb⟩,fun D nD=>?_⟩⟩
  have lb:=h2.pb.length
  have b12:=ok.b12
  refine comp_enum (a:=ba) (xs:=ys) (fun i H4=>Same H H4∧H4 D=some (.lst ((idx (fun(t:Tri)=>t.1 == z) 0 (W.be.take i)).map V.int))) ⟨Same.new nD,upd_same⟩ (fun i H4 _ p=>SqL.of (p.1 _ _ h2.hb)) ?_ ?_
  ·rintro i x H4 m Wf hx ⟨s4,h4⟩ nx pp np
   obtain⟨t,ht,hp0⟩:=h2.pb.gt hx
   obtain⟨a0,rfl,ha⟩:=hp0
   have s5:Same H4 (upd H4 pp (.tup [.int i,.ref a0])):=Same.new np
   refine⟨pp,_,rfl,SqT.of upd_same,rfl,_,_,rfl,_,_,rfl,rfl,?_⟩
   refine⟨_,rfl,⟨_,_,_,_,rfl,rfl,SqT.of (s5 _ _ (s4 _ _ ha)),(atI_nat (j:=0) rfl),_,rfl,rfl,_,rfl,?_⟩⟩
   have et:decide (V.int t.1=V.int z)=(t.1 == z):=dec_int
   have eid:=idx_take (fun(t:Tri)=>t.1 == z) ht
   refine iteB (fun hb=>?_) (fun hb=>?_)
   ·rw[et] at hb
    refine⟨_,rfl,_,s5 _ _ h4,small1000 (by rw[zB]; have:=idx_len (fun(t:Tri)=>t.1 == z) (W.be.take i) 0; rw[zX] at this; omega),nx _ ⟨?_,?_⟩⟩
    ·exact((s4.trans s5).upd nD)
    ·rw[upd_same,eid,hb,if_pos rfl,zS]; rfl
   ·rw[et] at hb
    refine nx _ ⟨s4.trans s5,?_⟩
    rw[eid,hb,if_neg zV,yF]
    exact s5 _ _ h4
  ·rintro H4 ⟨s4,h4⟩
   rw[lb,yM] at h4
   exact q D _ nD h4 s4
end
end Oc
namespace Oc
theorem take_1 {α:Type} {l:List α} {i:Nat} {x:α} (h:l[i]?=some x):l.take (i + 1)=l.take i++[x]:=by rw[yO,h]; rfl
end Oc
namespace Oc
open PySem L2 PyProof.Rows
theorem paired_app {α β:Type} {F:α→β→Prop}:∀ {a:List α} {b:List β} {c:List α} {d:List β},Paired F a b→Paired F c d→Paired F (a++c) (b++d)
 | _,_,_,_,.nil,h=>h
 | _,_,_,_,.cons p r,h=>.cons p (paired_app r h)
theorem IsTri.keep {H:Hp} {a:Addr} {xs ys:List V} (e:H a=some (.lst xs)) {x:V} {t:Tri} (h:IsTri H x t):IsTri (upd H a (.lst ys)) x t:=by
 obtain⟨p,rfl,q⟩:=h
 exact⟨p,rfl,by rw[upd_ne (ne_of q e (by intro z; cases z))]; exact q⟩
theorem IsSta.keep {H:Hp} {a:Addr} {xs ys:List V} (e:H a=some (.lst xs)) {x:V} {t:Sta} (h:IsSta H x t):IsSta (upd H a (.lst ys)) x t:=by
 obtain⟨p,rfl,q⟩:=h
 exact⟨p,rfl,by rw[upd_ne (ne_of q e (by intro z; cases z))]; exact q⟩
end Oc
namespace Oc
open PySem L2
theorem idx_at {α:Type} (f:α→Bool):∀(l:List α) (k j:Nat) (y:α),l[j]?=some y→f y=true→((k + j:Nat):Int) ∈ idx f k l
 | [],_,_,_,h,_=>by cases h
 | x::l,k,0,y,h,hf=>by
  cases h
  unfold idx
  rw[if_pos hf]
  exact zN
 | x::l,k,j + 1,y,h,hf=>by
  have:=idx_at f l (k + 1) j y h hf
  rw[show k + 1 + j=k + (j + 1) by omega] at this
  unfold idx
  split
  ·exact zI _ this
  ·exact this
theorem idx_of {α:Type} (f:α→Bool):∀(l:List α) (k:Nat) (x:Int),x ∈ idx f k l→∃(j:Nat) (y:α),x=((k + j:Nat):Int)∧l[j]?=some y∧f y=true
 | [],_,_,h=>absurd h zW
 | z::l,k,x,h=>by
  unfold idx at h
  have rest:x ∈ idx f (k + 1) l→∃(j:Nat) (y:α),x=((k + j:Nat):Int)∧(z::l)[j]?=some y∧f y=true:=fun h=>by
   obtain⟨j,y,e,h1,h2⟩:=idx_of f l (k + 1) x h
   exact⟨j + 1,y,by rw[e]; congr 1; omega,h1,h2⟩
  split at h
  ·rename_i hf
   rcases zT.mp h with e|e
   ·exact⟨0,z,by rw[e]; rfl,rfl,hf⟩
   ·exact rest e
  ·exact rest h
end Oc
namespace Oc
open PySem L2
theorem wb:¬ (("ways":Str)="belts"):=by decide +kernel
def fS (p1 p2:Addr):List (Str × V):=putF "belts" (.ref p2) (putF "ways" (.ref p1) [])
theorem fS_belts (p1 p2:Addr):(fS p1 p2).lookup ("belts":Str)=some (.ref p2):=by
 unfold fS
 rw[lookup_putF,if_pos rfl]
theorem fS_ways (p1 p2:Addr):(fS p1 p2).lookup ("ways":Str)=some (.ref p1):=by
 unfold fS
 rw[lookup_putF,if_neg wb,lookup_putF,if_pos rfl]
theorem fS_no (p1 p2:Addr) {m:Str} (h1:¬ m="belts") (h2:¬ m="ways"):(fS p1 p2).lookup m=none:=by
 unfold fS
 rw[lookup_putF,if_neg h1,lookup_putF,if_neg h2]
 rfl
theorem fS_len (p1 p2:Addr):(fS p1 p2).length≤2:=by
 have h1:=length_putF "ways" (.ref p1) []
 have h2:=length_putF "belts" (.ref p2) (putF "ways" (.ref p1) [])
 have h3:([]:List (Str × V)).length=0:=rfl
 unfold fS
 omega
structure StC (K:PySem.W.Frag) (C:Addr):Prop where
 cl:Cls K C
 nW:NoAttr K C "ways"
 nB:NoAttr K C "belts"
inductive spStI (K:PySem.W.Frag) (vs:List V) (H:Hp) (Q:VK) (x_3:XK):Prop where
 | mk (p wa b C dx:Addr) (xs ys:List V) (M:List (List Cell)) (h_0:vs=[.ref p,.ref wa,.ref b]) (h_1:Hc H ([(p,.ins C dx [])]::M)) (h_2:StC K C) (h_3:SqL K H wa xs) (h_4:SqL K H b ys) (h_5:wa ≠ p) (h_6:b ≠ p) (h_7:∀(p1 p2:Addr) (H':Hp),Keep [p] H H'→Hc H' ([(p,.ins C dx (fS p1 p2)),(p1,.tup xs),(p2,.tup ys)]::M)→Q .non H'):spStI K vs H Q x_3
inductive spOne (K:PySem.W.Frag) (vs:List V) (H:Hp) (Q:VK) (x_3:XK):Prop where
 | mk (p C dx bt:Addr) (fs:List (Str × V)) (ys:List V) (z:Int) (h_0:vs=[.ref p,.int z]) (h_1:H p=some (.ins C dx fs)) (h_2:StC K C) (h_3:fs.lookup ("belts":Str)=some (.ref bt)) (h_4:H bt=some (.tup ys)) (h_5:(ys=[]→Q .non H)) (h_6:(∀ y r t,ys=y::r→H t=none→Q (.ref t) (upd H t (.tup [y,.int z])))):spOne K vs H Q x_3
section
variable {P:Program} {w:World} {K:PySem.W.Frag} {mg:Str→Option Value} {base:Heap}
theorem sc_stI:FnScope ["self","ways","belts"] ["self","ways","belts"] (defScope (inClass (top 8) 0)):=⟨rfl,rfl,rfl,by decide +kernel,rfl,by decide +kernel,by decide +kernel⟩
theorem ok_stI {f:Addr} {fd:FuncData} (F:Fun K "__init__" "Station.__init__" (inClass (top 8) 0) f fd) (T:Txt K mg):FnOk P w K mg base CX0 1 f fd ["self","ways","belts"] (spStI K):=by
 have nd:=sc_stI.nd
 refine F.ok sc_stI (fun vs H Q E h=>?_) (fun cdv A outer s H vs Q E hr h=>?_)
 ·obtain⟨p,wa,b,C,dx,xs,ys,M,rfl,_⟩:=h
  rfl
 ·refine abb fun Gz hGz=>?_
  obtain⟨p,wa,b,C,dx,xs,ys,M,rfl,hc,c,hw,hb,n1,n2,q⟩:=h
  refine hGz ?_
  refine⟨_,(@pss_cons _ _ _ _ _ (ps_fld (pv 0) (pe_callTy call_tuple_of (by rfl) T.n_tuple bt_tuple (@pa_cons _ _ _ _ _ (pv 1) pa_nil (by rfl))) rfl)
   (@pss_one _ _ _ (ps_fld (pv 0) (pe_callTy call_tuple_of (by rfl) T.n_tuple bt_tuple (@pa_cons _ _ _ _ _ (pv 2) pa_nil (by rfl))) rfl))),?_⟩
  first|(ac_rfl; refine⟨wa,xs,rfl,.inl ⟨hw,fun p1 f1=>?_⟩⟩)|(refine⟨_,rfl,wa,xs,rfl,.inl ⟨hw,fun p1 f1=>?_⟩⟩)
  have hc1:=hc.new f1 (.tup xs)
  have hp:=hc.get 0 0 rfl rfl
  first|(ac_rfl; refine⟨p,C,dx,[],rfl,hc1.get 1 0 rfl rfl,c.cl,c.nW,(by show 0 < 1000; decide),?_⟩)|(refine⟨_,rfl,p,C,dx,[],rfl,hc1.get 1 0 rfl rfl,c.cl,c.nW,(by show 0 < 1000; decide),?_⟩)
  have hc2:=hc1.put 1 0 rfl rfl (.ins C dx (putF "ways" (.ref p1) []))
  have hb1:SqL K (upd (upd H p1 (.tup xs)) p (.ins C dx (putF "ways" (.ref p1) []))) b ys:=by
   have k1:∀ o,H b=some o→upd (upd H p1 (.tup xs)) p (.ins C dx (putF "ways" (.ref p1) [])) b=some o:=fun o e=>by
    rw[upd_ne n2,upd_ne (ne_of_none e f1)]
    exact e
   rcases hb with (h|⟨o,h⟩)|h
   ·exact .inl (.inl (k1 _ h))
   ·exact .inl (.inr ⟨o,k1 _ h⟩)
   ·exact .inr h
  first|(ac_rfl; refine⟨b,ys,rfl,.inl ⟨hb1,fun p2 f2=>?_⟩⟩)|(refine⟨_,rfl,b,ys,rfl,.inl ⟨hb1,fun p2 f2=>?_⟩⟩)
  have hc3:=hc2.new f2 (.tup ys)
  first|(ac_rfl; refine⟨p,C,dx,_,rfl,hc3.get 2 0 rfl rfl,c.cl,c.nB,?_,?_⟩)|(refine⟨_,rfl,p,C,dx,_,rfl,hc3.get 2 0 rfl rfl,c.cl,c.nB,?_,?_⟩)
  ·have h1:=length_putF "ways" (.ref p1) []
   have h3:([]:List (Str × V)).length=0:=rfl
   omega
  ·have hc4:Hc _ ([(p2,.tup ys)]::[(p1,.tup xs)]::[(p,.ins C dx (fS p1 p2))]::M):=hc3.put 2 0 rfl rfl (.ins C dx (fS p1 p2))
   have hc5:Hc _ ([(p,.ins C dx (fS p1 p2))]::[(p1,.tup xs)]::[(p2,.tup ys)]::M):=(hc4.pick 1 rfl).pick 2 rfl
   exact q p1 p2 _ (((((Keep.same (Same.refl H)).new' f1).upd (yR _)).new' f2).upd (yR _)) hc5.join.join
theorem sc_one:FnScope ["self","piece"] ["self","piece"] (defScope (inClass (top 8) 2)):=⟨rfl,rfl,rfl,by decide +kernel,rfl,by decide +kernel,by decide +kernel⟩
theorem ok_one {f:Addr} {fd:FuncData} (F:Fun K "on_first" "Station.on_first" (inClass (top 8) 2) f fd) (T:Txt K mg):FnOk P w K mg base CX0 1 f fd ["self","piece"] (spOne K):=by
 have nd:=sc_one.nd
 refine F.ok sc_one (fun vs H Q E h=>?_) (fun cdv A outer s H vs Q E hr h=>?_)
 ·obtain⟨p,C,dx,bt,fs,ys,z,rfl,_⟩:=h
  rfl
 ·refine abb fun Gz hGz=>?_
  obtain⟨p,C,dx,bt,fs,ys,z,rfl,hp,c,hf,ht,q0,q1⟩:=h
  refine hGz ?_
  refine⟨_,(@pss_one _ _ _ (@ps_ret _ _ _ _ (pe_ifExp (pt_cmpR op_gt (pe_callB (call_len_seqK (K:=K) rfl) (by rfl) T.n_len bt_len (@pa_cons _ _ _ _ _ (pe_fldK (K:=K) rfl (pv 0) rfl) pa_nil (by rfl))) pe_int (nomark _)) (@pe_tup _ _ _ _ _ (@pa_cons _ _ _ _ _ (@pe_ix _ _ _ _ _ _ _ (ix_tupK (K:=K) rfl) (pe_fldK (K:=K) rfl (pv 0) rfl) pe_int (fun _ _=>rfl)) (@pa_cons _ _ _ _ _ (pv 1) pa_nil (by rfl)) (by rfl))) pe_non))),?_⟩
  first|(ac_rfl; refine⟨p,C,dx,_,_,rfl,hp,c.cl,c.nB,hf,bt,_,rfl,.inr (SqT.of ht),?_⟩)|(refine⟨_,rfl,p,C,dx,_,_,rfl,hp,c.cl,c.nB,hf,bt,_,rfl,.inr (SqT.of ht),?_⟩)
  infer_instance
  cases ys with
  | nil=>exact iteF (q0 rfl)
  | cons y r =>
   have e:decide ((0:Int) < ((y::r).length:Int))=true:=by
    rw[zP]
    exact decide_eq_true (by omega)
   rw[e]
   refine iteT ?_
   first|(ac_rfl; refine⟨p,C,dx,_,_,rfl,hp,c.cl,c.nB,hf,jxTc (j:=0) ht rfl ⟨_,rfl,(by show 2≤sizeLine; decide),fun t ht=>?_⟩⟩)|(refine⟨_,rfl,p,C,dx,_,_,rfl,hp,c.cl,c.nB,hf,jxTc (j:=0) ht rfl ⟨_,rfl,(by show 2≤sizeLine; decide),fun t ht=>?_⟩⟩)
   exact q1 y r t rfl ht
end
end Oc
namespace Oc
open PySem L2
def fR (p1 p2:Addr) (m:Int):List (Str × V):=putF "more" (.int m) (fS p1 p2)
theorem bm:¬ (("belts":Str)="more"):=by decide +kernel
theorem fR_more (p1 p2:Addr) (m:Int):(fR p1 p2 m).lookup ("more":Str)=some (.int m):=by
 unfold fR
 rw[lookup_putF,if_pos rfl]
theorem fR_belts (p1 p2:Addr) (m:Int):(fR p1 p2 m).lookup ("belts":Str)=some (.ref p2):=by
 unfold fR
 rw[lookup_putF,if_neg bm,fS_belts]
theorem fR_no (p1 p2:Addr) (m:Int) {x:Str} (h0:¬ x="more") (h1:¬ x="belts") (h2:¬ x="ways"):(fR p1 p2 m).lookup x=none:=by
 unfold fR
 rw[lookup_putF,if_neg h0,fS_no _ _ h1 h2]
structure RlC (K:PySem.W.Frag) (C:Addr):Prop where
 st:StC K C
 nM:NoAttr K C "more"
inductive spRlI (K:PySem.W.Frag) (vs:List V) (H:Hp) (Q:VK) (x_3:XK):Prop where
 | mk (p wa b C dx:Addr) (xs ys:List V) (m:Int) (M:List (List Cell)) (h_0:vs=[.ref p,.ref wa,.ref b,.int m]) (h_1:Hc H ([(p,.ins C dx [])]::M)) (h_2:RlC K C) (h_3:SqL K H wa xs) (h_4:SqL K H b ys) (h_5:wa ≠ p) (h_6:b ≠ p) (h_7:∀(p1 p2:Addr) (H':Hp),Keep [p] H H'→Hc H' ([(p,.ins C dx (fR p1 p2 m)),(p1,.tup xs),(p2,.tup ys)]::M)→Q .non H'):spRlI K vs H Q x_3
inductive spRlT (C:Addr) (vs:List V) (H:Hp) (Q:VK) (x_3:XK):Prop where
 | mk (p dx p1 p2:Addr) (m z:Int) (wy:V) (ys:List V) (h_0:vs=[.ref p,wy,.int z]) (h_1:H p=some (.ins C dx (fR p1 p2 m))) (h_2:H p2=some (.tup ys)) (h_3:(ys=[]→Q .non H)) (h_4:(∀ y r t,ys=y::r→H t=none→Q (.ref t) (upd H t (.tup [y,.int (z + m)])))):spRlT C vs H Q x_3
section
variable {P:Program} {w:World} {K:PySem.W.Frag} {mg:Str→Option Value} {base:Heap}
theorem sc_rlI:FnScope ["self","ways","belts","more"] ["self","ways","belts","more"] (defScope (inClass (top 9) 0)):=⟨rfl,rfl,rfl,by decide +kernel,rfl,by decide +kernel,by decide +kernel⟩
theorem ok_rlI {f cS:Addr} {fd:FuncData} (F:Fun K "__init__" "Relay.__init__" (inClass (top 9) 0) f fd) (g_Station:mg "Station"=some (.ref cS)) (L_Station___init__:ClsAt P w K mg base 1 cS "__init__" ["self","ways","belts"] (spStI K)) :
  FnOk P w K mg base CX0 2 f fd ["self","ways","belts","more"] (spRlI K):=by
 have nd:=sc_rlI.nd
 refine F.ok sc_rlI (fun vs H Q E h=>?_) (fun cdv A outer s H vs Q E hr h=>?_)
 ·obtain⟨p,wa,b,C,dx,xs,ys,m,M,rfl,_⟩:=h
  rfl
 ·refine abb fun Gz hGz=>?_
  obtain⟨p,wa,b,C,dx,xs,ys,m,M,rfl,hc,c,hw,hb,n1,n2,q⟩:=h
  refine hGz ?_
  refine⟨_,(@pss_cons _ _ _ _ _ (ps_expr (pe_clsm' rfl g_Station L_Station___init__ (hr.mono (by decide)) (@pa_cons _ _ _ _ _ (pv 0) (@pa_cons _ _ _ _ _ (pv 1) (@pa_cons _ _ _ _ _ (pv 2) pa_nil (by rfl)) (by rfl)) (by rfl))))
   (@pss_one _ _ _ (ps_fld (pv 0) (pv 3) rfl))),?_⟩
  first|(refine tvC rfl ?_)|(refine tvO rfl ?_)|(refine tvK rfl ?_)|(refine tv rfl ?_)|(refine⟨_,rfl,?_⟩)
  first|(refine tvC rfl ?_)|(refine tvO rfl ?_)|(refine tvK rfl ?_)|(refine tv rfl ?_)|(refine⟨_,rfl,?_⟩)
  first|(ac_rfl; refine⟨p,wa,b,C,dx,xs,ys,M,rfl,hc,c.st,hw,hb,n1,n2,fun p1 p2 H' kp hc1=>?_⟩)|(refine⟨_,rfl,p,wa,b,C,dx,xs,ys,M,rfl,hc,c.st,hw,hb,n1,n2,fun p1 p2 H' kp hc1=>?_⟩)
  first|(refine tvC rfl ?_)|(refine tvO rfl ?_)|(refine tvK rfl ?_)|(refine tv rfl ?_)|(refine⟨_,rfl,?_⟩)
  first|(ac_rfl; refine⟨p,C,dx,_,rfl,hc1.get 0 0 rfl rfl,c.st.cl,c.nM,?_,?_⟩)|(refine⟨_,rfl,p,C,dx,_,rfl,hc1.get 0 0 rfl rfl,c.st.cl,c.nM,?_,?_⟩)
  ·have:=fS_len p1 p2
   omega
  ·exact q p1 p2 _ (kp.upd (yR _)) (hc1.put 0 0 rfl rfl _)
theorem sc_rlT:FnScope ["self","way","piece"] ["self","way","piece"] (defScope (inClass (top 9) 1)):=⟨rfl,rfl,rfl,by decide +kernel,rfl,by decide +kernel,by decide +kernel⟩
theorem ok_rlT {f C:Addr} {fd:FuncData} (F:Fun K "take" "Relay.take" (inClass (top 9) 1) f fd) (c:RlC K C) (G_on_first:MethAt P w K mg base 1 C "on_first" ["self","piece"] (spOne K)) :
  FnOk P w K mg base CX0 2 f fd ["self","way","piece"] (spRlT C):=by
 have nd:=sc_rlT.nd
 refine F.ok sc_rlT (fun vs H Q E h=>?_) (fun cdv A outer s H vs Q E hr h=>?_)
 ·obtain⟨p,dx,p1,p2,m,z,wy,ys,rfl,_⟩:=h
  rfl
 ·refine abb fun Gz hGz=>?_
  obtain⟨p,dx,p1,p2,m,z,wy,ys,rfl,hp,ht,q0,q1⟩:=h
  refine hGz ?_
  refine⟨_,(@pss_one _ _ _ (@ps_ret _ _ _ _ (pe_mth G_on_first (hr.mono (by decide)) (pv 0) (@pa_cons _ _ _ _ _ (pe_op op_add (pv 2) (pe_fldK (K:=K) rfl (pv 0) rfl)) pa_nil (by rfl))))),?_⟩
  first|(ac_rfl; refine⟨p,dx,_,rfl,hp,fR_no _ _ _ (by decide +kernel) (by decide +kernel) (by decide +kernel),_,rfl,_,rfl,p,C,dx,_,_,rfl,hp,c.st.cl,c.nM,fR_more _ _ _,_,_,rfl,rfl,?_⟩)|(refine⟨_,rfl,p,dx,_,rfl,hp,fR_no _ _ _ (by decide +kernel) (by decide +kernel) (by decide +kernel),_,rfl,_,rfl,p,C,dx,_,_,rfl,hp,c.st.cl,c.nM,fR_more _ _ _,_,_,rfl,rfl,?_⟩)
  exact⟨p,C,dx,p2,_,ys,_,rfl,hp,c.st,fR_belts _ _ _,ht,q0,q1⟩
end
end Oc
namespace Oc
open PySem L2
inductive spSrT (C:Addr) (vs:List V) (H:Hp) (Q:VK) (x_3:XK):Prop where
 | mk (p dx p1 p2:Addr) (z:Int) (wy:V) (bs:List Int) (h_0:vs=[.ref p,wy,.int z]) (h_1:H p=some (.ins C dx (fS p1 p2))) (h_2:H p2=some (.tup (bs.map V.int))) (h_3:(bs=[]→Q .non H)) (h_4:(∀(y:Int) (t:Addr),bs ≠ []→bs[(z % (bs.length:Int)).toNat]?=some y→H t=none→Q (.ref t) (upd H t (.tup [.int y,.int z])))):spSrT C vs H Q x_3
section
variable {P:Program} {w:World} {K:PySem.W.Frag} {mg:Str→Option Value} {base:Heap}
theorem sc_srT:FnScope ["self","way","piece"] ["self","way","piece"] (defScope (inClass (top 10) 0)):=⟨rfl,rfl,rfl,by decide +kernel,rfl,by decide +kernel,by decide +kernel⟩
theorem ok_srT {f C:Addr} {fd:FuncData} (F:Fun K "take" "Sorter.take" (inClass (top 10) 0) f fd) (T:Txt K mg) (c:StC K C):FnOk P w K mg base CX0 1 f fd ["self","way","piece"] (spSrT C):=by
 have nd:=sc_srT.nd
 refine F.ok sc_srT (fun vs H Q E h=>?_) (fun cdv A outer s H vs Q E hr h=>?_)
 ·obtain⟨p,dx,p1,p2,z,wy,bs,rfl,_⟩:=h
  rfl
 ·refine abb fun Gz hGz=>?_
  obtain⟨p,dx,p1,p2,z,wy,bs,rfl,hp,ht,q0,q1⟩:=h
  refine hGz ?_
  refine⟨_,(@pss_cons _ _ _ _ _ (ps_if (pt_cmpR op_eq (pe_callB (call_len_seqK (K:=K) rfl) (by rfl) T.n_len bt_len (@pa_cons _ _ _ _ _ (pe_fldK (K:=K) rfl (pv 0) rfl) pa_nil (by rfl))) pe_int (nomark _)) (@pss_one _ _ _ (@ps_ret _ _ _ _ pe_non)) pss_nil)
   (@pss_one _ _ _ (@ps_ret _ _ _ _ (@pe_tup _ _ _ _ _ (@pa_cons _ _ _ _ _ (@pe_ix _ _ _ _ _ _ _ (ix_tupK (K:=K) rfl) (pe_fldK (K:=K) rfl (pv 0) rfl) (pe_op op_mod (pv 2) (pe_callB (call_len_seqK (K:=K) rfl) (by rfl) T.n_len bt_len (@pa_cons _ _ _ _ _ (pe_fldK (K:=K) rfl (pv 0) rfl) pa_nil (by rfl)))) (fun _ _=>rfl)) (@pa_cons _ _ _ _ _ (pv 2) pa_nil (by rfl)) (by rfl)))))),?_⟩
  first|(ac_rfl; refine⟨p,C,dx,_,_,rfl,hp,c.cl,c.nB,fS_belts _ _,p2,_,rfl,.inr (SqT.of ht),rfl,_,rfl,?_⟩)|(refine⟨_,rfl,p,C,dx,_,_,rfl,hp,c.cl,c.nB,fS_belts _ _,p2,_,rfl,.inr (SqT.of ht),rfl,_,rfl,?_⟩)
  rw[zB]
  cases bs with
  | nil=>exact iteT (q0 rfl)
  | cons b0 bs =>
   have hl:(0:Int) < ((b0::bs).length:Int):=by rw[zP]; omega
   have e:decide (V.int (((b0::bs).length:Nat):Int)=V.int 0)=false:=decide_eq_false fun h=>by
    have:=V.int.inj h
    omega
   rw[e]
   refine iteF ?_
   first|(ac_rfl; refine⟨p,C,dx,_,_,rfl,hp,c.cl,c.nB,fS_belts _ _,_,rfl,_,rfl,p,C,dx,_,_,rfl,hp,c.cl,c.nB,fS_belts _ _,p2,_,rfl,.inr (SqT.of ht),_,_,rfl,rfl,(by rw[zB]; exact hl),?_⟩)|(refine⟨_,rfl,p,C,dx,_,_,rfl,hp,c.cl,c.nB,fS_belts _ _,_,rfl,_,rfl,p,C,dx,_,_,rfl,hp,c.cl,c.nB,fS_belts _ _,p2,_,rfl,.inr (SqT.of ht),_,_,rfl,rfl,(by rw[zB]; exact hl),?_⟩)
   rw[zB]
   have d0:=qM z (Int.ne_of_gt hl)
   have d1:=y8 z hl
   refine abb fun Gz hGz=>?_
   obtain⟨j,hj⟩:∃ j:Nat,z % ((b0::bs).length:Int)=(j:Int):=⟨(z % ((b0::bs).length:Int)).toNat,by omega⟩
   obtain⟨y,hy⟩:∃ y,(b0::bs)[j]?=some y:=⟨(b0::bs)[j]'(by omega),zC _⟩
   refine hGz ?_
   refine ixT ht (atI_map hj hy) ⟨_,rfl,(by show 2≤sizeLine; decide),fun t nt=>?_⟩
   exact q1 y t (by simp) (by rw[hj]; exact hy) nt
end
end Oc
namespace Oc
open PySem L2
theorem putF_twice (f:Str) (u v:V):∀ fs:List (Str × V),putF f v (putF f u fs)=putF f v fs
 | []=>by
  show(if f=f then [(f,v)] else (f,u)::putF f v [])=[(f,v)]
  rw[if_pos rfl]
 | (g,x)::r=>by
  show putF f v (if g=f then (g,u)::r else (g,x)::putF f u r)=if g=f then (g,v)::r else (g,x)::putF f v r
  by_cases h:g=f
  ·rw[if_pos h,if_pos h]
   show(if g=f then (g,v)::r else (g,u)::putF f v r)=_
   rw[if_pos h]
  ·rw[if_neg h,if_neg h]
   show(if g=f then (g,v)::putF f u r else (g,x)::putF f v (putF f u r))=_
   rw[if_neg h,putF_twice f u v r]
def fT (p1 p2:Addr) (e n:Int):List (Str × V):=putF "seen" (.int n) (putF "every" (.int e) (fS p1 p2))
theorem se:¬ (("every":Str)="seen"):=by decide +kernel
theorem sb:¬ (("belts":Str)="seen"):=by decide +kernel
theorem eb':¬ (("belts":Str)="every"):=by decide +kernel
theorem fT_seen (p1 p2:Addr) (e n:Int):(fT p1 p2 e n).lookup ("seen":Str)=some (.int n):=by
 unfold fT
 rw[lookup_putF,if_pos rfl]
theorem fT_every (p1 p2:Addr) (e n:Int):(fT p1 p2 e n).lookup ("every":Str)=some (.int e):=by
 unfold fT
 rw[lookup_putF,if_neg se,lookup_putF,if_pos rfl]
theorem fT_belts (p1 p2:Addr) (e n:Int):(fT p1 p2 e n).lookup ("belts":Str)=some (.ref p2):=by
 unfold fT
 rw[lookup_putF,if_neg sb,lookup_putF,if_neg eb',fS_belts]
theorem fT_no (p1 p2:Addr) (e n:Int) {x:Str} (h0:¬ x="seen") (h3:¬ x="every") (h1:¬ x="belts") (h2:¬ x="ways"):(fT p1 p2 e n).lookup x=none:=by
 unfold fT
 rw[lookup_putF,if_neg h0,lookup_putF,if_neg h3,fS_no _ _ h1 h2]
theorem fT_put (p1 p2:Addr) (e n m:Int):putF "seen" (.int m) (fT p1 p2 e n)=fT p1 p2 e m:=putF_twice _ _ _ _
theorem fT_len (p1 p2:Addr) (e n:Int):(fT p1 p2 e n).length≤4:=by
 have h1:=fS_len p1 p2
 have h2:=length_putF "every" (.int e) (fS p1 p2)
 have h3:=length_putF "seen" (.int n) (putF "every" (.int e) (fS p1 p2))
 unfold fT
 omega
structure ThC (K:PySem.W.Frag) (C:Addr):Prop where
 st:StC K C
 nE:NoAttr K C "every"
 nN:NoAttr K C "seen"
inductive spThI (K:PySem.W.Frag) (vs:List V) (H:Hp) (Q:VK) (x_3:XK):Prop where
 | mk (p wa b C dx:Addr) (xs ys:List V) (m:Int) (M:List (List Cell)) (h_0:vs=[.ref p,.ref wa,.ref b,.int m]) (h_1:Hc H ([(p,.ins C dx [])]::M)) (h_2:ThC K C) (h_3:SqL K H wa xs) (h_4:SqL K H b ys) (h_5:wa ≠ p) (h_6:b ≠ p) (h_7:∀(p1 p2:Addr) (H':Hp),Keep [p] H H'→Hc H' ([(p,.ins C dx (fT p1 p2 m 0)),(p1,.tup xs),(p2,.tup ys)]::M)→Q .non H'):spThI K vs H Q x_3
inductive spThT (C:Addr) (vs:List V) (H:Hp) (Q:VK) (x_3:XK):Prop where
 | mk (p dx p1 p2:Addr) (m n z:Int) (wy:V) (ys:List V) (h_0:vs=[.ref p,wy,.int z]) (h_1:H p=some (.ins C dx (fT p1 p2 m n))) (h_2:H p2=some (.tup ys)) (h_3:2≤m) (h_4:((n + 1) % m=0∨ys=[]→Q .non (upd H p (.ins C dx (fT p1 p2 m (n + 1)))))) (h_5:(∀ y r t,¬ (n + 1) % m=0→ys=y::r→H t=none→Q (.ref t) (upd (upd H p (.ins C dx (fT p1 p2 m (n + 1)))) t (.tup [y,.int z])))):spThT C vs H Q x_3
section
variable {P:Program} {w:World} {K:PySem.W.Frag} {mg:Str→Option Value} {base:Heap}
theorem sc_thI:FnScope ["self","ways","belts","every"] ["self","ways","belts","every"] (defScope (inClass (top 11) 0)):=⟨rfl,rfl,rfl,by decide +kernel,rfl,by decide +kernel,by decide +kernel⟩
theorem ok_thI {f cS:Addr} {fd:FuncData} (F:Fun K "__init__" "Thinner.__init__" (inClass (top 11) 0) f fd) (g_Station:mg "Station"=some (.ref cS)) (L_Station___init__:ClsAt P w K mg base 1 cS "__init__" ["self","ways","belts"] (spStI K)) :
  FnOk P w K mg base CX0 2 f fd ["self","ways","belts","every"] (spThI K):=by
 have nd:=sc_thI.nd
 refine F.ok sc_thI (fun vs H Q E h=>?_) (fun cdv A outer s H vs Q E hr h=>?_)
 ·obtain⟨p,wa,b,C,dx,xs,ys,m,M,rfl,_⟩:=h
  rfl
 ·refine abb fun Gz hGz=>?_
  obtain⟨p,wa,b,C,dx,xs,ys,m,M,rfl,hc,c,hw,hb,n1,n2,q⟩:=h
  refine hGz ?_
  refine⟨_,(@pss_cons _ _ _ _ _ (ps_expr (pe_clsm' rfl g_Station L_Station___init__ (hr.mono (by decide)) (@pa_cons _ _ _ _ _ (pv 0) (@pa_cons _ _ _ _ _ (pv 1) (@pa_cons _ _ _ _ _ (pv 2) pa_nil (by rfl)) (by rfl)) (by rfl))))
   (@pss_cons _ _ _ _ _ (ps_fld (pv 0) (pv 3) rfl)
   (@pss_one _ _ _ (ps_fld (pv 0) pe_int rfl)))),?_⟩
  first|(refine tvC rfl ?_)|(refine tvO rfl ?_)|(refine tvK rfl ?_)|(refine tv rfl ?_)|(refine⟨_,rfl,?_⟩)
  first|(refine tvC rfl ?_)|(refine tvO rfl ?_)|(refine tvK rfl ?_)|(refine tv rfl ?_)|(refine⟨_,rfl,?_⟩)
  first|(ac_rfl; refine⟨p,wa,b,C,dx,xs,ys,M,rfl,hc,c.st,hw,hb,n1,n2,fun p1 p2 H' kp hc1=>?_⟩)|(refine⟨_,rfl,p,wa,b,C,dx,xs,ys,M,rfl,hc,c.st,hw,hb,n1,n2,fun p1 p2 H' kp hc1=>?_⟩)
  have l1:=fS_len p1 p2
  have l2:=length_putF "every" (.int m) (fS p1 p2)
  first|(refine tvC rfl ?_)|(refine tvO rfl ?_)|(refine tvK rfl ?_)|(refine tv rfl ?_)|(refine⟨_,rfl,?_⟩)
  first|(ac_rfl; refine⟨p,C,dx,_,rfl,hc1.get 0 0 rfl rfl,c.st.cl,c.nE,by omega,?_⟩)|(refine⟨_,rfl,p,C,dx,_,rfl,hc1.get 0 0 rfl rfl,c.st.cl,c.nE,by omega,?_⟩)
  have hc2:=hc1.put 0 0 rfl rfl (.ins C dx (putF "every" (.int m) (fS p1 p2)))
  first|(ac_rfl; refine⟨p,C,dx,_,rfl,upd_same,c.st.cl,c.nN,by omega,?_⟩)|(refine⟨_,rfl,p,C,dx,_,rfl,upd_same,c.st.cl,c.nN,by omega,?_⟩)
  exact q p1 p2 _ ((kp.upd (yR _)).upd (yR _)) (hc2.put 0 0 rfl rfl _)
theorem sc_thT:FnScope ["self","way","piece"] ["self","way","piece"] (defScope (inClass (top 11) 1)):=⟨rfl,rfl,rfl,by decide +kernel,rfl,by decide +kernel,by decide +kernel⟩
theorem ok_thT {f C:Addr} {fd:FuncData} (F:Fun K "take" "Thinner.take" (inClass (top 11) 1) f fd) (c:ThC K C) (G_on_first:MethAt P w K mg base 1 C "on_first" ["self","piece"] (spOne K)) :
  FnOk P w K mg base CX0 2 f fd ["self","way","piece"] (spThT C):=by
 have nd:=sc_thT.nd
 refine F.ok sc_thT (fun vs H Q E h=>?_) (fun cdv A outer s H vs Q E hr h=>?_)
 ·obtain⟨p,dx,p1,p2,m,n,z,wy,ys,rfl,_⟩:=h
  rfl
 ·refine abb fun Gz hGz=>?_
  obtain⟨p,dx,p1,p2,m,n,z,wy,ys,rfl,hp,ht,hm,q0,q1⟩:=h
  refine hGz ?_
  refine⟨_,(@pss_cons _ _ _ _ _ (ps_fld (pv 0) (pe_op op_add (pe_fldK (K:=K) rfl (pv 0) rfl) pe_int) rfl)
   (@pss_cons _ _ _ _ _ (ps_if ((pw_and (pt_cmpR op_ne (pe_fldK (K:=K) rfl (pv 0) rfl) pe_int (nomark _)) (pw_and1 (pt_cmpR op_eq (pe_op op_mod (pe_fldK (K:=K) rfl (pv 0) rfl) (pe_fldK (K:=K) rfl (pv 0) rfl)) pe_int (nomark _))))).pt (@pss_one _ _ _ (@ps_ret _ _ _ _ pe_non)) pss_nil)
   (@pss_one _ _ _ (@ps_ret _ _ _ _ (pe_mth G_on_first (hr.mono (by decide)) (pv 0) (@pa_cons _ _ _ _ _ (pv 2) pa_nil (by rfl))))))),?_⟩
  have l1:=fT_len p1 p2 m n
  first|(ac_rfl; refine⟨p,C,dx,_,_,rfl,hp,c.st.cl,c.nN,fT_seen _ _ _ _,_,_,rfl,rfl,_,rfl,p,C,dx,_,rfl,hp,c.st.cl,c.nN,by omega,?_⟩)|(refine⟨_,rfl,p,C,dx,_,_,rfl,hp,c.st.cl,c.nN,fT_seen _ _ _ _,_,_,rfl,rfl,_,rfl,p,C,dx,_,rfl,hp,c.st.cl,c.nN,by omega,?_⟩)
  rw[fT_put]
  have h1:(upd H p (.ins C dx (fT p1 p2 m (n + 1)))) p=some (.ins C dx (fT p1 p2 m (n + 1))):=upd_same
  have np2:p2 ≠ p:=ne_of ht hp (by intro z; cases z)
  have h2:(upd H p (.ins C dx (fT p1 p2 m (n + 1)))) p2=some (.tup ys):=by rw[upd_ne np2]; exact ht
  have hn:∀ t,(upd H p (.ins C dx (fT p1 p2 m (n + 1)))) t=none→H t=none:=fun t z=>by
   have:t ≠ p:=fun y=>by rw[y,h1] at z; cases z
   rw[upd_ne this] at z
   exact z
  generalize (upd H p (.ins C dx (fT p1 p2 m (n + 1))))=H1 at h1 h2 hn q0 q1 ⊢
  first|(ac_rfl; refine⟨p,C,dx,_,_,rfl,h1,c.st.cl,c.nE,fT_every _ _ _ _,rfl,_,rfl,?_⟩)|(refine⟨_,rfl,p,C,dx,_,_,rfl,h1,c.st.cl,c.nE,fT_every _ _ _ _,rfl,_,rfl,?_⟩)
  have e1:(!decide (V.int m=V.int 0))=true:=by
   rw[decide_eq_false (fun h=>by have:=V.int.inj h; omega)]
   rfl
  rw[e1]
  refine iteT ?_
  first|(ac_rfl; refine⟨p,C,dx,_,_,rfl,h1,c.st.cl,c.nN,fT_seen _ _ _ _,_,rfl,p,C,dx,_,_,rfl,h1,c.st.cl,c.nE,fT_every _ _ _ _,_,_,rfl,rfl,(show(0:Int) < m by omega),rfl,_,rfl,?_⟩)|(refine⟨_,rfl,p,C,dx,_,_,rfl,h1,c.st.cl,c.nN,fT_seen _ _ _ _,_,rfl,p,C,dx,_,_,rfl,h1,c.st.cl,c.nE,fT_every _ _ _ _,_,_,rfl,rfl,(show(0:Int) < m by omega),rfl,_,rfl,?_⟩)
  refine ite2 (fun hz=>?_) (fun hz=>?_)
  ·exact q0 (.inl (V.int.inj (of_decide_eq_true hz)))
  ·have hz':¬ (n + 1) % m=0:=fun e=>hz (decide_eq_true (congrArg V.int e))
   first|(ac_rfl; refine⟨p,dx,_,rfl,h1,fT_no _ _ _ _ (by decide +kernel) (by decide +kernel) (by decide +kernel) (by decide +kernel),_,rfl,?_⟩)|(refine⟨_,rfl,p,dx,_,rfl,h1,fT_no _ _ _ _ (by decide +kernel) (by decide +kernel) (by decide +kernel) (by decide +kernel),_,rfl,?_⟩)
   exact⟨p,C,dx,p2,_,ys,_,rfl,h1,c.st,fT_belts _ _ _ _,h2,fun e=>q0 (.inr e),fun y r t e nt=>q1 y r t hz' e (hn t nt)⟩
end
end Oc
namespace Oc
open PySem L2
def ImmO:HO→Prop
 | .lst _=>False
 | .ins _ _ _=>False
 | .dK _=>False
 | _=>True
def Tk (H H':Hp):Prop:=∀ b u,H b=some u→ImmO u→H' b=some u
theorem Tk.of {H H':Hp} (s:Same H H'):Tk H H':=fun b u e _=>s b u e
theorem Tk.refl (H:Hp):Tk H H:=fun _ _ e _=>e
theorem Tk.trans {H H1 H2:Hp} (a:Tk H H1) (b:Tk H1 H2):Tk H H2:=fun c u e n=>b c u (a c u e n) n
theorem Tk.put {H H':Hp} {a:Addr} {u o:HO} (k:Tk H H') (e:H' a=some u) (hu:¬ ImmO u):Tk H (upd H' a o):=fun b v eb hv=>by
 have e1:=k b v eb hv
 rw[upd_ne (fun z=>by subst z; rw[e] at e1; cases e1; exact hu hv)]
 exact e1
theorem Tk.new {H H':Hp} {a:Addr} {o:HO} (k:Tk H H') (n:H' a=none):Tk H (upd H' a o):=k.trans (Tk.of (Same.new n))
theorem Tk.tup {H H':Hp} (k:Tk H H') {b:Addr} {xs:List V} (e:H b=some (.tup xs)):H' b=some (.tup xs):=k _ _ e trivial
theorem smallM {n:Nat} (h:n≤100000):n < sizeLine:=qH h (by decide)
end Oc
namespace Oc
open PySem L2
theorem DGet.ki {H:Hp} {a:Addr} {kvs:List (Key × V)} {n:Int} {v:V} (e:H a=some (.dK kvs)) (h:valV kvs (Sum.inl n:Key)=some v):DGet H a (.int n) (some v):=by
 rw[← h]
 exact DGet.k (k:=Sum.inl n) e
def fJ (p1 p2 d:Addr):List (Str × V):=putF "kept" (.ref d) (fS p1 p2)
theorem kb_:¬ (("belts":Str)="kept"):=by decide +kernel
theorem kw_:¬ (("ways":Str)="kept"):=by decide +kernel
theorem fJ_kept (p1 p2 d:Addr):(fJ p1 p2 d).lookup ("kept":Str)=some (.ref d):=by
 unfold fJ
 rw[lookup_putF,if_pos rfl]
theorem fJ_belts (p1 p2 d:Addr):(fJ p1 p2 d).lookup ("belts":Str)=some (.ref p2):=by
 unfold fJ
 rw[lookup_putF,if_neg kb_,fS_belts]
theorem fJ_ways (p1 p2 d:Addr):(fJ p1 p2 d).lookup ("ways":Str)=some (.ref p1):=by
 unfold fJ
 rw[lookup_putF,if_neg kw_,fS_ways]
theorem fJ_no (p1 p2 d:Addr) {x:Str} (h0:¬ x="kept") (h1:¬ x="belts") (h2:¬ x="ways"):(fJ p1 p2 d).lookup x=none:=by
 unfold fJ
 rw[lookup_putF,if_neg h0,fS_no _ _ h1 h2]
structure JnC (K:PySem.W.Frag) (C:Addr):Prop where
 st:StC K C
 nK:NoAttr K C "kept"
def jk (ws:List Int) (ls:List Addr):List (Key × V):=(ws.zip ls).map fun p=>(Sum.inl p.1,V.ref p.2)
def jrows (ls:List Addr) (rows:List (List Int)):List Cell:=rowsC ls (rows.map fun r=>HO.lst (r.map V.int))
def jobj (C dx p p1 p2 d:Addr) (ws:List Int) (ls:List Addr) (ys:List V):List Cell:=[(p,.ins C dx (fJ p1 p2 d)),(p1,.tup (ws.map V.int)),(p2,.tup ys),(d,.dK (jk ws ls))]
theorem jk_snoc {ws:List Int} {ls:List Addr} (h:ls.length=ws.length) (w:Int) (l:Addr):jk (ws++[w]) (ls++[l])=jk ws ls++[(Sum.inl w,V.ref l)]:=by
 unfold jk
 rw[kQ h.symm,zS]
 rfl
theorem jk_none:∀ {ws:List Int} {ls:List Addr} {w:Int},w ∉ ws→valV (jk ws ls) (Sum.inl w:Key)=none
 | [],_,_,_=>rfl
 | _::_,[],_,_=>rfl
 | v::ws,l::ls,w,h=>by
  show valV ((Sum.inl v,V.ref l)::jk ws ls) _=none
  rw[valV_neg (fun e=>h (by rw[Sum.inl.inj e]; exact zN))]
  exact jk_none fun z=>h (zI _ z)
theorem jk_get:∀ {ws:List Int} {ls:List Addr} {j:Nat} {w:Int} {l:Addr},ws.Nodup→ws[j]?=some w→ls[j]?=some l→valV (jk ws ls) (Sum.inl w:Key)=some (.ref l)
 | [],_,_,_,_,_,h,_=>by simp at h
 | _::_,[],_,_,_,_,_,h=>by simp at h
 | v::ws,m::ls,0,w,l,nd,h1,h2=>by
  simp at h1 h2
  subst h1 h2
  exact valV_pos rfl
 | v::ws,m::ls,j + 1,w,l,nd,h1,h2=>by
  rw[yX] at nd
  have h1':ws[j]?=some w:=by simpa using h1
  show valV ((Sum.inl v,V.ref m)::jk ws ls) _=_
  rw[valV_neg (fun e=>nd.1 (by rw[show v=w from Sum.inl.inj e]; exact zK h1'))]
  exact jk_get nd.2 h1' (by simpa using h2)
theorem jk_len (ws:List Int) (ls:List Addr):(jk ws ls).length≤ws.length:=by
 unfold jk
 rw[zB,List.length_zip]
 exact kO _ _
theorem jrows_snoc {ls:List Addr} {rows:List (List Int)} (h:ls.length=rows.length) (l:Addr) (r:List Int):jrows (ls++[l]) (rows++[r])=jrows ls rows++[(l,.lst (r.map V.int))]:=by
 unfold jrows rowsC
 rw[zS,kQ (by rw[zB]; exact h)]
 rfl
theorem jrows_get {ls:List Addr} {rows:List (List Int)} {j:Nat} {l:Addr} {r:List Int} (h1:ls[j]?=some l) (h2:rows[j]?=some r):(jrows ls rows)[j]?=some (l,.lst (r.map V.int)) :=
 rowsC_get h1 (by rw[zJ,h2]; rfl)
theorem jrows_set {ls:List Addr} {rows:List (List Int)} {j:Nat} {l:Addr} (r:List Int) (h1:ls[j]?=some l):(jrows ls rows).set j (l,.lst (r.map V.int))=jrows ls (rows.set j r):=by
 unfold jrows
 rw[rowsC_set h1,kD]
def heads (rows:List (List Int)):Int:=(rows.map fun r=>r.headD 0).sum
theorem sum_snoc (l:List Int) (x:Int):(l++[x]).sum=l.sum + x:=by
 induction l with
 | nil=>simp
 | cons a l ih=>simp only [kL,jS,ih]; omega
theorem heads_snoc (rows:List (List Int)) (r:List Int):heads (rows++[r])=heads rows + r.headD 0:=by
 unfold heads
 rw[zS]
 exact sum_snoc _ _
def anyE (rows:List (List Int)):Bool:=rows.any fun r=>r.isEmpty
def cutR (rows:List (List Int)) (i:Nat):List (List Int):=(rows.take i).map List.tail++rows.drop i
theorem cutR_zero (rows:List (List Int)):cutR rows 0=rows:=by simp [cutR]
theorem cutR_all (rows:List (List Int)):cutR rows rows.length=rows.map List.tail:=by simp [cutR]
theorem cutR_get {rows:List (List Int)} {i:Nat} {r:List Int} (h:rows[i]?=some r):(cutR rows i)[i]?=some r:=by
 have hi:=(zA.mp h).1
 unfold cutR
 rw[yG (by rw[zB,zX]; omega),zB,zX,jD (yZ hi),j8,qI,q8]
 exact h
theorem cutR_set {rows:List (List Int)} {i:Nat} {r:List Int} (h:rows[i]?=some r):(cutR rows i).set i r.tail=cutR rows (i + 1):=by
 have hi:=(zA.mp h).1
 have ed:rows.drop i=r::rows.drop (i + 1):=by
  rw[qV hi]
  congr 1
  exact(zA.mp h).2
 unfold cutR
 rw[ed,yO,h,zS]
 have el:((rows.take i).map List.tail).length=i:=by rw[zB,zX]; omega
 have:=set_cut (A:=(rows.take i).map List.tail) (B:=rows.drop (i + 1)) (x:=r) (y:=r.tail)
 rw[el] at this
 rw[this]
 simp
inductive JOut (ys:List V) (rows:List (List Int)):V→List Cell→List (List Int)→Prop
 | wait (h:anyE rows=true):JOut ys rows .non [] rows
 | lost (h:anyE rows=false) (e:ys=[]):JOut ys rows .non [] (rows.map List.tail)
 | put (h:anyE rows=false) {y:V} {ys':List V} (e:ys=y::ys') (t:Addr):JOut ys rows (.ref t) [(t,.tup [y,.int (heads rows)])] (rows.map List.tail)
inductive spJnI (K:PySem.W.Frag) (vs:List V) (H:Hp) (Q:VK) (x_3:XK):Prop where
 | mk (p wa b C dx:Addr) (ws:List Int) (ys:List V) (M:List (List Cell)) (h_0:vs=[.ref p,.ref wa,.ref b]) (h_1:Hc H ([(p,.ins C dx [])]::M)) (h_2:JnC K C) (h_3:SqL K H wa (ws.map V.int)) (h_4:SqL K H b ys) (h_5:wa ≠ p) (h_6:b ≠ p) (h_7:ws.Nodup) (h_8:ws.length≤100) (h_9:∀(p1 p2 d:Addr) (ls:List Addr) (H':Hp),ls.length=ws.length→Keep [p] H H'→Hc H' (jobj C dx p p1 p2 d ws ls ys::jrows ls (ws.map fun _=>[])::M)→Q .non H'):spJnI K vs H Q x_3
inductive spJnT (C:Addr) (vs:List V) (H:Hp) (Q:VK) (x_3:XK):Prop where
 | mk (p dx p1 p2 d:Addr) (wv z:Int) (ws:List Int) (ls:List Addr) (ys:List V) (j:Nat) (rows:List (List Int)) (r:List Int) (M:List (List Cell)) (h_0:vs=[.ref p,.int wv,.int z]) (h_1:Hc H (jobj C dx p p1 p2 d ws ls ys::jrows ls rows::M)) (h_2:ws.Nodup) (h_3:ws.length≤100) (h_4:ls.length=ws.length) (h_5:rows.length=ws.length) (h_6:ws[j]?=some wv) (h_7:rows[j]?=some r) (h_8:r.length≤90000) (h_9:∀(v:V) (ft:List Cell) (rows':List (List Int)) (H':Hp),JOut ys (rows.set j (r++[z])) v ft rows'→Hc H' (ft::jobj C dx p p1 p2 d ws ls ys::jrows ls rows'::M)→Tk H H'→Q v H'):spJnT C vs H Q x_3
section
variable {P:Program} {w:World} {K:PySem.W.Frag} {mg:Str→Option Value} {base:Heap}
theorem sc_jnI:FnScope ["self","ways","belts","way"] ["self","ways","belts"] (defScope (inClass (top 12) 0)):=⟨rfl,rfl,rfl,by decide +kernel,rfl,by decide +kernel,by decide +kernel⟩
theorem ok_jnI {f cS:Addr} {fd:FuncData} (F:Fun K "__init__" "Joiner.__init__" (inClass (top 12) 0) f fd) (g_Station:mg "Station"=some (.ref cS)) (L_Station___init__:ClsAt P w K mg base 1 cS "__init__" ["self","ways","belts"] (spStI K)) :
  FnOk P w K mg base CX0 2 f fd ["self","ways","belts"] (spJnI K):=by
 have nd:=sc_jnI.nd
 refine F.ok sc_jnI (fun vs H Q E h=>?_) (fun cdv A outer s H vs Q E hr h=>?_)
 ·obtain⟨p,wa,b,C,dx,ws,ys,M,rfl,_⟩:=h
  rfl
 ·refine abb fun Gz hGz=>?_
  obtain⟨p,wa,b,C,dx,ws,ys,M,rfl,hc,c,hw,hb,n1,n2,ndw,lw,q⟩:=h
  refine hGz ?_
  have hu:=hu_of hr
  have cl:=c.st.cl
  have nK:=c.nK
  have nW:=c.st.nW
  refine⟨_,(@pss_cons _ _ _ _ _ (ps_expr (pe_clsm' rfl g_Station L_Station___init__ (hr.mono (by decide)) (@pa_cons _ _ _ _ _ (pv 0) (@pa_cons _ _ _ _ _ (pv 1) (@pa_cons _ _ _ _ _ (pv 2) pa_nil (by rfl)) (by rfl)) (by rfl))))
   (@pss_cons _ _ _ _ _ (ps_fld (pv 0) pe_dnewK rfl)
   (@pss_one _ _ _ (ps_for PassesOwn.never rfl (pi_tupK (K:=K) rfl (pe_fldK (K:=K) rfl (pv 0) rfl)) (pg_name (i:=3) nd rfl (by first|exact Or.inl rfl|exact Or.inr rfl)) (@pss_one _ _ _ (ps_dput hu (pe_fldK (K:=K) rfl (pv 0) rfl) (pv 3) (@pe_lst _ _ _ _ pa_nil) rfl)))))),?_⟩
  first|(refine tvC rfl ?_)|(refine tvO rfl ?_)|(refine tvK rfl ?_)|(refine tv rfl ?_)|(refine⟨_,rfl,?_⟩)
  first|(refine tvC rfl ?_)|(refine tvO rfl ?_)|(refine tvK rfl ?_)|(refine tv rfl ?_)|(refine⟨_,rfl,?_⟩)
  first|(ac_rfl; refine⟨p,wa,b,C,dx,_,ys,M,rfl,hc,c.st,hw,hb,n1,n2,fun p1 p2 H1 kp1 hc1=>?_⟩)|(refine⟨_,rfl,p,wa,b,C,dx,_,ys,M,rfl,hc,c.st,hw,hb,n1,n2,fun p1 p2 H1 kp1 hc1=>?_⟩)
  intro d fd
  have fd0:H d=none:=kp1.free1 (hc1.get 0 0 rfl rfl) fd
  have kp3:=(kp1.new' (o:=.dK []) fd).upd (a:=p) (o:=.ins C dx (putF "kept" (.ref d) (fS p1 p2))) (yR _)
  have hc2:=hc1.new fd (.dK [])
  first|(ac_rfl; refine⟨p,C,dx,_,rfl,hc2.get 1 0 rfl rfl,cl,nK,?_,?_⟩)|(refine⟨_,rfl,p,C,dx,_,rfl,hc2.get 1 0 rfl rfl,cl,nK,?_,?_⟩)
  ·have:=fS_len p1 p2
   omega
  have hc3:Hc _ ([(d,.dK [])]::[(p,.ins C dx (fJ p1 p2 d)),(p1,.tup (ws.map V.int)),(p2,.tup ys)]::M):=hc2.put 1 0 rfl rfl (.ins C dx (fJ p1 p2 d))
  change _ at hc3
  generalize hg:upd (upd H1 d (HO.dK [])) p (.ins C dx (putF "kept" (.ref d) (fS p1 p2)))=H3
  have hc3':Hc H3 ([(d,.dK [])]::[(p,.ins C dx (fJ p1 p2 d)),(p1,.tup (ws.map V.int)),(p2,.tup ys)]::M):=by rw[← hg]; exact hc3
  rw[hg] at kp3
  clear hc3 hg hc2 hc1
  have lk:=fJ_kept p1 p2 d
  have lw':=fJ_ways p1 p2 d
  refine⟨_,rfl,p,C,dx,_,_,rfl,hc3'.get 1 0 rfl rfl,cl,nW,lw',p1,rfl,⟨_,SqT.of (hc3'.get 1 1 rfl rfl)⟩,for_tup (K:=K) (a:=p1) (xs:=ws.map V.int) (fun i σ H5=>∃(v:Option V) (ls:List Addr),σ=[some (.ref p),some (.ref wa),some (.ref b),v]∧ls.length=i∧Keep [p] H H5 ∧
   Hc H5 ([(d,.dK (jk (ws.take i) ls))]::[(p,.ins C dx (fJ p1 p2 d)),(p1,.tup (ws.map V.int)),(p2,.tup ys)]::jrows ls ((ws.take i).map fun _=>[])::M)) ⟨none,[],rfl,rfl,kp3,?_⟩ (fun i σ H5 _ ⟨_,_,_,_,_,h⟩=>SqT.of (h.get 1 1 rfl rfl)) ?_ ?_⟩
  ·exact hc3'
  ·rintro i x σ H5 hi hz0
   refine abb fun Gz hGz=>?_
   obtain⟨v,ls,rfl,el,kp5,hc5⟩:=hz0
   obtain⟨z,rfl,hz⟩:=ints_get hi
   refine hGz ?_
   have hil:=(zA.mp hz).1
   refine⟨zZ _,fun l nl=>?_⟩
   have hc6:=hc5.new nl (.lst [])
   have lt:(ws.take i).length=i:=by rw[zX]; omega
   first|(ac_rfl; refine⟨p,C,dx,_,_,rfl,hc6.get 2 0 rfl rfl,cl,nK,lk,_,rfl,d,_,rfl,DPut.k (k:=Sum.inl z) (hc6.get 1 0 rfl rfl) (small1000 (by have:=jk_len (ws.take i) ls; omega)),?_⟩)|(refine⟨_,rfl,p,C,dx,_,_,rfl,hc6.get 2 0 rfl rfl,cl,nK,lk,_,rfl,d,_,rfl,DPut.k (k:=Sum.inl z) (hc6.get 1 0 rfl rfl) (small1000 (by have:=jk_len (ws.take i) ls; omega)),?_⟩)
   have hc7:=hc6.put 1 0 rfl rfl (.dK (putK (jk (ws.take i) ls) (Sum.inl z) (.ref l)))
   have nz:z ∉ ws.take i:=fun h=>by
    refine abb fun Gz hGz=>?_
    obtain⟨m,hm⟩:=yD h
    refine hGz ?_
    have hm1:=(zA.mp hm).1
    rw[kY (by omega)] at hm
    have:=(List.getElem?_inj (by omega) ndw).mp (hm.trans hz.symm)
    omega
   have et:ws.take (i + 1)=ws.take i++[z]:=by rw[yO,hz]; rfl
   refine⟨_,ls++[l],rfl,by rw[zM,el]; rfl,(kp5.new' nl).new fd0,?_⟩
   rw[et,jk_snoc (by omega),zS]
   show Hc _ (_::_::jrows (ls++[l]) (((ws.take i).map fun _=>[])++[[]])::M)
   rw[jrows_snoc (by rw[zB]; omega),← putK_new _ (jk_none nz)]
   have hc8:Hc _ ([(d,.dK (putK (jk (ws.take i) ls) (Sum.inl z) (.ref l)))]::[(p,.ins C dx (fJ p1 p2 d)),(p1,.tup (ws.map V.int)),(p2,.tup ys)]::[(l,.lst [])]::jrows ls ((ws.take i).map fun _=>[])::M):=(hc7.pick 2 rfl).pick 2 rfl
   have hc9:=((hc8.pick 3 rfl).pick 3 rfl)
   have hc9':Hc _ ([(l,.lst [])]::jrows ls ((ws.take i).map fun _=>[])::[(d,.dK (putK (jk (ws.take i) ls) (Sum.inl z) (.ref l)))]::[(p,.ins C dx (fJ p1 p2 d)),(p1,.tup (ws.map V.int)),(p2,.tup ys)]::M):=hc9
   have hcA:=(hc9'.swap.join.pick 2 rfl).pick 2 rfl
   exact hcA
  ·rintro σ H5 hz1
   refine abb fun Gz hGz=>?_
   obtain⟨v,ls,rfl,el,kp5,hc5⟩:=hz1
   refine hGz ?_
   rw[zB] at el hc5
   rw[yM] at hc5
   have hc6:=hc5.swap.join
   exact q p1 p2 d ls H5 el kp5 hc6
theorem sc_jnT:FnScope ["self","way","piece","total","each"] ["self","way","piece"] (defScope (inClass (top 12) 1)):=⟨rfl,rfl,rfl,by decide +kernel,rfl,by decide +kernel,by decide +kernel⟩
theorem ok_jnT {f C:Addr} {fd:FuncData} (F:Fun K "take" "Joiner.take" (inClass (top 12) 1) f fd) (T:Txt K mg) (c:JnC K C) (G_on_first:MethAt P w K mg base 1 C "on_first" ["self","piece"] (spOne K)) :
  FnOk P w K mg base CX0 2 f fd ["self","way","piece"] (spJnT C):=by
 have nd:=sc_jnT.nd
 refine F.ok sc_jnT (fun vs H Q E h=>?_) (fun cdv A outer s H vs Q E hr h=>?_)
 ·obtain⟨p,dx,p1,p2,d,wv,z,ws,ls,ys,j,rows,r,M,rfl,_⟩:=h
  rfl
 ·refine abb fun Gz hGz=>?_
  obtain⟨p,dx,p1,p2,d,wv,z,ws,ls,ys,j,rows,r,M,rfl,hc,ndw,lw,el,er,hj,hrj,lr,q⟩:=h
  refine hGz ?_
  have hu:=hu_of hr
  have cl:=c.st.cl
  have nK:=c.nK
  have nW:=c.st.nW
  have lk:=fJ_kept p1 p2 d
  have lkw:=fJ_ways p1 p2 d
  refine⟨_,(@pss_cons _ _ _ _ _ (ps_expr (pe_bm PySem.F.plainAttrs_list PySem.F.slot_list_append PySem.F.type_list_append mt_append (pe_dget hu (pe_fldK (K:=K) rfl (pv 0) rfl) (pv 1) (fun _ _=>rfl)) (@pa_cons _ _ _ _ _ (pv 2) pa_nil (by rfl))))
   (@pss_cons _ _ _ _ _ (ps_if (pt_val (pe_callB (call_anyB rfl) (by rfl) T.n_any bt_any (@pa_cons _ _ _ _ _ (pe_comp (own:=["each"]) (fr:=["self"]) (js:=[0]) ⟨rfl,rfl,by decide +kernel,by decide +kernel,by repeat (first|exact Each.nil|refine Each.cons rfl ?_),by repeat (first|exact Each.nil|refine Each.cons rfl ?_),by repeat (first|exact Paired.nil|refine Paired.cons ⟨rfl,by first|exact Or.inl rfl|exact Or.inr rfl,by first|exact Or.inl rfl|exact Or.inr rfl⟩ ?_),rfl⟩ (pi_tupK (K:=K) rfl (pe_fldK (K:=K) rfl (pv 0) rfl)) (fun _ _ _ _=>(pg_name (i:=0) (show List.Nodup (["each","self"]:List Str) from by decide +kernel) rfl (by first|exact Or.inl rfl|exact Or.inr rfl))) (fun _ _ _ _=>pts_nil) (fun _ _ _ _=>(pe_cmpR op_eq (pe_callB (call_len_seqK (K:=K) rfl) (by rfl) T.n_len bt_len (@pa_cons _ _ _ _ _ (pe_dget hu (pe_fldK (K:=K) rfl (pv 1) rfl) (pv 0) (fun _ _=>rfl)) pa_nil (by rfl))) pe_int (nomark _)))) pa_nil (by rfl)))) (@pss_one _ _ _ (@ps_ret _ _ _ _ pe_non)) pss_nil)
   (@pss_cons _ _ _ _ _ (ps_set (i:=3) nd rfl (by first|exact Or.inl rfl|exact Or.inr rfl) pe_int)
   (@pss_cons _ _ _ _ _ (ps_for PassesOwn.never rfl (pi_tupK (K:=K) rfl (pe_fldK (K:=K) rfl (pv 0) rfl)) (pg_name (i:=4) nd rfl (by first|exact Or.inl rfl|exact Or.inr rfl)) (@pss_one _ _ _ (ps_set (i:=3) nd rfl (by first|exact Or.inl rfl|exact Or.inr rfl) (pe_op op_add (pv 3) (pe_bm PySem.F.plainAttrs_list PySem.F.slot_list_pop PySem.F.type_list_pop mt_popAt (pe_dget hu (pe_fldK (K:=K) rfl (pv 0) rfl) (pv 4) (fun _ _=>rfl)) (@pa_cons _ _ _ _ _ pe_int pa_nil (by rfl)))))))
   (@pss_one _ _ _ (@ps_ret _ _ _ _ (pe_mth G_on_first (hr.mono (by decide)) (pv 0) (@pa_cons _ _ _ _ _ (pv 3) pa_nil (by rfl))))))))),?_⟩
  have hjl:=(zA.mp hj).1
  refine abb fun Gz hGz=>?_
  obtain⟨l,hl⟩:∃ l,ls[j]?=some l:=⟨ls[j]'(by omega),zC _⟩
  refine hGz ?_
  have hlr:=hc.get 1 j rfl (jrows_get hl hrj)
  first|(ac_rfl; refine⟨p,C,dx,_,_,rfl,hc.get 0 0 rfl rfl,cl,nK,lk,_,rfl,d,_,rfl,DGet.ki (hc.get 0 3 rfl rfl) (jk_get ndw hj hl),tyL hlr,_,rfl,_,_,_,rfl,rfl,hlr,smallM (by rw[zB]; omega),?_⟩)|(refine⟨_,rfl,p,C,dx,_,_,rfl,hc.get 0 0 rfl rfl,cl,nK,lk,_,rfl,d,_,rfl,DGet.ki (hc.get 0 3 rfl rfl) (jk_get ndw hj hl),tyL hlr,_,rfl,_,_,_,rfl,rfl,hlr,smallM (by rw[zB]; omega),?_⟩)
  have k1:Tk H (upd H l (.lst (r.map V.int++[V.int z]))):=(Tk.refl H).put hlr (fun z=>z)
  have hc1:=hc.put 1 j rfl (jrows_get hl hrj) (.lst ((r++[z]).map V.int))
  rw[jrows_set _ hl] at hc1
  have hc1':Hc (upd H l (.lst (r.map V.int++[V.int z]))) (jobj C dx p p1 p2 d ws ls ys::jrows ls (rows.set j (r++[z]))::M):=by
   have e:(r++[z]).map V.int=r.map V.int++[V.int z]:=by rw[zS]; rfl
   rw[← e]
   exact hc1
  clear hc1
  have er2:(rows.set j (r++[z])).length=ws.length:=by rw[yY]; exact er
  generalize (rows.set j (r++[z]))=rows2 at hc1' er2 q
  generalize (upd H l (.lst (r.map V.int++[V.int z])))=H1 at hc1' k1 ⊢
  first|(ac_rfl; refine⟨p,C,dx,_,_,rfl,hc1'.get 0 0 rfl rfl,cl,nW,lkw,p1,rfl,⟨_,SqT.of (hc1'.get 0 1 rfl rfl)⟩,fun D nD=>?_⟩)|(refine⟨_,rfl,p,C,dx,_,_,rfl,hc1'.get 0 0 rfl rfl,cl,nW,lkw,p1,rfl,⟨_,SqT.of (hc1'.get 0 1 rfl rfl)⟩,fun D nD=>?_⟩)
  refine comp_tup (K:=K) (a:=p1) (xs:=ws.map V.int) (fun i H5=>Tk H H5∧Hc H5 ([(D,.lst (((rows2.take i).map List.isEmpty).map V.bl))]::jobj C dx p p1 p2 d ws ls ys::jrows ls rows2::M)) ⟨k1.new nD,hc1'.new nD _⟩ (fun i H5 _ h=>SqT.of (h.2.get 1 1 rfl rfl)) ?_ ?_
  ·rintro i x H5 m Wf hi hz2 nx
   refine abb fun Gz hGz=>?_
   obtain⟨k5,hc5⟩:=hz2
   obtain⟨v,rfl,hv⟩:=ints_get hi
   have hil:=(zA.mp hv).1
   obtain⟨l2,hl2⟩:∃ l,ls[i]?=some l:=⟨ls[i]'(by omega),zC _⟩
   obtain⟨r2,hr2⟩:∃ r,rows2[i]?=some r:=⟨rows2[i]'(by omega),zC _⟩
   refine hGz ?_
   have hlr2:=hc5.get 2 i rfl (jrows_get hl2 hr2)
   first|(ac_rfl; refine⟨p,C,dx,_,_,rfl,hc5.get 1 0 rfl rfl,cl,nK,lk,_,rfl,d,_,rfl,DGet.ki (hc5.get 1 3 rfl rfl) (jk_get ndw hv hl2),_,_,rfl,.inl (SqL.of hlr2),rfl,_,hc5.get 0 0 rfl rfl,small1000 (by rw[zB,zB,zX]; omega),nx _ ⟨k5.put (hc5.get 0 0 rfl rfl) (fun z=>z),?_⟩⟩)|(refine⟨_,rfl,p,C,dx,_,_,rfl,hc5.get 1 0 rfl rfl,cl,nK,lk,_,rfl,d,_,rfl,DGet.ki (hc5.get 1 3 rfl rfl) (jk_get ndw hv hl2),_,_,rfl,.inl (SqL.of hlr2),rfl,_,hc5.get 0 0 rfl rfl,small1000 (by rw[zB,zB,zX]; omega),nx _ ⟨k5.put (hc5.get 0 0 rfl rfl) (fun z=>z),?_⟩⟩)
   have e:V.bl (decide (V.int ((r2.map V.int).length:Int)=V.int 0))=V.bl r2.isEmpty:=by
    rw[zB]
    cases r2 with
    | nil=>rfl
    | cons a b =>
     rw[decide_eq_false (fun h=>by have:=V.int.inj h; rw[zP] at this; omega)]
     rfl
   show Hc (upd H5 D (.lst (((rows2.take i).map List.isEmpty).map V.bl++[V.bl (decide (V.int ((r2.map V.int).length:Int)=V.int 0))]))) _
   rw[e,yO,hr2,zS,zS]
   exact hc5.put 0 0 rfl rfl _
  ·rintro H5 hz3
   refine abb fun Gz hGz=>?_
   obtain⟨k5,hc5⟩:=hz3
   refine hGz ?_
   rw[zB,← er2,yM] at hc5
   refine⟨D,_,rfl,SqL.of (hc5.get 0 0 rfl rfl),?_⟩
   have ea:((rows2.map List.isEmpty).any id)=anyE rows2:=by rw[vG]; rfl
   rw[ea]
   have hc6:=hc5.tl
   first|(ac_rfl; refine iteB (fun hb=>q _ _ _ _ (.wait hb) (Hc.pad hc6) k5) (fun hb=>?_))|(refine⟨_,rfl,iteB (fun hb=>q _ _ _ _ (.wait hb) (Hc.pad hc6) k5) (fun hb=>?_)⟩)
   have ne:∀ {i:Nat} {r:List Int},rows2[i]?=some r→∃ a t,r=a::t:=fun {i r} h=>by
    cases r with
    | cons a t=>exact⟨a,t,rfl⟩
    | nil =>
     have:anyE rows2=true:=List.any_eq_true.mpr ⟨[],zK h,rfl⟩
     rw[this] at hb
     cases hb
   refine⟨_,rfl,p,C,dx,_,_,rfl,hc6.get 0 0 rfl rfl,cl,nW,lkw,p1,rfl,⟨_,SqT.of (hc6.get 0 1 rfl rfl)⟩,for_tup (K:=K) (a:=p1) (xs:=ws.map V.int) (fun i σ H7=>∃(v:Option V),σ=[some (.ref p),some (.int wv),some (.int z),some (.int (heads (rows2.take i))),v] ∧
    Tk H H7∧Hc H7 (jobj C dx p p1 p2 d ws ls ys::jrows ls (cutR rows2 i)::M)) ⟨none,rfl,k5,by rw[cutR_zero]; exact hc6⟩ (fun i σ H7 _ ⟨_,_,_,h⟩=>SqT.of (h.get 0 1 rfl rfl)) ?_ ?_⟩
   ·rintro i x σ H7 hi hz4
    refine abb fun Gz hGz=>?_
    obtain⟨v,rfl,k7,hc7⟩:=hz4
    obtain⟨v2,rfl,hv⟩:=ints_get hi
    have hil:=(zA.mp hv).1
    obtain⟨l2,hl2⟩:∃ l,ls[i]?=some l:=⟨ls[i]'(by omega),zC _⟩
    obtain⟨r2,hr2⟩:∃ r,rows2[i]?=some r:=⟨rows2[i]'(by omega),zC _⟩
    obtain⟨a0,t0,rfl⟩:=ne hr2
    refine hGz ?_
    have hlr2:=hc7.get 1 i rfl (jrows_get hl2 (cutR_get hr2))
    first|(refine tvC rfl ?_)|(refine tvO rfl ?_)|(refine tvK rfl ?_)|(refine tv rfl ?_)|(refine⟨_,rfl,?_⟩)
    first|(ac_rfl; refine⟨p,C,dx,_,_,rfl,hc7.get 0 0 rfl rfl,cl,nK,lk,_,rfl,d,_,rfl,DGet.ki (hc7.get 0 3 rfl rfl) (jk_get ndw hv hl2),tyL hlr2,l2,_,0,0,V.int a0,rfl,rfl,hlr2,by decide,by decide,seqIndex_of (k:=0) (by decide) (by rw[zB,zP]; omega),rfl,?_⟩)|(refine⟨_,rfl,p,C,dx,_,_,rfl,hc7.get 0 0 rfl rfl,cl,nK,lk,_,rfl,d,_,rfl,DGet.ki (hc7.get 0 3 rfl rfl) (jk_get ndw hv hl2),tyL hlr2,l2,_,0,0,V.int a0,rfl,rfl,hlr2,by decide,by decide,seqIndex_of (k:=0) (by decide) (by rw[zB,zP]; omega),rfl,?_⟩)
    refine⟨_,_,rfl,rfl,?_⟩
    have hc8:=hc7.put 1 i rfl (jrows_get hl2 (cutR_get hr2)) (.lst (t0.map V.int))
    rw[jrows_set _ hl2] at hc8
    have e8:=cutR_set hr2
    refine⟨some (.int v2),?_,k7.put hlr2 (fun z=>z),?_⟩
    rotate_left
    ·rw[← e8]
     exact hc8
    ·rw[yO,hr2]
     show _=[some (V.ref p),some (V.int wv),some (V.int z),some (V.int (heads (rows2.take i++[a0::t0]))),_]
     rw[heads_snoc]
     rfl
   ·rintro σ H7 hz5
    refine abb fun Gz hGz=>?_
    obtain⟨v,rfl,k7,hc7⟩:=hz5
    refine hGz ?_
    rw[zB,← er2,cutR_all] at hc7
    rw[zB,← er2,yM]
    first|(ac_rfl; refine⟨p,dx,_,rfl,hc7.get 0 0 rfl rfl,fJ_no _ _ _ (by decide +kernel) (by decide +kernel) (by decide +kernel),_,rfl,?_⟩)|(refine⟨_,rfl,p,dx,_,rfl,hc7.get 0 0 rfl rfl,fJ_no _ _ _ (by decide +kernel) (by decide +kernel) (by decide +kernel),_,rfl,?_⟩)
    exact⟨p,C,dx,p2,_,ys,_,rfl,hc7.get 0 0 rfl rfl,c.st,fJ_belts _ _ _,hc7.get 0 2 rfl rfl,fun e=>q _ _ _ _ (.lost hb e) (Hc.pad hc7) k7,fun y r t e nt=>q _ _ _ _ (.put hb e t) (hc7.new nt _) (k7.new nt)⟩
end
end Oc
namespace Oc
open PySem L2
inductive Kd where
 | relay (n:Int)
 | sorter
 | thinner (n:Int)
 | joiner
 | sink
deriving DecidableEq
set_option genInjectivity false in
set_option genSizeOf false in
structure Cs where
 rl:Addr
 so:Addr
 th:Addr
 jn:Addr
 si:Addr
def Cs.of (cs:Cs):Kd→Addr
 | .relay _=>cs.rl
 | .sorter=>cs.so
 | .thinner _=>cs.th
 | .joiner=>cs.jn
 | .sink=>cs.si
structure CsOk (K:PySem.W.Frag) (cs:Cs):Prop where
 rl:RlC K cs.rl
 so:StC K cs.so
 th:ThC K cs.th
 jn:JnC K cs.jn
 si:StC K cs.si
set_option genInjectivity false in
set_option genSizeOf false in
structure SR where
 x:Addr
 dx:Addr
 p1:Addr
 p2:Addr
 d:Addr
 k:Kd
 ws:List Int
 bs:List Int
 ls:List Addr
 seen:Int
 rows:List (List Int)
def SR.flds (r:SR):List (Str × V):=match r.k with
 | .relay n=>fR r.p1 r.p2 n
 | .sorter=>fS r.p1 r.p2
 | .thinner n=>fT r.p1 r.p2 n r.seen
 | .joiner=>fJ r.p1 r.p2 r.d
 | .sink=>fS r.p1 r.p2
def SR.more (r:SR):List Cell:=match r.k with
 | .joiner=>(r.d,.dK (jk r.ws r.ls))::jrows r.ls r.rows
 | _=>[]
def srC (cs:Cs) (r:SR):List Cell:=(r.x,.ins (cs.of r.k) r.dx r.flds)::(r.p1,.tup (r.ws.map V.int))::(r.p2,.tup (r.bs.map V.int))::r.more
structure SOk (m:Nat) (r:SR):Prop where
 nd:r.ws.Nodup
 l1:r.ws.length≤100
 jn:r.k=.joiner→r.ls.length=r.ws.length∧r.rows.length=r.ws.length∧∀ row ∈ r.rows,row.length≤m
 th:∀ n,r.k=.thinner n→2≤n
theorem SR.flds_no (r:SR) {x:Str} (h0:¬ x="kept") (h1:¬ x="belts") (h2:¬ x="ways") (h3:¬ x="more") (h4:¬ x="seen") (h5:¬ x="every"):r.flds.lookup x=none:=by
 unfold SR.flds
 cases r.k with
 | relay n=>exact fR_no _ _ _ h3 h1 h2
 | sorter=>exact fS_no _ _ h1 h2
 | thinner n=>exact fT_no _ _ _ _ h4 h5 h1 h2
 | joiner=>exact fJ_no _ _ _ h0 h1 h2
 | sink=>exact fS_no _ _ h1 h2
def SR.add (r:SR) (j:Nat) (z:Int):List (List Int):=r.rows.set j (r.rows.getD j []++[z])
def SR.out (r:SR) (j:Nat) (z:Int):Option (Int × Int):=match r.k with
 | .relay n=>r.bs.head?.map fun b=>(b,z + n)
 | .sorter=>if r.bs=[] then none else (r.bs[(z % (r.bs.length:Int)).toNat]?).map fun b=>(b,z)
 | .thinner n=>if (r.seen + 1) % n=0 then none else r.bs.head?.map fun b=>(b,z)
 | .joiner=>if anyE (r.add j z) then none else r.bs.head?.map fun b=>(b,heads (r.add j z))
 | .sink=>none
def SR.nxt (r:SR) (j:Nat) (z:Int):SR:=match r.k with
 | .thinner _=>{ r with seen:=r.seen + 1 }
 | .joiner=>{ r with rows:=if anyE (r.add j z) then r.add j z else (r.add j z).map List.tail }
 | _=>r
theorem SR.nxt_x (r:SR) (j:Nat) (z:Int):(r.nxt j z).x=r.x∧(r.nxt j z).k=r.k∧(r.nxt j z).ws=r.ws∧(r.nxt j z).bs=r.bs:=by
 unfold SR.nxt
 cases e:r.k <;> simp [e]
theorem SOk.nxt {m:Nat} {r:SR} (h:SOk m r) (j:Nat) (z:Int):SOk (m + 1) (r.nxt j z):=by
 obtain⟨x,dx,p1,p2,d,k,ws,bs,ls,seen,rows⟩:=r
 cases k with
 | relay n=>exact⟨h.nd,h.l1,fun e=>(by cases e),fun n e=>h.th n e⟩
 | sorter=>exact⟨h.nd,h.l1,fun e=>(by cases e),fun n e=>by cases e⟩
 | sink=>exact⟨h.nd,h.l1,fun e=>(by cases e),fun n e=>by cases e⟩
 | thinner n=>exact⟨h.nd,h.l1,fun e=>(by cases e),fun n e=>h.th n e⟩
 | joiner =>
  refine⟨h.nd,h.l1,fun _=>?_,fun n e=>by cases e⟩
  obtain⟨h1,h2,h3⟩:=h.jn rfl
  have ha:∀ row ∈ SR.add ⟨x,dx,p1,p2,d,.joiner,ws,bs,ls,seen,rows⟩ j z,row.length≤m + 1:=fun row hr=>by
   rcases kW hr with e|e
   ·have:=h3 row e; omega
   ·rw[e,zM]
    have:(rows.getD j []).length≤m:=by
     rw[zE]
     cases hj:rows[j]? with
     | none=>exact zZ _
     | some r0=>exact h3 r0 (zK hj)
    show(rows.getD j []).length + 1≤_
    omega
  have el:(SR.add ⟨x,dx,p1,p2,d,.joiner,ws,bs,ls,seen,rows⟩ j z).length=ws.length:=by
   unfold SR.add
   rw[yY]
   exact h2
  have eN:(SR.nxt ⟨x,dx,p1,p2,d,.joiner,ws,bs,ls,seen,rows⟩ j z).rows=if anyE (SR.add ⟨x,dx,p1,p2,d,.joiner,ws,bs,ls,seen,rows⟩ j z) then SR.add ⟨x,dx,p1,p2,d,.joiner,ws,bs,ls,seen,rows⟩ j z else (SR.add ⟨x,dx,p1,p2,d,.joiner,ws,bs,ls,seen,rows⟩ j z).map List.tail:=rfl
  refine⟨h1,?_,?_⟩
  ·rw[eN]
   split
   ·exact el
   ·rw[zB]; exact el
  ·rw[eN]
   split
   ·exact ha
   ·intro row hr
    obtain⟨r0,h0,rfl⟩:=yH.mp hr
    have:=ha r0 h0
    rw[List.length_tail]
    omega
theorem SOk.le {m n:Nat} {r:SR} (h:SOk m r) (e:m≤n):SOk n r:=⟨h.nd,h.l1,fun k=>let ⟨a,b,d⟩:=h.jn k; ⟨a,b,fun row hr=>yA (d row hr) e⟩,h.th⟩
inductive Put:Option (Int × Int)→V→List Cell→Prop
 | no:Put none .non []
 | yes (b y:Int) (t:Addr):Put (some (b,y)) (.ref t) [(t,.tup [.int b,.int y])]
inductive spTk (cs:Cs) (k:Kd) (vs:List V) (H:Hp) (Q:VK) (x_3:XK):Prop where
 | mk (r:SR) (j m:Nat) (wv z:Int) (M:List (List Cell)) (h_0:vs=[.ref r.x,.int wv,.int z]) (h_1:r.k=k) (h_2:Hc H (srC cs r::M)) (h_3:SOk m r) (h_4:m≤90000) (h_5:r.ws[j]?=some wv) (h_6:∀(v:V) (ft:List Cell) (H':Hp),Put (r.out j z) v ft→Hc H' (ft::srC cs (r.nxt j z)::M)→Tk H H'→Q v H'):spTk cs k vs H Q x_3
section
variable {P:Program} {w:World} {K:PySem.W.Frag} {mg:Str→Option Value} {base:Heap}
def spNon:Sp:=fun vs H Q _=>vs.length=3∧Q .non H
theorem sc_stT:FnScope ["self","way","piece"] ["self","way","piece"] (defScope (inClass (top 8) 1)):=⟨rfl,rfl,rfl,by decide +kernel,rfl,by decide +kernel,by decide +kernel⟩
theorem ok_stT {f:Addr} {fd:FuncData} (F:Fun K "take" "Station.take" (inClass (top 8) 1) f fd):FnOk P w K mg base CX0 1 f fd ["self","way","piece"] spNon:=by
 have nd:=sc_stT.nd
 refine F.ok sc_stT (fun vs H Q E h=>h.1) (fun cdv A outer s H vs Q E hr h=>?_)
 refine⟨_,(@pss_one _ _ _ (@ps_ret _ _ _ _ pe_non)),?_⟩
 exact h.2
theorem take_all {cs:Cs} (G1:MethAt P w K mg base 2 cs.rl "take" ["self","way","piece"] (spRlT cs.rl)) (G2:MethAt P w K mg base 1 cs.so "take" ["self","way","piece"] (spSrT cs.so)) (G3:MethAt P w K mg base 2 cs.th "take" ["self","way","piece"] (spThT cs.th))
  (G4:MethAt P w K mg base 2 cs.jn "take" ["self","way","piece"] (spJnT cs.jn)) (G5:MethAt P w K mg base 1 cs.si "take" ["self","way","piece"] spNon) (k:Kd):MethAt P w K mg base 2 (cs.of k) "take" ["self","way","piece"] (spTk cs k):=by
 cases k with
 | relay n =>
  refine G1.imp fun vs H Q E h=>?_
  obtain⟨⟨x,dx,p1,p2,d,k,ws,bs,ls,seen,rows⟩,j,m,wv,z,M,rfl,e,hc,ok,hm,hw,q⟩:=h
  cases e
  refine⟨x,dx,p1,p2,n,z,_,bs.map V.int,rfl,hc.get 0 0 rfl rfl,hc.get 0 2 rfl rfl,fun eb=>?_,fun y rr t eb nt=>?_⟩
  ·have:bs=[]:=j5.mp eb
   subst this
   exact q _ _ _ .no hc.pad (Tk.refl _)
  ·cases bs with
   | nil=>cases eb
   | cons b bs =>
    cases eb
    exact q _ _ _ (.yes _ _ t) (hc.new nt _) ((Tk.refl _).new nt)
 | sorter =>
  refine(G2.mono (by decide)).imp fun vs H Q E h=>?_
  obtain⟨⟨x,dx,p1,p2,d,k,ws,bs,ls,seen,rows⟩,j,m,wv,z,M,rfl,e,hc,ok,hm,hw,q⟩:=h
  cases e
  refine⟨x,dx,p1,p2,z,_,bs,rfl,hc.get 0 0 rfl rfl,hc.get 0 2 rfl rfl,fun eb=>?_,fun y t eb hy nt=>?_⟩
  ·subst eb
   exact q _ _ _ .no hc.pad (Tk.refl _)
  ·have eo:SR.out ⟨x,dx,p1,p2,d,.sorter,ws,bs,ls,seen,rows⟩ j z=some (y,z):=by
    show(if bs=[] then none else (bs[(z % (bs.length:Int)).toNat]?).map fun b=>(b,z))=_
    rw[if_neg eb,hy]
    rfl
   exact q _ _ _ (by rw[eo]; exact .yes _ _ t) (hc.new nt _) ((Tk.refl _).new nt)
 | thinner n =>
  refine G3.imp fun vs H Q E h=>?_
  obtain⟨⟨x,dx,p1,p2,d,k,ws,bs,ls,seen,rows⟩,j,m,wv,z,M,rfl,e,hc,ok,hm,hw,q⟩:=h
  cases e
  have hput:=hc.put 0 0 rfl rfl (.ins cs.th dx (fT p1 p2 n (seen + 1)))
  have kput:Tk H (upd H x (.ins cs.th dx (fT p1 p2 n (seen + 1)))):=(Tk.refl H).put (hc.get 0 0 rfl rfl) (fun z=>z)
  refine⟨x,dx,p1,p2,n,seen,z,_,bs.map V.int,rfl,hc.get 0 0 rfl rfl,hc.get 0 2 rfl rfl,ok.th n rfl,fun hn=>?_,fun y rr t hn eb nt=>?_⟩
  ·have eo:SR.out ⟨x,dx,p1,p2,d,.thinner n,ws,bs,ls,seen,rows⟩ j z=none:=by
    show(if (seen + 1) % n=0 then none else bs.head?.map fun b=>(b,z))=_
    rcases hn with h|h
    ·rw[if_pos h]
    ·have:bs=[]:=j5.mp h
     rw[this]
     split <;> rfl
   exact q _ _ _ (by rw[eo]; exact .no) hput.pad kput
  ·cases bs with
   | nil=>cases eb
   | cons b bs =>
    cases eb
    have eo:SR.out ⟨x,dx,p1,p2,d,.thinner n,ws,b::bs,ls,seen,rows⟩ j z=some (b,z):=by
     show(if (seen + 1) % n=0 then none else (b::bs).head?.map fun b=>(b,z))=_
     rw[if_neg hn]
     rfl
    have nt':(upd H x (.ins cs.th dx (fT p1 p2 n (seen + 1)))) t=none:=by
     rw[upd_ne (fun z=>by have:=hc.get 0 0 rfl rfl; rw[← z,nt] at this; cases this)]
     exact nt
    exact q _ _ _ (by rw[eo]; exact .yes _ _ t) (hput.new nt' _) (kput.new nt')
 | joiner =>
  refine G4.imp fun vs H Q E h=>?_
  obtain⟨⟨x,dx,p1,p2,d,k,ws,bs,ls,seen,rows⟩,j,m,wv,z,M,rfl,e,hc,ok,hm,hw,q⟩:=h
  cases e
  obtain⟨h1,h2,h3⟩:=ok.jn rfl
  have hjl:j < ws.length:=(zA.mp hw).1
  have h2':rows.length=ws.length:=h2
  obtain⟨row,hrow⟩:∃ row,rows[j]?=some row:=⟨rows[j]'(by omega),zC _⟩
  have hc':Hc H (jobj cs.jn dx x p1 p2 d ws ls (bs.map V.int)::jrows ls rows::M):=Hc.split (a:=jobj cs.jn dx x p1 p2 d ws ls (bs.map V.int)) (b:=jrows ls rows) hc
  have ea:SR.add ⟨x,dx,p1,p2,d,.joiner,ws,bs,ls,seen,rows⟩ j z=rows.set j (row++[z]):=by
   show rows.set j (rows.getD j []++[z])=_
   rw[zE,hrow]
   rfl
  refine⟨x,dx,p1,p2,d,wv,z,ws,ls,bs.map V.int,j,rows,row,M,rfl,hc',ok.nd,ok.l1,h1,h2,hw,hrow,by have:=h3 row (zK hrow); omega,fun v ft rows' H' out hc2 k2=>?_⟩
  rw[← ea] at out
  have hj:∀ {rows'},(SR.nxt ⟨x,dx,p1,p2,d,.joiner,ws,bs,ls,seen,rows⟩ j z).rows=rows'→Hc H' (ft::jobj cs.jn dx x p1 p2 d ws ls (bs.map V.int)::jrows ls rows'::M)→Hc H' (ft::srC cs (SR.nxt ⟨x,dx,p1,p2,d,.joiner,ws,bs,ls,seen,rows⟩ j z)::M):=fun {rows'} e h=>by
   subst e
   exact Hc.swap (Hc.join (a:=jobj cs.jn dx x p1 p2 d ws ls (bs.map V.int)) (b:=jrows ls _) ((h.pick 2 rfl).pick 2 rfl))
  have eN:(SR.nxt ⟨x,dx,p1,p2,d,.joiner,ws,bs,ls,seen,rows⟩ j z).rows=if anyE (SR.add ⟨x,dx,p1,p2,d,.joiner,ws,bs,ls,seen,rows⟩ j z) then (SR.add ⟨x,dx,p1,p2,d,.joiner,ws,bs,ls,seen,rows⟩ j z) else (SR.add ⟨x,dx,p1,p2,d,.joiner,ws,bs,ls,seen,rows⟩ j z).map List.tail:=rfl
  have eO:SR.out ⟨x,dx,p1,p2,d,.joiner,ws,bs,ls,seen,rows⟩ j z=if anyE (SR.add ⟨x,dx,p1,p2,d,.joiner,ws,bs,ls,seen,rows⟩ j z) then none else bs.head?.map fun b=>(b,heads (SR.add ⟨x,dx,p1,p2,d,.joiner,ws,bs,ls,seen,rows⟩ j z)):=rfl
  cases out with
  | wait h =>
   refine q _ _ _ ?_ (hj (by rw[eN,if_pos h]) hc2) k2
   rw[eO,if_pos h]
   exact .no
  | lost h e =>
   refine q _ _ _ ?_ (hj (by rw[eN,h]; rfl) hc2) k2
   have:bs=[]:=j5.mp e
   rw[eO,h,this]
   exact .no
  | put h e t =>
   cases bs with
   | nil=>cases e
   | cons b bs =>
    cases e
    refine q _ _ _ ?_ (hj (by rw[eN,h]; rfl) hc2) k2
    rw[eO,h]
    exact .yes _ _ t
 | sink =>
  refine(G5.mono (by decide)).imp fun vs H Q E h=>?_
  obtain⟨⟨x,dx,p1,p2,d,k,ws,bs,ls,seen,rows⟩,j,m,wv,z,M,rfl,e,hc,ok,hm,hw,q⟩:=h
  cases e
  exact⟨rfl,q _ _ _ .no hc.pad (Tk.refl _)⟩
end
end Oc
namespace Oc
open PySem L2
theorem idx_ge {α:Type} (f:α→Bool):∀(l:List α) (k:Nat) (x:Int),x ∈ idx f k l→(k:Int)≤x
 | [],_,_,h=>absurd h zW
 | y::l,k,x,h=>by
  unfold idx at h
  by_cases hf:f y=true
  ·rw[if_pos hf] at h
   rcases zT.mp h with e|e
   ·omega
   ·have:=idx_ge f l (k + 1) x e
    omega
  ·rw[if_neg hf] at h
   have:=idx_ge f l (k + 1) x h
   omega
theorem idx_pw {α:Type} (f:α→Bool):∀(l:List α) (k:Nat),(idx f k l).Pairwise (· < ·)
 | [],_=>List.Pairwise.nil
 | y::l,k=>by
  unfold idx
  by_cases hf:f y=true
  ·rw[if_pos hf]
   refine jJ.mpr ⟨fun x hx=>?_,idx_pw f l (k + 1)⟩
   have:=idx_ge f l (k + 1) x hx
   omega
  ·rw[if_neg hf]
   exact idx_pw f l (k + 1)
theorem nd_lt {l:List Int} (h:l.Pairwise (· < ·)):l.Nodup:=h.imp fun h e=>by omega
theorem Wk.wy_pw (W:Wk) (s:Int):(W.wy s).Pairwise (· < ·):=by
 unfold Wk.wy
 split
 ·refine jJ.mpr ⟨fun x hx=>?_,idx_pw _ _ _⟩
  have:=idx_ge _ _ _ _ hx
  omega
 ·exact idx_pw _ _ _
theorem Wk.wy_nd (W:Wk) (s:Int):(W.wy s).Nodup:=nd_lt (W.wy_pw s)
theorem Wk.wy_len {W:Wk} (ok:W.Ok) (s:Int):(W.wy s).length≤13:=by
 have h1:=idx_len (fun(t:Tri)=>t.2.1 == s) W.be 0
 have h2:=ok.b12
 unfold Wk.wy
 rw[zM]
 split
 ·show 1 + _≤13; omega
 ·show 0 + _≤13; omega
theorem Wk.lv_len {W:Wk} (ok:W.Ok) (s:Int):(W.lv s).length≤12:=by
 have h1:=idx_len (fun(t:Tri)=>t.1 == s) W.be 0
 have h2:=ok.b12
 unfold Wk.lv
 omega
def kdOf (s:Sta):Kd:=if s.1="relay" then .relay (s.2.getD 0) else if s.1="sorter" then .sorter else if s.1="thinner" then .thinner (s.2.getD 0) else if s.1="joiner" then .joiner else .sink
theorem kd_relay (n:Option Int):kdOf ("relay",n)=.relay (n.getD 0):=by unfold kdOf; rw[if_pos rfl]
theorem kd_sorter (n:Option Int):kdOf ("sorter",n)=.sorter:=by
 unfold kdOf
 rw[if_neg (show ¬ (("sorter":Str)="relay") by decide +kernel),if_pos rfl]
theorem kd_thinner (n:Option Int):kdOf ("thinner",n)=.thinner (n.getD 0):=by
 unfold kdOf
 rw[if_neg (show ¬ (("thinner":Str)="relay") by decide +kernel),if_neg (show ¬ (("thinner":Str)="sorter") by decide +kernel),if_pos rfl]
theorem kd_joiner (n:Option Int):kdOf ("joiner",n)=.joiner:=by
 unfold kdOf
 rw[if_neg (show ¬ (("joiner":Str)="relay") by decide +kernel),if_neg (show ¬ (("joiner":Str)="sorter") by decide +kernel),if_neg (show ¬ (("joiner":Str)="thinner") by decide +kernel),if_pos rfl]
theorem kd_sink (n:Option Int):kdOf ("sink",n)=.sink:=by
 unfold kdOf
 rw[if_neg (show ¬ (("sink":Str)="relay") by decide +kernel),if_neg (show ¬ (("sink":Str)="sorter") by decide +kernel),if_neg (show ¬ (("sink":Str)="thinner") by decide +kernel),if_neg (show ¬ (("sink":Str)="joiner") by decide +kernel)]
structure Made (W:Wk) (s:Nat) (r:SR):Prop where
 k:∃ st,W.st[s]?=some st∧r.k=kdOf st
 ws:r.ws=W.wy s
 bs:r.bs=W.lv s
 seen:r.seen=0
 rows:r.rows=if r.k=.joiner then (W.wy s).map (fun _=>[]) else []
 ok:SOk 0 r
inductive spSides (vs:List V) (H:Hp) (Q:VK) (x_3:XK):Prop where
 | mk (w:Addr) (W:Wk) (s:Int) (M:List (List Cell)) (h_0:vs=[.ref w,.int s]) (h_1:WkAt H w W) (h_2:W.Ok) (h_3:Hc H M) (h_4:∀(t p1 p2:Addr) (H':Hp),Same H H'→Hc H' ([(t,.tup [.ref p1,.ref p2]),(p1,.lst ((W.wy s).map V.int)),(p2,.lst ((W.lv s).map V.int))]::M)→Q (.ref t) H'):spSides vs H Q x_3
inductive spSo (cs:Cs) (vs:List V) (H:Hp) (Q:VK) (x_3:XK):Prop where
 | mk (w:Addr) (W:Wk) (s:Nat) (M:List (List Cell)) (h_0:vs=[.ref w,.int s]) (h_1:WkAt H w W) (h_2:W.Ok) (h_3:s < W.st.length) (h_4:Hc H M) (h_5:∀(r:SR) (H':Hp),Same H H'→Hc H' (srC cs r::M)→Made W s r→Q (.ref r.x) H'):spSo cs vs H Q x_3
section
variable {P:Program} {w:World} {K:PySem.W.Frag} {mg:Str→Option Value} {base:Heap}
theorem sc_sides:FnScope ["works","station"] ["works","station"] (defScope (top 6)):=⟨rfl,rfl,rfl,by decide +kernel,rfl,by decide +kernel,by decide +kernel⟩
theorem ok_sides {f:Addr} {fd:FuncData} (F:Fun K "sides" "sides" (top 6) f fd) (G_ways:FnAt P w K mg base 1 "ways" ["works","station"] spWays) (G_leaving:FnAt P w K mg base 1 "leaving" ["works","station"] spLeav) :
  FnOk P w K mg base CX0 2 f fd ["works","station"] spSides:=by
 have nd:=sc_sides.nd
 refine F.ok sc_sides (fun vs H Q E h=>?_) (fun cdv A outer s H vs Q E hr h=>?_)
 ·obtain⟨w,W,z,M,rfl,_⟩:=h
  rfl
 ·refine abb fun Gz hGz=>?_
  obtain⟨w,W,z,M,rfl,hw,ok,hc,q⟩:=h
  refine hGz ?_
  refine⟨_,(@pss_one _ _ _ (@ps_ret _ _ _ _ (@pe_tup _ _ _ _ _ (@pa_cons _ _ _ _ _ (pe_fn G_ways (hr.mono (by decide)) (by rfl) (@pa_cons _ _ _ _ _ (pv 0) (@pa_cons _ _ _ _ _ (pv 1) pa_nil (by rfl)) (by rfl))) (@pa_cons _ _ _ _ _ (pe_fn G_leaving (hr.mono (by decide)) (by rfl) (@pa_cons _ _ _ _ _ (pv 0) (@pa_cons _ _ _ _ _ (pv 1) pa_nil (by rfl)) (by rfl))) pa_nil (by rfl)) (by rfl))))),?_⟩
  first|(refine tvC rfl ?_)|(refine tvO rfl ?_)|(refine tvK rfl ?_)|(refine tv rfl ?_)|(refine⟨_,rfl,?_⟩)
  first|(ac_rfl; refine⟨w,W,z,rfl,hw,ok,fun p1 H1 n1 h1 s1=>⟨_,rfl,_,rfl,w,W,z,rfl,hw.same s1,ok,fun p2 H2 n2 h2 s2=>⟨(by show 2≤sizeLine; decide),fun t nt=>?_⟩⟩⟩)|(refine⟨_,rfl,w,W,z,rfl,hw,ok,fun p1 H1 n1 h1 s1=>⟨_,rfl,_,rfl,w,W,z,rfl,hw.same s1,ok,fun p2 H2 n2 h2 s2=>⟨(by show 2≤sizeLine; decide),fun t nt=>?_⟩⟩⟩)
  have hc1:=hc.newS n1 h1 s1
  have hc2:=hc1.newS n2 h2 s2
  have hc3:Hc _ ([(t,.tup [.ref p1,.ref p2])]::[(p2,.lst ((W.lv z).map V.int))]::[(p1,.lst ((W.wy z).map V.int))]::M):=hc2.new nt _
  have hc4:Hc _ ([(t,.tup [.ref p1,.ref p2])]::[(p1,.lst ((W.wy z).map V.int))]::[(p2,.lst ((W.lv z).map V.int))]::M):=(hc3.pick 2 rfl).pick 1 rfl
  exact q t p1 p2 _ ((s1.trans s2).trans (Same.new nt)) hc4.join.join
theorem sc_so:FnScope ["works","station","told","kind","around"] ["works","station"] (defScope (top 14)):=⟨rfl,rfl,rfl,by decide +kernel,rfl,by decide +kernel,by decide +kernel⟩
theorem ok_so {f:Addr} {fd:FuncData} {cs:Cs} (F:Fun K "station_of" "station_of" (top 14) f fd) (c:CsOk K cs) (G_sides:FnAt P w K mg base 2 "sides" ["works","station"] spSides)
  (M_Relay:MkAt P w K mg base 2 "Relay" cs.rl ["self","ways","belts","more"] (spRlI K)) (M_Sorter:MkAt P w K mg base 1 "Sorter" cs.so ["self","ways","belts"] (spStI K)) (M_Thinner:MkAt P w K mg base 2 "Thinner" cs.th ["self","ways","belts","every"] (spThI K))
  (M_Joiner:MkAt P w K mg base 2 "Joiner" cs.jn ["self","ways","belts"] (spJnI K)) (M_Sink:MkAt P w K mg base 1 "Sink" cs.si ["self","ways","belts"] (spStI K)) :
  FnOk P w K mg base CX0 4 f fd ["works","station"] (spSo cs):=by
 have nd:=sc_so.nd
 refine F.ok sc_so (fun vs H Q E h=>?_) (fun cdv A outer s H vs Q E hr h=>?_)
 ·obtain⟨w,W,z,M,rfl,_⟩:=h
  rfl
 ·refine abb fun Gz hGz=>?_
  obtain⟨w,W,z,M,rfl,hw,ok,hz,hc,q⟩:=h
  refine hGz ?_
  refine⟨_,(@pss_cons _ _ _ _ _ (ps_set (i:=2) nd rfl (by first|exact Or.inl rfl|exact Or.inr rfl) (@pe_ix _ _ _ _ _ _ _ (ix_listK (K:=K) rfl) (@pe_ix _ _ _ _ _ _ _ (ix_tupK (K:=K) rfl) (pv 0) pe_int (fun _ _=>rfl)) (pv 1) (fun _ _=>rfl)))
   (@pss_cons _ _ _ _ _ (ps_set (i:=3) nd rfl (by first|exact Or.inl rfl|exact Or.inr rfl) (@pe_ix _ _ _ _ _ _ _ (ix_tupK (K:=K) rfl) (pv 2) pe_int (fun _ _=>rfl)))
   (@pss_cons _ _ _ _ _ (ps_set (i:=4) nd rfl (by first|exact Or.inl rfl|exact Or.inr rfl) (pe_fn G_sides (hr.mono (by decide)) (by rfl) (@pa_cons _ _ _ _ _ (pv 0) (@pa_cons _ _ _ _ _ (pv 1) pa_nil (by rfl)) (by rfl))))
   (@pss_cons _ _ _ _ _ (ps_if (pt_cmpR op_eq (pv 3) pe_str (nomark _)) (@pss_one _ _ _ (@ps_ret _ _ _ _ (pe_mk M_Relay (hr.mono (by decide)) (by rfl) (@pa_cons _ _ _ _ _ (@pe_ix _ _ _ _ _ _ _ (ix_tupK (K:=K) rfl) (pv 4) pe_int (fun _ _=>rfl)) (@pa_cons _ _ _ _ _ (@pe_ix _ _ _ _ _ _ _ (ix_tupK (K:=K) rfl) (pv 4) pe_int (fun _ _=>rfl)) (@pa_cons _ _ _ _ _ (@pe_ix _ _ _ _ _ _ _ (ix_tupK (K:=K) rfl) (pv 2) pe_int (fun _ _=>rfl)) pa_nil (by rfl)) (by rfl)) (by rfl))))) pss_nil)
   (@pss_cons _ _ _ _ _ (ps_if (pt_cmpR op_eq (pv 3) pe_str (nomark _)) (@pss_one _ _ _ (@ps_ret _ _ _ _ (pe_mk M_Sorter (hr.mono (by decide)) (by rfl) (@pa_cons _ _ _ _ _ (@pe_ix _ _ _ _ _ _ _ (ix_tupK (K:=K) rfl) (pv 4) pe_int (fun _ _=>rfl)) (@pa_cons _ _ _ _ _ (@pe_ix _ _ _ _ _ _ _ (ix_tupK (K:=K) rfl) (pv 4) pe_int (fun _ _=>rfl)) pa_nil (by rfl)) (by rfl))))) pss_nil)
   (@pss_cons _ _ _ _ _ (ps_if (pt_cmpR op_eq (pv 3) pe_str (nomark _)) (@pss_one _ _ _ (@ps_ret _ _ _ _ (pe_mk M_Thinner (hr.mono (by decide)) (by rfl) (@pa_cons _ _ _ _ _ (@pe_ix _ _ _ _ _ _ _ (ix_tupK (K:=K) rfl) (pv 4) pe_int (fun _ _=>rfl)) (@pa_cons _ _ _ _ _ (@pe_ix _ _ _ _ _ _ _ (ix_tupK (K:=K) rfl) (pv 4) pe_int (fun _ _=>rfl)) (@pa_cons _ _ _ _ _ (@pe_ix _ _ _ _ _ _ _ (ix_tupK (K:=K) rfl) (pv 2) pe_int (fun _ _=>rfl)) pa_nil (by rfl)) (by rfl)) (by rfl))))) pss_nil)
   (@pss_cons _ _ _ _ _ (ps_if (pt_cmpR op_eq (pv 3) pe_str (nomark _)) (@pss_one _ _ _ (@ps_ret _ _ _ _ (pe_mk M_Joiner (hr.mono (by decide)) (by rfl) (@pa_cons _ _ _ _ _ (@pe_ix _ _ _ _ _ _ _ (ix_tupK (K:=K) rfl) (pv 4) pe_int (fun _ _=>rfl)) (@pa_cons _ _ _ _ _ (@pe_ix _ _ _ _ _ _ _ (ix_tupK (K:=K) rfl) (pv 4) pe_int (fun _ _=>rfl)) pa_nil (by rfl)) (by rfl))))) pss_nil)
   (@pss_one _ _ _ (@ps_ret _ _ _ _ (pe_mk M_Sink (hr.mono (by decide)) (by rfl) (@pa_cons _ _ _ _ _ (@pe_ix _ _ _ _ _ _ _ (ix_tupK (K:=K) rfl) (pv 4) pe_int (fun _ _=>rfl)) (@pa_cons _ _ _ _ _ (@pe_ix _ _ _ _ _ _ _ (ix_tupK (K:=K) rfl) (pv 4) pe_int (fun _ _=>rfl)) pa_nil (by rfl)) (by rfl)))))))))))),?_⟩
  refine abb fun Gz hGz=>?_
  obtain⟨sa,ba,fa,xs,ys,zs,h1,h2⟩:=id hw.ex
  have ls:=h2.ps.length
  obtain⟨xv,hx⟩:∃ x,xs[z]?=some x:=⟨xs[z]'(by omega),zC _⟩
  obtain⟨st,hst,hp⟩:=h2.ps.gt hx
  obtain⟨ta,rfl,hta⟩:=hp
  refine hGz ?_
  have okst:=ok.sta st (zK hst)
  have l13:=W.wy_len ok z
  first|(ac_rfl; refine(jxTc (j:=0) h1 rfl ⟨_,rfl,(jxL h2.hs hx ?_)⟩))|(refine⟨_,rfl,(jxTc (j:=0) h1 rfl ⟨_,rfl,(jxL h2.hs hx ?_)⟩)⟩)
  have mk:∀ {H1 H2:Hp} {x dx:Addr} {o:HO},Same H H1→H1 x=none→H1 dx=none→Keep [x] (upd (upd H1 dx (.own x)) x o) H2→Same H H2:=fun s1 nx ndx kp b o e =>
   kp b o (((Same.new ndx).upd nx) b o (s1 b o e)) (by rw[zR]; exact ne_of_none (s1 b o e) nx)
  rcases okst with ⟨n,rfl,_⟩|rfl|⟨n,rfl,hn,_⟩|rfl|rfl
  ·first|(ac_rfl; refine(jxTc (j:=0) hta rfl ⟨_,rfl,_,rfl,w,W,z,M,rfl,hw,ok,hc,fun t q1 q2 H1 s1 hc1=>?_⟩))|(refine⟨_,rfl,(jxTc (j:=0) hta rfl ⟨_,rfl,_,rfl,w,W,z,M,rfl,hw,ok,hc,fun t q1 q2 H1 s1 hc1=>?_⟩)⟩)
   first|(ac_rfl; refine⟨rfl,_,rfl,?_⟩)|(refine⟨_,rfl,rfl,_,rfl,?_⟩)
   rw[show decide (V.str "relay"=V.str "relay")=true from by decide +kernel]
   refine iteT ⟨_,rfl,(jxTc (j:=0) (hc1.get 0 0 rfl rfl) rfl ⟨_,rfl,(jxTc (j:=1) (hc1.get 0 0 rfl rfl) rfl ⟨_,rfl,(jxTc (j:=1) (s1 _ _ hta) rfl (fun x dx nx ndx nex=>?_))⟩)⟩)⟩
   have hcF:=(hc1.new ndx (.own x)).new (p:=x) (by rw[upd_ne (Ne.symm nex)]; exact nx) (.ins cs.rl dx [])
   refine⟨x,q1,q2,cs.rl,dx,_,_,n,_,rfl,hcF,c.rl,SqL.of (hcF.get 2 1 rfl rfl),SqL.of (hcF.get 2 2 rfl rfl),ne_of_none (hc1.get 0 1 rfl rfl) nx,ne_of_none (hc1.get 0 2 rfl rfl) nx,fun p1 p2 H' kp hc'=>⟨rfl,?_⟩⟩
   exact q ⟨x,dx,p1,p2,0,.relay n,W.wy z,W.lv z,[],0,[]⟩ H' (mk s1 nx ndx kp) (((hc'.pick 1 rfl).tl.pick 1 rfl).tl) ⟨⟨_,hst,by rw[kd_relay]; rfl⟩,rfl,rfl,rfl,rfl,⟨W.wy_nd z,by show(W.wy z).length≤100; omega,fun e=>(by cases e),fun n e=>by cases e⟩⟩
  ·first|(ac_rfl; refine(jxTc (j:=0) hta rfl ⟨_,rfl,_,rfl,w,W,z,M,rfl,hw,ok,hc,fun t q1 q2 H1 s1 hc1=>?_⟩))|(refine⟨_,rfl,(jxTc (j:=0) hta rfl ⟨_,rfl,_,rfl,w,W,z,M,rfl,hw,ok,hc,fun t q1 q2 H1 s1 hc1=>?_⟩)⟩)
   first|(ac_rfl; refine⟨rfl,_,rfl,?_⟩)|(refine⟨_,rfl,rfl,_,rfl,?_⟩)
   rw[show decide (V.str "sorter"=V.str "relay")=false from by decide +kernel]
   refine iteF ⟨_,rfl,rfl,_,rfl,?_⟩
   rw[show decide (V.str "sorter"=V.str "sorter")=true from by decide +kernel]
   refine iteT ⟨_,rfl,(jxTc (j:=0) (hc1.get 0 0 rfl rfl) rfl ⟨_,rfl,(jxTc (j:=1) (hc1.get 0 0 rfl rfl) rfl (fun x dx nx ndx nex=>?_))⟩)⟩
   have hcF:=(hc1.new ndx (.own x)).new (p:=x) (by rw[upd_ne (Ne.symm nex)]; exact nx) (.ins cs.so dx [])
   refine⟨x,q1,q2,cs.so,dx,_,_,_,rfl,hcF,c.so,SqL.of (hcF.get 2 1 rfl rfl),SqL.of (hcF.get 2 2 rfl rfl),ne_of_none (hc1.get 0 1 rfl rfl) nx,ne_of_none (hc1.get 0 2 rfl rfl) nx,fun p1 p2 H' kp hc'=>⟨rfl,?_⟩⟩
   exact q ⟨x,dx,p1,p2,0,.sorter,W.wy z,W.lv z,[],0,[]⟩ H' (mk s1 nx ndx kp) (((hc'.pick 1 rfl).tl.pick 1 rfl).tl) ⟨⟨_,hst,by rw[kd_sorter]⟩,rfl,rfl,rfl,rfl,⟨W.wy_nd z,by show(W.wy z).length≤100; omega,fun e=>(by cases e),fun n e=>by cases e⟩⟩
  ·first|(ac_rfl; refine(jxTc (j:=0) hta rfl ⟨_,rfl,_,rfl,w,W,z,M,rfl,hw,ok,hc,fun t q1 q2 H1 s1 hc1=>?_⟩))|(refine⟨_,rfl,(jxTc (j:=0) hta rfl ⟨_,rfl,_,rfl,w,W,z,M,rfl,hw,ok,hc,fun t q1 q2 H1 s1 hc1=>?_⟩)⟩)
   first|(ac_rfl; refine⟨rfl,_,rfl,?_⟩)|(refine⟨_,rfl,rfl,_,rfl,?_⟩)
   rw[show decide (V.str "thinner"=V.str "relay")=false from by decide +kernel]
   refine iteF ⟨_,rfl,rfl,_,rfl,?_⟩
   rw[show decide (V.str "thinner"=V.str "sorter")=false from by decide +kernel]
   refine iteF ⟨_,rfl,rfl,_,rfl,?_⟩
   rw[show decide (V.str "thinner"=V.str "thinner")=true from by decide +kernel]
   refine iteT ⟨_,rfl,(jxTc (j:=0) (hc1.get 0 0 rfl rfl) rfl ⟨_,rfl,(jxTc (j:=1) (hc1.get 0 0 rfl rfl) rfl ⟨_,rfl,(jxTc (j:=1) (s1 _ _ hta) rfl (fun x dx nx ndx nex=>?_))⟩)⟩)⟩
   have hcF:=(hc1.new ndx (.own x)).new (p:=x) (by rw[upd_ne (Ne.symm nex)]; exact nx) (.ins cs.th dx [])
   refine⟨x,q1,q2,cs.th,dx,_,_,n,_,rfl,hcF,c.th,SqL.of (hcF.get 2 1 rfl rfl),SqL.of (hcF.get 2 2 rfl rfl),ne_of_none (hc1.get 0 1 rfl rfl) nx,ne_of_none (hc1.get 0 2 rfl rfl) nx,fun p1 p2 H' kp hc'=>⟨rfl,?_⟩⟩
   exact q ⟨x,dx,p1,p2,0,.thinner n,W.wy z,W.lv z,[],0,[]⟩ H' (mk s1 nx ndx kp) (((hc'.pick 1 rfl).tl.pick 1 rfl).tl) ⟨⟨_,hst,by rw[kd_thinner]; rfl⟩,rfl,rfl,rfl,rfl,⟨W.wy_nd z,by show(W.wy z).length≤100; omega,fun e=>(by cases e),fun n' e=>by cases e; exact hn⟩⟩
  ·first|(ac_rfl; refine(jxTc (j:=0) hta rfl ⟨_,rfl,_,rfl,w,W,z,M,rfl,hw,ok,hc,fun t q1 q2 H1 s1 hc1=>?_⟩))|(refine⟨_,rfl,(jxTc (j:=0) hta rfl ⟨_,rfl,_,rfl,w,W,z,M,rfl,hw,ok,hc,fun t q1 q2 H1 s1 hc1=>?_⟩)⟩)
   first|(ac_rfl; refine⟨rfl,_,rfl,?_⟩)|(refine⟨_,rfl,rfl,_,rfl,?_⟩)
   rw[show decide (V.str "joiner"=V.str "relay")=false from by decide +kernel]
   refine iteF ⟨_,rfl,rfl,_,rfl,?_⟩
   rw[show decide (V.str "joiner"=V.str "sorter")=false from by decide +kernel]
   refine iteF ⟨_,rfl,rfl,_,rfl,?_⟩
   rw[show decide (V.str "joiner"=V.str "thinner")=false from by decide +kernel]
   refine iteF ⟨_,rfl,rfl,_,rfl,?_⟩
   rw[show decide (V.str "joiner"=V.str "joiner")=true from by decide +kernel]
   refine iteT ⟨_,rfl,(jxTc (j:=0) (hc1.get 0 0 rfl rfl) rfl ⟨_,rfl,(jxTc (j:=1) (hc1.get 0 0 rfl rfl) rfl (fun x dx nx ndx nex=>?_))⟩)⟩
   have hcF:=(hc1.new ndx (.own x)).new (p:=x) (by rw[upd_ne (Ne.symm nex)]; exact nx) (.ins cs.jn dx [])
   refine⟨x,q1,q2,cs.jn,dx,_,_,_,rfl,hcF,c.jn,SqL.of (hcF.get 2 1 rfl rfl),SqL.of (hcF.get 2 2 rfl rfl),ne_of_none (hc1.get 0 1 rfl rfl) nx,ne_of_none (hc1.get 0 2 rfl rfl) nx,W.wy_nd z,by omega,fun p1 p2 d ls' H' el kp hc'=>⟨rfl,?_⟩⟩
   have hc'':=Hc.join (((hc'.pick 2 rfl).tl.pick 2 rfl).tl)
   have hc3:Hc H' (srC cs ⟨x,dx,p1,p2,d,.joiner,W.wy z,W.lv z,ls',0,(W.wy z).map fun _=>[]⟩::M):=Hc.join (a:=jobj cs.jn dx x p1 p2 d (W.wy z) ls' ((W.lv z).map V.int)) (b:=jrows ls' ((W.wy z).map fun _=>[])) (((((hc'.pick 2 rfl).tl.pick 2 rfl).tl).pick 1 rfl).pick 1 rfl)
   refine q ⟨x,dx,p1,p2,d,.joiner,W.wy z,W.lv z,ls',0,(W.wy z).map fun _=>[]⟩ H' (mk s1 nx ndx kp) hc3 ⟨⟨_,hst,by rw[kd_joiner]⟩,rfl,rfl,rfl,by rw[if_pos rfl],⟨W.wy_nd z,by show(W.wy z).length≤100; omega,fun _=>⟨el,by rw[zB],fun row hr=>?_⟩,fun n e=>by cases e⟩⟩
   refine abb fun Gz hGz=>?_
   obtain⟨_,_,rfl⟩:=yH.mp hr
   refine hGz ?_
   exact zG _
  ·first|(ac_rfl; refine(jxTc (j:=0) hta rfl ⟨_,rfl,_,rfl,w,W,z,M,rfl,hw,ok,hc,fun t q1 q2 H1 s1 hc1=>?_⟩))|(refine⟨_,rfl,(jxTc (j:=0) hta rfl ⟨_,rfl,_,rfl,w,W,z,M,rfl,hw,ok,hc,fun t q1 q2 H1 s1 hc1=>?_⟩)⟩)
   first|(ac_rfl; refine⟨rfl,_,rfl,?_⟩)|(refine⟨_,rfl,rfl,_,rfl,?_⟩)
   rw[show decide (V.str "sink"=V.str "relay")=false from by decide +kernel]
   refine iteF ⟨_,rfl,rfl,_,rfl,?_⟩
   rw[show decide (V.str "sink"=V.str "sorter")=false from by decide +kernel]
   refine iteF ⟨_,rfl,rfl,_,rfl,?_⟩
   rw[show decide (V.str "sink"=V.str "thinner")=false from by decide +kernel]
   refine iteF ⟨_,rfl,rfl,_,rfl,?_⟩
   rw[show decide (V.str "sink"=V.str "joiner")=false from by decide +kernel]
   refine iteF ⟨_,rfl,(jxTc (j:=0) (hc1.get 0 0 rfl rfl) rfl ⟨_,rfl,(jxTc (j:=1) (hc1.get 0 0 rfl rfl) rfl (fun x dx nx ndx nex=>?_))⟩)⟩
   have hcF:=(hc1.new ndx (.own x)).new (p:=x) (by rw[upd_ne (Ne.symm nex)]; exact nx) (.ins cs.si dx [])
   refine⟨x,q1,q2,cs.si,dx,_,_,_,rfl,hcF,c.si,SqL.of (hcF.get 2 1 rfl rfl),SqL.of (hcF.get 2 2 rfl rfl),ne_of_none (hc1.get 0 1 rfl rfl) nx,ne_of_none (hc1.get 0 2 rfl rfl) nx,fun p1 p2 H' kp hc'=>⟨rfl,?_⟩⟩
   exact q ⟨x,dx,p1,p2,0,.sink,W.wy z,W.lv z,[],0,[]⟩ H' (mk s1 nx ndx kp) (((hc'.pick 1 rfl).tl.pick 1 rfl).tl) ⟨⟨_,hst,by rw[kd_sink]⟩,rfl,rfl,rfl,rfl,⟨W.wy_nd z,by show(W.wy z).length≤100; omega,fun e=>(by cases e),fun n e=>by cases e⟩⟩
end
end Oc
namespace Oc
open PySem L2
theorem IsTri.sm {H H':Hp} (s:Sm H H') {x:V} {t:Tri} (h:IsTri H x t):IsTri H' x t:=let ⟨p,e,q⟩:=h; ⟨p,e,s.tup q⟩
theorem IsSta.sm {H H':Hp} (s:Sm H H') {x:V} {t:Sta} (h:IsSta H x t):IsSta H' x t:=let ⟨p,e,q⟩:=h; ⟨p,e,s.tup q⟩
theorem WkAt.sm {H H':Hp} {w:Addr} {W:Wk} (e:Sm H H') (h:WkAt H w W):WkAt H' w W:=by
 obtain⟨s,b,f,xs,ys,zs,h1,h2⟩:=h.ex
 exact⟨s,b,f,xs,ys,zs,e.tup h1,e.lst h2.hs,e.lst h2.hb,e.lst h2.hf,pairedMono (fun _ _=>IsSta.sm e) h2.ps,pairedMono (fun _ _=>IsTri.sm e) h2.pb,pairedMono (fun _ _=>IsTri.sm e) h2.pf⟩
inductive IsPr (H:Hp) (x:V) (t:Int × Int):Prop where
 | mk (p:_) (h_0:x=.ref p) (h_1:H p=some (.tup [.int t.1,.int t.2])):IsPr H x t
theorem IsPr.same {H H':Hp} (s:Same H H') {x:V} {t:Int × Int} (h:IsPr H x t):IsPr H' x t:=let ⟨p,e,q⟩:=h; ⟨p,e,s _ _ q⟩
theorem IsPr.keep {H:Hp} {a:Addr} {xs ys:List V} (e:H a=some (.lst xs)) {x:V} {t:Int × Int} (h:IsPr H x t):IsPr (upd H a (.lst ys)) x t:=by
 obtain⟨p,rfl,q⟩:=h
 exact⟨p,rfl,by rw[upd_ne (ne_of q e (by intro z; cases z))]; exact q⟩
def Wk.drs (W:Wk) (s:Int):List Tri:=(List.range 51).flatMap fun(t:Nat)=>W.fe.filter fun f=>f.1 == s && f.2.1 == (t:Int)
def prOf (t:Tri):Int × Int:=(t.2.1,t.2.2)
def Wk.dr (W:Wk) (s:Int):List (Int × Int):=(W.drs s).map prOf
set_option genInjectivity false in
set_option genSizeOf false in
abbrev dq:Str:="door.<locals>.<lambda>"
abbrev DoorT (P:Addr) (H:Hp):Prop:=LamT P dq 9 61 H
inductive spDoor (Pd:Addr) (vs:List V) (H:Hp) (Q:VK) (x_3:XK):Prop where
 | mk (w:Addr) (W:Wk) (s:Int) (h_0:vs=[.ref w,.int s]) (h_1:WkAt H w W) (h_2:W.Ok) (h_3:DoorT Pd H) (h_4:∀(p:Addr) (rs:List V) (H':Hp),H p=none→H' p=some (.lst rs)→Paired (IsPr H') rs (W.dr s)→Sm H H'→DoorT Pd H'→rs.length≤60→Q (.ref p) H'):spDoor Pd vs H Q x_3
theorem drs_of {W:Wk} (ok:W.Ok) {s:Int} {is:List Nat} (hp:is.Perm (List.range (W.fe.filter fun f=>f.1 == s).length))
  (hw:is.Pairwise (fun i j=>((W.fe.filter fun f=>f.1 == s).map fun(f:Tri)=>f.2.1).getD i 0 < ((W.fe.filter fun f=>f.1 == s).map fun(f:Tri)=>f.2.1).getD j 0∨(((W.fe.filter fun f=>f.1 == s).map fun(f:Tri)=>f.2.1).getD i 0=((W.fe.filter fun f=>f.1 == s).map fun(f:Tri)=>f.2.1).getD j 0∧i < j))) :
  is.map (fun i=>(W.fe.filter fun f=>f.1 == s).getD i (0,0,0))=W.drs s:=by
 rw[stab_bucket (0,0,0) (fun(f:Tri)=>f.2.1) (m:=51) (fun x hx=>?_) hp hw]
 ·unfold Wk.drs
  congr 1
  funext t
  rw[List.filter_filter]
  refine kE fun x _=>?_
  rw[Bool.and_comm]
 ·obtain⟨h1,h2,h3,h4,_⟩:=ok.fee x (yJ.mp hx).1
  exact⟨h3,by omega⟩
section
variable {P:Program} {w:World} {K:PySem.W.Frag} {mg:Str→Option Value} {base:Heap}
theorem sc_door:FnScope ["works","station","feeds"] ["works","station"] (defScope (top 3)):=⟨rfl,rfl,rfl,by decide +kernel,rfl,by decide +kernel,by decide +kernel⟩
theorem ok_door {f c Pd:Addr} {fd:FuncData} (F:Fun K "door" "door" (top 3) f fd) (hc:fd.code=.ref c) (tb:Tab K mg base c Pd) (T:Txt K mg):FnOk P w K mg base CX0 1 f fd ["works","station"] (spDoor Pd):=by
 have nd:=sc_door.nd
 refine F.okC hc sc_door (fun vs H Q E h=>?_) (fun A outer s H vs Q E hr h=>?_)
 ·obtain⟨w,W,z,rfl,_⟩:=h
  rfl
 ·refine abb fun Gz hGz=>?_
  obtain⟨w,W,z,rfl,hw,ok,hT,q⟩:=h
  obtain⟨sa,ba,fa,xs,ys,zs,h1,h2⟩:=hw.ex
  refine hGz ?_
  have lf:=h2.pf.length
  have f60:=ok.f60
  refine⟨_,(@pss_cons _ _ _ _ _ (ps_setC (i:=2) nd rfl (Or.inl rfl) rfl (own:=["feed"]) (fr:=["station"]) (js:=[1]) ⟨rfl,rfl,by decide +kernel,by decide +kernel,by repeat (first|exact Each.nil|refine Each.cons rfl ?_),by repeat (first|exact Each.nil|refine Each.cons rfl ?_),by repeat (first|exact Paired.nil|refine Paired.cons ⟨rfl,by first|exact Or.inl rfl|exact Or.inr rfl,by first|exact Or.inl rfl|exact Or.inr rfl⟩ ?_),rfl⟩ (pi_listK (K:=K) rfl (@pe_ix _ _ _ _ _ _ _ (ix_tupK (K:=K) rfl) (pv 0) pe_int (fun _ _=>rfl))) (fun _ _ _ _=>(pg_name (i:=0) (show List.Nodup (["feed","station"]:List Str) from by decide +kernel) rfl (by first|exact Or.inl rfl|exact Or.inr rfl))) (fun _ _ _ _=>(pts_one (pt_cmpR op_eq (@pe_ix _ _ _ _ _ _ _ (ix_tupK (K:=K) rfl) (pv 0) pe_int (fun _ _=>rfl)) (pv 1) (nomark _)))) (fun _ _ _ _=>(pv 0)))
   (@pss_one _ _ _ (@ps_ret _ _ _ _ (pe_comp (own:=["feed"]) (fr:=[]) (js:=[]) ⟨rfl,rfl,by decide +kernel,by decide +kernel,by repeat (first|exact Each.nil|refine Each.cons rfl ?_),by repeat (first|exact Each.nil|refine Each.cons rfl ?_),by repeat (first|exact Paired.nil|refine Paired.cons ⟨rfl,by first|exact Or.inl rfl|exact Or.inr rfl,by first|exact Or.inl rfl|exact Or.inr rfl⟩ ?_),rfl⟩ (pi_listK (K:=K) rfl (pe_srt hr (by rfl) T.n_sorted bt_sorted rfl (by rfl) tb.hd tb.bl (pv 2) (by decide) (fun _ _ _ _=>rfl) (by rfl) (by rfl))) (fun _ _ _ _=>(pg_name (i:=0) (show List.Nodup (["feed"]:List Str) from by decide +kernel) rfl (by first|exact Or.inl rfl|exact Or.inr rfl))) (fun _ _ _ _=>pts_nil) (fun _ _ _ _=>(@pe_tup _ _ _ _ _ (@pa_cons _ _ _ _ _ (@pe_ix _ _ _ _ _ _ _ (ix_tupK (K:=K) rfl) (pv 0) pe_int (fun _ _=>rfl)) (@pa_cons _ _ _ _ _ (@pe_ix _ _ _ _ _ _ _ (ix_tupK (K:=K) rfl) (pv 0) pe_int (fun _ _=>rfl)) pa_nil (by rfl)) (by rfl)))))))),?_⟩
  first|(ac_rfl; refine(jxTc (j:=2) h1 rfl ⟨fa,rfl,⟨_,SqL.of h2.hf⟩,fun D nD=>?_⟩))|(refine⟨_,rfl,(jxTc (j:=2) h1 rfl ⟨fa,rfl,⟨_,SqL.of h2.hf⟩,fun D nD=>?_⟩)⟩)
  refine comp_list (a:=fa) (xs:=zs) (fun i H5=>Same H H5∧∃ xs':List V,H5 D=some (.lst xs')∧Paired (IsTri H5) xs' ((W.fe.take i).filter fun f=>f.1 == z)) ⟨Same.new nD,[],upd_same,.nil⟩ (fun i H5 _ p=>SqL.of (p.1 _ _ h2.hf)) ?_ ?_
  ·rintro i x H5 m Wf hx hz0 nx
   refine abb fun Gz hGz=>?_
   obtain⟨s5,xs',h5,p5⟩:=hz0
   obtain⟨t,ht,hp0⟩:=h2.pf.gt hx
   obtain⟨a0,rfl,ha⟩:=hp0
   refine hGz ?_
   have hi:=(zA.mp ht).1
   first|(ac_rfl; refine(jxTc (j:=0) (s5 _ _ ha) rfl ⟨_,rfl,rfl,_,rfl,?_⟩))|(refine⟨_,rfl,(jxTc (j:=0) (s5 _ _ ha) rfl ⟨_,rfl,rfl,_,rfl,?_⟩)⟩)
   have et:decide (V.int t.1=V.int z)=(t.1 == z):=dec_int
   have l5:=p5.length
   have l6:((W.fe.take i).filter fun f=>f.1 == z).length≤60:=yA (vJ _ _) (by rw[zX]; omega)
   have ef:(W.fe.take (i + 1)).filter (fun f=>f.1 == z)=(W.fe.take i).filter (fun f=>f.1 == z)++(if (t.1 == z)=true then [t] else []):=by
    rw[yO,ht,List.filter_append]
    congr 1
    show List.filter _ [t]=_
    rw[List.filter_cons,jF]
   refine iteB (fun hb=>?_) (fun hb=>?_)
   ·rw[et] at hb
    first|(ac_rfl; refine⟨_,h5,small1000 (by omega),nx _ ⟨s5.upd nD,xs'++[.ref a0],upd_same,?_⟩⟩)|(refine⟨_,rfl,_,h5,small1000 (by omega),nx _ ⟨s5.upd nD,xs'++[.ref a0],upd_same,?_⟩⟩)
    rw[ef,hb,if_pos rfl]
    exact paired_app (pairedMono (fun _ _ h=>h.keep h5) p5) (.cons (IsTri.keep h5 ⟨a0,rfl,s5 _ _ ha⟩) .nil)
   ·rw[et] at hb
    refine nx _ ⟨s5,xs',h5,?_⟩
    rw[ef,hb,if_neg zV,yF]
    exact p5
  ·rintro H5 hz1
   refine abb fun Gz hGz=>?_
   obtain⟨s5,xs',h5,p5⟩:=hz1
   refine hGz ?_
   rw[lf,yM] at p5
   have l5:=p5.length
   have l6:(W.fe.filter fun f=>f.1 == z).length≤60:=yA (vJ _ _) f60
   first|(refine tvC rfl ?_)|(refine tvO rfl ?_)|(refine tvK rfl ?_)|(refine tv rfl ?_)|(refine⟨_,rfl,?_⟩)
   refine rSrt_of (kz:=(W.fe.filter fun f=>f.1 == z).map fun(f:Tri)=>f.2.1) (SqL.of h5) (by omega) (by rw[zB]; omega) (fun j x k hj hk=>?_) (hT.same s5) (fun H6 D2 out s6 hT6 nD2 h6 st=>?_)
   ·refine abb fun Gz hGz=>?_
    obtain⟨t,ht,a0,rfl,ha⟩:=p5.gt hj
    refine hGz ?_
    rw[zJ,ht] at hk
    cases hk
    exact⟨a0,_,rfl,SqT.of ha,atI_nat (j:=1) rfl⟩
   ·refine abb fun Gz hGz=>?_
    obtain⟨is,i1,rfl,i3⟩:=st
    refine hGz ?_
    have i1':=i1
    rw[l5] at i1'
    have p6:Paired (IsTri H6) (is.map fun i=>xs'.getD i .non) (W.drs z):=by
     rw[← drs_of ok i1' i3]
     exact pairedMono (fun _ _=>IsTri.sm s6) (paired_pick (0,0,0) p5 is fun i hi=>yV.mp (i1.mem_iff.mp hi))
    have lo:(is.map fun i=>xs'.getD i V.non).length≤60:=by rw[zB,i1.length_eq,yT]; omega
    have hD2:H D2=none:=s5.free nD2
    have sH6:Sm H H6:=(Sm.of s5).trans s6
    generalize (is.map fun i=>xs'.getD i V.non)=out at h6 p6 lo
    have l7:=p6.length
    refine⟨D2,rfl,⟨_,SqL.of h6⟩,fun D3 nD3=>?_⟩
    refine comp_list (a:=D2) (xs:=out) (fun i H7=>Same H6 H7∧∃ rs:List V,H7 D3=some (.lst rs)∧Paired (IsPr H7) rs (((W.drs z).take i).map prOf)) ⟨Same.new nD3,[],upd_same,.nil⟩ (fun i H7 _ p=>SqL.of (p.1 _ _ h6)) ?_ ?_
    ·rintro i x H7 m Wf hx hz2 nx
     refine abb fun Gz hGz=>?_
     obtain⟨s7,rs,h7,p7⟩:=hz2
     obtain⟨t,ht,hp0⟩:=p6.gt hx
     obtain⟨a0,rfl,ha⟩:=hp0
     refine hGz ?_
     have hi:=(zA.mp ht).1
     have l8:=p7.length
     rw[zB,zX] at l8
     first|(ac_rfl; refine(jxTc (j:=1) (s7 _ _ ha) rfl ⟨_,rfl,(jxTc (j:=2) (s7 _ _ ha) rfl ?_)⟩))|(refine⟨_,rfl,(jxTc (j:=1) (s7 _ _ ha) rfl ⟨_,rfl,(jxTc (j:=2) (s7 _ _ ha) rfl ?_)⟩)⟩)
     refine⟨(by show 2≤sizeLine; decide),fun p np=>?_⟩
     have s8:Same H7 (upd H7 p (.tup [.int t.2.1,.int t.2.2])):=Same.new np
     refine⟨_,s8 _ _ h7,small1000 (by omega),nx _ ⟨(s7.trans s8).upd nD3,rs++[.ref p],upd_same,?_⟩⟩
     rw[yO,ht,zS]
     exact paired_app (pairedMono (fun _ _ h=>(IsPr.same s8 h).keep (s8 _ _ h7)) p7) (.cons (IsPr.keep (s8 _ _ h7) ⟨p,rfl,upd_same⟩) .nil)
    ·rintro H7 hz3
     refine abb fun Gz hGz=>?_
     obtain⟨s7,rs,h7,p7⟩:=hz3
     refine hGz ?_
     rw[l7,yM] at p7
     exact q D3 rs H7 (sH6.free nD3) h7 p7 (sH6.trans (Sm.of s7)) (hT6.same s7) (by have:=p7.length; rw[zB] at this; omega)
end
end Oc
namespace Oc
open PySem L2
def NoT (Ms:List (List Cell)):Prop:=∀ c ∈ Ms.flatten,∀ ps,c.2 ≠ HO.tbl ps
theorem NoT.cons {c:List Cell} {Ms:List (List Cell)} (h:∀ x ∈ c,∀ ps,x.2 ≠ HO.tbl ps) (n:NoT Ms):NoT (c::Ms):=fun x hx=>by
 rcases yE.mp (show x ∈ c++Ms.flatten from hx) with q|q
 ·exact h x q
 ·exact n x q
theorem NoT.one {a:Addr} {o:HO} {Ms:List (List Cell)} (h:∀ ps,o ≠ HO.tbl ps) (n:NoT Ms):NoT ([(a,o)]::Ms):=n.cons fun x hx=>by rw[zR.mp hx]; exact h
theorem NoT.lst {a:Addr} {xs:List V} {Ms:List (List Cell)} (n:NoT Ms):NoT ([(a,.lst xs)]::Ms):=n.one fun _ z=>nomatch z
theorem noT_rows {as:List Addr} {vs:List (List V)}:∀ x ∈ rowsC as (vs.map HO.lst),∀ ps,x.2 ≠ HO.tbl ps:=fun x hx ps=>by
 obtain⟨i,hi⟩:=yD hx
 have h2:=(qL hx).2
 obtain⟨v,_,e⟩:=yH.mp h2
 rw[← e]
 exact fun z=>nomatch z
theorem _root_.L2.Hc.sm {H H':Hp} {Ms:List (List Cell)} (h:Hc H Ms) (n:NoT Ms) (s:Sm H H'):Hc H' Ms:=⟨h.1,fun p hp=>s.keep _ _ (h.2 p hp) (n p hp)⟩
def Wk.de (W:Wk) (s:Int):List Tri:=(W.dr s).map fun p=>(p.1,-1,p.2)
theorem Wk.drs_mem {W:Wk} {s:Int} {t:Tri} (h:t ∈ W.drs s):t ∈ W.fe∧t.1=s:=by
 unfold Wk.drs at h
 obtain⟨i,_,hi⟩:=jV.mp h
 obtain⟨h1,h2⟩:=yJ.mp hi
 rw[kM] at h2
 exact⟨h1,by simpa using h2.1⟩
inductive spDE (Pd:Addr) (vs:List V) (H:Hp) (Q:VK) (x_3:XK):Prop where
 | mk (w:Addr) (W:Wk) (s:Int) (h_0:vs=[.ref w,.int s]) (h_1:WkAt H w W) (h_2:W.Ok) (h_3:DoorT Pd H) (h_4:∀(p:Addr) (rs:List V) (H':Hp),H p=none→H' p=some (.lst rs)→Paired (IsTri H') rs (W.de s)→Sm H H'→DoorT Pd H'→rs.length≤60→Q (.ref p) H'):spDE Pd vs H Q x_3
section
variable {P:Program} {w:World} {K:PySem.W.Frag} {mg:Str→Option Value} {base:Heap}
theorem sc_de:FnScope ["works","station"] ["works","station"] (defScope (top 4)):=⟨rfl,rfl,rfl,by decide +kernel,rfl,by decide +kernel,by decide +kernel⟩
theorem ok_de {f Pd:Addr} {fd:FuncData} {tkD:Tok} (F:Fun K "door_events" "door_events" (top 4) f fd) (g_DOOR:mg "DOOR"=some (.int (-1) tkD)) (G_door:FnAt P w K mg base 1 "door" ["works","station"] (spDoor Pd)):FnOk P w K mg base CX0 2 f fd ["works","station"] (spDE Pd):=by
 have nd:=sc_de.nd
 refine F.ok sc_de (fun vs H Q E h=>?_) (fun cdv A outer s H vs Q E hr h=>?_)
 ·obtain⟨w,W,z,rfl,_⟩:=h
  rfl
 ·refine abb fun Gz hGz=>?_
  obtain⟨w,W,z,rfl,hw,ok,hT,q⟩:=h
  refine hGz ?_
  refine⟨_,(@pss_one _ _ _ (@ps_ret _ _ _ _ (pe_comp (own:=["fed"]) (fr:=[]) (js:=[]) ⟨rfl,rfl,by decide +kernel,by decide +kernel,by repeat (first|exact Each.nil|refine Each.cons rfl ?_),by repeat (first|exact Each.nil|refine Each.cons rfl ?_),by repeat (first|exact Paired.nil|refine Paired.cons ⟨rfl,by first|exact Or.inl rfl|exact Or.inr rfl,by first|exact Or.inl rfl|exact Or.inr rfl⟩ ?_),rfl⟩ (pi_listK (K:=K) rfl (pe_fn G_door (hr.mono (by decide)) (by rfl) (@pa_cons _ _ _ _ _ (pv 0) (@pa_cons _ _ _ _ _ (pv 1) pa_nil (by rfl)) (by rfl)))) (fun _ _ _ _=>(pg_name (i:=0) (show List.Nodup (["fed"]:List Str) from by decide +kernel) rfl (by first|exact Or.inl rfl|exact Or.inr rfl))) (fun _ _ _ _=>pts_nil) (fun _ _ _ _=>(@pe_tup _ _ _ _ _ (@pa_cons _ _ _ _ _ (@pe_ix _ _ _ _ _ _ _ (ix_tupK (K:=K) rfl) (pv 0) pe_int (fun _ _=>rfl)) (@pa_cons _ _ _ _ _ (pe_glob (v:=.int (-1)) (by rfl) (by exact g_DOOR) ⟨_,rfl⟩) (@pa_cons _ _ _ _ _ (@pe_ix _ _ _ _ _ _ _ (ix_tupK (K:=K) rfl) (pv 0) pe_int (fun _ _=>rfl)) pa_nil (by rfl)) (by rfl)) (by rfl))))))),?_⟩
  first|(refine tvC rfl ?_)|(refine tvO rfl ?_)|(refine tvK rfl ?_)|(refine tv rfl ?_)|(refine⟨_,rfl,?_⟩)
  first|(ac_rfl; refine⟨w,W,z,rfl,hw,ok,hT,fun p rs H1 np hp pr sm hT1 l60=>⟨p,rfl,⟨_,SqL.of hp⟩,fun D nD=>?_⟩⟩)|(refine⟨_,rfl,w,W,z,rfl,hw,ok,hT,fun p rs H1 np hp pr sm hT1 l60=>⟨p,rfl,⟨_,SqL.of hp⟩,fun D nD=>?_⟩⟩)
  have l1:=pr.length
  refine comp_list (a:=p) (xs:=rs) (fun i H5=>Same H1 H5∧∃ xs':List V,H5 D=some (.lst xs')∧Paired (IsTri H5) xs' (((W.dr z).take i).map fun p=>(p.1,-1,p.2))) ⟨Same.new nD,[],upd_same,.nil⟩ (fun i H5 _ p=>SqL.of (p.1 _ _ hp)) ?_ ?_
  ·rintro i x H5 m Wf hx hz4 nx
   refine abb fun Gz hGz=>?_
   obtain⟨s5,xs',h5,p5⟩:=hz4
   obtain⟨t,ht,a0,rfl,ha⟩:=pr.gt hx
   refine hGz ?_
   have hi:=(zA.mp hx).1
   have l5:=p5.length
   rw[zB,zX] at l5
   first|(ac_rfl; refine(jxTc (j:=0) (s5 _ _ ha) rfl ⟨_,rfl,(jxTc (j:=1) (s5 _ _ ha) rfl ⟨(by show 3≤sizeLine; decide),fun pt np=>?_⟩)⟩))|(refine⟨_,rfl,(jxTc (j:=0) (s5 _ _ ha) rfl ⟨_,rfl,(jxTc (j:=1) (s5 _ _ ha) rfl ⟨(by show 3≤sizeLine; decide),fun pt np=>?_⟩)⟩)⟩)
   have s6:Same H5 (upd H5 pt (.tup [.int t.1,.int (-1),.int t.2])):=Same.new np
   refine⟨_,s6 _ _ h5,small1000 (by omega),nx _ ⟨(s5.trans s6).upd nD,xs'++[.ref pt],upd_same,?_⟩⟩
   rw[take_1 ht,zS]
   exact paired_app (pairedMono (fun _ _ h=>(IsTri.same s6 h).keep (s6 _ _ h5)) p5) (.cons (IsTri.keep (s6 _ _ h5) ⟨pt,rfl,upd_same⟩) .nil)
  ·rintro H5 hz5
   refine abb fun Gz hGz=>?_
   obtain⟨s5,xs',h5,p5⟩:=hz5
   refine hGz ?_
   rw[l1,yM] at p5
   have l5:=p5.length
   rw[zB,← l1] at l5
   exact q D xs' H5 (sm.free nD) h5 p5 (sm.trans (Sm.of s5)) (hT1.same s5) (by omega)
end
end Oc
namespace Oc
open PySem L2
def srefs (srs:List SR):List V:=srs.map fun r=>V.ref r.x
def liC (as:List Addr) (vs:List (List V)):List Cell:=rowsC as (vs.map HO.lst)
def stC (cs:Cs) (srs:List SR):List Cell:=srs.flatMap (srC cs)
theorem noT_sr (cs:Cs) (r:SR):∀ x ∈ srC cs r,∀ ps,x.2 ≠ HO.tbl ps:=fun x hx ps=>by
 rcases zT.mp hx with q|hx
 ·rw[q]; exact fun z=>nomatch z
 rcases zT.mp hx with q|hx
 ·rw[q]; exact fun z=>nomatch z
 rcases zT.mp hx with q|hx
 ·rw[q]; exact fun z=>nomatch z
 unfold SR.more at hx
 split at hx
 ·rcases zT.mp hx with q|hx
  ·rw[q]; exact fun z=>nomatch z
  ·have h2:=(qL hx).2
   obtain⟨v,_,e⟩:=yH.mp h2
   rw[← e]
   exact fun z=>nomatch z
 ·exact absurd hx zW
theorem noT_st (cs:Cs) (srs:List SR):∀ x ∈ stC cs srs,∀ ps,x.2 ≠ HO.tbl ps:=fun x hx=>by
 obtain⟨r,_,h⟩:=jV.mp hx
 exact noT_sr cs r x h
theorem stC_snoc (cs:Cs) (srs:List SR) (r:SR):stC cs (srs++[r])=stC cs srs++srC cs r:=by
 unfold stC
 rw[yN]
 simp
theorem rowsC_snoc {ls:List Addr} {os:List HO} (h:ls.length=os.length) (l:Addr) (o:HO):rowsC (ls++[l]) (os++[o])=rowsC ls os++[(l,o)]:=by
 unfold rowsC
 rw[kQ h]
 rfl
theorem liC_snoc {ls:List Addr} {vs:List (List V)} (h:ls.length=vs.length) (l:Addr) (v:List V):liC (ls++[l]) (vs++[v])=liC ls vs++[(l,.lst v)]:=by
 unfold liC
 rw[zS]
 exact rowsC_snoc (by rw[zB]; exact h) _ _
theorem getAll_snoc {α:Type} {Pr:Nat→α→Prop} {l:List α} {x:α} (h:∀ j r,l[j]?=some r→Pr j r) (hx:Pr l.length x):∀ j r,(l++[x])[j]?=some r→Pr j r:=fun j r hr=>by
 by_cases hj:j < l.length
 ·rw[yU hj] at hr
  exact h j r hr
 ·rw[yG (by omega)] at hr
  cases e:j - l.length with
  | zero =>
   rw[e] at hr
   cases hr
   rw[show j=l.length by omega]
   exact hx
  | succ k=>rw[e] at hr; cases hr
theorem pairs_keep {H:Hp} {a:Addr} {xs ys:List V} (e:H a=some (.lst xs)) {dv:List (List V)} {de:List (List Tri)} (h:Paired (fun us ts=>Paired (IsTri H) us ts) dv de):Paired (fun us ts=>Paired (IsTri (upd H a (.lst ys))) us ts) dv de :=
 pairedMono (fun _ _ h=>pairedMono (fun _ _ h=>h.keep e) h) h
theorem pairs_nil {α β:Type} {F:List α→List β→Prop} (h:F [] []) {γ δ:Type}:∀ {l:List γ} {m:List δ},l.length=m.length→Paired F (l.map fun _=>[]) (m.map fun _=>[])
 | [],[],_=>.nil
 | [],_::_,e=>by cases e
 | _::_,[],e=>by cases e
 | x::l,y::m,e=>.cons h (pairs_nil h (Nat.succ.inj e))
section
variable {H:Hp} {s:Nat} {us:List V}
theorem srefs_at {srs:List SR} {r:SR} (h:srs[s]?=some r):(srefs srs)[s]?=some (.ref r.x):=by unfold srefs; rw[zJ,h]; rfl
theorem get_like {α β:Type} {l:List α} {m:List β} (e:l.length=m.length) {i:Nat} {x:α} (h:l[i]?=some x):∃ y,m[i]?=some y:=by
 have:=(zA.mp h).1
 exact⟨m[i]'(by omega),zC _⟩
theorem li_cell {as:List Addr} {vs:List (List V)} {a:Addr} (h1:as[s]?=some a) (h2:vs[s]?=some us):(liC as vs)[s]?=some (a,.lst us):=rowsC_get h1 (by rw[zJ,h2]; rfl)
theorem refs_at {as:List Addr} {a:Addr} (h:as[s]?=some a):(as.map V.ref)[s]?=some (.ref a):=by rw[zJ,h]; rfl
end
end Oc
namespace Oc
open PySem L2
structure SP where
 k:Kd
 ws:List Int
 bs:List Int
 seen:Int
 rows:List (List Int)
def SR.pu (r:SR):SP:=⟨r.k,r.ws,r.bs,r.seen,r.rows⟩
def SP.sr (p:SP):SR:=⟨0,0,0,0,0,p.k,p.ws,p.bs,[],p.seen,p.rows⟩
def SP.out (p:SP) (j:Nat) (z:Int):Option (Int × Int):=p.sr.out j z
def SP.nxt (p:SP) (j:Nat) (z:Int):SP:=(p.sr.nxt j z).pu
theorem SR.nxt_pu (r:SR) (j:Nat) (z:Int):(r.nxt j z).pu=r.pu.nxt j z:=by
 obtain⟨x,dx,p1,p2,d,k,ws,bs,ls,seen,rows⟩:=r
 cases k <;> rfl
theorem SP.nxt_ws (p:SP) (j:Nat) (z:Int):(p.nxt j z).ws=p.ws:=(p.sr.nxt_x j z).2.2.1
theorem SP.nxt_bs (p:SP) (j:Nat) (z:Int):(p.nxt j z).bs=p.bs:=(p.sr.nxt_x j z).2.2.2
theorem head_mem {l:List Int} {y b v:Int} (h:(l.head?.map fun b=>(b,v))=some (b,y)):b ∈ l:=by
 cases l with
 | nil=>cases h
 | cons a r=>cases h; exact zN
theorem SP.out_in {p:SP} {j:Nat} {z b y:Int} (h:p.out j z=some (b,y)):b ∈ p.bs:=by
 unfold SP.out SR.out at h
 cases e:p.k with
 | relay n =>
  rw[show p.sr.k=p.k from rfl,e] at h
  exact head_mem h
 | sorter =>
  rw[show p.sr.k=p.k from rfl,e] at h
  dsimp only at h
  split at h
  ·cases h
  ·cases eb:p.sr.bs[(z % (p.sr.bs.length:Int)).toNat]? with
   | none=>rw[eb] at h; cases h
   | some b' =>
    rw[eb] at h
    cases h
    exact zK eb
 | thinner n =>
  rw[show p.sr.k=p.k from rfl,e] at h
  dsimp only at h
  split at h
  ·cases h
  ·exact head_mem h
 | joiner =>
  rw[show p.sr.k=p.k from rfl,e] at h
  dsimp only at h
  split at h
  ·cases h
  ·exact head_mem h
 | sink =>
  rw[show p.sr.k=p.k from rfl,e] at h
  cases h
abbrev Cau:=Option (Int × Int)
set_option genInjectivity false in
set_option genSizeOf false in
structure AR where
 s:Nat
 e:Tri
 c:Cau
set_option genInjectivity false in
set_option genSizeOf false in
structure CS where
 st:List SP
 ev:List (List Tri)
 og:List (List Cau)
 ar:List AR
def AR.key (a:AR):Int × Int:=(a.e.1,a.e.2.1)
def CS.at (S:CS):Nat:=bestK (S.ar.map AR.key)
def CS.first (S:CS):Option AR:=S.ar[S.at]?
def arrOf (W:Wk) (b y t:Int) (c:Int × Int):AR:=⟨((W.be.getD b.toNat (0,0,0)).2.1).toNat,(t + (W.be.getD b.toNat (0,0,0)).2.2,b,y),some c⟩
def putA (W:Wk) (o:Option (Int × Int)) (t:Int) (c:Int × Int):List AR:=match o with
 | none=>[]
 | some (b,y)=>[arrOf W b y t c]
def sp0:SP:=⟨.sink,[],[],0,[]⟩
def CS.step (W:Wk) (S:CS) (a:AR):CS :=
 { st:=S.st.set a.s ((S.st.getD a.s sp0).nxt ((S.st.getD a.s sp0).ws.idxOf a.e.2.1) a.e.2.2),ev:=S.ev.set a.s (S.ev.getD a.s []++[a.e]),og:=S.og.set a.s (S.og.getD a.s []++[a.c]),ar:=S.ar.eraseIdx S.at++putA W ((S.st.getD a.s sp0).out ((S.st.getD a.s sp0).ws.idxOf a.e.2.1) a.e.2.2) a.e.1 ((a.s:Int),((S.ev.getD a.s []).length:Int)) }
inductive Runs (W:Wk) (u:Int):CS→CS→Prop
 | stop {S:CS} (h:∀ a,S.first=some a→u < a.e.1):Runs W u S S
 | step {S R:CS} (a:AR) (h:S.first=some a) (hu:a.e.1≤u) (r:Runs W u (S.step W a) R):Runs W u S R
def Wk.sp (W:Wk) (s:Nat):SP:=⟨kdOf (W.st.getD s ("",none)),W.wy s,W.lv s,0,if kdOf (W.st.getD s ("",none))=.joiner then (W.wy s).map (fun _=>[]) else []⟩
theorem Made.pu {W:Wk} {s:Nat} {r:SR} (m:Made W s r):r.pu=W.sp s:=by
 obtain⟨st,h1,h2⟩:=m.k
 have e:W.st.getD s ("",none)=st:=by rw[zE,h1]; rfl
 unfold SR.pu Wk.sp
 rw[e,← h2,m.ws,m.bs,m.seen,m.rows]
def Wk.ars (W:Wk) (n:Nat):List AR:=(List.range n).flatMap fun(s:Nat)=>(W.de (s:Int)).map fun e=>⟨s,e,none⟩
def Wk.cs (W:Wk):CS:=⟨(List.range W.st.length).map W.sp,W.st.map fun _=>[],W.st.map fun _=>[],W.ars W.st.length⟩
structure CSok (W:Wk) (S:CS):Prop where
 l1:S.st.length=W.st.length
 l2:S.ev.length=W.st.length
 l3:S.og.length=W.st.length
 ws:∀(s:Nat) p,S.st[s]?=some p→p.ws=W.wy s∧p.bs=W.lv s
 ar:∀ a ∈ S.ar,a.s < W.st.length∧a.e.2.1 ∈ W.wy a.s
theorem getD_at {α:Type} {l:List α} {i:Nat} {d:α} (h:i < l.length):l[i]?=some (l.getD i d):=by rw[zE,zC h]; rfl
theorem Wk.lv_goal {W:Wk} (ok:W.Ok) {s b:Int} (h:b ∈ W.lv s):0≤b∧b < W.be.length∧0≤(W.be.getD b.toNat (0,0,0)).2.1∧(W.be.getD b.toNat (0,0,0)).2.1 < W.st.length∧b ∈ W.wy (W.be.getD b.toNat (0,0,0)).2.1∧1≤(W.be.getD b.toNat (0,0,0)).2.2∧(W.be.getD b.toNat (0,0,0)).1=s:=by
 unfold Wk.lv at h
 obtain⟨j,t,e,ht,hf⟩:=idx_of _ _ _ _ h
 rw[qA] at e
 subst e
 have hj:=(zA.mp ht).1
 have eg:W.be.getD (j:Int).toNat (0,0,0)=t:=by rw[qE,zE,ht]; rfl
 rw[eg]
 obtain⟨q1,q2,q3,q4,q5,q6⟩:=ok.bel t (zK ht)
 refine⟨by omega,by omega,q3,q4,?_,q5,by simpa using hf⟩
 unfold Wk.wy
 refine zU _ ?_
 have:=idx_at (fun(x:Tri)=>x.2.1 == t.2.1) W.be 0 j t ht (by simp)
 rw[qA] at this
 exact this
theorem CSok.step {W:Wk} (ok:W.Ok) {S:CS} (h:CSok W S) {a:AR} (ha:S.first=some a):CSok W (S.step W a):=by
 have hm:a ∈ S.ar:=zK ha
 obtain⟨h1,h2⟩:=h.ar a hm
 have hp:=getD_at (d:=sp0) (l:=S.st) (i:=a.s) (by rw[h.l1]; exact h1)
 obtain⟨w1,w2⟩:=h.ws _ _ hp
 refine⟨?_,?_,?_,fun s p hs=>?_,fun b hb=>?_⟩
 ·show(S.st.set _ _).length=_; rw[yY]; exact h.l1
 ·show(S.ev.set _ _).length=_; rw[yY]; exact h.l2
 ·show(S.og.set _ _).length=_; rw[yY]; exact h.l3
 ·have hs':(S.st.set a.s ((S.st.getD a.s sp0).nxt ((S.st.getD a.s sp0).ws.idxOf a.e.2.1) a.e.2.2))[s]?=some p:=hs
  by_cases e:s=a.s
  ·subst e
   rw[y6 (by rw[h.l1]; exact h1)] at hs'
   cases hs'
   rw[SP.nxt_ws,SP.nxt_bs]
   exact⟨w1,w2⟩
  ·rw[qD (Ne.symm e)] at hs'
   exact h.ws s p hs'
 ·have hb':b ∈ S.ar.eraseIdx S.at++putA W ((S.st.getD a.s sp0).out ((S.st.getD a.s sp0).ws.idxOf a.e.2.1) a.e.2.2) a.e.1 ((a.s:Int),((S.ev.getD a.s []).length:Int)):=hb
  rcases yE.mp hb' with q|q
  ·exact h.ar b (List.mem_of_mem_eraseIdx q)
  ·cases eo:(S.st.getD a.s sp0).out ((S.st.getD a.s sp0).ws.idxOf a.e.2.1) a.e.2.2 with
   | none=>rw[eo] at q; exact absurd q zW
   | some v =>
    obtain⟨bb,y⟩:=v
    rw[eo] at q
    rw[zR.mp q]
    have hbs:=SP.out_in eo
    rw[w2] at hbs
    obtain⟨q1,q2,q3,q4,q5,_⟩:=Wk.lv_goal ok hbs
    refine⟨?_,?_⟩
    ·show((W.be.getD bb.toNat (0,0,0)).2.1).toNat < _; omega
    ·show bb ∈ W.wy (((W.be.getD bb.toNat (0,0,0)).2.1).toNat:Int)
     rw[jI q3]
     exact q5
def arM (u:Int) (a:AR):Nat:=(u + 2 - a.e.1).toNat
def CS.meas (S:CS) (u:Int):Nat:=(S.ar.map (arM u)).sum
theorem sum_erase {l:List Nat} {i x:Nat} (h:l[i]?=some x):(l.eraseIdx i).sum + x=l.sum:=by
 induction l generalizing i with
 | nil=>cases h
 | cons y l ih =>
  cases i with
  | zero=>cases h; rw[List.eraseIdx_cons_zero,jS,Nat.add_comm]
  | succ i=>rw[jX,jS,jS,Nat.add_assoc,ih h]
theorem map_erase {α β:Type} (f:α→β):∀(l:List α) (i:Nat),(l.map f).eraseIdx i=(l.eraseIdx i).map f
 | [],_=>rfl
 | x::l,0=>rfl
 | x::l,i + 1=>by
  show f x::(l.map f).eraseIdx i=_
  rw[map_erase f l i]
  rfl
theorem CS.meas_step {W:Wk} (ok:W.Ok) {S:CS} (h:CSok W S) {a:AR} (ha:S.first=some a) {u:Int} (hu:a.e.1≤u):(S.step W a).meas u < S.meas u:=by
 have hm:a ∈ S.ar:=zK ha
 obtain⟨h1,h2⟩:=h.ar a hm
 have hp:=getD_at (d:=sp0) (l:=S.st) (i:=a.s) (by rw[h.l1]; exact h1)
 obtain⟨w1,w2⟩:=h.ws _ _ hp
 have e1:((S.ar.map (arM u)).eraseIdx S.at).sum + arM u a=(S.ar.map (arM u)).sum:=sum_erase (by rw[zJ]; show(S.first).map _=_; rw[ha]; rfl)
 have e2:(S.ar.map (arM u)).eraseIdx S.at=(S.ar.eraseIdx S.at).map (arM u):=map_erase _ _ _
 rw[e2] at e1
 show((S.ar.eraseIdx S.at++putA W _ a.e.1 _).map (arM u)).sum < (S.ar.map (arM u)).sum
 rw[zS,List.sum_append]
 have hle:((putA W ((S.st.getD a.s sp0).out ((S.st.getD a.s sp0).ws.idxOf a.e.2.1) a.e.2.2) a.e.1 ((a.s:Int),((S.ev.getD a.s []).length:Int))).map (arM u)).sum < arM u a:=by
  have ha0:arM u a=(u + 2 - a.e.1).toNat:=rfl
  cases eo:(S.st.getD a.s sp0).out ((S.st.getD a.s sp0).ws.idxOf a.e.2.1) a.e.2.2 with
  | none=>show 0 < _; omega
  | some v =>
   obtain⟨bb,y⟩:=v
   have hbs:=SP.out_in eo
   rw[w2] at hbs
   obtain⟨_,_,_,_,_,q6,_⟩:=Wk.lv_goal ok hbs
   show(u + 2 - (a.e.1 + (W.be.getD bb.toNat (0,0,0)).2.2)).toNat + 0 < _
   omega
 omega
end Oc
namespace Oc
open PySem L2
def IsCau (H:Hp) (x:V):Cau→Prop
 | none=>x=.non
 | some c=>∃ p,x=.ref p∧H p=some (.tup [.int c.1,.int c.2])
inductive IsArr (H:Hp) (x:V) (a:AR):Prop where
 | mk (p xe xc:_) (h_0:x=.ref p) (h_1:H p=some (.tup [.int (a.s:Int),xe,xc])) (h_2:IsTri H xe a.e) (h_3:IsCau H xc a.c):IsArr H x a
def Tp (H H':Hp):Prop:=∀ b xs,H b=some (.tup xs)→H' b=some (.tup xs)
theorem Tp.refl (H:Hp):Tp H H:=fun _ _ e=>e
theorem Tp.trans {H H1 H2:Hp} (a:Tp H H1) (b:Tp H1 H2):Tp H H2:=fun c xs e=>b c xs (a c xs e)
theorem Tp.of {H H':Hp} (s:Same H H'):Tp H H':=fun b xs e=>s _ _ e
theorem Tp.sm {H H':Hp} (s:Sm H H'):Tp H H':=fun b xs e=>s.tup e
theorem Tp.tk {H H':Hp} (s:Tk H H'):Tp H H':=fun b xs e=>s.tup e
theorem Tp.put {H H':Hp} {a:Addr} {ys:List V} {o:HO} (k:Tp H H') (e:H' a=some (.lst ys)):Tp H (upd H' a o):=fun b xs eb=>by
 have e1:=k b xs eb
 rw[upd_ne (ne_of e1 e fun z=>nomatch z)]
 exact e1
theorem IsTri.tp {H H':Hp} (k:Tp H H') {x:V} {t:Tri} (h:IsTri H x t):IsTri H' x t:=let ⟨p,e,q⟩:=h; ⟨p,e,k _ _ q⟩
theorem IsCau.tp {H H':Hp} (k:Tp H H') {x:V}:∀ {c:Cau},IsCau H x c→IsCau H' x c
 | none,h=>h
 | some _,⟨p,e,q⟩=>⟨p,e,k _ _ q⟩
theorem IsArr.tp {H H':Hp} (k:Tp H H') {x:V} {a:AR} (h:IsArr H x a):IsArr H' x a:=let ⟨p,xe,xc,e,q,r1,r2⟩:=h; ⟨p,xe,xc,e,k _ _ q,r1.tp k,r2.tp k⟩
theorem evs_tp {H H':Hp} (k:Tp H H') {vs:List (List V)} {ts:List (List Tri)} (h:Paired (fun us ts=>Paired (IsTri H) us ts) vs ts):Paired (fun us ts=>Paired (IsTri H') us ts) vs ts:=pairedMono (fun _ _ h=>pairedMono (fun _ _ h=>h.tp k) h) h
theorem ogs_tp {H H':Hp} (k:Tp H H') {vs:List (List V)} {ts:List (List Cau)} (h:Paired (fun us ts=>Paired (IsCau H) us ts) vs ts):Paired (fun us ts=>Paired (IsCau H') us ts) vs ts:=pairedMono (fun _ _ h=>pairedMono (fun _ _ h=>h.tp k) h) h
theorem _root_.L2.LamT.tk {P:Addr} {q:Str} {ln cl:Nat} {H H':Hp} (h:LamT P q ln cl H) (k:Tk H H'):LamT P q ln cl H':=by
 rcases h with h|⟨c',h1,h2⟩
 ·exact .inl (k _ _ h trivial)
 ·exact .inr ⟨c',k _ _ h1 trivial,k _ _ h2 trivial⟩
theorem hc_drop {H:Hp} {M:List (List Cell)}:∀ {As:List (List Cell)},Hc H (As++M)→Hc H M
 | [],h=>h
 | _::_,h=>hc_drop h.tl
def WkIn (M:List (List Cell)) (w:Addr) (W:Wk):Prop:=∀ H,Hc H M→WkAt H w W
inductive spAtD (Pd:Addr) (vs:List V) (H:Hp) (Q:VK) (x_3:XK):Prop where
 | mk (w:Addr) (W:Wk) (M:List (List Cell)) (h_0:vs=[.ref w]) (h_1:Hc H M) (h_2:NoT M) (h_3:WkAt H w W) (h_4:W.Ok) (h_5:DoorT Pd H) (h_6:∀(D:Addr) (xs:List V) (H':Hp),Hc H' ([(D,.lst xs)]::M)→Paired (IsArr H') xs (W.ars W.st.length)→Sm H H'→DoorT Pd H'→xs.length≤480→Q (.ref D) H'):spAtD Pd vs H Q x_3
inductive spArr (vs:List V) (H:Hp) (Q:VK) (x_3:XK):Prop where
 | mk (w p c:Addr) (W:Wk) (b y t:Int) (ci:Int × Int) (h_0:vs=[.ref w,.ref p,.int t,.ref c]) (h_1:WkAt H w W) (h_2:W.Ok) (h_3:H p=some (.tup [.int b,.int y])) (h_4:0≤b) (h_5:b < W.be.length) (h_6:H c=some (.tup [.int ci.1,.int ci.2])) (h_7:∀(x:V) (H':Hp),IsArr H' x (arrOf W b y t ci)→Same H H'→Q x H'):spArr vs H Q x_3
section
variable {P:Program} {w:World} {K:PySem.W.Frag} {mg:Str→Option Value} {base:Heap}
theorem sc_atd:FnScope ["works","arrivals","station","event"] ["works"] (defScope (top 16)):=⟨rfl,rfl,rfl,by decide +kernel,rfl,by decide +kernel,by decide +kernel⟩
theorem ok_atd {f Pd:Addr} {fd:FuncData} (F:Fun K "at_doors" "at_doors" (top 16) f fd) (T:Txt K mg) (G_door_events:FnAt P w K mg base 2 "door_events" ["works","station"] (spDE Pd)):FnOk P w K mg base CX0 3 f fd ["works"] (spAtD Pd):=by
 have nd:=sc_atd.nd
 refine F.ok sc_atd (fun vs H Q E h=>?_) (fun cdv A outer s H vs Q E hr h=>?_)
 ·obtain⟨w,W,M,rfl,_⟩:=h
  rfl
 ·refine abb fun Gz hGz=>?_
  obtain⟨w,W,M,rfl,hc,nT,hw,ok,hT,q⟩:=h
  obtain⟨sa,ba,fa,xs,ys,zs,h1,h2⟩:=id hw.ex
  refine hGz ?_
  have ls:=h2.ps.length
  have s8:=ok.s8
  refine⟨_,(@pss_cons _ _ _ _ _ (ps_set (i:=1) nd rfl (by first|exact Or.inl rfl|exact Or.inr rfl) (@pe_lst _ _ _ _ pa_nil))
   (@pss_cons _ _ _ _ _ (ps_for PassesOwn.never rfl (pi_range1 rfl T.n_range (@pa_cons _ _ _ _ _ (pe_callB (call_len_seqK (K:=K) rfl) (by rfl) T.n_len bt_len (@pa_cons _ _ _ _ _ (@pe_ix _ _ _ _ _ _ _ (ix_tupK (K:=K) rfl) (pv 0) pe_int (fun _ _=>rfl)) pa_nil (by rfl))) pa_nil (by rfl))) (pg_name (i:=2) nd rfl (by first|exact Or.inl rfl|exact Or.inr rfl)) (@pss_one _ _ _ (ps_for PassesOwn.never rfl (pi_listK (K:=K) rfl (pe_fn G_door_events (hr.mono (by decide)) (by rfl) (@pa_cons _ _ _ _ _ (pv 0) (@pa_cons _ _ _ _ _ (pv 2) pa_nil (by rfl)) (by rfl)))) (pg_name (i:=3) nd rfl (by first|exact Or.inl rfl|exact Or.inr rfl)) (@pss_one _ _ _ (ps_expr (pe_bm PySem.F.plainAttrs_list PySem.F.slot_list_append PySem.F.type_list_append mt_append (pv 1) (@pa_cons _ _ _ _ _ (@pe_tup _ _ _ _ _ (@pa_cons _ _ _ _ _ (pv 2) (@pa_cons _ _ _ _ _ (pv 3) (@pa_cons _ _ _ _ _ pe_non pa_nil (by rfl)) (by rfl)) (by rfl))) pa_nil (by rfl))))))))
   (@pss_one _ _ _ (@ps_ret _ _ _ _ (pv 1))))),?_⟩
  refine⟨zZ _,fun D nD=>?_⟩
  have t0:Same H (upd H D (.lst [])):=Same.new nD
  have hc0:=hc.new nD (.lst [])
  refine⟨_,rfl,(jxTc (j:=0) (t0 _ _ h1) rfl ⟨sa,xs,rfl,.inl (SqL.of (t0 _ _ h2.hs)),_,rfl,by rw[p62]; omega,by rw[p62]; omega,for_range (n:=(xs.length:Int).toNat) (fun i σ H4=>∃(us:List V) (v2 v3:Option V),σ=[some (.ref w),some (.ref D),v2,v3]∧Sm H H4∧Hc H4 ([(D,.lst us)]::M)∧Paired (IsArr H4) us (W.ars i)∧DoorT Pd H4∧us.length≤60 * i)
   ⟨[],_,_,rfl,Sm.of t0,hc0,.nil,hT.same t0,zZ _⟩ ?_ ?_⟩)⟩
  ·rintro i σ H4 hi hz0
   refine abb fun Gz hGz=>?_
   obtain⟨us,v2,v3,rfl,s4,hc4,pr4,hT4,l4⟩:=hz0
   refine hGz ?_
   rw[kF]
   first|(refine tvC rfl ?_)|(refine tvO rfl ?_)|(refine tvK rfl ?_)|(refine tv rfl ?_)|(refine⟨_,rfl,?_⟩)
   first|(ac_rfl; refine⟨w,W,i,rfl,hw.sm s4,ok,hT4,fun p rs H5 np hp prs sm5 hT5 l60=>?_⟩)|(refine⟨_,rfl,w,W,i,rfl,hw.sm s4,ok,hT4,fun p rs H5 np hp prs sm5 hT5 l60=>?_⟩)
   have nT4:NoT ([(D,.lst us)]::M):=nT.lst
   have hc5:=hc4.sm nT4 sm5
   have pr5:=pairedMono (fun _ _ h=>IsArr.tp (Tp.sm sm5) h) pr4
   have lr:=prs.length
   have nDp:D ≠ p:=fun z=>by
    have e:=hc4.get 0 0 rfl rfl
    rw[z,np] at e
    cases e
   refine⟨p,rfl,⟨_,SqL.of hp⟩,for_list (K:=K) (a:=p) (xs:=rs) (fun j σ H6=>∃(vs:List V) (v3:Option V),σ=[some (.ref w),some (.ref D),some (.int (i:Int)),v3]∧H6 p=some (.lst rs)∧Sm H H6∧Tp H5 H6∧Hc H6 ([(D,.lst vs)]::M)∧Paired (IsArr H6) vs (W.ars i++((W.de i).take j).map fun e=>⟨i,e,none⟩)∧DoorT Pd H6∧vs.length=us.length + j)
    ⟨us,_,rfl,hp,s4.trans sm5,Tp.refl _,hc5,by rw[kT,jY,yF]; exact pr5,hT5,rfl⟩ (fun j σ H6 _ ⟨_,_,_,e,_⟩=>SqL.of e) ?_ ?_⟩
   ·rintro j x σ H6 hx hz1
    refine abb fun Gz hGz=>?_
    obtain⟨vs,v3',rfl,hp6,s6,tp6,hc6,pr6,hT6,l6⟩:=hz1
    obtain⟨t,ht,htr⟩:=prs.gt hx
    refine hGz ?_
    have hj:=(zA.mp hx).1
    have g6:=hc6.get 0 0 rfl rfl
    first|(ac_rfl; refine⟨tyL g6,_,rfl,_,rfl,(by show 3≤sizeLine; decide),fun pt npt=>?_⟩)|(refine⟨_,rfl,tyL g6,_,rfl,_,rfl,(by show 3≤sizeLine; decide),fun pt npt=>?_⟩)
    have s7:Same H6 (upd H6 pt (.tup [.int (i:Int),x,.non])):=Same.new npt
    have g7:=s7 _ _ g6
    have nDH:H D=none:=nD
    refine⟨_,_,_,rfl,rfl,g7,smallM (by omega),?_⟩
    have t7:Tp H6 (upd (upd H6 pt (.tup [.int (i:Int),x,.non])) D (.lst (vs++[.ref pt]))):=(Tp.of s7).put g7
    refine⟨vs++[.ref pt],_,rfl,?_,(s6.trans (Sm.of s7)).upd nDH,tp6.trans t7,(hc6.same s7).put 0 0 rfl rfl _,?_,(hT6.same s7).updL g7,by rw[zM,l6]; rfl⟩
    ·rw[upd_ne nDp.symm]; exact s7 _ _ hp6
    ·rw[take_1 ht,zS,← zQ]
     refine paired_app (pairedMono (fun _ _ h=>IsArr.tp t7 h) pr6) (.cons ⟨pt,x,.non,rfl,?_,(htr.tp tp6).tp t7,rfl⟩ .nil)
     rw[upd_ne (ne_of (upd_same (H:=H6) (a:=pt)) g7 fun z=>nomatch z)]
     exact upd_same
   ·rintro σ H6 hz2
    refine abb fun Gz hGz=>?_
    obtain⟨vs,v3',rfl,hp6,s6,tp6,hc6,pr6,hT6,l6⟩:=hz2
    refine hGz ?_
    rw[lr,yM] at pr6
    refine⟨vs,_,_,rfl,s6,hc6,?_,hT6,by omega⟩
    have e:W.ars (i + 1)=W.ars i++(W.de (i:Int)).map fun e=>⟨i,e,none⟩:=by
     unfold Wk.ars
     rw[List.range_succ,yN]
     simp
    rw[e]
    exact pr6
  ·rintro σ H4 hz3
   refine abb fun Gz hGz=>?_
   obtain⟨us,v2,v3,rfl,s4,hc4,pr4,hT4,l4⟩:=hz3
   refine hGz ?_
   have e:((xs.length:Nat):Int).toNat=W.st.length:=by omega
   rw[e] at pr4 l4
   first|(ac_rfl; exact q D us H4 hc4 pr4 s4 hT4 (by omega))|(exact⟨_,rfl,q D us H4 hc4 pr4 s4 hT4 (by omega)⟩)
theorem sc_arr:FnScope ["works","put","time","cause","belt"] ["works","put","time","cause"] (defScope (top 17)):=⟨rfl,rfl,rfl,by decide +kernel,rfl,by decide +kernel,by decide +kernel⟩
theorem ok_arr {f:Addr} {fd:FuncData} (F:Fun K "arrival_of" "arrival_of" (top 17) f fd):FnOk P w K mg base CX0 1 f fd ["works","put","time","cause"] spArr:=by
 have nd:=sc_arr.nd
 refine F.ok sc_arr (fun vs H Q E h=>?_) (fun cdv A outer s H vs Q E hr h=>?_)
 ·obtain⟨w,p,c,W,b,y,t,ci,rfl,_⟩:=h
  rfl
 ·refine abb fun Gz hGz=>?_
  obtain⟨w,p,c,W,b,y,t,ci,rfl,hw,ok,hp,b0,b1,hci,q⟩:=h
  obtain⟨sa,ba,fa,xs,ys,zs,h1,h2⟩:=hw.ex
  have lb:=h2.pb.length
  obtain⟨xv,hx⟩:∃ x,ys[b.toNat]?=some x:=⟨ys[b.toNat]'(by omega),zC _⟩
  obtain⟨tr,htr,a0,rfl,ha⟩:=h2.pb.gt hx
  have eg:W.be.getD b.toNat (0,0,0)=tr:=by rw[zE,htr]; rfl
  obtain⟨q1,q2,q3,q4,q5,q6⟩:=ok.bel tr (zK htr)
  refine hGz ?_
  have eb:b=(b.toNat:Int):=by omega
  refine⟨_,(@pss_cons _ _ _ _ _ (ps_set (i:=4) nd rfl (by first|exact Or.inl rfl|exact Or.inr rfl) (@pe_ix _ _ _ _ _ _ _ (ix_listK (K:=K) rfl) (@pe_ix _ _ _ _ _ _ _ (ix_tupK (K:=K) rfl) (pv 0) pe_int (fun _ _=>rfl)) (@pe_ix _ _ _ _ _ _ _ (ix_tupK (K:=K) rfl) (pv 1) pe_int (fun _ _=>rfl)) (fun _ _=>rfl)))
   (@pss_one _ _ _ (@ps_ret _ _ _ _ (@pe_tup _ _ _ _ _ (@pa_cons _ _ _ _ _ (@pe_ix _ _ _ _ _ _ _ (ix_tupK (K:=K) rfl) (pv 4) pe_int (fun _ _=>rfl)) (@pa_cons _ _ _ _ _ (@pe_tup _ _ _ _ _ (@pa_cons _ _ _ _ _ (pe_op op_add (pv 2) (@pe_ix _ _ _ _ _ _ _ (ix_tupK (K:=K) rfl) (pv 4) pe_int (fun _ _=>rfl))) (@pa_cons _ _ _ _ _ (@pe_ix _ _ _ _ _ _ _ (ix_tupK (K:=K) rfl) (pv 1) pe_int (fun _ _=>rfl)) (@pa_cons _ _ _ _ _ (@pe_ix _ _ _ _ _ _ _ (ix_tupK (K:=K) rfl) (pv 1) pe_int (fun _ _=>rfl)) pa_nil (by rfl)) (by rfl)) (by rfl))) (@pa_cons _ _ _ _ _ (pv 3) pa_nil (by rfl)) (by rfl)) (by rfl)))))),?_⟩
  first|(ac_rfl; refine(jxTc (j:=1) h1 rfl ⟨_,rfl,(jxTc (j:=0) hp rfl ⟨_,_,_,_,rfl,rfl,SqL.of h2.hb,(by rw[eb]; exact atI_nat hx),?_⟩)⟩))|(refine⟨_,rfl,(jxTc (j:=1) h1 rfl ⟨_,rfl,(jxTc (j:=0) hp rfl ⟨_,_,_,_,rfl,rfl,SqL.of h2.hb,(by rw[eb]; exact atI_nat hx),?_⟩)⟩)⟩)
  first|(ac_rfl; refine(jxTc (j:=1) ha rfl ⟨_,rfl,_,rfl,(jxTc (j:=2) ha rfl ⟨_,_,rfl,rfl,_,rfl,(jxTc (j:=0) hp rfl ⟨_,rfl,(jxTc (j:=1) hp rfl ⟨(by show 3≤sizeLine; decide),fun pe npe=>?_⟩)⟩)⟩)⟩))|(refine⟨_,rfl,(jxTc (j:=1) ha rfl ⟨_,rfl,_,rfl,(jxTc (j:=2) ha rfl ⟨_,_,rfl,rfl,_,rfl,(jxTc (j:=0) hp rfl ⟨_,rfl,(jxTc (j:=1) hp rfl ⟨(by show 3≤sizeLine; decide),fun pe npe=>?_⟩)⟩)⟩)⟩)⟩)
  have s1:Same H (upd H pe (.tup [.int (t + tr.2.2),.int b,.int y])):=Same.new npe
  first|(ac_rfl; refine⟨(by show 3≤sizeLine; decide),fun pa npa=>?_⟩)|(refine⟨_,rfl,(by show 3≤sizeLine; decide),fun pa npa=>?_⟩)
  have s2:=Same.new (o:=.tup [.int tr.2.1,.ref pe,.ref c]) npa
  refine q _ _ ⟨pa,.ref pe,.ref c,rfl,?_,⟨pe,rfl,?_⟩,⟨c,rfl,(s1.trans s2) _ _ hci⟩⟩ (s1.trans s2)
  ·rw[upd_same]
   show some (HO.tup [V.int tr.2.1,_,_])=some (HO.tup [V.int (((W.be.getD b.toNat (0,0,0)).2.1).toNat:Int),_,_])
   rw[eg,jI q3]
  ·rw[s2 _ _ upd_same]
   show some (HO.tup [V.int (t + tr.2.2),V.int b,V.int y])=some (HO.tup (triV (t + (W.be.getD b.toNat (0,0,0)).2.2,b,y)))
   rw[eg]
   rfl
end
end Oc
namespace Oc
open PySem L2
def cauD:Cau→PyData
 | none=>.none
 | some c=>.tuple [.int c.1,.int c.2]
def arD (a:AR):PyData:=.tuple [.int (a.s:Int),triD a.e,cauD a.c]
theorem IsCau.dt {K:PySem.W.Frag} {H:Hp} {x:V}:∀ {c:Cau},IsCau H x c→Dt K H 1 x (cauD c)
 | none,h=>by cases h; exact .non 1
 | some _,⟨p,e,q⟩=>by subst e; exact .tup (SqT.of q) (.cons (.int _ _) (.cons (.int _ _) (.nil _)))
theorem IsArr.dt {K:PySem.W.Frag} {H:Hp} {x:V} {a:AR} (h:IsArr H x a):Dt K H 2 x (arD a):=by
 obtain⟨p,xe,xc,rfl,e,r1,r2⟩:=h
 exact .tup (SqT.of e) (.cons (.int _ _) (.cons r1.dt (.cons r2.dt (.nil _))))
theorem eqv_key {a b:AR} (h:PyData.eqv (arD a) (arD b)=true):a.key=b.key:=by
 unfold arD triD at h
 simp only [PyData.eqv,PyData.eqvAll,kM,beq_iff_eq] at h
 obtain⟨_,⟨h1,h2,_⟩,_⟩:=h
 unfold AR.key
 rw[h1,h2]
theorem lexLt_irrefl (a b:Int):HT.lexLt [a,b] [a,b]=false:=by simp [HT.lexLt]
theorem kLt_irrefl (k:Int × Int):kLt k k=false:=lexLt_irrefl _ _
theorem kLt_iff (a b:Int × Int):kLt a b=true ↔ a.1 < b.1∨(a.1=b.1∧a.2 < b.2):=by
 unfold kLt
 simp only [HT.lexLt]
 split <;> simp_all <;> omega
theorem kLt_trans {a b c:Int × Int} (h1:kLt a b=true) (h2:kLt b c=true):kLt a c=true:=by
 rw[kLt_iff] at *
 rcases h1 with h|⟨h,h'⟩
 ·rcases h2 with g|⟨g,_⟩
  ·exact .inl (vH h g)
  ·exact .inl (by rw[← g]; exact h)
 ·rcases h2 with g|⟨g,g'⟩
  ·exact .inl (by rw[h]; exact g)
  ·exact .inr ⟨h.trans g,vH h' g'⟩
theorem kLt_le {a b c:Int × Int} (h1:kLt a b=true) (h2:kLt c b=false):kLt a c=true:=by
 have n:¬ (c.1 < b.1∨(c.1=b.1∧c.2 < b.2)):=fun q=>by rw[(kLt_iff c b).mpr q] at h2; cases h2
 rw[kLt_iff] at h1 ⊢
 rcases Int.lt_trichotomy b.1 c.1 with q|q|q
 ·rcases h1 with h|⟨h,_⟩
  ·exact .inl (vH h q)
  ·exact .inl (by rw[h]; exact q)
 ·have g:b.2≤c.2:=jL.mp fun z=>n (.inr ⟨q.symm,z⟩)
  rcases h1 with h|⟨h,h'⟩
  ·exact .inl (by rw[← q]; exact h)
  ·exact .inr ⟨h.trans q,Int.lt_of_lt_of_le h' g⟩
 ·exact absurd (.inl q) n
theorem best_min (ks:List (Int × Int)) (n:Nat):∀ m,m≤n→kLt (ks.getD m (0,0)) (ks.getD (argBest (fun i j=>kLt (ks.getD i (0,0)) (ks.getD j (0,0))) n) (0,0))=false:=by
 induction n with
 | zero=>intro m h; rw[Nat.le_zero.mp h]; exact kLt_irrefl _
 | succ n ih =>
  intro m h
  simp only [argBest]
  by_cases e:kLt (ks.getD (n + 1) (0,0)) (ks.getD (argBest (fun i j=>kLt (ks.getD i (0,0)) (ks.getD j (0,0))) n) (0,0))=true
  ·rw[if_pos e]
   by_cases hm:m=n + 1
   ·rw[hm]; exact kLt_irrefl _
   ·cases q:kLt (ks.getD m (0,0)) (ks.getD (n + 1) (0,0)) with
    | false=>rfl
    | true =>
     have:=kLt_trans q e
     rw[ih m (by omega)] at this
     cases this
  ·rw[if_neg e]
   by_cases hm:m=n + 1
   ·rw[hm]; simpa using e
   ·exact ih m (by omega)
theorem best_first (ks:List (Int × Int)) (n:Nat):∀ m,m < argBest (fun i j=>kLt (ks.getD i (0,0)) (ks.getD j (0,0))) n→kLt (ks.getD (argBest (fun i j=>kLt (ks.getD i (0,0)) (ks.getD j (0,0))) n) (0,0)) (ks.getD m (0,0))=true:=by
 induction n with
 | zero=>intro m h; exact absurd h (jC _)
 | succ n ih =>
  intro m h
  have hb:=best_lt (fun i j=>kLt (ks.getD i (0,0)) (ks.getD j (0,0))) n
  simp only [argBest] at h ⊢
  by_cases e:kLt (ks.getD (n + 1) (0,0)) (ks.getD (argBest (fun i j=>kLt (ks.getD i (0,0)) (ks.getD j (0,0))) n) (0,0))=true
  ·rw[if_pos e] at h ⊢
   exact kLt_le e (best_min ks n m (by omega))
  ·rw[if_neg e] at h ⊢
   exact ih m h
theorem at_lt {S:CS} {a:AR} (h:S.first=some a):S.at < S.ar.length:=(zA.mp h).1
theorem first_only {S:CS} {a:AR} (h:S.first=some a):∀ m,m < S.at→PyData.eqv ((S.ar.map arD).getD m .none) (arD a)=false:=fun m hm=>by
 have hl:=at_lt h
 have em:S.ar[m]?=some (S.ar[m]'(by omega)):=zC _
 rw[zE,zJ,em]
 show PyData.eqv (arD S.ar[m]) (arD a)=false
 cases q:PyData.eqv (arD S.ar[m]) (arD a) with
 | false=>rfl
 | true =>
  have hk:=eqv_key q
  have hb:=best_first (S.ar.map AR.key) ((S.ar.map AR.key).length - 1) m hm
  have e1:(S.ar.map AR.key).getD m (0,0)=(S.ar[m]'(by omega)).key:=by rw[zE,zJ,em]; rfl
  have e2:(S.ar.map AR.key).getD S.at (0,0)=a.key:=by
   rw[zE,zJ]
   show((S.first).map AR.key).getD _=_
   rw[h]
   rfl
  have hb':kLt ((S.ar.map AR.key).getD S.at (0,0)) ((S.ar.map AR.key).getD m (0,0))=true:=hb
  rw[e1,e2,hk,kLt_irrefl] at hb'
  cases hb'
theorem ar_can (a:AR):(arD a).canLay0=true:=by
 unfold arD triD
 cases a.c <;> rfl
theorem first_is {S:CS} {a:AR} (h:S.first=some a):PyData.eqv ((S.ar.map arD).getD S.at .none) (arD a)=true:=by
 rw[zE,zJ]
 show PyData.eqv (((S.first).map arD).getD .none) (arD a)=true
 rw[h]
 exact SeqAt.eqv_refl _ (ar_can a)
theorem stC_cut (cs:Cs) (A B:List SR) (r:SR):stC cs (A++r::B)=stC cs A++(srC cs r++stC cs B):=by
 unfold stC
 rw[yN,jP]
theorem st_take {cs:Cs} {A B:List SR} {r:SR} {H:Hp} {M:List (List Cell)} (hc:Hc H (stC cs (A++r::B)::M)):Hc H (srC cs r::(stC cs A++stC cs B)::M):=by
 rw[stC_cut] at hc
 have h1:=hc.split.swap.split
 exact((h1.pick 1 rfl).pick 2 rfl).join.swap
theorem st_back {cs:Cs} {A B:List SR} {r:SR} {H:Hp} {M:List (List Cell)} (hc:Hc H (srC cs r::(stC cs A++stC cs B)::M)):Hc H (stC cs (A++r::B)::M):=by
 rw[stC_cut]
 have h1:Hc H (stC cs A::stC cs B::srC cs r::M):=hc.swap.split
 have h2:Hc H (srC cs r::stC cs B::stC cs A::M):=(h1.pick 1 rfl).pick 2 rfl
 exact h2.join.swap.join
theorem liC_set {as:List Addr} {vs:List (List V)} {j:Nat} {a:Addr} {v:List V} (h:as[j]?=some a):(liC as vs).set j (a,.lst v)=liC as (vs.set j v):=by
 unfold liC
 rw[rowsC_set h,kD]
theorem paired_set {α β:Type} {F:α→β→Prop}:∀ {l:List α} {m:List β} {i:Nat} {x:α} {y:β},Paired F l m→F x y→Paired F (l.set i x) (m.set i y)
 | _,_,_,_,_,.nil,_=>.nil
 | _,_,0,_,_,.cons _ r,h=>.cons h r
 | _,_,i + 1,_,_,.cons p r,h=>.cons p (paired_set r h)
theorem paired_erase {α β:Type} {F:α→β→Prop}:∀ {l:List α} {m:List β} {i:Nat},Paired F l m→Paired F (l.eraseIdx i) (m.eraseIdx i)
 | _,_,_,.nil=>.nil
 | _,_,0,.cons _ r=>r
 | _,_,i + 1,.cons p r=>.cons p (paired_erase r)
theorem all_set {α:Type} {p:α→Prop} {l:List α} {i:Nat} {x:α} (h:∀ y ∈ l,p y) (hx:p x):∀ y ∈ l.set i x,p y:=fun y hy=>by
 rcases kW hy with e|e
 ·exact h y e
 ·rw[e]; exact hx
end Oc
namespace Oc
open PySem L2
inductive spTr (Pd:Addr) (vs:List V) (H:Hp) (Q:VK) (x_3:XK):Prop where
 | mk (w:Addr) (u:Int) (W:Wk) (M:List (List Cell)) (h_0:vs=[.ref w,.int u]) (h_1:Hc H M) (h_2:NoT M) (h_3:WkIn M w W) (h_4:W.Ok) (h_5:DoorT Pd H) (h_6:u≤60) (h_7:∀(R:CS) (t D1 D2:Addr) (ea oa:List Addr) (evv ogv:List (List V)) (H':Hp),Runs W u W.cs R→CSok W R→Hc H' ([(t,.tup [.ref D1,.ref D2])]::[(D2,.lst (oa.map V.ref))]::liC oa ogv::[(D1,.lst (ea.map V.ref))]::liC ea evv::M)→ea.length=evv.length→oa.length=ogv.length→Paired (fun us ts=>Paired (IsTri H') us ts) evv R.ev→Paired (fun us ts=>Paired (IsCau H') us ts) ogv R.og→Tp H H'→DoorT Pd H'→(∀ us ∈ evv,us.length≤30000)→Q (.ref t) H'):spTr Pd vs H Q x_3
theorem paired_map {α β γ:Type} {F:α→β→Prop} {G:α→γ→Prop} {f:β→γ}:∀ {l:List α} {m:List β},(∀ a,∀ b ∈ m,F a b→G a (f b))→Paired F l m→Paired G l (m.map f)
 | _,_,_,.nil=>.nil
 | _,_,h,.cons p r=>.cons (h _ _ zN p) (paired_map (fun a b hb=>h a b (zI _ hb)) r)
structure Lp (cs:Cs) (Pd:Addr) (W:Wk) (u:Int) (M:List (List Cell)) (D D1 D2 D3:Addr) (ea oa:List Addr) (H H5:Hp) (S:CS) (srs:List SR) (evv ogv:List (List V)) (xs:List V) (k:Nat):Prop where
 hc:Hc H5 ([(D3,.lst xs)]::[(D2,.lst (oa.map V.ref))]::liC oa ogv::[(D1,.lst (ea.map V.ref))]::liC ea evv::[(D,.lst (srefs srs))]::stC cs srs::M)
 st:srs.map SR.pu=S.st
 so:∀ r ∈ srs,SOk k r
 km:k + S.meas u≤30000
 le:∀ us ∈ evv,us.length≤k
 lo:∀ us ∈ ogv,us.length≤k
 lx:xs.length≤480
 ar:Paired (IsArr H5) xs S.ar
 ev:Paired (fun us ts=>Paired (IsTri H5) us ts) evv S.ev
 og:Paired (fun us ts=>Paired (IsCau H5) us ts) ogv S.og
 ok:CSok W S
 rn:∀ R,Runs W u S R→Runs W u W.cs R
 tp:Tp H H5
 dT:DoorT Pd H5
 l1:ea.length=evv.length
 l2:oa.length=ogv.length
theorem Wk.de_time {W:Wk} (ok:W.Ok) {s:Int} {e:Tri} (h:e ∈ W.de s):0≤e.1∧e.2.1=-1∧∃ f ∈ W.fe,f.1=s∧e=(f.2.1,-1,f.2.2):=by
 unfold Wk.de Wk.dr at h
 obtain⟨p,hp,rfl⟩:=yH.mp h
 obtain⟨f,hf,rfl⟩:=yH.mp hp
 obtain⟨h1,h2⟩:=W.drs_mem hf
 obtain⟨_,_,q3,_⟩:=ok.fee f h1
 exact⟨q3,rfl,f,h1,h2,rfl⟩
theorem ars_in {W:Wk} {n:Nat} {a:AR} (h:a ∈ W.ars n):a.s < n∧a.e ∈ W.de (a.s:Int)∧a.c=none:=by
 unfold Wk.ars at h
 obtain⟨s,hs,ha⟩:=jV.mp h
 obtain⟨e,he,rfl⟩:=yH.mp ha
 exact⟨yV.mp hs,he,rfl⟩
theorem cs_ok {W:Wk} (ok:W.Ok):CSok W W.cs:=by
 refine⟨?_,?_,?_,fun s p hs=>?_,fun a ha=>?_⟩
 ·show((List.range W.st.length).map W.sp).length=_; rw[zB,yT]
 ·show(W.st.map fun _=>([]:List Tri)).length=_; rw[zB]
 ·show(W.st.map fun _=>([]:List Cau)).length=_; rw[zB]
 ·have hs':((List.range W.st.length).map W.sp)[s]?=some p:=hs
  rw[zJ] at hs'
  cases e:(List.range W.st.length)[s]? with
  | none=>rw[e] at hs'; cases hs'
  | some s' =>
   rw[e] at hs'
   cases hs'
   have:s'=s:=by
    have h1:=(zA.mp e).2
    rw[List.getElem_range] at h1
    exact h1.symm
   rw[this]
   exact⟨rfl,rfl⟩
 ·obtain⟨h1,h2,_⟩:=ars_in ha
  obtain⟨_,h3,f,hf,h4,_⟩:=W.de_time ok h2
  refine⟨h1,?_⟩
  rw[h3]
  unfold Wk.wy
  rw[if_pos (List.any_eq_true.mpr ⟨f,hf,by simpa using h4⟩)]
  exact yS _ zN
theorem sum_le {α:Type} {f:α→Nat} {l:List α} {b:Nat} (h:∀ x ∈ l,f x≤b):(l.map f).sum≤l.length * b:=by
 induction l with
 | nil=>exact zZ _
 | cons x l ih =>
  have h1:=h x zN
  have h2:=ih fun y hy=>h y (zI _ hy)
  rw[yI,jS,zP,Nat.add_mul,Nat.one_mul]
  omega
theorem meas0 {W:Wk} (ok:W.Ok) {u:Int} (hu:u≤60) (h1:(W.ars W.st.length).length≤480):W.cs.meas u≤30000:=by
 have h2:((W.ars W.st.length).map (arM u)).sum≤(W.ars W.st.length).length * 62:=sum_le fun a ha=>by
  obtain⟨_,h2,_⟩:=ars_in ha
  obtain⟨h3,_⟩:=W.de_time ok h2
  show(u + 2 - a.e.1).toNat≤62
  omega
 show((W.ars W.st.length).map (arM u)).sum≤30000
 have h3:(W.ars W.st.length).length * 62≤480 * 62:=Nat.mul_le_mul_right _ h1
 omega
section
variable {P:Program} {w:World} {K:PySem.W.Frag} {mg:Str→Option Value} {base:Heap}
theorem sc_tr:FnScope ["works","until","takers","events","origins","arrivals","first","station","event","put"] ["works","until"] (defScope (top 19)):=⟨rfl,rfl,rfl,by decide +kernel,rfl,by decide +kernel,by decide +kernel⟩
theorem ok_tr {f fR Pd:Addr} {cs:Cs} {fd:FuncData} (F:Fun K "traced" "traced" (top 19) f fd) (T:Txt K mg) (cc:CsOk K cs) (G_station_of:FnAt P w K mg base 4 "station_of" ["works","station"] (spSo cs)) (G_at_doors:FnAt P w K mg base 3 "at_doors" ["works"] (spAtD Pd))
  (G_arrival_of:FnAt P w K mg base 1 "arrival_of" ["works","put","time","cause"] spArr) (g_rank:mg "rank"=some (.ref fR)) (h_rank:∀ A:Around,A.depth < recursionLimit→PairFn P w K A.in1 fR) (G_take:∀ k,MethAt P w K mg base 2 (cs.of k) "take" ["self","way","piece"] (spTk cs k)) :
  FnOk P w K mg base CX0 5 f fd ["works","until"] (spTr Pd):=by
 have nd:=sc_tr.nd
 refine F.ok sc_tr (fun vs H Q E h=>?_) (fun cdv A outer s H vs Q E hr h=>?_)
 ·obtain⟨w,u,W,M,rfl,_⟩:=h
  rfl
 ·refine abb fun Gz hGz=>?_
  obtain⟨w,u,W,M,rfl,hc,nT,hw,ok,hT,hu,q⟩:=h
  have hw0:=hw H hc
  obtain⟨sa,ba,fa,xs0,ys0,zs0,h1,h2⟩:=id hw0.ex
  refine hGz ?_
  have ls:=h2.ps.length
  have s8:=ok.s8
  refine⟨_,(@pss_cons _ _ _ _ _ (ps_setC (i:=2) nd rfl (Or.inl rfl) rfl (own:=["station"]) (fr:=["works"]) (js:=[0]) ⟨rfl,rfl,by decide +kernel,by decide +kernel,by repeat (first|exact Each.nil|refine Each.cons rfl ?_),by repeat (first|exact Each.nil|refine Each.cons rfl ?_),by repeat (first|exact Paired.nil|refine Paired.cons ⟨rfl,by first|exact Or.inl rfl|exact Or.inr rfl,by first|exact Or.inl rfl|exact Or.inr rfl⟩ ?_),rfl⟩ (pi_range1 rfl T.n_range (@pa_cons _ _ _ _ _ (pe_callB (call_len_seqK (K:=K) rfl) (by rfl) T.n_len bt_len (@pa_cons _ _ _ _ _ (@pe_ix _ _ _ _ _ _ _ (ix_tupK (K:=K) rfl) (pv 0) pe_int (fun _ _=>rfl)) pa_nil (by rfl))) pa_nil (by rfl))) (fun _ _ _ _=>(pg_name (i:=0) (show List.Nodup (["station","works"]:List Str) from by decide +kernel) rfl (by first|exact Or.inl rfl|exact Or.inr rfl))) (fun _ _ _ _=>pts_nil) (fun _ _ _ _=>(pe_fn G_station_of (hr.mono (by decide)) (by rfl) (@pa_cons _ _ _ _ _ (pv 1) (@pa_cons _ _ _ _ _ (pv 0) pa_nil (by rfl)) (by rfl)))))
   (@pss_cons _ _ _ _ _ (ps_setC (i:=3) nd rfl (Or.inl rfl) rfl (own:=["taker"]) (fr:=[]) (js:=[]) ⟨rfl,rfl,by decide +kernel,by decide +kernel,by repeat (first|exact Each.nil|refine Each.cons rfl ?_),by repeat (first|exact Each.nil|refine Each.cons rfl ?_),by repeat (first|exact Paired.nil|refine Paired.cons ⟨rfl,by first|exact Or.inl rfl|exact Or.inr rfl,by first|exact Or.inl rfl|exact Or.inr rfl⟩ ?_),rfl⟩ (pi_listK (K:=K) rfl (pv 2)) (fun _ _ _ _=>(pg_name (i:=0) (show List.Nodup (["taker"]:List Str) from by decide +kernel) rfl (by first|exact Or.inl rfl|exact Or.inr rfl))) (fun _ _ _ _=>pts_nil) (fun _ _ _ _=>(@pe_lst _ _ _ _ pa_nil)))
   (@pss_cons _ _ _ _ _ (ps_setC (i:=4) nd rfl (Or.inl rfl) rfl (own:=["taker"]) (fr:=[]) (js:=[]) ⟨rfl,rfl,by decide +kernel,by decide +kernel,by repeat (first|exact Each.nil|refine Each.cons rfl ?_),by repeat (first|exact Each.nil|refine Each.cons rfl ?_),by repeat (first|exact Paired.nil|refine Paired.cons ⟨rfl,by first|exact Or.inl rfl|exact Or.inr rfl,by first|exact Or.inl rfl|exact Or.inr rfl⟩ ?_),rfl⟩ (pi_listK (K:=K) rfl (pv 2)) (fun _ _ _ _=>(pg_name (i:=0) (show List.Nodup (["taker"]:List Str) from by decide +kernel) rfl (by first|exact Or.inl rfl|exact Or.inr rfl))) (fun _ _ _ _=>pts_nil) (fun _ _ _ _=>(@pe_lst _ _ _ _ pa_nil)))
   (@pss_cons _ _ _ _ _ (ps_set (i:=5) nd rfl (by first|exact Or.inl rfl|exact Or.inr rfl) (pe_fn G_at_doors (hr.mono (by decide)) (by rfl) (@pa_cons _ _ _ _ _ (pv 0) pa_nil (by rfl))))
   (@pss_cons _ _ _ _ _ (ps_while PassesOwn.never (pt_cmpR op_gt (pe_callB (call_len_seqK (K:=K) rfl) (by rfl) T.n_len bt_len (@pa_cons _ _ _ _ _ (pv 5) pa_nil (by rfl))) pe_int (nomark _)) (@pss_cons _ _ _ _ _ (ps_set (i:=6) nd rfl (by first|exact Or.inl rfl|exact Or.inr rfl) (pe_minKF rfl hr (by rfl) T.n_min bt_min (by rfl) g_rank (h_rank _ hr.depth) (pv 5)))
   (@pss_cons _ _ _ _ _ (ps_set (i:=7) nd rfl (by first|exact Or.inl rfl|exact Or.inr rfl) (@pe_ix _ _ _ _ _ _ _ (ix_tupK (K:=K) rfl) (pv 6) pe_int (fun _ _=>rfl)))
   (@pss_cons _ _ _ _ _ (ps_set (i:=8) nd rfl (by first|exact Or.inl rfl|exact Or.inr rfl) (@pe_ix _ _ _ _ _ _ _ (ix_tupK (K:=K) rfl) (pv 6) pe_int (fun _ _=>rfl)))
   (@pss_cons _ _ _ _ _ (ps_if (pt_cmpR op_gt (@pe_ix _ _ _ _ _ _ _ (ix_tupK (K:=K) rfl) (pv 8) pe_int (fun _ _=>rfl)) (pv 1) (nomark _)) (@pss_one _ _ _ ps_break) pss_nil)
   (@pss_cons _ _ _ _ _ (ps_expr (pe_bm PySem.F.plainAttrs_list PySem.F.slot_list_remove PySem.F.type_list_remove (mt_remove hr.units) (pv 5) (@pa_cons _ _ _ _ _ (pv 6) pa_nil (by rfl))))
   (@pss_cons _ _ _ _ _ (ps_set (i:=9) nd rfl (by first|exact Or.inl rfl|exact Or.inr rfl) (pe_mthU (cls:=cs.of) (sp:=spTk cs) G_take (hr.mono (by decide)) (@pe_ix _ _ _ _ _ _ _ (ix_listK (K:=K) rfl) (pv 2) (pv 7) (fun _ _=>rfl)) (@pa_cons _ _ _ _ _ (@pe_ix _ _ _ _ _ _ _ (ix_tupK (K:=K) rfl) (pv 8) pe_int (fun _ _=>rfl)) (@pa_cons _ _ _ _ _ (@pe_ix _ _ _ _ _ _ _ (ix_tupK (K:=K) rfl) (pv 8) pe_int (fun _ _=>rfl)) pa_nil (by rfl)) (by rfl))))
   (@pss_cons _ _ _ _ _ (ps_if (pt_cmpR op_notN (pv 9) pe_non (nomark _)) (@pss_one _ _ _ (ps_expr (pe_bm PySem.F.plainAttrs_list PySem.F.slot_list_append PySem.F.type_list_append mt_append (pv 5) (@pa_cons _ _ _ _ _ (pe_fn G_arrival_of (hr.mono (by decide)) (by rfl) (@pa_cons _ _ _ _ _ (pv 0) (@pa_cons _ _ _ _ _ (pv 9) (@pa_cons _ _ _ _ _ (@pe_ix _ _ _ _ _ _ _ (ix_tupK (K:=K) rfl) (pv 8) pe_int (fun _ _=>rfl)) (@pa_cons _ _ _ _ _ (@pe_tup _ _ _ _ _ (@pa_cons _ _ _ _ _ (pv 7) (@pa_cons _ _ _ _ _ (pe_callB (call_len_seqK (K:=K) rfl) (by rfl) T.n_len bt_len (@pa_cons _ _ _ _ _ (@pe_ix _ _ _ _ _ _ _ (ix_listK (K:=K) rfl) (pv 3) (pv 7) (fun _ _=>rfl)) pa_nil (by rfl))) pa_nil (by rfl)) (by rfl))) pa_nil (by rfl)) (by rfl)) (by rfl)) (by rfl))) pa_nil (by rfl))))) pss_nil)
   (@pss_cons _ _ _ _ _ (ps_expr (pe_bm PySem.F.plainAttrs_list PySem.F.slot_list_append PySem.F.type_list_append mt_append (@pe_ix _ _ _ _ _ _ _ (ix_listK (K:=K) rfl) (pv 3) (pv 7) (fun _ _=>rfl)) (@pa_cons _ _ _ _ _ (pv 8) pa_nil (by rfl))))
   (@pss_one _ _ _ (ps_expr (pe_bm PySem.F.plainAttrs_list PySem.F.slot_list_append PySem.F.type_list_append mt_append (@pe_ix _ _ _ _ _ _ _ (ix_listK (K:=K) rfl) (pv 4) (pv 7) (fun _ _=>rfl)) (@pa_cons _ _ _ _ _ (@pe_ix _ _ _ _ _ _ _ (ix_tupK (K:=K) rfl) (pv 6) pe_int (fun _ _=>rfl)) pa_nil (by rfl))))))))))))))
   (@pss_one _ _ _ (@ps_ret _ _ _ _ (@pe_tup _ _ _ _ _ (@pa_cons _ _ _ _ _ (pv 3) (@pa_cons _ _ _ _ _ (pv 4) pa_nil (by rfl)) (by rfl)))))))))),?_⟩
  first|(ac_rfl; refine(jxTc (j:=0) h1 rfl ⟨sa,xs0,rfl,.inl (SqL.of h2.hs),_,rfl,by rw[p62]; omega,by rw[p62]; omega,fun D nD=>?_⟩))|(refine⟨_,rfl,(jxTc (j:=0) h1 rfl ⟨sa,xs0,rfl,.inl (SqL.of h2.hs),_,rfl,by rw[p62]; omega,by rw[p62]; omega,fun D nD=>?_⟩)⟩)
  refine comp_range (lo:=0) (n:=(xs0.length:Int).toNat) (fun i H4=>∃ srs:List SR,Same H H4∧Hc H4 ([(D,.lst (srefs srs))]::stC cs srs::M)∧srs.length=i∧∀ j r,srs[j]?=some r→Made W j r) ⟨[],Same.new nD,(hc.new nD (.lst [])).pad.swap,rfl,fun j r h=>by cases h⟩ ?_ ?_
  ·rintro i H4 m Wf hi hz0 nx
   refine abb fun Gz hGz=>?_
   obtain⟨srs,s4,hc4,l4,mk4⟩:=hz0
   refine hGz ?_
   rw[kF]
   first|(refine tvC rfl ?_)|(refine tvO rfl ?_)|(refine tvK rfl ?_)|(refine tv rfl ?_)|(refine⟨_,rfl,?_⟩)
   first|(ac_rfl; refine⟨w,W,i,_,rfl,hw0.same s4,ok,by omega,hc4,fun r H5 s5 hc5 mk=>?_⟩)|(refine⟨_,rfl,w,W,i,_,rfl,hw0.same s4,ok,by omega,hc4,fun r H5 s5 hc5 mk=>?_⟩)
   have g5:=hc5.get 1 0 rfl rfl
   refine⟨_,g5,small1000 (by unfold srefs; rw[zB]; omega),nx _ ⟨srs++[r],(s4.trans s5).upd nD,?_,by rw[zM,l4]; rfl,getAll_snoc mk4 (by rw[l4]; exact mk)⟩⟩
   have:=hc5.put 1 0 rfl rfl (.lst (srefs srs++[.ref r.x]))
   rw[show srefs (srs++[r])=srefs srs++[.ref r.x] from zS,stC_snoc]
   exact(Hc.join (this.pick 2 rfl)).swap
  ·rintro H4 hz1
   refine abb fun Gz hGz=>?_
   obtain⟨srs,s4,hc4,l4,mk4⟩:=hz1
   refine hGz ?_
   have lsr:srs.length=W.st.length:=by omega
   have hD4:=hc4.get 0 0 rfl rfl
   have lsf:(srefs srs).length=srs.length:=zB _
   first|(ac_rfl; refine⟨D,rfl,⟨_,SqL.of hD4⟩,fun D1 nD1=>?_⟩)|(refine⟨_,rfl,D,rfl,⟨_,SqL.of hD4⟩,fun D1 nD1=>?_⟩)
   refine comp_list (a:=D) (xs:=srefs srs) (fun i H5=>∃ ea:List Addr,Same H4 H5∧Hc H5 ([(D1,.lst (ea.map V.ref))]::liC ea (ea.map fun _=>[])::[(D,.lst (srefs srs))]::stC cs srs::M)∧ea.length=i)
    ⟨[],Same.new nD1,(hc4.new nD1 (.lst [])).pad.swap,rfl⟩ (fun i H5 _ ⟨_,s5,_⟩=>SqL.of (s5 _ _ hD4)) ?_ ?_
   ·rintro i x H5 m Wf hx hz2 nx
    refine abb fun Gz hGz=>?_
    obtain⟨ea,s5,hc5,l5⟩:=hz2
    refine hGz ?_
    have hi:=(zA.mp hx).1
    refine⟨zZ _,fun pn npn=>?_⟩
    have hc6:=hc5.new npn (.lst [])
    have g6:=hc6.get 1 0 rfl rfl
    refine⟨_,g6,small1000 (by rw[zB]; omega),nx _ ⟨ea++[pn],(s5.trans (Same.new npn)).upd nD1,?_,by rw[zM,l5]; rfl⟩⟩
    have:=hc6.put 1 0 rfl rfl (.lst (ea.map V.ref++[.ref pn]))
    rw[zS,zS]
    have e:=liC_snoc (ls:=ea) (vs:=ea.map fun _=>[]) (by rw[zB]) pn []
    show Hc _ (_::liC (ea++[pn]) ((ea.map fun _=>[])++[[]])::_)
    rw[e]
    exact(Hc.join (this.pick 2 rfl)).swap
   ·rintro H5 hz3
    refine abb fun Gz hGz=>?_
    obtain⟨ea,s5,hc5,l5⟩:=hz3
    refine hGz ?_
    have hD5:=hc5.get 2 0 rfl rfl
    first|(ac_rfl; refine⟨D,rfl,⟨_,SqL.of hD5⟩,fun D2 nD2=>?_⟩)|(refine⟨_,rfl,D,rfl,⟨_,SqL.of hD5⟩,fun D2 nD2=>?_⟩)
    refine comp_list (a:=D) (xs:=srefs srs) (fun i H6=>∃ oa:List Addr,Same H5 H6∧Hc H6 ([(D2,.lst (oa.map V.ref))]::liC oa (oa.map fun _=>[])::[(D1,.lst (ea.map V.ref))]::liC ea (ea.map fun _=>[])::[(D,.lst (srefs srs))]::stC cs srs::M)∧oa.length=i)
     ⟨[],Same.new nD2,(hc5.new nD2 (.lst [])).pad.swap,rfl⟩ (fun i H6 _ ⟨_,s6,_⟩=>SqL.of (s6 _ _ hD5)) ?_ ?_
    ·rintro i x H6 m Wf hx hz4 nx
     refine abb fun Gz hGz=>?_
     obtain⟨oa,s6,hc6,l6⟩:=hz4
     refine hGz ?_
     have hi:=(zA.mp hx).1
     refine⟨zZ _,fun pn npn=>?_⟩
     have hc7:=hc6.new npn (.lst [])
     have g7:=hc7.get 1 0 rfl rfl
     refine⟨_,g7,small1000 (by rw[zB]; omega),nx _ ⟨oa++[pn],(s6.trans (Same.new npn)).upd nD2,?_,by rw[zM,l6]; rfl⟩⟩
     have:=hc7.put 1 0 rfl rfl (.lst (oa.map V.ref++[.ref pn]))
     rw[zS,zS]
     have e:=liC_snoc (ls:=oa) (vs:=oa.map fun _=>[]) (by rw[zB]) pn []
     show Hc _ (_::liC (oa++[pn]) ((oa.map fun _=>[])++[[]])::_)
     rw[e]
     exact(Hc.join (this.pick 2 rfl)).swap
    ·rintro H6 hz5
     refine abb fun Gz hGz=>?_
     obtain⟨oa,s6,hc6,l6⟩:=hz5
     refine hGz ?_
     have S06:=s4.trans (s5.trans s6)
     have nT6:NoT ([(D2,.lst (oa.map V.ref))]::liC oa (oa.map fun _=>[])::[(D1,.lst (ea.map V.ref))]::liC ea (ea.map fun _=>[])::[(D,.lst (srefs srs))]::stC cs srs::M):=((((nT.cons (noT_st cs srs)).lst).cons noT_rows).lst.cons noT_rows).lst
     first|(ac_rfl; refine⟨w,W,_,rfl,hc6,nT6,hw0.same S06,ok,hT.same S06,fun D3 xs H7 hc7 pr7 sm7 hT7 l480=>?_⟩)|(refine⟨_,rfl,w,W,_,rfl,hc6,nT6,hw0.same S06,ok,hT.same S06,fun D3 xs H7 hc7 pr7 sm7 hT7 l480=>?_⟩)
     have lx7:=pr7.length
     have L0:Lp cs Pd W u M D D1 D2 D3 ea oa H H7 W.cs srs (ea.map fun _=>[]) (oa.map fun _=>[]) xs 0:=by
      refine⟨hc7,?_,fun r hr'=>?_,by have:=meas0 ok hu (by omega); omega,fun us hus=>?_,fun us hus=>?_,l480,pr7,pairs_nil .nil (by omega),pairs_nil .nil (by omega),cs_ok ok,fun R r=>r,(Tp.of S06).trans (Tp.sm sm7),hT7,by rw[zB],by rw[zB]⟩
      ·refine yW fun i=>?_
       show(srs.map SR.pu)[i]?=((List.range W.st.length).map W.sp)[i]?
       rw[zJ,zJ]
       cases e:srs[i]? with
       | none =>
        have:=List.getElem?_eq_none_iff.mp e
        rw[qO (by rw[yT]; omega)]
        rfl
       | some r =>
        have hi:=(zA.mp e).1
        rw[jH (by omega)]
        show some r.pu=some (W.sp i)
        rw[(mk4 i r e).pu]
      ·refine abb fun Gz hGz=>?_
       obtain⟨j,hj⟩:=yD hr'
       refine hGz ?_
       exact(mk4 j r hj).ok
      ·obtain⟨_,_,rfl⟩:=yH.mp hus; exact zG _
      ·obtain⟨_,_,rfl⟩:=yH.mp hus; exact zG _
     refine⟨fun m σ H5=>∃(S:CS) (srs:List SR) (evv ogv:List (List V)) (xs:List V) (k:Nat) (v6 v7 v8 v9:Option V),σ=[some (.ref w),some (.int u),some (.ref D),some (.ref D1),some (.ref D2),some (.ref D3),v6,v7,v8,v9]∧m=S.meas u∧Lp cs Pd W u M D D1 D2 D3 ea oa H H5 S srs evv ogv xs k,⟨_,_,_,_,_,_,_,_,_,_,_,rfl,rfl,L0⟩,?_⟩
     clear L0 hc7 pr7 lx7 l480 xs sm7 hT7 nT6 hc6 l6 s6 hD5 hc5 s5 hD4 lsf hc4 mk4 s4 S06
     rintro m σ H8 hz6
     refine abb fun Gz hGz=>?_
     obtain⟨S,srs',evv,ogv,xs,k,v6,v7,v8,v9,rfl,rfl,L⟩:=hz6
     refine hGz ?_
     have hD3:=L.hc.get 0 0 rfl rfl
     have lxa:=L.ar.length
     first|(ac_rfl; refine⟨D3,xs,rfl,.inl (SqL.of hD3),_,_,rfl,rfl,_,rfl,?_⟩)|(refine⟨_,rfl,D3,xs,rfl,.inl (SqL.of hD3),_,_,rfl,rfl,_,rfl,?_⟩)
     refine iteB (fun hb=>?_) (fun hb=>?_)
     rotate_left
     ·-- nothing is left
      have hb':¬ (0:Int) < (xs.length:Int):=of_decide_eq_false hb
      have hs:∀ a,S.first=some a→u < a.e.1:=fun a ha=>by have:=at_lt ha; omega
      first|(refine tvC rfl ?_)|(refine tvO rfl ?_)|(refine tvK rfl ?_)|(refine tv rfl ?_)|(refine⟨_,rfl,?_⟩)
      first|(ac_rfl; refine⟨(by show 2≤sizeLine; decide),fun t nt=>?_⟩)|(refine⟨_,rfl,(by show 2≤sizeLine; decide),fun t nt=>?_⟩)
      have sT:Same H8 (upd H8 t (.tup [.ref D1,.ref D2])):=Same.new nt
      have hcF:=(((L.hc.tl).pick 4 rfl).tl.pick 4 rfl).tl.new nt (.tup [.ref D1,.ref D2])
      exact q S t D1 D2 ea oa evv ogv _ (L.rn S (.stop hs)) L.ok hcF L.l1 L.l2 (evs_tp (Tp.of sT) L.ev) (ogs_tp (Tp.of sT) L.og) (L.tp.trans (Tp.of sT)) (L.dT.same sT) (fun us hus=>by have:=L.le us hus; have:=L.km; omega)
     have hb':(0:Int) < (xs.length:Int):=of_decide_eq_true hb
     refine⟨fun σ' H'=>∃ m',m' < S.meas u∧∃(S:CS) (srs:List SR) (evv ogv:List (List V)) (xs:List V) (k:Nat) (v6 v7 v8 v9:Option V),σ'=[some (.ref w),some (.int u),some (.ref D),some (.ref D1),some (.ref D2),some (.ref D3),v6,v7,v8,v9]∧m'=S.meas u∧Lp cs Pd W u M D D1 D2 D3 ea oa H H' S srs evv ogv xs k,fun _ _ h=>h,?_⟩
     first|(ac_rfl; refine⟨D3,xs,S.ar.map AR.key,rfl,SqL.of hD3,by rw[zB]; omega,(fun e=>by rw[e] at hb'; exact absurd hb' (by decide)),fun j x kk hj hk=>?_,fun x hx=>?_⟩)|(refine⟨_,rfl,D3,xs,S.ar.map AR.key,rfl,SqL.of hD3,by rw[zB]; omega,(fun e=>by rw[e] at hb'; exact absurd hb' (by decide)),fun j x kk hj hk=>?_,fun x hx=>?_⟩)
     ·refine abb fun Gz hGz=>?_
      obtain⟨a,ha,p,xe,xc,rfl,e,⟨p2,rfl,e2⟩,_⟩:=L.ar.gt hj
      refine hGz ?_
      rw[zJ,ha] at hk
      cases hk
      exact⟨p,_,p2,_,rfl,SqT.of e,rfl,SqT.of e2,rfl,rfl⟩
     refine abb fun Gz hGz=>?_
     obtain⟨a,ha,p,xe,xc,rfl,hp,⟨pe,rfl,hpe⟩,hcau⟩:=L.ar.gt hx
     refine hGz ?_
     replace ha:S.first=some a:=ha
     have harr:IsArr H8 (.ref p) a:=⟨p,.ref pe,xc,rfl,hp,⟨pe,rfl,hpe⟩,hcau⟩
     first|(ac_rfl; refine(jxTc (j:=0) hp rfl ⟨_,rfl,(jxTc (j:=1) hp rfl ?_)⟩))|(refine⟨_,rfl,(jxTc (j:=0) hp rfl ⟨_,rfl,(jxTc (j:=1) hp rfl ?_)⟩)⟩)
     first|(ac_rfl; refine(jxTc (j:=0) hpe rfl ⟨_,rfl,_,_,rfl,rfl,_,rfl,?_⟩))|(refine⟨_,rfl,(jxTc (j:=0) hpe rfl ⟨_,rfl,_,_,rfl,rfl,_,rfl,?_⟩)⟩)
     refine iteB (fun hgt=>?_) (fun hgt=>?_)
     ·-- beyond the moment
      have hs:∀ a',S.first=some a'→u < a'.e.1:=fun a' ha'=>by rw[ha] at ha'; cases ha'; exact of_decide_eq_true hgt
      first|(refine tvC rfl ?_)|(refine tvO rfl ?_)|(refine tvK rfl ?_)|(refine tv rfl ?_)|(refine⟨_,rfl,?_⟩)
      first|(ac_rfl; refine⟨(by show 2≤sizeLine; decide),fun t nt=>?_⟩)|(refine⟨_,rfl,(by show 2≤sizeLine; decide),fun t nt=>?_⟩)
      have sT:Same H8 (upd H8 t (.tup [.ref D1,.ref D2])):=Same.new nt
      have hcF:=(((L.hc.tl).pick 4 rfl).tl.pick 4 rfl).tl.new nt (.tup [.ref D1,.ref D2])
      exact q S t D1 D2 ea oa evv ogv _ (L.rn S (.stop hs)) L.ok hcF L.l1 L.l2 (evs_tp (Tp.of sT) L.ev) (ogs_tp (Tp.of sT) L.og) (L.tp.trans (Tp.of sT)) (L.dT.same sT) (fun us hus=>by have:=L.le us hus; have:=L.km; omega)
     have hle:a.e.1≤u:=jL.mp (of_decide_eq_false hgt)
     first|(ac_rfl; refine⟨tyL hD3,_,rfl,D3,xs,.ref p,S.ar.map arD,arD a,2,S.at,rfl,rfl,hD3,paired_map (fun _ _ _ h=>h.dt) L.ar,harr.dt,by decide,by have:=at_lt ha; omega,first_is ha,first_only ha,?_⟩)|(refine⟨_,rfl,tyL hD3,_,rfl,D3,xs,.ref p,S.ar.map arD,arD a,2,S.at,rfl,rfl,hD3,paired_map (fun _ _ _ h=>h.dt) L.ar,harr.dt,by decide,by have:=at_lt ha; omega,first_is ha,first_only ha,?_⟩)
     have hc9:=L.hc.put 0 0 rfl rfl (.lst (xs.eraseIdx S.at))
     have tp9:Tp H8 (upd H8 D3 (.lst (xs.eraseIdx S.at))):=(Tp.refl _).put hD3
     have dT9:DoorT Pd (upd H8 D3 (.lst (xs.eraseIdx S.at))):=L.dT.updL hD3
     generalize (upd H8 D3 (.lst (xs.eraseIdx S.at)))=H9 at hc9 tp9 dT9 ⊢
     have ham:=zK ha
     refine abb fun Gz hGz=>?_
     obtain⟨hs1,hs2⟩:=L.ok.ar a ham
     have lst:srs'.length=W.st.length:=by rw[← L.ok.l1,← L.st,zB]
     obtain⟨r,hr'⟩:∃ r,srs'[a.s]?=some r:=⟨srs'[a.s]'(by omega),zC _⟩
     have hpu:S.st[a.s]?=some r.pu:=by rw[← L.st,zJ,hr']; rfl
     have hgd:S.st.getD a.s sp0=r.pu:=by rw[zE,hpu]; rfl
     have hws:r.ws=W.wy a.s:=(L.ok.ws _ _ hpu).1
     have hbs:r.bs=W.lv a.s:=(L.ok.ws _ _ hpu).2
     have hjm:r.ws[r.ws.idxOf a.e.2.1]?=some a.e.2.1:=by
      have hlt:r.ws.idxOf a.e.2.1 < r.ws.length:=List.idxOf_lt_length_iff.mpr (by rw[hws]; exact hs2)
      rw[zC hlt,List.getElem_idxOf]
     have hpe9:=tp9 _ _ hpe
     obtain⟨A',B',eAB,lA⟩:=cut_at hr'
     refine hGz ?_
     have hcT:=st_take (by rw[← eAB]; exact hc9.pick 6 rfl)
     have hk3:=L.km
     first|(refine tvC rfl ?_)|(refine tvO rfl ?_)|(refine tvK rfl ?_)|(refine tv rfl ?_)|(refine⟨_,rfl,?_⟩)
     first|(ac_rfl; refine(jxL (hc9.get 5 0 rfl rfl) (srefs_at hr') ⟨r.x,r.k,r.dx,_,rfl,hcT.get 0 0 rfl rfl,r.flds_no (by decide +kernel) (by decide +kernel) (by decide +kernel) (by decide +kernel) (by decide +kernel) (by decide +kernel),_,rfl,(jxTc (j:=1) hpe9 rfl ⟨_,rfl,(jxTc (j:=2) hpe9 rfl ?_)⟩)⟩))|(refine⟨_,rfl,(jxL (hc9.get 5 0 rfl rfl) (srefs_at hr') ⟨r.x,r.k,r.dx,_,rfl,hcT.get 0 0 rfl rfl,r.flds_no (by decide +kernel) (by decide +kernel) (by decide +kernel) (by decide +kernel) (by decide +kernel) (by decide +kernel),_,rfl,(jxTc (j:=1) hpe9 rfl ⟨_,rfl,(jxTc (j:=2) hpe9 rfl ?_)⟩)⟩)⟩)
     refine⟨r,r.ws.idxOf a.e.2.1,k,a.e.2.1,a.e.2.2,_,rfl,rfl,hcT,L.so r (zK hr'),by omega,hjm,fun v ft H10 hput hc10 tk10=>?_⟩
     have tp10:=tp9.trans (Tp.tk tk10)
     have dT10:=dT9.tk tk10
     have eset:srs'.set a.s (r.nxt (r.ws.idxOf a.e.2.1) a.e.2.2)=A'++r.nxt (r.ws.idxOf a.e.2.1) a.e.2.2::B':=by rw[eAB,← lA]; exact set_cut
     have erefs:srefs (srs'.set a.s (r.nxt (r.ws.idxOf a.e.2.1) a.e.2.2))=srefs srs':=map_set_same hr' (by rw[(r.nxt_x _ _).1])
     have hcS:Hc H10 (ft::[(D3,.lst (xs.eraseIdx S.at))]::[(D2,.lst (oa.map V.ref))]::liC oa ogv::[(D1,.lst (ea.map V.ref))]::liC ea evv::[(D,.lst (srefs (srs'.set a.s (r.nxt (r.ws.idxOf a.e.2.1) a.e.2.2))))]::stC cs (srs'.set a.s (r.nxt (r.ws.idxOf a.e.2.1) a.e.2.2))::M):=by
      rw[erefs,eset]
      have h1:Hc H10 (srC cs (r.nxt (r.ws.idxOf a.e.2.1) a.e.2.2)::(stC cs A'++stC cs B')::ft::[(D3,.lst (xs.eraseIdx S.at))]::[(D2,.lst (oa.map V.ref))]::liC oa ogv::[(D1,.lst (ea.map V.ref))]::liC ea evv::[(D,.lst (srefs srs'))]::M):=(hc10.pick 2 rfl).pick 2 rfl
      have h2:=st_back h1
      exact((((((((h2.pick 7 rfl).pick 7 rfl).pick 7 rfl).pick 7 rfl).pick 7 rfl).pick 7 rfl).pick 7 rfl))
     clear hc10 hcT
     refine abb fun Gz hGz=>?_
     obtain⟨us,hus⟩:∃ us,evv[a.s]?=some us:=⟨evv[a.s]'(by have:=L.ev.length; have:=L.ok.l2; omega),zC _⟩
     obtain⟨os,hos⟩:∃ os,ogv[a.s]?=some os:=⟨ogv[a.s]'(by have:=L.og.length; have:=L.ok.l3; omega),zC _⟩
     obtain⟨la',hla⟩:=get_like L.l1.symm hus
     obtain⟨lo',hlo⟩:=get_like L.l2.symm hos
     obtain⟨tu,htu,hpu1⟩:=L.ev.gt hus
     obtain⟨to,hto,hpo1⟩:=L.og.gt hos
     refine hGz ?_
     have eu:S.ev.getD a.s []=tu:=by rw[zE,htu]; rfl
     have eo:S.og.getD a.s []=to:=by rw[zE,hto]; rfl
     have lus:=L.le us (zK hus)
     have los:=L.lo os (zK hos)
     have ltu:=hpu1.length
     have fin:∀(xs':List V) (H11:Hp) (v9':Option V),Hc H11 ([(D3,.lst xs')]::[(D2,.lst (oa.map V.ref))]::liC oa ogv::[(D1,.lst (ea.map V.ref))]::liC ea evv::[(D,.lst (srefs (srs'.set a.s (r.nxt (r.ws.idxOf a.e.2.1) a.e.2.2))))]::stC cs (srs'.set a.s (r.nxt (r.ws.idxOf a.e.2.1) a.e.2.2))::M)→Tp H8 H11→DoorT Pd H11 →
       Paired (IsArr H11) xs' (S.step W a).ar→xs'.length≤480 →
       (∃ hl:H11 la'=some (.lst us),∃ hl2:(upd H11 la' (.lst (us++[.ref pe]))) lo'=some (.lst os),∃ m',m' < S.meas u∧∃(S:CS) (srs:List SR) (evv ogv:List (List V)) (xs:List V) (k:Nat) (v6 v7 v8 v9:Option V),[some (.ref w),some (.int u),some (.ref D),some (.ref D1),some (.ref D2),some (.ref D3),some (V.ref p),some (V.int (a.s:Int)),some (V.ref pe),v9']=[some (.ref w),some (.int u),some (.ref D),some (.ref D1),some (.ref D2),some (.ref D3),v6,v7,v8,v9]∧m'=S.meas u∧Lp cs Pd W u M D D1 D2 D3 ea oa H (upd (upd H11 la' (.lst (us++[.ref pe]))) lo' (.lst (os++[xc]))) S srs evv ogv xs k):=by
      intro xs' H11 v9' hc11 tp11 dT11 par11 l11
      have hl:H11 la'=some (.lst us):=hc11.get 4 a.s rfl (li_cell hla hus)
      have hc12:=hc11.put 4 a.s rfl (li_cell hla hus) (.lst (us++[.ref pe]))
      rw[liC_set hla] at hc12
      have t12:Tp H11 (upd H11 la' (.lst (us++[.ref pe]))):=(Tp.refl _).put hl
      have d12:DoorT Pd (upd H11 la' (.lst (us++[.ref pe]))):=dT11.updL hl
      have hl2:(upd H11 la' (.lst (us++[.ref pe]))) lo'=some (.lst os):=hc12.get 2 a.s rfl (li_cell hlo hos)
      have hc13:=hc12.put 2 a.s rfl (li_cell hlo hos) (.lst (os++[xc]))
      rw[liC_set hlo] at hc13
      have t13:Tp (upd H11 la' (.lst (us++[.ref pe]))) (upd (upd H11 la' (.lst (us++[.ref pe]))) lo' (.lst (os++[xc]))):=(Tp.refl _).put hl2
      have d13:=d12.updL (o:=.lst (os++[xc])) hl2
      have tp:=(tp11.trans t12).trans t13
      have ms:=CS.meas_step ok L.ok ha hle
      refine⟨hl,hl2,_,ms,S.step W a,srs'.set a.s (r.nxt (r.ws.idxOf a.e.2.1) a.e.2.2),evv.set a.s (us++[.ref pe]),ogv.set a.s (os++[xc]),xs',k + 1,_,_,_,_,rfl,rfl,?_⟩
      refine⟨hc13,?_,?_,by omega,all_set (fun z hz=>j9 (L.le z hz)) (by rw[zM]; exact kI lus),all_set (fun z hz=>j9 (L.lo z hz)) (by rw[zM]; exact kI los),l11,pairedMono (fun _ _ h=>IsArr.tp (t12.trans t13) h) par11,?_,?_,CSok.step ok L.ok ha,fun R rr=>L.rn R (.step a ha hle rr),L.tp.trans tp,d13,by rw[yY]; exact L.l1,by rw[yY]; exact L.l2⟩
      ·rw[kD,L.st,SR.nxt_pu]
       show _=S.st.set a.s ((S.st.getD a.s sp0).nxt ((S.st.getD a.s sp0).ws.idxOf a.e.2.1) a.e.2.2)
       rw[hgd]
       rfl
      ·exact all_set (fun z hz=>(L.so z hz).le (qB _)) ((L.so r (zK hr')).nxt _ _)
      ·show Paired _ _ (S.ev.set a.s (S.ev.getD a.s []++[a.e]))
       rw[eu]
       exact paired_set (evs_tp tp L.ev) (paired_app (pairedMono (fun _ _ h=>IsTri.tp tp h) hpu1) (.cons ⟨pe,rfl,tp _ _ hpe⟩ .nil))
      ·show Paired _ _ (S.og.set a.s (S.og.getD a.s []++[a.c]))
       rw[eo]
       exact paired_set (ogs_tp tp L.og) (paired_app (pairedMono (fun _ _ h=>IsCau.tp tp h) hpo1) (.cons (hcau.tp tp) .nil))
     have lex:(xs.eraseIdx S.at).length≤479:=by
      have:=List.length_eraseIdx_of_lt (l:=xs) (i:=S.at) (by have:=at_lt ha; omega)
      have:=L.lx
      omega
     have p10:Paired (IsArr H10) (xs.eraseIdx S.at) (S.ar.eraseIdx S.at):=pairedMono (fun _ _ h=>IsArr.tp tp10 h) (paired_erase L.ar)
     have hstep:(S.step W a).ar=S.ar.eraseIdx S.at++putA W (r.out (r.ws.idxOf a.e.2.1) a.e.2.2) a.e.1 ((a.s:Int),(us.length:Int)):=by
      show S.ar.eraseIdx S.at++putA W ((S.st.getD a.s sp0).out ((S.st.getD a.s sp0).ws.idxOf a.e.2.1) a.e.2.2) a.e.1 ((a.s:Int),((S.ev.getD a.s []).length:Int))=_
      rw[hgd,eu,ltu]
      rfl
     have hout:∀ b y,r.out (r.ws.idxOf a.e.2.1) a.e.2.2=some (b,y)→0≤b∧b < W.be.length:=fun b y e=>by
      have:=SP.out_in (p:=r.pu) e
      rw[show r.pu.bs=r.bs from rfl,hbs] at this
      refine abb fun Gz hGz=>?_
      obtain⟨x1,x2,_⟩:=Wk.lv_goal ok this
      refine hGz ?_
      exact⟨x1,x2⟩
     generalize r.out (r.ws.idxOf a.e.2.1) a.e.2.2=oo at hput hstep hout
     cases hput with
     | no =>
      first|(ac_rfl; refine⟨rfl,_,rfl,iteF ?_⟩)|(refine⟨_,rfl,rfl,_,rfl,iteF ?_⟩)
      refine abb fun Gz hGz=>?_
      obtain⟨hl,hl2,fn⟩:=fin (xs.eraseIdx S.at) H10 (some .non) hcS.tl tp10 dT10 (by rw[hstep]; show Paired _ _ (_++[]); rw[yF]; exact p10) (by omega)
      refine hGz ?_
      have gD1:=hcS.get 4 0 rfl rfl
      have gD2:(upd H10 la' (.lst (us++[.ref pe]))) D2=some (.lst (oa.map V.ref)):=by
       have:=(hcS.put 5 a.s rfl (li_cell hla hus) (.lst (us++[.ref pe]))).get 2 0 rfl rfl
       exact this
      first|(refine tvC rfl ?_)|(refine tvO rfl ?_)|(refine tvK rfl ?_)|(refine tv rfl ?_)|(refine⟨_,rfl,?_⟩)
      first|(ac_rfl; refine(jxL gD1 (refs_at hla) ⟨tyL hl,_,rfl,_,_,_,rfl,rfl,hl,smallM (by omega),?_⟩))|(refine⟨_,rfl,(jxL gD1 (refs_at hla) ⟨tyL hl,_,rfl,_,_,_,rfl,rfl,hl,smallM (by omega),?_⟩)⟩)
      first|(refine tvC rfl ?_)|(refine tvO rfl ?_)|(refine tvK rfl ?_)|(refine tv rfl ?_)|(refine⟨_,rfl,?_⟩)
      first|(ac_rfl; refine(jxL gD2 (refs_at hlo) ⟨tyL hl2,_,rfl,(jxTc (j:=2) ((Tp.put tp10 hl) _ _ hp) rfl ⟨_,_,_,rfl,rfl,hl2,smallM (by omega),?_⟩)⟩))|(refine⟨_,rfl,(jxL gD2 (refs_at hlo) ⟨tyL hl2,_,rfl,(jxTc (j:=2) ((Tp.put tp10 hl) _ _ hp) rfl ⟨_,_,_,rfl,rfl,hl2,smallM (by omega),?_⟩)⟩)⟩)
      exact fn
     | yes b y t =>
      first|(ac_rfl; refine⟨rfl,_,rfl,iteT ?_⟩)|(refine⟨_,rfl,rfl,_,rfl,iteT ?_⟩)
      refine abb fun Gz hGz=>?_
      obtain⟨b0,b1⟩:=hout b y rfl
      refine hGz ?_
      have gD3:=hcS.get 1 0 rfl rfl
      have gD1:=hcS.get 4 0 rfl rfl
      have gla:=hcS.get 5 a.s rfl (li_cell hla hus)
      have gt:=hcS.get 0 0 rfl rfl
      have hw10:=hw H10 (hc_drop (As:=[_,_,_,_,_,_,_,_]) hcS)
      first|(ac_rfl; refine⟨tyL gD3,_,rfl,_,rfl,_,rfl,(jxTc (j:=0) (tp10 _ _ hpe) rfl ⟨_,rfl,_,rfl,_,rfl,(jxL gD1 (refs_at hla) ⟨la',us,rfl,.inl (SqL.of gla),(by show 2≤sizeLine; decide),fun pc npc=>?_⟩)⟩)⟩)|(refine⟨_,rfl,tyL gD3,_,rfl,_,rfl,_,rfl,(jxTc (j:=0) (tp10 _ _ hpe) rfl ⟨_,rfl,_,rfl,_,rfl,(jxL gD1 (refs_at hla) ⟨la',us,rfl,.inl (SqL.of gla),(by show 2≤sizeLine; decide),fun pc npc=>?_⟩)⟩)⟩)
      have s11:Same H10 (upd H10 pc (.tup [.int (a.s:Int),.int (us.length:Int)])):=Same.new npc
      refine⟨w,t,pc,W,b,y,a.e.1,((a.s:Int),(us.length:Int)),rfl,hw10.same s11,ok,s11 _ _ gt,b0,b1,upd_same,fun x H11 hx11 s12=>?_⟩
      have s1012:=s11.trans s12
      have hc11:=(hcS.same s1012).tl
      have g11:=hc11.get 0 0 rfl rfl
      refine⟨_,_,_,rfl,rfl,g11,smallM (by omega),?_⟩
      have hc12:=hc11.put 0 0 rfl rfl (.lst (xs.eraseIdx S.at++[x]))
      have t12:Tp H10 (upd H11 D3 (.lst (xs.eraseIdx S.at++[x]))):=(Tp.of s1012).put g11
      have t12':Tp H11 (upd H11 D3 (.lst (xs.eraseIdx S.at++[x]))):=(Tp.refl _).put g11
      have d12:DoorT Pd (upd H11 D3 (.lst (xs.eraseIdx S.at++[x]))):=(dT10.same s1012).updL g11
      generalize (upd H11 D3 (.lst (xs.eraseIdx S.at++[x])))=H12 at hc12 t12 t12' d12 ⊢
      refine abb fun Gz hGz=>?_
      obtain⟨hl,hl2,fn⟩:=fin (xs.eraseIdx S.at++[x]) H12 (some (.ref t)) hc12 (tp10.trans t12) d12 (by rw[hstep]; exact paired_app (pairedMono (fun _ _ h=>IsArr.tp t12 h) p10) (.cons (hx11.tp t12') .nil)) (by rw[zM]; show _ + 1≤480; omega)
      refine hGz ?_
      have gD1':=hc12.get 3 0 rfl rfl
      have gD2:(upd H12 la' (.lst (us++[.ref pe]))) D2=some (.lst (oa.map V.ref)):=(hc12.put 4 a.s rfl (li_cell hla hus) (.lst (us++[.ref pe]))).get 1 0 rfl rfl
      first|(refine tvC rfl ?_)|(refine tvO rfl ?_)|(refine tvK rfl ?_)|(refine tv rfl ?_)|(refine⟨_,rfl,?_⟩)
      first|(ac_rfl; refine(jxL gD1' (refs_at hla) ⟨tyL hl,_,rfl,_,_,_,rfl,rfl,hl,smallM (by omega),?_⟩))|(refine⟨_,rfl,(jxL gD1' (refs_at hla) ⟨tyL hl,_,rfl,_,_,_,rfl,rfl,hl,smallM (by omega),?_⟩)⟩)
      first|(refine tvC rfl ?_)|(refine tvO rfl ?_)|(refine tvK rfl ?_)|(refine tv rfl ?_)|(refine⟨_,rfl,?_⟩)
      first|(ac_rfl; refine(jxL gD2 (refs_at hlo) ⟨tyL hl2,_,rfl,(jxTc (j:=2) ((Tp.put (tp10.trans t12) hl) _ _ hp) rfl ⟨_,_,_,rfl,rfl,hl2,smallM (by omega),?_⟩)⟩))|(refine⟨_,rfl,(jxL gD2 (refs_at hlo) ⟨tyL hl2,_,rfl,(jxTc (j:=2) ((Tp.put (tp10.trans t12) hl) _ _ hp) rfl ⟨_,_,_,rfl,rfl,hl2,smallM (by omega),?_⟩)⟩)⟩)
      exact fn
end
end Oc
namespace L2
open PySem
theorem sE_c {c:Const} {j:Nat} {pos:Pos} {es:List Expr} {env:Env}:starEach (.Constant c j pos::es) env=(false,eval (.Constant c j pos) env)::starEach es env:=rfl
theorem pa_cint {X:Cx} {i:Int} {j} {pos:Pos} {es:List Expr} {t:TA} (hr:PA X es t):PA X (.Constant (.int i) j pos::es) (tCons (tC (.int i)) t):=pa_cons pe_int hr sE_c
end L2
namespace Oc
open PySem L2
def StaK (s:Sta):Prop:=(∃ n,s=(("relay":Str),some n))∨s=(("sorter":Str),none)∨s=(("sink":Str),none)
inductive spCell (K:PySem.W.Frag) (vs:List V) (H:Hp) (Q:VK) (x_3:XK):Prop where
 | mk (a:Addr) (ns:List Int) (k:Int) (h_0:vs=[.ref a,.int k]) (h_1:SqL K H a (ns.map V.int)) (h_2:0≤k) (h_3:∀ r:Int,Q (.int r) H):spCell K vs H Q x_3
inductive spDrawn (vs:List V) (H:Hp) (Q:VK) (x_3:XK):Prop where
 | mk (c k:Int) (h_0:vs=[.int c,.int k]) (h_1:∀ r:Int,0≤r→r < 2147483399→Q (.int r) H):spDrawn vs H Q x_3
inductive spNumb (vs:List V) (H:Hp) (Q:VK) (x_3:XK):Prop where
 | mk (d:Int) (h_0:vs=[.int d]) (h_1:0≤d) (h_2:d < 2147483399) (h_3:∀ r:Int,-1000000000≤r→r≤1000000000→Q (.int r) H):spNumb vs H Q x_3
inductive spSta (vs:List V) (H:Hp) (Q:VK) (x_3:XK):Prop where
 | mk (c k:Int) (h_0:vs=[.int c,.int k]) (h_1:∀(p:Addr) (s:Sta) (H':Hp),H' p=some (.tup (staV s))→StaOk s→StaK s→Same H H'→Q (.ref p) H'):spSta vs H Q x_3
inductive spBelt (vs:List V) (H:Hp) (Q:VK) (x_3:XK):Prop where
 | mk (c k n:Int) (h_0:vs=[.int c,.int k,.int n]) (h_1:0 < n) (h_2:n≤8) (h_3:∀(p:Addr) (t:Tri) (H':Hp),H' p=some (.tup (triV t))→0≤t.1→t.1 < n→0≤t.2.1→t.2.1 < n→1≤t.2.2→t.2.2≤9→Same H H'→Q (.ref p) H'):spBelt vs H Q x_3
inductive spFeed (vs:List V) (H:Hp) (Q:VK) (x_3:XK):Prop where
 | mk (c k n:Int) (h_0:vs=[.int c,.int k,.int n]) (h_1:0 < n) (h_2:n≤8) (h_3:∀(p:Addr) (t:Tri) (H':Hp),H' p=some (.tup (triV t))→0≤t.1→t.1 < n→0≤t.2.1→t.2.1≤50→-1000000000≤t.2.2→t.2.2≤1000000000→Same H H'→Q (.ref p) H'):spFeed vs H Q x_3
inductive spUntil (K:PySem.W.Frag) (vs:List V) (H:Hp) (Q:VK) (x_3:XK):Prop where
 | mk (a:Addr) (ns:List Int) (h_0:vs=[.ref a]) (h_1:SqL K H a (ns.map V.int)) (h_2:∀ r:Int,0≤r→r≤60→Q (.int r) H):spUntil K vs H Q x_3
section
variable {P:Program} {w:World} {K:PySem.W.Frag} {mg:Str→Option Value} {base:Heap}
theorem sc_cell:FnScope ["script","k"] ["script","k"] (defScope (top 22)):=⟨rfl,rfl,rfl,by decide +kernel,rfl,by decide +kernel,by decide +kernel⟩
theorem ok_cell {f:Addr} {fd:FuncData} (F:Fun K "_law_cell_at" "_law_cell_at" (top 22) f fd) (T:Txt K mg):FnOk P w K mg base CX0 1 f fd ["script","k"] (spCell K):=by
 have nd:=sc_cell.nd
 refine F.ok sc_cell (fun vs H Q E h=>?_) (fun cdv A outer s H vs Q E hr h=>?_)
 ·obtain⟨a,ns,k,rfl,_⟩:=h
  rfl
 ·refine abb fun Gz hGz=>?_
  obtain⟨a,ns,k,rfl,hS,k0,q⟩:=h
  refine hGz ?_
  refine⟨_,(@pss_cons _ _ _ _ _ (ps_if (pt_cmpR op_lt (pv 1) (pe_callB (call_len_seqK (K:=K) rfl) (by rfl) T.n_len bt_len (@pa_cons _ _ _ _ _ (pv 0) pa_nil (by rfl))) (nomark _)) (@pss_one _ _ _ (@ps_ret _ _ _ _ (@pe_ix _ _ _ _ _ _ _ (ix_listK (K:=K) rfl) (pv 0) (pv 1) (fun _ _=>rfl)))) pss_nil)
   (@pss_one _ _ _ (@ps_ret _ _ _ _ pe_int))),?_⟩
  first|(refine tvC rfl ?_)|(refine tvO rfl ?_)|(refine tvK rfl ?_)|(refine tv rfl ?_)|(refine⟨_,rfl,?_⟩)
  first|(ac_rfl; refine⟨a,_,rfl,.inl hS,?_⟩)|(refine⟨_,rfl,a,_,rfl,.inl hS,?_⟩)
  rw[zB]
  infer_instance
  refine ite2 (fun h=>?_) (fun _=>?_)
  ·have h':k < (ns.length:Int):=of_decide_eq_true h
   refine abb fun Gz hGz=>?_
   obtain⟨j,hj⟩:∃ j:Nat,k=(j:Int):=⟨k.toNat,by omega⟩
   obtain⟨z,hz⟩:∃ z,ns[j]?=some z:=⟨ns[j]'(by omega),zC _⟩
   refine hGz ?_
   first|(refine tvC rfl ?_)|(refine tvO rfl ?_)|(refine tvK rfl ?_)|(refine tv rfl ?_)|(refine⟨_,rfl,?_⟩)
   first|(ac_rfl; exact⟨_,_,_,_,rfl,rfl,hS,(atI_map hj hz),q z⟩)|(exact⟨_,rfl,_,_,_,_,rfl,rfl,hS,(atI_map hj hz),q z⟩)
  ·exact q 0
theorem sc_drn:FnScope ["cell","k","stir"] ["cell","k"] (defScope (top 23)):=⟨rfl,rfl,rfl,by decide +kernel,rfl,by decide +kernel,by decide +kernel⟩
theorem ok_drn {f:Addr} {fd:FuncData} (F:Fun K "_law_drawn" "_law_drawn" (top 23) f fd):FnOk P w K mg base CX0 1 f fd ["cell","k"] spDrawn:=by
 have nd:=sc_drn.nd
 refine F.ok sc_drn (fun vs H Q E h=>?_) (fun cdv A outer s H vs Q E hr h=>?_)
 ·obtain⟨c,k,rfl,_⟩:=h
  rfl
 ·refine abb fun Gz hGz=>?_
  obtain⟨c,k,rfl,q⟩:=h
  refine hGz ?_
  refine⟨_,(@pss_cons _ _ _ _ _ (ps_set (i:=2) nd rfl (by first|exact Or.inl rfl|exact Or.inr rfl) (pe_op op_mod (pe_op op_mul (pe_op op_add (pe_op op_add (pv 0) (pe_op op_mul pe_int (pv 1))) pe_int) pe_int) pe_int))
   (@pss_cons _ _ _ _ _ (ps_set (i:=2) nd rfl (by first|exact Or.inl rfl|exact Or.inr rfl) (pe_op op_mod (pe_op op_mul (pv 2) (pv 2)) pe_int))
   (@pss_one _ _ _ (@ps_ret _ _ _ _ (pe_op op_fdiv (pe_op op_mod (pe_op op_mul (pe_op op_add (pv 2) (pe_op op_mul pe_int (pe_op op_add (pv 1) pe_int))) pe_int) pe_int) pe_int))))),?_⟩
  infer_instance
  generalize h1:(c + 977 * k + 1) * 48271 % 2147483647=n1
  have a1:0≤n1:=by rw[← h1]; exact qM _ (by decide)
  have b1:n1 < 2147483647:=by rw[← h1]; exact y8 _ (by decide)
  refine⟨_,_,rfl,rfl,.inl ⟨by rw[p64]; omega,by rw[p64]; omega⟩,?_⟩
  infer_instance
  generalize h3:(n1 * n1 % 2147483647 + 40692 * (k + 3)) * 69621 % 2147483399=n3
  have a3:0≤n3:=by rw[← h3]; exact qM _ (by decide)
  have b3:n3 < 2147483399:=by rw[← h3]; exact y8 _ (by decide)
  exact q _ (by omega) (by omega)
theorem sc_nmb:FnScope ["drawn"] ["drawn"] (defScope (top 24)):=⟨rfl,rfl,rfl,by decide +kernel,rfl,by decide +kernel,by decide +kernel⟩
theorem ok_nmb {f:Addr} {fd:FuncData} (F:Fun K "_law_number" "_law_number" (top 24) f fd):FnOk P w K mg base CX0 1 f fd ["drawn"] spNumb:=by
 have nd:=sc_nmb.nd
 refine F.ok sc_nmb (fun vs H Q E h=>?_) (fun cdv A outer s H vs Q E hr h=>?_)
 ·obtain⟨d,rfl,_⟩:=h
  rfl
 ·refine abb fun Gz hGz=>?_
  obtain⟨d,rfl,d0,d1,q⟩:=h
  refine hGz ?_
  refine⟨_,(@pss_cons _ _ _ _ _ (ps_if (pt_cmpR op_eq (pe_op op_mod (pv 0) pe_int) pe_int (nomark _)) (@pss_one _ _ _ (@ps_ret _ _ _ _ (pe_op op_sub (pe_op op_mod (pe_op op_mul (pe_op op_fdiv (pv 0) pe_int) pe_int) (pe_op op_add (pe_op op_mul pe_int (pe_op op_pow pe_int pe_int)) pe_int)) (pe_op op_pow pe_int pe_int)))) pss_nil)
   (@pss_one _ _ _ (@ps_ret _ _ _ _ (pe_op op_sub (pe_op op_mod (pe_op op_fdiv (pv 0) pe_int) pe_int) pe_int)))),?_⟩
  infer_instance
  refine iteB (fun _=>?_) (fun _=>?_)
  ·infer_instance
   show Q (V.int (d / 4 * 1000003 % (2 * 10 ^ Int.toNat 9 + 1) - 10 ^ Int.toNat 9)) H
   rw[show(10:Int) ^ Int.toNat 9=1000000000 by decide]
   exact q _ (by omega) (by omega)
  ·infer_instance
   exact q _ (by omega) (by omega)
theorem sc_sta:FnScope ["cell","k","kind"] ["cell","k"] (defScope (top 25)):=⟨rfl,rfl,rfl,by decide +kernel,rfl,by decide +kernel,by decide +kernel⟩
theorem ok_sta {f:Addr} {fd:FuncData} (F:Fun K "_law_station" "_law_station" (top 25) f fd) (T:Txt K mg) (G__law_drawn:FnAt P w K mg base 1 "_law_drawn" ["cell","k"] spDrawn) (G__law_number:FnAt P w K mg base 1 "_law_number" ["drawn"] spNumb):FnOk P w K mg base CX0 2 f fd ["cell","k"] spSta:=by
 have nd:=sc_sta.nd
 refine F.ok sc_sta (fun vs H Q E h=>?_) (fun cdv A outer s H vs Q E hr h=>?_)
 ·obtain⟨c,k,rfl,_⟩:=h
  rfl
 ·refine abb fun Gz hGz=>?_
  obtain⟨c,k,rfl,q⟩:=h
  refine hGz ?_
  refine⟨_,(@pss_cons _ _ _ _ _ (ps_set (i:=2) nd rfl (by first|exact Or.inl rfl|exact Or.inr rfl) (pe_op op_mod (pe_fn G__law_drawn (hr.mono (by decide)) (by rfl) (@pa_cons _ _ _ _ _ (pv 0) (@pa_cons _ _ _ _ _ (pv 1) pa_nil (by rfl)) (by rfl))) pe_int))
   (@pss_cons _ _ _ _ _ (ps_if (pt_cmpR op_lt (pv 2) pe_int (nomark _)) (@pss_one _ _ _ (@ps_ret _ _ _ _ (@pe_tup _ _ _ _ _ (@pa_cons _ _ _ _ _ pe_str (@pa_cons _ _ _ _ _ (pe_fn G__law_number (hr.mono (by decide)) (by rfl) (@pa_cons _ _ _ _ _ (pe_fn G__law_drawn (hr.mono (by decide)) (by rfl) (@pa_cons _ _ _ _ _ (pv 0) (@pa_cons _ _ _ _ _ (pe_op op_add (pv 1) pe_int) pa_nil (by rfl)) (by rfl))) pa_nil (by rfl))) pa_nil (by rfl)) (by rfl))))) pss_nil)
   (@pss_one _ _ _ (@ps_ret _ _ _ _ (@pe_tup _ _ _ _ _ (@pa_cons _ _ _ _ _ (@pe_ix _ _ _ _ _ _ _ (ix_listK (K:=K) rfl) (@pe_lst _ _ _ _ (@pa_cons _ _ _ _ _ pe_str (@pa_cons _ _ _ _ _ pe_str pa_nil (by rfl)) (by rfl))) (pe_callTy call_int1 (by rfl) T.n_int bt_int (@pa_cons _ _ _ _ _ (pe_cmpR op_eq (pv 2) pe_int (nomark _)) pa_nil (by rfl))) (fun _ _=>rfl)) pa_nil (by rfl))))))),?_⟩
  first|(refine tvC rfl ?_)|(refine tvO rfl ?_)|(refine tvK rfl ?_)|(refine tv rfl ?_)|(refine⟨_,rfl,?_⟩)
  first|(ac_rfl; refine⟨c,k,rfl,fun d d0 d1=>⟨_,_,rfl,rfl,(show(0:Int) < 7 by decide),?_⟩⟩)|(refine⟨_,rfl,c,k,rfl,fun d d0 d1=>⟨_,_,rfl,rfl,(show(0:Int) < 7 by decide),?_⟩⟩)
  first|(ac_rfl; refine⟨_,_,rfl,rfl,_,rfl,?_⟩)|(refine⟨_,rfl,_,_,rfl,rfl,_,rfl,?_⟩)
  refine iteB (fun _=>?_) (fun h2=>?_)
  ·first|(refine tvC rfl ?_)|(refine tvO rfl ?_)|(refine tvK rfl ?_)|(refine tv rfl ?_)|(refine⟨_,rfl,?_⟩)
   first|(ac_rfl; refine⟨_,_,rfl,rfl,c,_,rfl,fun e e0 e1=>⟨e,rfl,e0,e1,fun r r0 r1=>⟨(by show 2≤sizeLine; decide),fun p np=>?_⟩⟩⟩)|(refine⟨_,rfl,_,_,rfl,rfl,c,_,rfl,fun e e0 e1=>⟨e,rfl,e0,e1,fun r r0 r1=>⟨(by show 2≤sizeLine; decide),fun p np=>?_⟩⟩⟩)
   exact q p ("relay",some r) _ upd_same (.inl ⟨_,rfl,r0,r1⟩) (.inl ⟨_,rfl⟩) (Same.new np)
  ·refine⟨(by show 2≤sizeLine; decide),fun l nl=>?_⟩
   have s1:Same H (upd H l (.lst [.str "sorter",.str "sink"])):=Same.new nl
   have g1:(upd H l (.lst [.str "sorter",.str "sink"])) l=some (.lst [.str "sorter",.str "sink"]):=upd_same
   generalize (upd H l (.lst [.str "sorter",.str "sink"]))=H1 at s1 g1 ⊢
   first|(ac_rfl; refine⟨rfl,.inr ⟨_,rfl,?_⟩⟩)|(refine⟨_,rfl,rfl,.inr ⟨_,rfl,?_⟩⟩)
   generalize decide (V.int (d % 7)=V.int 6)=b
   cases b with
   | false=>exact⟨l,_,0,_,rfl,rfl,SqL.of g1,atI_nat (j:=0) rfl,(by show 1≤sizeLine; decide),fun t nt=>q t ("sorter",none) _ upd_same (.inr (.inl rfl)) (.inr (.inl rfl)) (s1.trans (Same.new nt))⟩
   | true=>exact⟨l,_,1,_,rfl,rfl,SqL.of g1,atI_nat (j:=1) rfl,(by show 1≤sizeLine; decide),fun t nt=>q t ("sink",none) _ upd_same (.inr (.inr (.inr (.inr rfl)))) (.inr (.inr rfl)) (s1.trans (Same.new nt))⟩
theorem sc_blt:FnScope ["cell","k","count","delay"] ["cell","k","count"] (defScope (top 26)):=⟨rfl,rfl,rfl,by decide +kernel,rfl,by decide +kernel,by decide +kernel⟩
theorem ok_blt {f:Addr} {fd:FuncData} (F:Fun K "_law_belt" "_law_belt" (top 26) f fd) (G__law_drawn:FnAt P w K mg base 1 "_law_drawn" ["cell","k"] spDrawn):FnOk P w K mg base CX0 2 f fd ["cell","k","count"] spBelt:=by
 have nd:=sc_blt.nd
 refine F.ok sc_blt (fun vs H Q E h=>?_) (fun cdv A outer s H vs Q E hr h=>?_)
 ·obtain⟨c,k,n,rfl,_⟩:=h
  rfl
 ·refine abb fun Gz hGz=>?_
  obtain⟨c,k,n,rfl,n0,n8,q⟩:=h
  refine hGz ?_
  refine⟨_,(@pss_cons _ _ _ _ _ (ps_set (i:=3) nd rfl (by first|exact Or.inl rfl|exact Or.inr rfl) (pe_op op_add pe_int (pe_op op_mod (pe_fn G__law_drawn (hr.mono (by decide)) (by rfl) (@pa_cons _ _ _ _ _ (pv 0) (@pa_cons _ _ _ _ _ (pe_op op_add (pv 1) pe_int) pa_nil (by rfl)) (by rfl))) pe_int)))
   (@pss_cons _ _ _ _ _ (ps_if (pt_cmpR op_eq (pe_op op_mod (pe_fn G__law_drawn (hr.mono (by decide)) (by rfl) (@pa_cons _ _ _ _ _ (pv 0) (@pa_cons _ _ _ _ _ (pe_op op_add (pv 1) pe_int) pa_nil (by rfl)) (by rfl))) pe_int) pe_int (nomark _)) (@pss_one _ _ _ (ps_set (i:=3) nd rfl (by first|exact Or.inl rfl|exact Or.inr rfl) (pe_op op_add pe_int (pe_op op_mod (pe_fn G__law_drawn (hr.mono (by decide)) (by rfl) (@pa_cons _ _ _ _ _ (pv 0) (@pa_cons _ _ _ _ _ (pe_op op_add (pv 1) pe_int) pa_nil (by rfl)) (by rfl))) pe_int)))) pss_nil)
   (@pss_one _ _ _ (@ps_ret _ _ _ _ (@pe_tup _ _ _ _ _ (@pa_cons _ _ _ _ _ (pe_op op_mod (pe_fn G__law_drawn (hr.mono (by decide)) (by rfl) (@pa_cons _ _ _ _ _ (pv 0) (@pa_cons _ _ _ _ _ (pv 1) pa_nil (by rfl)) (by rfl))) (pv 2)) (@pa_cons _ _ _ _ _ (pe_op op_mod (pe_fn G__law_drawn (hr.mono (by decide)) (by rfl) (@pa_cons _ _ _ _ _ (pv 0) (@pa_cons _ _ _ _ _ (pe_op op_add (pv 1) pe_int) pa_nil (by rfl)) (by rfl))) (pv 2)) (@pa_cons _ _ _ _ _ (pv 3) pa_nil (by rfl)) (by rfl)) (by rfl))))))),?_⟩
  have fin:∀(dl a b:Int),1≤dl→dl≤9→∀ p,H p=none→Q (.ref p) (upd H p (.tup [.int (a % n),.int (b % n),.int dl])):=fun dl a b h1 h2 p np =>
   q p (a % n,b % n,dl) _ upd_same (qM _ (by omega)) (y8 _ n0) (qM _ (by omega)) (y8 _ n0) h1 h2 (Same.new np)
  first|(refine tvC rfl ?_)|(refine tvO rfl ?_)|(refine tvK rfl ?_)|(refine tv rfl ?_)|(refine⟨_,rfl,?_⟩)
  first|(ac_rfl; refine⟨_,_,rfl,rfl,c,_,rfl,fun e e0 e1=>⟨_,_,rfl,rfl,(show(0:Int) < 3 by decide),_,_,rfl,rfl,?_⟩⟩)|(refine⟨_,rfl,_,_,rfl,rfl,c,_,rfl,fun e e0 e1=>⟨_,_,rfl,rfl,(show(0:Int) < 3 by decide),_,_,rfl,rfl,?_⟩⟩)
  first|(refine tvC rfl ?_)|(refine tvO rfl ?_)|(refine tvK rfl ?_)|(refine tv rfl ?_)|(refine⟨_,rfl,?_⟩)
  first|(ac_rfl; refine⟨_,_,rfl,rfl,c,_,rfl,fun g g0 g1=>⟨_,_,rfl,rfl,(show(0:Int) < 4 by decide),rfl,_,rfl,?_⟩⟩)|(refine⟨_,rfl,_,_,rfl,rfl,c,_,rfl,fun g g0 g1=>⟨_,_,rfl,rfl,(show(0:Int) < 4 by decide),rfl,_,rfl,?_⟩⟩)
  refine iteB (fun _=>?_) (fun _=>?_)
  ·first|(refine tvC rfl ?_)|(refine tvO rfl ?_)|(refine tvK rfl ?_)|(refine tv rfl ?_)|(refine⟨_,rfl,?_⟩)
   first|(ac_rfl; refine⟨_,_,rfl,rfl,c,_,rfl,fun e' e0' e1'=>⟨_,_,rfl,rfl,(show(0:Int) < 9 by decide),_,_,rfl,rfl,?_⟩⟩)|(refine⟨_,rfl,_,_,rfl,rfl,c,_,rfl,fun e' e0' e1'=>⟨_,_,rfl,rfl,(show(0:Int) < 9 by decide),_,_,rfl,rfl,?_⟩⟩)
   first|(refine tvC rfl ?_)|(refine tvO rfl ?_)|(refine tvK rfl ?_)|(refine tv rfl ?_)|(refine⟨_,rfl,?_⟩)
   first|(ac_rfl; refine⟨c,k,rfl,fun a a0 a1=>⟨_,rfl,_,_,rfl,rfl,n0,_,rfl,_,rfl,_,_,rfl,rfl,c,_,rfl,fun b b0 b1=>⟨_,rfl,_,_,rfl,rfl,n0,_,rfl,(by show 3≤sizeLine; decide),fin _ a b (by omega) (by omega)⟩⟩⟩)|(refine⟨_,rfl,c,k,rfl,fun a a0 a1=>⟨_,rfl,_,_,rfl,rfl,n0,_,rfl,_,rfl,_,_,rfl,rfl,c,_,rfl,fun b b0 b1=>⟨_,rfl,_,_,rfl,rfl,n0,_,rfl,(by show 3≤sizeLine; decide),fin _ a b (by omega) (by omega)⟩⟩⟩)
  ·first|(refine tvC rfl ?_)|(refine tvO rfl ?_)|(refine tvK rfl ?_)|(refine tv rfl ?_)|(refine⟨_,rfl,?_⟩)
   first|(ac_rfl; refine⟨c,k,rfl,fun a a0 a1=>⟨_,rfl,_,_,rfl,rfl,n0,_,rfl,_,rfl,_,_,rfl,rfl,c,_,rfl,fun b b0 b1=>⟨_,rfl,_,_,rfl,rfl,n0,_,rfl,(by show 3≤sizeLine; decide),fin _ a b (by omega) (by omega)⟩⟩⟩)|(refine⟨_,rfl,c,k,rfl,fun a a0 a1=>⟨_,rfl,_,_,rfl,rfl,n0,_,rfl,_,rfl,_,_,rfl,rfl,c,_,rfl,fun b b0 b1=>⟨_,rfl,_,_,rfl,rfl,n0,_,rfl,(by show 3≤sizeLine; decide),fin _ a b (by omega) (by omega)⟩⟩⟩)
theorem sc_fed:FnScope ["cell","k","count","time"] ["cell","k","count"] (defScope (top 27)):=⟨rfl,rfl,rfl,by decide +kernel,rfl,by decide +kernel,by decide +kernel⟩
theorem ok_fed {f:Addr} {fd:FuncData} (F:Fun K "_law_feed" "_law_feed" (top 27) f fd) (G__law_drawn:FnAt P w K mg base 1 "_law_drawn" ["cell","k"] spDrawn) (G__law_number:FnAt P w K mg base 1 "_law_number" ["drawn"] spNumb):FnOk P w K mg base CX0 2 f fd ["cell","k","count"] spFeed:=by
 have nd:=sc_fed.nd
 refine F.ok sc_fed (fun vs H Q E h=>?_) (fun cdv A outer s H vs Q E hr h=>?_)
 ·obtain⟨c,k,n,rfl,_⟩:=h
  rfl
 ·refine abb fun Gz hGz=>?_
  obtain⟨c,k,n,rfl,n0,n8,q⟩:=h
  refine hGz ?_
  refine⟨_,(@pss_cons _ _ _ _ _ (ps_set (i:=3) nd rfl (by first|exact Or.inl rfl|exact Or.inr rfl) (pe_op op_mod (pe_fn G__law_drawn (hr.mono (by decide)) (by rfl) (@pa_cons _ _ _ _ _ (pv 0) (@pa_cons _ _ _ _ _ (pe_op op_add (pv 1) pe_int) pa_nil (by rfl)) (by rfl))) pe_int))
   (@pss_cons _ _ _ _ _ (ps_if (pt_cmpR op_eq (pe_op op_mod (pe_fn G__law_drawn (hr.mono (by decide)) (by rfl) (@pa_cons _ _ _ _ _ (pv 0) (@pa_cons _ _ _ _ _ (pe_op op_add (pv 1) pe_int) pa_nil (by rfl)) (by rfl))) pe_int) pe_int (nomark _)) (@pss_one _ _ _ (ps_set (i:=3) nd rfl (by first|exact Or.inl rfl|exact Or.inr rfl) (pe_op op_mod (pe_fn G__law_drawn (hr.mono (by decide)) (by rfl) (@pa_cons _ _ _ _ _ (pv 0) (@pa_cons _ _ _ _ _ (pe_op op_add (pv 1) pe_int) pa_nil (by rfl)) (by rfl))) pe_int))) pss_nil)
   (@pss_one _ _ _ (@ps_ret _ _ _ _ (@pe_tup _ _ _ _ _ (@pa_cons _ _ _ _ _ (pe_op op_mod (pe_fn G__law_drawn (hr.mono (by decide)) (by rfl) (@pa_cons _ _ _ _ _ (pv 0) (@pa_cons _ _ _ _ _ (pv 1) pa_nil (by rfl)) (by rfl))) (pv 2)) (@pa_cons _ _ _ _ _ (pv 3) (@pa_cons _ _ _ _ _ (pe_fn G__law_number (hr.mono (by decide)) (by rfl) (@pa_cons _ _ _ _ _ (pe_fn G__law_drawn (hr.mono (by decide)) (by rfl) (@pa_cons _ _ _ _ _ (pv 0) (@pa_cons _ _ _ _ _ (pe_op op_add (pv 1) pe_int) pa_nil (by rfl)) (by rfl))) pa_nil (by rfl))) pa_nil (by rfl)) (by rfl)) (by rfl))))))),?_⟩
  have fin:∀(tm a r:Int),0≤tm→tm≤50→-1000000000≤r→r≤1000000000→∀ p,H p=none→Q (.ref p) (upd H p (.tup [.int (a % n),.int tm,.int r])):=fun tm a r h1 h2 h3 h4 p np =>
   q p (a % n,tm,r) _ upd_same (qM _ (by omega)) (y8 _ n0) h1 h2 h3 h4 (Same.new np)
  first|(refine tvC rfl ?_)|(refine tvO rfl ?_)|(refine tvK rfl ?_)|(refine tv rfl ?_)|(refine⟨_,rfl,?_⟩)
  first|(ac_rfl; refine⟨_,_,rfl,rfl,c,_,rfl,fun e e0 e1=>⟨_,_,rfl,rfl,(show(0:Int) < 13 by decide),?_⟩⟩)|(refine⟨_,rfl,_,_,rfl,rfl,c,_,rfl,fun e e0 e1=>⟨_,_,rfl,rfl,(show(0:Int) < 13 by decide),?_⟩⟩)
  first|(refine tvC rfl ?_)|(refine tvO rfl ?_)|(refine tvK rfl ?_)|(refine tv rfl ?_)|(refine⟨_,rfl,?_⟩)
  first|(ac_rfl; refine⟨_,_,rfl,rfl,c,_,rfl,fun g g0 g1=>⟨_,_,rfl,rfl,(show(0:Int) < 8 by decide),rfl,_,rfl,?_⟩⟩)|(refine⟨_,rfl,_,_,rfl,rfl,c,_,rfl,fun g g0 g1=>⟨_,_,rfl,rfl,(show(0:Int) < 8 by decide),rfl,_,rfl,?_⟩⟩)
  refine iteB (fun _=>?_) (fun _=>?_)
  ·first|(refine tvC rfl ?_)|(refine tvO rfl ?_)|(refine tvK rfl ?_)|(refine tv rfl ?_)|(refine⟨_,rfl,?_⟩)
   first|(ac_rfl; refine⟨_,_,rfl,rfl,c,_,rfl,fun e' e0' e1'=>⟨_,_,rfl,rfl,(show(0:Int) < 51 by decide),?_⟩⟩)|(refine⟨_,rfl,_,_,rfl,rfl,c,_,rfl,fun e' e0' e1'=>⟨_,_,rfl,rfl,(show(0:Int) < 51 by decide),?_⟩⟩)
   first|(refine tvC rfl ?_)|(refine tvO rfl ?_)|(refine tvK rfl ?_)|(refine tv rfl ?_)|(refine⟨_,rfl,?_⟩)
   first|(ac_rfl; refine⟨c,k,rfl,fun a a0 a1=>⟨_,rfl,_,_,rfl,rfl,n0,_,rfl,_,rfl,_,rfl,_,_,rfl,rfl,c,_,rfl,fun b b0 b1=>⟨b,rfl,b0,b1,fun r r0 r1=>⟨(by show 3≤sizeLine; decide),fin _ a r (by omega) (by omega) r0 r1⟩⟩⟩⟩)|(refine⟨_,rfl,c,k,rfl,fun a a0 a1=>⟨_,rfl,_,_,rfl,rfl,n0,_,rfl,_,rfl,_,rfl,_,_,rfl,rfl,c,_,rfl,fun b b0 b1=>⟨b,rfl,b0,b1,fun r r0 r1=>⟨(by show 3≤sizeLine; decide),fin _ a r (by omega) (by omega) r0 r1⟩⟩⟩⟩)
  ·first|(refine tvC rfl ?_)|(refine tvO rfl ?_)|(refine tvK rfl ?_)|(refine tv rfl ?_)|(refine⟨_,rfl,?_⟩)
   first|(ac_rfl; refine⟨c,k,rfl,fun a a0 a1=>⟨_,rfl,_,_,rfl,rfl,n0,_,rfl,_,rfl,_,rfl,_,_,rfl,rfl,c,_,rfl,fun b b0 b1=>⟨b,rfl,b0,b1,fun r r0 r1=>⟨(by show 3≤sizeLine; decide),fin _ a r (by omega) (by omega) r0 r1⟩⟩⟩⟩)|(refine⟨_,rfl,c,k,rfl,fun a a0 a1=>⟨_,rfl,_,_,rfl,rfl,n0,_,rfl,_,rfl,_,rfl,_,_,rfl,rfl,c,_,rfl,fun b b0 b1=>⟨b,rfl,b0,b1,fun r r0 r1=>⟨(by show 3≤sizeLine; decide),fin _ a r (by omega) (by omega) r0 r1⟩⟩⟩⟩)
theorem sc_unt:FnScope ["script","cell"] ["script"] (defScope (top 29)):=⟨rfl,rfl,rfl,by decide +kernel,rfl,by decide +kernel,by decide +kernel⟩
theorem ok_unt {f:Addr} {fd:FuncData} (F:Fun K "_law_until" "_law_until" (top 29) f fd) (G__law_cell_at:FnAt P w K mg base 1 "_law_cell_at" ["script","k"] (spCell K)) (G__law_drawn:FnAt P w K mg base 1 "_law_drawn" ["cell","k"] spDrawn):FnOk P w K mg base CX0 2 f fd ["script"] (spUntil K):=by
 have nd:=sc_unt.nd
 refine F.ok sc_unt (fun vs H Q E h=>?_) (fun cdv A outer s H vs Q E hr h=>?_)
 ·obtain⟨a,ns,rfl,_⟩:=h
  rfl
 ·refine abb fun Gz hGz=>?_
  obtain⟨a,ns,rfl,hS,q⟩:=h
  refine hGz ?_
  refine⟨_,(@pss_cons _ _ _ _ _ (ps_set (i:=1) nd rfl (by first|exact Or.inl rfl|exact Or.inr rfl) (pe_fn G__law_cell_at (hr.mono (by decide)) (by rfl) (@pa_cons _ _ _ _ _ (pv 0) (@pa_cons _ _ _ _ _ pe_int pa_nil (by rfl)) (by rfl))))
   (@pss_cons _ _ _ _ _ (ps_if (pt_cmpR op_eq (pe_op op_mod (pe_fn G__law_drawn (hr.mono (by decide)) (by rfl) (@pa_cons _ _ _ _ _ (pv 1) (@pa_cons _ _ _ _ _ pe_int pa_nil (by rfl)) (by rfl))) pe_int) pe_int (nomark _)) (@pss_one _ _ _ (@ps_ret _ _ _ _ (pe_op op_add pe_int (pe_op op_mod (pe_fn G__law_drawn (hr.mono (by decide)) (by rfl) (@pa_cons _ _ _ _ _ (pv 1) (@pa_cons _ _ _ _ _ pe_int pa_nil (by rfl)) (by rfl))) pe_int)))) pss_nil)
   (@pss_cons _ _ _ _ _ (ps_if (pt_cmpR op_eq (pe_op op_mod (pe_fn G__law_drawn (hr.mono (by decide)) (by rfl) (@pa_cons _ _ _ _ _ (pv 1) (@pa_cons _ _ _ _ _ pe_int pa_nil (by rfl)) (by rfl))) pe_int) pe_int (nomark _)) (@pss_one _ _ _ (@ps_ret _ _ _ _ (pe_op op_mod (pe_fn G__law_drawn (hr.mono (by decide)) (by rfl) (@pa_cons _ _ _ _ _ (pv 1) (@pa_cons _ _ _ _ _ pe_int pa_nil (by rfl)) (by rfl))) pe_int))) pss_nil)
   (@pss_one _ _ _ (@ps_ret _ _ _ _ (pe_op op_mod (pe_fn G__law_drawn (hr.mono (by decide)) (by rfl) (@pa_cons _ _ _ _ _ (pv 1) (@pa_cons _ _ _ _ _ pe_int pa_nil (by rfl)) (by rfl))) pe_int)))))),?_⟩
  first|(ac_rfl; refine⟨a,ns,1,rfl,hS,by decide,fun c=>?_⟩)|(refine⟨_,rfl,a,ns,1,rfl,hS,by decide,fun c=>?_⟩)
  first|(ac_rfl; refine⟨c,3,rfl,fun e e0 e1=>⟨_,_,rfl,rfl,(show(0:Int) < 16 by decide),rfl,_,rfl,?_⟩⟩)|(refine⟨_,rfl,c,3,rfl,fun e e0 e1=>⟨_,_,rfl,rfl,(show(0:Int) < 16 by decide),rfl,_,rfl,?_⟩⟩)
  refine iteB (fun _=>?_) (fun _=>?_)
  ·first|(ac_rfl; exact⟨c,4,rfl,fun g g0 g1=>⟨_,_,rfl,rfl,(show(0:Int) < 20 by decide),_,_,rfl,rfl,q _ (by omega) (by omega)⟩⟩)|(exact⟨_,rfl,c,4,rfl,fun g g0 g1=>⟨_,_,rfl,rfl,(show(0:Int) < 20 by decide),_,_,rfl,rfl,q _ (by omega) (by omega)⟩⟩)
  ·first|(ac_rfl; refine⟨c,3,rfl,fun e' e0' e1'=>⟨_,_,rfl,rfl,(show(0:Int) < 8 by decide),rfl,_,rfl,?_⟩⟩)|(refine⟨_,rfl,c,3,rfl,fun e' e0' e1'=>⟨_,_,rfl,rfl,(show(0:Int) < 8 by decide),rfl,_,rfl,?_⟩⟩)
   refine iteB (fun _=>?_) (fun _=>?_)
   ·first|(ac_rfl; exact⟨c,4,rfl,fun g g0 g1=>⟨_,_,rfl,rfl,(show(0:Int) < 41 by decide),q _ (by omega) (by omega)⟩⟩)|(exact⟨_,rfl,c,4,rfl,fun g g0 g1=>⟨_,_,rfl,rfl,(show(0:Int) < 41 by decide),q _ (by omega) (by omega)⟩⟩)
   ·first|(ac_rfl; exact⟨c,4,rfl,fun g g0 g1=>⟨_,_,rfl,rfl,(show(0:Int) < 15 by decide),q _ (by omega) (by omega)⟩⟩)|(exact⟨_,rfl,c,4,rfl,fun g g0 g1=>⟨_,_,rfl,rfl,(show(0:Int) < 15 by decide),q _ (by omega) (by omega)⟩⟩)
end
end Oc
namespace L2
open PySem
theorem sw_sub {a b:Expr} {p:Pos} {t:Expr} {l:Nat} {env:Env}:swapsWith (.Subscript a b p) (some t) l env=pure false:=rfl
end L2
namespace Oc
open PySem L2
theorem if_set {c:Bool} {D:Ends} {i:Nat} {v:V} (y:V) {σ:St} {H:Hp} (hy:σ[i]?=some (some y)) (h:∀ z,z=v∨z=y→D.nx (σ.set i (some z)) H):if c=true then tAsg (tC v) (gName i) D σ H else tNext D σ H:=by
 cases c
 ·refine iteF ?_
  have e:=h y (.inr rfl)
  have es:σ.set i (some y)=σ:=by
   refine yW fun j=>?_
   by_cases hj:i=j
   ·subst hj
    rw[y6 (zA.mp hy).1,hy]
   ·rw[qD hj]
  rw[es] at e
  exact e
 ·exact iteT (h v (.inl rfl))
theorem all_snoc {α:Type} {p:α→Prop} {l:List α} {x:α} (h:∀ t ∈ l,p t) (hx:p x):∀ t ∈ l++[x],p t:=fun u hu=>by
 rcases yE.mp hu with q|q
 ·exact h u q
 ·rw[zR.mp q]; exact hx
inductive spWks (K:PySem.W.Frag) (vs:List V) (H:Hp) (Q:VK) (x_3:XK):Prop where
 | mk (a:Addr) (ns:List Int) (h_0:vs=[.ref a]) (h_1:SqL K H a (ns.map V.int)) (h_2:ns.length≤63) (h_3:∀(w:Addr) (W:Wk) (H':Hp),WkAt H' w W→W.Ok→(∀ s ∈ W.st,StaK s)→Same H H'→Q (.ref w) H'):spWks K vs H Q x_3
theorem many_at:∀ j:Nat,j < 12→∃ z:Int,([0,1,2,3,4,5,6,7,12,5,6,4]:List Int)[j]?=some z∧0≤z∧z≤12:=fun j hj =>
 match j,hj with
 | 0,_=>⟨0,rfl,by decide,by decide⟩
 | 1,_=>⟨1,rfl,by decide,by decide⟩
 | 2,_=>⟨2,rfl,by decide,by decide⟩
 | 3,_=>⟨3,rfl,by decide,by decide⟩
 | 4,_=>⟨4,rfl,by decide,by decide⟩
 | 5,_=>⟨5,rfl,by decide,by decide⟩
 | 6,_=>⟨6,rfl,by decide,by decide⟩
 | 7,_=>⟨7,rfl,by decide,by decide⟩
 | 8,_=>⟨12,rfl,by decide,by decide⟩
 | 9,_=>⟨5,rfl,by decide,by decide⟩
 | 10,_=>⟨6,rfl,by decide,by decide⟩
 | 11,_=>⟨4,rfl,by decide,by decide⟩
theorem cut_ints (ns:List Int) (lo hi:Option Int):∃ ms:List Int,cutV (ns.map V.int) lo hi=ms.map V.int∧ms.length≤ns.length:=by
 refine⟨(ns.drop (HT.sIx (ns.map V.int).length 0 lo)).take (HT.sIx (ns.map V.int).length (ns.map V.int).length hi - HT.sIx (ns.map V.int).length 0 lo),?_,?_⟩
 ·unfold cutV
  rw[List.map_take,List.map_drop]
 ·exact yA (List.length_take_le' _ _) (by rw[qU]; exact kR _ _)
theorem min_up (a b n:Nat) (h:b≤a + 40):min b n≤min a n + 40:=by
 rcases Nat.le_total a n with g|g
 ·rw[jD g]; exact yA (kO _ _) h
 ·rw[Nat.min_eq_right g]; exact yA (Nat.min_le_right _ _) (Nat.le_add_right _ _)
theorem cut_len (xs:List V) (z hi:Int) (h:hi≤z + 40) (h0:0≤z) (h1:0≤hi):(cutV xs (some z) (some hi)).length≤40:=by
 unfold cutV
 obtain⟨a,rfl⟩:∃ a:Nat,z=(a:Int):=qY h0
 obtain⟨b,rfl⟩:∃ b:Nat,hi=(b:Int):=qY h1
 rw[zX,HT.sIx_nat,HT.sIx_nat]
 exact yA (kO _ _) (Nat.sub_le_of_le_add (yA (min_up a b _ (by omega)) (qZ (Nat.add_comm _ _))))
section
variable {P:Program} {w:World} {K:PySem.W.Frag} {mg:Str→Option Value} {base:Heap}
theorem sc_wks:FnScope ["script","first","count","many","stations","at","belts","cells"] ["script"] (defScope (top 28)):=⟨rfl,rfl,rfl,by decide +kernel,rfl,by decide +kernel,by decide +kernel⟩
theorem ok_wks {f:Addr} {fd:FuncData} (F:Fun K "_law_works" "_law_works" (top 28) f fd) (T:Txt K mg) (G__law_cell_at:FnAt P w K mg base 1 "_law_cell_at" ["script","k"] (spCell K)) (G__law_drawn:FnAt P w K mg base 1 "_law_drawn" ["cell","k"] spDrawn) (G__law_station:FnAt P w K mg base 2 "_law_station" ["cell","k"] spSta) (G__law_belt:FnAt P w K mg base 2 "_law_belt" ["cell","k","count"] spBelt) (G__law_feed:FnAt P w K mg base 2 "_law_feed" ["cell","k","count"] spFeed):FnOk P w K mg base CX0 3 f fd ["script"] (spWks K):=by
 have nd:=sc_wks.nd
 refine F.ok sc_wks (fun vs H Q E h=>?_) (fun cdv A outer s H vs Q E hr h=>?_)
 ·obtain⟨a,ns,rfl,_⟩:=h
  rfl
 ·refine abb fun Gz hGz=>?_
  obtain⟨a,ns,rfl,hS,hl,q⟩:=h
  refine hGz ?_
  refine⟨_,(@pss_cons _ _ _ _ _ (ps_set (i:=1) nd rfl (by first|exact Or.inl rfl|exact Or.inr rfl) (pe_fn G__law_cell_at (hr.mono (by decide)) (by rfl) (@pa_cons _ _ _ _ _ (pv 0) (@pa_cons _ _ _ _ _ pe_int pa_nil (by rfl)) (by rfl))))
   (@pss_cons _ _ _ _ _ (ps_set (i:=2) nd rfl (by first|exact Or.inl rfl|exact Or.inr rfl) (pe_op op_add pe_int (pe_op op_mod (pe_fn G__law_drawn (hr.mono (by decide)) (by rfl) (@pa_cons _ _ _ _ _ (pv 1) (@pa_cons _ _ _ _ _ pe_int pa_nil (by rfl)) (by rfl))) pe_int)))
   (@pss_cons _ _ _ _ _ (ps_if (pt_cmpR op_eq (pe_op op_mod (pe_fn G__law_drawn (hr.mono (by decide)) (by rfl) (@pa_cons _ _ _ _ _ (pv 1) (@pa_cons _ _ _ _ _ pe_int pa_nil (by rfl)) (by rfl))) pe_int) pe_int (nomark _)) (@pss_one _ _ _ (ps_set (i:=2) nd rfl (by first|exact Or.inl rfl|exact Or.inr rfl) pe_int)) pss_nil)
   (@pss_cons _ _ _ _ _ (@ps_set _ _ 3 _ _ _ _ nd rfl (by first|exact Or.inl rfl|exact Or.inr rfl) (@pe_ix _ _ _ _ _ _ _ (ix_listK (K:=K) rfl) (@pe_lst _ _ _ _ (@pa_cint _ _ _ _ _ _ (@pa_cint _ _ _ _ _ _ (@pa_cint _ _ _ _ _ _ (@pa_cint _ _ _ _ _ _ (@pa_cint _ _ _ _ _ _ (@pa_cint _ _ _ _ _ _ (@pa_cint _ _ _ _ _ _ (@pa_cint _ _ _ _ _ _ (@pa_cint _ _ _ _ _ _ (@pa_cint _ _ _ _ _ _ (@pa_cint _ _ _ _ _ _ (@pa_cint _ _ _ _ _ _ pa_nil))))))))))))) (pe_op op_mod (pe_fn G__law_drawn (hr.mono (by decide)) (by rfl) (@pa_cons _ _ _ _ _ (pv 1) (@pa_cons _ _ _ _ _ pe_int pa_nil (by rfl)) (by rfl))) pe_int) (fun _ _=>rfl)) sw_sub (by first|exact .inl rfl|exact .inr rfl|assumption))
   (@pss_cons _ _ _ _ _ (ps_setC (i:=4) nd rfl (Or.inl rfl) rfl (own:=["k"]) (fr:=["script"]) (js:=[0]) ⟨rfl,rfl,by decide +kernel,by decide +kernel,by repeat (first|exact Each.nil|refine Each.cons rfl ?_),by repeat (first|exact Each.nil|refine Each.cons rfl ?_),by repeat (first|exact Paired.nil|refine Paired.cons ⟨rfl,by first|exact Or.inl rfl|exact Or.inr rfl,by first|exact Or.inl rfl|exact Or.inr rfl⟩ ?_),rfl⟩ (pi_range1 rfl T.n_range (@pa_cons _ _ _ _ _ (pv 2) pa_nil (by rfl))) (fun _ _ _ _=>(pg_name (i:=0) (show List.Nodup (["k","script"]:List Str) from by decide +kernel) rfl (by first|exact Or.inl rfl|exact Or.inr rfl))) (fun _ _ _ _=>pts_nil) (fun _ _ _ _=>(pe_fn G__law_station (hr.mono (by decide)) (by rfl) (@pa_cons _ _ _ _ _ (pe_fn G__law_cell_at (hr.mono (by decide)) (by rfl) (@pa_cons _ _ _ _ _ (pv 1) (@pa_cons _ _ _ _ _ (pe_op op_add pe_int (pv 0)) pa_nil (by rfl)) (by rfl))) (@pa_cons _ _ _ _ _ (pv 0) pa_nil (by rfl)) (by rfl)))))
   (@pss_cons _ _ _ _ _ (ps_set (i:=5) nd rfl (by first|exact Or.inl rfl|exact Or.inr rfl) (pe_op op_add pe_int (pv 2)))
   (@pss_cons _ _ _ _ _ (ps_setC (i:=6) nd rfl (Or.inl rfl) rfl (own:=["k"]) (fr:=["script","at","count"]) (js:=[0,5,2]) ⟨rfl,rfl,by decide +kernel,by decide +kernel,by repeat (first|exact Each.nil|refine Each.cons rfl ?_),by repeat (first|exact Each.nil|refine Each.cons rfl ?_),by repeat (first|exact Paired.nil|refine Paired.cons ⟨rfl,by first|exact Or.inl rfl|exact Or.inr rfl,by first|exact Or.inl rfl|exact Or.inr rfl⟩ ?_),rfl⟩ (pi_range1 rfl T.n_range (@pa_cons _ _ _ _ _ (pv 3) pa_nil (by rfl))) (fun _ _ _ _=>(pg_name (i:=0) (show List.Nodup (["k","script","at","count"]:List Str) from by decide +kernel) rfl (by first|exact Or.inl rfl|exact Or.inr rfl))) (fun _ _ _ _=>pts_nil) (fun _ _ _ _=>(pe_fn G__law_belt (hr.mono (by decide)) (by rfl) (@pa_cons _ _ _ _ _ (pe_fn G__law_cell_at (hr.mono (by decide)) (by rfl) (@pa_cons _ _ _ _ _ (pv 1) (@pa_cons _ _ _ _ _ (pe_op op_add (pv 2) (pv 0)) pa_nil (by rfl)) (by rfl))) (@pa_cons _ _ _ _ _ (pe_op op_add (pv 2) (pv 0)) (@pa_cons _ _ _ _ _ (pv 3) pa_nil (by rfl)) (by rfl)) (by rfl)))))
   (@pss_cons _ _ _ _ _ (ps_set (i:=5) nd rfl (by first|exact Or.inl rfl|exact Or.inr rfl) (pe_op op_add (pv 5) (pv 3)))
   (@pss_cons _ _ _ _ _ (ps_set (i:=7) nd rfl (by first|exact Or.inl rfl|exact Or.inr rfl) (pe_slice sl_list (pv 0) (po_some (pv 5)) (po_some (pe_callB (call_min2 rfl) (by rfl) T.n_min bt_min (@pa_cons _ _ _ _ _ pe_int (@pa_cons _ _ _ _ _ (pe_op op_add (pv 5) pe_int) pa_nil (by rfl)) (by rfl))))))
   (@pss_one _ _ _ (@ps_ret _ _ _ _ (@pe_tup _ _ _ _ _ (@pa_cons _ _ _ _ _ (pv 4) (@pa_cons _ _ _ _ _ (pv 6) (@pa_cons _ _ _ _ _ (pe_comp (own:=["k","cell"]) (fr:=["at","count"]) (js:=[5,2]) ⟨rfl,rfl,by decide +kernel,by decide +kernel,by repeat (first|exact Each.nil|refine Each.cons rfl ?_),by repeat (first|exact Each.nil|refine Each.cons rfl ?_),by repeat (first|exact Paired.nil|refine Paired.cons ⟨rfl,by first|exact Or.inl rfl|exact Or.inr rfl,by first|exact Or.inl rfl|exact Or.inr rfl⟩ ?_),rfl⟩ (pi_enum rfl T.n_enumerate (@pa_cons _ _ _ _ _ (pv 7) pa_nil (by rfl))) (fun _ _ _ _=>(pg_tupK (K:=K) (n:=2) rfl rfl (pgs_cons (pg_name (i:=0) (show List.Nodup (["k","cell","at","count"]:List Str) from by decide +kernel) rfl (by first|exact Or.inl rfl|exact Or.inr rfl)) (pgs_cons (pg_name (i:=1) (show List.Nodup (["k","cell","at","count"]:List Str) from by decide +kernel) rfl (by first|exact Or.inl rfl|exact Or.inr rfl)) pgs_nil)))) (fun _ _ _ _=>pts_nil) (fun _ _ _ _=>(pe_fn G__law_feed (hr.mono (by decide)) (by rfl) (@pa_cons _ _ _ _ _ (pv 1) (@pa_cons _ _ _ _ _ (pe_op op_add (pv 2) (pv 0)) (@pa_cons _ _ _ _ _ (pv 3) pa_nil (by rfl)) (by rfl)) (by rfl))))) pa_nil (by rfl)) (by rfl)) (by rfl)))))))))))))),?_⟩
  first|(ac_rfl; refine⟨a,ns,0,rfl,hS,by decide,fun c0=>?_⟩)|(refine⟨_,rfl,a,ns,0,rfl,hS,by decide,fun c0=>?_⟩)
  first|(ac_rfl; refine⟨c0,0,rfl,fun d d0 d1=>⟨_,_,rfl,rfl,(show(0:Int) < 5 by decide),_,_,rfl,rfl,?_⟩⟩)|(refine⟨_,rfl,c0,0,rfl,fun d d0 d1=>⟨_,_,rfl,rfl,(show(0:Int) < 5 by decide),_,_,rfl,rfl,?_⟩⟩)
  first|(ac_rfl; refine⟨c0,1,rfl,fun e e0 e1=>⟨_,_,rfl,rfl,(show(0:Int) < 8 by decide),rfl,_,rfl,?_⟩⟩)|(refine⟨_,rfl,c0,1,rfl,fun e e0 e1=>⟨_,_,rfl,rfl,(show(0:Int) < 8 by decide),rfl,_,rfl,?_⟩⟩)
  have M1:1≤1 + d % 5:=by omega
  have M8:1 + d % 5≤8:=by omega
  generalize hv:V.int (1 + d % 5)=vM
  generalize hw8:V.int 8=v8
  refine if_set vM rfl fun z hz=>?_
  refine abb fun Gz hGz=>?_
  obtain⟨M,rfl,N1,N8⟩:∃ M:Int,z=.int M∧1≤M∧M≤8:=by
   rcases hz with hz|hz
   ·exact⟨8,hz.trans hw8.symm,by decide,by decide⟩
   ·exact⟨1 + d % 5,hz.trans hv.symm,M1,M8⟩
  refine hGz ?_
  clear hz hw8 hv v8 M1 M8
  refine⟨(by show 12≤sizeLine; decide),fun l nl=>?_⟩
  have s1:Same H (upd H l (.lst (([0,1,2,3,4,5,6,7,12,5,6,4]:List Int).map V.int))):=Same.new nl
  have g1:(upd H l (.lst (([0,1,2,3,4,5,6,7,12,5,6,4]:List Int).map V.int))) l=some (.lst (([0,1,2,3,4,5,6,7,12,5,6,4]:List Int).map V.int)):=upd_same
  first|(ac_rfl; refine⟨c0,2,rfl,fun g g0 g1'=>⟨_,_,rfl,rfl,(show(0:Int) < 12 by decide),?_⟩⟩)|(refine⟨_,rfl,c0,2,rfl,fun g g0 g1'=>⟨_,_,rfl,rfl,(show(0:Int) < 12 by decide),?_⟩⟩)
  refine abb fun Gz hGz=>?_
  obtain⟨j,hj⟩:∃ j:Nat,g % 12=(j:Int):=⟨(g % 12).toNat,by omega⟩
  obtain⟨B,hB,B0,B12⟩:=many_at j (by omega)
  refine hGz ?_
  refine⟨_,_,_,_,rfl,rfl,SqL.of g1,atI_map hj hB,?_⟩
  clear g1 hB hj
  have hS1:=s1.seq hS
  first|(refine tvC rfl ?_)|(refine tvO rfl ?_)|(refine tvK rfl ?_)|(refine tv rfl ?_)|(refine⟨_,rfl,?_⟩)
  first|(ac_rfl; refine⟨by rw[p62]; omega,by rw[p62]; omega,fun D nD=>?_⟩)|(refine⟨_,rfl,by rw[p62]; omega,by rw[p62]; omega,fun D nD=>?_⟩)
  refine comp_range (lo:=0) (n:=M.toNat) (fun i H4=>∃(xs:List V) (ss:List Sta),Same H H4∧H4 D=some (.lst xs)∧Paired (IsSta H4) xs ss∧ss.length=i∧∀ s ∈ ss,StaOk s∧StaK s)
   ⟨[],[],s1.trans (Same.new nD),upd_same,.nil,rfl,fun s h=>absurd h zW⟩ ?_ ?_
  ·rintro i H4 m Wf hi hz0 nx
   refine abb fun Gz hGz=>?_
   obtain⟨xs,ss,s4,h4,pr,el,ok⟩:=hz0
   refine hGz ?_
   first|(refine tvC rfl ?_)|(refine tvO rfl ?_)|(refine tvK rfl ?_)|(refine tv rfl ?_)|(refine⟨_,rfl,?_⟩)
   first|(ac_rfl; refine⟨_,_,rfl,rfl,a,ns,_,rfl,s4.seq hS,by omega,fun c=>⟨_,rfl,c,_,rfl,fun p st H6 hp okp okk s6=>?_⟩⟩)|(refine⟨_,rfl,_,_,rfl,rfl,a,ns,_,rfl,s4.seq hS,by omega,fun c=>⟨_,rfl,c,_,rfl,fun p st H6 hp okp okk s6=>?_⟩⟩)
   have lx:=pr.length
   refine⟨_,s6 _ _ h4,small1000 (by omega),nx _ ⟨xs++[.ref p],ss++[st],(s4.trans s6).upd (s1.free nD),upd_same,?_,by rw[zM,el]; rfl,all_snoc ok ⟨okp,okk⟩⟩⟩
   exact paired_app (pairedMono (fun _ _ h=>(IsSta.same s6 h).keep (s6 _ _ h4)) pr) (.cons (IsSta.keep (s6 _ _ h4) ⟨p,rfl,hp⟩) .nil)
  ·rintro H4 hz1
   refine abb fun Gz hGz=>?_
   obtain⟨xs,ss,s4,h4,prS,elS,okS⟩:=hz1
   refine hGz ?_
   have elS':(ss.length:Int)=M:=by omega
   first|(ac_rfl; refine⟨_,_,rfl,rfl,?_⟩)|(refine⟨_,rfl,_,_,rfl,rfl,?_⟩)
   first|(refine tvC rfl ?_)|(refine tvO rfl ?_)|(refine tvK rfl ?_)|(refine tv rfl ?_)|(refine⟨_,rfl,?_⟩)
   first|(ac_rfl; refine⟨by rw[p62]; omega,by rw[p62]; omega,fun D1 nD1=>?_⟩)|(refine⟨_,rfl,by rw[p62]; omega,by rw[p62]; omega,fun D1 nD1=>?_⟩)
   refine comp_range (lo:=0) (n:=B.toNat) (fun i H5=>∃(ys:List V) (be:List Tri),Same H4 H5∧H5 D1=some (.lst ys)∧Paired (IsTri H5) ys be∧be.length=i∧∀ t ∈ be,0≤t.1∧t.1 < M∧0≤t.2.1∧t.2.1 < M∧1≤t.2.2∧t.2.2≤9)
    ⟨[],[],Same.new nD1,upd_same,.nil,rfl,fun s h=>absurd h zW⟩ ?_ ?_
   ·rintro i H5 m Wf hi hz2 nx
    refine abb fun Gz hGz=>?_
    obtain⟨ys,be,s5,h5,pr,el,ok⟩:=hz2
    refine hGz ?_
    first|(refine tvC rfl ?_)|(refine tvO rfl ?_)|(refine tvK rfl ?_)|(refine tv rfl ?_)|(refine⟨_,rfl,?_⟩)
    first|(refine tvC rfl ?_)|(refine tvO rfl ?_)|(refine tvK rfl ?_)|(refine tv rfl ?_)|(refine⟨_,rfl,?_⟩)
    first|(ac_rfl; refine⟨_,_,rfl,rfl,a,ns,_,rfl,(s4.trans s5).seq hS,by omega,fun c=>⟨_,rfl,_,rfl,_,_,rfl,rfl,_,rfl,c,_,M,rfl,by omega,by omega,fun p st H6 hp o1 o2 o3 o4 o5 o6 s6=>?_⟩⟩)|(refine⟨_,rfl,_,_,rfl,rfl,a,ns,_,rfl,(s4.trans s5).seq hS,by omega,fun c=>⟨_,rfl,_,rfl,_,_,rfl,rfl,_,rfl,c,_,M,rfl,by omega,by omega,fun p st H6 hp o1 o2 o3 o4 o5 o6 s6=>?_⟩⟩)
    have lx:=pr.length
    refine⟨_,s6 _ _ h5,small1000 (by omega),nx _ ⟨ys++[.ref p],be++[st],(s5.trans s6).upd nD1,upd_same,?_,by rw[zM,el]; rfl,all_snoc ok ⟨o1,o2,o3,o4,o5,o6⟩⟩⟩
    exact paired_app (pairedMono (fun _ _ h=>(IsTri.same s6 h).keep (s6 _ _ h5)) pr) (.cons (IsTri.keep (s6 _ _ h5) ⟨p,rfl,hp⟩) .nil)
   ·rintro H5 hz3
    refine abb fun Gz hGz=>?_
    obtain⟨ys,be,s5,h5,prB,elB,okB⟩:=hz3
    refine hGz ?_
    first|(refine tvC rfl ?_)|(refine tvO rfl ?_)|(refine tvK rfl ?_)|(refine tv rfl ?_)|(refine⟨_,rfl,?_⟩)
    first|(ac_rfl; refine⟨_,_,rfl,rfl,?_⟩)|(refine⟨_,rfl,_,_,rfl,rfl,?_⟩)
    have s05:=s4.trans s5
    first|(refine tvC rfl ?_)|(refine tvO rfl ?_)|(refine tvK rfl ?_)|(refine tv rfl ?_)|(refine⟨_,rfl,?_⟩)
    first|(refine tvC rfl ?_)|(refine tvO rfl ?_)|(refine tvK rfl ?_)|(refine tv rfl ?_)|(refine⟨_,rfl,?_⟩)
    first|(refine tvC rfl ?_)|(refine tvO rfl ?_)|(refine tvK rfl ?_)|(refine tv rfl ?_)|(refine⟨_,rfl,?_⟩)
    first|(ac_rfl; refine⟨_,_,rfl,rfl,_,_,rfl,_,rfl,a,_,rfl,s05.seq hS,fun pc np=>?_⟩)|(refine⟨_,rfl,_,_,rfl,rfl,_,_,rfl,_,rfl,a,_,rfl,s05.seq hS,fun pc np=>?_⟩)
    have s6:Same H5 (upd H5 pc (.lst (cutV (ns.map V.int) (some (2 + M + B)) (some (if 2 + M + B + 40 < 63 then 2 + M + B + 40 else 63))))):=Same.new np
    have c40:(cutV (ns.map V.int) (some (2 + M + B)) (some (if 2 + M + B + 40 < 63 then 2 + M + B + 40 else 63))).length≤40:=cut_len _ _ _ (by split <;> omega) (by omega) (by split <;> omega)
    refine abb fun Gz hGz=>?_
    obtain⟨ms,em,_⟩:=cut_ints ns (some (2 + M + B)) (some (if 2 + M + B + 40 < 63 then 2 + M + B + 40 else 63))
    refine hGz ?_
    have hc6:(upd H5 pc (.lst (cutV (ns.map V.int) (some (2 + M + B)) (some (if 2 + M + B + 40 < 63 then 2 + M + B + 40 else 63))))) pc=some (.lst (cutV (ns.map V.int) (some (2 + M + B)) (some (if 2 + M + B + 40 < 63 then 2 + M + B + 40 else 63)))):=upd_same
    rw[em] at c40 s6 hc6
    rw[zB] at c40
    first|(refine tvC rfl ?_)|(refine tvO rfl ?_)|(refine tvK rfl ?_)|(refine tv rfl ?_)|(refine⟨_,rfl,?_⟩)
    first|(refine tvC rfl ?_)|(refine tvO rfl ?_)|(refine tvK rfl ?_)|(refine tv rfl ?_)|(refine⟨_,rfl,?_⟩)
    first|(ac_rfl; refine⟨pc,rfl,⟨_,SqL.of upd_same⟩,fun D2 nD2=>?_⟩)|(refine⟨_,rfl,pc,rfl,⟨_,SqL.of upd_same⟩,fun D2 nD2=>?_⟩)
    rw[em]
    rw[em] at nD2
    generalize (upd H5 pc (.lst (ms.map V.int)))=H6 at s6 hc6 nD2
    refine comp_enum (a:=pc) (xs:=ms.map V.int) (fun i H7=>∃(zs:List V) (fe:List Tri),Same H6 H7∧H7 D2=some (.lst zs)∧Paired (IsTri H7) zs fe∧fe.length=i∧∀ t ∈ fe,0≤t.1∧t.1 < M∧0≤t.2.1∧t.2.1≤50∧-1000000000≤t.2.2∧t.2.2≤1000000000)
     ⟨[],[],Same.new nD2,upd_same,.nil,rfl,fun s h=>absurd h zW⟩ (fun i H7 _ ⟨_,_,s7,_⟩=>SqL.of (s7 _ _ hc6)) ?_ ?_
    ·rintro i x H7 m Wf hx hz4 nx pp npp
     refine abb fun Gz hGz=>?_
     obtain⟨zs,fe,s7,h7,pr,el,ok⟩:=hz4
     refine hGz ?_
     have hi:=(zA.mp hx).1
     rw[zB] at hi
     rw[zJ] at hx
     refine abb fun Gz hGz=>?_
     obtain⟨c,hc,rfl⟩:=qG.mp hx
     refine hGz ?_
     have s8:Same H7 (upd H7 pp (.tup [.int i,.int c])):=Same.new npp
     refine⟨pp,_,rfl,SqT.of upd_same,rfl,_,_,rfl,_,_,rfl,rfl,?_⟩
     first|(refine tvC rfl ?_)|(refine tvO rfl ?_)|(refine tvK rfl ?_)|(refine tv rfl ?_)|(refine⟨_,rfl,?_⟩)
     first|(refine tvC rfl ?_)|(refine tvO rfl ?_)|(refine tvK rfl ?_)|(refine tv rfl ?_)|(refine⟨_,rfl,?_⟩)
     first|(ac_rfl; refine⟨_,_,rfl,rfl,_,rfl,c,_,M,rfl,by omega,by omega,fun p st H9 hp o1 o2 o3 o4 o5 o6 s9=>?_⟩)|(refine⟨_,rfl,_,_,rfl,rfl,_,rfl,c,_,M,rfl,by omega,by omega,fun p st H9 hp o1 o2 o3 o4 o5 o6 s9=>?_⟩)
     have lx:=pr.length
     have s79:=s8.trans s9
     refine⟨_,s79 _ _ h7,small1000 (by omega),nx _ ⟨zs++[.ref p],fe++[st],(s7.trans s79).upd nD2,upd_same,?_,by rw[zM,el]; rfl,all_snoc ok ⟨o1,o2,o3,o4,o5,o6⟩⟩⟩
     exact paired_app (pairedMono (fun _ _ h=>(IsTri.same s79 h).keep (s79 _ _ h7)) pr) (.cons (IsTri.keep (s79 _ _ h7) ⟨p,rfl,hp⟩) .nil)
    ·rintro H7 hz5
     refine abb fun Gz hGz=>?_
     obtain⟨zs,fe,s7,h7,prF,elF,okF⟩:=hz5
     refine hGz ?_
     rw[zB] at elF
     refine⟨(by show 3≤sizeLine; decide),fun wt nw=>?_⟩
     have sw:Same H7 (upd H7 wt (.tup [.ref D,.ref D1,.ref D2])):=Same.new nw
     have s5w:=(s6.trans s7).trans sw
     have s4w:=s5.trans s5w
     refine q wt ⟨ss,be,fe⟩ _ ⟨D,D1,D2,xs,ys,zs,upd_same,⟨s4w _ _ h4,s5w _ _ h5,sw _ _ h7,pairedMono (fun _ _=>IsSta.same s4w) prS,pairedMono (fun _ _=>IsTri.same s5w) prB,pairedMono (fun _ _=>IsTri.same sw) prF⟩⟩ ⟨?_,?_,?_,?_,(fun s h=>(okS s h).1),?_,?_⟩ (fun s h=>(okS s h).2) (s4.trans s4w)
     ·show 1≤ss.length; omega
     ·show ss.length≤8; omega
     ·show be.length≤12; omega
     ·show fe.length≤60; omega
     ·intro t h
      have:=okB t h
      show 0≤t.1∧t.1 < (ss.length:Int)∧0≤t.2.1∧t.2.1 < (ss.length:Int)∧1≤t.2.2∧t.2.2≤9
      rw[elS']
      exact this
     ·intro t h
      have:=okF t h
      show 0≤t.1∧t.1 < (ss.length:Int)∧0≤t.2.1∧t.2.1≤50∧-1000000000≤t.2.2∧t.2.2≤1000000000
      rw[elS']
      exact this
end
end Oc
namespace Oc
open PySem L2
def kLe (a b:Int × Int):Prop:=a.1 < b.1∨(a.1=b.1∧a.2≤b.2)
theorem kLe_of {a b:Int × Int} (h:kLt b a=false):kLe a b:=by
 rcases Int.lt_trichotomy a.1 b.1 with q|q|q
 ·exact .inl q
 ·refine .inr ⟨q,jL.mp fun z=>?_⟩
  rw[(kLt_iff b a).mpr (.inr ⟨q.symm,z⟩)] at h
  cases h
 ·rw[(kLt_iff b a).mpr (.inl q)] at h
  cases h
theorem CS.first_cut {S:CS} {a:AR} (h:S.first=some a):∃ pre post,S.ar=pre++a::post∧S.ar.eraseIdx S.at=pre++post∧(∀ b ∈ pre,kLt a.key b.key=true)∧∀ b ∈ pre++post,kLe a.key b.key:=by
 have hi:=(zA.mp h).1
 have hg:=(zA.mp h).2
 have hat:∀(j:Nat) (b:AR),S.ar[j]?=some b→(S.ar.map AR.key).getD j (0,0)=b.key:=fun j b e=>by rw[zE,zJ,e]; rfl
 have hbest:∀(j:Nat) (b:AR),S.ar[j]?=some b→kLe a.key b.key:=fun j b e=>by
  have hj:=(zA.mp e).1
  have:=best_min (S.ar.map AR.key) ((S.ar.map AR.key).length - 1) j (by rw[zB]; omega)
  rw[hat j b e,show argBest (fun i j=>kLt ((S.ar.map AR.key).getD i (0,0)) ((S.ar.map AR.key).getD j (0,0))) ((S.ar.map AR.key).length - 1)=S.at from rfl,hat _ _ h] at this
  exact kLe_of this
 have hall:∀ b ∈ S.ar,kLe a.key b.key:=fun b hb=>let ⟨j,hj⟩:=yD hb; hbest j b hj
 refine⟨S.ar.take S.at,S.ar.drop (S.at + 1),?_,List.eraseIdx_eq_take_drop_succ ..,fun b hb=>?_,fun b hb=>hall b ?_⟩
 ·rw[← hg,List.getElem_cons_drop,yP]
 ·obtain⟨j,hj⟩:=yD hb
  rw[yQ] at hj
  split at hj
  ·rename_i hlt
   have:=best_first (S.ar.map AR.key) ((S.ar.map AR.key).length - 1) j hlt
   rw[hat j b hj,show argBest (fun i j=>kLt ((S.ar.map AR.key).getD i (0,0)) ((S.ar.map AR.key).getD j (0,0))) ((S.ar.map AR.key).length - 1)=S.at from rfl,hat _ _ h] at this
   exact this
  ·cases hj
 ·rcases yE.mp hb with q|q
  ·exact j3 q
  ·exact j4 q
end Oc
namespace Oc
open PySem L2
inductive spRun (Pd:Addr) (vs:List V) (H:Hp) (Q:VK) (x_3:XK):Prop where
 | mk (w:Addr) (u:Int) (W:Wk) (M:List (List Cell)) (h_0:vs=[.ref w,.int u]) (h_1:Hc H M) (h_2:NoT M) (h_3:WkIn M w W) (h_4:W.Ok) (h_5:DoorT Pd H) (h_6:u≤60) (h_7:∀(R:CS) (D1:Addr) (ea:List Addr) (evv:List (List V)) (H':Hp),Runs W u W.cs R→CSok W R→Hc H' ([(D1,.lst (ea.map V.ref))]::liC ea evv::M)→ea.length=evv.length→Paired (fun us ts=>Paired (IsTri H') us ts) evv R.ev→Tp H H'→DoorT Pd H'→(∀ us ∈ evv,us.length≤30000)→Q (.ref D1) H'):spRun Pd vs H Q x_3
theorem tris_dt {K:PySem.W.Frag} {H:Hp} {p:Addr} {xs:List V} {ts:List Tri} (e:H p=some (.lst xs)) (h:Paired (IsTri H) xs ts):Dt K H 2 (.ref p) (.list (ts.map triD)):=.lst (SqL.of e) (DtAll.of (f:=triD) (P:=IsTri H) (fun _ _ h=>h.dt) h)
def Sk (H H':Hp):Prop:=∀ b u,H b=some u→(∀ ps,u ≠ HO.tbl ps)→H' b=some u
def noTbl:HO→Bool
 | .tbl _=>false
 | _=>true
section
variable {P:Program} {w:World} {K:PySem.W.Frag} {mg:Str→Option Value} {base:Heap}
theorem sc_run:FnScope ["works","until"] ["works","until"] (defScope (top 20)):=⟨rfl,rfl,rfl,by decide +kernel,rfl,by decide +kernel,by decide +kernel⟩
theorem ok_run {f Pd:Addr} {fd:FuncData} (F:Fun K "run" "run" (top 20) f fd) (G_traced:FnAt P w K mg base 5 "traced" ["works","until"] (spTr Pd)):FnOk P w K mg base CX0 6 f fd ["works","until"] (spRun Pd):=by
 have nd:=sc_run.nd
 refine F.ok sc_run (fun vs H Q E h=>?_) (fun cdv A outer s H vs Q E hr h=>?_)
 ·obtain⟨w,u,W,M,rfl,_⟩:=h
  rfl
 ·refine abb fun Gz hGz=>?_
  obtain⟨w,u,W,M,rfl,hc,nT,hw,ok,hT,hu,q⟩:=h
  refine hGz ?_
  refine⟨_,(@pss_one _ _ _ (@ps_ret _ _ _ _ (@pe_ix _ _ _ _ _ _ _ (ix_tupK (K:=K) rfl) (pe_fn G_traced (hr.mono (by decide)) (by rfl) (@pa_cons _ _ _ _ _ (pv 0) (@pa_cons _ _ _ _ _ (pv 1) pa_nil (by rfl)) (by rfl))) pe_int (fun _ _=>rfl)))),?_⟩
  first|(refine tvC rfl ?_)|(refine tvO rfl ?_)|(refine tvK rfl ?_)|(refine tv rfl ?_)|(refine⟨_,rfl,?_⟩)
  first|(ac_rfl; refine⟨w,u,W,M,rfl,hc,nT,hw,ok,hT,hu,fun R t D1 D2 ea oa evv ogv H' r cok hc' l1 l2 pe po tp dT le=>?_⟩)|(refine⟨_,rfl,w,u,W,M,rfl,hc,nT,hw,ok,hT,hu,fun R t D1 D2 ea oa evv ogv H' r cok hc' l1 l2 pe po tp dT le=>?_⟩)
  refine(jxTc (j:=0) (hc'.get 0 0 rfl rfl) rfl ?_)
  exact q R D1 ea evv H' r cok hc'.tl.tl.tl l1 pe tp dT le
end
end Oc
namespace Oc
open PySem L2
theorem LsAt.sk {H H':Hp} (k:Sk H H') {s b f:Addr} {W:Wk} {xs ys zs:List V} (h2:LsAt H s b f W xs ys zs):LsAt H' s b f W xs ys zs:=by
 refine⟨k _ _ h2.hs (fun _ z=>nomatch z),k _ _ h2.hb (fun _ z=>nomatch z),k _ _ h2.hf (fun _ z=>nomatch z),pairedMono (fun _ _ h=>?_) h2.ps,pairedMono (fun _ _ h=>?_) h2.pb,pairedMono (fun _ _ h=>?_) h2.pf⟩
 all_goals
  obtain⟨q,e,r⟩:=h
  exact⟨q,e,k _ _ r (fun _ z=>nomatch z)⟩
theorem script_in {K:PySem.W.Frag} {H:Hp} {a:Addr} {xs:List V} (h:SqL K H a xs):∃ cs:List Cell,(∀ c ∈ cs,H c.1=some c.2)∧(∀ c ∈ cs,noTbl c.2=true)∧∀ H':Hp,(∀ c ∈ cs,H' c.1=some c.2)→SqL K H' a xs:=by
 rcases h with (h|⟨o,h⟩)|h
 ·exact⟨[(a,.lst xs)],fun c hc=>by rw[zR.mp hc]; exact h,fun c hc=>by rw[zR.mp hc]; rfl,fun H' h'=>.inl (.inl (h' _ zN))⟩
 ·exact⟨[(a,.frz o (.lst xs))],fun c hc=>by rw[zR.mp hc]; exact h,fun c hc=>by rw[zR.mp hc]; rfl,fun H' h'=>.inl (.inr ⟨o,h' _ zN⟩)⟩
 ·exact⟨[],fun c hc=>(by cases hc),fun c hc=>(by cases hc),fun H' _=>.inr h⟩
theorem base_in {K:PySem.W.Frag} {H:Hp} {w a:Addr} {W:Wk} {vs:List V} (h1:WkAt H w W) (h2:SqL K H a vs):∃(M:List (List Cell)) (s b f:Addr) (xs ys zs:List V),Hc H M∧NoT M∧∀ H',Hc H' M→H' w=some (.tup [.ref s,.ref b,.ref f])∧LsAt H' s b f W xs ys zs∧SqL K H' a vs:=by
 obtain⟨c1,s,b,f,xs,ys,zs,k1,e1⟩:=h1.cells2
 obtain⟨c2,k2,n2,e2⟩:=script_in h2
 have k1':Hs H c1:=by have k:Hs H [c1].flatten:=k1; rw[qJ] at k; exact k
 obtain⟨L,l1,l2⟩:=cells_dedup (H:=H) (L:=c1++c2) fun c hc=>by
  rcases yE.mp hc with q|q
  ·exact k1'.2 c q
  ·exact k2 c q
 refine⟨[L.filter fun c=>noTbl c.2],s,b,f,xs,ys,zs,?_,fun c hc ps e=>?_,fun H' hc=>?_⟩
 ·show Hs H [L.filter fun c=>noTbl c.2].flatten
  rw[qJ]
  exact l1.sub List.filter_sublist
 ·rw[qJ] at hc
  have:=(yJ.mp hc).2
  rw[e] at this
  cases this
 ·have hc':Hs H' (L.filter fun c=>noTbl c.2):=by have k:Hs H' [L.filter fun c=>noTbl c.2].flatten:=hc; rw[qJ] at k; exact k
  obtain⟨w1,w2⟩:=e1 (fun a=>if a ∈ L.map Prod.fst then H a else none) fun c hc1=>by
   have hm:=l2 c (yS _ hc1)
   show(if c.1 ∈ L.map Prod.fst then H c.1 else none)=_
   rw[if_pos (List.mem_map_of_mem hm)]
   exact l1.2 c hm
  have sk:Sk (fun a=>if a ∈ L.map Prod.fst then H a else none) H':=fun b u e n=>by
   have e':(if b ∈ L.map Prod.fst then H b else none)=some u:=e
   split at e'
   ·rename_i hb
    obtain⟨d,hd,ed⟩:=yH.mp hb
    have hd2:=l1.2 d hd
    rw[ed,e'] at hd2
    have:d=(b,u):=Prod.ext ed (Option.some.inj hd2).symm
    subst this
    refine hc'.2 (b,u) (yJ.mpr ⟨hd,?_⟩)
    show noTbl u=true
    cases u <;> first|rfl|exact absurd rfl (n _)
   ·cases e'
  exact⟨sk _ _ w1 (fun _ z=>nomatch z),w2.sk sk,e2 H' fun c hc2=>hc'.2 c (yJ.mpr ⟨l2 c (zU _ hc2),n2 c hc2⟩)⟩
inductive spLaw (Pd:Addr) (K:PySem.W.Frag) (vs:List V) (H:Hp) (Q:VK) (x_3:XK):Prop where
 | mk (a:Addr) (ns:List Int) (h_0:vs=[.ref a]) (h_1:SqL K H a (ns.map V.int)) (h_2:ns.length≤63) (h_3:DoorT Pd H) (h_4:∀ H',Q (.bl true) H'):spLaw Pd K vs H Q x_3
end Oc
namespace Oc
open PySem L2
theorem first_ex {S:CS} (h:S.ar ≠ []):∃ a,S.first=some a:=by
 have hl:0 < S.ar.length:=List.length_pos_iff.mpr h
 have:S.at < S.ar.length:=by
  have b:=best_lt (fun i j=>kLt ((S.ar.map AR.key).getD i (0,0)) ((S.ar.map AR.key).getD j (0,0))) ((S.ar.map AR.key).length - 1)
  have e:(S.ar.map AR.key).length=S.ar.length:=zB _
  have b:S.at≤(S.ar.map AR.key).length - 1:=b
  omega
 exact⟨_,zC this⟩
theorem far_all {S:CS} {u:Int} (h:∀ a,S.first=some a→u < a.e.1):∀ b ∈ S.ar,u < b.e.1:=fun b hb=>by
 obtain⟨a,ha⟩:=first_ex (List.ne_nil_of_mem hb)
 obtain⟨pre,post,e1,_,_,e4⟩:=CS.first_cut ha
 have:=h a ha
 rw[e1] at hb
 rcases yE.mp hb with q|q
 ·have k:=e4 b (yS _ q)
  rcases k with k|⟨k,_⟩ <;> (have k:a.e.1≤b.e.1:=by first|exact qF k|exact vI k) <;> omega
 ·rcases zT.mp q with q|q
  ·rw[q]; exact this
  ·have k:=e4 b (zU _ q)
   rcases k with k|⟨k,_⟩ <;> (have k:a.e.1≤b.e.1:=by first|exact qF k|exact vI k) <;> omega
def nx1 (W:Wk) (s:Nat) (e:Tri):Option (Nat × Tri):=((W.sp s).out ((W.sp s).ws.idxOf e.2.1) e.2.2).map fun o=>(((W.be.getD o.1.toNat (0,0,0)).2.1).toNat,(e.1 + (W.be.getD o.1.toNat (0,0,0)).2.2,o.1,o.2))
def wks (W:Wk) (u:Int):Nat→Nat→Tri→List (Nat × Tri)
 | 0,_,_=>[]
 | n + 1,s,e=>if e.1≤u then (s,e)::(match nx1 W s e with
  | none=>[]
  | some (s',e')=>wks W u n s' e') else []
def wk (W:Wk) (u:Int) (s:Nat) (e:Tri):List (Nat × Tri):=wks W u (u + 1 - e.1).toNat s e
theorem nx1_later {W:Wk} (ok:W.Ok) {s s':Nat} {e e':Tri} (h:nx1 W s e=some (s',e')):e.1 + 1≤e'.1∧s' < W.st.length∧0≤e'.2.1:=by
 unfold nx1 at h
 rw[qG] at h
 obtain⟨⟨b,y⟩,ho,he⟩:=h
 have hb:b ∈ W.lv s:=SP.out_in ho
 obtain⟨q1,_,q3,q4,_,q6,_⟩:=Wk.lv_goal ok hb
 cases he
 exact⟨by show e.1 + 1≤e.1 + _; omega,by show Int.toNat _ < _; omega,q1⟩
theorem wks_eq {W:Wk} (ok:W.Ok) {u:Int}:∀(n m s:Nat) (e:Tri),(u + 1 - e.1).toNat≤n→(u + 1 - e.1).toNat≤m→wks W u n s e=wks W u m s e
 | 0,0,_,_,_,_=>rfl
 | 0,m + 1,s,e,h1,h2=>by
  show []=if e.1≤u then _ else []
  rw[if_neg (by omega)]
 | n + 1,0,s,e,h1,h2=>by
  show(if e.1≤u then _ else [])=[]
  rw[if_neg (by omega)]
 | n + 1,m + 1,s,e,h1,h2=>by
  show(if e.1≤u then _ else [])=if e.1≤u then _ else []
  by_cases q:e.1≤u
  ·rw[if_pos q,if_pos q]
   cases hn:nx1 W s e with
   | none=>rfl
   | some v =>
    obtain⟨s',e'⟩:=v
    have:=nx1_later ok hn
    dsimp only
    rw[wks_eq ok n m s' e' (by omega) (by omega)]
  ·rw[if_neg q,if_neg q]
theorem wk_step {W:Wk} (ok:W.Ok) {u:Int} {s:Nat} {e:Tri} (h:e.1≤u):wk W u s e=(s,e)::(match nx1 W s e with
  | none=>[]
  | some (s',e')=>wk W u s' e'):=by
 unfold wk
 obtain⟨n,hn⟩:∃ n,(u + 1 - e.1).toNat=n + 1:=⟨(u + 1 - e.1).toNat - 1,by omega⟩
 rw[hn]
 show(if e.1≤u then _ else [])=_
 rw[if_pos h]
 cases hx:nx1 W s e with
 | none=>rfl
 | some v =>
  obtain⟨s',e'⟩:=v
  have:=nx1_later ok hx
  dsimp only
  rw[wks_eq ok n (u + 1 - e'.1).toNat s' e' (by omega) (zG _)]
theorem wk_end {W:Wk} {u:Int} {s:Nat} {e:Tri} (h:u < e.1):wk W u s e=[]:=by
 unfold wk
 rw[show(u + 1 - e.1).toNat=0 by omega]
 rfl
def pick (s:Nat) (l:List (Nat × Tri)):List Tri:=(l.filter fun x=>x.1 == s).map (·.2)
theorem pick_app (s:Nat) (l m:List (Nat × Tri)):pick s (l++m)=pick s l++pick s m:=by
 unfold pick
 rw[List.filter_append,zS]
theorem nxt_same {p:SP} (h:(∃ n,p.k=.relay n)∨p.k=.sorter∨p.k=.sink) (j:Nat) (z:Int):p.nxt j z=p:=by
 obtain⟨k,ws,bs,seen,rows⟩:=p
 rcases h with ⟨n,h⟩|h|h <;> (cases h; rfl)
theorem kd_mem {s:Sta} (h:StaK s):(∃ n,kdOf s=.relay n)∨kdOf s=.sorter∨kdOf s=.sink:=by
 rcases h with ⟨n,rfl⟩|rfl|rfl
 ·exact .inl ⟨_,kd_relay _⟩
 ·exact .inr (.inl (kd_sorter _))
 ·exact .inr (.inr (kd_sink _))
theorem runs_walk {W:Wk} (ok:W.Ok) (sk:∀ s ∈ W.st,StaK s) {u:Int} {S R:CS} (r:Runs W u S R):CSok W S→(∀ s,s < W.st.length→S.st.getD s sp0=W.sp s)→∀ s:Nat,(R.ev.getD s []).Perm (S.ev.getD s []++pick s (S.ar.flatMap fun a=>wk W u a.s a.e)):=by
 induction r with
 | @stop S h =>
  intro co _ s
  have e:(S.ar.flatMap fun a=>wk W u a.s a.e)=[]:=kZ.mpr fun a ha=>wk_end (far_all h a ha)
  rw[e]
  exact .of_eq (yF _).symm
 | @step S R a ha hu _ ih =>
  intro co me s
  have hm:a ∈ S.ar:=zK ha
  obtain⟨al,aw⟩:=co.ar a hm
  have ms:=me a.s al
  have km:(∃ n,(W.sp a.s).k=.relay n)∨(W.sp a.s).k=.sorter∨(W.sp a.s).k=.sink:=by
   have:W.st.getD a.s ("",none) ∈ W.st:=by rw[zE,zC al]; exact kK _
   exact kd_mem (sk _ this)
  have me':∀ s,s < W.st.length→(S.step W a).st.getD s sp0=W.sp s:=fun s hs=>by
   show(S.st.set a.s ((S.st.getD a.s sp0).nxt ((S.st.getD a.s sp0).ws.idxOf a.e.2.1) a.e.2.2)).getD s sp0=_
   rw[ms,nxt_same km,zE]
   by_cases q:s=a.s
   ·subst q
    rw[y6 (by rw[co.l1]; exact al)]
    rfl
   ·rw[qD (Ne.symm q),← zE]
    exact me s hs
  have i:=ih (co.step ok ha) me' s
  obtain⟨pre,post,e1,e2,_,_⟩:=CS.first_cut ha
  have es:(S.step W a).ev.getD s []=S.ev.getD s []++pick s [(a.s,a.e)]:=by
   show(S.ev.set a.s (S.ev.getD a.s []++[a.e])).getD s []=_
   rw[zE]
   by_cases q:s=a.s
   ·subst q
    rw[y6 (by rw[co.l2]; exact al)]
    unfold pick
    rw[k4 (by show(a.s == a.s)=true; exact beq_self_eq_true _),jF]
    rfl
   ·rw[qD (Ne.symm q),← zE]
    unfold pick
    rw[k6 (by show ¬ (a.s == s)=true; exact fun z=>q (eq_of_beq z).symm),jF,jY,yF]
  have ep:((S.step W a).ar.flatMap fun a=>wk W u a.s a.e)=((pre++post).flatMap fun a=>wk W u a.s a.e)++(match nx1 W a.s a.e with
    | none=>[]
    | some (s',e')=>wk W u s' e'):=by
   show((S.ar.eraseIdx S.at++putA W ((S.st.getD a.s sp0).out ((S.st.getD a.s sp0).ws.idxOf a.e.2.1) a.e.2.2) a.e.1 ((a.s:Int),((S.ev.getD a.s []).length:Int))).flatMap fun a=>wk W u a.s a.e)=_
   rw[e2,yN,ms]
   congr 1
   unfold nx1
   cases ho:(W.sp a.s).out ((W.sp a.s).ws.idxOf a.e.2.1) a.e.2.2 with
   | none=>rfl
   | some v =>
    obtain⟨b,y⟩:=v
    show List.flatMap _ [arrOf W b y a.e.1 _]=wk W u _ _
    rw[jA]
    rfl
  rw[es,ep] at i
  refine i.trans ?_
  rw[e1,show((pre++a::post).flatMap fun a=>wk W u a.s a.e)=(pre.flatMap fun a=>wk W u a.s a.e)++(wk W u a.s a.e++post.flatMap fun a=>wk W u a.s a.e) from by rw[yN,jP],wk_step ok hu,yN]
  rw[pick_app,pick_app,pick_app,pick_app,zQ]
  refine List.Perm.append_left _ ?_
  rw[show((a.s,a.e)::(match nx1 W a.s a.e with
    | none=>[]
    | some (s',e')=>wk W u s' e'))=[(a.s,a.e)]++(match nx1 W a.s a.e with
    | none=>[]
    | some (s',e')=>wk W u s' e') from rfl,pick_app]
  generalize pick s [(a.s,a.e)]=A1
  generalize pick s (pre.flatMap fun a=>wk W u a.s a.e)=A2
  generalize pick s (post.flatMap fun a=>wk W u a.s a.e)=A3
  generalize pick s (match nx1 W a.s a.e with
    | none=>[]
    | some (s',e')=>wk W u s' e')=A4
  rw[List.perm_iff_count]
  intro x
  simp only [List.count_append]
  omega
theorem bkt_one {α:Type} {F:Nat→List α} {x:α} {k:Nat}:∀ n,((List.range n).flatMap fun i=>if k=i then x::F i else F i).Perm ((if k < n then [x] else [])++(List.range n).flatMap F)
 | 0=>.refl _
 | n + 1=>by
  rw[List.range_succ,yN,yN,jA,jA]
  have ih:=bkt_one (F:=F) (x:=x) (k:=k) n
  by_cases q:k < n
  ·rw[if_pos q] at ih
   rw[if_neg (by omega),if_pos (by omega),← zQ]
   exact List.Perm.append_right _ ih
  ·rw[if_neg q,jZ] at ih
   by_cases z:k=n
   ·subst z
    rw[if_pos rfl,if_pos (by omega)]
    refine(List.Perm.append_right _ ih).trans ?_
    exact List.perm_middle
   ·rw[if_neg z,if_neg (by omega),jZ]
    exact List.Perm.append_right _ ih
theorem bkt {α:Type} (g:α→Int) (n:Nat):∀ l:List α,(∀ x ∈ l,0≤g x∧g x < n)→((List.range n).flatMap fun(i:Nat)=>l.filter fun x=>g x == (i:Int)).Perm l
 | [],_=>by
  have e:((List.range n).flatMap fun(i:Nat)=>([]:List α).filter fun x=>g x == (i:Int))=[]:=kZ.mpr fun _ _=>rfl
  rw[e]
 | x::l,h=>by
  obtain⟨h1,h2⟩:=h x zN
  have e:(fun(i:Nat)=>(x::l).filter fun x=>g x == (i:Int))=fun(i:Nat)=>if (g x).toNat=i then x::(l.filter fun x=>g x == (i:Int)) else l.filter fun x=>g x == (i:Int):=by
   funext i
   rw[List.filter_cons]
   by_cases q:g x=(i:Int)
   ·rw[if_pos (beq_iff_eq.mpr q),if_pos (by omega)]
   ·rw[if_neg (fun z=>q (beq_iff_eq.mp z)),if_neg (by omega)]
  rw[e]
  refine(bkt_one n).trans ?_
  rw[if_pos (by omega)]
  exact List.Perm.cons x (bkt g n l fun y hy=>h y (zI _ hy))
def fA (f:Tri):AR:=⟨f.1.toNat,(f.2.1,-1,f.2.2),none⟩
theorem ars_perm {W:Wk} (ok:W.Ok):(W.ars W.st.length).Perm (W.fe.map fA):=by
 have e:∀ s:Nat,((W.de (s:Int)).map fun e=>(⟨s,e,none⟩:AR)).Perm ((W.fe.filter fun f=>f.1 == (s:Int)).map fA):=fun s=>by
  have e1:((W.de (s:Int)).map fun e=>(⟨s,e,none⟩:AR))=((List.range 51).flatMap fun(t:Nat)=>(W.fe.filter fun f=>f.1 == (s:Int)).filter fun f=>f.2.1 == (t:Int)).map fA:=by
   unfold Wk.de Wk.dr Wk.drs
   rw[vE,vE,jW,jW]
   congr 1
   funext t
   rw[List.filter_filter]
   have:(W.fe.filter fun f=>f.1 == (s:Int) && f.2.1 == (t:Int))=W.fe.filter fun f=>f.2.1 == (t:Int) && f.1 == (s:Int):=kE fun f _=>Bool.and_comm _ _
   rw[this]
   refine List.map_congr_left fun f hf=>?_
   have h:=(yJ.mp hf).2
   rw[kM] at h
   have h1:=eq_of_beq h.2
   show(⟨s,(f.2.1,-1,f.2.2),none⟩:AR)=⟨f.1.toNat,(f.2.1,-1,f.2.2),none⟩
   rw[h1,qE]
  rw[e1]
  refine(bkt (fun f:Tri=>f.2.1) 51 _ fun f hf=>?_).map fA
  obtain⟨_,_,q3,q4,_⟩:=ok.fee f (yJ.mp hf).1
  exact⟨q3,by omega⟩
 unfold Wk.ars
 have e2:((List.range W.st.length).flatMap fun(s:Nat)=>(W.de (s:Int)).map fun e=>(⟨s,e,none⟩:AR)).Perm ((List.range W.st.length).flatMap fun(s:Nat)=>(W.fe.filter fun f=>f.1 == (s:Int)).map fA):=by
  generalize List.range W.st.length=l
  induction l with
  | nil=>exact .refl _
  | cons s l ih =>
   rw[jP,jP]
   exact(e s).append ih
 refine e2.trans ?_
 rw[← jW]
 refine(bkt (fun f:Tri=>f.1) W.st.length W.fe fun f hf=>?_).map fA
 obtain⟨q1,q2,_⟩:=ok.fee f hf
 exact⟨q1,by exact_mod_cast q2⟩
def wkF (W:Wk) (u:Int) (f:Tri):List (Nat × Tri):=wk W u f.1.toNat (f.2.1,-1,f.2.2)
theorem run_walk {W:Wk} (ok:W.Ok) (sk:∀ s ∈ W.st,StaK s) {u:Int} {R:CS} (r:Runs W u W.cs R) (co:CSok W W.cs) (s:Nat):(R.ev.getD s []).Perm (pick s (W.fe.flatMap (wkF W u))):=by
 have:=runs_walk ok sk r co (fun s hs=>by
  show((List.range W.st.length).map W.sp).getD s sp0=_
  rw[zE,zJ,jH hs]
  rfl) s
 have e0:W.cs.ev.getD s []=[]:=by
  show(W.st.map fun _=>([]:List Tri)).getD s []=[]
  rw[zE,zJ]
  cases W.st[s]? <;> rfl
 rw[e0,jZ] at this
 refine this.trans ?_
 unfold pick
 refine List.Perm.map _ (List.Perm.filter _ ?_)
 refine((ars_perm ok).flatMap_right _).trans (.of_eq ?_)
 rw[List.flatMap_map]
 rfl
end Oc
namespace Oc
open PySem L2
inductive IsSE (H:Hp) (x:V) (z:Nat × Tri):Prop where
 | mk (p q:_) (h_0:x=.ref p) (h_1:H p=some (.tup [.int (z.1:Int),.ref q])) (h_2:H q=some (.tup (triV z.2))):IsSE H x z
theorem IsSE.same {H H':Hp} (s:Same H H') {x:V} {z:Nat × Tri} (h:IsSE H x z):IsSE H' x z:=let ⟨p,q,e,h1,h2⟩:=h; ⟨p,q,e,s _ _ h1,s _ _ h2⟩
theorem IsSE.keep {H:Hp} {a:Addr} {xs:List V} {o:HO} (e:H a=some (.lst xs)) {x:V} {z:Nat × Tri} (h:IsSE H x z):IsSE (upd H a o) x z:=by
 obtain⟨p,q,ex,h1,h2⟩:=h
 exact⟨p,q,ex,by rw[upd_ne (ne_of h1 e fun z=>nomatch z)]; exact h1,by rw[upd_ne (ne_of h2 e fun z=>nomatch z)]; exact h2⟩
inductive spWlk (vs:List V) (H:Hp) (Q:VK) (x_3:XK):Prop where
 | mk (w p:Addr) (W:Wk) (f:Tri) (u:Int) (h_0:vs=[.ref w,.ref p,.int u]) (h_1:WkAt H w W) (h_2:W.Ok) (h_3:(∀ s ∈ W.st,StaK s)) (h_4:f ∈ W.fe) (h_5:H p=some (.tup (triV f))) (h_6:u≤60) (h_7:∀(r:Addr) (ws:List V) (H':Hp),H r=none→H' r=some (.lst ws)→Paired (IsSE H') ws (wkF W u f)→(wkF W u f).length≤61→Same H H'→Q (.ref r) H'):spWlk vs H Q x_3
theorem nx_sink {W:Wk} {s:Nat} {e:Tri} (h:kdOf (W.st.getD s ("",none))=.sink):nx1 W s e=none:=by
 unfold nx1
 have:(W.sp s).out ((W.sp s).ws.idxOf e.2.1) e.2.2=none:=by
  unfold SP.out SR.out
  rw[show(W.sp s).sr.k=kdOf (W.st.getD s ("",none)) from rfl,h]
 rw[this]
 rfl
theorem nx_none {W:Wk} {s:Nat} {e:Tri} (h:W.lv s=[]) (km:(∃ n,kdOf (W.st.getD s ("",none))=.relay n)∨kdOf (W.st.getD s ("",none))=.sorter∨kdOf (W.st.getD s ("",none))=.sink):nx1 W s e=none:=by
 unfold nx1
 have:(W.sp s).out ((W.sp s).ws.idxOf e.2.1) e.2.2=none:=by
  unfold SP.out SR.out
  rcases km with ⟨n,k⟩|k|k
  ·rw[show(W.sp s).sr.k=kdOf (W.st.getD s ("",none)) from rfl,k]
   show(W.lv s).head?.map _=none
   rw[h]
   rfl
  ·rw[show(W.sp s).sr.k=kdOf (W.st.getD s ("",none)) from rfl,k]
   show(if W.lv s=[] then none else _)=none
   rw[if_pos h]
  ·rw[show(W.sp s).sr.k=kdOf (W.st.getD s ("",none)) from rfl,k]
 rw[this]
 rfl
theorem nx_relay {W:Wk} {s:Nat} {e:Tri} {n b:Int} {bs:List Int} (h:kdOf (W.st.getD s ("",none))=.relay n) (hl:W.lv s=b::bs):nx1 W s e=some (((W.be.getD b.toNat (0,0,0)).2.1).toNat,(e.1 + (W.be.getD b.toNat (0,0,0)).2.2,b,e.2.2 + n)):=by
 unfold nx1
 have:(W.sp s).out ((W.sp s).ws.idxOf e.2.1) e.2.2=some (b,e.2.2 + n):=by
  unfold SP.out SR.out
  rw[show(W.sp s).sr.k=kdOf (W.st.getD s ("",none)) from rfl,h]
  show(W.lv s).head?.map _=_
  rw[hl]
  rfl
 rw[this]
 rfl
theorem nx_sorter {W:Wk} {s:Nat} {e:Tri} {b:Int} (h:kdOf (W.st.getD s ("",none))=.sorter) (hl:W.lv s ≠ []) (hb:(W.lv s)[(e.2.2 % ((W.lv s).length:Int)).toNat]?=some b):nx1 W s e=some (((W.be.getD b.toNat (0,0,0)).2.1).toNat,(e.1 + (W.be.getD b.toNat (0,0,0)).2.2,b,e.2.2)):=by
 unfold nx1
 have:(W.sp s).out ((W.sp s).ws.idxOf e.2.1) e.2.2=some (b,e.2.2):=by
  unfold SP.out SR.out
  rw[show(W.sp s).sr.k=kdOf (W.st.getD s ("",none)) from rfl,h]
  show(if W.lv s=[] then none else ((W.lv s)[(e.2.2 % ((W.lv s).length:Int)).toNat]?).map _)=_
  rw[if_neg hl,hb]
  rfl
 rw[this]
 rfl
theorem eqv_ints (ns:List Int):PyData.eqv (.list (ns.map PyData.int)) (.list [])=ns.isEmpty:=by cases ns <;> simp [PyData.eqv,PyData.eqvAll]
theorem dt_intsL {K:PySem.W.Frag} {H:Hp} {p:Addr} {ns:List Int} (e:H p=some (.lst (ns.map V.int))):Dt K H 1 (.ref p) (.list (ns.map PyData.int)):=.lst (SqL.of e) (by
 induction ns with
 | nil=>exact .nil _
 | cons n ns ih=>exact .cons (.int _ _) (by
   clear ih e
   induction ns with
   | nil=>exact .nil _
   | cons m ms ih=>exact .cons (.int _ _) ih))
section
variable {P:Program} {w:World} {K:PySem.W.Frag} {mg:Str→Option Value} {base:Heap}
theorem sc_wlk:FnScope ["works","feed","until","station","time","piece","place","found","leave","start","delay"] ["works","feed","until"] (defScope (top 30)):=⟨rfl,rfl,rfl,by decide +kernel,rfl,by decide +kernel,by decide +kernel⟩
theorem ok_wlk {f:Addr} {fd:FuncData} (F:Fun K "_law_walked" "_law_walked" (top 30) f fd) (T:Txt K mg):FnOk P w K mg base CX0 1 f fd ["works","feed","until"] spWlk:=by
 have nd:=sc_wlk.nd
 refine F.ok sc_wlk (fun vs H Q E h=>?_) (fun cdv A outer s H vs Q E hr h=>?_)
 ·obtain⟨w,p,W,f,u,rfl,_⟩:=h
  rfl
 ·refine abb fun Gz hGz=>?_
  obtain⟨w,p,W,fe,u,rfl,hw,ok,sk,hf,hp,hu,q⟩:=h
  obtain⟨sa,ba,fa,xs,ys,zs,h1,h2⟩:=hw.ex
  obtain⟨fo1,fo2,fo3,fo4,fo5,fo6⟩:=ok.fee fe hf
  refine hGz ?_
  refine⟨_,(@pss_cons _ _ _ _ _ (ps_asg (pv 1) (pg_tup rfl (pgs_cons (pg_name (i:=3) nd rfl (by first|exact Or.inl rfl|exact Or.inr rfl)) (pgs_cons (pg_name (i:=4) nd rfl (by first|exact Or.inl rfl|exact Or.inr rfl)) (pgs_cons (pg_name (i:=5) nd rfl (by first|exact Or.inl rfl|exact Or.inr rfl)) pgs_nil)))))
   (@pss_cons _ _ _ _ _ (ps_set (i:=6) nd rfl (by first|exact Or.inl rfl|exact Or.inr rfl) (pe_un un_neg pe_int))
   (@pss_cons _ _ _ _ _ (ps_set (i:=7) nd rfl (by first|exact Or.inl rfl|exact Or.inr rfl) (@pe_lst _ _ _ _ pa_nil))
   (@pss_cons _ _ _ _ _ (ps_while PassesOwn.never (pt_cmpR op_le (pv 4) (pv 2) (nomark _)) (@pss_cons _ _ _ _ _ (ps_expr (pe_bm PySem.F.plainAttrs_list PySem.F.slot_list_append PySem.F.type_list_append mt_append (pv 7) (@pa_cons _ _ _ _ _ (@pe_tup _ _ _ _ _ (@pa_cons _ _ _ _ _ (pv 3) (@pa_cons _ _ _ _ _ (@pe_tup _ _ _ _ _ (@pa_cons _ _ _ _ _ (pv 4) (@pa_cons _ _ _ _ _ (pv 6) (@pa_cons _ _ _ _ _ (pv 5) pa_nil (by rfl)) (by rfl)) (by rfl))) pa_nil (by rfl)) (by rfl))) pa_nil (by rfl))))
   (@pss_cons _ _ _ _ _ (ps_setC (i:=8) nd rfl (Or.inl rfl) rfl (own:=["k"]) (fr:=["works","station"]) (js:=[0,3]) ⟨rfl,rfl,by decide +kernel,by decide +kernel,by repeat (first|exact Each.nil|refine Each.cons rfl ?_),by repeat (first|exact Each.nil|refine Each.cons rfl ?_),by repeat (first|exact Paired.nil|refine Paired.cons ⟨rfl,by first|exact Or.inl rfl|exact Or.inr rfl,by first|exact Or.inl rfl|exact Or.inr rfl⟩ ?_),rfl⟩ (pi_range1 rfl T.n_range (@pa_cons _ _ _ _ _ (pe_callB (call_len_seqK (K:=K) rfl) (by rfl) T.n_len bt_len (@pa_cons _ _ _ _ _ (@pe_ix _ _ _ _ _ _ _ (ix_tupK (K:=K) rfl) (pv 0) pe_int (fun _ _=>rfl)) pa_nil (by rfl))) pa_nil (by rfl))) (fun _ _ _ _=>(pg_name (i:=0) (show List.Nodup (["k","works","station"]:List Str) from by decide +kernel) rfl (by first|exact Or.inl rfl|exact Or.inr rfl))) (fun _ _ _ _=>(pts_one (pt_cmpR op_eq (@pe_ix _ _ _ _ _ _ _ (ix_tupK (K:=K) rfl) (@pe_ix _ _ _ _ _ _ _ (ix_listK (K:=K) rfl) (@pe_ix _ _ _ _ _ _ _ (ix_tupK (K:=K) rfl) (pv 1) pe_int (fun _ _=>rfl)) (pv 0) (fun _ _=>rfl)) pe_int (fun _ _=>rfl)) (pv 2) (nomark _)))) (fun _ _ _ _=>(pv 0)))
   (@pss_cons _ _ _ _ _ (ps_if ((pw_or (pt_cmpR op_eq (@pe_ix _ _ _ _ _ _ _ (ix_tupK (K:=K) rfl) (@pe_ix _ _ _ _ _ _ _ (ix_listK (K:=K) rfl) (@pe_ix _ _ _ _ _ _ _ (ix_tupK (K:=K) rfl) (pv 0) pe_int (fun _ _=>rfl)) (pv 3) (fun _ _=>rfl)) pe_int (fun _ _=>rfl)) pe_str (nomark _)) (pw_or1 (pt_cmpR (op_eqDK (K:=K) rfl hr.units) (pv 8) (@pe_lst _ _ _ _ pa_nil) (nomark _))))).pt (@pss_one _ _ _ (@ps_ret _ _ _ _ (pv 7))) pss_nil)
   (@pss_cons _ _ _ _ _ (ps_if (pt_cmpR op_eq (@pe_ix _ _ _ _ _ _ _ (ix_tupK (K:=K) rfl) (@pe_ix _ _ _ _ _ _ _ (ix_listK (K:=K) rfl) (@pe_ix _ _ _ _ _ _ _ (ix_tupK (K:=K) rfl) (pv 0) pe_int (fun _ _=>rfl)) (pv 3) (fun _ _=>rfl)) pe_int (fun _ _=>rfl)) pe_str (nomark _)) (@pss_cons _ _ _ _ _ (ps_set (i:=5) nd rfl (by first|exact Or.inl rfl|exact Or.inr rfl) (pe_op op_add (pv 5) (@pe_ix _ _ _ _ _ _ _ (ix_tupK (K:=K) rfl) (@pe_ix _ _ _ _ _ _ _ (ix_listK (K:=K) rfl) (@pe_ix _ _ _ _ _ _ _ (ix_tupK (K:=K) rfl) (pv 0) pe_int (fun _ _=>rfl)) (pv 3) (fun _ _=>rfl)) pe_int (fun _ _=>rfl))))
   (@pss_one _ _ _ (ps_set (i:=6) nd rfl (by first|exact Or.inl rfl|exact Or.inr rfl) (@pe_ix _ _ _ _ _ _ _ (ix_listK (K:=K) rfl) (pv 8) pe_int (fun _ _=>rfl))))) (@pss_one _ _ _ (ps_set (i:=6) nd rfl (by first|exact Or.inl rfl|exact Or.inr rfl) (@pe_ix _ _ _ _ _ _ _ (ix_listK (K:=K) rfl) (pv 8) (pe_op op_mod (pv 5) (pe_callB (call_len_seqK (K:=K) rfl) (by rfl) T.n_len bt_len (@pa_cons _ _ _ _ _ (pv 8) pa_nil (by rfl)))) (fun _ _=>rfl)))))
   (@pss_cons _ _ _ _ _ (ps_asg (@pe_ix _ _ _ _ _ _ _ (ix_listK (K:=K) rfl) (@pe_ix _ _ _ _ _ _ _ (ix_tupK (K:=K) rfl) (pv 0) pe_int (fun _ _=>rfl)) (pv 6) (fun _ _=>rfl)) (pg_tup rfl (pgs_cons (pg_name (i:=9) nd rfl (by first|exact Or.inl rfl|exact Or.inr rfl)) (pgs_cons (pg_name (i:=3) nd rfl (by first|exact Or.inl rfl|exact Or.inr rfl)) (pgs_cons (pg_name (i:=10) nd rfl (by first|exact Or.inl rfl|exact Or.inr rfl)) pgs_nil)))))
   (@pss_one _ _ _ (ps_set (i:=4) nd rfl (by first|exact Or.inl rfl|exact Or.inr rfl) (pe_op op_add (pv 4) (pv 10))))))))))
   (@pss_one _ _ _ (@ps_ret _ _ _ _ (pv 7))))))),?_⟩
  first|(ac_rfl; refine⟨p,_,rfl,SqT.of hp,rfl,⟨_,_,rfl,⟨_,_,rfl,⟨_,_,rfl,rfl,?_⟩⟩⟩⟩)|(refine⟨_,rfl,⟨p,_,rfl,SqT.of hp,rfl,⟨_,_,rfl,⟨_,_,rfl,⟨_,_,rfl,rfl,?_⟩⟩⟩⟩⟩)
  first|(refine tvC rfl ?_)|(refine tvO rfl ?_)|(refine tvK rfl ?_)|(refine tv rfl ?_)|(refine⟨_,rfl,?_⟩)
  refine⟨(by show 0≤sizeLine; omega),fun r nr=>?_⟩
  have s0:Same H (upd H r (.lst [])):=Same.new nr
  refine⟨fun m σ H5=>∃(sn:Nat) (e:Tri) (ws:List V) (L:List (Nat × Tri)) (v8 v9 v10:Option V),m=(u + 1 - e.1).toNat∧σ=[some (.ref w),some (.ref p),some (.int u),some (.int (sn:Int)),some (.int e.1),some (.int e.2.2),some (.int e.2.1),some (.ref r),v8,v9,v10]∧sn < W.st.length∧0≤e.1∧(L.length:Int)≤e.1∧L.length≤61∧wkF W u fe=L++wk W u sn e∧Same H H5∧H5 r=some (.lst ws)∧Paired (IsSE H5) ws L,⟨_,fe.1.toNat,(fe.2.1,-1,fe.2.2),[],[],none,none,none,rfl,?_,by omega,fo3,fo3,zZ _,rfl,s0,upd_same,.nil⟩,?_⟩
  ·show _=[_,_,_,some (V.int ((fe.1.toNat:Nat):Int)),_,_,_,_,_,_,_]
   rw[jI fo1]
   rfl
  rintro m σ H5 hz0
  refine abb fun Gz hGz=>?_
  obtain⟨sn,e,ws,L,v8,v9,v10,rfl,rfl,hsn,e0,eL,eL2,ew,s5,h5,p5⟩:=hz0
  refine hGz ?_
  first|(refine tvC rfl ?_)|(refine tvO rfl ?_)|(refine tvK rfl ?_)|(refine tv rfl ?_)|(refine⟨_,rfl,?_⟩)
  first|(ac_rfl; refine⟨_,_,rfl,rfl,_,rfl,?_⟩)|(refine⟨_,rfl,⟨_,_,rfl,rfl,_,rfl,?_⟩⟩)
  by_cases tu:e.1≤u
  rotate_left
  ·rw[decide_eq_false tu,if_neg zV]
   rw[wk_end (by omega),yF] at ew
   first|(ac_rfl; refine q r ws H5 nr h5 (by rw[ew]; exact p5) (by rw[ew]; exact eL2) s5)|(refine⟨_,rfl,q r ws H5 nr h5 (by rw[ew]; exact p5) (by rw[ew]; exact eL2) s5⟩)
  rw[decide_eq_true tu,if_pos rfl]
  have l5:=p5.length
  refine⟨fun σ' H'=>∃(sn':Nat) (e':Tri) (ws':List V) (L':List (Nat × Tri)) (v8 v9 v10:Option V),e.1 + 1≤e'.1∧σ'=[some (.ref w),some (.ref p),some (.int u),some (.int (sn':Int)),some (.int e'.1),some (.int e'.2.2),some (.int e'.2.1),some (.ref r),v8,v9,v10]∧sn' < W.st.length∧(L'.length:Int)≤e'.1∧L'.length≤61∧wkF W u fe=L'++wk W u sn' e'∧Same H H'∧H' r=some (.lst ws')∧Paired (IsSE H') ws' L',fun σ' H' ⟨sn',e',ws',L',w8,w9,w10,z1,z2,z3,z4,z5,z6,z7,z8,z9⟩=>⟨_,by omega,sn',e',ws',L',w8,w9,w10,rfl,z2,z3,by omega,z4,z5,z6,z7,z8,z9⟩,?_⟩
  first|(ac_rfl; refine⟨tyL h5,_,rfl,_,rfl,_,rfl,_,rfl,(by show 3≤sizeLine; rw[sizeLine_eq]; omega),fun p1 np1=>?_⟩)|(refine⟨_,rfl,tyL h5,_,rfl,_,rfl,_,rfl,_,rfl,(by show 3≤sizeLine; rw[sizeLine_eq]; omega),fun p1 np1=>?_⟩)
  have s6:Same H5 (upd H5 p1 (.tup [.int e.1,.int e.2.1,.int e.2.2])):=Same.new np1
  have g6:(upd H5 p1 (.tup [.int e.1,.int e.2.1,.int e.2.2])) p1=some (.tup (triV e)):=upd_same
  generalize upd H5 p1 (.tup [.int e.1,.int e.2.1,.int e.2.2])=H6 at s6 g6 ⊢
  refine⟨(by show 2≤sizeLine; rw[sizeLine_eq]; omega),fun p2 np2=>?_⟩
  have s7:Same H6 (upd H6 p2 (.tup [.int (sn:Int),.ref p1])):=Same.new np2
  have g7:(upd H6 p2 (.tup [.int (sn:Int),.ref p1])) p2=some (.tup [.int (sn:Int),.ref p1]):=upd_same
  generalize upd H6 p2 (.tup [.int (sn:Int),.ref p1])=H7 at s7 g7 ⊢
  have h7:=s7 _ _ (s6 _ _ h5)
  have it:IsSE H7 (.ref p2) (sn,e):=⟨p2,p1,rfl,g7,s7 _ _ g6⟩
  have p7:Paired (IsSE H7) ws L:=pairedMono (fun _ _=>IsSE.same (s6.trans s7)) p5
  refine⟨r,ws,_,rfl,rfl,h7,small1000 (by omega),?_⟩
  have s8:Same H (upd H7 r (.lst (ws++[.ref p2]))):=(s5.trans (s6.trans s7)).upd nr
  have g8:(upd H7 r (.lst (ws++[.ref p2]))) r=some (.lst (ws++[.ref p2])):=upd_same
  have p8:Paired (IsSE (upd H7 r (.lst (ws++[.ref p2])))) (ws++[.ref p2]) (L++[(sn,e)]):=paired_app (pairedMono (fun _ _ h=>h.keep h7) p7) (.cons (it.keep h7) .nil)
  generalize upd H7 r (.lst (ws++[.ref p2]))=H8 at s8 g8 p8 ⊢
  clear s6 g6 s7 g7 h7 it p7 np1 np2 h5 p5 s5
  have h18:=s8 _ _ h1
  have h28:=h2.same s8
  have lb:=h2.pb.length
  have b12:=ok.b12
  have lst:=h2.ps.length
  first|(ac_rfl; refine(jxTc (j:=1) h18 rfl ⟨ba,ys,rfl,.inl (SqL.of h28.hb),_,rfl,by rw[p62]; omega,by rw[p62]; omega,fun D nD=>?_⟩))|(refine⟨_,rfl,(jxTc (j:=1) h18 rfl ⟨ba,ys,rfl,.inl (SqL.of h28.hb),_,rfl,by rw[p62]; omega,by rw[p62]; omega,fun D nD=>?_⟩)⟩)
  refine comp_range (lo:=0) (n:=(ys.length:Int).toNat) (fun i H4=>Same H8 H4∧H4 D=some (.lst ((idx (fun(t:Tri)=>t.1 == (sn:Int)) 0 (W.be.take i)).map V.int))) ⟨Same.new nD,upd_same⟩ ?_ ?_
  ·rintro i H4 m Wf hi hz1 nx
   refine abb fun Gz hGz=>?_
   obtain⟨s4,h4⟩:=hz1
   refine hGz ?_
   rw[qE] at hi
   refine abb fun Gz hGz=>?_
   obtain⟨x,hx⟩:∃ x,ys[i]?=some x:=⟨_,zC hi⟩
   obtain⟨t,ht,a0,rfl,ha⟩:=h28.pb.gt hx
   refine hGz ?_
   rw[kF]
   first|(ac_rfl; refine(jxTc (j:=1) (s4 _ _ h18) rfl ⟨_,rfl,(jxL (s4 _ _ h28.hb) hx (jxTc (j:=0) (s4 _ _ ha) rfl ⟨_,rfl,rfl,_,rfl,?_⟩))⟩))|(refine⟨_,rfl,(jxTc (j:=1) (s4 _ _ h18) rfl ⟨_,rfl,(jxL (s4 _ _ h28.hb) hx (jxTc (j:=0) (s4 _ _ ha) rfl ⟨_,rfl,rfl,_,rfl,?_⟩))⟩)⟩)
   have et:decide (V.int t.1=V.int (sn:Int))=(t.1 == (sn:Int)):=dec_int
   have eid:=idx_take (fun(t:Tri)=>t.1 == (sn:Int)) ht
   have li:((idx (fun(t:Tri)=>t.1 == (sn:Int)) 0 (W.be.take i)).map V.int).length≤12:=by
    rw[zB]
    have:=idx_len (fun(t:Tri)=>t.1 == (sn:Int)) (W.be.take i) 0
    rw[zX] at this
    omega
   refine iteB (fun hb=>?_) (fun hb=>?_)
   ·rw[et] at hb
    first|(ac_rfl; refine⟨_,h4,small1000 (by omega),nx _ ⟨s4.upd nD,?_⟩⟩)|(refine⟨_,rfl,_,h4,small1000 (by omega),nx _ ⟨s4.upd nD,?_⟩⟩)
    rw[eid,hb,if_pos rfl,zS]
    exact upd_same
   ·rw[et] at hb
    refine nx _ ⟨s4,?_⟩
    rw[eid,hb,if_neg zV,yF]
    exact h4
  rintro H9 hz2
  refine abb fun Gz hGz=>?_
  obtain⟨s9,h9⟩:=hz2
  refine hGz ?_
  rw[qE,lb,yM] at h9
  replace h9:H9 D=some (.lst ((W.lv (sn:Int)).map V.int)):=h9
  have s89:=s8.trans s9
  have h19:=s89 _ _ h1
  have h29:=h2.same s89
  have g9:=s9 _ _ g8
  have p9:Paired (IsSE H9) (ws++[.ref p2]) (L++[(sn,e)]):=pairedMono (fun _ _=>IsSE.same s9) p8
  clear p8 g8 s9 h18 h28 s8
  refine abb fun Gz hGz=>?_
  obtain⟨sx,hsx⟩:∃ x,xs[sn]?=some x:=⟨_,zC (by omega)⟩
  obtain⟨st,hst,as,rfl,has⟩:=h29.ps.gt hsx
  have stm:st ∈ W.st:=zK hst
  have gst:W.st.getD sn ("",none)=st:=by rw[zE,hst]; rfl
  have km:=kd_mem (sk st stm)
  have stop:∀(H':Hp) (v:V),nx1 W sn e=none→Same H9 H'→v=.ref r→Q v H':=fun H' v hn s' ev=>by
   rw[ev]
   rw[wk_step ok tu,hn] at ew
   refine q r _ H' nr (s' _ _ g9) ?_ (by rw[ew,zM]; show L.length + 1≤61; omega) (s89.trans s')
   rw[ew]
   exact pairedMono (fun _ _=>IsSE.same s') p9
  have kind:∃ k,(staV st)[0]?=some (.str k)∧k=st.1:=by
   rcases st with ⟨k,_|n⟩
   ·exact⟨k,rfl,rfl⟩
   ·exact⟨k,rfl,rfl⟩
  obtain⟨k,ek,rfl⟩:=kind
  refine hGz ?_
  first|(ac_rfl; refine(jxTc (j:=0) h19 rfl ⟨_,rfl,(jxL h29.hs hsx (jxTc (j:=0) has ek ⟨rfl,_,rfl,?_⟩))⟩))|(refine⟨_,rfl,(jxTc (j:=0) h19 rfl ⟨_,rfl,(jxL h29.hs hsx (jxTc (j:=0) has ek ⟨rfl,_,rfl,?_⟩))⟩)⟩)
  by_cases ks:st=(("sink":Str),none)
  ·subst ks
   rw[show decide (V.str ("sink":Str)=V.str (Str.ofString "sink"))=true from by decide +kernel]
   refine iteT (iteT ?_)
   first|(ac_rfl; exact stop H9 _ (nx_sink (by rw[gst]; exact kd_sink _)) (Same.refl _) rfl)|(exact⟨_,rfl,stop H9 _ (nx_sink (by rw[gst]; exact kd_sink _)) (Same.refl _) rfl⟩)
  have ns:decide (V.str st.1=V.str (Str.ofString "sink"))=false:=by
   rcases sk st stm with ⟨n,rfl⟩|rfl|rfl
   ·exact(by decide +kernel:decide (V.str ("relay":Str)=V.str (Str.ofString "sink"))=false)
   ·exact(by decide +kernel:decide (V.str ("sorter":Str)=V.str (Str.ofString "sink"))=false)
   ·exact absurd rfl ks
  rw[ns]
  refine iteF ?_
  first|(ac_rfl; refine⟨(by show 0≤sizeLine; omega),fun e0' ne0=>?_⟩)|(refine⟨_,rfl,(by show 0≤sizeLine; omega),fun e0' ne0=>?_⟩)
  have s10:Same H9 (upd H9 e0' (.lst [])):=Same.new ne0
  refine⟨_,_,1,dt_intsL (s10 _ _ h9),(.lst (SqL.of upd_same) (.nil _)),by decide,_,rfl,?_⟩
  rw[eqv_ints]
  generalize upd H9 e0' (.lst [])=H10 at s10 ⊢
  cases hlv:W.lv (sn:Int) with
  | nil =>
   refine iteT ?_
   first|(ac_rfl; exact stop H10 _ (nx_none hlv (by rw[gst]; exact km)) s10 rfl)|(exact⟨_,rfl,stop H10 _ (nx_none hlv (by rw[gst]; exact km)) s10 rfl⟩)
  | cons b0 bs0 =>
  refine iteF ?_
  have h1A:=s10 _ _ h19
  have h2A:=h29.same s10
  have h9A:=s10 _ _ h9
  have hasA:=s10 _ _ has
  have gA:=s10 _ _ g9
  have pA:Paired (IsSE H10) (ws++[.ref p2]) (L++[(sn,e)]):=pairedMono (fun _ _=>IsSE.same s10) p9
  have sA:=s89.trans s10
  have l12:=Wk.lv_len ok (sn:Int)
  clear stop p9 g9 h9 h19 h29 has s10 s89 ne0
  first|(ac_rfl; refine(jxTc (j:=0) h1A rfl ⟨_,rfl,(jxL h2A.hs hsx (jxTc (j:=0) hasA ek ⟨rfl,_,rfl,?_⟩))⟩))|(refine⟨_,rfl,(jxTc (j:=0) h1A rfl ⟨_,rfl,(jxL h2A.hs hsx (jxTc (j:=0) hasA ek ⟨rfl,_,rfl,?_⟩))⟩)⟩)
  have h9A':H10 D=some (.lst (V.int b0::bs0.map V.int)):=by rw[h9A,hlv]; rfl
  rcases sk st stm with ⟨n,rfl⟩|rfl|rfl
  rotate_right
  ·exact absurd rfl ks
  focus
   rw[show decide (V.str ("relay":Str)=V.str (Str.ofString "relay"))=true from by decide +kernel]
   refine iteT ?_
   first|(refine tvC rfl ?_)|(refine tvO rfl ?_)|(refine tvK rfl ?_)|(refine tv rfl ?_)|(refine⟨_,rfl,?_⟩)
   first|(ac_rfl; refine(jxTc (j:=0) h1A rfl ⟨_,rfl,(jxL h2A.hs hsx (jxTc (j:=1) hasA rfl ⟨_,_,rfl,rfl,?_⟩))⟩))|(refine⟨_,rfl,(jxTc (j:=0) h1A rfl ⟨_,rfl,(jxL h2A.hs hsx (jxTc (j:=1) hasA rfl ⟨_,_,rfl,rfl,?_⟩))⟩)⟩)
   first|(ac_rfl; refine(jxLc (j:=0) h9A' rfl ?_))|(refine⟨_,rfl,(jxLc (j:=0) h9A' rfl ?_)⟩)
   have hn:=nx_relay (W:=W) (s:=sn) (e:=e) (n:=n) (by rw[gst]; exact kd_relay _) hlv
   have hbm:b0 ∈ W.lv (sn:Int):=by rw[hlv]; exact zN
   generalize e.2.2 + n=y at hn ⊢
   refine abb fun Gz hGz=>?_
   obtain⟨b,eb⟩:∃ b,b=b0:=⟨_,rfl⟩
   refine hGz ?_
   rw[← eb] at hn hbm ⊢
   clear eb
  rotate_left
  focus
   rw[show decide (V.str ("sorter":Str)=V.str (Str.ofString "relay"))=false from by decide +kernel]
   refine iteF ?_
   have lp:0 < (W.lv (sn:Int)).length:=by rw[hlv]; exact Nat.succ_pos _
   first|(refine tvC rfl ?_)|(refine tvO rfl ?_)|(refine tvK rfl ?_)|(refine tv rfl ?_)|(refine⟨_,rfl,?_⟩)
   first|(refine tvC rfl ?_)|(refine tvO rfl ?_)|(refine tvK rfl ?_)|(refine tv rfl ?_)|(refine⟨_,rfl,?_⟩)
   first|(ac_rfl; refine⟨D,_,rfl,.inl (SqL.of h9A),⟨_,_,rfl,rfl,(show(0:Int) < (((W.lv (sn:Int)).map V.int).length:Int) by rw[zB]; omega),?_⟩⟩)|(refine⟨_,rfl,D,_,rfl,.inl (SqL.of h9A),⟨_,_,rfl,rfl,(show(0:Int) < (((W.lv (sn:Int)).map V.int).length:Int) by rw[zB]; omega),?_⟩⟩)
   rw[zB]
   have m0:=qM e.2.2 (show((W.lv (sn:Int)).length:Int) ≠ 0 by omega)
   have m1:=y8 e.2.2 (show(0:Int) < ((W.lv (sn:Int)).length:Int) by omega)
   refine abb fun Gz hGz=>?_
   obtain⟨j,hj⟩:=qY m0
   refine hGz ?_
   have hjl:j < (W.lv (sn:Int)).length:=by omega
   have hjb:(W.lv (sn:Int))[j]?=some ((W.lv (sn:Int))[j]):=zC hjl
   rw[hj]
   refine(jxL (j:=j) h9A (by rw[zJ,hjb]; rfl) ?_)
   have hn:=nx_sorter (W:=W) (s:=sn) (e:=e) (b:=(W.lv (sn:Int))[j]) (by rw[gst]; exact kd_sorter _) (fun z=>by rw[z] at lp; exact absurd lp (qN 0)) (by rw[hj,qE]; exact hjb)
   have hbm:(W.lv (sn:Int))[j] ∈ W.lv (sn:Int):=kK _
   generalize (W.lv (sn:Int))[j]=b at hn hbm ⊢
   refine abb fun Gz hGz=>?_
   obtain⟨y,ey⟩:∃ y,y=e.2.2:=⟨_,rfl⟩
   refine hGz ?_
   rw[← ey] at hn ⊢
   clear ey
  all_goals
   refine abb fun Gz hGz=>?_
   obtain⟨q1,q2,q3,q4,_,q6,_⟩:=Wk.lv_goal ok hbm
   obtain⟨jb,hjb2⟩:=qY q1
   refine hGz ?_
   subst hjb2
   rw[qE] at hn q3 q4 q6
   refine abb fun Gz hGz=>?_
   obtain⟨x,hx⟩:∃ x,ys[jb]?=some x:=⟨_,zC (by omega)⟩
   obtain⟨bt,hbt,ab,rfl,hab⟩:=h2A.pb.gt hx
   refine hGz ?_
   have gbt:W.be.getD jb (0,0,0)=bt:=by rw[zE,hbt]; rfl
   rw[gbt] at hn q3 q4 q6
   first|(ac_rfl; refine(jxTc (j:=1) h1A rfl ⟨_,rfl,(jxL h2A.hb hx ⟨ab,_,rfl,SqT.of hab,rfl,⟨_,_,rfl,⟨_,_,rfl,⟨_,_,rfl,rfl,?_⟩⟩⟩⟩)⟩))|(refine⟨_,rfl,(jxTc (j:=1) h1A rfl ⟨_,rfl,(jxL h2A.hb hx ⟨ab,_,rfl,SqT.of hab,rfl,⟨_,_,rfl,⟨_,_,rfl,⟨_,_,rfl,rfl,?_⟩⟩⟩⟩)⟩)⟩)
   first|(refine tvC rfl ?_)|(refine tvO rfl ?_)|(refine tvK rfl ?_)|(refine tv rfl ?_)|(refine⟨_,rfl,?_⟩)
   first|(ac_rfl; refine⟨_,_,rfl,rfl,?_⟩)|(refine⟨_,rfl,⟨_,_,rfl,rfl,?_⟩⟩)
   refine⟨bt.2.1.toNat,(e.1 + bt.2.2,(jb:Int),y),ws++[.ref p2],L++[(sn,e)],some (.ref D),some (.int bt.1),some (.int bt.2.2),by show e.1 + 1≤e.1 + bt.2.2; omega,?_,by omega,by rw[zM]; show((L.length + 1:Nat):Int)≤e.1 + bt.2.2; omega,by rw[zM]; show L.length + 1≤61; omega,?_,sA,gA,pA⟩
   ·rw[jI q3]
    rfl
   ·rw[ew,wk_step ok tu,hn,zQ]
    rfl
end
end Oc
namespace Oc
open PySem L2
theorem noT_li (as:List Addr) (vs:List (List V)):∀ x ∈ liC as vs,∀ ps,x.2 ≠ HO.tbl ps:=fun x hx ps=>by
 obtain⟨v,_,e⟩:=yH.mp (qL (show(x.1,x.2) ∈ as.zip (vs.map HO.lst) from hx)).2
 rw[← e]
 exact fun y=>nomatch y
theorem tris_p {H:Hp} {us:List V} {ts:List Tri} (h:Paired (IsTri H) us ts):Paired (fun v (t:T3)=>∃ a,v=V.ref a∧H a=some (.tup [.int t.1,.int t.2.1,.int t.2.2])) us ts:=pairedMono (F:=IsTri H) (fun _ _ ⟨p,e,h⟩=>⟨p,e,h⟩) h
theorem tris_q {H:Hp} {us:List V} {ts:List Tri} (h:Paired (fun v (t:T3)=>∃ a,v=V.ref a∧H a=some (.tup [.int t.1,.int t.2.1,.int t.2.2])) us ts):Paired (IsTri H) us ts:=pairedMono (fun _ _ ⟨p,e,h⟩=>⟨p,e,h⟩) h
theorem wks_in {W:Wk} (ok:W.Ok) {u:Int}:∀(n s:Nat) (e:Tri),s < W.st.length→∀ z ∈ wks W u n s e,z.1 < W.st.length
 | 0,_,_,_,z,hz=>absurd hz zW
 | n + 1,s,e,hs,z,hz=>by
  have hz':z ∈ if e.1≤u then (s,e)::(match nx1 W s e with
   | none=>[]
   | some (s',e')=>wks W u n s' e') else []:=hz
  split at hz'
  ·rcases zT.mp hz' with q|q
   ·rw[q]; exact hs
   ·cases hn:nx1 W s e with
    | none=>rw[hn] at q; exact absurd q zW
    | some v =>
     obtain⟨s',e'⟩:=v
     rw[hn] at q
     exact wks_in ok n s' e' (nx1_later ok hn).2.1 z q
  ·exact absurd hz' zW
theorem wkF_in {W:Wk} (ok:W.Ok) {u:Int} {f:Tri} (hf:f ∈ W.fe) {z:Nat × Tri} (hz:z ∈ wkF W u f):z.1 < W.st.length:=by
 obtain⟨q1,q2,_⟩:=ok.fee f hf
 exact wks_in ok _ _ _ (by omega) z hz
def dueR (n:Nat) (l:List (Nat × Tri)):List (List Tri):=(List.range n).map fun s=>pick s l
theorem dueR_at {n s:Nat} {l:List (Nat × Tri)} (h:s < n):(dueR n l)[s]?=some (pick s l):=by
 unfold dueR
 rw[zJ,jH h]
 rfl
theorem dueR_snoc {n s:Nat} {l:List (Nat × Tri)} {e:Tri}:dueR n (l++[(s,e)])=(dueR n l).set s (pick s l++[e]):=by
 refine yW fun j=>?_
 by_cases hj:j < n
 ·rw[dueR_at hj,List.getElem?_set]
  have ln:(dueR n l).length=n:=by unfold dueR; rw[zB,yT]
  by_cases q:s=j
  ·subst q
   rw[if_pos rfl,if_pos (by omega),pick_app]
   unfold pick
   rw[k4 (by show(s == s)=true; exact beq_self_eq_true _),jF]
   rfl
  ·rw[if_neg q,dueR_at hj,pick_app]
   unfold pick
   rw[k6 (l:=[]) (by show ¬ (s == j)=true; exact fun z=>q (eq_of_beq z)),jF,jY,yF]
 ·have l1:(dueR n (l++[(s,e)])).length=n:=by unfold dueR; rw[zB,yT]
  have l2:((dueR n l).set s (pick s l++[e])).length=n:=by rw[yY]; unfold dueR; rw[zB,yT]
  rw[qO (by omega),qO (by omega)]
section
variable {P:Program} {w:World} {K:PySem.W.Frag} {mg:Str→Option Value} {base:Heap} {Pd:Addr}
theorem sc_law:FnScope ["script","works","until","due","feed","station","event","found"] ["script"] (defScope (top 31)):=⟨rfl,rfl,rfl,by decide +kernel,rfl,by decide +kernel,by decide +kernel⟩
theorem ok_law {f:Addr} {fd:FuncData} (F:Fun K "law" "law" (top 31) f fd) (T:Txt K mg) (G__law_works:FnAt P w K mg base 3 "_law_works" ["script"] (spWks K)) (G__law_until:FnAt P w K mg base 2 "_law_until" ["script"] (spUntil K)) (G_run:FnAt P w K mg base 6 "run" ["works","until"] (spRun Pd))
  (G__law_walked:FnAt P w K mg base 1 "_law_walked" ["works","feed","until"] spWlk):FnOk P w K mg base CX0 7 f fd ["script"] (spLaw Pd K):=by
 have nd:=sc_law.nd
 refine F.ok sc_law (fun vs H Q E h=>?_) (fun cdv A outer s H vs Q E hr h=>?_)
 ·obtain⟨a,ns,rfl,_⟩:=h
  rfl
 ·refine abb fun Gz hGz=>?_
  obtain⟨a,ns,rfl,hS,hl,hT,q⟩:=h
  refine hGz ?_
  refine⟨_,(@pss_cons _ _ _ _ _ (ps_set (i:=1) nd rfl (by first|exact Or.inl rfl|exact Or.inr rfl) (pe_fn G__law_works (hr.mono (by decide)) (by rfl) (@pa_cons _ _ _ _ _ (pv 0) pa_nil (by rfl))))
   (@pss_cons _ _ _ _ _ (ps_set (i:=2) nd rfl (by first|exact Or.inl rfl|exact Or.inr rfl) (pe_fn G__law_until (hr.mono (by decide)) (by rfl) (@pa_cons _ _ _ _ _ (pv 0) pa_nil (by rfl))))
   (@pss_cons _ _ _ _ _ (ps_setC (i:=3) nd rfl (Or.inl rfl) rfl (own:=["station"]) (fr:=[]) (js:=[]) ⟨rfl,rfl,by decide +kernel,by decide +kernel,by repeat (first|exact Each.nil|refine Each.cons rfl ?_),by repeat (first|exact Each.nil|refine Each.cons rfl ?_),by repeat (first|exact Paired.nil|refine Paired.cons ⟨rfl,by first|exact Or.inl rfl|exact Or.inr rfl,by first|exact Or.inl rfl|exact Or.inr rfl⟩ ?_),rfl⟩ (pi_listK (K:=K) rfl (@pe_ix _ _ _ _ _ _ _ (ix_tupK (K:=K) rfl) (pv 1) pe_int (fun _ _=>rfl))) (fun _ _ _ _=>(pg_name (i:=0) (show List.Nodup (["station"]:List Str) from by decide +kernel) rfl (by first|exact Or.inl rfl|exact Or.inr rfl))) (fun _ _ _ _=>pts_nil) (fun _ _ _ _=>(@pe_lst _ _ _ _ pa_nil)))
   (@pss_cons _ _ _ _ _ (ps_for PassesOwn.never rfl (pi_listK (K:=K) rfl (@pe_ix _ _ _ _ _ _ _ (ix_tupK (K:=K) rfl) (pv 1) pe_int (fun _ _=>rfl))) (pg_name (i:=4) nd rfl (by first|exact Or.inl rfl|exact Or.inr rfl)) (@pss_one _ _ _ (ps_for PassesOwn.never rfl (pi_listK (K:=K) rfl (pe_fn G__law_walked (hr.mono (by decide)) (by rfl) (@pa_cons _ _ _ _ _ (pv 1) (@pa_cons _ _ _ _ _ (pv 4) (@pa_cons _ _ _ _ _ (pv 2) pa_nil (by rfl)) (by rfl)) (by rfl)))) (pg_tup rfl (pgs_cons (pg_name (i:=5) nd rfl (by first|exact Or.inl rfl|exact Or.inr rfl)) (pgs_cons (pg_name (i:=6) nd rfl (by first|exact Or.inl rfl|exact Or.inr rfl)) pgs_nil))) (@pss_one _ _ _ (ps_expr (pe_bm PySem.F.plainAttrs_list PySem.F.slot_list_append PySem.F.type_list_append mt_append (@pe_ix _ _ _ _ _ _ _ (ix_listK (K:=K) rfl) (pv 3) (pv 5) (fun _ _=>rfl)) (@pa_cons _ _ _ _ _ (pv 6) pa_nil (by rfl))))))))
   (@pss_cons _ _ _ _ _ (ps_set (i:=7) nd rfl (by first|exact Or.inl rfl|exact Or.inr rfl) (pe_fn G_run (hr.mono (by decide)) (by rfl) (@pa_cons _ _ _ _ _ (pv 1) (@pa_cons _ _ _ _ _ (pv 2) pa_nil (by rfl)) (by rfl))))
   (@pss_cons _ _ _ _ _ (ps_for PassesOwn.never rfl (pi_range1 rfl T.n_range (@pa_cons _ _ _ _ _ (pe_callB (call_len_seqK (K:=K) rfl) (by rfl) T.n_len bt_len (@pa_cons _ _ _ _ _ (@pe_ix _ _ _ _ _ _ _ (ix_tupK (K:=K) rfl) (pv 1) pe_int (fun _ _=>rfl)) pa_nil (by rfl))) pa_nil (by rfl))) (pg_name (i:=5) nd rfl (by first|exact Or.inl rfl|exact Or.inr rfl)) (@pss_one _ _ _ (ps_if (pt_cmpR (op_neDK (K:=K) rfl hr.units) (pe_callB (call_srt3 (K:=K) rfl) (by rfl) T.n_sorted bt_sorted (@pa_cons _ _ _ _ _ (@pe_ix _ _ _ _ _ _ _ (ix_listK (K:=K) rfl) (pv 7) (pv 5) (fun _ _=>rfl)) pa_nil (by rfl))) (pe_callB (call_srt3 (K:=K) rfl) (by rfl) T.n_sorted bt_sorted (@pa_cons _ _ _ _ _ (@pe_ix _ _ _ _ _ _ _ (ix_listK (K:=K) rfl) (pv 3) (pv 5) (fun _ _=>rfl)) pa_nil (by rfl))) (nomark _)) (@pss_one _ _ _ (@ps_ret _ _ _ _ pe_bl)) pss_nil)))
   (@pss_one _ _ _ (@ps_ret _ _ _ _ (pe_cmpR op_eq (pe_callB (call_len_seqK (K:=K) rfl) (by rfl) T.n_len bt_len (@pa_cons _ _ _ _ _ (pv 7) pa_nil (by rfl))) (pe_callB (call_len_seqK (K:=K) rfl) (by rfl) T.n_len bt_len (@pa_cons _ _ _ _ _ (@pe_ix _ _ _ _ _ _ _ (ix_tupK (K:=K) rfl) (pv 1) pe_int (fun _ _=>rfl)) pa_nil (by rfl))) (nomark _)))))))))),?_⟩
  first|(ac_rfl; refine⟨a,ns,rfl,hS,hl,fun wa W H1 hW ok sk s1=>?_⟩)|(refine⟨_,rfl,a,ns,rfl,hS,hl,fun wa W H1 hW ok sk s1=>?_⟩)
  first|(ac_rfl; refine⟨a,ns,rfl,s1.seq hS,fun u u0 u1=>?_⟩)|(refine⟨_,rfl,a,ns,rfl,s1.seq hS,fun u u0 u1=>?_⟩)
  have s8:=ok.s8
  have f60:=ok.f60
  refine abb fun Gz hGz=>?_
  obtain⟨M,sa,ba,fa,xs,ys,zs,mc,mT,mI⟩:=base_in hW (s1.seq hS)
  have wW:WkIn M wa W:=fun H' h'=>let ⟨a,b,_⟩:=mI H' h'; ⟨sa,ba,fa,xs,ys,zs,a,b⟩
  obtain⟨h1,h2,_⟩:=mI H1 mc
  refine hGz ?_
  have ls:=h2.ps.length
  have lf:=h2.pf.length
  have hT1:=hT.same s1
  clear hS s1 hT
  first|(ac_rfl; refine(jxTc (j:=0) h1 rfl ⟨sa,rfl,⟨_,SqL.of h2.hs⟩,fun D nD=>?_⟩))|(refine⟨_,rfl,(jxTc (j:=0) h1 rfl ⟨sa,rfl,⟨_,SqL.of h2.hs⟩,fun D nD=>?_⟩)⟩)
  refine comp_list (a:=sa) (xs:=xs) (fun i H4=>∃ ea:List Addr,Same H1 H4∧Hc H4 ([(D,.lst (ea.map V.ref))]::liC ea (ea.map fun _=>[])::M)∧ea.length=i) ⟨[],Same.new nD,(mc.new nD (.lst [])).pad.swap,rfl⟩ (fun i H4 _ ⟨_,p,_⟩=>SqL.of (p _ _ h2.hs)) ?_ ?_
  ·rintro i x H4 m Wf hx hz0 nx
   refine abb fun Gz hGz=>?_
   obtain⟨ea,s4,hc4,l4⟩:=hz0
   refine hGz ?_
   have hi:=(zA.mp hx).1
   refine⟨zZ _,fun pn npn=>?_⟩
   have hc6:=hc4.new npn (.lst [])
   have g6:=hc6.get 1 0 rfl rfl
   refine⟨_,g6,small1000 (by rw[zB]; omega),nx _ ⟨ea++[pn],(s4.trans (Same.new npn)).upd nD,?_,by rw[zM,l4]; rfl⟩⟩
   have:=hc6.put 1 0 rfl rfl (.lst (ea.map V.ref++[.ref pn]))
   rw[zS,zS]
   have e:=liC_snoc (ls:=ea) (vs:=ea.map fun _=>[]) (by rw[zB]) pn []
   show Hc _ (_::liC (ea++[pn]) ((ea.map fun _=>[])++[[]])::_)
   rw[e]
   exact(Hc.join (this.pick 2 rfl)).swap
  rintro H5 hz1
  refine abb fun Gz hGz=>?_
  obtain⟨ea,s5,hc5,l5⟩:=hz1
  refine hGz ?_
  have lea:ea.length=W.st.length:=by omega
  have dT5:=hT1.same s5
  clear s5 hT1 h1 h2 mc
  refine abb fun Gz hGz=>?_
  obtain⟨h15,h25,_⟩:=mI H5 hc5.tl.tl
  refine hGz ?_
  first|(ac_rfl; refine(jxTc (j:=2) h15 rfl ⟨fa,rfl,⟨_,SqL.of h25.hf⟩,for_list (K:=K) (a:=fa) (xs:=zs) (fun i σ H9=>∃(v4 v5 v6:Option V) (dv:List (List V)),σ=[some (.ref a),some (.ref wa),some (.int u),some (.ref D),v4,v5,v6,none]∧Hc H9 ([(D,.lst (ea.map V.ref))]::liC ea dv::M)∧DoorT Pd H9∧ea.length=dv.length∧(∀ us ∈ dv,us.length≤61 * i)∧Paired (fun us ts=>Paired (IsTri H9) us ts) dv (dueR W.st.length ((W.fe.take i).flatMap (wkF W u)))) ⟨_,_,_,ea.map fun _=>[],rfl,hc5,dT5,by rw[zB],?_,?_⟩ (fun i σ H9 _ ⟨_,_,_,_,_,k,_⟩=>SqL.of (mI H9 k.tl.tl).2.1.hf) ?_ ?_⟩))|(refine⟨_,rfl,(jxTc (j:=2) h15 rfl ⟨fa,rfl,⟨_,SqL.of h25.hf⟩,for_list (K:=K) (a:=fa) (xs:=zs) (fun i σ H9=>∃(v4 v5 v6:Option V) (dv:List (List V)),σ=[some (.ref a),some (.ref wa),some (.int u),some (.ref D),v4,v5,v6,none]∧Hc H9 ([(D,.lst (ea.map V.ref))]::liC ea dv::M)∧DoorT Pd H9∧ea.length=dv.length∧(∀ us ∈ dv,us.length≤61 * i)∧Paired (fun us ts=>Paired (IsTri H9) us ts) dv (dueR W.st.length ((W.fe.take i).flatMap (wkF W u)))) ⟨_,_,_,ea.map fun _=>[],rfl,hc5,dT5,by rw[zB],?_,?_⟩ (fun i σ H9 _ ⟨_,_,_,_,_,k,_⟩=>SqL.of (mI H9 k.tl.tl).2.1.hf) ?_ ?_⟩)⟩)
  ·intro us hus
   refine abb fun Gz hGz=>?_
   obtain⟨_,_,rfl⟩:=yH.mp hus
   refine hGz ?_
   exact zZ _
  ·rw[kT]
   have e:dueR W.st.length (([]:List Tri).flatMap (wkF W u))=(List.range W.st.length).map fun _=>[]:=rfl
   rw[e]
   exact pairs_nil .nil (by rw[yT]; exact lea)
  ·rintro i x σ H9 hx hz2
   refine abb fun Gz hGz=>?_
   obtain⟨v4,v5,v6,dv,rfl,k9,dT9,ld,le9,pd⟩:=hz2
   obtain⟨h19,h29,_⟩:=mI H9 k9.tl.tl
   obtain⟨t,ht,a0,rfl,ha⟩:=h29.pf.gt hx
   refine hGz ?_
   have hi:=(zA.mp ht).1
   first|(refine tvC rfl ?_)|(refine tvO rfl ?_)|(refine tvK rfl ?_)|(refine tv rfl ?_)|(refine⟨_,rfl,?_⟩)
   first|(refine tvC rfl ?_)|(refine tvO rfl ?_)|(refine tvK rfl ?_)|(refine tv rfl ?_)|(refine⟨_,rfl,?_⟩)
   first|(ac_rfl; refine⟨wa,a0,W,t,u,rfl,wW H9 k9.tl.tl,ok,sk,zK ht,ha,u1,fun r ws H10 nr gr pw lw s10=>?_⟩)|(refine⟨_,rfl,⟨wa,a0,W,t,u,rfl,wW H9 k9.tl.tl,ok,sk,zK ht,ha,u1,fun r ws H10 nr gr pw lw s10=>?_⟩⟩)
   have k10:=k9.newS nr gr s10
   have dT10:=dT9.same s10
   have pd10:=pairedMono (fun _ _ h=>pairedMono (fun _ _ h=>IsTri.same s10 h) h) pd
   have lws:=pw.length
   clear k9 dT9 pd h19 h29 ha s10
   refine⟨r,rfl,⟨_,SqL.of gr⟩,for_list (K:=K) (a:=r) (xs:=ws) (fun j σ H11=>∃(v5 v6:Option V) (dv:List (List V)),σ=[some (.ref a),some (.ref wa),some (.int u),some (.ref D),some (.ref a0),v5,v6,none]∧Hc H11 ([(r,.lst ws)]::[(D,.lst (ea.map V.ref))]::liC ea dv::M)∧DoorT Pd H11∧ea.length=dv.length∧(∀ us ∈ dv,us.length≤61 * i + j)∧Paired (IsSE H11) ws (wkF W u t)∧Paired (fun us ts=>Paired (IsTri H11) us ts) dv (dueR W.st.length ((W.fe.take i).flatMap (wkF W u)++(wkF W u t).take j))) ⟨_,_,dv,rfl,k10,dT10,ld,fun us h=>by have:=le9 us h; omega,pw,by rw[kT,yF]; exact pd10⟩ (fun j σ H11 _ ⟨_,_,_,_,k,_⟩=>SqL.of (k.get 0 0 rfl rfl)) ?_ ?_⟩
   ·rintro j x σ H11 hx' hz3
    refine abb fun Gz hGz=>?_
    obtain⟨v5,v6,dv,rfl,k11,dT11,ld',le11,pw11,pd11⟩:=hz3
    obtain⟨⟨sn,e⟩,hz,p1,q1,rfl,hp1,hq1⟩:=pw11.gt hx'
    have hj:=(zA.mp hz).1
    have hsn:sn < W.st.length:=by
     exact wkF_in ok (zK ht) (z:=(sn,e)) (zK hz)
    obtain⟨la,hla⟩:∃ la,ea[sn]?=some la:=⟨_,zC (by omega)⟩
    obtain⟨us,hus⟩:=get_like ld' hla
    refine hGz ?_
    have hl:=k11.get 2 sn rfl (li_cell hla hus)
    have lus:=le11 us (zK hus)
    refine⟨p1,_,rfl,SqT.of hp1,rfl,⟨_,_,rfl,⟨_,_,rfl,rfl,?_⟩⟩⟩
    first|(refine tvC rfl ?_)|(refine tvO rfl ?_)|(refine tvK rfl ?_)|(refine tv rfl ?_)|(refine⟨_,rfl,?_⟩)
    first|(ac_rfl; refine(jxL (k11.get 1 0 rfl rfl) (refs_at hla) ⟨tyL hl,_,rfl,_,_,_,rfl,rfl,hl,smallM (by omega),?_⟩))|(refine⟨_,rfl,(jxL (k11.get 1 0 rfl rfl) (refs_at hla) ⟨tyL hl,_,rfl,_,_,_,rfl,rfl,hl,smallM (by omega),?_⟩)⟩)
    have k12:=k11.put 2 sn rfl (li_cell hla hus) (.lst (us++[.ref q1]))
    rw[liC_set hla] at k12
    have k12':Hc _ ([(r,.lst ws)]::[(D,.lst (ea.map V.ref))]::liC ea (dv.set sn (us++[.ref q1]))::M):=k12
    refine⟨_,_,dv.set sn (us++[.ref q1]),rfl,k12',dT11.updL hl,by rw[yY]; exact ld',all_set (fun z hz=>yA (le11 z hz) (by omega)) (by rw[zM]; show us.length + 1≤_; omega),pairedMono (fun _ _ h=>h.keep hl) pw11,?_⟩
    have et:(wkF W u t).take (j + 1)=(wkF W u t).take j++[(sn,e)]:=take_1 hz
    rw[et,← zQ,dueR_snoc]
    have pd12:Paired (fun vs ts=>Paired (IsTri (upd H11 la (.lst (us++[.ref q1])))) vs ts) dv (dueR W.st.length ((W.fe.take i).flatMap (wkF W u)++(wkF W u t).take j)):=pairs_keep hl pd11
    refine abb fun Gz hGz=>?_
    obtain⟨ts,hts,pts⟩:=pd12.gt hus
    refine hGz ?_
    rw[dueR_at hsn] at hts
    cases hts
    exact paired_set pd12 (paired_app pts (.cons ⟨q1,rfl,by rw[upd_ne (ne_of hq1 hl fun z=>nomatch z)]; exact hq1⟩ .nil))
   ·rintro σ H11 hz4
    refine abb fun Gz hGz=>?_
    obtain⟨v5,v6,dv,rfl,k11,dT11,ld',le11,pw11,pd11⟩:=hz4
    refine hGz ?_
    refine⟨_,_,_,dv,rfl,k11.tl,dT11,ld',fun us h=>by have:=le11 us h; omega,?_⟩
    rw[lws,yM] at pd11
    have et:W.fe.take (i + 1)=W.fe.take i++[t]:=take_1 ht
    rw[et,yN,jA]
    exact pd11
  rintro σ H9 hz5
  refine abb fun Gz hGz=>?_
  obtain⟨v4,v5,v6,dv,rfl,k9,dT9,ld,le9,pd⟩:=hz5
  refine hGz ?_
  rw[lf,yM] at pd
  have mT9:NoT ([(D,.lst (ea.map V.ref))]::liC ea dv::M):=(mT.cons (noT_li ea dv)).lst
  first|(refine tvC rfl ?_)|(refine tvO rfl ?_)|(refine tvK rfl ?_)|(refine tv rfl ?_)|(refine⟨_,rfl,?_⟩)
  first|(ac_rfl; refine⟨wa,u,W,_,rfl,k9,mT9,(fun H' h'=>wW H' h'.tl.tl),ok,dT9,(by omega),fun R D1 ea1 evv H10 rr cok k10 l1 pe tp10 dT10 le10=>?_⟩)|(refine⟨_,rfl,wa,u,W,_,rfl,k9,mT9,(fun H' h'=>wW H' h'.tl.tl),ok,dT9,(by omega),fun R D1 ea1 evv H10 rr cok k10 l1 pe tp10 dT10 le10=>?_⟩)
  have pd10:=evs_tp tp10 pd
  clear pd k9 dT9 mT9 tp10 dT10
  refine abb fun Gz hGz=>?_
  obtain⟨h1,h2,_⟩:=mI H10 k10.tl.tl.tl.tl
  refine hGz ?_
  have lev:=pe.length
  have ldu:=pd10.length
  have lR:=cok.l2
  have lD:(dueR W.st.length (W.fe.flatMap (wkF W u))).length=W.st.length:=by unfold dueR; rw[zB,yT]
  first|(ac_rfl; refine(jxTc (j:=0) h1 rfl ⟨sa,xs,rfl,.inl (SqL.of h2.hs),_,rfl,by rw[p62]; omega,by rw[p62]; omega,?_⟩))|(refine⟨_,rfl,(jxTc (j:=0) h1 rfl ⟨sa,xs,rfl,.inl (SqL.of h2.hs),_,rfl,by rw[p62]; omega,by rw[p62]; omega,?_⟩)⟩)
  refine for_range (fun i σ H11=>∃(v4 v5 v6:Option V),σ=[some (.ref a),some (.ref wa),some (.int u),some (.ref D),v4,v5,v6,some (.ref D1)]∧Same H10 H11) ⟨_,_,_,rfl,Same.refl _⟩ ?_ ?_
  ·rintro i σ H11 hi hz6
   refine abb fun Gz hGz=>?_
   obtain⟨v4,v5,v6,rfl,s11⟩:=hz6
   refine hGz ?_
   rw[kF]
   have hi':i < W.st.length:=by omega
   refine abb fun Gz hGz=>?_
   obtain⟨la,hla⟩:∃ la,ea1[i]?=some la:=⟨_,zC (by omega)⟩
   obtain⟨us,hus⟩:=get_like l1 hla
   obtain⟨tu,htu,pu⟩:=pe.gt hus
   obtain⟨lb,hlb⟩:∃ lb,ea[i]?=some lb:=⟨_,zC (by omega)⟩
   obtain⟨vs,hvs⟩:=get_like ld hlb
   obtain⟨tv,htv,pv'⟩:=pd10.gt hvs
   refine hGz ?_
   rw[dueR_at hi'] at htv
   cases htv
   have k11:=k10.same s11
   first|(refine tvC rfl ?_)|(refine tvO rfl ?_)|(refine tvK rfl ?_)|(refine tv rfl ?_)|(refine⟨_,rfl,?_⟩)
   first|(ac_rfl; refine(jxL (k11.get 0 0 rfl rfl) (refs_at hla) ⟨la,us,tu,rfl,SqL.of (k11.get 1 i rfl (li_cell hla hus)),tris_p (pairedMono (fun _ _ h=>IsTri.same s11 h) pu),fun l out ms nl pm perm so=>?_⟩))|(refine⟨_,rfl,(jxL (k11.get 0 0 rfl rfl) (refs_at hla) ⟨la,us,tu,rfl,SqL.of (k11.get 1 i rfl (li_cell hla hus)),tris_p (pairedMono (fun _ _ h=>IsTri.same s11 h) pu),fun l out ms nl pm perm so=>?_⟩)⟩)
   have s12:Same H11 (upd H11 l (.lst out)):=Same.new nl
   have g12:(upd H11 l (.lst out)) l=some (.lst out):=upd_same
   have pm12:=pairedMono (fun _ _ h=>IsTri.same s12 h) (tris_q pm)
   generalize upd H11 l (.lst out)=H12 at s12 g12 pm12 ⊢
   have k12:=k11.same s12
   first|(refine tvC rfl ?_)|(refine tvO rfl ?_)|(refine tvK rfl ?_)|(refine tv rfl ?_)|(refine⟨_,rfl,?_⟩)
   first|(ac_rfl; refine(jxL (k12.get 2 0 rfl rfl) (refs_at hlb) ⟨lb,vs,_,rfl,SqL.of (k12.get 3 i rfl (li_cell hlb hvs)),tris_p (pairedMono (fun _ _ h=>IsTri.same (s11.trans s12) h) pv'),fun l2 out2 ms2 nl2 pm2 perm2 so2=>?_⟩))|(refine⟨_,rfl,(jxL (k12.get 2 0 rfl rfl) (refs_at hlb) ⟨lb,vs,_,rfl,SqL.of (k12.get 3 i rfl (li_cell hlb hvs)),tris_p (pairedMono (fun _ _ h=>IsTri.same (s11.trans s12) h) pv'),fun l2 out2 ms2 nl2 pm2 perm2 so2=>?_⟩)⟩)
   have s13:Same H12 (upd H12 l2 (.lst out2)):=Same.new nl2
   have g13:(upd H12 l2 (.lst out2)) l2=some (.lst out2):=upd_same
   have pm13:=pairedMono (fun _ _ h=>IsTri.same s13 h) (tris_q pm2)
   have pm12':=pairedMono (fun _ _ h=>IsTri.same s13 h) pm12
   have gd:R.ev.getD i []=tu:=by rw[zE,htu]; rfl
   have em:ms=ms2:=sorted_uniq (perm.trans ((List.Perm.of_eq gd.symm).trans ((run_walk ok sk rr (cs_ok ok) i).trans perm2.symm))) so so2
   subst em
   generalize upd H12 l2 (.lst out2)=H13 at s13 g13 pm13 pm12' ⊢
   have dA:=tris_dt (K:=K) (s13 _ _ g12) pm12'
   have dB:=tris_dt (K:=K) g13 pm13
   refine⟨_,_,2,dA,dB,by decide,_,rfl,?_⟩
   rw[SeqAt.eqv_refl _ dA.can]
   exact iteF ⟨_,_,_,rfl,s11.trans (s12.trans s13)⟩
  ·rintro σ H11 hz7
   refine abb fun Gz hGz=>?_
   obtain⟨v4,v5,v6,rfl,s11⟩:=hz7
   refine hGz ?_
   have k11:=k10.same s11
   first|(ac_rfl; refine⟨D1,_,rfl,.inl (SqL.of (k11.get 0 0 rfl rfl)),_,rfl,(jxTc (j:=0) (s11 _ _ h1) rfl ⟨sa,xs,rfl,.inl (SqL.of (s11 _ _ h2.hs)),rfl,?_⟩)⟩)|(refine⟨_,rfl,D1,_,rfl,.inl (SqL.of (k11.get 0 0 rfl rfl)),_,rfl,(jxTc (j:=0) (s11 _ _ h1) rfl ⟨sa,xs,rfl,.inl (SqL.of (s11 _ _ h2.hs)),rfl,?_⟩)⟩)
   have el:decide (V.int ((ea1.map V.ref).length:Int)=V.int (xs.length:Int))=true:=by
    rw[zB,show ea1.length=xs.length by omega]
    exact decide_eq_true rfl
   rw[el]
   exact q _
end
end Oc
namespace Oc
open PySem L2
inductive FnF (K:PySem.W.Frag) (s:Stmt) (m q:Str) (f:Addr) (cd:Value):Prop where
 | mk {oc:Value} {od an:Option Addr} {sl:Array (Option Value)} {kV dc pm ct:Value} (l:K.lookup f=some ⟨oc,od,.func (PySem.W.fnOf m q (defArgs s) (defBody s) (defScope s) .none kV dc pm an cd ct),sl⟩) (c:PySem.W.codeIn K cd q=true) (k:PySem.W.keepIn K (.ref f)=true):FnF K s m q f cd
theorem FnF.fn {K:PySem.W.Frag} {s:Stmt} {m q:Str} {f:Addr} {cd:Value} (h:FnF K s m q f cd):∃ fd,Fun K m q s f fd∧PySem.W.keepIn K (.ref f)=true∧fd.code=cd:=by
 obtain⟨l,c,k⟩:=h
 exact⟨_,fun_mk l c k,k,rfl⟩
def MtF (K:PySem.W.Frag) (C:Addr) (m:Str) (f:Addr):Prop:=PySem.W.findIn K (.ref C) m=some (some (.ref f))∧PySem.W.isFn K (.ref f)=true
set_option hygiene false in
local macro_rules | `(tactic| injections) => `(tactic| (intro _ _ _ _ _ _ us hl; first | (obtain ⟨_, rfl⟩ := len1 hl; rfl) | (obtain ⟨_, _, rfl⟩ := len2 hl; rfl) | (obtain ⟨_, _, _, rfl⟩ := len3 hl; rfl) | (obtain ⟨_, _, _, _, rfl⟩ := len4 hl; rfl) | (obtain ⟨_, _, _, _, _, rfl⟩ := len5 hl; rfl)))
theorem all_mk {l:PySem.W.OpenLaw} {w:World} {K:PySem.W.Frag} {h:Heap} {mg:Str→Option Value} {fa C_Station C_Relay C_Sorter C_Thinner C_Joiner C_Sink f_ways f_leaving f_sides f_Station___init__ f_Station_take f_Station_on_first f_Relay___init__ f_Relay_take f_Sorter_take f_Thinner___init__ f_Thinner_take f_Joiner___init__ f_Joiner_take f_station_of f_door f_door_events f_at_doors f_arrival_of f_rank f_traced f_run f__law_cell_at f__law_drawn f__law_number f__law_station f__law_belt f__law_feed f__law_works f__law_until f__law_walked f_law:Addr} (X:K.In h) (G:h.Ns mainGlobals mg) (hfa:mg "law"=some (.ref fa))
  {od_rank an_rank od_law an_law:Option Addr} {sl_rank sl_law:Array (Option Value)} {cd_ways cd_leaving cd_sides cd_Station___init__ cd_Station_take cd_Station_on_first cd_Relay___init__ cd_Relay_take cd_Sorter_take cd_Thinner___init__ cd_Thinner_take cd_Joiner___init__ cd_Joiner_take cd_station_of cd_door cd_door_events cd_at_doors cd_arrival_of oc_rank kV_rank dc_rank pm_rank cd_rank ct_rank cd_traced cd_run cd__law_cell_at cd__law_drawn cd__law_number cd__law_station cd__law_belt cd__law_feed cd__law_works cd__law_until cd__law_walked oc_law kV_law dc_law pm_law cd_law ct_law mc_Station:Value} {tkD:Tok} {cD PD:Addr}
  (aC_Station:PySem.W.nsIn K mainGlobals "Station"=some (some (.ref C_Station)))
  (aC_Relay:PySem.W.nsIn K mainGlobals "Relay"=some (some (.ref C_Relay)))
  (aC_Sorter:PySem.W.nsIn K mainGlobals "Sorter"=some (some (.ref C_Sorter)))
  (aC_Thinner:PySem.W.nsIn K mainGlobals "Thinner"=some (some (.ref C_Thinner)))
  (aC_Joiner:PySem.W.nsIn K mainGlobals "Joiner"=some (some (.ref C_Joiner)))
  (aC_Sink:PySem.W.nsIn K mainGlobals "Sink"=some (some (.ref C_Sink)))
  (a_ways:PySem.W.nsIn K mainGlobals "ways"=some (some (.ref f_ways)))
  (x_ways:FnF K (top 2) "ways" "ways" f_ways cd_ways)
  (a_leaving:PySem.W.nsIn K mainGlobals "leaving"=some (some (.ref f_leaving)))
  (x_leaving:FnF K (top 5) "leaving" "leaving" f_leaving cd_leaving)
  (a_sides:PySem.W.nsIn K mainGlobals "sides"=some (some (.ref f_sides)))
  (x_sides:FnF K (top 6) "sides" "sides" f_sides cd_sides)
  (y_Station___init__:MtF K C_Station "__init__" f_Station___init__)
  (x_Station___init__:FnF K (inClass (top 8) 0) "__init__" "Station.__init__" f_Station___init__ cd_Station___init__)
  (y_Station_take:MtF K C_Station "take" f_Station_take)
  (x_Station_take:FnF K (inClass (top 8) 1) "take" "Station.take" f_Station_take cd_Station_take)
  (y_Station_on_first:MtF K C_Station "on_first" f_Station_on_first)
  (x_Station_on_first:FnF K (inClass (top 8) 2) "on_first" "Station.on_first" f_Station_on_first cd_Station_on_first)
  (y_Relay___init__:MtF K C_Relay "__init__" f_Relay___init__)
  (x_Relay___init__:FnF K (inClass (top 9) 0) "__init__" "Relay.__init__" f_Relay___init__ cd_Relay___init__)
  (y_Relay_take:MtF K C_Relay "take" f_Relay_take)
  (x_Relay_take:FnF K (inClass (top 9) 1) "take" "Relay.take" f_Relay_take cd_Relay_take)
  (y_Sorter_take:MtF K C_Sorter "take" f_Sorter_take)
  (x_Sorter_take:FnF K (inClass (top 10) 0) "take" "Sorter.take" f_Sorter_take cd_Sorter_take)
  (y_Thinner___init__:MtF K C_Thinner "__init__" f_Thinner___init__)
  (x_Thinner___init__:FnF K (inClass (top 11) 0) "__init__" "Thinner.__init__" f_Thinner___init__ cd_Thinner___init__)
  (y_Thinner_take:MtF K C_Thinner "take" f_Thinner_take)
  (x_Thinner_take:FnF K (inClass (top 11) 1) "take" "Thinner.take" f_Thinner_take cd_Thinner_take)
  (y_Joiner___init__:MtF K C_Joiner "__init__" f_Joiner___init__)
  (x_Joiner___init__:FnF K (inClass (top 12) 0) "__init__" "Joiner.__init__" f_Joiner___init__ cd_Joiner___init__)
  (y_Joiner_take:MtF K C_Joiner "take" f_Joiner_take)
  (x_Joiner_take:FnF K (inClass (top 12) 1) "take" "Joiner.take" f_Joiner_take cd_Joiner_take)
  (a_station_of:PySem.W.nsIn K mainGlobals "station_of"=some (some (.ref f_station_of)))
  (x_station_of:FnF K (top 14) "station_of" "station_of" f_station_of cd_station_of)
  (a_door:PySem.W.nsIn K mainGlobals "door"=some (some (.ref f_door)))
  (x_door:FnF K (top 3) "door" "door" f_door cd_door)
  (a_door_events:PySem.W.nsIn K mainGlobals "door_events"=some (some (.ref f_door_events)))
  (x_door_events:FnF K (top 4) "door_events" "door_events" f_door_events cd_door_events)
  (a_at_doors:PySem.W.nsIn K mainGlobals "at_doors"=some (some (.ref f_at_doors)))
  (x_at_doors:FnF K (top 16) "at_doors" "at_doors" f_at_doors cd_at_doors)
  (a_arrival_of:PySem.W.nsIn K mainGlobals "arrival_of"=some (some (.ref f_arrival_of)))
  (x_arrival_of:FnF K (top 17) "arrival_of" "arrival_of" f_arrival_of cd_arrival_of)
  (a_rank:PySem.W.nsIn K mainGlobals "rank"=some (some (.ref f_rank)))
  (l_rank:K.lookup f_rank=some ⟨oc_rank,od_rank,.func (PySem.W.fnOf "rank" "rank" (defArgs (top 18)) (defBody (top 18)) (defScope (top 18)) .none kV_rank dc_rank pm_rank an_rank cd_rank ct_rank),sl_rank⟩)
  (c_rank:PySem.W.codeIn K cd_rank "rank"=true)
  (k_rank:PySem.W.keepIn K (.ref f_rank)=true)
  (a_traced:PySem.W.nsIn K mainGlobals "traced"=some (some (.ref f_traced)))
  (x_traced:FnF K (top 19) "traced" "traced" f_traced cd_traced)
  (a_run:PySem.W.nsIn K mainGlobals "run"=some (some (.ref f_run)))
  (x_run:FnF K (top 20) "run" "run" f_run cd_run)
  (a__law_cell_at:PySem.W.nsIn K mainGlobals "_law_cell_at"=some (some (.ref f__law_cell_at)))
  (x__law_cell_at:FnF K (top 22) "_law_cell_at" "_law_cell_at" f__law_cell_at cd__law_cell_at)
  (a__law_drawn:PySem.W.nsIn K mainGlobals "_law_drawn"=some (some (.ref f__law_drawn)))
  (x__law_drawn:FnF K (top 23) "_law_drawn" "_law_drawn" f__law_drawn cd__law_drawn)
  (a__law_number:PySem.W.nsIn K mainGlobals "_law_number"=some (some (.ref f__law_number)))
  (x__law_number:FnF K (top 24) "_law_number" "_law_number" f__law_number cd__law_number)
  (a__law_station:PySem.W.nsIn K mainGlobals "_law_station"=some (some (.ref f__law_station)))
  (x__law_station:FnF K (top 25) "_law_station" "_law_station" f__law_station cd__law_station)
  (a__law_belt:PySem.W.nsIn K mainGlobals "_law_belt"=some (some (.ref f__law_belt)))
  (x__law_belt:FnF K (top 26) "_law_belt" "_law_belt" f__law_belt cd__law_belt)
  (a__law_feed:PySem.W.nsIn K mainGlobals "_law_feed"=some (some (.ref f__law_feed)))
  (x__law_feed:FnF K (top 27) "_law_feed" "_law_feed" f__law_feed cd__law_feed)
  (a__law_works:PySem.W.nsIn K mainGlobals "_law_works"=some (some (.ref f__law_works)))
  (x__law_works:FnF K (top 28) "_law_works" "_law_works" f__law_works cd__law_works)
  (a__law_until:PySem.W.nsIn K mainGlobals "_law_until"=some (some (.ref f__law_until)))
  (x__law_until:FnF K (top 29) "_law_until" "_law_until" f__law_until cd__law_until)
  (a__law_walked:PySem.W.nsIn K mainGlobals "_law_walked"=some (some (.ref f__law_walked)))
  (x__law_walked:FnF K (top 30) "_law_walked" "_law_walked" f__law_walked cd__law_walked)
  (a_law:PySem.W.nsIn K mainGlobals "law"=some (some (.ref f_law)))
  (l_law:K.lookup f_law=some ⟨oc_law,od_law,.func (PySem.W.fnOf "law" "law" (defArgs (top 31)) (defBody (top 31)) (defScope (top 31)) .none kV_law dc_law pm_law an_law cd_law ct_law),sl_law⟩)
  (c_law:PySem.W.codeIn K cd_law "law"=true)
  (k_law:PySem.W.keepIn K (.ref f_law)=true)
  (h_Relay_on_first:PySem.W.findIn K (.ref C_Relay) "on_first"=some (some (.ref f_Station_on_first)))
  (h_Thinner_on_first:PySem.W.findIn K (.ref C_Thinner) "on_first"=some (some (.ref f_Station_on_first)))
  (h_Joiner_on_first:PySem.W.findIn K (.ref C_Joiner) "on_first"=some (some (.ref f_Station_on_first)))
  (h_Sorter___init__:PySem.W.findIn K (.ref C_Sorter) "__init__"=some (some (.ref f_Station___init__)))
  (h_Sink___init__:PySem.W.findIn K (.ref C_Sink) "__init__"=some (some (.ref f_Station___init__)))
  (h_Sink_take:PySem.W.findIn K (.ref C_Sink) "take"=some (some (.ref f_Station_take)))
  (ga_Station:PySem.W.specialIn K (.ref C_Station) "__getattribute__"=some (some (.builtin "type.__getattribute__")))
  (ty_Station:PySem.W.typeIn K (.ref C_Station)=some mc_Station)
  (rd_Station:PySem.W.readsIn K C_Station mc_Station=true)
  (fc_Station___init__:PySem.W.findCls K (.ref C_Station) mc_Station "__init__"=some (.val (.ref f_Station___init__)))
  (pg_Station:PySem.W.plainGet K C_Station Str.empty=true)
  (hd_Station:PySem.W.hasDictIn K C_Station=true)
  (po_Station:PySem.W.plainOver K C_Station=true)
  (sa_Station:PySem.W.findIn K (.ref C_Station) "__setattr__"=some (some (.builtin "object.__setattr__")))
  (mk_Station:PySem.W.makesIn K C_Station=true)
  (kc_Station:PySem.W.keepIn K (.ref C_Station)=true)
  (n_Station_ways:PySem.W.findIn K (.ref C_Station) "ways"=some none)
  (n_Station_belts:PySem.W.findIn K (.ref C_Station) "belts"=some none)
  (pg_Relay:PySem.W.plainGet K C_Relay Str.empty=true)
  (hd_Relay:PySem.W.hasDictIn K C_Relay=true)
  (po_Relay:PySem.W.plainOver K C_Relay=true)
  (sa_Relay:PySem.W.findIn K (.ref C_Relay) "__setattr__"=some (some (.builtin "object.__setattr__")))
  (mk_Relay:PySem.W.makesIn K C_Relay=true)
  (kc_Relay:PySem.W.keepIn K (.ref C_Relay)=true)
  (n_Relay_ways:PySem.W.findIn K (.ref C_Relay) "ways"=some none)
  (n_Relay_belts:PySem.W.findIn K (.ref C_Relay) "belts"=some none)
  (n_Relay_more:PySem.W.findIn K (.ref C_Relay) "more"=some none)
  (pg_Sorter:PySem.W.plainGet K C_Sorter Str.empty=true)
  (hd_Sorter:PySem.W.hasDictIn K C_Sorter=true)
  (po_Sorter:PySem.W.plainOver K C_Sorter=true)
  (sa_Sorter:PySem.W.findIn K (.ref C_Sorter) "__setattr__"=some (some (.builtin "object.__setattr__")))
  (mk_Sorter:PySem.W.makesIn K C_Sorter=true)
  (kc_Sorter:PySem.W.keepIn K (.ref C_Sorter)=true)
  (n_Sorter_ways:PySem.W.findIn K (.ref C_Sorter) "ways"=some none)
  (n_Sorter_belts:PySem.W.findIn K (.ref C_Sorter) "belts"=some none)
  (pg_Thinner:PySem.W.plainGet K C_Thinner Str.empty=true)
  (hd_Thinner:PySem.W.hasDictIn K C_Thinner=true)
  (po_Thinner:PySem.W.plainOver K C_Thinner=true)
  (sa_Thinner:PySem.W.findIn K (.ref C_Thinner) "__setattr__"=some (some (.builtin "object.__setattr__")))
  (mk_Thinner:PySem.W.makesIn K C_Thinner=true)
  (kc_Thinner:PySem.W.keepIn K (.ref C_Thinner)=true)
  (n_Thinner_ways:PySem.W.findIn K (.ref C_Thinner) "ways"=some none)
  (n_Thinner_belts:PySem.W.findIn K (.ref C_Thinner) "belts"=some none)
  (n_Thinner_every:PySem.W.findIn K (.ref C_Thinner) "every"=some none)
  (n_Thinner_seen:PySem.W.findIn K (.ref C_Thinner) "seen"=some none)
  (pg_Joiner:PySem.W.plainGet K C_Joiner Str.empty=true)
  (hd_Joiner:PySem.W.hasDictIn K C_Joiner=true)
  (po_Joiner:PySem.W.plainOver K C_Joiner=true)
  (sa_Joiner:PySem.W.findIn K (.ref C_Joiner) "__setattr__"=some (some (.builtin "object.__setattr__")))
  (mk_Joiner:PySem.W.makesIn K C_Joiner=true)
  (kc_Joiner:PySem.W.keepIn K (.ref C_Joiner)=true)
  (n_Joiner_ways:PySem.W.findIn K (.ref C_Joiner) "ways"=some none)
  (n_Joiner_belts:PySem.W.findIn K (.ref C_Joiner) "belts"=some none)
  (n_Joiner_kept:PySem.W.findIn K (.ref C_Joiner) "kept"=some none)
  (pg_Sink:PySem.W.plainGet K C_Sink Str.empty=true)
  (hd_Sink:PySem.W.hasDictIn K C_Sink=true)
  (po_Sink:PySem.W.plainOver K C_Sink=true)
  (sa_Sink:PySem.W.findIn K (.ref C_Sink) "__setattr__"=some (some (.builtin "object.__setattr__")))
  (mk_Sink:PySem.W.makesIn K C_Sink=true)
  (kc_Sink:PySem.W.keepIn K (.ref C_Sink)=true)
  (n_Sink_ways:PySem.W.findIn K (.ref C_Sink) "ways"=some none)
  (n_Sink_belts:PySem.W.findIn K (.ref C_Sink) "belts"=some none)
  (aD_:PySem.W.nsIn K mainGlobals "DOOR"=some (some (.int (-1) tkD)))
  (cd_is:cd_door=.ref cD)
  (z_tuple:PySem.W.nsIn K mainGlobals "tuple"=some none)
  (z_len:PySem.W.nsIn K mainGlobals "len"=some none)
  (z_range:PySem.W.nsIn K mainGlobals "range"=some none)
  (z_list:PySem.W.nsIn K mainGlobals "list"=some none)
  (z_isinstance:PySem.W.nsIn K mainGlobals "isinstance"=some none)
  (z_bool:PySem.W.nsIn K mainGlobals "bool"=some none)
  (z_int:PySem.W.nsIn K mainGlobals "int"=some none)
  (z_any:PySem.W.nsIn K mainGlobals "any"=some none)
  (z_min:PySem.W.nsIn K mainGlobals "min"=some none)
  (z_enumerate:PySem.W.nsIn K mainGlobals "enumerate"=some none)
  (z_sorted:PySem.W.nsIn K mainGlobals "sorted"=some none)
  (z_sum:PySem.W.nsIn K mainGlobals "sum"=some none) :
  ∃ fd:FuncData,(∀(s:Shared) (v:Value),BindsTo s fd ⟨[v],[]⟩ [("script",v)])∧∀ base:Heap,K.In base→base.Ns mainGlobals mg→Tab K mg base cD PD→FnOk l.prog w K mg base CX0 7 fa fd ["script"] (spLaw PD K):=by
 have e:=hfa.symm.trans (PySem.W.mg_of X G a_law)
 cases e
 have T:Txt K mg:=⟨PySem.W.mg_none_of X G z_tuple,PySem.W.mg_none_of X G z_len,PySem.W.mg_none_of X G z_range,PySem.W.mg_none_of X G z_list,PySem.W.mg_none_of X G z_isinstance,PySem.W.mg_none_of X G z_bool,PySem.W.mg_none_of X G z_int,PySem.W.mg_none_of X G z_any,PySem.W.mg_none_of X G z_min,PySem.W.mg_none_of X G z_enumerate,PySem.W.mg_none_of X G z_sorted,PySem.W.mg_none_of X G z_sum⟩
 obtain⟨d_ways,F_ways,k_ways,e_ways⟩:=x_ways.fn
 have b_ways:=F_ways.binds (ps:=["works","station"]) (by injections)
 have m_ways:=PySem.W.mg_of X G a_ways
 obtain⟨d_leaving,F_leaving,k_leaving,e_leaving⟩:=x_leaving.fn
 have b_leaving:=F_leaving.binds (ps:=["works","station"]) (by injections)
 have m_leaving:=PySem.W.mg_of X G a_leaving
 obtain⟨d_sides,F_sides,k_sides,e_sides⟩:=x_sides.fn
 have b_sides:=F_sides.binds (ps:=["works","station"]) (by injections)
 have m_sides:=PySem.W.mg_of X G a_sides
 obtain⟨d_Station___init__,F_Station___init__,k_Station___init__,e_Station___init__⟩:=x_Station___init__.fn
 obtain⟨a_Station___init__,i_Station___init__⟩:=y_Station___init__
 have b_Station___init__:=F_Station___init__.binds (ps:=["self","ways","belts"]) (by injections)
 obtain⟨d_Station_take,F_Station_take,k_Station_take,e_Station_take⟩:=x_Station_take.fn
 obtain⟨a_Station_take,i_Station_take⟩:=y_Station_take
 have b_Station_take:=F_Station_take.binds (ps:=["self","way","piece"]) (by injections)
 obtain⟨d_Station_on_first,F_Station_on_first,k_Station_on_first,e_Station_on_first⟩:=x_Station_on_first.fn
 obtain⟨a_Station_on_first,i_Station_on_first⟩:=y_Station_on_first
 have b_Station_on_first:=F_Station_on_first.binds (ps:=["self","piece"]) (by injections)
 obtain⟨d_Relay___init__,F_Relay___init__,k_Relay___init__,e_Relay___init__⟩:=x_Relay___init__.fn
 obtain⟨a_Relay___init__,i_Relay___init__⟩:=y_Relay___init__
 have b_Relay___init__:=F_Relay___init__.binds (ps:=["self","ways","belts","more"]) (by injections)
 obtain⟨d_Relay_take,F_Relay_take,k_Relay_take,e_Relay_take⟩:=x_Relay_take.fn
 obtain⟨a_Relay_take,i_Relay_take⟩:=y_Relay_take
 have b_Relay_take:=F_Relay_take.binds (ps:=["self","way","piece"]) (by injections)
 obtain⟨d_Sorter_take,F_Sorter_take,k_Sorter_take,e_Sorter_take⟩:=x_Sorter_take.fn
 obtain⟨a_Sorter_take,i_Sorter_take⟩:=y_Sorter_take
 have b_Sorter_take:=F_Sorter_take.binds (ps:=["self","way","piece"]) (by injections)
 obtain⟨d_Thinner___init__,F_Thinner___init__,k_Thinner___init__,e_Thinner___init__⟩:=x_Thinner___init__.fn
 obtain⟨a_Thinner___init__,i_Thinner___init__⟩:=y_Thinner___init__
 have b_Thinner___init__:=F_Thinner___init__.binds (ps:=["self","ways","belts","every"]) (by injections)
 obtain⟨d_Thinner_take,F_Thinner_take,k_Thinner_take,e_Thinner_take⟩:=x_Thinner_take.fn
 obtain⟨a_Thinner_take,i_Thinner_take⟩:=y_Thinner_take
 have b_Thinner_take:=F_Thinner_take.binds (ps:=["self","way","piece"]) (by injections)
 obtain⟨d_Joiner___init__,F_Joiner___init__,k_Joiner___init__,e_Joiner___init__⟩:=x_Joiner___init__.fn
 obtain⟨a_Joiner___init__,i_Joiner___init__⟩:=y_Joiner___init__
 have b_Joiner___init__:=F_Joiner___init__.binds (ps:=["self","ways","belts"]) (by injections)
 obtain⟨d_Joiner_take,F_Joiner_take,k_Joiner_take,e_Joiner_take⟩:=x_Joiner_take.fn
 obtain⟨a_Joiner_take,i_Joiner_take⟩:=y_Joiner_take
 have b_Joiner_take:=F_Joiner_take.binds (ps:=["self","way","piece"]) (by injections)
 obtain⟨d_station_of,F_station_of,k_station_of,e_station_of⟩:=x_station_of.fn
 have b_station_of:=F_station_of.binds (ps:=["works","station"]) (by injections)
 have m_station_of:=PySem.W.mg_of X G a_station_of
 obtain⟨d_door,F_door,k_door,e_door⟩:=x_door.fn
 replace cd_is:=e_door.trans cd_is
 have b_door:=F_door.binds (ps:=["works","station"]) (by injections)
 have m_door:=PySem.W.mg_of X G a_door
 obtain⟨d_door_events,F_door_events,k_door_events,e_door_events⟩:=x_door_events.fn
 have b_door_events:=F_door_events.binds (ps:=["works","station"]) (by injections)
 have m_door_events:=PySem.W.mg_of X G a_door_events
 obtain⟨d_at_doors,F_at_doors,k_at_doors,e_at_doors⟩:=x_at_doors.fn
 have b_at_doors:=F_at_doors.binds (ps:=["works"]) (by injections)
 have m_at_doors:=PySem.W.mg_of X G a_at_doors
 obtain⟨d_arrival_of,F_arrival_of,k_arrival_of,e_arrival_of⟩:=x_arrival_of.fn
 have b_arrival_of:=F_arrival_of.binds (ps:=["works","put","time","cause"]) (by injections)
 have m_arrival_of:=PySem.W.mg_of X G a_arrival_of
 have F_rank:=fun_mk (st:=(top 18)) l_rank c_rank k_rank
 have b_rank:=F_rank.binds (ps:=["arrival"]) (by injections)
 have m_rank:=PySem.W.mg_of X G a_rank
 obtain⟨d_traced,F_traced,k_traced,e_traced⟩:=x_traced.fn
 have b_traced:=F_traced.binds (ps:=["works","until"]) (by injections)
 have m_traced:=PySem.W.mg_of X G a_traced
 obtain⟨d_run,F_run,k_run,e_run⟩:=x_run.fn
 have b_run:=F_run.binds (ps:=["works","until"]) (by injections)
 have m_run:=PySem.W.mg_of X G a_run
 obtain⟨d__law_cell_at,F__law_cell_at,k__law_cell_at,e__law_cell_at⟩:=x__law_cell_at.fn
 have b__law_cell_at:=F__law_cell_at.binds (ps:=["script","k"]) (by injections)
 have m__law_cell_at:=PySem.W.mg_of X G a__law_cell_at
 obtain⟨d__law_drawn,F__law_drawn,k__law_drawn,e__law_drawn⟩:=x__law_drawn.fn
 have b__law_drawn:=F__law_drawn.binds (ps:=["cell","k"]) (by injections)
 have m__law_drawn:=PySem.W.mg_of X G a__law_drawn
 obtain⟨d__law_number,F__law_number,k__law_number,e__law_number⟩:=x__law_number.fn
 have b__law_number:=F__law_number.binds (ps:=["drawn"]) (by injections)
 have m__law_number:=PySem.W.mg_of X G a__law_number
 obtain⟨d__law_station,F__law_station,k__law_station,e__law_station⟩:=x__law_station.fn
 have b__law_station:=F__law_station.binds (ps:=["cell","k"]) (by injections)
 have m__law_station:=PySem.W.mg_of X G a__law_station
 obtain⟨d__law_belt,F__law_belt,k__law_belt,e__law_belt⟩:=x__law_belt.fn
 have b__law_belt:=F__law_belt.binds (ps:=["cell","k","count"]) (by injections)
 have m__law_belt:=PySem.W.mg_of X G a__law_belt
 obtain⟨d__law_feed,F__law_feed,k__law_feed,e__law_feed⟩:=x__law_feed.fn
 have b__law_feed:=F__law_feed.binds (ps:=["cell","k","count"]) (by injections)
 have m__law_feed:=PySem.W.mg_of X G a__law_feed
 obtain⟨d__law_works,F__law_works,k__law_works,e__law_works⟩:=x__law_works.fn
 have b__law_works:=F__law_works.binds (ps:=["script"]) (by injections)
 have m__law_works:=PySem.W.mg_of X G a__law_works
 obtain⟨d__law_until,F__law_until,k__law_until,e__law_until⟩:=x__law_until.fn
 have b__law_until:=F__law_until.binds (ps:=["script"]) (by injections)
 have m__law_until:=PySem.W.mg_of X G a__law_until
 obtain⟨d__law_walked,F__law_walked,k__law_walked,e__law_walked⟩:=x__law_walked.fn
 have b__law_walked:=F__law_walked.binds (ps:=["works","feed","until"]) (by injections)
 have m__law_walked:=PySem.W.mg_of X G a__law_walked
 have F_law:=fun_mk (st:=(top 31)) l_law c_law k_law
 have b_law:=F_law.binds (ps:=["script"]) (by injections)
 have m_law:=PySem.W.mg_of X G a_law
 have g_Station:=PySem.W.mg_of X G aC_Station
 have cl_Station:Cls K C_Station:=⟨pg_Station,hd_Station,po_Station,sa_Station⟩
 have g_Relay:=PySem.W.mg_of X G aC_Relay
 have cl_Relay:Cls K C_Relay:=⟨pg_Relay,hd_Relay,po_Relay,sa_Relay⟩
 have g_Sorter:=PySem.W.mg_of X G aC_Sorter
 have cl_Sorter:Cls K C_Sorter:=⟨pg_Sorter,hd_Sorter,po_Sorter,sa_Sorter⟩
 have g_Thinner:=PySem.W.mg_of X G aC_Thinner
 have cl_Thinner:Cls K C_Thinner:=⟨pg_Thinner,hd_Thinner,po_Thinner,sa_Thinner⟩
 have g_Joiner:=PySem.W.mg_of X G aC_Joiner
 have cl_Joiner:Cls K C_Joiner:=⟨pg_Joiner,hd_Joiner,po_Joiner,sa_Joiner⟩
 have g_Sink:=PySem.W.mg_of X G aC_Sink
 have cl_Sink:Cls K C_Sink:=⟨pg_Sink,hd_Sink,po_Sink,sa_Sink⟩
 refine⟨PySem.W.fnOf "law" "law" (defArgs (top 31)) (defBody (top 31)) (defScope (top 31)) .none kV_law dc_law pm_law an_law cd_law ct_law,fun s v=>.of_eq rfl,fun base _ _ tb=>?_⟩
 have g_DOOR:=PySem.W.mg_of X G aD_
 have c:CsOk K ⟨C_Relay,C_Sorter,C_Thinner,C_Joiner,C_Sink⟩:=⟨⟨⟨cl_Relay,n_Relay_ways,n_Relay_belts⟩,n_Relay_more⟩,⟨cl_Sorter,n_Sorter_ways,n_Sorter_belts⟩,⟨⟨cl_Thinner,n_Thinner_ways,n_Thinner_belts⟩,n_Thinner_every,n_Thinner_seen⟩,⟨⟨cl_Joiner,n_Joiner_ways,n_Joiner_belts⟩,n_Joiner_kept⟩,⟨cl_Sink,n_Sink_ways,n_Sink_belts⟩⟩
 have L1:ClsAt l.prog w K mg base 1 C_Station "__init__" ["self","ways","belts"] (spStI K):=⟨⟨_,_,ok_stI F_Station___init__ T,⟨ga_Station,⟨_,rd_Station,fc_Station___init__⟩,k_Station___init__⟩,b_Station___init__⟩⟩
 have O1:MethAt l.prog w K mg base 1 C_Relay "on_first" ["self","piece"] (spOne K):=⟨⟨_,_,ok_one F_Station_on_first T,⟨h_Relay_on_first,i_Station_on_first,k_Station_on_first⟩,b_Station_on_first⟩,cl_Relay⟩
 have O3:MethAt l.prog w K mg base 1 C_Thinner "on_first" ["self","piece"] (spOne K):=⟨⟨_,_,ok_one F_Station_on_first T,⟨h_Thinner_on_first,i_Station_on_first,k_Station_on_first⟩,b_Station_on_first⟩,cl_Thinner⟩
 have O4:MethAt l.prog w K mg base 1 C_Joiner "on_first" ["self","piece"] (spOne K):=⟨⟨_,_,ok_one F_Station_on_first T,⟨h_Joiner_on_first,i_Station_on_first,k_Station_on_first⟩,b_Station_on_first⟩,cl_Joiner⟩
 have K1:MethAt l.prog w K mg base 2 C_Relay "take" ["self","way","piece"] (spRlT C_Relay):=⟨⟨_,_,ok_rlT F_Relay_take c.rl O1,⟨a_Relay_take,i_Relay_take,k_Relay_take⟩,b_Relay_take⟩,cl_Relay⟩
 have K2:MethAt l.prog w K mg base 1 C_Sorter "take" ["self","way","piece"] (spSrT C_Sorter):=⟨⟨_,_,ok_srT F_Sorter_take T c.so,⟨a_Sorter_take,i_Sorter_take,k_Sorter_take⟩,b_Sorter_take⟩,cl_Sorter⟩
 have K3:MethAt l.prog w K mg base 2 C_Thinner "take" ["self","way","piece"] (spThT C_Thinner):=⟨⟨_,_,ok_thT F_Thinner_take c.th O3,⟨a_Thinner_take,i_Thinner_take,k_Thinner_take⟩,b_Thinner_take⟩,cl_Thinner⟩
 have K4:MethAt l.prog w K mg base 2 C_Joiner "take" ["self","way","piece"] (spJnT C_Joiner):=⟨⟨_,_,ok_jnT F_Joiner_take T c.jn O4,⟨a_Joiner_take,i_Joiner_take,k_Joiner_take⟩,b_Joiner_take⟩,cl_Joiner⟩
 have K5:MethAt l.prog w K mg base 1 C_Sink "take" ["self","way","piece"] spNon:=⟨⟨_,_,ok_stT F_Station_take,⟨h_Sink_take,i_Station_take,k_Station_take⟩,b_Station_take⟩,cl_Sink⟩
 have TK:=take_all (cs:=⟨C_Relay,C_Sorter,C_Thinner,C_Joiner,C_Sink⟩) K1 K2 K3 K4 K5
 have M1:MkAt l.prog w K mg base 2 "Relay" C_Relay ["self","ways","belts","more"] (spRlI K):=⟨⟨_,_,ok_rlI F_Relay___init__ g_Station L1,⟨mk_Relay,a_Relay___init__,i_Relay___init__,kc_Relay⟩,b_Relay___init__⟩,g_Relay⟩
 have M2:MkAt l.prog w K mg base 1 "Sorter" C_Sorter ["self","ways","belts"] (spStI K):=⟨⟨_,_,ok_stI F_Station___init__ T,⟨mk_Sorter,h_Sorter___init__,i_Station___init__,kc_Sorter⟩,b_Station___init__⟩,g_Sorter⟩
 have M3:MkAt l.prog w K mg base 2 "Thinner" C_Thinner ["self","ways","belts","every"] (spThI K):=⟨⟨_,_,ok_thI F_Thinner___init__ g_Station L1,⟨mk_Thinner,a_Thinner___init__,i_Thinner___init__,kc_Thinner⟩,b_Thinner___init__⟩,g_Thinner⟩
 have M4:MkAt l.prog w K mg base 2 "Joiner" C_Joiner ["self","ways","belts"] (spJnI K):=⟨⟨_,_,ok_jnI F_Joiner___init__ g_Station L1,⟨mk_Joiner,a_Joiner___init__,i_Joiner___init__,kc_Joiner⟩,b_Joiner___init__⟩,g_Joiner⟩
 have M5:MkAt l.prog w K mg base 1 "Sink" C_Sink ["self","ways","belts"] (spStI K):=⟨⟨_,_,ok_stI F_Station___init__ T,⟨mk_Sink,h_Sink___init__,i_Station___init__,kc_Sink⟩,b_Station___init__⟩,g_Sink⟩
 have GW:FnAt l.prog w K mg base 1 "ways" ["works","station"] spWays:=⟨⟨_,_,ok_ways F_ways T g_DOOR,m_ways,k_ways,b_ways⟩⟩
 have GL:FnAt l.prog w K mg base 1 "leaving" ["works","station"] spLeav:=⟨⟨_,_,ok_leav F_leaving T,m_leaving,k_leaving,b_leaving⟩⟩
 have GS:FnAt l.prog w K mg base 2 "sides" ["works","station"] spSides:=⟨⟨_,_,ok_sides F_sides GW GL,m_sides,k_sides,b_sides⟩⟩
 have GO:FnAt l.prog w K mg base 4 "station_of" ["works","station"] (spSo ⟨C_Relay,C_Sorter,C_Thinner,C_Joiner,C_Sink⟩):=⟨⟨_,_,ok_so F_station_of c GS M1 M2 M3 M4 M5,m_station_of,k_station_of,b_station_of⟩⟩
 have G_door:FnAt l.prog w K mg base 1 "door" ["works","station"] (spDoor PD):=⟨⟨_,_,ok_door F_door cd_is tb T,m_door,k_door,b_door⟩⟩
 have G_door_events:FnAt l.prog w K mg base 2 "door_events" ["works","station"] (spDE PD):=⟨⟨_,_,ok_de F_door_events g_DOOR G_door,m_door_events,k_door_events,b_door_events⟩⟩
 have G_at_doors:FnAt l.prog w K mg base 3 "at_doors" ["works"] (spAtD PD):=⟨⟨_,_,ok_atd F_at_doors T G_door_events,m_at_doors,k_at_doors,b_at_doors⟩⟩
 have G_arrival_of:FnAt l.prog w K mg base 1 "arrival_of" ["works","put","time","cause"] spArr:=⟨⟨_,_,ok_arr F_arrival_of,m_arrival_of,k_arrival_of,b_arrival_of⟩⟩
 have h_rank:∀ A:Around,A.depth < recursionLimit→PairFn l.prog w K A.in1 f_rank:=fun A hA=>pair_fn (A:=A.in1) l_rank c_rank rfl rfl rfl rfl (by decide) hA rfl (fun _ _=>.of_eq rfl)
 have G_traced:FnAt l.prog w K mg base 5 "traced" ["works","until"] (spTr PD):=⟨⟨_,_,ok_tr F_traced T c GO G_at_doors G_arrival_of m_rank h_rank TK,m_traced,k_traced,b_traced⟩⟩
 have G_run:FnAt l.prog w K mg base 6 "run" ["works","until"] (spRun PD):=⟨⟨_,_,ok_run F_run G_traced,m_run,k_run,b_run⟩⟩
 have G__law_cell_at:FnAt l.prog w K mg base 1 "_law_cell_at" ["script","k"] (spCell K):=⟨⟨_,_,ok_cell F__law_cell_at T,m__law_cell_at,k__law_cell_at,b__law_cell_at⟩⟩
 have G__law_drawn:FnAt l.prog w K mg base 1 "_law_drawn" ["cell","k"] spDrawn:=⟨⟨_,_,ok_drn F__law_drawn,m__law_drawn,k__law_drawn,b__law_drawn⟩⟩
 have G__law_number:FnAt l.prog w K mg base 1 "_law_number" ["drawn"] spNumb:=⟨⟨_,_,ok_nmb F__law_number,m__law_number,k__law_number,b__law_number⟩⟩
 have G__law_station:FnAt l.prog w K mg base 2 "_law_station" ["cell","k"] spSta:=⟨⟨_,_,ok_sta F__law_station T G__law_drawn G__law_number,m__law_station,k__law_station,b__law_station⟩⟩
 have G__law_belt:FnAt l.prog w K mg base 2 "_law_belt" ["cell","k","count"] spBelt:=⟨⟨_,_,ok_blt F__law_belt G__law_drawn,m__law_belt,k__law_belt,b__law_belt⟩⟩
 have G__law_feed:FnAt l.prog w K mg base 2 "_law_feed" ["cell","k","count"] spFeed:=⟨⟨_,_,ok_fed F__law_feed G__law_drawn G__law_number,m__law_feed,k__law_feed,b__law_feed⟩⟩
 have G__law_works:FnAt l.prog w K mg base 3 "_law_works" ["script"] (spWks K):=⟨⟨_,_,ok_wks F__law_works T G__law_cell_at G__law_drawn G__law_station G__law_belt G__law_feed,m__law_works,k__law_works,b__law_works⟩⟩
 have G__law_until:FnAt l.prog w K mg base 2 "_law_until" ["script"] (spUntil K):=⟨⟨_,_,ok_unt F__law_until G__law_cell_at G__law_drawn,m__law_until,k__law_until,b__law_until⟩⟩
 have G__law_walked:FnAt l.prog w K mg base 1 "_law_walked" ["works","feed","until"] spWlk:=⟨⟨_,_,ok_wlk F__law_walked T,m__law_walked,k__law_walked,b__law_walked⟩⟩
 exact ok_law F_law T G__law_works G__law_until G_run G__law_walked
theorem walk {l:PySem.W.OpenLaw} {q:Program} {loose:List Str} {XP:(Str→Option Value)→Heap→Prop} {YP:World→Heap→Prop} {d:DefRec} {K:Params→PySem.W.Frag} {ts:List Addr} {cD PD:Addr} (hn:l.most=some 63) (hdf:d.params.defaults=[])
  (hY:∀(w:World) (h:Heap),YP w h→(K w.params).In h) (hYt:∀(w:World) (h:Heap),YP w h→∀ P ∈ ts,h.get? P=some (PySem.W.tabObj #[]))
  (_:∀ w:World,PySem.W.tabIn (K w.params) "door"=some (cD,PD))
  (hN1:PD ∈ ts∧∀ w:World,PySem.W.codeHdIn (K w.params) cD PD=true∧(K w.params).lookup PD=none)
  (F:∀(w:World) (mg:Str→Option Value) (fa:Addr) (h:Heap),(K w.params).In h→h.Ns mainGlobals mg→mg d.name=some (.ref fa) →
   ∃ fd:FuncData,(∀(s:Shared) (u:Value),BindsTo s fd ⟨[u],[]⟩ [("script",u)])∧∀ base:Heap,(K w.params).In base→base.Ns mainGlobals mg→Tab (K w.params) mg base cD PD→FnOk l.prog w (K w.params) mg base CX0 7 fa fd ["script"] (spLaw PD (K w.params))) :
  PySem.W.WalkO q loose XP YP l.row.toRowW d [] (fun f vs=>PySem.call f vs):=by
 refine Att.attach_call hn hdf fun w s₀ s₁ mg mb fa o pm cd doc a vs ns G Y ho hd hcd hmg hobj hints hlen hg=>?_
 have KX:=hY w _ Y
 obtain⟨fd,hb,hF⟩:=F w mg fa _ KX G.T.g hmg
 have mk:∀ {c P:Addr},P ∈ ts→PySem.W.codeHdIn (K w.params) c P=true→(K w.params).lookup P=none→Tab (K w.params) mg s₁.heap c P∧s₁.heap.get? P=some (PySem.W.tabObj #[])∧(K w.params).lookup P=none:=fun {c P} h1 h2 h3=>by
  have hP:=hYt w _ Y P h1
  obtain⟨bm,ob,b1,b2,b3,b4,b5,b6⟩:=G.T.bmain
  have hbP:bm ≠ P:=fun q=>by rw[q,hP] at b3; cases b3; cases b4
  have hbG:bm ≠ mainGlobals:=fun q=>by
   obtain⟨o,es,ep,e,hd,_⟩:=G.T.g
   rw[q,e] at b3; cases b3; rw[hd] at b6; cases b6
  exact⟨⟨PySem.W.codeHd_of_K KX h2,⟨bm,ob,b1,b2,hbG,hbP,b3,b4,b5,b6⟩⟩,hP,h3⟩
 refine L2.law_callT (k:=7) (x:="script") (CX:=CX0) (sp:=spLaw PD (K w.params)) (tabs:=[(cD,PD)]) KX G.T.g G.T.b G.T.builtins G.T.nolimit hg hobj hints (yA hlen (by decide)) ⟨rfl,by decide,by decide⟩ (fun t ht=>?_) (fun base kb nb hTb=>hF base kb nb (hTb _ zN)) hb (fun H hO hS=>?_) fun H e s' z=>z
 ·rw[zR.mp ht]; exact mk hN1.1 (hN1.2 w).1 (hN1.2 w).2
 ·refine⟨a,ns,rfl,hS,hlen,.inl ?_,fun _=>rfl⟩
  rcases hO PD with ⟨_,h⟩|⟨h,_⟩
  ·exact h
  ·exact absurd zN h
end Oc
namespace Oc
open PySem PySem.W PyProof.Rows PySem.Calls
abbrev pW:Program:=PySem.Challenge.pw_ownclocks_k16_each_piece_walked
noncomputable def hEnv:Env:={ scope:=pW.main.scope,locals:=mainNs,globals:=mainNs,cells:=[],code:=.ref 13,frame:=some 14 }
noncomputable def hB:List Stmt:=behindTheImports pW
noncomputable def hC:Code:=.body hB hEnv
noncomputable def hF:List Frame:=[topFrame ⟨0,0,0,0⟩]
noncomputable def o11:Obj:=⟨.type "tuple",none,.seq #[] 0,#[]⟩
noncomputable def o12:Obj:=⟨.none,none,.fields #[],#[]⟩
noncomputable def o13:Obj:=⟨.type "code",none,.fields #[.str "<module>" 182,.str "<module>" 183,.str "/claim/cut.py" 184,.int 1 0,.int 0 0,.int 0 0,.int 0 0,.int 0 0,.ref 11,.bool false,.int 181 0,.ref 12,.none,.none,.none,.none,.int 185 0,.int 1 0,.str "/claim/cut.py" 186],#[]⟩
noncomputable def o14:Obj:=⟨.type "frame",none,.plain,#[some (.ref 13),some (.ref 3),some (.ref 3),none,some (.str "__main__" 164),none,some (.ref 0)]⟩
noncomputable def hT (P:Params):BT:=(.node (boot_o_0 P) (.node (boot_o_1 P) (.node (boot_o_3 P) (.node (boot_o_7 P) .nil .nil) (.node o11 .nil .nil)) (.node (boot_o_5 P) (.node (boot_o_9 P) .nil .nil) (.node o13 .nil .nil))) (.node (boot_o_2 P) (.node (boot_o_4 P) (.node (boot_o_8 P) .nil .nil) (.node o12 .nil .nil)) (.node (boot_o_6 P) (.node (boot_o_10 P) .nil .nil) (.node o14 .nil .nil))))
noncomputable def hS (w:World) (os:OsState):SharedT:=⟨hT w.params,15,(boot_heap w.params).life,#[],boot_drawn,187,os⟩
theorem h_fin (w:World) (s:SharedT) (q:Pos):topRun treeTable pW w 11 (some (.ref 6)) 2 s.abs ⟨doneF .next,hC,q,hF⟩=some s.abs:=rfl
theorem h_block (w:World) (os:OsState):segRunT treeTable pW w 11 (some (.ref 6)) 1 1 (hS w os) (blockOf hB hEnv hC ⟨0,0,0,0⟩ hF)=some (.next,hS w os,hC,⟨0,0,0,0⟩):=by
 kernel_rfl
theorem h_pre (w:World) (os:OsState):topGo treeTable pW w 11 (some (.ref 6)) 12 ⟨boot_heap w.params,#[],boot_drawn,boot_toks,os⟩ (topStub pW)=some ((hS w os).abs,⟨denote treeTable hC,hC,⟨0,0,0,0⟩,hF⟩):=by
 kernel_rfl
noncomputable def dE (P:Params) (k:Str) (t:Nat) (v:Value):DictEntry:=⟨PyData.keyHash P k,.str k t,v⟩
noncomputable def cO (nm ql:Str) (t ln ac fl:Nat) (tp:Addr) (b:Bool) (tb:Addr) (x y z:Value) (T:Nat):Obj:=⟨.type "code",none,.fields #[.str nm t,.str ql (t + 1),.str "/claim/cut.py" (t + 2),.int ln 0,.int ac 0,.int 0 0,.int 0 0,.int fl 0,.ref tp,.bool b,.int 181 0,.ref tb,.none,x,y,z,.int T 0,.int ln 0,.str "/claim/cut.py" (T + 1)],#[]⟩
noncomputable def fO (s:Stmt) (nm ql:Str) (pm cd:Value):Obj:=⟨.type "function",none,.func (fnOf nm ql (L2.defArgs s) (L2.defBody s) (L2.defScope s) .none .none .none pm none cd .none),#[]⟩
noncomputable def cL (nm:Str) (bs mr:List Value) (ns:Addr) (ql:Str) (hd:Bool) (sub:List Value):ClassData:={ name:=nm,bases:=bs,mro:=mr,ns:=ns,qualname:=ql,hasDict:=hd,subclasses:=sub }
noncomputable def hK:Params→Frag:=fun P=>(nat_lit 2,⟨.none,none,.dict #[] 0,#[]⟩) ::
 (nat_lit 3,⟨.type "dict",none,.dict #[dE P "__name__" 165 (.str "law_ownclocks_k16_each_piece_walked" 476),dE P "__doc__" 166 (.none),dE P "__package__" 167 (.none),dE P "__loader__" 168 (.builtin "__main__.__loader__#opaque"),dE P "__spec__" 169 (.none),dE P "__annotations__" 170 (.ref 6),dE P "__builtins__" 171 (.ref 4),dE P "__file__" 173 (.str "/claim/cut.py" 172),dE P "__cached__" 174 (.none),dE P "DOOR" 191 (.int (-1) 190),dE P "ways" 197 (.ref 19),dE P "door" 203 (.ref 24),dE P "door_events" 209 (.ref 29),dE P "leaving" 215 (.ref 34),dE P "sides" 223 (.ref 41),dE P "Station" 273 (.ref 72),dE P "Relay" 309 (.ref 100),dE P "Sorter" 334 (.ref 119),dE P "Thinner" 371 (.ref 145),dE P "Joiner" 404 (.ref 169),dE P "Sink" 420 (.ref 181),dE P "station_of" 431 (.ref 190),dE P "at_doors" 443 (.ref 197),dE P "arrival_of" 454 (.ref 204),dE P "rank" 461 (.ref 211),dE P "traced" 467 (.ref 216),dE P "run" 475 (.ref 223),dE P "_law_cell_at" 485 (.ref 230),dE P "_law_drawn" 494 (.ref 237),dE P "_law_number" 501 (.ref 244),dE P "_law_station" 510 (.ref 251),dE P "_law_belt" 520 (.ref 258),dE P "_law_feed" 530 (.ref 265),dE P "_law_works" 536 (.ref 270),dE P "_law_until" 544 (.ref 277),dE P "_law_walked" 550 (.ref 282),dE P "law" 556 (.ref 287)] 37,#[]⟩) ::
 (nat_lit 13,cO "<module>" "<module>" 182 1 0 0 11 false 12 (.none) (.none) (.none) 185) ::
 (nat_lit 18,cO "ways" "ways" 192 3 2 3 15 true 16 (.none) (.none) (.ref 17) 195) ::
 (nat_lit 19,fO (top 2) "ways" "ways" (.str "ownclocks.works" 187) (.ref 18)) ::
 (nat_lit 23,cO "door" "door" 198 7 2 3 20 true 21 (.none) (.none) (.ref 22) 201) ::
 (nat_lit 24,fO (top 3) "door" "door" (.str "ownclocks.works" 187) (.ref 23)) ::
 (nat_lit 28,cO "door_events" "door_events" 204 10 2 3 25 true 26 (.none) (.none) (.ref 27) 207) ::
 (nat_lit 29,fO (top 4) "door_events" "door_events" (.str "ownclocks.works" 187) (.ref 28)) ::
 (nat_lit 33,cO "leaving" "leaving" 210 12 2 3 30 true 31 (.none) (.none) (.ref 32) 213) ::
 (nat_lit 34,fO (top 5) "leaving" "leaving" (.str "ownclocks.works" 187) (.ref 33)) ::
 (nat_lit 40,cO "sides" "sides" 216 14 2 3 35 true 36 (.ref 37) (.ref 38) (.ref 39) 221) ::
 (nat_lit 41,fO (top 6) "sides" "sides" (.str "ownclocks.works" 187) (.ref 40)) ::
 (nat_lit 47,cO "Station" "Station" 228 17 0 0 45 false 46 (.none) (.none) (.none) 231) ::
 (nat_lit 54,cO "__init__" "Station.__init__" 238 19 3 3 49 true 50 (.ref 51) (.ref 52) (.ref 53) 244) ::
 (nat_lit 55,fO (L2.inClass (top 8) 0) "__init__" "Station.__init__" (.str "ownclocks.kinds" 224) (.ref 54)) ::
 (nat_lit 61,cO "take" "Station.take" 247 23 3 3 56 true 57 (.ref 58) (.ref 59) (.ref 60) 253) ::
 (nat_lit 62,fO (L2.inClass (top 8) 1) "take" "Station.take" (.str "ownclocks.kinds" 224) (.ref 61)) ::
 (nat_lit 68,cO "on_first" "Station.on_first" 256 26 2 3 63 true 64 (.ref 65) (.ref 66) (.ref 67) 261) ::
 (nat_lit 69,fO (L2.inClass (top 8) 2) "on_first" "Station.on_first" (.str "ownclocks.kinds" 224) (.ref 68)) ::
 (nat_lit 71,⟨.type "dict",none,.dict #[dE P "__module__" 233 (.str "ownclocks.kinds" 224),dE P "__firstlineno__" 237 (.int 17 236),dE P "__init__" 246 (.ref 55),dE P "take" 255 (.ref 62),dE P "on_first" 263 (.ref 69),dE P "__static_attributes__" 266 (.ref 70),dE P "__dict__" 268 (.ref 73),dE P "__weakref__" 270 (.ref 74),dE P "__doc__" 271 (.none)] 4,#[]⟩) ::
 (nat_lit 72,⟨.type "type",none,.cls (cL "Station" [.type "object"] [.ref 72,.type "object"] 71 "Station" true [.ref 100,.ref 119,.ref 145,.ref 169,.ref 181]),#[none,none,some (.str "Station" 226),some (.str "Station" 234),some (.builtin "object.__new__"),some (.bool true)]⟩) ::
 (nat_lit 73,⟨.type "getset_descriptor",none,.fields #[.str "__dict__" 267,.ref 72,.builtin "function.__dict__",.builtin "function.__dict__#set"],#[]⟩) ::
 (nat_lit 74,⟨.type "getset_descriptor",none,.fields #[.str "__weakref__" 269,.ref 72,.builtin "ExceptionGroup.__weakref__",.none],#[]⟩) ::
 (nat_lit 77,⟨.type "tuple",none,.seq #[.ref 72] 0,#[]⟩) ::
 (nat_lit 82,cO "Relay" "Relay" 276 28 0 0 80 false 81 (.none) (.none) (.none) 279) ::
 (nat_lit 89,cO "__init__" "Relay.__init__" 286 30 4 3 84 true 85 (.ref 86) (.ref 87) (.ref 88) 293) ::
 (nat_lit 90,fO (L2.inClass (top 9) 0) "__init__" "Relay.__init__" (.str "ownclocks.kinds" 224) (.ref 89)) ::
 (nat_lit 96,cO "take" "Relay.take" 296 34 3 3 91 true 92 (.ref 93) (.ref 94) (.ref 95) 302) ::
 (nat_lit 97,fO (L2.inClass (top 9) 1) "take" "Relay.take" (.str "ownclocks.kinds" 224) (.ref 96)) ::
 (nat_lit 99,⟨.type "dict",none,.dict #[dE P "__module__" 281 (.str "ownclocks.kinds" 224),dE P "__firstlineno__" 285 (.int 28 284),dE P "__init__" 295 (.ref 90),dE P "take" 304 (.ref 97),dE P "__static_attributes__" 306 (.ref 98),dE P "__doc__" 307 (.none)] 2,#[]⟩) ::
 (nat_lit 100,⟨.type "type",none,.cls (cL "Relay" [.ref 72] [.ref 100,.ref 72,.type "object"] 99 "Relay" true []),#[some (.ref 77),none,some (.str "Relay" 274),some (.str "Relay" 282),some (.builtin "object.__new__"),some (.bool true)]⟩) ::
 (nat_lit 103,⟨.type "tuple",none,.seq #[.ref 72] 0,#[]⟩) ::
 (nat_lit 108,cO "Sorter" "Sorter" 312 36 0 0 106 false 107 (.none) (.none) (.none) 315) ::
 (nat_lit 115,cO "take" "Sorter.take" 322 38 3 3 110 true 111 (.ref 112) (.ref 113) (.ref 114) 328) ::
 (nat_lit 116,fO (L2.inClass (top 10) 0) "take" "Sorter.take" (.str "ownclocks.kinds" 224) (.ref 115)) ::
 (nat_lit 118,⟨.type "dict",none,.dict #[dE P "__module__" 317 (.str "ownclocks.kinds" 224),dE P "__firstlineno__" 321 (.int 36 320),dE P "take" 330 (.ref 116),dE P "__static_attributes__" 331 (.ref 117),dE P "__doc__" 332 (.none)] 2,#[]⟩) ::
 (nat_lit 119,⟨.type "type",none,.cls (cL "Sorter" [.ref 72] [.ref 119,.ref 72,.type "object"] 118 "Sorter" true []),#[some (.ref 103),none,some (.str "Sorter" 310),some (.str "Sorter" 318),some (.builtin "object.__new__"),some (.bool true)]⟩) ::
 (nat_lit 122,⟨.type "tuple",none,.seq #[.ref 72] 0,#[]⟩) ::
 (nat_lit 127,cO "Thinner" "Thinner" 337 42 0 0 125 false 126 (.none) (.none) (.none) 340) ::
 (nat_lit 134,cO "__init__" "Thinner.__init__" 347 44 4 3 129 true 130 (.ref 131) (.ref 132) (.ref 133) 354) ::
 (nat_lit 135,fO (L2.inClass (top 11) 0) "__init__" "Thinner.__init__" (.str "ownclocks.kinds" 224) (.ref 134)) ::
 (nat_lit 141,cO "take" "Thinner.take" 357 49 3 3 136 true 137 (.ref 138) (.ref 139) (.ref 140) 363) ::
 (nat_lit 142,fO (L2.inClass (top 11) 1) "take" "Thinner.take" (.str "ownclocks.kinds" 224) (.ref 141)) ::
 (nat_lit 144,⟨.type "dict",none,.dict #[dE P "__module__" 342 (.str "ownclocks.kinds" 224),dE P "__firstlineno__" 346 (.int 42 345),dE P "__init__" 356 (.ref 135),dE P "take" 365 (.ref 142),dE P "__static_attributes__" 368 (.ref 143),dE P "__doc__" 369 (.none)] 2,#[]⟩) ::
 (nat_lit 145,⟨.type "type",none,.cls (cL "Thinner" [.ref 72] [.ref 145,.ref 72,.type "object"] 144 "Thinner" true []),#[some (.ref 122),none,some (.str "Thinner" 335),some (.str "Thinner" 343),some (.builtin "object.__new__"),some (.bool true)]⟩) ::
 (nat_lit 148,⟨.type "tuple",none,.seq #[.ref 72] 0,#[]⟩) ::
 (nat_lit 153,cO "Joiner" "Joiner" 374 54 0 0 151 false 152 (.none) (.none) (.none) 377) ::
 (nat_lit 160,cO "__init__" "Joiner.__init__" 384 56 3 3 155 true 156 (.ref 157) (.ref 158) (.ref 159) 391) ::
 (nat_lit 161,fO (L2.inClass (top 12) 0) "__init__" "Joiner.__init__" (.str "ownclocks.kinds" 224) (.ref 160)) ::
 (nat_lit 165,cO "take" "Joiner.take" 394 62 3 3 162 true 163 (.none) (.none) (.ref 164) 397) ::
 (nat_lit 166,fO (L2.inClass (top 12) 1) "take" "Joiner.take" (.str "ownclocks.kinds" 224) (.ref 165)) ::
 (nat_lit 168,⟨.type "dict",none,.dict #[dE P "__module__" 379 (.str "ownclocks.kinds" 224),dE P "__firstlineno__" 383 (.int 54 382),dE P "__init__" 393 (.ref 161),dE P "take" 399 (.ref 166),dE P "__static_attributes__" 401 (.ref 167),dE P "__doc__" 402 (.none)] 2,#[]⟩) ::
 (nat_lit 169,⟨.type "type",none,.cls (cL "Joiner" [.ref 72] [.ref 169,.ref 72,.type "object"] 168 "Joiner" true []),#[some (.ref 148),none,some (.str "Joiner" 372),some (.str "Joiner" 380),some (.builtin "object.__new__"),some (.bool true)]⟩) ::
 (nat_lit 172,⟨.type "tuple",none,.seq #[.ref 72] 0,#[]⟩) ::
 (nat_lit 177,cO "Sink" "Sink" 407 70 0 0 175 false 176 (.none) (.none) (.none) 410) ::
 (nat_lit 180,⟨.type "dict",none,.dict #[dE P "__module__" 412 (.str "ownclocks.kinds" 224),dE P "__firstlineno__" 416 (.int 70 415),dE P "__static_attributes__" 417 (.ref 179),dE P "__doc__" 418 (.none)] 2,#[]⟩) ::
 (nat_lit 181,⟨.type "type",none,.cls (cL "Sink" [.ref 72] [.ref 181,.ref 72,.type "object"] 180 "Sink" true []),#[some (.ref 172),none,some (.str "Sink" 405),some (.str "Sink" 413),some (.builtin "object.__new__"),some (.bool true)]⟩) ::
 (nat_lit 189,cO "station_of" "station_of" 421 72 2 3 184 true 185 (.ref 186) (.ref 187) (.ref 188) 429) ::
 (nat_lit 190,fO (top 14) "station_of" "station_of" (.str "ownclocks.kinds" 224) (.ref 189)) ::
 (nat_lit 196,cO "at_doors" "at_doors" 434 86 1 3 191 true 192 (.ref 193) (.ref 194) (.ref 195) 441) ::
 (nat_lit 197,fO (top 16) "at_doors" "at_doors" (.str "ownclocks.clock" 432) (.ref 196)) ::
 (nat_lit 203,cO "arrival_of" "arrival_of" 444 92 4 3 198 true 199 (.ref 200) (.ref 201) (.ref 202) 452) ::
 (nat_lit 204,fO (top 17) "arrival_of" "arrival_of" (.str "ownclocks.clock" 432) (.ref 203)) ::
 (nat_lit 210,cO "rank" "rank" 455 95 1 3 205 true 206 (.ref 207) (.ref 208) (.ref 209) 459) ::
 (nat_lit 211,fO (top 18) "rank" "rank" (.str "ownclocks.clock" 432) (.ref 210)) ::
 (nat_lit 215,cO "traced" "traced" 462 97 2 3 212 true 213 (.none) (.none) (.ref 214) 465) ::
 (nat_lit 216,fO (top 19) "traced" "traced" (.str "ownclocks.clock" 432) (.ref 215)) ::
 (nat_lit 222,cO "run" "run" 468 115 2 3 217 true 218 (.ref 219) (.ref 220) (.ref 221) 473) ::
 (nat_lit 223,fO (top 20) "run" "run" (.str "ownclocks.clock" 432) (.ref 222)) ::
 (nat_lit 229,cO "_law_cell_at" "_law_cell_at" 478 118 2 3 224 true 225 (.ref 226) (.ref 227) (.ref 228) 483) ::
 (nat_lit 230,fO (top 22) "_law_cell_at" "_law_cell_at" (.str "law_ownclocks_k16_each_piece_walked" 476) (.ref 229)) ::
 (nat_lit 236,cO "_law_drawn" "_law_drawn" 486 122 2 3 231 true 232 (.ref 233) (.ref 234) (.ref 235) 492) ::
 (nat_lit 237,fO (top 23) "_law_drawn" "_law_drawn" (.str "law_ownclocks_k16_each_piece_walked" 476) (.ref 236)) ::
 (nat_lit 243,cO "_law_number" "_law_number" 495 126 1 3 238 true 239 (.ref 240) (.ref 241) (.ref 242) 499) ::
 (nat_lit 244,fO (top 24) "_law_number" "_law_number" (.str "law_ownclocks_k16_each_piece_walked" 476) (.ref 243)) ::
 (nat_lit 250,cO "_law_station" "_law_station" 502 130 2 3 245 true 246 (.ref 247) (.ref 248) (.ref 249) 508) ::
 (nat_lit 251,fO (top 25) "_law_station" "_law_station" (.str "law_ownclocks_k16_each_piece_walked" 476) (.ref 250)) ::
 (nat_lit 257,cO "_law_belt" "_law_belt" 511 135 3 3 252 true 253 (.ref 254) (.ref 255) (.ref 256) 518) ::
 (nat_lit 258,fO (top 26) "_law_belt" "_law_belt" (.str "law_ownclocks_k16_each_piece_walked" 476) (.ref 257)) ::
 (nat_lit 264,cO "_law_feed" "_law_feed" 521 140 3 3 259 true 260 (.ref 261) (.ref 262) (.ref 263) 528) ::
 (nat_lit 265,fO (top 27) "_law_feed" "_law_feed" (.str "law_ownclocks_k16_each_piece_walked" 476) (.ref 264)) ::
 (nat_lit 269,cO "_law_works" "_law_works" 531 145 1 3 266 true 267 (.none) (.none) (.ref 268) 534) ::
 (nat_lit 270,fO (top 28) "_law_works" "_law_works" (.str "law_ownclocks_k16_each_piece_walked" 476) (.ref 269)) ::
 (nat_lit 276,cO "_law_until" "_law_until" 537 157 1 3 271 true 272 (.ref 273) (.ref 274) (.ref 275) 542) ::
 (nat_lit 277,fO (top 29) "_law_until" "_law_until" (.str "law_ownclocks_k16_each_piece_walked" 476) (.ref 276)) ::
 (nat_lit 281,cO "_law_walked" "_law_walked" 545 164 3 3 278 true 279 (.none) (.none) (.ref 280) 548) ::
 (nat_lit 282,fO (top 30) "_law_walked" "_law_walked" (.str "law_ownclocks_k16_each_piece_walked" 476) (.ref 281)) ::
 (nat_lit 286,cO "law" "law" 551 181 1 3 283 true 284 (.none) (.none) (.ref 285) 554) ::
 (nat_lit 287,fO (top 31) "law" "law" (.str "law_ownclocks_k16_each_piece_walked" 476) (.ref 286))::[]
noncomputable def hA:List Addr:=[2,3,13,18,19,23,24,28,29,33,34,40,41,47,54,55,61,62,68,69,71,72,73,74,77,82,89,90,96,97,99,100,103,108,115,116,118,119,122,127,134,135,141,142,144,145,148,153,160,161,165,166,168,169,172,177,180,181,189,190,196,197,203,204,210,211,215,216,222,223,229,230,236,237,243,244,250,251,257,258,264,265,269,270,276,277,281,282,286,287]
noncomputable def hTs:List Addr:=[21]
noncomputable def hL:List Str:=["DOOR","ways","door","door_events","leaving","sides","Station","Relay","Sorter","Thinner","Joiner","Sink","station_of","at_doors","arrival_of","rank","traced","run","_law_cell_at","_law_drawn","_law_number","_law_station","_law_belt","_law_feed","_law_works","_law_until","_law_walked"]
noncomputable def hQ:Program:={ pW with main:={ pW.main with body:=[top 31] } }
noncomputable def hX (s:Shared):Bool:=recOk [] s
noncomputable def hYf (s:Shared):List (Option Obj) × List (Option Obj):=(hA.map s.heap.get?,hTs.map s.heap.get?)
noncomputable def hYa (w:World):List (Option Obj) × List (Option Obj):=((hK w.params).map fun p=>some p.2,hTs.map fun _=>some (tabObj #[]))
noncomputable def hLook (w:World) (s:Shared):=(staticsOk (importedModules pW.main.body) (boot_heap w.params) s.heap && namesBound pW s.heap && gensDone s && laidKept (boot_heap w.params) s.heap,openSeen hQ hL (importedModules pW.main.body) hX true s,hYf s)
theorem h_run (w:World) (os:OsState):(segRunT treeTable pW w 11 (some (.ref 6)) 1 2244 (hS w os) (piecesOf hB hEnv hC ⟨0,0,0,0⟩ hF)).map (fun r=>(r.1,r.2.2.1,r.2.2.2,hLook w r.2.1.abs))=some (.next,hC,⟨181,0,192,38⟩,true,openGood hQ hL,hYa w):=by
 unfold hLook
 rw[Fast.te10110043849684766642,Fast.te14364793385576792824,Fast.te4187177175401517315,Fast.te5923862056798008813]
 kernel_rfl
theorem left_run {p q:Program} {loose:List Str} {Xt:Shared→Bool} {α:Type} {Yf:Shared→α} {Ya:World→α} {N:Nat} {g0:Bool} {H₀:Params→Heap} {gs₀:Array GenState} {d₀:Drawn} {k₀ m₀:Nat} {ann:Option Value} {M:Nat}
  (open_:∀ w:World,(fencedOpening treeTable p w N).map (fun s=>(s.heap,s.gens,s.drawn,s.toks))=some (H₀ w.params,gs₀,d₀,k₀))
  (size:∀ w:World,((H₀ w.params).isNs mainGlobals && gs₀.size == 0,(H₀ w.params).objs.size,(H₀ w.params).nsMap mainGlobals "__annotations__")=(true,m₀,ann)) (le:Nat.ble M N=true)
  (run:∀(w:World) (os:OsState),∃ s₁,topRun treeTable p w m₀ ann M ⟨H₀ w.params,gs₀,d₀,k₀,os⟩ (topStub p)=some s₁ ∧
   (staticsOk (importedModules p.main.body) (H₀ w.params) s₁.heap && namesBound p s₁.heap && gensDone s₁ && laidKept (H₀ w.params) s₁.heap)=true∧openSeen q loose (importedModules p.main.body) Xt g0 s₁=openGood q loose∧Yf s₁=Ya w):LeftO p q loose Xt Yf Ya N g0:=fun w=>by
 obtain⟨⟨h,gs,d,k,os⟩,e,e'⟩:=qG.mp (open_ w)
 obtain⟨rfl,rfl,rfl,rfl⟩:h=H₀ w.params∧gs=gs₀∧d=d₀∧k=k₀:=by simpa using e'
 obtain⟨z1,z2,z3⟩:_∧_∧_:=by simpa only [Prod.mk.injEq] using size w
 obtain⟨s₁,hr,l1,l2,l3⟩:=run w os
 have r:=topRun_mono (N - M) _ _ _ _ hr
 rw[show M + (N - M)=N by have:=Nat.le_of_ble_eq_true le; omega] at r
 have t:topFrom treeTable p w N ⟨H₀ w.params,gs,d,k,os⟩=some s₁:=by
  unfold topFrom
  dsimp only
  rw[z1,z2,z3,r]
  show(match staticsOk (importedModules p.main.body) (H₀ w.params) s₁.heap && namesBound p s₁.heap && gensDone s₁ && laidKept (H₀ w.params) s₁.heap with|true=>_|false=>_)=_
  rw[l1]
 unfold openEnds
 rw[e]
 show(topFrom treeTable p w N _).map _=_
 rw[t]
 exact congrArg some (Prod.ext l2 l3)
theorem h_left:LeftO pW hQ hL hX hYf hYa 4612:=by
 refine left_run (M:=12 + (1 + (2244 + 2))) (boot_open (by kernel_rfl) rfl (fun s=>rfl)) (m₀:=11) (ann:=some (.ref 6)) (fun w=>by kernel_rfl) rfl fun w os=>?_
 obtain⟨⟨f,s',c,q⟩,e,e'⟩:=qG.mp (h_run w os)
 simp only [Prod.mk.injEq] at e'
 obtain⟨rfl,rfl,rfl,l⟩:=e'
 have k:=piece_app (rest:=[]) (segRun_of e) (piece_nil (h_fin w s' _))
 rw[yF] at k
 have k2:=go_top (h_pre w os) (piece_block (segRun_of (h_block w os)) k)
 unfold hLook at l
 simp only [Prod.mk.injEq] at l
 exact⟨_,k2,l.1,l.2.1,l.2.2⟩
theorem walkX_H {q:Program} {loose:List Str} {XP:(Str→Option Value)→Heap→Prop} {r:RowW} {d:DefRec} {kwd:List (Str × PySem.Expr)} {run:Value→List Value→Sem Value} {K:Params→Frag} {as ts:List Addr} (e:∀ P,as=(K P).map (·.1))
  (h:WalkO q loose XP (fun w h=>InK K w h∧∀ P ∈ ts,h.get? P=some (tabObj #[])) r d kwd run):WalkX q loose XP (fun s=>(as.map s.heap.get?,ts.map s.heap.get?)) (fun w=>((K w.params).map fun p=>some p.2,ts.map fun _=>some (tabObj #[]))) r d kwd run:=by
 intro w s₀ s₁ mg mb G y fa o pm cd doc dV kV ho hd hcd hD hmg hg args vals as' L hpre hlay hrd hwl hlo
 exact h w s₀ s₁ mg mb G ⟨InK.keeps w _ _ (InK.of e w s₀ (congrArg Prod.fst y)) L.keeps,fun P hP=>L.keeps _ _ (List.map_inj_left.mp (congrArg Prod.snd y) P hP)⟩ fa o pm cd doc dV kV ho hd hcd hD hmg hg args vals as' hpre hlay hrd hwl hlo
end Oc
open PySem PySem.W PySem.W.X PyProof.Rows
set_option maxRecDepth 100000 in
set_option maxHeartbeats 0 in
theorem PySem.Challenge.cw_ownclocks_k16_each_piece_walked_holds : PySem.Challenge.rw_ownclocks_k16_each_piece_walked.Holds := by
 refine holds_law (by kernel_rfl) fun said=>?_
 refine holds_openX (q:=Oc.hQ) (loose:=Oc.hL) (Xt:=Oc.hX) (XP:=fun _ _=>True) (Yf:=Oc.hYf) (Ya:=Oc.hYa) (N:=4612) Oc.h_left (fun _ _=>trivial) (fun _ _ _ h _=>h) (by rfl) (by rfl) (by rfl) (fun s e=>recFacts_of e) (by rfl) said (by decide +kernel) ⟨rfl,rfl,rfl,rfl,rfl,by decide +kernel⟩ ?hw ?hc
 case hw=>w_witness2
 refine Oc.walkX_H (K:=Oc.hK) (as:=Oc.hA) (ts:=Oc.hTs) (fun _=>rfl) ?_
 k_fill
 refine' Oc.walk (l:=PySem.Challenge.rw_ownclocks_k16_each_piece_walked) rfl rfl (fun w h Y=>Y.1) (fun w h Y=>Y.2) ?U1 ?N1 ?F
 case U1 =>
  intro w
  refine' L2.tabIn_of ?e1 ?e2 ?e3 ?e4 ?e5
  (case e1=>first|k_is|kit_is)
  (case e2=>first|k_is|kit_is)
  (case e3=>exact rfl)
  (case e4=>first|k_is|kit_is)
  (case e5=>exact rfl)
 case N1=>exact⟨by decide,fun w=>⟨by kernel_rfl,by kernel_rfl⟩⟩
 case F =>
  intro w mg fa h KX G hmg
  refine' Oc.all_mk KX G hmg ?_ ?_ ?_ ?_ ?_ ?_ ?_ ?_ ?_ ?_ ?_ ?_ ?_ ?_ ?_ ?_ ?_ ?_ ?_ ?_ ?_ ?_ ?_ ?_ ?_ ?_ ?_ ?_ ?_ ?_ ?_ ?_ ?_ ?_ ?_ ?_ ?_ ?_ ?_ ?_ ?_ ?_ ?_ ?_ ?_ ?_ ?_ ?_ ?_ ?_ ?_ ?_ ?_ ?_ ?_ ?_ ?_ ?_ ?_ ?_ ?_ ?_ ?_ ?_ ?_ ?_ ?_ ?_ ?_ ?_ ?_ ?_ ?_ ?_ ?_ ?_ ?_ ?_ ?_ ?_ ?_ ?_ ?_ ?_ ?_ ?_ ?_ ?_ ?_ ?_ ?_ ?_ ?_ ?_ ?_ ?_ ?_ ?_ ?_ ?_ ?_ ?_ ?_ ?_ ?_ ?_ ?_ ?_ ?_ ?_ ?_ ?_ ?_ ?_ ?_ ?_ ?_ ?_ ?_ ?_ ?_ ?_ ?_ ?_ ?_ ?_ ?_ ?_ ?_ ?_ ?_ ?_ ?_ ?_ ?_ ?_ ?_ ?_ ?_ ?_ ?_ ?_ ?_ ?_ ?_ ?_ ?_ ?_
  all_goals (try first|k_is|kit_is|exact rfl|(refine⟨?_,?_⟩ <;> k_is))
  all_goals (try first|k_is|kit_is|exact rfl|(refine' Oc.FnF.mk ?l ?c ?k; (case l=>k_is); (case c=>k_is); (case k=>k_is)))
  all_goals first|k_is|kit_is|exact rfl|(refine' Oc.FnF.mk ?l ?c ?k; (case l=>k_is); (case c=>k_is); (case k=>k_is))
#print axioms PySem.Challenge.cw_ownclocks_k16_each_piece_walked_holds
