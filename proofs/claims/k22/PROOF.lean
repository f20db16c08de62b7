import PyProof.Rows.All
import Wide.All
import OpenK.AllK
import Wide.FinOn
import Lean
import PyProof.EqAt
import PyProof.EqKinds
import PyProof.TupleCall
import PyProof.NeData
import PyProof.P3Eq
import PySem.Challenge.RW_ownclocks_k22_steps_walked
set_option Elab.async false
set_option linter.all false
set_option maxRecDepth 100000
set_option maxHeartbeats 4000000
local macro_rules | `(tactic| omega) => `(tactic| lia)
set_option hygiene false in
local macro_rules | `(tactic| and_intros) => `(tactic| exact ⟨rfl, rfl, by decide +kernel, by decide +kernel, by repeat (first | exact Each.nil | refine Each.cons rfl ?_), by repeat (first | exact Each.nil | refine Each.cons rfl ?_), by repeat (first | exact Paired.nil | refine Paired.cons ⟨rfl, by first | exact Or.inl rfl | exact Or.inr rfl, by first | exact Or.inl rfl | exact Or.inr rfl⟩ ?_), rfl⟩)
set_option hygiene false in
local macro_rules | `(tactic| nofun) => `(tactic| first | exact Or.inl rfl | exact Or.inr rfl)
set_option hygiene false in
local macro_rules | `(tactic| ac_rfl) => `(tactic| (first | (refine tvC rfl ?_) | (refine tvO rfl ?_) | (refine tvK rfl ?_) | (refine tv rfl ?_) | (refine ⟨_, rfl, ?_⟩)))
set_option hygiene false in
local macro_rules | `(tactic| infer_instance) => `(tactic| repeat (first | (refine ⟨_, rfl, ?_⟩) | (refine ⟨_, _, rfl, rfl, ⟨by decide, by decide⟩, ?_⟩) | (refine ⟨_, _, rfl, rfl, .inl ⟨by decide, by decide⟩, ?_⟩) | (refine ⟨_, _, rfl, rfl, .inr ⟨by decide, by decide⟩, ?_⟩) | (refine ⟨_, _, rfl, rfl, (show (0 : Int) < _ from by decide), ?_⟩) | (refine ⟨_, _, rfl, rfl, ?_⟩) | (refine ⟨rfl, ?_⟩)))
set_option Elab.async false
set_option linter.all false
set_option maxRecDepth 100000
abbrev zA:=@List.getD_eq_getElem?_getD
abbrev zB:=@List.getElem?_eq_getElem
abbrev zC:=@List.length_map
abbrev zD:=@List.getElem?_eq_some_iff
abbrev zE:=@List.getElem?_map
abbrev zF:=@List.mem_singleton
abbrev zG:=@List.mem_of_getElem?
abbrev zH:=@Nat.le_refl
abbrev zI:=@List.mem_cons_of_mem
abbrev zJ:=@List.map_append
abbrev zK:=@List.not_mem_nil
abbrev zL:=@List.mem_cons_self
abbrev zM:=@List.size_toArray
abbrev zN:=@List.length_append
abbrev zO:=@Nat.lt_of_lt_of_le
abbrev zP:=@List.mem_append_right
abbrev zQ:=@List.mem_cons
abbrev zR:=@Nat.ne_of_lt
abbrev zS:=@List.length_cons
abbrev zT:=@List.length_set
abbrev zU:=@List.length_take
abbrev zV:=@Bool.false_ne_true
abbrev zW:=@Nat.zero_le
abbrev zX:=@List.take_length
abbrev zY:=@Bool.false_eq_true
abbrev zZ:=@List.getElem?_append_right
abbrev z4:=@Nat.le_trans
abbrev z5:=@Int.toNat_natCast
abbrev z6:=@List.mem_filter
abbrev z7:=@List.flatten_cons
abbrev z9:=@List.length_range
abbrev yA:=@List.mem_append
abbrev yB:=@List.mem_map
abbrev yC:=@List.mem_range
abbrev yD:=@List.append_nil
abbrev yE:=@Int.emod_lt_of_pos
abbrev yF:=@List.getElem?_eq_none
abbrev yG:=@Array.getElem?_toList
abbrev yH:=@List.mem_singleton_self
abbrev yI:=@List.take_add_one
abbrev yJ:=@List.map_cons
abbrev yK:=@List.getElem?_append_left
abbrev yL:=@List.append_assoc
abbrev yM:=@Nat.le_succ
abbrev yN:=@Int.emod_nonneg
abbrev yO:=@Option.map_eq_some_iff
abbrev yP:=@Array.getElem?_eq_none
abbrev yQ:=@Nat.le_of_lt
abbrev yR:=@List.getElem?_of_mem
abbrev yS:=@Nat.lt_succ_of_lt
abbrev yT:=@List.filterMap_cons
abbrev yU:=@List.mem_filterMap
abbrev yV:=@Option.isSome_iff_exists
abbrev yW:=@List.nodup_cons
abbrev yX:=@List.pairwise_cons
abbrev yY:=@List.filterMap_append
abbrev yZ:=@Array.getElem?_eq_getElem
abbrev y2:=@List.mem_append_left
abbrev y3:=@Nat.lt_irrefl
abbrev y4:=@List.length_filterMap_le
abbrev y6:=@Array.length_toList
abbrev y7:=@Nat.lt_of_le_of_lt
abbrev y8:=@List.getElem?_set_self
abbrev y9:=@List.flatten_singleton
abbrev qA:=@List.length_nil
abbrev qB:=@List.find?_cons
abbrev qC:=@Nat.lt_succ_self
abbrev qD:=@Int.zero_add
abbrev qE:=@List.flatten_append
abbrev qF:=@Array.swapIfInBounds_def
abbrev qG:=@List.map_set
abbrev qH:=@List.count_append
abbrev qI:=@List.getElem?_set_ne
abbrev qJ:=@Int.le_refl
abbrev qK:=@List.of_mem_zip
abbrev qL:=@List.getElem?_range
abbrev qM:=@List.map_map
abbrev qN:=@List.zip_cons_cons
abbrev qO:=@List.pairwise_iff_getElem
abbrev qP:=@List.getElem?_zip_eq_some
abbrev qQ:=@Nat.le_of_lt_succ
abbrev qR:=@List.ext_getElem?
abbrev qS:=@List.any_cons
abbrev qT:=@Nat.succ_ne_self
abbrev qU:=@List.mem_flatMap
abbrev qV:=@List.length_tail
abbrev qW:=@List.getElem_mem
abbrev qX:=@List.filter_cons
abbrev qY:=@Nat.zero_add
abbrev qZ:=@Nat.le_of_eq
abbrev q5:=@List.take_of_length_le
abbrev q8:=@List.pairwise_lt_range
abbrev q9:=@Nat.not_lt_zero
abbrev jA:=@List.range_succ
abbrev jB:=@Bool.eq_iff_iff
abbrev jC:=@List.perm_append_comm
abbrev jD:=@List.min?_eq_some_iff
abbrev jE:=@List.mem_of_mem_head?
abbrev jF:=@List.length_filter_le
abbrev jG:=@List.range_eq_range'
abbrev jH:=@List.mem_of_mem_tail
abbrev jI:=@List.map_eq_nil_iff
abbrev jJ:=@List.map_congr_left
abbrev jK:=@List.filter_append
abbrev jL:=@Array.toList_range
abbrev jM:=@List.map_nil
abbrev jN:=@List.foldl_append
abbrev jO:=@List.lookup_cons
abbrev jP:=@List.cons_append
abbrev jQ:=@List.all_eq_true
abbrev jR:=@Bool.and_eq_true
abbrev jS:=@List.eq_nil_of_length_eq_zero
abbrev jT:=@List.zip_append
abbrev jU:=@List.filter_nil
abbrev jV:=@Array.size_map
abbrev jW:=@Array.perm_iff_toList_perm
abbrev jX:=@List.sublist_append_right
abbrev jY:=@List.mem_or_eq_of_mem_set
abbrev jZ:=@List.getElem?_eq_none_iff
abbrev j0:=@List.idxOf_lt_length_iff
abbrev j1:=@List.getElem?_take_of_lt
abbrev j2:=@Bool.or_false
abbrev j3:=@List.eraseIdx_cons_succ
abbrev j4:=@Nat.sub_self
abbrev j5:=@Nat.ne_of_gt
abbrev j6:=@Nat.min_self
abbrev j7:=@Nat.lt_trans
abbrev j8:=@List.range_succ_eq_map
abbrev j9:=@List.any_map
abbrev kG:=@Bool.or_true
abbrev kH:=@List.pairwise_flatMap
abbrev kI:=@List.countP_mono_left
namespace L2
open PySem PySem.Spec PyProof.Rows
abbrev Key:=Sum Int Str
def keyIs:Key→Value→Bool
 | .inl k,v=>Value.isInt k v
 | .inr x,v=>Value.isStrOf x v
def keyH (w:World):Key→Int
 | .inl k=>hashInt k
 | .inr x=>hashStr w x
theorem keyIs_shape:∀ {k:Key} {v:Value},keyIs k v=true→(∃ i t,k=Sum.inl i∧v=Value.int i t)∨(∃ x t,k=Sum.inr x∧v=Value.str x t)
 | .inl i,v,h=>by
  obtain⟨t,e⟩:=Value.isInt_shape (k:=i) (v:=v) h
  exact .inl ⟨i,t,rfl,e⟩
 | .inr x,v,h=>by
  obtain⟨t,e⟩:=Value.isStrOf_shape (x:=x) (v:=v) h
  exact .inr ⟨x,t,rfl,e⟩
theorem keyIs_int (i:Int) (t:Tok):keyIs (.inl i) (.int i t)=true:=by simp [keyIs,Value.isInt]
theorem keyIs_str (x:Str) (t:Tok):keyIs (.inr x) (.str x t)=true:=by simp [keyIs,Value.isStrOf]
theorem key_ll (a b:Int):decide ((Sum.inl a:Key)=Sum.inl b)=(a == b):=by
 by_cases e:a=b
 ·subst e; simp
 ·have h:¬ (Sum.inl a:Key)=Sum.inl b:=fun q=>e (Sum.inl.inj q)
  rw[decide_eq_false h]
  exact(beq_eq_false_iff_ne.mpr e).symm
theorem key_rr (a b:Str):decide ((Sum.inr a:Key)=Sum.inr b)=decide (a=b):=by
 by_cases e:a=b
 ·subst e; simp
 ·have h:¬ (Sum.inr a:Key)=Sum.inr b:=fun q=>e (Sum.inr.inj q)
  rw[decide_eq_false h,decide_eq_false e]
theorem key_lr (a:Int) (b:Str):decide ((Sum.inl a:Key)=Sum.inr b)=false:=decide_eq_false (fun q=>nomatch q)
theorem key_rl (a:Str) (b:Int):decide ((Sum.inr a:Key)=Sum.inl b)=false:=decide_eq_false (fun q=>nomatch q)
def mixKind (prog:Program) (w:World):PySem.KeyKind prog w Key where
 is:=keyIs
 hash:=keyH w
 inj:=fun v a b ha hb=>by
  rcases keyIs_shape ha with ⟨i,t,rfl,rfl⟩|⟨x,t,rfl,rfl⟩
  ·rcases keyIs_shape hb with ⟨j,u,rfl,e⟩|⟨y,u,rfl,e⟩
   ·injection e with e1 _; rw[e1]
   ·exact nomatch e
  ·rcases keyIs_shape hb with ⟨j,u,rfl,e⟩|⟨y,u,rfl,e⟩
   ·exact nomatch e
   ·injection e with e1 _; rw[e1]
 byValue:=fun k v h=>by
  rcases keyIs_shape h with ⟨i,t,rfl,rfl⟩|⟨x,t,rfl,rfl⟩ <;> rfl
 pyHash:=fun hv h=>by
  rcases keyIs_shape hv with ⟨i,t,rfl,rfl⟩|⟨x,t,rfl,rfl⟩
  ·exact wpAny_pyHash_int h
  ·exact wpAny_pyHash_str h
 eqBool:=fun hu hv h=>by
  rcases keyIs_shape hu with ⟨i,t,rfl,rfl⟩|⟨x,t,rfl,rfl⟩
  ·rcases keyIs_shape hv with ⟨j,u,rfl,rfl⟩|⟨y,u,rfl,rfl⟩
   ·rw[key_ll] at h; exact wpAny_eqBool_int h
   ·rw[key_lr] at h; exact SeqAt.EqAt.int_str i t y u _ _ _ _ h
  ·rcases keyIs_shape hv with ⟨j,u,rfl,rfl⟩|⟨y,u,rfl,rfl⟩
   ·rw[key_rl] at h; exact SeqAt.EqAt.str_int x t j u _ _ _ _ h
   ·rw[key_rr] at h; exact wpAny_eqBool_str h
 «strs»:=fun k x t v h=>by
  rcases keyIs_shape h with ⟨i,u,rfl,e⟩|⟨y,u,rfl,e⟩
  ·exact nomatch e
  ·injection e with e1 _
   subst e1
   cases v <;> rfl
theorem mixKind_int (prog:Program) (w:World) (i:Int) (t:Tok):(mixKind prog w).is (.inl i) (.int i t)=true:=keyIs_int i t
theorem mixKind_str (prog:Program) (w:World) (x:Str) (t:Tok):(mixKind prog w).is (.inr x) (.str x t)=true:=keyIs_str x t
end L2
namespace L2
open PySem PySem.Spec PyProof.Rows
inductive V where
 | non|bl (b:Bool)|int (i:Int)|str (x:Str)|byt (b:Array UInt8)|flt (b:UInt64)|ref (a:Addr)|ty (n:String)
 deriving DecidableEq
def RelV:V→Value→Prop
 | .non,u=>u=Value.none
 | .bl b,u=>u=Value.bool b
 | .int i,u=>∃ t,u=Value.int i t
 | .str x,u=>∃ t,u=Value.str x t
 | .byt b,u=>∃ t,u=Value.bytes b t
 | .flt b,u=>∃ t,u=Value.float b t
 | .ref a,u=>u=Value.ref a
 | .ty n,u=>u=Value.type n
abbrev Vals:List V→List Value→Prop:=Paired RelV
theorem Vals.length {xs:List V} {us:List Value} (r:Vals xs us):xs.length=us.length:=Paired.length r
theorem Vals.get:∀ {xs:List V} {us:List Value} {i:Nat} {x:V},Vals xs us→xs[i]?=some x→∃ u,us[i]?=some u∧RelV x u
 | _,_,_,_,.nil,e=>by simp at e
 | _,_,0,_,.cons r _,e=>by simp at e; subst e; exact⟨_,rfl,r⟩
 | _,_,i + 1,x,.cons _ t,e=>by
  obtain⟨u,h1,h2⟩:=Vals.get (i:=i) (x:=x) t (by simpa using e)
  exact⟨u,by simpa using h1,h2⟩
theorem Vals.set {x:V} {u:Value} (r:RelV x u):∀ {xs:List V} {us:List Value} (i:Nat),Vals xs us→Vals (xs.set i x) (us.set i u)
 | _,_,_,.nil=>.nil
 | _,_,0,.cons _ t=>.cons r t
 | _,_,i + 1,.cons q t=>.cons q (Vals.set r i t)
theorem Vals.append:∀ {xs ys:List V} {us ws:List Value},Vals xs us→Vals ys ws→Vals (xs++ys) (us++ws)
 | _,_,_,_,.nil,s=>s
 | _,_,_,_,.cons r t,s=>.cons r (Vals.append t s)
theorem Vals.take:∀ {xs:List V} {us:List Value} (n:Nat),Vals xs us→Vals (xs.take n) (us.take n)
 | _,_,0,_=>.nil
 | _,_,_ + 1,.nil=>.nil
 | _,_,n + 1,.cons r t=>.cons r (Vals.take n t)
theorem Vals.drop:∀ {xs:List V} {us:List Value} (n:Nat),Vals xs us→Vals (xs.drop n) (us.drop n)
 | _,_,0,r=>r
 | _,_,_ + 1,.nil=>.nil
 | _,_,n + 1,.cons _ t=>Vals.drop n t
def RelO:Option V→Option Value→Prop
 | some v,some u=>RelV v u
 | none,none=>True
 | _,_=>False
def KV {κ:Type}:List (κ × V)→List (κ × Value)→Prop:=Paired fun(p:κ × V) (q:κ × Value)=>p.1=q.1∧RelV p.2 q.2
def kV:Key→V
 | .inl i=>.int i
 | .inr x=>.str x
inductive HO where
  | lst (xs:List V)
  | tup (xs:List V)
  | dK (kvs:List (Key × V))|dT (kvs:List (List Key × V))
  | set (S:Int→Bool) (n:Nat)
  | ins (C dx:Addr) (fs:List (Str × V))
  | own (x:Addr)
  | xd (fs:List (Str × V))
  | met (f x:Addr)
  | rng (lo hi:Int)
  | frz (o:Obj) (u:HO)
  | tbl (ps:Array Value)
  | ext (φ:Heap→Prop)
abbrev Hp:=Addr→Option HO
def upd (H:Hp) (a:Addr) (o:HO):Hp:=fun b=>if b=a then some o else H b
theorem upd_same {H:Hp} {a:Addr} {o:HO}:upd H a o a=some o:=by unfold upd; rw[if_pos rfl]
theorem upd_ne {H:Hp} {a b:Addr} {o:HO} (h:b ≠ a):upd H a o b=H b:=by unfold upd; rw[if_neg h]
theorem ne_of {H:Hp} {a b:Addr} {o u:HO} (h:H a=some o) (h':H b=some u) (d:o ≠ u):a ≠ b:=by
 intro e; subst e; rw[h] at h'; exact d (Option.some.inj h')
theorem ne_of_none {H:Hp} {a b:Addr} {o:HO} (h:H a=some o) (h':H b=none):a ≠ b:=by
 intro e; subst e; rw[h] at h'; cases h'
section
variable (P:Program) (w:World)
def ObjOk (H:Hp) (h:Heap) (a:Addr):HO→Prop
 | .lst xs=>xs.length≤sizeLine∧∃(its:List Value) (n:Nat),Vals xs its∧h.get? a=some { cls:=.type "list",data:=.seq its.toArray n }
 | .tup xs=>xs.length≤sizeLine∧∃ its:List Value,Vals xs its∧IsTup h a its.toArray
 | .dK kvs=>kvs.length≤sizeLine∧(a == sysModules)=false∧∃ vs,KV kvs vs∧h.DictOf (mixKind P w) a vs
 | .dT kvs=>kvs.length≤sizeLine∧(a == sysModules)=false∧∃ xs:List (List Key × Addr × Value),
   Paired (fun(p:List Key × V) (q:List Key × Addr × Value)=>p.1=q.1∧H q.2.1=some (.tup (p.1.map kV))∧RelV p.2 q.2.2) kvs xs ∧
   ∃ o es ep,h.get? a=some o∧o.ExactDict∧o.data=.dict es ep∧es.toList=xs.map (entryOfKey (tupleKind (mixKind P w)))∧(xs.map (·.1)).Nodup
 | .set S n=>h.SetOf (intKind P w) a S n
 | .ins C dx fs=>H dx=some (.own a)∧fs.length≤1000∧dx ≠ a∧h.get? a=some (PySem.W.instObj C dx) ∧
   ∃ mA,h.Ns1 dx mA∧(∀ f,RelO (fs.lookup f) (mA f))∧PySem.Within mA (fs.map (·.1))
 | .own _=>∃ o,h.get? a=some o
 | .xd fs=>∃ mA,h.Ns1 a mA∧∀ f,RelO (fs.lookup f) (mA f)
 | .rng lo hi=>∃ t u v,h.get? a=some { cls:=.type "range",data:=.fields #[.int lo t,.int hi u,.int 1 v] }
 | .frz o u=>h.get? a=some o∧ObjOk H h a u
 | .tbl ps=>h.get? a=some { cls:=.none,data:=.fields ps }
 | .met f x=>h.get? a=some (PySem.W.methodObj (.ref f) (.ref x))
 | .ext φ=>φ h∧(∃ o,h.get? a=some o)∧∀ h1 h2:Heap,φ h1→(∀ o,h1.get? a=some o→h2.get? a=some o)→φ h2
def HOk (H:Hp) (h:Heap):Prop:=∀ a o,H a=some o→ObjOk P w H h a o
end
section
variable {P:Program} {w:World} {H H':Hp} {h h':Heap} {a:Addr} {o:HO}
theorem ObjOk.lt (x:ObjOk P w H h a o):a < h.objs.size:=by
 cases o with
 | lst xs=>obtain⟨_,_,_,_,e⟩:=x; exact Heap.lt_size e
 | tup xs=>obtain⟨_,_,_,p⟩:=x; exact p.lt
 | dK kvs=>obtain⟨_,_,_,_,o,_,_,e,_⟩:=x; exact Heap.lt_size e
 | dT kvs=>obtain⟨_,_,_,_,o,_,_,e,_⟩:=x; exact Heap.lt_size e
 | set S n=>obtain⟨o,_,_,_,e,_⟩:=x; exact Heap.lt_size e
 | ins C dx fs=>obtain⟨_,_,_,e,_⟩:=x; exact Heap.lt_size e
 | own y=>obtain⟨_,e⟩:=x; exact Heap.lt_size e
 | xd fs=>obtain⟨_,⟨_,_,_,e,_⟩,_⟩:=x; exact Heap.lt_size e
 | rng lo hi=>obtain⟨_,_,_,e⟩:=x; exact Heap.lt_size e
 | frz ob u=>obtain⟨e,_⟩:=x; exact Heap.lt_size e
 | tbl ps=>exact Heap.lt_size (show h.get? a=some _ from x)
 | met f y=>exact Heap.lt_size (show h.get? a=some _ from x)
 | ext φ=>obtain⟨_,⟨_,e⟩,_⟩:=x; exact Heap.lt_size e
theorem Paired.mapP {α β:Type} {F G:α→β→Prop}:∀ {l₁:List α} {l₂:List β},Paired F l₁ l₂→(∀ a b,F a b→G a b)→Paired G l₁ l₂
 | _,_,.nil,_=>.nil
 | _,_,.cons r t,f=>.cons (f _ _ r) (Paired.mapP t f)
theorem ObjOk.stay (x:ObjOk P w H h a o) (k:∀ b u,(b=a∨H b=some (.own a))→h.get? b=some u→h'.get? b=some u)
  (ho:∀ b,H b=some (.own a)→H' b=some (.own a)) (ht:∀ b xs,H b=some (.tup xs)→H' b=some (.tup xs)):ObjOk P w H' h' a o:=by
 induction o with
 | lst xs=>obtain⟨z,its,n,r,e⟩:=x; exact⟨z,its,n,r,k _ _ (.inl rfl) e⟩
 | tup xs=>obtain⟨z,its,r,ob,e,c⟩:=x; exact⟨z,its,r,ob,k _ _ (.inl rfl) e,c⟩
 | dK kvs=>obtain⟨z,y,vs,r,ob,es,ep,e,c⟩:=x; exact⟨z,y,vs,r,ob,es,ep,k _ _ (.inl rfl) e,c⟩
 | dT kvs =>
  obtain⟨z,y,xs,r,ob,es,ep,e,c⟩:=x
  exact⟨z,y,xs,Paired.mapP r fun p q z=>⟨z.1,ht _ _ z.2.1,z.2.2⟩,ob,es,ep,k _ _ (.inl rfl) e,c⟩
 | set S n=>obtain⟨ob,es,ep,t,e,c⟩:=x; exact⟨ob,es,ep,t,k _ _ (.inl rfl) e,c⟩
 | ins C dx fs =>
  obtain⟨d,z,ne,e,mA,⟨od,es,ep,e2,c⟩,r⟩:=x
  exact⟨ho _ d,z,ne,k _ _ (.inl rfl) e,mA,⟨od,es,ep,k _ _ (.inr d) e2,c⟩,r⟩
 | own y=>obtain⟨ob,e⟩:=x; exact⟨ob,k _ _ (.inl rfl) e⟩
 | xd fs=>obtain⟨mA,⟨od,es,ep,e,c⟩,r⟩:=x; exact⟨mA,⟨od,es,ep,k _ _ (.inl rfl) e,c⟩,r⟩
 | rng lo hi=>obtain⟨t,u,v,e⟩:=x; exact⟨t,u,v,k _ _ (.inl rfl) e⟩
 | frz ob u ih=>obtain⟨e,q⟩:=x; exact⟨k _ _ (.inl rfl) e,ih q⟩
 | tbl ps =>
  have e:h.get? a=some { cls:=.none,data:=.fields ps }:=x
  show h'.get? a=some { cls:=.none,data:=.fields ps }
  exact k a _ (.inl rfl) e
 | met f y =>
  have e:h.get? a=some (PySem.W.methodObj (.ref f) (.ref y)):=x
  show h'.get? a=some (PySem.W.methodObj (.ref f) (.ref y))
  exact k a _ (.inl rfl) e
 | ext φ=>obtain⟨p,⟨o,e⟩,st⟩:=x; exact⟨st _ _ p fun o q=>k _ _ (.inl rfl) q,⟨o,k _ _ (.inl rfl) e⟩,st⟩
theorem HOk.lt (x:HOk P w H h) (e:H a=some o):a < h.objs.size:=(x a o e).lt
theorem HOk.fresh (x:HOk P w H h) (e:h.objs.size≤a):H a=none:=by
 cases q:H a with
 | none=>rfl
 | some u=>exact absurd (zO (x.lt q) e) (y3 _)
theorem HOk.kept (x:HOk P w H h) (k:∀ b u,h.get? b=some u→h'.get? b=some u):HOk P w H h':=fun a o e =>
 (x a o e).stay (fun b u _ q=>k b u q) (fun _ q=>q) fun _ _ q=>q
theorem HOk.laid (x:HOk P w H h) (k:∀ b u,h.get? b=some u→h'.get? b=some u) (hp:h.objs.size≤a) (new:ObjOk P w (upd H a o) h' a o):HOk P w (upd H a o) h':=fun b u e=>by
 have hn:=x.fresh hp
 by_cases hb:b=a
 ·subst hb; rw[upd_same] at e; cases e; exact new
 ·rw[upd_ne hb] at e
  exact(x b u e).stay (fun c v _ q=>k c v q) (fun c q=>by rw[upd_ne (ne_of_none q hn)]; exact q) fun c xs q=>by rw[upd_ne (ne_of_none q hn)]; exact q
end
def Rd (H:Hp) (a:Addr) (u:HO):Prop:=H a=some u∨∃ o,H a=some (.frz o u)
theorem Rd.ok {P:Program} {w:World} {H:Hp} {h:Heap} {a:Addr} {u:HO} (r:Rd H a u) (x:HOk P w H h):ObjOk P w H h a u:=by
 rcases r with r|⟨o,r⟩
 ·exact x a u r
 ·obtain⟨_,q⟩:=x a _ r
  exact q
def Mut:Option HO→Prop
 | some (.lst _)=>True
 | some (.dK _)=>True
 | some (.dT _)=>True
 | some (.set _ _)=>True
 | some (.ins _ _ _)=>True
 | some (.ext _)=>True
 | _=>False
section
variable {P:Program} {w:World} {H:Hp} {h h':Heap} {x e:Addr} {o':HO}
theorem HOk.write (ok:HOk P w H h) (mu:Mut (H x)) (he:e=x∨H e=some (.own x)) (k:∀ b u,b ≠ e→h.get? b=some u→h'.get? b=some u) (heo:∃ u,h'.get? e=some u)
  (new:ObjOk P w (upd H x o') h' x o'):HOk P w (upd H x o') h':=fun b u q=>by
 have nown:∀ c y,H c=some (.own y)→c ≠ x:=fun c y r z=>by subst z; rw[r] at mu; exact mu
 have ntup:∀ c xs,H c=some (.tup xs)→c ≠ x:=fun c xs r z=>by subst z; rw[r] at mu; exact mu
 by_cases hb:b=x
 ·subst hb; rw[upd_same] at q; cases q; exact new
 ·rw[upd_ne hb] at q
  by_cases hbe:b=e
  ·have q':H b=some (.own x):=by
    rcases he with z|z
    ·exact absurd (hbe.trans z) hb
    ·rw[hbe]; exact z
   rw[q] at q'; cases q'
   obtain⟨v,hv⟩:=heo
   exact⟨v,by rw[hbe]; exact hv⟩
  ·refine(ok b u q).stay (fun c v hc r=>k c v ?_ r) (fun c r=>by rw[upd_ne (nown c b r)]; exact r) fun c xs r=>by rw[upd_ne (ntup c xs r)]; exact r
   rcases hc with rfl|hc
   ·exact hbe
   ·rintro rfl
    rcases he with z|z
    ·exact nown c b hc z
    ·rw[hc] at z; cases z; exact hb rfl
end
structure Un (fs ex:List Addr) (H H':Hp) (h h':Heap):Prop where
 keep:∀ b o,h.get? b=some o→H b=none→b ∉ fs→b ∉ ex→h'.get? b=some o
 slot:∀ b o,h.get? b=some o→H b=none→b ∈ fs→b ∉ ex→∃ sl,h'.get? b=some { o with slots:=sl }
 free:∀ b o,h.get? b=some o→H b=none→b ∉ ex→H' b=none
 there:∀ b o,h.get? b=some o→b ∉ ex→∃ o',h'.get? b=some o'
 tups:∀ b xs,H b=some (.tup xs)→H' b=some (.tup xs)
 frzs:∀ b o u,H b=some (.frz o u)→H' b=some (.frz o u)
 tbls:∀ b ps,H b=some (.tbl ps)→∃ more,H' b=some (.tbl (ps++more))
section
variable {fs fs' ex ex':List Addr} {H H1 H2:Hp} {h h1 h2 h':Heap} {a x e:Addr} {o:HO}
theorem Un.any (u:Un fs ex H H1 h h1) {b:Addr} {ob:Obj} (q:h.get? b=some ob) (n:H b=none) (hx:b ∉ ex):∃ sl,h1.get? b=some { ob with slots:=sl }:=by
 by_cases hb:b ∈ fs
 ·exact u.slot b ob q n hb hx
 ·exact⟨ob.slots,u.keep b ob q n hb hx⟩
theorem Un.kept (k:∀ b u,h.get? b=some u→h'.get? b=some u):Un fs ex H H h h' :=
 ⟨fun b ob q _ _ _=>k b ob q,fun b ob q _ _ _=>⟨ob.slots,k b ob q⟩,fun _ _ _ n _=>n,fun b ob q _=>⟨ob,k b ob q⟩,fun _ _ q=>q,fun _ _ _ q=>q,fun _ ps q=>⟨#[],by rw[q]; simp⟩⟩
theorem Un.refl:Un fs ex H H h h:=Un.kept fun _ _ q=>q
theorem Un.laid (k:∀ b u,h.get? b=some u→h'.get? b=some u) (hp:h.objs.size≤a) (hn:H a=none):Un fs ex H (upd H a o) h h' where
 keep:=fun b u q _ _ _=>k b u q
 slot:=fun b u q _ _ _=>⟨u.slots,k b u q⟩
 free:=fun b u q n _=>by rw[upd_ne (zR (zO (Heap.lt_size q) hp))]; exact n
 there:=fun b u q _=>⟨u,k b u q⟩
 tups:=fun b xs q=>by rw[upd_ne (ne_of_none q hn)]; exact q
 frzs:=fun b u xs q=>by rw[upd_ne (ne_of_none q hn)]; exact q
 tbls:=fun b ps q=>⟨#[],by rw[upd_ne (ne_of_none q hn),q]; simp⟩
theorem Un.write (mu:Mut (H x)) (he:e=x∨H e=some (.own x)) (k:∀ b u,b ≠ e→h.get? b=some u→h'.get? b=some u) (heo:∃ u,h'.get? e=some u):Un fs ex H (upd H x o) h h':=by
 have hx:∀ b,H b=none→b ≠ x:=fun b n z=>by subst z; rw[n] at mu; exact mu
 have hb:∀ b,H b=none→b ≠ e:=fun b n z=>by
  subst z
  rcases he with r|r
  ·exact hx b n r
  ·rw[n] at r; cases r
 have hm:∀ b u,H b=some u→¬ Mut (some u)→b ≠ x:=fun b u q nm z=>by subst z; rw[q] at mu; exact nm mu
 refine⟨fun b u q n _ _=>k b u (hb b n) q,fun b u q n _ _=>⟨u.slots,k b u (hb b n) q⟩,fun b u q n _=>by rw[upd_ne (hx b n)]; exact n,fun b u q _=>?_,
  fun b xs q=>by rw[upd_ne (hm b _ q fun z=>z)]; exact q,fun b u xs q=>by rw[upd_ne (hm b _ q fun z=>z)]; exact q,fun b ps q=>⟨#[],by rw[upd_ne (hm b _ q fun z=>z),q]; simp⟩⟩
 by_cases hbe:b=e
 ·subst hbe; exact heo
 ·exact⟨u,k b u hbe q⟩
end
def trk (h:Heap) (H:Hp):List Addr:=(List.range h.objs.size).filter fun a=>(H a).isSome
def hidT (h:Heap) (H:Hp):Heap:=PySem.W.hideAll h (trk h H)
theorem hidT_size (h:Heap) (H:Hp):(hidT h H).objs.size=h.objs.size:=PySem.W.hideAll_size _ _
theorem hidT_get {h:Heap} {H:Hp} {b:Addr} {o:Obj} (e:h.get? b=some o) (n:H b=none):(hidT h H).get? b=some o :=
 PySem.W.hideAll_get _ e fun hm=>by
  have q:(H b).isSome=true:=(z6.mp hm).2
  rw[n] at q; simp at q
theorem of_hidT {h:Heap} {H:Hp} {b:Addr} {o:Obj} (e:(hidT h H).get? b=some o):h.get? b=some o∧H b=none:=by
 have e':h.get? b=some o:=PySem.W.of_hideAll (trk h H) e
 refine⟨e',?_⟩
 cases q:H b with
 | none=>rfl
 | some x =>
  have hm:b ∈ trk h H:=z6.mpr ⟨yC.mpr (Heap.lt_size e'),by simp [q]⟩
  have z:(hidT h H).get? b=none:=PySem.W.hideAll_none (trk h H) hm
  rw[z] at e; cases e
end L2
namespace L2
open PySem PySem.Spec PyProof.Rows
structure Mod (K:PySem.W.Frag) (mg:Str→Option Value) (base:Heap):Prop where
 kin:K.In base
 glob:base.Ns mainGlobals mg
 blt:∃ mb,base.Ns builtinsNs mb∧∀ x:Str,x ≠ "__name__"→mb x=bootBuiltins x
 nolimit:base.NoLimit
set_option genInjectivity false in
set_option genSizeOf false in
structure Cx where
 prog:Program
 w:World
 K:PySem.W.Frag
 mg:Str→Option Value
 base:Heap
 A:Around
 N:List Str
 s₀:Shared
 H₀:Hp
 env:Env
 outer:List Env
 stack:List Env
 ex:List Addr
 fn:Str→Bool
 calm:Bool
 pn:List (Addr × Obj)
 xe:Value→Shared→Prop
def frs (l:List Env):List Addr:=l.filterMap (·.frame)
abbrev Cx.fs (X:Cx):List Addr:=frs X.outer
def Vis (sc:Scope) (x:Str):Prop:=sc.names.lookup x=some .local∨sc.names.lookup x=some .cell∨sc.names.lookup x=some .free
def Loc (sc:Scope) (x:Str):Prop:=sc.names.lookup x=some .local∨sc.names.lookup x=some .cell
def Look (env:Env) (h:Heap) (m:Str→Option Value) (x:Str) (u:Value):Prop :=
 (env.kindOf x=some .local∧m x=some u)∨((env.kindOf x=some .cell∨env.kindOf x=some .free)∧∃ c,env.cells.lookup x=some c∧h.IsCell c (some u))
structure Cx.Ok (X:Cx):Prop where
 mod:Mod X.K X.mg X.base
 kind:X.env.scope.kind=.function
 glob:X.env.globals=mainGlobals
 blt:X.env.builtins=builtinsNs
 above:X.s₀.heap.objs.size≤X.env.locals
 inj:∀ x y c,X.env.cells.lookup x=some c→X.env.cells.lookup y=some c→x=y
 has:∀ x,(X.env.kindOf x=some .cell∨X.env.kindOf x=some .free)→∃ c,X.env.cells.lookup x=some c
 cab:∀ x c,X.fn x=true→X.env.cells.lookup x=some c→X.s₀.heap.objs.size≤c
 hd:X.calm=true→X.A.handled=none
 frames:X.A.frames=some X.stack
 stk:X.stack=X.outer∨(X.stack=X.env::X.outer∧X.env.frame=some X.env.locals)
 exf:∀ b ∈ X.ex,b ≠ X.env.locals∧∀ x c,X.env.cells.lookup x=some c→c ≠ b
 bs:∀ b o,X.base.get? b=some o→X.s₀.heap.get? b=some o∧X.H₀ b=none
 bsz:X.base.objs.size≤X.s₀.heap.objs.size
 noex:∀ b o,X.base.get? b=some o→b ∉ X.ex
 exfs:∀ b ∈ X.ex,b ∉ X.fs
 funs:X.s₀.heap.FunFrames X.base X.outer
 frf:∀ b ∈ X.fs,X.H₀ b=none
structure Inv (X:Cx) (pins:List (Addr × Obj)) (σ:List (Option V)) (H:Hp) (s:Shared):Prop where
 ok:X.Ok
 os:s.os=X.s₀.os
 bare:AllBare s.gens
 base:Un X.fs X.ex X.H₀ H X.s₀.heap s.heap
 loc:∃ m,s.heap.Ns X.env.locals m∧∀(i:Nat) (x:Str) (v:V),X.N[i]?=some x→σ[i]?=some (some v)→Vis X.env.scope x→∃ u,RelV v u∧Look X.env s.heap m x u
 cell:∀ x c,X.env.cells.lookup x=some c→∃ v,s.heap.IsCell c v
 free:H X.env.locals=none
 freeC:∀ x c,X.env.cells.lookup x=some c→H c=none
 pin:∀ p ∈ X.pn++pins,s.heap.get? p.1=some p.2∧H p.1=none∧p.1 ≠ X.env.locals∧p.1 ∉ X.fs∧∀ v,p.2.data ≠ .cell v
 hok:HOk X.prog X.w H s.heap
 len:σ.length=X.N.length
section
variable {X:Cx} {pins:List (Addr × Obj)} {σ:List (Option V)} {H H':Hp} {s:Shared} {h':Heap}
theorem Cx.Ok.nofr (ok:X.Ok) {b:Addr} {o:Obj} (e:X.base.get? b=some o):b ∉ X.fs:=fun hb=>by
 have:=(ok.funs.mem hb).1
 rw[e] at this; cases this
theorem Inv.bs (I:Inv X pins σ H s):∀ b o,X.base.get? b=some o→s.heap.get? b=some o∧H b=none:=fun b o e =>
 ⟨I.base.keep b o (I.ok.bs b o e).1 (I.ok.bs b o e).2 (I.ok.nofr e) (I.ok.noex b o e),I.base.free b o (I.ok.bs b o e).1 (I.ok.bs b o e).2 (I.ok.noex b o e)⟩
theorem Inv.bk (I:Inv X pins σ H s):∀ b o,X.base.get? b=some o→s.heap.get? b=some o:=fun b o e=>(I.bs b o e).1
theorem Inv.mod (I:Inv X pins σ H s):Mod X.K X.mg X.base:=I.ok.mod
theorem Inv.kIn (I:Inv X pins σ H s):X.K.In s.heap:=I.ok.mod.kin.keeps I.bk
theorem Inv.nolimit (I:Inv X pins σ H s):s.heap.NoLimit:=I.ok.mod.nolimit.keeps I.bk
theorem Inv.lt (I:Inv X pins σ H s):X.env.locals < s.heap.objs.size:=let ⟨_,hn,_⟩:=I.loc; hn.lt
theorem Inv.sz (I:Inv X pins σ H s):X.s₀.heap.objs.size≤s.heap.objs.size:=z4 I.ok.above (yQ I.lt)
theorem Inv.nofs (I:Inv X pins σ H s) {a:Addr} (h:s.heap.objs.size≤a):a ∉ X.fs:=fun hb=>by
 obtain⟨_,o,ho,_⟩:=I.ok.funs.mem hb
 exact absurd (zO (Heap.lt_size ho) (z4 I.sz h)) (y3 _)
theorem Inv.cne (I:Inv X pins σ H s):∀ x c,X.env.cells.lookup x=some c→c ≠ X.env.locals:=fun x c e z=>by
 obtain⟨v,o,ho,hd⟩:=I.cell x c e
 obtain⟨m,⟨o',es,ep,ho',hd',_⟩,_⟩:=I.loc
 rw[z,ho'] at ho; cases ho; rw[hd'] at hd; cases hd
theorem Inv.funs (I:Inv X pins σ H s):s.heap.FunFrames X.base X.outer:=by
 have all:∀(l:List Env),(∀ b ∈ frs l,b ∈ X.fs)→X.s₀.heap.FunFrames X.base l→s.heap.FunFrames X.base l:=by
  intro l
  induction l with
  | nil=>intro _ _; trivial
  | cons env r ih =>
   intro hs hl
   obtain⟨hk,⟨L,o,hf,hn,ho,hd⟩,hr⟩:=hl
   have hL:L ∈ X.fs:=hs L (by unfold frs; rw[yT,hf]; exact zL)
   obtain⟨sl,e⟩:=I.base.slot L o ho (I.ok.frf L hL) hL fun z=>I.ok.exfs L z hL
   exact⟨hk,⟨L,_,hf,hn,e,hd⟩,ih (fun b hb=>hs b (by unfold frs; rw[yT,hf]; exact zI _ hb)) hr⟩
 exact all X.outer (fun _ hb=>hb) I.ok.funs
theorem Inv.stack (I:Inv X pins σ H s):s.heap.FunFrames X.base X.stack:=by
 rcases I.ok.stk with e|⟨e,hf⟩
 ·rw[e]; exact I.funs
 ·rw[e]
  obtain⟨m,hn,_⟩:=I.loc
  refine .cons (by rw[I.ok.kind]; decide) hf hn ?_ I.funs
  exact Heap.get?_none_of_le (z4 I.ok.bsz I.ok.above)
theorem Inv.stkSub (I:Inv X pins σ H s):∀ b ∈ frs X.stack,b ∈ X.env.locals::X.fs:=fun b hb=>by
 rcases I.ok.stk with e|⟨e,hf⟩
 ·rw[e] at hb; exact zI _ hb
 ·rw[e] at hb
  unfold frs at hb
  rw[yT,hf] at hb
  exact hb
theorem Inv.stkFree (I:Inv X pins σ H s):∀ b ∈ frs X.stack,H b=none:=fun b hb=>by
 rcases zQ.mp (I.stkSub b hb) with e|hb
 ·rw[e]; exact I.free
 ·obtain⟨_,o,ho,_⟩:=I.ok.funs.mem hb
  exact I.base.free b o ho (I.ok.frf b hb) fun z=>I.ok.exfs b z hb
theorem Inv.step {g':Array GenState} {t':Nat} {d':Drawn} {ch:List Addr} (I:Inv X pins σ H s)
  (hch:∀ b ∈ ch,(b ∈ X.ex∨X.s₀.heap.objs.size≤b)∧b ≠ X.env.locals∧(∀ x c,X.env.cells.lookup x=some c→c ≠ b)∧∀ p ∈ X.pn++pins,p.1 ≠ b)
  (keep:∀ b o,b ≠ X.env.locals→b ∉ X.fs→b ∉ ch→s.heap.get? b=some o→H b=none→h'.get? b=some o)
  (slot:∀ b o,b ≠ X.env.locals→b ∈ X.fs→b ∉ ch→s.heap.get? b=some o→H b=none→∃ sl,h'.get? b=some { o with slots:=sl }) (free:∀ b o,b ∉ ch→s.heap.get? b=some o→H b=none→H' b=none)
  (there:∀ b o,b ∉ ch→s.heap.get? b=some o→∃ o',h'.get? b=some o')
  (tups:∀ b xs,H b=some (.tup xs)→H' b=some (.tup xs)) (frzs:∀ b o u,H b=some (.frz o u)→H' b=some (.frz o u)) (tbls:∀ b ps,H b=some (.tbl ps)→∃ more,H' b=some (.tbl (ps++more)))
  (ns:∀ m,s.heap.Ns X.env.locals m→h'.Ns X.env.locals m) (hok:HOk X.prog X.w H' h') (hg:AllBare g') :
  Inv X pins σ H' { s with heap:=h',gens:=g',drawn:=d',toks:=t' }:=by
 have neL:∀ b o,X.s₀.heap.get? b=some o→b ≠ X.env.locals:=fun b o e=>zR (zO (Heap.lt_size e) I.ok.above)
 have neC:∀ b o,X.s₀.heap.get? b=some o→b ∉ X.ex→b ∉ ch:=fun b o e hx hb=>by
  rcases(hch b hb).1 with z|z
  ·exact hx z
  ·exact absurd (zO (Heap.lt_size e) z) (y3 _)
 have cellK:∀ x c,X.env.cells.lookup x=some c→∀ v,s.heap.IsCell c v→h'.IsCell c v:=fun x c e v ⟨o,ho,hd⟩=>by
  have nch:c ∉ ch:=fun z=>(hch c z).2.2.1 x c e rfl
  by_cases hc:c ∈ X.fs
  ·obtain⟨sl,q⟩:=slot c o (I.cne x c e) hc nch ho (I.freeC x c e)
   exact⟨_,q,hd⟩
  ·exact⟨o,keep c o (I.cne x c e) hc nch ho (I.freeC x c e),hd⟩
 refine⟨I.ok,I.os,hg,⟨fun b o e n hb hx=>?_,fun b o e n hb hx=>?_,fun b o e n hx=>?_,fun b o e hx=>?_,fun b xs e=>tups b xs (I.base.tups b xs e),fun b o xs e=>frzs b o xs (I.base.frzs b o xs e),fun b ps e=>?_⟩,?_,fun x c e=>?_,?_,fun x c e=>?_,fun p hp=>?_,hok,I.len⟩
 ·exact keep b o (neL b o e) hb (neC b o e hx) (I.base.keep b o e n hb hx) (I.base.free b o e n hx)
 ·obtain⟨sl,e1⟩:=I.base.slot b o e n hb hx
  obtain⟨sl',e2⟩:=slot b _ (neL b o e) hb (neC b o e hx) e1 (I.base.free b o e n hx)
  exact⟨sl',e2⟩
 ·obtain⟨o',e1⟩:=I.base.there b o e hx
  exact free b o' (neC b o e hx) e1 (I.base.free b o e n hx)
 ·obtain⟨o',e1⟩:=I.base.there b o e hx
  exact there b o' (neC b o e hx) e1
 ·obtain⟨m1,e1⟩:=I.base.tbls b ps e
  obtain⟨m2,e2⟩:=tbls b _ e1
  exact⟨m1++m2,by rw[e2,Array.append_assoc]⟩
 ·obtain⟨m,hn,hl⟩:=I.loc
  refine⟨m,ns m hn,fun i x v e1 e2 e3=>?_⟩
  obtain⟨u,r,l⟩:=hl i x v e1 e2 e3
  refine⟨u,r,?_⟩
  rcases l with l|⟨k,c,e,z⟩
  ·exact .inl l
  ·exact .inr ⟨k,c,e,cellK x c e _ z⟩
 ·obtain⟨v,z⟩:=I.cell x c e
  exact⟨v,cellK x c e v z⟩
 ·obtain⟨m,⟨o,_,_,ho,_⟩,_⟩:=I.loc
  exact free _ o (fun z=>(hch _ z).2.1 rfl) ho I.free
 ·obtain⟨v,o,ho,hd⟩:=I.cell x c e
  exact free c o (fun z=>(hch c z).2.2.1 x c e rfl) ho (I.freeC x c e)
 ·obtain⟨e,n,ne,nf,d⟩:=I.pin p hp
  have nch:p.1 ∉ ch:=fun z=>(hch p.1 z).2.2.2 p hp rfl
  exact⟨keep p.1 p.2 ne nf nch e n,free p.1 p.2 nch e n,ne,nf,d⟩
theorem Inv.un {t':Nat} (I:Inv X pins σ H s) (u:Un X.fs [] H H' s.heap h') (hok:HOk X.prog X.w H' h'):Inv X pins σ H' { s with heap:=h',toks:=t' }:=by
 obtain⟨m,⟨o,es,ep,ho,r⟩,_⟩:=id I.loc
 obtain⟨sl,hL⟩:=u.any ho I.free (by simp)
 exact I.step (g':=s.gens) (d':=s.drawn) (ch:=[]) (fun _ z=>nomatch z) (fun b o _ hb _ e n=>u.keep b o e n hb (by simp)) (fun b o _ hb _ e n=>u.slot b o e n hb (by simp)) (fun b o _ e n=>u.free b o e n (by simp)) (fun b o _ e=>u.there b o e (by simp)) u.tups u.frzs u.tbls (fun m' hm=>by
  obtain⟨o',es',ep',ho',r'⟩:=hm
  rw[ho] at ho'; cases ho'
  exact⟨_,es',ep',hL,r'⟩) hok I.bare
theorem Inv.call {g':Array GenState} {t':Nat} {d':Drawn} {ch:List Addr} (I:Inv X pins σ H s) (u:Un (frs X.stack) ch H H' s.heap h') (hok:HOk X.prog X.w H' h') (hg:AllBare g')
  (hch:∀ b ∈ ch,(b ∈ X.ex∨X.s₀.heap.objs.size≤b)∧b ≠ X.env.locals∧(∀ x c,X.env.cells.lookup x=some c→c ≠ b)∧∀ p ∈ X.pn++pins,p.1 ≠ b) :
  Inv X pins σ H' { s with heap:=h',gens:=g',drawn:=d',toks:=t' }:=by
 obtain⟨m,⟨o,es,ep,ho,r⟩,_⟩:=id I.loc
 obtain⟨sl,hL⟩:=u.any ho I.free fun z=>(hch _ z).2.1 rfl
 exact I.step (ch:=ch) hch (fun b o hL hb hc e n=>u.keep b o e n (fun z=>(zQ.mp (I.stkSub b z)).elim hL hb) hc) (fun b o _ _ hc e n=>u.any e n hc) (fun b o hc e n=>u.free b o e n hc) (fun b o hc e=>u.there b o e hc) u.tups u.frzs u.tbls (fun m' hm=>by
  obtain⟨o',es',ep',ho',r'⟩:=hm
  rw[ho] at ho'; cases ho'
  exact⟨_,es',ep',hL,r'⟩) hok hg
theorem Inv.turned {t':Nat} {it:Addr} (I:Inv X pins σ H s) (k:∀ b o,b ≠ it→s.heap.get? b=some o→h'.get? b=some o) (hn:H it=none) (hL:it ≠ X.env.locals)
  (h1:it ∈ X.ex∨X.s₀.heap.objs.size≤it) (h2:∀ x c,X.env.cells.lookup x=some c→c ≠ it) (h3:∀ p ∈ X.pn++pins,p.1 ≠ it):Inv X pins σ H { s with heap:=h',toks:=t' }:=by
 have nit:∀ b u,H b=some u→b ≠ it:=fun b u e z=>by rw[z,hn] at e; cases e
 refine I.step (g':=s.gens) (d':=s.drawn) (ch:=[it]) (fun b hb=>?_) (fun b o _ _ hc e _=>k b o (fun z=>hc (by simp [z])) e) (fun b o _ _ hc e _=>⟨o.slots,k b o (fun z=>hc (by simp [z])) e⟩) (fun _ _ _ _ n=>n)
  (fun b o hc e=>⟨o,k b o (fun z=>hc (by simp [z])) e⟩) (fun _ _ e=>e) (fun _ _ _ e=>e) (fun b ps e=>⟨#[],by rw[e]; simp⟩) (fun m hm=>?_) (fun b u e=>?_) I.bare
 ·have e:b=it:=by simpa using hb
  subst e
  exact⟨h1,hL,h2,h3⟩
 ·obtain⟨o,es,ep,ho,r⟩:=hm
  exact⟨o,es,ep,k _ o (Ne.symm hL) ho,r⟩
 ·refine(I.hok b u e).stay (fun c v hc q=>k c v ?_ q) (fun _ q=>q) fun _ _ q=>q
  rcases hc with z|z
  ·rw[z]; exact nit b u e
  ·exact nit c _ z
theorem Inv.tok (I:Inv X pins σ H s) (t:Nat):Inv X pins σ H { s with toks:=t }:=I.un (h':=s.heap) (t':=t) Un.refl I.hok
theorem Inv.kept {t':Nat} (I:Inv X pins σ H s) (k:∀ b u,s.heap.get? b=some u→h'.get? b=some u):Inv X pins σ H { s with heap:=h',toks:=t' }:=I.un (Un.kept k) (I.hok.kept k)
theorem Inv.laid {a:Addr} {o:HO} {t':Nat} (I:Inv X pins σ H s) (k:∀ b u,s.heap.get? b=some u→h'.get? b=some u) (hp:s.heap.objs.size≤a) (new:ObjOk X.prog X.w (upd H a o) h' a o) :
  Inv X pins σ (upd H a o) { s with heap:=h',toks:=t' }:=I.un (Un.laid k hp (I.hok.fresh hp)) (I.hok.laid k hp new)
theorem Inv.write {x e:Addr} {o:HO} {t':Nat} (I:Inv X pins σ H s) (mu:Mut (H x)) (he:e=x∨H e=some (.own x)) (k:∀ b u,b ≠ e→s.heap.get? b=some u→h'.get? b=some u) (heo:∃ u,h'.get? e=some u)
  (new:ObjOk X.prog X.w (upd H x o) h' x o):Inv X pins σ (upd H x o) { s with heap:=h',toks:=t' }:=I.un (Un.write mu he k heo) (I.hok.write mu he k heo new)
theorem Inv.pins_of {pins':List (Addr × Obj)} (I:Inv X pins σ H s) (h:∀ p ∈ pins',s.heap.get? p.1=some p.2∧H p.1=none∧p.1 ≠ X.env.locals∧p.1 ∉ X.fs∧∀ v,p.2.data ≠ .cell v):Inv X pins' σ H s :=
 ⟨I.ok,I.os,I.bare,I.base,I.loc,I.cell,I.free,I.freeC,fun p hp=>(yA.mp hp).elim (fun z=>I.pin p (y2 _ z)) (h p),I.hok,I.len⟩
theorem nodup_ix {N:List Str} (hN:N.Nodup) {i j:Nat} {x:Str} (a:N[i]?=some x) (b:N[j]?=some x):i=j:=by
 obtain⟨h1,e1⟩:=zD.mp a
 obtain⟨h2,e2⟩:=zD.mp b
 exact(List.getElem_inj hN).mp (e1.trans e2.symm)
theorem store_ok2 {M:Model} {A:Around} {E:Value→Shared→Prop} {i:Nat} {x:Str} {v:V} {u:Value} {Q:Unit→Shared→Prop} (I:Inv X pins σ H s) (hN:X.N.Nodup) (hi:X.N[i]?=some x) (hx:Loc X.env.scope x) (r:RelV v u)
  (h:∀ s',Inv X pins (σ.set i (some v)) H s'→(∃ a,Heap.SameBut a s.heap s'.heap∧(a=X.env.locals∨X.env.cells.lookup x=some a))→Q () s') (hf:X.fn x=true∨X.env.scope.names.lookup x=some .local:=by first|exact .inl rfl|exact .inr rfl|assumption):wpAny M A (storeName X.env x u) Q E s:=by
 obtain⟨m,hn,hl⟩:=id I.loc
 have hcls:(X.env.scope.kind == .class || (X.env.scope.kind == .module && X.env.locals != X.env.globals))=false:=by rw[I.ok.kind]; rfl
 have hiσ:i < σ.length:=by rw[I.len]; exact(zD.mp hi).1
 have cne:=I.cne
 have tracked:∀ {a:Addr} {h':Heap},(∃ o,s.heap.get? a=some o∧H a=none)→Heap.SameBut a s.heap h'→HOk X.prog X.w H h':=fun {a h'} ha hs b ob e=>by
  obtain⟨_,_,hfree⟩:=ha
  refine(I.hok b ob e).stay (fun c w' hc q=>(hs.2 c ?_).trans q) (fun _ q=>q) fun _ _ q=>q
  rintro rfl
  rcases hc with rfl|hc
  ·rw[hfree] at e; cases e
  ·rw[hfree] at hc; cases hc
 rcases hx with hk|hk
 ·refine wpAny_storeName_local hk hn (fun h' hn' hs=>?_) hcls
  obtain⟨oL,_,_,hoL,_⟩:=id hn
  refine h _ ⟨I.ok,I.os,I.bare,⟨fun b o e n hb hx=>?_,fun b o e n hb hx=>?_,I.base.free,fun b o e hx=>?_,I.base.tups,I.base.frzs,I.base.tbls⟩,⟨_,hn',fun j y v' e1 e2 e3=>?_⟩,fun y c e=>?_,I.free,I.freeC,fun p hp=>?_,tracked ⟨oL,hoL,I.free⟩ hs,by simpa using I.len⟩ ⟨_,hs,.inl rfl⟩
  ·exact(hs.2 b (zR (zO (Heap.lt_size e) I.ok.above))).trans (I.base.keep b o e n hb hx)
  ·obtain⟨sl,e1⟩:=I.base.slot b o e n hb hx
   exact⟨sl,(hs.2 b (zR (zO (Heap.lt_size e) I.ok.above))).trans e1⟩
  ·obtain⟨o',e1⟩:=I.base.there b o e hx
   exact⟨o',(hs.2 b (zR (zO (Heap.lt_size e) I.ok.above))).trans e1⟩
  ·by_cases hj:j=i
   ·subst hj
    rw[hi] at e1; cases e1
    rw[y8 hiσ] at e2
    cases e2
    exact⟨u,r,.inl ⟨hk,by simp⟩⟩
   ·rw[qI (Ne.symm hj)] at e2
    obtain⟨u',r',q⟩:=hl j y v' e1 e2 e3
    refine⟨u',r',?_⟩
    rcases q with ⟨k,e⟩|⟨k,c,e,z⟩
    ·refine .inl ⟨k,?_⟩
     have:y ≠ x:=fun e=>hj (nodup_ix hN e1 (e ▸ hi))
     simp [this,e]
    ·exact .inr ⟨k,c,e,z.sameBut hs (cne y c e)⟩
  ·obtain⟨w',z⟩:=I.cell y c e
   exact⟨w',z.sameBut hs (cne y c e)⟩
  ·obtain⟨e,n,ne,nf,d⟩:=I.pin p hp
   exact⟨(hs.2 p.1 ne).trans e,n,ne,nf,d⟩
 ·have hfn:X.fn x=true:=by
   rcases hf with z|z
   ·exact z
   ·rw[z] at hk; cases hk
  obtain⟨c,hc⟩:=I.ok.has x (.inl hk)
  obtain⟨w',z⟩:=I.cell x c hc
  refine wpAny_storeName_cell I.ok.kind hk hc z (fun h' hc' hs=>?_)
  obtain⟨oc,hoc,hocd⟩:=id z
  refine h { s with heap:=h' } ⟨I.ok,I.os,I.bare,⟨fun b o e n hb hx=>?_,fun b o e n hb hx=>?_,I.base.free,fun b o e hx=>?_,I.base.tups,I.base.frzs,I.base.tbls⟩,⟨m,hn.sameBut hs (Ne.symm (cne x c hc)),fun j y v' e1 e2 e3=>?_⟩,fun y c' e=>?_,I.free,I.freeC,fun p hp=>?_,tracked ⟨oc,hoc,I.freeC x c hc⟩ hs,by simpa using I.len⟩ ⟨c,hs,.inr hc⟩
  ·exact(hs.2 b (zR (zO (Heap.lt_size e) (I.ok.cab x c hfn hc)))).trans (I.base.keep b o e n hb hx)
  ·obtain⟨sl,e1⟩:=I.base.slot b o e n hb hx
   exact⟨sl,(hs.2 b (zR (zO (Heap.lt_size e) (I.ok.cab x c hfn hc)))).trans e1⟩
  ·obtain⟨o',e1⟩:=I.base.there b o e hx
   exact⟨o',(hs.2 b (zR (zO (Heap.lt_size e) (I.ok.cab x c hfn hc)))).trans e1⟩
  ·by_cases hj:j=i
   ·subst hj
    rw[hi] at e1; cases e1
    rw[y8 hiσ] at e2
    cases e2
    exact⟨u,r,.inr ⟨.inl hk,c,hc,hc'⟩⟩
   ·rw[qI (Ne.symm hj)] at e2
    obtain⟨u',r',q⟩:=hl j y v' e1 e2 e3
    refine⟨u',r',?_⟩
    rcases q with q|⟨k,c',e,z'⟩
    ·exact .inl q
    ·refine .inr ⟨k,c',e,z'.sameBut hs ?_⟩
     rintro rfl
     exact hj (nodup_ix hN e1 (I.ok.inj _ _ _ e hc ▸ hi))
  ·by_cases hcc:c'=c
   ·subst hcc; exact⟨_,hc'⟩
   ·obtain⟨w2,z2⟩:=I.cell y c' e
    exact⟨w2,z2.sameBut hs hcc⟩
  ·obtain⟨e,n,ne,nf,d⟩:=I.pin p hp
   refine⟨(hs.2 p.1 ?_).trans e,n,ne,nf,d⟩
   intro q
   rw[q,hoc] at e
   have q':oc=p.2:=Option.some.inj e
   exact d w' (by rw[← q']; exact hocd)
theorem store_ok {M:Model} {A:Around} {E:Value→Shared→Prop} {i:Nat} {x:Str} {v:V} {u:Value} {Q:Unit→Shared→Prop} (I:Inv X pins σ H s) (hN:X.N.Nodup) (hi:X.N[i]?=some x) (hx:Loc X.env.scope x) (r:RelV v u)
  (h:∀ s',Inv X pins (σ.set i (some v)) H s'→Q () s') (hf:X.fn x=true∨X.env.scope.names.lookup x=some .local:=by first|exact .inl rfl|exact .inr rfl|assumption):wpAny M A (storeName X.env x u) Q E s :=
 store_ok2 I hN hi hx r (fun s' I' _=>h s' I') hf
theorem Inv.call' {s':Shared} {ch:List Addr} (I:Inv X pins σ H s) (ho:s'.os=s.os) (u:Un (frs X.stack) ch H H' s.heap s'.heap) (hok:HOk X.prog X.w H' s'.heap) (hg:AllBare s'.gens)
  (hch:∀ b ∈ ch,(b ∈ X.ex∨X.s₀.heap.objs.size≤b)∧b ≠ X.env.locals∧(∀ x c,X.env.cells.lookup x=some c→c ≠ b)∧∀ p ∈ X.pn++pins,p.1 ≠ b):Inv X pins σ H' s':=by
 obtain⟨h',g',d',t',o'⟩:=s'
 have e:o'=s.os:=ho
 subst e
 exact I.call (g':=g') (t':=t') (d':=d') u hok hg hch
end
abbrev XK:=Value→Option Addr→Hp→Prop
abbrev St:=List (Option V)
abbrev VK:=V→Hp→Prop
abbrev TE:=St→Hp→VK→Prop
abbrev TT:=St→Hp→(Bool→Hp→Prop)→Prop
abbrev TA:=St→Hp→(List V→Hp→Prop)→Prop
set_option genInjectivity false in
set_option genSizeOf false in
structure Ends where
 nx:St→Hp→Prop
 rt:VK
 bk:St→Hp→Prop:=fun _ _=>False
 ct:St→Hp→Prop:=fun _ _=>False
abbrev TS:=Ends→St→Hp→Prop
inductive EP (X:Cx) (pins:List (Addr × Obj)) (σ:St) (Q:VK) (u:Value) (s':Shared):Prop where
 | mk (v H':_) (h_0:Inv X pins σ H' s') (h_1:RelV v u) (h_2:Q v H'):EP X pins σ Q u s'
inductive TP (X:Cx) (pins:List (Addr × Obj)) (σ:St) (Q:Bool→Hp→Prop) (b:Bool) (s':Shared):Prop where
 | mk (H':_) (h_0:Inv X pins σ H' s') (h_1:Q b H'):TP X pins σ Q b s'
inductive AP (X:Cx) (pins:List (Addr × Obj)) (σ:St) (Q:List V→Hp→Prop) (us:List Value) (s':Shared):Prop where
 | mk (vs H':_) (h_0:Inv X pins σ H' s') (h_1:Vals vs us) (h_2:Q vs H'):AP X pins σ Q us s'
def SP (X:Cx) (pins:List (Addr × Obj)) (D:Ends) (f:Flow) (s':Shared):Prop :=
 match f with
 | .next=>∃ σ' H',Inv X pins σ' H' s'∧D.nx σ' H'
 | .brk=>∃ σ' H',Inv X pins σ' H' s'∧D.bk σ' H'
 | .cont=>∃ σ' H',Inv X pins σ' H' s'∧D.ct σ' H'
 | .ret u=>∃ v σ' H',Inv X pins σ' H' s'∧RelV v u∧D.rt v H'
def PE (X:Cx) (e:Expr) (t:TE):Prop :=
 ∀(pins:List (Addr × Obj)) (s:Shared) (σ:St) (H:Hp) (Q:VK),Inv X pins σ H s→t σ H Q→wpAny (model X.prog X.w) X.A (eval e X.env) (EP X pins σ Q) X.xe s
def PT (X:Cx) (e:Expr) (t:TT):Prop :=
 ∀(pins:List (Addr × Obj)) (s:Shared) (σ:St) (H:Hp) (Q:Bool→Hp→Prop),Inv X pins σ H s→t σ H Q→wpAny (model X.prog X.w) X.A (isTrue e X.env (eval e X.env)) (TP X pins σ Q) X.xe s
def PW (X:Cx) (e:Expr) (t:TT):Prop :=
 ∀(whole:Sem Value) (pins:List (Addr × Obj)) (s:Shared) (σ:St) (H:Hp) (Q:Bool→Hp→Prop),Inv X pins σ H s→t σ H Q→wpAny (model X.prog X.w) X.A (isTrue e X.env whole) (TP X pins σ Q) X.xe s
theorem PW.pt {X:Cx} {e:Expr} {t:TT} (h:PW X e t):PT X e t:=h _
def PA (X:Cx) (es:List Expr) (t:TA):Prop :=
 ∀(pos:Pos) (pins:List (Addr × Obj)) (s:Shared) (σ:St) (H:Hp) (Q:List V→Hp→Prop),Inv X pins σ H s→t σ H Q→wpAny (model X.prog X.w) X.A (spliced (backTo pos (starEach es X.env))) (AP X pins σ Q) X.xe s
def PS (X:Cx) (st:Stmt) (t:TS):Prop :=
 ∀(pins:List (Addr × Obj)) (s:Shared) (σ:St) (H:Hp) (D:Ends),Inv X pins σ H s→t D σ H→wpAny (model X.prog X.w) X.A (exec st X.env) (SP X pins D) X.xe s
def PSs (X:Cx) (st:List Stmt) (t:TS):Prop :=
 ∀(pins:List (Addr × Obj)) (s:Shared) (σ:St) (H:Hp) (D:Ends),Inv X pins σ H s→t D σ H→wpAny (model X.prog X.w) X.A (execs st X.env) (SP X pins D) X.xe s
theorem thn {α:Type} {t:Sem α} {Q Q':α→Shared→Prop} {M:Model} {A:Around} {E:Value→Shared→Prop} {s:Shared} (h:wpAny M A t Q E s) (hQ:∀ a s,Q a s→Q' a s):wpAny M A t Q' E s:=wpAny_mono h hQ fun _ _ x=>x
end L2
namespace L2
open PySem PySem.Spec PyProof.Rows
section
variable {X:Cx}
inductive tVar (i:Nat) (σ:St) (H:Hp) (Q:VK):Prop where
 | mk (v:_) (h_0:σ[i]?=some (some v)) (h_1:Q v H):tVar i σ H Q
def tC (v:V):TE:=fun _ H Q=>Q v H
theorem pe_var {i:Nat} {x:Str} {pos:Pos} (hN:X.N[i]?=some x) (hv:Vis X.env.scope x) (hd:(x == ("__debug__":Str))=false:=by decide) (hcd:(x == ("__classdict__":Str))=false:=by decide):PE X (.Name x pos) (tVar i):=by
 intro pins s σ H Q I h
 obtain⟨v,e,h⟩:=h
 obtain⟨m,hn,hl⟩:=I.loc
 obtain⟨u,r,l⟩:=hl i x v hN e hv
 have fin:EP X pins σ Q u s:=⟨v,H,I,r,h⟩
 rcases l with ⟨hk,hm⟩|⟨hk,c,hc,hcell⟩
 ·exact wpAny_Name (wpAny_loadName_local I.ok.kind hk hn hm fin) hd
 ·rcases hk with hk|hk
  ·exact wpAny_Name (wpAny_loadName_cell I.ok.kind hk hc hcell fin) hd
  ·exact wpAny_Name (wpAny_loadName_free I.ok.kind hk hc hcell fin hcd) hd
theorem pe_int {i j pos}:PE X (.Constant (.int i) j pos) (tC (.int i)):=fun _ _ _ H _ I h=>wpAny_Constant_int ⟨.int i,H,I.tok _,⟨_,rfl⟩,h⟩
theorem pe_bl {b j pos}:PE X (.Constant (.bool b) j pos) (tC (.bl b)):=fun _ _ _ H _ I h=>Constant_bool ⟨.bl b,H,I,rfl,h⟩
theorem pe_non {j pos}:PE X (.Constant .none j pos) (tC .non):=fun _ _ _ H _ I h=>Constant_none ⟨.non,H,I,rfl,h⟩
theorem pe_str {x j pos}:PE X (.Constant (.str x) j pos) (tC (.str x)):=fun _ _ _ H _ I h=>Calls.Constant_str ⟨.str x,H,I.tok _,⟨_,rfl⟩,h⟩
def Gl (X:Cx) (x:Str):Prop:=X.env.kindOf x=some .globalImplicit
theorem ld_glob {E:Value→Shared→Prop} {pins:List (Addr × Obj)} {s:Shared} {σ:St} {H:Hp} {x:Str} {u:Value} {pos:Pos} {Q:Value→Shared→Prop} (I:Inv X pins σ H s) (hg:Gl X x) (hm:X.mg x=some u) (h:Q u s)
  (hd:(x == ("__debug__":Str))=false:=by decide):wpAny (model X.prog X.w) X.A (eval (.Name x pos) X.env) Q E s :=
 Calls.Name_function_global I.ok.kind hg (Calls.loadGlobal_global (by rw[I.ok.glob]; exact I.mod.glob.keeps I.bk) hm h) hd
theorem ld_blt {E:Value→Shared→Prop} {pins:List (Addr × Obj)} {s:Shared} {σ:St} {H:Hp} {x:Str} {u:Value} {pos:Pos} {Q:Value→Shared→Prop} (I:Inv X pins σ H s) (hg:Gl X x) (hm:X.mg x=none) (hv:bootBuiltins x=some u) (h:Q u s)
  (hn:x ≠ "__name__":=by decide) (hd:(x == ("__debug__":Str))=false:=by decide):wpAny (model X.prog X.w) X.A (eval (.Name x pos) X.env) Q E s:=by
 obtain⟨mb,h1,h2⟩:=I.mod.blt
 exact Calls.Name_function_global I.ok.kind hg (Calls.loadGlobal_builtin (by rw[I.ok.glob]; exact I.mod.glob.keeps I.bk) hm (by rw[I.ok.blt]; exact h1.keeps I.bk) ((h2 x hn).trans hv) h) hd
theorem pe_glob {x:Str} {v:V} {u:Value} {pos:Pos} (hg:Gl X x) (hm:X.mg x=some u) (r:RelV v u) (hd:(x == ("__debug__":Str))=false:=by decide):PE X (.Name x pos) (tC v) :=
 fun _ _ _ H _ I h=>ld_glob I hg hm ⟨v,H,I,r,h⟩ hd
theorem pe_bltn {x:Str} {v:V} {u:Value} {pos:Pos} (hg:Gl X x) (hm:X.mg x=none) (hv:bootBuiltins x=some u) (r:RelV v u) (hn:x ≠ "__name__":=by decide) (hd:(x == ("__debug__":Str))=false:=by decide):PE X (.Name x pos) (tC v) :=
 fun _ _ _ H _ I h=>ld_blt I hg hm hv ⟨v,H,I,r,h⟩ hn hd
variable {a b:Expr} {ta tb:TE} {pos:Pos}
inductive tB_ (Q:Bool→Hp→Prop) (x:V) (H1:Hp):Prop where
 | mk (c:_) (h_0:x=.bl c) (h_1:Q c H1):tB_ Q x H1
def tB (t:TE):TT:=fun σ H Q=>t σ H fun x H1=>tB_ Q x H1
theorem pt_val {e:Expr} {t:TE} (h:PE X e t) (he:∀ whole,isTrue e X.env whole=(do let v ← whole; standAt e.pos; holding [v] (truthy v)):=by intro _; rfl):PT X e (tB t):=by
 intro pins s σ H Q I hw
 refine isTrue_plain (thn (h pins s σ H _ I hw) fun v s1 ⟨x,H1,I1,r1,q1⟩=>?_) (he _)
 obtain⟨d,rfl,q⟩:=q1
 cases r1
 exact wpAny_truthy_bool ⟨H1,I1,q⟩
variable {tA tB':TT} {rest:List Expr}
def tAnd (t u:TT):TT:=fun σ H Q=>t σ H fun c H1=>if c=true then u σ H1 Q else Q false H1
def tOr (t u:TT):TT:=fun σ H Q=>t σ H fun c H1=>if c=true then Q true H1 else u σ H1 Q
def tNot (t:TT):TT:=fun σ H Q=>t σ H fun c H1=>Q (!c) H1
theorem pw_and1 (ha:PT X a tA):PW X (.BoolOp .And [a] pos) tA:=by
 intro wh pins s σ H Q I h
 refine isTrue_and (thn (ha pins s σ H Q I h) fun c s1 e=>?_)
 cases c with
 | true=>exact isTrue_and_nil e
 | false=>exact e
theorem pw_or1 (ha:PT X a tA):PW X (.BoolOp .Or [a] pos) tA:=by
 intro wh pins s σ H Q I h
 refine isTrue_or (thn (ha pins s σ H Q I h) fun c s1 e=>?_)
 cases c with
 | false=>exact isTrue_or_nil e
 | true=>exact e
theorem pw_and (ha:PT X a tA) (hb:PW X (.BoolOp .And (b::rest) pos) tB'):PW X (.BoolOp .And (a::b::rest) pos) (tAnd tA tB'):=by
 intro wh pins s σ H Q I h
 refine isTrue_and (thn (ha pins s σ H _ I h) fun c s1 ⟨H1,I1,q1⟩=>?_)
 cases c with
 | true=>exact hb wh pins s1 σ H1 Q I1 q1
 | false=>exact⟨H1,I1,q1⟩
theorem pw_or (ha:PT X a tA) (hb:PW X (.BoolOp .Or (b::rest) pos) tB'):PW X (.BoolOp .Or (a::b::rest) pos) (tOr tA tB'):=by
 intro wh pins s σ H Q I h
 refine isTrue_or (thn (ha pins s σ H _ I h) fun c s1 ⟨H1,I1,q1⟩=>?_)
 cases c with
 | true=>exact⟨H1,I1,q1⟩
 | false=>exact hb wh pins s1 σ H1 Q I1 q1
theorem pt_not (ha:PT X a tA):PT X (.UnaryOp .Not a pos) (tNot tA):=by
 intro pins s σ H Q I h
 exact isTrue_not (thn (ha pins s σ H (fun c H1=>Q (!c) H1) I h) fun c s' ⟨H',I',q'⟩=>⟨H',I',q'⟩)
inductive tAndV_ (tb:TE) (σ:St) (Q:VK) (x:V) (H1:Hp):Prop where
 | mk (c:_) (h_0:x=.bl c) (h_1:if c=true then tb σ H1 Q else Q (.bl false) H1):tAndV_ tb σ Q x H1
def tAndV (ta tb:TE):TE:=fun σ H Q=>ta σ H fun x H1=>tAndV_ tb σ Q x H1
inductive tOrV_ (tb:TE) (σ:St) (Q:VK) (x:V) (H1:Hp):Prop where
 | mk (c:_) (h_0:x=.bl c) (h_1:if c=true then Q (.bl true) H1 else tb σ H1 Q):tOrV_ tb σ Q x H1
def tOrV (ta tb:TE):TE:=fun σ H Q=>ta σ H fun x H1=>tOrV_ tb σ Q x H1
theorem pe_one {op} {t:TE} (h:PE X a t):PE X (.BoolOp op [a] pos) t:=fun pins s σ H Q I hw=>BoolOp_one (h pins s σ H Q I hw)
theorem pe_and (ha:PE X a ta) (hb:PE X (.BoolOp .And (b::rest) pos) tb):PE X (.BoolOp .And (a::b::rest) pos) (tAndV ta tb):=by
 intro pins s σ H Q I h
 refine BoolOp_and (thn (ha pins s σ H _ I h) fun v s1 ⟨x,H1,I1,r1,q1⟩=>?_)
 obtain⟨c,rfl,q1⟩:=q1
 cases r1
 refine wpAny_truthy_bool ?_
 cases c with
 | true=>exact hb pins s1 σ H1 Q I1 q1
 | false=>exact⟨.bl false,H1,I1,rfl,q1⟩
theorem pe_or (ha:PE X a ta) (hb:PE X (.BoolOp .Or (b::rest) pos) tb):PE X (.BoolOp .Or (a::b::rest) pos) (tOrV ta tb):=by
 intro pins s σ H Q I h
 refine BoolOp_or (thn (ha pins s σ H _ I h) fun v s1 ⟨x,H1,I1,r1,q1⟩=>?_)
 obtain⟨c,rfl,q1⟩:=q1
 cases r1
 refine wpAny_truthy_bool ?_
 cases c with
 | false=>exact hb pins s1 σ H1 Q I1 q1
 | true=>exact⟨.bl true,H1,I1,rfl,q1⟩
def tIf (t:TT) (ta tb:TE):TE:=fun σ H Q=>t σ H fun c H1=>if c=true then ta σ H1 Q else tb σ H1 Q
theorem pe_ifExp {c:Expr} (hc:PT X c tA) (ha:PE X a ta) (hb:PE X b tb):PE X (.IfExp c a b pos) (tIf tA ta tb):=by
 intro pins s σ H Q I h
 refine wpAny_IfExp (thn (hc pins s σ H _ I h) fun d s1 ⟨H1,I1,q1⟩=>?_)
 cases d with
 | true=>exact ha pins s1 σ H1 Q I1 q1
 | false=>exact hb pins s1 σ H1 Q I1 q1
end
end L2
namespace L2
open PySem PySem.Spec PyProof.Rows
def SqL (K:PySem.W.Frag) (H:Hp) (a:Addr) (xs:List V):Prop :=
 Rd H a (.lst xs) ∨
  ∃(o:Obj) (its:Array Value) (n:Nat),K.lookup a=some o∧o.cls=.type "list"∧o.dict=none∧o.data=.seq its n∧its.size≤sizeLine∧Vals xs its.toList
def SqT (K:PySem.W.Frag) (H:Hp) (a:Addr) (xs:List V):Prop :=
 Rd H a (.tup xs) ∨
  ∃(o:Obj) (its:Array Value) (n:Nat),K.lookup a=some o∧o.cls=.type "tuple"∧o.data=.seq its n∧its.size≤sizeLine∧Vals xs its.toList
def absV:Value→Option V
 | .none=>some .non
 | .bool b=>some (.bl b)
 | .int i _=>some (.int i)
 | .str x _=>some (.str x)
 | .bytes b _=>some (.byt b)
 | .float b _=>some (.flt b)
 | .ref a=>some (.ref a)
 | .type n=>some (.ty n)
 | _=>none
theorem RelV.abs {x:V} {u:Value} (r:RelV x u):absV u=some x:=by
 cases x with
 | non=>cases r; rfl
 | bl _=>cases r; rfl
 | int _=>obtain⟨t,rfl⟩:=r; rfl
 | str _=>obtain⟨t,rfl⟩:=r; rfl
 | byt _=>obtain⟨t,rfl⟩:=r; rfl
 | flt _=>obtain⟨t,rfl⟩:=r; rfl
 | ref _=>cases r; rfl
 | ty _=>cases r; rfl
theorem RelV.inj {x y:V} {u:Value} (r:RelV x u) (q:RelV y u):x=y:=Option.some.inj (r.abs.symm.trans q.abs)
theorem Vals.inj:∀ {xs ys:List V} {us:List Value},Vals xs us→Vals ys us→xs=ys
 | _,_,_,.nil,.nil=>rfl
 | _,_,_,.cons r t,.cons r' t'=>by rw[r.inj r',Vals.inj t t']
section
variable {X:Cx} {pins:List (Addr × Obj)} {σ:St} {H:Hp} {s:Shared} {a:Addr} {xs ys:List V}
theorem SqL.of {K:PySem.W.Frag} (h:H a=some (.lst xs)):SqL K H a xs:=.inl (.inl h)
theorem SqT.of {K:PySem.W.Frag} (h:H a=some (.tup xs)):SqT K H a xs:=.inl (.inl h)
theorem Inv.list (I:Inv X pins σ H s) (h:SqL X.K H a xs):∃ its:List Value,Vals xs its∧PlainL s.heap a its.toArray∧xs.length≤sizeLine:=by
 rcases h with h|⟨o,its,n,hk,hc,hd,hs,hz,r⟩
 ·obtain⟨z,its,n,r,e⟩:=h.ok I.hok
  exact⟨its,r,⟨_,n,e,rfl,rfl,rfl⟩,z⟩
 ·refine⟨its.toList,r,⟨o,n,I.kIn a o hk,hc,hd,by simpa using hs⟩,?_⟩
  have e:=r.length
  simp only [y6] at e
  omega
theorem Inv.tuple (I:Inv X pins σ H s) (h:SqT X.K H a xs):∃ its:List Value,Vals xs its∧IsTup s.heap a its.toArray∧xs.length≤sizeLine:=by
 rcases h with h|⟨o,its,n,hk,hc,hs,hz,r⟩
 ·obtain⟨z,its,r,p⟩:=h.ok I.hok
  exact⟨its,r,p,z⟩
 ·refine⟨its.toList,r,⟨o,I.kIn a o hk,hc,n,by simpa using hs⟩,?_⟩
  have e:=r.length
  simp only [y6] at e
  omega
theorem Inv.list_inj (I:Inv X pins σ H s) (h:SqL X.K H a xs) (h':SqL X.K H a ys):xs=ys:=by
 obtain⟨its,r,⟨o,n,e,_,_,d⟩,_⟩:=I.list h
 obtain⟨its',r',⟨o',n',e',_,_,d'⟩,_⟩:=I.list h'
 rw[e] at e'; cases e'
 rw[d] at d'
 injection d' with d1 _
 have:its=its':=by simpa using congrArg Array.toList d1
 subst this
 exact r.inj r'
theorem Inv.tuple_inj (I:Inv X pins σ H s) (h:SqT X.K H a xs) (h':SqT X.K H a ys):xs=ys:=by
 obtain⟨its,r,⟨o,e,_,n,d⟩,_⟩:=I.tuple h
 obtain⟨its',r',⟨o',e',_,n',d'⟩,_⟩:=I.tuple h'
 rw[e] at e'; cases e'
 rw[d] at d'
 injection d' with d1 _
 have:its=its':=by simpa using congrArg Array.toList d1
 subst this
 exact r.inj r'
end
abbrev Cx.wish (X:Cx) (E:Value→Shared→Prop):Cx:={ X with xe:=E }
abbrev Cx.nox (X:Cx):Cx:=X.wish fun _ _=>False
theorem Cx.Ok.wish {X:Cx} (ok:X.Ok) (E:Value→Shared→Prop):(X.wish E).Ok :=
 ⟨ok.mod,ok.kind,ok.glob,ok.blt,ok.above,ok.inj,ok.has,ok.cab,ok.hd,ok.frames,ok.stk,ok.exf,ok.bs,ok.bsz,ok.noex,ok.exfs,ok.funs,ok.frf⟩
theorem Cx.Ok.unwish {X:Cx} {E:Value→Shared→Prop} (ok:(X.wish E).Ok):X.Ok :=
 ⟨ok.mod,ok.kind,ok.glob,ok.blt,ok.above,ok.inj,ok.has,ok.cab,ok.hd,ok.frames,ok.stk,ok.exf,ok.bs,ok.bsz,ok.noex,ok.exfs,ok.funs,ok.frf⟩
section
variable {X:Cx} {pins:List (Addr × Obj)} {σ:St} {H:Hp} {s:Shared} {E:Value→Shared→Prop}
theorem Inv.wish (I:Inv X pins σ H s) (E:Value→Shared→Prop):Inv (X.wish E) pins σ H s:=⟨I.ok.wish E,I.os,I.bare,I.base,I.loc,I.cell,I.free,I.freeC,I.pin,I.hok,I.len⟩
theorem Inv.unwish (I:Inv (X.wish E) pins σ H s):Inv X pins σ H s:=⟨I.ok.unwish,I.os,I.bare,I.base,I.loc,I.cell,I.free,I.freeC,I.pin,I.hok,I.len⟩
theorem SP.unwish {D:Ends} {f:Flow} {s':Shared} (h:SP (X.wish E) pins D f s'):SP X pins D f s':=by
 cases f with
 | next=>obtain⟨σ',H',I,q⟩:=h; exact⟨σ',H',I.unwish,q⟩
 | brk=>obtain⟨σ',H',I,q⟩:=h; exact⟨σ',H',I.unwish,q⟩
 | cont=>obtain⟨σ',H',I,q⟩:=h; exact⟨σ',H',I.unwish,q⟩
 | ret u=>obtain⟨v,σ',H',I,r,q⟩:=h; exact⟨v,σ',H',I.unwish,r,q⟩
theorem PSs.nox {st:List Stmt} {t:TS} (h:PSs X.nox st t):PSs X st t:=fun pins s σ H D I hw =>
 wpAny_mono (h pins s σ H D (I.wish _) hw) (fun _ _ q=>q.unwish) fun _ _ z=>False.elim z
end
section
variable {X:Cx} {st:Stmt} {rest:List Stmt} {t u:TS} {e:Expr} {te:TE} {pos:Pos}
def tNext:TS:=fun D σ H=>D.nx σ H
def tSeq (t u:TS):TS:=fun D σ H=>t { D with nx:=u D } σ H
theorem pss_nil:PSs X [] tNext:=fun _ _ σ H _ I h=>wpAny_execs_nil ⟨σ,H,I,h⟩
theorem pss_cons (h1:PS X st t) (h2:PSs X rest u):PSs X (st::rest) (tSeq t u):=by
 intro pins s σ H D I h
 refine wpAny_execs_cons (thn (h1 pins s σ H { D with nx:=u D } I h) fun f s1 q=>?_)
 cases f with
 | next =>
  obtain⟨σ',H',I',q⟩:=q
  exact h2 pins s1 σ' H' D I' q
 | ret v=>exact q
 | brk=>exact q
 | cont=>exact q
theorem pss_one (h1:PS X st t):PSs X [st] t:=by
 intro pins s σ H D I h
 refine wpAny_execs_cons (thn (h1 pins s σ H D I h) fun f s1 q=>?_)
 cases f with
 | next=>exact wpAny_execs_nil q
 | ret v=>exact q
 | brk=>exact q
 | cont=>exact q
theorem Inv.quiet {pins:List (Addr × Obj)} {σ:St} {H:Hp} {s:Shared} (I:Inv X pins σ H s):interactive X.env=false:=by simp [interactive,I.ok.kind]
def tDrop (te:TE):TS:=fun D σ H=>te σ H fun _ H1=>D.nx σ H1
theorem ps_expr (he:PE X e te) (hs:swapsWith e none pos.line X.env=pure false:=by rfl):PS X (.Expr e pos) (tDrop te):=by
 intro pins s σ H D I h
 exact wpAny_Expr_any (thn (he pins s σ H _ I h) fun v s1 ⟨x,H1,I1,r1,q1⟩=>⟨σ,H1,I1,q1⟩) I.quiet hs
def tRet (te:TE):TS:=fun D σ H=>te σ H D.rt
theorem ps_ret (he:PE X e te):PS X (.Return (some e) pos) (tRet te):=by
 intro pins s σ H D I h
 exact wpAny_Return_some (thn (he pins s σ H _ I h) fun v s1 ⟨x,H1,I1,r1,q1⟩=>⟨x,σ,H1,I1,r1,q1⟩)
def tIfS (c:TT) (t u:TS):TS:=fun D σ H=>c σ H fun b H1=>if b=true then t D σ H1 else u D σ H1
theorem ps_if {c:Expr} {a b:List Stmt} {tc:TT} (hc:PT X c tc) (ha:PSs X a t) (hb:PSs X b u):PS X (.If c a b pos) (tIfS tc t u):=by
 intro pins s σ H D I h
 refine wpAny_If (thn (hc pins s σ H _ I h) fun d s1 ⟨H1,I1,q1⟩=>?_)
 cases d with
 | true=>exact ha pins s1 σ H1 D I1 q1
 | false=>exact hb pins s1 σ H1 D I1 q1
end
abbrev TG:=V→St→Hp→(St→Hp→Prop)→Prop
abbrev TGs:=List V→St→Hp→(St→Hp→Prop)→Prop
def PG (X:Cx) (target:Expr) (t:TG):Prop :=
 ∀(pins:List (Addr × Obj)) (s:Shared) (σ:St) (H:Hp) (v:V) (u:Value) (Q:St→Hp→Prop),Inv X pins σ H s→RelV v u→t v σ H Q →
  wpAny (model X.prog X.w) X.A (assign target X.env u) (fun _ s'=>∃ σ' H',Inv X pins σ' H' s'∧Q σ' H') X.xe s
def PGs (X:Cx) (ts:List Expr) (t:TGs):Prop :=
 ∀(pins:List (Addr × Obj)) (s:Shared) (σ:St) (H:Hp) (vs:List V) (us:List Value) (Q:St→Hp→Prop),Inv X pins σ H s→Vals vs us→t vs σ H Q →
  wpAny (model X.prog X.w) X.A (assignInOrder ((assignEach ts X.env).map (·.2)) us) (fun _ s'=>∃ σ' H',Inv X pins σ' H' s'∧Q σ' H') X.xe s
abbrev TSet:=V→V→V→Hp→(Hp→Prop)→Prop
def PSet (X:Cx) (t:TSet):Prop :=
 ∀(pins:List (Addr × Obj)) (s:Shared) (σ:St) (H:Hp) (o i v:V) (ov iv u:Value) (Q:Hp→Prop),Inv X pins σ H s→RelV o ov→RelV i iv→RelV v u→t o i v H Q →
  wpAny (model X.prog X.w) X.A (setItem ov iv u) (fun _ s'=>∃ H',Inv X pins σ H' s'∧Q H') X.xe s
section
variable {X:Cx} {pos:Pos}
def gName (i:Nat):TG:=fun v σ H Q=>Q (σ.set i (some v)) H
theorem pg_name {i:Nat} {x:Str} (hN:X.N.Nodup) (hi:X.N[i]?=some x) (hx:Loc X.env.scope x) (hf:X.fn x=true∨X.env.scope.names.lookup x=some .local:=by first|exact .inl rfl|exact .inr rfl|assumption):PG X (.Name x pos) (gName i):=by
 intro pins s σ H v u Q I r h
 exact wpAny_assign_Name (store_ok I hN hi hx r (fun s' I'=>⟨_,H,I',h⟩) hf)
def gNil:TGs:=fun vs σ H Q=>vs=[]∧Q σ H
inductive gCons (t:TG) (u:TGs) (vs:List V) (σ:St) (H:Hp) (Q:St→Hp→Prop):Prop where
 | mk (v r:_) (h_0:vs=v::r) (h_1:t v σ H fun σ' H'=>u r σ' H' Q):gCons t u vs σ H Q
theorem pgs_nil:PGs X [] gNil:=by
 intro pins s σ H vs us Q I r h
 obtain⟨e,h⟩:=h
 subst e
 cases r
 exact assignInOrder_nil ⟨σ,H,I,h⟩
theorem pgs_cons {e:Expr} {es:List Expr} {t:TG} {u:TGs} (h1:PG X e t) (h2:PGs X es u)
  (hs:(assignEach (e::es) X.env).map (·.2)=assign e X.env::(assignEach es X.env).map (·.2):=by rfl):PGs X (e::es) (gCons t u):=by
 intro pins s σ H vs us Q I r h
 obtain⟨v,vr,e1,h⟩:=h
 subst e1
 cases r with
 | cons r rr =>
  rw[hs]
  refine assignInOrder_cons (thn (h1 pins s σ H _ _ _ I r h) fun _ s1 ⟨σ1,H1,I1,q1⟩=>?_)
  exact h2 pins s1 σ1 H1 _ _ Q I1 rr q1
inductive gTup (K:PySem.W.Frag) (n:Nat) (t:TGs) (v:V) (σ:St) (H:Hp) (Q:St→Hp→Prop):Prop where
 | mk (a xs:_) (h_0:v=.ref a) (h_1:SqT K H a xs) (h_2:xs.length=n) (h_3:t xs σ H Q):gTup K n t v σ H Q
theorem pg_tup {es:List Expr} {k:Nat} {t:TGs} {n:Nat} (hc:X.calm=true) (h:PGs X es t)
  (hn:(assignEach es X.env).length=n:=by rfl) (hst:(assignEach es X.env).findIdx? (·.1)=none:=by rfl):PG X (.Tuple es k pos) (gTup X.K n t):=by
 intro pins s σ H v u Q I r hw
 obtain⟨a,xs,e1,hq,hl,hw⟩:=hw
 subst e1
 cases r
 obtain⟨its,rv,ht,hz⟩:=I.tuple hq
 refine assign_Tuple_tuple (I.ok.hd hc) ht (by simp [hn,← hl,rv.length]) hst fun h' hx=>?_
 have I1:Inv X pins σ H { s with heap:=h' }:=I.kept (t':=s.toks) fun b o e=>hx b o (zR (Heap.lt_size e)) e
 exact h pins _ σ H xs _ Q I1 (by simpa using rv) hw
def gSub (to ti:TE) (t:TSet):TG:=fun v σ H Q=>to σ H fun o H1=>ti σ H1 fun i H2=>t o i v H2 fun H3=>Q σ H3
theorem pg_sub {o i:Expr} {to ti:TE} {t:TSet} (ho:PE X o to) (hi:PE X i ti) (hs:PSet X t)
  (ha:∀ v,assign (.Subscript o i pos) X.env v=(do
   let ov ← holding [v] (eval o X.env)
   let iv ← holding [v,ov] (eval i X.env)
   standAt pos
   holding [v,ov,iv] (setItem ov iv v)
   release [v,ov,iv] []):=by intro _; rfl):PG X (.Subscript o i pos) (gSub to ti t):=by
 intro pins s σ H v u Q I r h
 rw[ha]
 refine wpAny_bind (wpAny_holding (thn (ho pins s σ H _ I h) fun ov s1 ⟨x,H1,I1,r1,q1⟩=>?_))
 refine wpAny_bind (wpAny_holding (thn (hi pins s1 σ H1 _ I1 q1) fun iv s2 ⟨y,H2,I2,r2,q2⟩=>?_))
 refine wpAny_bind (wpAny_standAt (wpAny_bind (wpAny_holding (thn (hs pins s2 σ H2 x y v ov iv u _ I2 r1 r2 r q2) fun _ s3 ⟨H3,I3,q3⟩=>?_))))
 exact wpAny_release ⟨σ,H3,I3,q3⟩
def tAsg (te:TE) (g:TG):TS:=fun D σ H=>te σ H fun x H1=>g x σ H1 D.nx
theorem ps_asg {tg e:Expr} {te:TE} {g:TG} (he:PE X e te) (hg:PG X tg g) (hs:swapsWithSole [tg] e pos.line X.env=pure false:=by rfl) (hw:swappedStores [tg] e X.env=pure none:=by rfl)
  (h1:(assignEach [tg] X.env).map (·.2)=[assign tg X.env]:=by rfl):PS X (.Assign [tg] e pos) (tAsg te g):=by
 intro pins s σ H D I h
 refine wpAny_Assign_stores (thn (he pins s σ H _ I h) fun v s1 ⟨x,H1,I1,r1,q1⟩=>?_) hs hw
 rw[h1]
 exact thn (hg pins s1 σ H1 x v _ I1 r1 q1) fun _ s2 q=>q
theorem ps_set {i:Nat} {x:Str} {e:Expr} {te:TE} {pos':Pos} (hN:X.N.Nodup) (hi:X.N[i]?=some x) (hx:Loc X.env.scope x) (he:PE X e te) (hs:swapsWith e (some (.Name x pos')) pos.line X.env=pure false:=by rfl) (hf:X.fn x=true∨X.env.scope.names.lookup x=some .local:=by first|exact .inl rfl|exact .inr rfl|assumption) :
  PS X (.Assign [.Name x pos'] e pos) (tAsg te (gName i)):=by
 intro pins s σ H D I h
 refine wpAny_Assign_Name (thn (he pins s σ H _ I h) fun v s1 ⟨y,H1,I1,r1,q1⟩=>?_) hs
 exact store_ok I1 hN hi hx r1 (fun s2 I2=>⟨_,H1,I2,q1⟩) hf
end
section
variable {X:Cx} {pos:Pos}
end
structure It where
 go:Nat→Hp→Prop
 yld:Nat→Hp→V→Hp→Prop
 stop:Nat→Hp→Prop
def FpOk (X:Cx) (pins:List (Addr × Obj)) (H:Hp) (b:Addr):Prop :=
 H b=none∧b ≠ X.env.locals∧b ∉ X.fs∧(b ∈ X.ex∨X.s₀.heap.objs.size≤b)∧(∀ x c,X.env.cells.lookup x=some c→c ≠ b)∧∀ p ∈ X.pn++pins,p.1 ≠ b
theorem Inv.fpOk {X:Cx} {pins:List (Addr × Obj)} {σ:St} {H H':Hp} {s:Shared} {b:Addr} (I:Inv X pins σ H s) (hb:s.heap.objs.size≤b) (hn:H' b=none):FpOk X pins H' b:=by
 refine⟨hn,j5 (zO I.lt hb),I.nofs hb,.inr (z4 I.sz hb),fun x c e z=>?_,fun p hp z=>?_⟩
 ·obtain⟨v,q⟩:=I.cell x c e
  exact absurd (zO q.lt (by rw[z]; exact hb)) (y3 _)
 ·exact absurd (zO (Heap.lt_size (I.pin p hp).1) (by rw[z]; exact hb)) (y3 _)
structure Turn (P:Program) (w:World) (K:PySem.W.Frag) (tg:Expr) (J:It) (fp:List Addr) (it:Addr) (tn:Nat→Heap→Prop):Prop where
 mem:it ∈ fp
 obj:∀ i h,tn i h→∀ b ∈ fp,∃ o,h.get? b=some o∧∀ v,o.data ≠ .cell v
 keep:∀ i h h',tn i h→(∀ b ∈ fp,∀ o,h.get? b=some o→h'.get? b=some o)→tn i h'
 item:∀(X:Cx),X.prog=P→X.w=w→X.K=K→X.calm=true→∀(i:Nat) (pins:List (Addr × Obj)) (s:Shared) (σ:St) (H:Hp) (E:Value→Shared→Prop),Inv X pins σ H s→(∀ b ∈ fp,FpOk X pins H b)→tn i s.heap→J.go i H →
  wpAny (model P w) X.A (pyNext (.ref it)) (fun r s1=>∃ u,r=some u ∧
   wpAny (model P w) X.A (letOwnedTupleGo tg (.ref it) u) (fun _ s2=>∃ x H',Inv X pins σ H' s2∧RelV x u∧J.yld i H x H'∧tn (i + 1) s2.heap∧∀ b ∈ fp,H' b=none) E s1) E s
 done:∀(X:Cx),X.prog=P→X.w=w→X.K=K→X.calm=true→∀(i:Nat) (pins:List (Addr × Obj)) (s:Shared) (σ:St) (H:Hp) (E:Value→Shared→Prop),Inv X pins σ H s→(∀ b ∈ fp,FpOk X pins H b)→tn i s.heap→J.stop i H →
  wpAny (model P w) X.A (pyNext (.ref it)) (fun r s1=>r=none∧Inv X pins σ H s1) E s
 self:∀(A:Around) (i:Nat) (s:Shared) (Q:Value→Shared→Prop) (E:Value→Shared→Prop),tn i s.heap→Q (.ref it) s→wpAny (model P w) A (pyIter (.ref it)) Q E s
abbrev TI:=St→Hp→(It→Hp→Prop)→Prop
def PIE (X:Cx) (pins:List (Addr × Obj)) (σ:St) (tg:Expr) (R:It→Hp→Prop) (itv:Value) (s2:Shared):Prop :=
 ∃(it:Addr) (fp:List Addr) (tn:Nat→Heap→Prop) (J:It) (H':Hp),itv=.ref it∧Inv X pins σ H' s2∧Turn X.prog X.w X.K tg J fp it tn∧tn 0 s2.heap∧(∀ b ∈ fp,FpOk X pins H' b)∧R J H'
def PI (X:Cx) (tg iter:Expr) (wi:TI):Prop :=
 ∀(pins:List (Addr × Obj)) (s:Shared) (σ:St) (H:Hp) (R:It→Hp→Prop),Inv X pins σ H s→wi σ H R →
  wpAny (model X.prog X.w) X.A (eval iter X.env) (fun v s1=>wpAny (model X.prog X.w) X.A (pyIter v) (PIE X pins σ tg R) X.xe s1) X.xe s
theorem go_of {M:Model} {A:Around} {E:Value→Shared→Prop} {s:Shared} {tg:Expr} {it:Addr} {u:Value} {o:Obj} {n:String} {vs:Array Value} {Q:Unit→Shared→Prop} (ho:s.heap.get? it=some o) (hc:o.cls=.type n) (hd:o.data=.fields vs)
  (hn:["enumerate","zip","dict_itemiterator","dict_reverseitemiterator","odict_iterator","itertools.zip_longest","itertools.pairwise"].contains n=false) (hQ:Q () s):wpAny M A (letOwnedTupleGo tg (.ref it) u) Q E s:=by
 unfold letOwnedTupleGo
 cases tg <;> first
  | exact wpAny_pure hQ
  | (cases u <;> first
    | exact wpAny_pure hQ
    | (refine wpAny_bind (wpAny_load ho ?_)
       rw[hc,hd]
       show wpAny M A (if (["enumerate","zip","dict_itemiterator","dict_reverseitemiterator","odict_iterator","itertools.zip_longest","itertools.pairwise"].contains n && vs[0]? == some (rawInt _))=true then _ else _) Q E s
       rw[if_neg (by intro h; rw[hn,Bool.false_and] at h; cases h)]
       exact wpAny_pure hQ))
def Itl (K:PySem.W.Frag) (a:Addr):It :=
 ⟨fun i H=>∃ xs x,SqL K H a xs∧xs[i]?=some x,fun i H x H'=>H'=H∧∀ xs,SqL K H a xs→xs[i]?=some x,fun i H=>∃ xs,SqL K H a xs∧xs.length≤i⟩
def Itt (K:PySem.W.Frag) (a:Addr):It :=
 ⟨fun i H=>∃ xs x,SqT K H a xs∧xs[i]?=some x,fun i H x H'=>H'=H∧∀ xs,SqT K H a xs→xs[i]?=some x,fun i H=>∃ xs,SqT K H a xs∧xs.length≤i⟩
def Itr (lo:Int) (n:Nat):It:=⟨fun i _=>i < n,fun i H x H'=>H'=H∧x=.int (lo + i),fun i _=>n≤i⟩
theorem turn_list {P:Program} {w:World} {K:PySem.W.Frag} {tg:Expr} (a it:Addr):Turn P w K tg (Itl K a) [it] it (fun i h=>h.IsListIter it a i) where
 mem:=by simp
 obj:=fun i h st b hb=>by
  have e:b=it:=by simpa using hb
  subst e
  obtain⟨o,e,c,d⟩:=st
  exact⟨o,e,fun v z=>by rw[d] at z; cases z⟩
 keep:=fun i h h' st k=>st.at fun o e=>k it (by simp) o e
 item:=by
  intro X hP hw hK hc i pins s σ H E I hf st hg
  subst hP hw hK
  obtain⟨xs,x,hq,hx⟩:=hg
  obtain⟨its,rv,p,hz⟩:=I.list hq
  obtain⟨u,hu,ru⟩:=rv.get hx
  obtain⟨f0,f1,f2,f3,f4,f5⟩:=hf it (by simp)
  refine wpAny_pyNext_list_item st p.isList (x:=u) (by simpa using hu) fun h' st' sb=>?_
  have I1:Inv X pins σ H { s with heap:=h' }:=I.turned (t':=s.toks) (fun b o hb e=>(sb.2 b hb).trans e) f0 f1 f3 f4 f5
  obtain⟨o,e,c,d⟩:=id st'
  exact⟨u,rfl,go_of (s:={ s with heap:=h' }) e c d (by decide) ⟨x,H,I1,ru,⟨rfl,fun ys hy=>by rw[I.list_inj hy hq]; exact hx⟩,st',fun b hb=>(hf b hb).1⟩⟩
 done:=by
  intro X hP hw hK hc i pins s σ H E I hf st hg
  subst hP hw hK
  obtain⟨xs,hq,hx⟩:=hg
  obtain⟨its,rv,p,hz⟩:=I.list hq
  obtain⟨f0,f1,f2,f3,f4,f5⟩:=hf it (by simp)
  have hl:=rv.length
  exact wpAny_pyNext_list_end (I.ok.hd hc) st p.isList (by simp; omega) fun h' eb=>⟨rfl,I.turned (t':=s.toks) (fun b o hb e=>eb b o hb e) f0 f1 f3 f4 f5⟩
 self:=fun _ _ _ _ _ st h=>wpAny_pyIter_listiter st h
theorem turn_tuple {P:Program} {w:World} {K:PySem.W.Frag} {tg:Expr} (a it:Addr):Turn P w K tg (Itt K a) [it] it (fun i h=>h.IsTupleIter it a i) where
 mem:=by simp
 obj:=fun i h st b hb=>by
  have e:b=it:=by simpa using hb
  subst e
  obtain⟨o,e,c,d⟩:=st
  exact⟨o,e,fun v z=>by rw[d] at z; cases z⟩
 keep:=fun i h h' st k=>st.at fun o e=>k it (by simp) o e
 item:=by
  intro X hP hw hK hc i pins s σ H E I hf st hg
  subst hP hw hK
  obtain⟨xs,x,hq,hx⟩:=hg
  obtain⟨its,rv,p,hz⟩:=I.tuple hq
  obtain⟨u,hu,ru⟩:=rv.get hx
  obtain⟨f0,f1,f2,f3,f4,f5⟩:=hf it (by simp)
  refine wpAny_pyNext_tuple_item st (show s.heap.IsTuple a its.toArray from p) (x:=u) (by simpa using hu) fun h' st' sb=>?_
  have I1:Inv X pins σ H { s with heap:=h' }:=I.turned (t':=s.toks) (fun b o hb e=>(sb.2 b hb).trans e) f0 f1 f3 f4 f5
  obtain⟨o,e,c,d⟩:=id st'
  exact⟨u,rfl,go_of (s:={ s with heap:=h' }) e c d (by decide) ⟨x,H,I1,ru,⟨rfl,fun ys hy=>by rw[I.tuple_inj hy hq]; exact hx⟩,st',fun b hb=>(hf b hb).1⟩⟩
 done:=by
  intro X hP hw hK hc i pins s σ H E I hf st hg
  subst hP hw hK
  obtain⟨xs,hq,hx⟩:=hg
  obtain⟨its,rv,p,hz⟩:=I.tuple hq
  obtain⟨f0,f1,f2,f3,f4,f5⟩:=hf it (by simp)
  have hl:=rv.length
  exact wpAny_pyNext_tuple_end (I.ok.hd hc) st (show s.heap.IsTuple a its.toArray from p) (by simp; omega) fun h' eb=>⟨rfl,I.turned (t':=s.toks) (fun b o hb e=>eb b o hb e) f0 f1 f3 f4 f5⟩
 self:=fun _ _ _ _ _ st h=>wpAny_pyIter_tupleiter st h
theorem turn_range {P:Program} {w:World} {K:PySem.W.Frag} {tg:Expr} (it:Addr) (lo:Int) (n:Nat):Turn P w K tg (Itr lo n) [it] it (fun i h=>IsRangeIter h it (lo + (i:Nat) * 1) ((n:Int) - (i:Nat)) 1) where
 mem:=by simp
 obj:=fun i h st b hb=>by
  have e:b=it:=by simpa using hb
  subst e
  exact⟨_,st,fun v z=>by
   have z':Data.fields _=Data.cell v:=z
   cases z'⟩
 keep:=fun i h h' st k=>k it (by simp) _ st
 item:=by
  intro X hP hw hK hc i pins s σ H E I hf st hg
  subst hP hw hK
  obtain⟨f0,f1,f2,f3,f4,f5⟩:=hf it (by simp)
  have W:=Walks.range (prog:=X.prog) (w:=X.w) (I.ok.hd hc) it lo 1 n
  refine W.item i s _ _ hg st fun v h' tk hv st' kk=>?_
  obtain⟨t,rfl⟩:=hv
  have I1:Inv X pins σ H { s with heap:=h',toks:=tk }:=I.turned (fun b o hb e=>kk b o (by simpa using hb) e) f0 f1 f3 f4 f5
  refine⟨_,rfl,go_of (s:={ s with heap:=h',toks:=tk }) (n:="range_iterator") st' rfl rfl (by decide) ⟨.int (lo + i),H,I1,⟨t,?_⟩,⟨rfl,rfl⟩,st',fun b hb=>(hf b hb).1⟩⟩
  rw[Int.mul_one]
 done:=by
  intro X hP hw hK hc i pins s σ H E I hf st hg
  subst hP hw hK
  obtain⟨f0,f1,f2,f3,f4,f5⟩:=hf it (by simp)
  exact wpAny_pyNext_range_end (I.ok.hd hc) st (by have:n≤i:=hg; omega) fun h' eb=>⟨rfl,I.turned (t':=s.toks) (fun b o hb e=>eb b o hb e) f0 f1 f3 f4 f5⟩
 self:=fun _ _ _ _ _ st h=>wpAny_pyIter_rangeiter st h
end L2
namespace L2
open PySem PySem.Spec PyProof.Rows
section
variable {X:Cx} {tg:Expr}
inductive iList_ (K:PySem.W.Frag) (R:It→Hp→Prop) (x:V) (H1:Hp):Prop where
 | mk (a:_) (h_0:x=.ref a) (h_1:(∃ xs,SqL K H1 a xs)) (h_2:R (Itl K a) H1):iList_ K R x H1
def iList (K:PySem.W.Frag) (tl:TE):TI:=fun σ H R=>tl σ H fun x H1=>iList_ K R x H1
inductive iTup_ (K:PySem.W.Frag) (R:It→Hp→Prop) (x:V) (H1:Hp):Prop where
 | mk (a:_) (h_0:x=.ref a) (h_1:(∃ xs,SqT K H1 a xs)) (h_2:R (Itt K a) H1):iTup_ K R x H1
def iTup (K:PySem.W.Frag) (tl:TE):TI:=fun σ H R=>tl σ H fun x H1=>iTup_ K R x H1
theorem pi_list {l:Expr} {tl:TE} (hl:PE X l tl):PI X tg l (iList X.K tl):=by
 intro pins s σ H R I h
 refine thn (hl pins s σ H _ I h) fun v s1 ⟨x,H1,I1,r1,q1⟩=>?_
 obtain⟨a,e,⟨xs,hq⟩,q⟩:=q1
 subst e
 cases r1
 obtain⟨its,rv,p,hz⟩:=I1.list hq
 refine wpAny_pyIter_list p.isList ?_
 refine⟨s1.heap.objs.size,[s1.heap.objs.size],_,_,H1,rfl,I1.kept (t':=s1.toks) fun b o e=>Heap.get?_push_of_some _ e,turn_list a _,⟨_,Heap.get?_push_size _ rfl,rfl,rfl⟩,fun b hb=>?_,q⟩
 have e:b=s1.heap.objs.size:=by simpa using hb
 subst e
 exact I1.fpOk (zH _) (I1.hok.fresh (zH _))
theorem pi_tup {l:Expr} {tl:TE} (hl:PE X l tl):PI X tg l (iTup X.K tl):=by
 intro pins s σ H R I h
 refine thn (hl pins s σ H _ I h) fun v s1 ⟨x,H1,I1,r1,q1⟩=>?_
 obtain⟨a,e,⟨xs,hq⟩,q⟩:=q1
 subst e
 cases r1
 obtain⟨its,rv,p,hz⟩:=I1.tuple hq
 refine wpAny_pyIter_tuple (show s1.heap.IsTuple a its.toArray from p) ?_
 refine⟨s1.heap.objs.size,[s1.heap.objs.size],_,_,H1,rfl,I1.kept (t':=s1.toks) fun b o e=>Heap.get?_push_of_some _ e,turn_tuple a _,⟨_,Heap.get?_push_size _ rfl,rfl,rfl⟩,fun b hb=>?_,q⟩
 have e:b=s1.heap.objs.size:=by simpa using hb
 subst e
 exact I1.fpOk (zH _) (I1.hok.fresh (zH _))
theorem range_it {pins:List (Addr × Obj)} {σ:St} {H:Hp} {s:Shared} {R:It→Hp→Prop} {E:Value→Shared→Prop} {lo hi:Int} {t u v:Tok} {tk:Nat} (I:Inv X pins σ H s) (h1:-(2 ^ 62)≤lo) (h2:lo < 2 ^ 62) (h3:-(2 ^ 62)≤hi) (h4:hi < 2 ^ 62)
  (q:R (Itr lo (hi - lo).toNat) H):wpAny (model X.prog X.w) X.A (pyIter (.ref s.heap.objs.size)) (PIE X pins σ tg R) E { s with heap:=s.heap.push { cls:=.type "range",data:=.fields #[.int lo t,.int hi u,.int 1 v] },toks:=tk }:=by
 refine wpAny_pyIter_range (IsRange.new ..) (small_one h1 h2 h3 h4) ?_
 have I1:Inv X pins σ H { s with heap:=s.heap.push { cls:=.type "range",data:=.fields #[.int lo t,.int hi u,.int 1 v] },toks:=tk }:=I.kept fun b o e=>Heap.get?_push_of_some _ e
 refine⟨(s.heap.push { cls:=.type "range",data:=.fields #[.int lo t,.int hi u,.int 1 v] }).objs.size,[(s.heap.push { cls:=.type "range",data:=.fields #[.int lo t,.int hi u,.int 1 v] }).objs.size],_,_,H,rfl,
  I1.kept (t':=tk) fun b o e=>Heap.get?_push_of_some _ e,turn_range _ lo (hi - lo).toNat,?_,fun b hb=>?_,q⟩
 ·have e1:lo + ((0:Nat):Int) * 1=lo:=by simp
  have e2:(((hi - lo).toNat:Nat):Int) - ((0:Nat):Int)=Builtin.Range.rangeSize lo hi 1:=by rw[rangeSize_one]; split <;> omega
  show IsRangeIter _ _ (lo + ((0:Nat):Int) * 1) ((((hi - lo).toNat:Nat):Int) - ((0:Nat):Int)) 1
  rw[e1,e2]
  exact Heap.get?_push_size _ rfl
 ·have e:b=(s.heap.push { cls:=.type "range",data:=.fields #[.int lo t,.int hi u,.int 1 v] }).objs.size:=by simpa using hb
  subst e
  exact I1.fpOk (zH _) (I1.hok.fresh (zH _))
inductive iRng1_ (R:It→Hp→Prop) (vs:List V) (H1:Hp):Prop where
 | mk (j:Int) (h_0:vs=[.int j]) (h_1:-(2 ^ 62)≤j) (h_2:j < 2 ^ 62) (h_3:R (Itr 0 j.toNat) H1):iRng1_ R vs H1
def iRng1 (ta:TA):TI:=fun σ H R=>ta σ H fun vs H1=>iRng1_ R vs H1
theorem pi_range1 {a:Expr} {ta:TA} {p pos:Pos} (hg:Gl X "range") (hm:X.mg "range"=none) (ha:PA X [a] ta) (hs:starEach [a] X.env=[(false,eval a X.env)]:=by rfl):PI X tg (.Call (.Name "range" p) [a] [] pos) (iRng1 ta):=by
 intro pins s σ H R I h
 refine Call_ (ld_blt I hg hm boot_range (PyProof.Rows.callWith_type1 (thn (ha pos pins s σ H _ I h) fun us s1 ⟨vs,H1,I1,r1,q1⟩=>?_) hs rfl))
 obtain⟨j,e,q1,q2,q⟩:=q1
 subst e
 cases r1 with
 | cons r rr =>
  cases rr
  obtain⟨t,rfl⟩:=r
  exact call_range_1 (range_it I1 (by omega) (by omega) q1 q2 (by simpa using q))
def tFor (wi:TI) (g:TG) (tb:TS):TS:=fun D σ H=>wi σ H fun J H1=>∃ W:Nat→Nat→St→Hp→Prop,(∃ m,W 0 m σ H1)∧∀ i m σ H,W i m σ H →
 (J.stop i H∧D.nx σ H)∨(J.go i H∧∃ N:St→Hp→Prop,(∀ σ' H',N σ' H'→∃ m',m' < m∧W (i + 1) m' σ' H')∧∀ x H',J.yld i H x H'→g x σ H' fun σ2 H2=>tb { D with nx:=N,ct:=N,bk:=D.nx } σ2 H2)
def pinsAt (fp:List Addr) (h:Heap):List (Addr × Obj):=fp.filterMap fun b=>(h.get? b).map fun o=>(b,o)
theorem mem_pinsAt {fp:List Addr} {h:Heap} {b:Addr} {o:Obj} (hb:b ∈ fp) (e:h.get? b=some o):(b,o) ∈ pinsAt fp h:=yU.mpr ⟨b,hb,by rw[e]; rfl⟩
theorem of_pinsAt {fp:List Addr} {h:Heap} {p:Addr × Obj} (hp:p ∈ pinsAt fp h):p.1 ∈ fp∧h.get? p.1=some p.2:=by
 obtain⟨b,hb,e⟩:=yU.mp hp
 cases q:h.get? b with
 | none=>rw[q] at e; cases e
 | some o =>
  rw[q] at e
  have e':(b,o)=p:=Option.some.inj e
  subst e'
  exact⟨hb,q⟩
theorem Inv.pinned {pins:List (Addr × Obj)} {σ:St} {H:Hp} {s:Shared} {fp:List Addr} (I:Inv X pins σ H s) (hf:∀ b ∈ fp,FpOk X pins H b) (ho:∀ b ∈ fp,∃ o,s.heap.get? b=some o∧∀ v,o.data ≠ .cell v):Inv X (pins++pinsAt fp s.heap) σ H s :=
 I.pins_of fun p hp=>(yA.mp hp).elim (fun z=>I.pin p (zP _ z)) fun z=>by
  obtain⟨hb,e⟩:=of_pinsAt z
  obtain⟨f0,f1,f2,_⟩:=hf p.1 hb
  obtain⟨o,e',d⟩:=ho p.1 hb
  rw[e] at e'; cases e'
  exact⟨e,f0,f1,f2,d⟩
theorem Inv.unpinned {pins pl:List (Addr × Obj)} {σ:St} {H:Hp} {s:Shared} (I:Inv X (pins++pl) σ H s):Inv X pins σ H s:=I.pins_of fun p hp=>I.pin p (zP _ (y2 _ hp))
theorem ps_for {iter:Expr} {body:List Stmt} {wi:TI} {g:TG} {tb:TS} {pos:Pos} (hp:PassesOwn (model X.prog X.w) X.A X.env X.xe) (hc:X.calm=true) (hi:PI X tg iter wi) (hg:PG X tg g) (hb:PSs X body tb)
  (hs:∀ x,foldedSetIterable iter X.env x=pure x:=by intro _; rfl):PS X (.For tg iter body [] pos) (tFor wi g tb):=by
 intro pins s σ H D I h
 refine wpAny_For (thn (hi pins s σ H _ I h) fun v s1 h1=>thn h1 fun itv s2 h2=>?_) hs
 obtain⟨it,fp,tn,J,H2,e,I2,T,st2,f2,W,⟨m0,w0⟩,turn⟩:=h2
 subst e
 have stat:∀ {H':Hp},(∀ b ∈ fp,H' b=none)→∀ b ∈ fp,FpOk X pins H' b:=fun hn b hb=>⟨hn b hb,(f2 b hb).2⟩
 refine codeAny_forLoop_any (fun n s'=>∃ i σ' H',Inv X pins σ' H' s'∧tn i s'.heap∧(∀ b ∈ fp,H' b=none)∧W i n σ' H') ?_ m0 ⟨0,σ,H2,I2,st2,fun b hb=>(f2 b hb).1,w0⟩
 rintro n s3 ⟨i,σ3,H3,I3,st3,fr3,w3⟩
 rcases turn i n σ3 H3 w3 with ⟨stop,qn⟩|⟨go,N,hN,step⟩
 ·refine wpAny_passesOwn hp (thn (T.done X rfl rfl rfl hc i pins s3 σ3 H3 X.xe I3 (stat fr3) st3 stop) fun r s4 ⟨hr,I4⟩=>?_)
  subst hr
  exact wpAny_execs_nil ⟨σ3,H3,I4,qn⟩
 ·refine wpAny_passesOwn hp (thn (T.item X rfl rfl rfl hc i pins s3 σ3 H3 X.xe I3 (stat fr3) st3 go) fun r s4 ⟨u,hr,h4⟩=>?_)
  subst hr
  refine wpAny_passesOwn hp (thn h4 fun _ s5 ⟨x,H5,I5,r5,y5,st5,fr5⟩=>?_)
  have I5':=I5.pinned (stat fr5) (T.obj _ _ st5)
  refine wpAny_passesOwn hp (thn (hg _ s5 σ3 H5 x u _ I5' r5 (step x H5 y5)) fun _ s6 ⟨σ6,H6,I6,q6⟩=>?_)
  refine wpAny_passesOwn hp (thn (hb _ s6 σ6 H6 _ I6 q6) fun f s7 q7=>?_)
  have again:∀ {σ7:St} {H7:Hp},Inv X (pins++pinsAt fp s5.heap) σ7 H7 s7→N σ7 H7→∃ m,m < n∧∃ i σ' H',Inv X pins σ' H' s7∧tn i s7.heap∧(∀ b ∈ fp,H' b=none)∧W i m σ' H':=fun {σ7 H7} I7 n7=>by
   obtain⟨m',hm,w7⟩:=hN σ7 H7 n7
   refine⟨m',hm,i + 1,σ7,H7,I7.unpinned,T.keep _ _ _ st5 fun b hb o e=>(I7.pin (b,o) (zP _ (zP _ (mem_pinsAt hb e)))).1,fun b hb=>?_,w7⟩
   obtain⟨o,e,d⟩:=T.obj _ _ st5 b hb
   exact(I7.pin (b,o) (zP _ (zP _ (mem_pinsAt hb e)))).2.1
  cases f with
  | next=>obtain⟨σ7,H7,I7,n7⟩:=q7; exact again I7 n7
  | cont=>obtain⟨σ7,H7,I7,n7⟩:=q7; exact again I7 n7
  | brk=>obtain⟨σ7,H7,I7,q7⟩:=q7; exact⟨σ7,H7,I7.unpinned,q7⟩
  | ret v=>obtain⟨x7,σ7,H7,I7,r7,q7⟩:=q7; exact⟨x7,σ7,H7,I7.unpinned,r7,q7⟩
end
theorem for_list {K:PySem.W.Frag} {a:Addr} {xs:List V} {g:TG} {tb:TS} {D:Ends} {σ:St} {H:Hp} (Pv:Nat→St→Hp→Prop) (h0:Pv 0 σ H) (hl:∀ i σ H,i≤xs.length→Pv i σ H→SqL K H a xs)
  (hs:∀ i x σ H,xs[i]?=some x→Pv i σ H→g x σ H fun σ2 H2=>tb { D with nx:=Pv (i + 1),ct:=Pv (i + 1),bk:=D.nx } σ2 H2) (hd:∀ σ H,Pv xs.length σ H→D.nx σ H) :
  ∃ W:Nat→Nat→St→Hp→Prop,(∃ m,W 0 m σ H)∧∀ i m σ H,W i m σ H →
   ((Itl K a).stop i H∧D.nx σ H)∨((Itl K a).go i H∧∃ N:St→Hp→Prop,(∀ σ' H',N σ' H'→∃ m',m' < m∧W (i + 1) m' σ' H')∧∀ x H',(Itl K a).yld i H x H'→g x σ H' fun σ2 H2=>tb { D with nx:=N,ct:=N,bk:=D.nx } σ2 H2):=by
 refine⟨fun i m σ H=>m=xs.length - i∧i≤xs.length∧Pv i σ H,⟨xs.length,by simp,zW _,h0⟩,?_⟩
 rintro i m σ H ⟨rfl,hi,p⟩
 have q:=hl i σ H hi p
 by_cases hlt:i < xs.length
 ·refine .inr ⟨⟨xs,xs[i],q,by simp [hlt]⟩,Pv (i + 1),fun σ' H' p'=>⟨xs.length - (i + 1),by omega,rfl,hlt,p'⟩,fun x H' y=>?_⟩
  obtain⟨e,y⟩:=y
  subst e
  exact hs i x σ _ (y xs q) p
 ·have e:i=xs.length:=by omega
  subst e
  exact .inl ⟨⟨xs,q,zH _⟩,hd σ H p⟩
theorem for_tup {K:PySem.W.Frag} {a:Addr} {xs:List V} {g:TG} {tb:TS} {D:Ends} {σ:St} {H:Hp} (Pv:Nat→St→Hp→Prop) (h0:Pv 0 σ H) (hl:∀ i σ H,i≤xs.length→Pv i σ H→SqT K H a xs)
  (hs:∀ i x σ H,xs[i]?=some x→Pv i σ H→g x σ H fun σ2 H2=>tb { D with nx:=Pv (i + 1),ct:=Pv (i + 1),bk:=D.nx } σ2 H2) (hd:∀ σ H,Pv xs.length σ H→D.nx σ H) :
  ∃ W:Nat→Nat→St→Hp→Prop,(∃ m,W 0 m σ H)∧∀ i m σ H,W i m σ H →
   ((Itt K a).stop i H∧D.nx σ H)∨((Itt K a).go i H∧∃ N:St→Hp→Prop,(∀ σ' H',N σ' H'→∃ m',m' < m∧W (i + 1) m' σ' H')∧∀ x H',(Itt K a).yld i H x H'→g x σ H' fun σ2 H2=>tb { D with nx:=N,ct:=N,bk:=D.nx } σ2 H2):=by
 refine⟨fun i m σ H=>m=xs.length - i∧i≤xs.length∧Pv i σ H,⟨xs.length,by simp,zW _,h0⟩,?_⟩
 rintro i m σ H ⟨rfl,hi,p⟩
 have q:=hl i σ H hi p
 by_cases hlt:i < xs.length
 ·refine .inr ⟨⟨xs,xs[i],q,by simp [hlt]⟩,Pv (i + 1),fun σ' H' p'=>⟨xs.length - (i + 1),by omega,rfl,hlt,p'⟩,fun x H' y=>?_⟩
  obtain⟨e,y⟩:=y
  subst e
  exact hs i x σ _ (y xs q) p
 ·have e:i=xs.length:=by omega
  subst e
  exact .inl ⟨⟨xs,q,zH _⟩,hd σ H p⟩
theorem for_range {lo:Int} {n:Nat} {g:TG} {tb:TS} {D:Ends} {σ:St} {H:Hp} (Pv:Nat→St→Hp→Prop) (h0:Pv 0 σ H)
  (hs:∀ i σ H,i < n→Pv i σ H→g (.int (lo + i)) σ H fun σ2 H2=>tb { D with nx:=Pv (i + 1),ct:=Pv (i + 1),bk:=D.nx } σ2 H2) (hd:∀ σ H,Pv n σ H→D.nx σ H) :
  ∃ W:Nat→Nat→St→Hp→Prop,(∃ m,W 0 m σ H)∧∀ i m σ H,W i m σ H →
   ((Itr lo n).stop i H∧D.nx σ H)∨((Itr lo n).go i H∧∃ N:St→Hp→Prop,(∀ σ' H',N σ' H'→∃ m',m' < m∧W (i + 1) m' σ' H')∧∀ x H',(Itr lo n).yld i H x H'→g x σ H' fun σ2 H2=>tb { D with nx:=N,ct:=N,bk:=D.nx } σ2 H2):=by
 refine⟨fun i m σ H=>m=n - i∧i≤n∧Pv i σ H,⟨n,by simp,zW _,h0⟩,?_⟩
 rintro i m σ H ⟨rfl,hi,p⟩
 by_cases hlt:i < n
 ·refine .inr ⟨hlt,Pv (i + 1),fun σ' H' p'=>⟨n - (i + 1),by omega,rfl,hlt,p'⟩,fun x H' y=>?_⟩
  obtain⟨e,y⟩:=y
  subst e y
  exact hs i σ _ hlt p
 ·have e:i=n:=by omega
  subst e
  exact .inl ⟨zH _,hd σ H p⟩
end L2
namespace L2
open PySem PySem.Spec PyProof.Rows
abbrev R2:=V→V→Hp→VK→Prop
def OpR (X:Cx) (f:Value→Value→Sem Value) (r:R2):Prop :=
 ∀(pins:List (Addr × Obj)) (s:Shared) (σ:St) (H:Hp) (x y:V) (v u:Value) (Q:VK),Inv X pins σ H s→RelV x v→RelV y u→r x y H Q →
  wpAny (model X.prog X.w) X.A (f v u) (EP X pins σ Q) X.xe s
def UnR (X:Cx) (f:Value→Sem Value) (r:V→Hp→VK→Prop):Prop :=
 ∀(pins:List (Addr × Obj)) (s:Shared) (σ:St) (H:Hp) (x:V) (v:Value) (Q:VK),Inv X pins σ H s→RelV x v→r x H Q →
  wpAny (model X.prog X.w) X.A (f v) (EP X pins σ Q) X.xe s
def CallR (X:Cx) (f:Value) (r:List V→Hp→VK→Prop):Prop :=
 ∀(pins:List (Addr × Obj)) (s:Shared) (σ:St) (H:Hp) (xs:List V) (us:List Value) (Q:VK),Inv X pins σ H s→Vals xs us→r xs H Q →
  wpAny (model X.prog X.w) X.A (call f us) (EP X pins σ Q) X.xe s
def tOp (r:R2) (ta tb:TE):TE:=fun σ H Q=>ta σ H fun x H1=>tb σ H1 fun y H2=>r x y H2 Q
def tUn (r:V→Hp→VK→Prop) (ta:TE):TE:=fun σ H Q=>ta σ H fun x H1=>r x H1 Q
inductive rI (C:Int→Int→Prop) (g:Int→Int→V) (x:V) (y:V) (H:Hp) (Q:VK):Prop where
 | mk (i j:_) (h_0:x=.int i) (h_1:y=.int j) (h_2:C i j) (h_3:Q (g i j) H):rI C g x y H Q
inductive rI0 (g:Int→Int→V) (x:V) (y:V) (H:Hp) (Q:VK):Prop where
 | mk (i j:_) (h_0:x=.int i) (h_1:y=.int j) (h_2:Q (g i j) H):rI0 g x y H Q
inductive rU (g:Int→V) (x:V) (H:Hp) (Q:VK):Prop where
 | mk (i:_) (h_0:x=.int i) (h_1:Q (g i) H):rU g x H Q
section
variable {X:Cx} {a b c:Expr} {ta tb tc:TE} {pos:Pos}
theorem binT (ha:PE X a ta) (hb:PE X b tb) {pins:List (Addr × Obj)} {s:Shared} {σ:St} {H:Hp} {R:V→V→Hp→Prop} (I:Inv X pins σ H s)
  (h:ta σ H fun x H1=>tb σ H1 fun y H2=>R x y H2) {Q:Value→Shared→Prop} {f:Value→Value→Sem Value}
  (hf:∀ v u s2 x y H2,Inv X pins σ H2 s2→RelV x v→RelV y u→R x y H2→wpAny (model X.prog X.w) X.A (f v u) Q X.xe s2) :
  wpAny (model X.prog X.w) X.A (eval a X.env) (fun v s₁=>wpAny (model X.prog X.w) X.A (eval b X.env) (fun u s₂=>wpAny (model X.prog X.w) X.A (f v u) Q X.xe s₂) X.xe s₁) X.xe s:=by
 refine thn (ha pins s σ H _ I h) fun v s1 ⟨x,H1,I1,r1,q1⟩=>?_
 refine thn (hb pins s1 σ H1 _ I1 q1) fun u s2 ⟨y,H2,I2,r2,q2⟩=>?_
 exact hf v u s2 x y H2 I2 r1 r2 q2
theorem pe_op {op:Operator} {r:R2} (ho:OpR X (binaryOp op) r) (ha:PE X a ta) (hb:PE X b tb):PE X (.BinOp a op b pos) (tOp r ta tb):=by
 intro pins s σ H Q I h
 exact wpAny_BinOp (binT ha hb I h fun v u s2 x y H2 I2 rx ry q=>ho pins s2 σ H2 x y v u Q I2 rx ry q)
theorem pe_un {op:UnaryOp} {r:V→Hp→VK→Prop} (ho:UnR X (unaryOp op) r) (ha:PE X a ta):PE X (.UnaryOp op a pos) (tUn r ta):=by
 intro pins s σ H Q I h
 exact UnaryOp_ (thn (ha pins s σ H _ I h) fun v s1 ⟨x,H1,I1,r1,q1⟩=>ho pins s1 σ H1 x v Q I1 r1 q1)
theorem opI {f:Value→Value→Sem Value} {C:Int→Int→Prop} {g:Int→Int→Int}
  (rule:∀(i j:Int) (t u:Tok) (s:Shared) (Q:Value→Shared→Prop) (E:Value→Shared→Prop),C i j→Q (.int (g i j) s.toks) { s with toks:=s.toks + 1 }→wpAny (model X.prog X.w) X.A (f (.int i t) (.int j u)) Q E s) :
  OpR X f (rI C fun i j=>.int (g i j)):=by
 intro pins s σ H x y v u Q I rx ry h
 obtain⟨i,j,rfl,rfl,hc,q⟩:=h
 obtain⟨t,rfl⟩:=rx
 obtain⟨t',rfl⟩:=ry
 exact rule i j t t' s _ _ hc ⟨.int (g i j),H,I.tok _,⟨_,rfl⟩,q⟩
theorem opI0 {f:Value→Value→Sem Value} {g:Int→Int→Int}
  (rule:∀(i j:Int) (t u:Tok) (s:Shared) (Q:Value→Shared→Prop) (E:Value→Shared→Prop),Q (.int (g i j) s.toks) { s with toks:=s.toks + 1 }→wpAny (model X.prog X.w) X.A (f (.int i t) (.int j u)) Q E s) :
  OpR X f (rI0 fun i j=>.int (g i j)):=by
 intro pins s σ H x y v u Q I rx ry h
 obtain⟨i,j,rfl,rfl,q⟩:=h
 obtain⟨t,rfl⟩:=rx
 obtain⟨t',rfl⟩:=ry
 exact rule i j t t' s _ _ ⟨.int (g i j),H,I.tok _,⟨_,rfl⟩,q⟩
theorem opB0 {f:Value→Value→Sem Value} {g:Int→Int→Bool}
  (rule:∀(i j:Int) (t u:Tok) (s:Shared) (Q:Value→Shared→Prop) (E:Value→Shared→Prop),Q (.bool (g i j)) s→wpAny (model X.prog X.w) X.A (f (.int i t) (.int j u)) Q E s) :
  OpR X f (rI0 fun i j=>.bl (g i j)):=by
 intro pins s σ H x y v u Q I rx ry h
 obtain⟨i,j,rfl,rfl,q⟩:=h
 obtain⟨t,rfl⟩:=rx
 obtain⟨t',rfl⟩:=ry
 exact rule i j t t' s _ _ ⟨.bl (g i j),H,I,rfl,q⟩
def CDiv (i j:Int):Prop:=0 < j∧j < 1073741824
def CMul (i j:Int):Prop:=(-(2 ^ 64) < i∧i < 2 ^ 64)∨(-(2 ^ 64) < j∧j < 2 ^ 64)
theorem CMul.ok {i j:Int} (h:CMul i j):IntMulOk i j:=by
 rcases h with ⟨h1,h2⟩|⟨h1,h2⟩
 ·exact .of_left (intBits_le_64 h1 h2)
 ·exact .of_right (intBits_le_64 h1 h2)
theorem op_add:OpR X (binaryOp .Add) (rI0 fun i j=>.int (i + j)):=opI0 fun _ _ _ _ _ _ _ q=>add_int q
theorem op_sub:OpR X (binaryOp .Sub) (rI0 fun i j=>.int (i - j)):=opI0 fun _ _ _ _ _ _ _ q=>sub_int q
theorem op_mul:OpR X (binaryOp .Mult) (rI CMul fun i j=>.int (i * j)):=opI fun _ _ _ _ _ _ _ hc q=>mul_int q hc.ok
theorem op_fdiv:OpR X (binaryOp .FloorDiv) (rI CDiv fun i j=>.int (i / j)):=opI fun i j _ _ _ _ _ hc q=>by
 have h1:(0:Int) < j:=hc.1
 have h2:j < 1073741824:=hc.2
 exact floordiv_int (by omega) (by rw[Int.fdiv_eq_ediv_of_nonneg i (by omega)]; exact q) (.inl (PyProof.noPylong_small (by omega)))
theorem op_mod:OpR X (binaryOp .Mod) (rI (fun _ j=>0 < j) fun i j=>.int (i % j)):=opI fun i j _ _ _ _ _ hc q=>by
 have h1:(0:Int) < j:=hc
 exact mod_int' (by omega) (by rw[Int.fmod_eq_emod_of_nonneg i (by omega)]; exact q)
theorem unI {f:Value→Sem Value} {g:Int→Int}
  (rule:∀(i:Int) (t:Tok) (s:Shared) (Q:Value→Shared→Prop) (E:Value→Shared→Prop),Q (.int (g i) s.toks) { s with toks:=s.toks + 1 }→wpAny (model X.prog X.w) X.A (f (.int i t)) Q E s) :
  UnR X f (rU fun i=>.int (g i)):=by
 intro pins s σ H x v Q I rx h
 obtain⟨i,rfl,q⟩:=h
 obtain⟨t,rfl⟩:=rx
 exact rule i t s _ _ ⟨.int (g i),H,I.tok _,⟨_,rfl⟩,q⟩
theorem un_neg:UnR X (unaryOp .USub) (rU fun i=>.int (-i)):=unI fun _ _ _ _ _ q=>neg_int q
end
def scal:V→V→Bool
 | .non,.non=>true|.non,.int _=>true|.int _,.non=>true|.non,.bl _=>true|.bl _,.non=>true|.non,.str _=>true|.str _,.non=>true
 | .int _,.int _=>true|.bl _,.bl _=>true|.str _,.str _=>true|.byt _,.byt _=>true
 | .int _,.str _=>true|.str _,.int _=>true|.bl _,.str _=>true|.str _,.bl _=>true
 | _,_=>false
def rEq:R2:=fun x y H Q=>scal x y=true∧Q (.bl (decide (x=y))) H
def rNe:R2:=fun x y H Q=>scal x y=true∧Q (.bl (!decide (x=y))) H
theorem dec_int {i j:Int}:decide (V.int i=V.int j)=(i == j):=by
 rw[jB]
 simp
theorem dec_bl {i j:Bool}:decide (V.bl i=V.bl j)=(i == j):=by
 rw[jB]
 simp
theorem dec_str {i j:Str}:decide (V.str i=V.str j)=(i == j):=by
 rw[jB]
 simp
theorem dec_byt {i j:Array UInt8}:decide (V.byt i=V.byt j)=(i.toList == j.toList):=by
 rw[jB]
 cases i
 cases j
 simp
section
variable {X:Cx} {a b c:Expr} {ta tb tc:TE} {pos:Pos}
theorem fin_bl {pins:List (Addr × Obj)} {σ:St} {H:Hp} {s:Shared} {Q:VK} {k k':Bool} (I:Inv X pins σ H s) (q:Q (.bl k) H) (e:k=k'):EP X pins σ Q (.bool k') s:=by
 subst e
 exact⟨.bl k,H,I,rfl,q⟩
theorem op_eq:OpR X (compareOp .Eq) rEq:=by
 intro pins s σ H x y v u Q I rx ry h
 obtain⟨hs,q⟩:=h
 cases x with
 | non =>
  cases rx
  cases y with
  | non=>cases ry; exact PySem.EqNone.eq_none_none (fin_bl I q (by simp))
  | bl j=>cases ry; exact PySem.EqNone.eq_none_bool (fin_bl I q (by simp))
  | int j=>obtain⟨t',rfl⟩:=ry; exact PySem.EqNone.eq_none_int (fin_bl I q (by simp))
  | str j=>obtain⟨t',rfl⟩:=ry; exact PySem.EqNone.eq_none_str (fin_bl I q (by simp))
  | _=>exact absurd (show false=true from hs) zV
 | bl i =>
  cases rx
  cases y with
  | non=>cases ry; exact PySem.EqNone.eq_bool_none (fin_bl I q (by simp))
  | bl j=>cases ry; exact eq_bool (fin_bl I q dec_bl)
  | str j=>obtain⟨t',rfl⟩:=ry; exact PySem.EqMixed.eq_bool_str (fin_bl I q (by simp))
  | _=>exact absurd (show false=true from hs) zV
 | int i =>
  obtain⟨t,rfl⟩:=rx
  cases y with
  | non=>cases ry; exact PySem.EqNone.eq_int_none (fin_bl I q (by simp))
  | int j=>obtain⟨t',rfl⟩:=ry; exact eq_int (fin_bl I q dec_int)
  | str j=>obtain⟨t',rfl⟩:=ry; exact PySem.EqMixed.eq_int_str (fin_bl I q (by simp))
  | _=>exact absurd (show false=true from hs) zV
 | str i =>
  obtain⟨t,rfl⟩:=rx
  cases y with
  | non=>cases ry; exact PySem.EqNone.eq_str_none (fin_bl I q (by simp))
  | bl j=>cases ry; exact PySem.EqMixed.eq_str_bool (fin_bl I q (by simp))
  | int j=>obtain⟨t',rfl⟩:=ry; exact PySem.EqMixed.eq_str_int (fin_bl I q (by simp))
  | str j=>obtain⟨t',rfl⟩:=ry; exact eq_str (fin_bl I q dec_str)
  | _=>exact absurd (show false=true from hs) zV
 | byt i =>
  obtain⟨t,rfl⟩:=rx
  cases y with
  | byt j=>obtain⟨t',rfl⟩:=ry; exact PySem.W.eq_bytes (fin_bl I q dec_byt)
  | _=>exact absurd (show false=true from hs) zV
 | _=>cases y <;> exact absurd (show false=true from hs) zV
theorem op_ne:OpR X (compareOp .NotEq) rNe:=by
 intro pins s σ H x y v u Q I rx ry h
 obtain⟨hs,q⟩:=h
 cases x with
 | non =>
  cases rx
  cases y with
  | non=>cases ry; exact PySem.EqNone.ne_none_none (fin_bl I q (by simp))
  | bl j=>cases ry; exact PySem.EqNone.ne_none_bool (fin_bl I q (by simp))
  | int j=>obtain⟨t',rfl⟩:=ry; exact PySem.EqNone.ne_none_int (fin_bl I q (by simp))
  | str j=>obtain⟨t',rfl⟩:=ry; exact PySem.EqNone.ne_none_str (fin_bl I q (by simp))
  | _=>exact absurd (show false=true from hs) zV
 | bl i =>
  cases rx
  cases y with
  | non=>cases ry; exact PySem.EqNone.ne_bool_none (fin_bl I q (by simp))
  | bl j=>cases ry; exact ne_bool (fin_bl I q (congrArg not dec_bl))
  | str j=>obtain⟨t',rfl⟩:=ry; exact PySem.EqMixed.ne_bool_str (fin_bl I q (by simp))
  | _=>exact absurd (show false=true from hs) zV
 | int i =>
  obtain⟨t,rfl⟩:=rx
  cases y with
  | non=>cases ry; exact PySem.EqNone.ne_int_none (fin_bl I q (by simp))
  | int j=>obtain⟨t',rfl⟩:=ry; exact ne_int (fin_bl I q (congrArg not dec_int))
  | str j=>obtain⟨t',rfl⟩:=ry; exact PySem.EqMixed.ne_int_str (fin_bl I q (by simp))
  | _=>exact absurd (show false=true from hs) zV
 | str i =>
  obtain⟨t,rfl⟩:=rx
  cases y with
  | non=>cases ry; exact PySem.EqNone.ne_str_none (fin_bl I q (by simp))
  | bl j=>cases ry; exact PySem.EqMixed.ne_str_bool (fin_bl I q (by simp))
  | int j=>obtain⟨t',rfl⟩:=ry; exact PySem.EqMixed.ne_str_int (fin_bl I q (by simp))
  | str j=>obtain⟨t',rfl⟩:=ry; exact ne_str (fin_bl I q (congrArg not dec_str))
  | _=>exact absurd (show false=true from hs) zV
 | byt i =>
  obtain⟨t,rfl⟩:=rx
  cases y with
  | byt j=>obtain⟨t',rfl⟩:=ry; exact PySem.W.ne_bytes (fin_bl I q (congrArg not dec_byt))
  | _=>exact absurd (show false=true from hs) zV
 | _=>cases y <;> exact absurd (show false=true from hs) zV
theorem op_lt:OpR X (compareOp .Lt) (rI0 fun i j=>.bl (decide (i < j))):=opB0 fun _ _ _ _ _ _ _ q=>lt_int q
theorem op_le:OpR X (compareOp .LtE) (rI0 fun i j=>.bl (decide (i≤j))):=opB0 fun _ _ _ _ _ _ _ q=>le_int q
theorem op_gt:OpR X (compareOp .Gt) (rI0 fun i j=>.bl (decide (j < i))):=opB0 fun _ _ _ _ _ _ _ q=>gt_int q
theorem op_ge:OpR X (compareOp .GtE) (rI0 fun i j=>.bl (decide (j≤i))):=opB0 fun _ _ _ _ _ _ _ q=>ge_int q
theorem op_isN:OpR X (compareOp .Is) (fun x y H Q=>y=.non∧Q (.bl (decide (x=.non))) H):=by
 intro pins s σ H x y v u Q I rx ry h
 obtain⟨rfl,q⟩:=h
 cases ry
 refine is_none_gen (fin_bl I q ?_)
 cases x <;> first
  | (cases rx; rfl)
  | (obtain⟨t,rfl⟩:=rx; rfl)
theorem op_notN:OpR X (compareOp .IsNot) (fun x y H Q=>y=.non∧Q (.bl (!decide (x=.non))) H):=by
 intro pins s σ H x y v u Q I rx ry h
 obtain⟨rfl,q⟩:=h
 cases ry
 refine isnot_none_gen (fin_bl I q ?_)
 cases x <;> first
  | (cases rx; rfl)
  | (obtain⟨t,rfl⟩:=rx; rfl)
theorem nomark (b:Expr) {op:CmpOp} (h:op ≠ .In:=by decide) (h2:op ≠ .NotIn:=by decide):behindInMarks op b=false:=by
 have e1:(op == CmpOp.In)=false:=by cases op <;> first|rfl|exact absurd rfl h
 have e2:(op == CmpOp.NotIn)=false:=by cases op <;> first|rfl|exact absurd rfl h2
 cases b <;> simp [behindInMarks,e1,e2]
theorem pe_cmpR {op:CmpOp} {r:R2} (ho:OpR X (compareOp op) r) (ha:PE X a ta) (hb:PE X b tb) (hm:behindInMarks op b=false):PE X (.Compare a [op] [b] pos) (tOp r ta tb):=by
 intro pins s σ H Q I h
 exact wpAny_Compare1 (binT ha hb I h fun v u s2 x y H2 I2 rx ry q=>ho pins s2 σ H2 x y v u Q I2 rx ry q) hm
inductive tTest_ (Q:Bool→Hp→Prop) (x:V) (H':Hp):Prop where
 | mk (k:_) (h_0:x=.bl k) (h_1:Q k H'):tTest_ Q x H'
def tTest (t:TE):TT:=fun σ H Q=>t σ H fun x H'=>tTest_ Q x H'
theorem pt_cmpR {op:CmpOp} {r:R2} (ho:OpR X (compareOp op) r) (ha:PE X a ta) (hb:PE X b tb) (hm:behindInMarks op b=false):PT X (.Compare a [op] [b] pos) (tTest (tOp r ta tb)):=by
 intro pins s σ H Q I h
 refine wpAny_isTrue_Compare1 (thn (ha pins s σ H _ I h) fun v s1 ⟨x,H1,I1,r1,q1⟩=>thn (hb pins s1 σ H1 _ I1 q1) fun u s2 ⟨y,H2,I2,r2,q2⟩ =>
  thn (ho pins s2 σ H2 x y v u _ I2 r1 r2 q2) fun c s3 ⟨z,H3,I3,r3,k,e,q3⟩=>?_) hm
 subst e
 cases r3
 exact wpAny_truthy_bool ⟨H3,I3,q3⟩
theorem line63:(sizeLine:Nat) < 2 ^ 63:=by rw[sizeLine_eq]; decide
theorem vals1 {x:V} {us:List Value} (r:Vals [x] us):∃ u,us=[u]∧RelV x u:=by
 cases r with
 | cons r1 r2=>cases r2; exact⟨_,rfl,r1⟩
theorem vals2 {x y:V} {us:List Value} (r:Vals [x,y] us):∃ u w',us=[u,w']∧RelV x u∧RelV y w':=by
 cases r with
 | cons r1 r2 =>
  cases r2 with
  | cons r3 r4=>cases r4; exact⟨_,_,rfl,r1,r3⟩
end
end L2
namespace L2
open PySem PySem.Spec PyProof.Rows
structure ObjM (h:Heap) (x dx C:Addr) (mA:Str→Option Value):Prop where
 obj:h.get? x=some (PySem.W.instObj C dx)
 ns:h.Ns1 dx mA
 ne:dx ≠ x
theorem lookIn_ns {h:Heap} {dx:Addr} {mA:Str→Option Value} (n:h.Ns1 dx mA):∃ od,h.get? dx=some od∧∀ name,PySem.W.lookIn name od=some (mA name):=by
 obtain⟨o,es,ep,ho,hd,hk,_,hm⟩:=n
 refine⟨o,ho,fun name=>?_⟩
 have e:=hm name
 unfold nsFind findBy at e
 rw[← Array.find?_toList] at e
 unfold PySem.W.lookIn
 rw[hd]
 dsimp only
 split
 ·rename_i y q
  rw[q] at e
  exact congrArg some e
 ·rename_i q
  rw[q] at e
  have a:es.toList.any (·.refKey)=false:=by
   rw[List.any_eq_false]
   intro y hy
   obtain⟨z,t,hkey⟩:=hk y (Array.mem_toList_iff.mp hy)
   simp [DictEntry.refKey,hkey]
  have a':¬ es.toList.any (·.refKey)=true:=by rw[a]; exact zV
  rw[if_neg a']
  exact congrArg some e
theorem ObjM.look {h:Heap} {x dx C:Addr} {mA:Str→Option Value} (I:ObjM h x dx C mA):∃ od,PySem.W.InstAt h x (PySem.W.instObj C dx) C (some od)∧∀ name,PySem.W.lookIn name od=some (mA name) :=
 let ⟨od,ho,hl⟩:=lookIn_ns I.ns
 ⟨od,⟨I.obj,rfl,rfl,ho⟩,hl⟩
section
variable {prog:Program} {w:World} {A:Around} {E:Value→Shared→Prop} {s:Shared} {K:PySem.W.Frag} {x dx C f:Addr} {mA:Str→Option Value} {name:Str} {v:Value}
theorem get_map {expr:Bool} {Q:Value→Shared→Prop} (X:K.In s.heap) (I:ObjM s.heap x dx C mA) (hg:PySem.W.plainGet K C name=true) (hh:PySem.W.hasDictIn K C=true)
  (ha:PySem.W.findIn K (.ref C) name=some none) (hv:mA name=some v) (hv':PySem.W.handedIn v=true) (h:Q v { s with toks:=s.toks + 1 }) :
  wpAny (model prog w) A (getAttr (.ref x) name expr) Q E s:=by
 obtain⟨od,J,hl⟩:=I.look
 exact PySem.W.get_value X J (PySem.W.plainGet_of hg).1 (PySem.W.findObj_own hh ha rfl (by rw[hl,hv])) hv' h
theorem get_meth {pl:Sem Bool} {Q:Value × List Value→Shared→Prop} (X:K.In s.heap) (I:ObjM s.heap x dx C mA) (hg:PySem.W.plainGet K C name=true)
  (hf:PySem.W.findIn K (.ref C) name=some (some (.ref f))) (ht:PySem.W.isFn K (.ref f)=true) (hv:mA name=none) (h:Q (.ref f,[.ref x]) s) :
  wpAny (model prog w) A (getMethod (.ref x) name pl) Q E s:=by
 obtain⟨od,J,hl⟩:=I.look
 exact PySem.W.method_fn X J (PySem.W.plainGet_of hg).1 (PySem.W.plainGet_of hg).2 hf (beq_iff_eq.mp ht) (by show(PySem.W.lookIn name od).map (·.isSome)=some false; rw[hl,hv]; rfl) h
theorem set_map {ns:List Str} {Q:Unit→Shared→Prop} (X:K.In s.heap) (I:ObjM s.heap x dx C mA)
  (hs:PySem.W.findIn K (.ref C) "__setattr__"=some (some (.builtin "object.__setattr__"))) (hp:PySem.W.plainOver K C=true) (ht:PySem.W.takerIn K C name=some none) (hh:PySem.W.hasDictIn K C=true)
  (hw:PySem.Within mA ns) (hsz:ns.length≤sizeLine)
  (h:∀ h',ObjM h' x dx C (fun y=>if y=name then some v else mA y)→Heap.SameBut dx s.heap h'→Q () { s with heap:=h',toks:=s.toks + 2 }) :
  wpAny (model prog w) A (setAttr (.ref x) name v) Q E s:=by
 obtain⟨od,J,hl⟩:=I.look
 refine PySem.W.set_plain X J hs (PySem.W.osa_open (s:={ s with toks:=s.toks + 1 }) (r:=none) X J hp ht fun b=>?_)
 obtain⟨cd,hc,hd'⟩:=PySem.W.any_some hh
 have hx:s.heap.get? x=some ⟨.ref C,some dx,.plain,#[]⟩:=I.obj
 refine wpAny_bind (wpAny_pure (wpAny_bind (wpAny_bind (wpAny_loadPart hx (wpAny_bind (PySem.W.Looks.here (s:={ s with toks:=s.toks + 1 }) (PySem.W.looks_clsIn X hc) ?_))))))
 rw[hd']
 refine wpAny_pure (a:=some dx) (wpAny_bind (wpAny_pure (wpAny_bind ?_)))
 refine wpAny_nsSet1 (s:={ s with toks:=s.toks + 1 }) I.ns fun h' hn2 hs2=>?_
 obtain⟨oD,esD,epD,hoD,hdD,hcD⟩:=hn2.count (PySem.Within.cons name v hw)
 refine wpAny_bind (wpAny_lookBehind hoD (by rw[hdD]; exact pastItsLine_dict (z4 hcD (by rw[zS]; omega))) ?_)
 exact wpAny_pure (h _ ⟨(hs2.2 _ (Ne.symm I.ne)).trans I.obj,hn2,I.ne⟩ hs2)
theorem make_map {R:Result→Shared→Prop} {vs:List Value} {kw:List (Str × Value)} (X:K.In s.heap) (hm:PySem.W.makesIn K C=true)
  (hi:PySem.W.findIn K (.ref C) "__init__"=some (some (.ref f))) (hf:PySem.W.typeIn K (.ref f)=some (.type "function"))
  (h:codeAny (model prog w) (A.under (.builtin "type.__call__" ⟨.ref C::vs,kw⟩)) (.call (.ref f) ⟨.ref (s.heap.objs.size + 1)::vs,kw⟩) (PySem.W.InitBack (s.heap.objs.size + 1) R)
   { s with heap:=(s.heap.push PySem.W.emptyDict).push (PySem.W.instObj C s.heap.objs.size) }) :
  codeAny (model prog w) A (.call (.ref C) ⟨vs,kw⟩) R s:=by
 obtain⟨hh,g,d,t,os⟩:=s
 exact PySem.W.make_core (PySem.W.makes_of X hm) (PySem.W.looks_findIn X hi) (fun self=>PySem.W.bind_fn X self hf) (.inl rfl) h
end
def putF (f:Str) (v:V):List (Str × V)→List (Str × V)
 | []=>[(f,v)]
 | (g,x)::r=>if g=f then (g,v)::r else (g,x)::putF f v r
theorem lookup_putF (f g:Str) (v:V):∀ fs:List (Str × V),(putF f v fs).lookup g=if g=f then some v else fs.lookup g
 | []=>by
  show List.lookup g [(f,v)]=_
  by_cases h:g=f
  ·have hb:(g == f)=true:=beq_iff_eq.mpr h
   simp only [List.lookup,hb,if_pos h]
  ·have hb:(g == f)=false:=beq_eq_false_iff_ne.mpr h
   simp only [List.lookup,hb,if_neg h]
 | (k,x)::r=>by
  have ih:=lookup_putF f g v r
  rw[show putF f v ((k,x)::r)=(if k=f then (k,v)::r else (k,x)::putF f v r) from rfl]
  by_cases hk:k=f
  ·rw[if_pos hk]
   by_cases h:g=k
   ·have hb:(g == k)=true:=beq_iff_eq.mpr h
    simp only [List.lookup,hb,if_pos (h.trans hk)]
   ·have hb:(g == k)=false:=beq_eq_false_iff_ne.mpr h
    simp only [List.lookup,hb,if_neg (fun e:g=f=>h (e.trans hk.symm))]
  ·rw[if_neg hk]
   by_cases h:g=k
   ·have hb:(g == k)=true:=beq_iff_eq.mpr h
    simp only [List.lookup,hb,if_neg (fun e:g=f=>hk (h.symm.trans e))]
   ·have hb:(g == k)=false:=beq_eq_false_iff_ne.mpr h
    simp only [List.lookup,hb]
    exact ih
theorem keys_putF (f:Str) (v:V):∀ fs:List (Str × V),f ∈ (putF f v fs).map (·.1)∧∀ g,g ∈ fs.map (·.1)→g ∈ (putF f v fs).map (·.1)
 | []=>⟨by simp [putF],fun g h=>by simp at h⟩
 | (k,x)::r=>by
  obtain⟨i1,i2⟩:=keys_putF f v r
  rw[show putF f v ((k,x)::r)=(if k=f then (k,v)::r else (k,x)::putF f v r) from rfl]
  by_cases hk:k=f
  ·rw[if_pos hk]
   subst hk
   exact⟨by simp,fun g h=>by simpa using h⟩
  ·rw[if_neg hk]
   refine⟨?_,fun g h=>?_⟩
   ·rw[yJ]
    exact zI _ i1
   ·rw[yJ] at h ⊢
    rcases zQ.mp h with e|e
    ·exact zQ.mpr (.inl e)
    ·exact zI _ (i2 g e)
theorem length_putF (f:Str) (v:V):∀ fs:List (Str × V),(putF f v fs).length≤fs.length + 1
 | []=>by simp [putF]
 | (k,x)::r=>by
  have ih:=length_putF f v r
  rw[show putF f v ((k,x)::r)=(if k=f then (k,v)::r else (k,x)::putF f v r) from rfl]
  by_cases hk:k=f
  ·rw[if_pos hk,zS,zS]; omega
  ·rw[if_neg hk,zS,zS]; omega
theorem RelO.some_of {v:V} {o:Option Value} (r:RelO (some v) o):∃ u,o=some u∧RelV v u:=by
 cases o with
 | none=>exact(show False from r).elim
 | some u=>exact⟨u,rfl,r⟩
theorem RelO.none_of {o:Option Value} (r:RelO none o):o=none:=by
 cases o with
 | none=>rfl
 | some u=>exact(show False from r).elim
theorem handed_of {v:V} {u:Value} (r:RelV v u):PySem.W.handedIn u=true:=by
 cases v with
 | non=>cases (show u=Value.none from r); rfl
 | bl b=>cases (show u=Value.bool b from r); rfl
 | int i=>obtain⟨t,e⟩:=(show ∃ t,u=Value.int i t from r); cases e; rfl
 | str x=>obtain⟨t,e⟩:=(show ∃ t,u=Value.str x t from r); cases e; rfl
 | byt b=>obtain⟨t,e⟩:=(show ∃ t,u=Value.bytes b t from r); cases e; rfl
 | flt b=>obtain⟨t,e⟩:=(show ∃ t,u=Value.float b t from r); cases e; rfl
 | ref a=>cases (show u=Value.ref a from r); rfl
 | ty n=>cases (show u=Value.type n from r); rfl
section
variable {P:Program} {w:World} {H H':Hp} {h h':Heap} {a C dx:Addr} {fs fs':List (Str × V)}
theorem ins_get (hok:HOk P w H h) (e:H a=some (.ins C dx fs)):∃ mA,ObjM h a dx C mA∧(∀ f,RelO (fs.lookup f) (mA f))∧PySem.Within mA (fs.map (·.1))∧fs.length≤1000∧H dx=some (.own a):=by
 obtain⟨d,z,ne,ob,mA,n,r,q⟩:=(show ObjOk P w H h a (.ins C dx fs) from hok a _ e)
 exact⟨mA,⟨ob,n,ne⟩,r,q,z,d⟩
end
structure Cls (K:PySem.W.Frag) (C:Addr):Prop where
 pg:PySem.W.plainGet K C Str.empty=true
 hd:PySem.W.hasDictIn K C=true
 po:PySem.W.plainOver K C=true
 sa:PySem.W.findIn K (.ref C) "__setattr__"=some (some (.builtin "object.__setattr__"))
theorem Cls.get {K:PySem.W.Frag} {C:Addr} (c:Cls K C) (f:Str):PySem.W.plainGet K C f=true:=c.pg
def NoAttr (K:PySem.W.Frag) (C:Addr) (f:Str):Prop:=PySem.W.findIn K (.ref C) f=some none
theorem NoAttr.taker {K:PySem.W.Frag} {C:Addr} {f:Str} (n:NoAttr K C f):PySem.W.takerIn K C f=some none:=by
 unfold PySem.W.takerIn
 rw[show PySem.W.findIn K (.ref C) f=some none from n]
 rfl
structure Meth (K:PySem.W.Frag) (C:Addr) (m:Str) (f:Addr):Prop where
 at_:PySem.W.findIn K (.ref C) m=some (some (.ref f))
 fn:PySem.W.isFn K (.ref f)=true
 kp:PySem.W.keepIn K (.ref f)=true
section
variable {X:Cx} {pins:List (Addr × Obj)} {σ:St} {H:Hp} {s:Shared} {a C dx:Addr} {fs:List (Str × V)} {f:Str} {v:V} {A:Around} {E:Value→Shared→Prop}
theorem getattr_ok {b:Bool} {Q:Value→Shared→Prop} (I:Inv X pins σ H s) (e:H a=some (.ins C dx fs)) (c:Cls X.K C) (n:NoAttr X.K C f) (l:fs.lookup f=some v)
  (h:∀ u s',Inv X pins σ H s'→RelV v u→Q u s'):wpAny (model X.prog X.w) A (getAttr (.ref a) f b) Q E s:=by
 obtain⟨mA,O,r,_,_,_⟩:=ins_get I.hok e
 obtain⟨u,hu,ru⟩:=RelO.some_of (v:=v) (o:=mA f) (by rw[← l]; exact r f)
 exact get_map I.kIn O (c.get f) c.hd n hu (handed_of ru) (h u _ (I.tok _) ru)
theorem getmeth_ok {m:Str} {g:Addr} {pl:Sem Bool} {Q:Value × List Value→Shared→Prop} (I:Inv X pins σ H s) (e:H a=some (.ins C dx fs)) (c:Cls X.K C) (k:Meth X.K C m g) (l:fs.lookup m=none)
  (h:Q (.ref g,[.ref a]) s):wpAny (model X.prog X.w) A (getMethod (.ref a) m pl) Q E s:=by
 obtain⟨mA,O,r,_,_,_⟩:=ins_get I.hok e
 have hn:mA m=none:=RelO.none_of (by rw[← l]; exact r m)
 exact get_meth I.kIn O (c.get m) k.at_ k.fn hn h
theorem setattr_ok {y:V} {u:Value} {Q:Unit→Shared→Prop} (I:Inv X pins σ H s) (e:H a=some (.ins C dx fs)) (c:Cls X.K C) (n:NoAttr X.K C f) (hl:fs.length < 1000) (ry:RelV y u)
  (h:∀ s',Inv X pins σ (upd H a (.ins C dx (putF f y fs))) s'→Q () s'):wpAny (model X.prog X.w) A (setAttr (.ref a) f u) Q E s:=by
 obtain⟨mA,O,r,wi,_,ho⟩:=ins_get I.hok e
 have hz:(fs.map (·.1)).length≤sizeLine:=by rw[zC,sizeLine_eq]; omega
 refine set_map I.kIn O c.sa c.po n.taker c.hd wi hz fun h' O' sb=>h _ ?_
 have hd:∃ o,h'.get? dx=some o:=let ⟨o,_,_,e',_⟩:=O'.ns; ⟨o,e'⟩
 refine I.write (x:=a) (e:=dx) (by rw[e]; exact True.intro) (.inr ho) (fun b q hb z=>(sb.2 b hb).trans z) hd ?_
 refine⟨by rw[upd_ne O.ne]; exact ho,?_,O.ne,O'.obj,_,O'.ns,fun g=>?_,fun g hg=>?_⟩
 ·have:=length_putF f y fs; omega
 ·show RelO ((putF f y fs).lookup g) (if g=f then some u else mA g)
  rw[lookup_putF]
  by_cases q:g=f
  ·rw[if_pos q,if_pos q]; exact ry
  ·rw[if_neg q,if_neg q]; exact r g
 ·by_cases q:g=f
  ·rw[q]; exact(keys_putF f y fs).1
  ·refine(keys_putF f y fs).2 g (wi g fun z=>hg ?_)
   show(if g=f then some u else mA g)=none
   rw[if_neg q]; exact z
theorem Inv.made (I:Inv X pins σ H s):Inv X pins σ (upd (upd H s.heap.objs.size (.own (s.heap.objs.size + 1))) (s.heap.objs.size + 1) (.ins C s.heap.objs.size []))
  { s with heap:=(s.heap.push PySem.W.emptyDict).push (PySem.W.instObj C s.heap.objs.size) }:=by
 have e1:(s.heap.push PySem.W.emptyDict).get? s.heap.objs.size=some PySem.W.emptyDict:=Heap.get?_push_size s.heap rfl
 have e2:((s.heap.push PySem.W.emptyDict).push (PySem.W.instObj C s.heap.objs.size)).get? (s.heap.objs.size + 1)=some (PySem.W.instObj C s.heap.objs.size):=by
  have:=Heap.get?_push_size (s.heap.push PySem.W.emptyDict) (o:=PySem.W.instObj C s.heap.objs.size) rfl
  rwa [Heap.size_push] at this
 have e3:(s.heap.push PySem.W.emptyDict).Ns s.heap.objs.size (fun _=>none):=⟨PySem.W.emptyDict,#[],_,e1,rfl,(fun e he=>absurd he (by simp)),fun _=>rfl⟩
 have I1:=I.laid (a:=s.heap.objs.size) (o:=.own (s.heap.objs.size + 1)) (h':=s.heap.push PySem.W.emptyDict) (t':=s.toks) (fun b u q=>Heap.get?_push_of_some _ q) (zH _) ⟨_,e1⟩
 refine I1.laid (a:=s.heap.objs.size + 1) (o:=.ins C s.heap.objs.size []) (t':=s.toks) (fun b u q=>Heap.get?_push_of_some _ q) (qZ (Heap.size_push _ _)) ?_
 have ne:s.heap.objs.size ≠ s.heap.objs.size + 1:=zR (qC _)
 refine⟨by rw[upd_ne ne,upd_same],zW _,ne,e2,fun _=>none,(Heap.Ns1.of_empty e3).at fun o q=>Heap.get?_push_of_some _ q,fun _=>True.intro,fun y hy=>absurd rfl hy⟩
theorem attr_of {prog:Program} {w:World} {env:Env} {e:Expr} {f:Str} {pos:Pos} {s:Shared} {Q:Value→Shared→Prop} (hb:attributeBase e f env (eval e env)=eval e env)
  (h:wpAny (model prog w) A (eval e env) (fun o s₁=>wpAny (model prog w) A (getAttr o f true) Q E s₁) E s):wpAny (model prog w) A (eval (.Attribute e f pos) env) Q E s :=
 Attribute_any_ h (by rw[arm_eval_Attribute,hb])
end
inductive tFld_ (K:PySem.W.Frag) (f:Str) (Q:VK) (x:V) (H1:Hp):Prop where
 | mk (a C dx fs v:_) (h_0:x=.ref a) (h_1:H1 a=some (.ins C dx fs)) (h_2:Cls K C) (h_3:NoAttr K C f) (h_4:fs.lookup f=some v) (h_5:Q v H1):tFld_ K f Q x H1
def tFld (K:PySem.W.Frag) (ta:TE) (f:Str):TE:=fun σ H Q=>ta σ H fun x H1=>tFld_ K f Q x H1
inductive sFld_ (K:PySem.W.Frag) (f:Str) (D:Ends) (σ:St) (y:V) (x:V) (H2:Hp):Prop where
 | mk (a C dx fs:_) (h_0:x=.ref a) (h_1:H2 a=some (.ins C dx fs)) (h_2:Cls K C) (h_3:NoAttr K C f) (h_4:fs.length < 1000) (h_5:D.nx σ (upd H2 a (.ins C dx (putF f y fs)))):sFld_ K f D σ y x H2
def sFld (K:PySem.W.Frag) (ta tv:TE) (f:Str):TS:=fun D σ H=>tv σ H fun y H1=>ta σ H1 fun x H2=>sFld_ K f D σ y x H2
section
variable {X:Cx} {o e value:Expr} {f:Str} {pos pos' tpos:Pos} {ta tv:TE}
theorem pe_fld (he:PE X e ta) (hb:attributeBase e f X.env (eval e X.env)=eval e X.env):PE X (.Attribute e f pos) (tFld X.K ta f):=by
 intro pins s σ H Q I h
 refine attr_of hb (thn (he pins s σ H _ I h) fun u s1 ⟨x,H1,I1,rx,a,C,dx,fs,v,ex,ea,c,n,l,q⟩=>?_)
 subst ex
 obtain rfl:u=Value.ref a:=rx
 exact getattr_ok I1 ea c n l fun u' s2 I2 ru=>⟨v,H1,I2,ru,q⟩
theorem ps_fld (ha:PE X o ta) (hv:PE X value tv) (hs:swapsWith value (some (.Attribute o f pos')) pos.line X.env=pure false):PS X (.Assign [.Attribute o f pos'] value pos) (sFld X.K ta tv f):=by
 intro pins s σ H D I h
 refine plainObj_wpAny_Assign_Attribute (thn (hv pins s σ H _ I h) fun u s1 ⟨y,H1,I1,ry,q⟩=>thn (ha pins s1 σ H1 _ I1 q) fun ov s2 ⟨x,H2,I2,rx,a,C,dx,fs,ex,ea,c,n,l,q2⟩=>?_) hs
 subst ex
 obtain rfl:ov=Value.ref a:=rx
 exact setattr_ok I2 ea c n l ry fun s3 I3=>⟨σ,_,I3,q2⟩
end
section
variable {X:Cx} {pins:List (Addr × Obj)} {σ:St} {H:Hp} {s:Shared} {A:Around} {E:Value→Shared→Prop} {Q:Value→Shared→Prop} {c:Value} {b:Bool}
inductive TyOf (K:PySem.W.Frag) (H:Hp):V→Value→Prop where
 | non:TyOf K H .non (.type "NoneType")
 | bl (x:Bool):TyOf K H (.bl x) (.type "bool")
 | int (i:Int):TyOf K H (.int i) (.type "int")
 | str (x:Str):TyOf K H (.str x) (.type "str")
 | flt (x:UInt64):TyOf K H (.flt x) (.type "float")
 | lst {a:Addr} {xs:List V} (e:H a=some (.lst xs)):TyOf K H (.ref a) (.type "list")
 | frz {a:Addr} {o:Obj} {xs:List V} (e:H a=some (.frz o (.lst xs))):TyOf K H (.ref a) (.type "list")
 | tup {a:Addr} {xs:List V} (e:H a=some (.tup xs)):TyOf K H (.ref a) (.type "tuple")
 | dK {a:Addr} {kvs:List (Key × V)} (e:H a=some (.dK kvs)):TyOf K H (.ref a) (.type "dict")
 | dT {a:Addr} {kvs:List (List Key × V)} (e:H a=some (.dT kvs)):TyOf K H (.ref a) (.type "dict")
 | ins {a C dx:Addr} {fs:List (Str × V)} (e:H a=some (.ins C dx fs)) (cl:Cls K C) (ha:PySem.W.findIn K (.ref C) "__class__"=some (some (.builtin "object.__class__")))
   (hn:PySem.W.specialIn K (.builtin "object.__class__") "__get__"=some (some (.builtin "getset_descriptor.__get__"))) (htk:PySem.W.takesIn K (.builtin "object.__class__")=some true)
   (hm:PySem.W.mroIn K C (.type "object")=some true):TyOf K H (.ref a) (.ref C)
theorem isinst_ok {x:V} {u t:Value} (I:Inv X pins σ H s) (rx:RelV x u) (ty:TyOf X.K H x t) (e:PySem.W.kitOne X.K t c=some b) (h:∀ tk,Q (.bool b) { s with toks:=tk }) :
  wpAny (model X.prog X.w) A (call (.builtin "isinstance") [u,c]) Q E s:=by
 cases ty with
 | non=>cases (show u=Value.none from rx); exact PySem.W.kia_one PySem.W.kitx_none I.kIn True.intro e (fun z=>nomatch z) h
 | bl y=>cases (show u=Value.bool y from rx); exact PySem.W.kia_one PySem.W.kitx_bool I.kIn True.intro e (fun z=>nomatch z) h
 | int i=>obtain⟨t,q⟩:=(show ∃ t,u=Value.int i t from rx); cases q; exact PySem.W.kia_one PySem.W.kitx_int I.kIn True.intro e (fun z=>nomatch z) h
 | str y=>obtain⟨t,q⟩:=(show ∃ t,u=Value.str y t from rx); cases q; exact PySem.W.kia_one PySem.W.kitx_str I.kIn True.intro e (fun z=>nomatch z) h
 | flt y=>obtain⟨t,q⟩:=(show ∃ t,u=Value.float y t from rx); cases q; exact PySem.W.kia_one PySem.W.kitx_float I.kIn True.intro e (fun z=>nomatch z) h
 | @lst a xs ea =>
  cases (show u=Value.ref a from rx)
  obtain⟨_,_,n,_,h1⟩:=(show ObjOk X.prog X.w H s.heap a (.lst xs) from I.hok a _ ea)
  exact PySem.W.kia_one PySem.W.kitx_list I.kIn ⟨_,h1,rfl⟩ e (fun z=>nomatch z) h
 | @frz a ob xs ea =>
  cases (show u=Value.ref a from rx)
  obtain⟨_,_,_,n,_,h1⟩:=(show ObjOk X.prog X.w H s.heap a (.frz ob (.lst xs)) from I.hok a _ ea)
  exact PySem.W.kia_one PySem.W.kitx_list I.kIn ⟨_,h1,rfl⟩ e (fun z=>nomatch z) h
 | @tup a xs ea =>
  cases (show u=Value.ref a from rx)
  obtain⟨_,_,_,p⟩:=(show ObjOk X.prog X.w H s.heap a (.tup xs) from I.hok a _ ea)
  obtain⟨o,h1,h2,_⟩:=p
  exact PySem.W.kia_one PySem.W.kitx_tuple I.kIn ⟨o,h1,h2⟩ e (fun z=>nomatch z) h
 | @dK a kvs ea =>
  cases (show u=Value.ref a from rx)
  obtain⟨_,_,vs,_,p⟩:=(show ObjOk X.prog X.w H s.heap a (.dK kvs) from I.hok a _ ea)
  obtain⟨o,es,ep,h1,h2,_⟩:=p
  exact PySem.W.kia_one PySem.W.kitx_dict I.kIn ⟨o,h1,h2.1⟩ e (fun z=>nomatch z) h
 | @dT a kvs ea =>
  cases (show u=Value.ref a from rx)
  obtain⟨_,_,xs,_,o,es,ep,h1,h2,_⟩:=(show ObjOk X.prog X.w H s.heap a (.dT kvs) from I.hok a _ ea)
  exact PySem.W.kia_one PySem.W.kitx_dict I.kIn ⟨o,h1,h2.1⟩ e (fun z=>nomatch z) h
 | @ins a C dx fs ea cl ha hn htk hm =>
  cases (show u=Value.ref a from rx)
  obtain⟨mA,O,_⟩:=ins_get I.hok ea
  obtain⟨od,J,_⟩:=O.look
  exact PySem.W.kia_one (PySem.W.kitx_own (cl.get _) cl.hd ha hn htk hm) I.kIn J e (fun z=>nomatch z) h
end
end L2
namespace L2
open PySem PySem.Spec PyProof.Rows
structure Room (k:Nat) (A:Around):Prop where
 hd:A.handled=none
 dp:A.depth + 3 * k + 5 < recursionLimit
 un:A.units + 16 * k + 200 < cLine
theorem Room.mono {j k:Nat} {A:Around} (r:Room k A) (h:j≤k):Room j A:=⟨r.hd,by have:=r.dp; omega,by have:=r.un; omega⟩
theorem Room.deeper {k:Nat} {A:Around} (r:Room (k + 1) A) (env:Env):Room k (A.deeper env) :=
 ⟨r.hd,by have:=r.dp; show A.depth + 1 + 3 * k + 5 < _; omega,by have:=r.un; show A.units + 3 + 16 * k + 200 < _; omega⟩
theorem make_depth {A:Around} {C:Addr} {us:List Value} {kw:List (Str × Value)}:(A.under (.builtin "type.__call__" ⟨.ref C::us,kw⟩)).depth=A.depth + 1:=by
 first|rfl|simp [Around.under,Code.weight,Code.isCreation,Code.isGuard,Code.isCaller,Code.frames,Code.isFrame,guardIds]
theorem make_units {A:Around} {C:Addr} {us:List Value} {kw:List (Str × Value)}:(A.under (.builtin "type.__call__" ⟨.ref C::us,kw⟩)).units=A.units + 1:=by
 first|rfl|simp [Around.under,Code.cUnits,Code.frames,Code.isFrame]
theorem Room.make {k:Nat} {A:Around} (r:Room (k + 1) A) (C:Addr) (us:List Value) (kw:List (Str × Value)):Room k (A.under (.builtin "type.__call__" ⟨.ref C::us,kw⟩)) :=
 ⟨r.hd,by have:=r.dp; rw[make_depth]; omega,by have:=r.un; rw[make_units]; omega⟩
theorem Room.depth {k:Nat} {A:Around} (r:Room k A):A.depth < recursionLimit:=by have:=r.dp; omega
theorem Room.units {k:Nat} {A:Around} (r:Room k A):A.units + 64 < cLine:=by have:=r.un; omega
def tNil:TA:=fun _ H Q=>Q [] H
def tCons (ta:TE) (tr:TA):TA:=fun σ H Q=>ta σ H fun x H1=>tr σ H1 fun xs H2=>Q (x::xs) H2
section
variable {X:Cx} {e:Expr} {es:List Expr} {te:TE} {t:TA} {pos:Pos}
theorem pa_nil:PA X [] tNil:=fun _ _ _ _ H Q I h=>Calls.spliced_nil ⟨[],H,I,.nil,h⟩
theorem pa_cons (ha:PE X e te) (hr:PA X es t) (hs:starEach (e::es) X.env=(false,eval e X.env)::starEach es X.env:=by rfl):PA X (e::es) (tCons te t):=by
 intro pos pins s σ H Q I h
 rw[hs]
 show wpAny _ _ (spliced ((false,eval e X.env)::backTo pos (starEach es X.env))) _ _ s
 refine Calls.spliced_cons (thn (ha pins s σ H _ I h) fun u s1 ⟨x,H1,I1,r1,q1⟩=>?_)
 exact thn (hr pos pins s1 σ H1 _ I1 q1) fun us s2 ⟨xs,H2,I2,r2,q2⟩=>⟨x::xs,H2,I2,.cons r1 r2,q2⟩
def tTup (t:TA):TE:=fun σ H Q=>t σ H fun xs H1=>xs.length≤sizeLine∧∀ p,H1 p=none→Q (.ref p) (upd H1 p (.tup xs))
def tLst (t:TA):TE:=fun σ H Q=>t σ H fun xs H1=>xs.length≤sizeLine∧∀ p,H1 p=none→Q (.ref p) (upd H1 p (.lst xs))
theorem pe_tup {x1} (h:PA X es t):PE X (.Tuple es x1 pos) (tTup t):=by
 intro pins s σ H Q I hq
 refine wpAny_Tuple_spliced (thn (h pos pins s σ H _ I hq) fun us s1 ⟨xs,H1,I1,r,z,q⟩=>⟨by rw[← r.length]; exact z,?_⟩)
 have hf:H1 s1.heap.objs.size=none:=I1.hok.fresh (zH _)
 refine⟨.ref s1.heap.objs.size,upd H1 s1.heap.objs.size (.tup xs),I1.laid (t':=s1.toks) (fun b u e=>Heap.get?_push_of_some _ e) (zH _) ?_,rfl,q _ hf⟩
 exact⟨z,us,r,⟨_,Heap.get?_push_size _ rfl,rfl,_,rfl⟩⟩
theorem pe_lst (h:PA X es t):PE X (.List es pos) (tLst t):=by
 intro pins s σ H Q I hq
 refine wpAny_List_spliced (thn (h pos pins s σ H _ I hq) fun us s1 ⟨xs,H1,I1,r,z,q⟩=>⟨by rw[← r.length]; exact z,?_⟩)
 have hf:H1 s1.heap.objs.size=none:=I1.hok.fresh (zH _)
 refine⟨.ref s1.heap.objs.size,upd H1 s1.heap.objs.size (.lst xs),I1.laid (t':=s1.toks) (fun b u e=>Heap.get?_push_of_some _ e) (zH _) ?_,rfl,q _ hf⟩
 exact⟨z,us,0,r,Heap.get?_push_size _ rfl⟩
end
abbrev Sp:=List V→Hp→VK→XK→Prop
abbrev CXT:=List Env→Hp→Shared→XK→Value→Shared→Prop
structure Env0 (P:Program) (w:World) (K:PySem.W.Frag) (mg:Str→Option Value) (base:Heap) (A:Around) (outer:List Env) (s:Shared) (H:Hp):Prop where
 frames:A.frames=some outer
 mod:Mod K mg base
 bs:∀ b o,base.get? b=some o→s.heap.get? b=some o∧H b=none
 bsz:base.objs.size≤s.heap.objs.size
 funs:s.heap.FunFrames base outer
 frf:∀ b ∈ frs outer,H b=none
 hok:HOk P w H s.heap
 bare:AllBare s.gens
def CE (outer:List Env) (P:Program) (w:World) (H:Hp) (s:Shared) (Q:VK) (u:Value) (s':Shared):Prop :=
 ∃ v H',s'.os=s.os∧AllBare s'.gens∧Un (frs outer) [] H H' s.heap s'.heap∧HOk P w H' s'.heap∧RelV v u∧Q v H'
def CR (CX:CXT) (outer:List Env) (P:Program) (w:World) (H:Hp) (s:Shared) (Q:VK) (E:XK) (r:Result) (s':Shared):Prop :=
 match r with
 | .ok (.ret u)=>CE outer P w H s Q u s'
 | .ok _=>False
 | .error e=>CX outer H s E e s'
structure FnOk (P:Program) (w:World) (K:PySem.W.Frag) (mg:Str→Option Value) (base:Heap) (CX:CXT) (k:Nat) (f:Addr) (fd:FuncData) (ps:List Str) (sp:Sp):Prop where
 len:∀ vs H Q E,sp vs H Q E→vs.length=ps.length
 run:∀(A:Around) (outer:List Env) (s:Shared) (H:Hp) (args:Args) (us:List Value) (vs:List V) (Q:VK) (E:XK),Room k A→Env0 P w K mg base A outer s H→BindsTo s fd args (ps.zip us)→Vals vs us→sp vs H Q E →
  codeAny (model P w) A (.call (.ref f) args) (CR CX outer P w H s Q E) s
theorem FnOk.mono {P:Program} {w:World} {K:PySem.W.Frag} {mg:Str→Option Value} {base:Heap} {CX:CXT} {j k:Nat} {f:Addr} {fd:FuncData} {ps:List Str} {sp:Sp} (F:FnOk P w K mg base CX j f fd ps sp) (h:j≤k) :
  FnOk P w K mg base CX k f fd ps sp:=⟨F.len,fun A outer s H args us vs Q E hr=>F.run A outer s H args us vs Q E (hr.mono h)⟩
theorem FnOk.imp {P:Program} {w:World} {K:PySem.W.Frag} {mg:Str→Option Value} {base:Heap} {CX:CXT} {k:Nat} {f:Addr} {fd:FuncData} {ps:List Str} {sp sp':Sp} (F:FnOk P w K mg base CX k f fd ps sp)
  (h:∀ vs H Q E,sp' vs H Q E→sp vs H Q E):FnOk P w K mg base CX k f fd ps sp' :=
 ⟨fun vs H Q E q=>F.len vs H Q E (h _ _ _ _ q),fun A outer s H args us vs Q E hr he hb hv hs=>F.run A outer s H args us vs Q E hr he hb hv (h _ _ _ _ hs)⟩
theorem Env0.make {P:Program} {w:World} {K:PySem.W.Frag} {mg:Str→Option Value} {base:Heap} {A:Around} {outer:List Env} {s:Shared} {H:Hp} (e:Env0 P w K mg base A outer s H) (C:Addr) (us:List Value) (kw:List (Str × Value)) :
  Env0 P w K mg base (A.under (.builtin "type.__call__" ⟨.ref C::us,kw⟩)) outer s H:=⟨by first|exact e.frames|(simpa [Around.under,Code.envs,Code.isFrame,pushEnvs] using e.frames),e.mod,e.bs,e.bsz,e.funs,e.frf,e.hok,e.bare⟩
section
variable {X:Cx} {pins:List (Addr × Obj)} {σ:St} {H:Hp} {s s':Shared}
theorem Inv.env0 (I:Inv X pins σ H s):Env0 X.prog X.w X.K X.mg X.base X.A X.stack s H :=
 ⟨I.ok.frames,I.ok.mod,I.bs,z4 I.ok.bsz I.sz,I.stack,I.stkFree,I.hok,I.bare⟩
theorem Inv.after {Q:VK} {u:Value} (I:Inv X pins σ H s) (h:CE X.stack X.prog X.w H s Q u s'):EP X pins σ Q u s':=by
 obtain⟨v,H',os,bare,un,hok,r,q⟩:=h
 obtain⟨hh,g,d,t,os'⟩:=s'
 obtain rfl:os'=s.os:=os
 exact⟨v,H',I.call (h':=hh) (g':=g) (d':=d) (t':=t) (ch:=[]) un hok bare (fun b z=>absurd z (by simp)),r,q⟩
end
def tCall (sp:Sp) (dvs:List V) (E:XK) (t:TA):TE:=fun σ H Q=>t σ H fun vs H1=>sp (vs++dvs) H1 Q E
inductive tMeth_ (C:Addr) (m:Str) (sp:Sp) (dvs:List V) (E:XK) (t:TA) (σ:St) (Q:VK) (x:V) (H1:Hp):Prop where
 | mk (a dx fs:_) (h_0:x=.ref a) (h_1:H1 a=some (.ins C dx fs)) (h_2:fs.lookup m=none) (h_3:t σ H1 fun vs H2=>sp (x::(vs++dvs)) H2 Q E):tMeth_ C m sp dvs E t σ Q x H1
def tMeth (C:Addr) (m:Str) (sp:Sp) (dvs:List V) (E:XK) (ta:TE) (t:TA):TE:=fun σ H Q=>ta σ H fun x H1=>tMeth_ C m sp dvs E t σ Q x H1
def tMake (C:Addr) (sp:Sp) (dvs:List V) (E:XK) (t:TA):TE:=fun σ H Q=>t σ H fun vs H1=>∀ x dx,H1 x=none→H1 dx=none→dx ≠ x →
 sp (.ref x::(vs++dvs)) (upd (upd H1 dx (.own x)) x (.ins C dx [])) (fun v H2=>v=.non∧Q (.ref x) H2) E
def Binds (K:PySem.W.Frag) (fd:FuncData) (ps:List Str) (ds:List Value):Prop :=
 ∀(s:Shared) (us:List Value),K.In s.heap→(us++ds).length=ps.length→BindsTo s fd ⟨us,[]⟩ (ps.zip (us++ds))
theorem Binds.all {K:PySem.W.Frag} {fd:FuncData} {ps:List Str} (h:∀ us:List Value,us.length=ps.length→bindArgs fd ⟨us,[]⟩=pure (ps.zip us)):Binds K fd ps []:=fun s us _ hl=>by
 rw[yD] at hl ⊢
 exact .of_eq (h us hl)
def Passes (CX:CXT) (X:Cx) (E:XK):Prop:=∀(pins:List (Addr × Obj)) (σ:St) (H:Hp) (s:Shared) (e:Value) (s':Shared),Inv X pins σ H s→CX X.stack H s E e s'→X.xe e s'
section
variable {X:Cx} {CX:CXT} {k:Nat} {f C:Addr} {fd:FuncData} {ps:List Str} {sp:Sp} {dvs:List V} {ds:List Value} {E:XK} {x m:Str} {p pos apos:Pos} {e o:Expr} {es:List Expr} {ta:TE} {t:TA}
theorem run_fn {pins:List (Addr × Obj)} {σ:St} {H:Hp} {s:Shared} {Q:VK} {us:List Value} {vs:List V} (F:FnOk X.prog X.w X.K X.mg X.base CX k f fd ps sp) (hr:Room k X.A) (hb:Binds X.K fd ps ds) (hd:Vals dvs ds) (hx:Passes CX X E)
  (I:Inv X pins σ H s) (r:Vals vs us) (h:sp (vs++dvs) H Q E):wpAny (model X.prog X.w) X.A (call (.ref f) us) (EP X pins σ Q) X.xe s:=by
 have r2:Vals (vs++dvs) (us++ds):=r.append hd
 have hl:(us++ds).length=ps.length:=by rw[← r2.length]; exact F.len _ _ _ _ h
 refine wpAny_call (codeAny_mono (F.run X.A X.stack s H ⟨us,[]⟩ (us++ds) (vs++dvs) Q E hr I.env0 (hb s us I.kIn hl) r2 h) fun r s' hq=>?_)
 cases r with
 | error e=>exact hx pins σ H s e s' I hq
 | ok fl =>
  cases fl with
  | ret u=>exact I.after hq
  | next=>exact False.elim hq
  | brk=>exact False.elim hq
  | cont=>exact False.elim hq
theorem pe_call (F:FnOk X.prog X.w X.K X.mg X.base CX k f fd ps sp) (hr:Room k X.A) (hg:Gl X x) (hm:X.mg x=some (.ref f)) (hk:PySem.W.keepIn X.K (.ref f)=true) (hb:Binds X.K fd ps ds) (hd:Vals dvs ds) (hx:Passes CX X E)
  (ha:PA X (e::es) t) (hdb:(x == ("__debug__":Str))=false:=by decide) (he:starEach (e::es) X.env=(false,eval e X.env)::starEach es X.env:=by rfl) (hpl:(backTo pos (starEach es X.env)).any (·.1)=false:=by rfl) :
  PE X (.Call (.Name x p) (e::es) [] pos) (tCall sp dvs E t):=by
 intro pins s σ H Q I h
 refine wpAny_Call_Name_kw (ld_glob I hg hm ?_ hdb)
 refine PySem.W.callWith_K (h₀:=X.base) I.ok.mod.kin hk (thn (ha pos pins s σ H _ I h) fun us s1 ⟨vs,H1,I1,r,q⟩=>⟨I1.kIn,?_⟩) he hpl
 exact run_fn F hr hb hd hx I1 r q
theorem pe_meth {pl:Sem Bool} (he:PE X o ta) (c:Cls X.K C) (hm:Meth X.K C m f) (F:FnOk X.prog X.w X.K X.mg X.base CX k f fd ps sp) (hr:Room k X.A) (hb:Binds X.K fd ps ds) (hd:Vals dvs ds) (hx:Passes CX X E) (ha:PA X (e::es) t)
  (hst:starEach (e::es) X.env=(false,eval e X.env)::starEach es X.env:=by rfl) (hpl:(backTo pos (starEach es X.env)).any (·.1)=false:=by rfl)
  (ht:eval (.Call (.Attribute o m apos) (e::es) [] pos) X.env=(do
   let ov ← eval o X.env
   standAt apos.atName
   let (f,first) ← holding [ov] (getMethod ov m pl)
   callWith pos f first (backTo pos (starEach (e::es) X.env)) (backToKw pos (keywordEach [] X.env))):=by rfl) :
  PE X (.Call (.Attribute o m apos) (e::es) [] pos) (tMeth C m sp dvs E ta t):=by
 intro pins s σ H Q I h
 refine PySem.W.methodCall_KW (pl:=pl) (thn (he pins s σ H _ I h) fun u s1 ⟨x,H1,I1,rx,a,dx,fs,ex,ea,l,q⟩=>?_) ht
 subst ex
 obtain rfl:u=Value.ref a:=rx
 refine getmeth_ok I1 ea c hm l ?_
 refine PySem.W.callWith_K (first:=[.ref a]) (h₀:=X.base) I.ok.mod.kin hm.kp (thn (ha pos pins s1 σ H1 _ I1 q) fun us s2 ⟨vs,H2,I2,r,q2⟩=>⟨I2.kIn,?_⟩) hst hpl
 exact run_fn (us:=.ref a::us) (vs:=.ref a::vs) F hr hb hd hx I2 (.cons rfl r) q2
structure Mk (K:PySem.W.Frag) (C f:Addr):Prop where
 makes:PySem.W.makesIn K C=true
 init:PySem.W.findIn K (.ref C) "__init__"=some (some (.ref f))
 fn:PySem.W.isFn K (.ref f)=true
 kp:PySem.W.keepIn K (.ref C)=true
theorem run_make {pins:List (Addr × Obj)} {σ:St} {H:Hp} {s:Shared} {Q:VK} {us:List Value} {vs:List V} (M:Mk X.K C f) (F:FnOk X.prog X.w X.K X.mg X.base CX k f fd ps sp) (hr:Room (k + 1) X.A) (hb:Binds X.K fd ps ds) (hd:Vals dvs ds)
  (hx:Passes CX X E) (I:Inv X pins σ H s) (r:Vals vs us)
  (h:∀ x dx,H x=none→H dx=none→dx ≠ x→sp (.ref x::(vs++dvs)) (upd (upd H dx (.own x)) x (.ins C dx [])) (fun v H2=>v=.non∧Q (.ref x) H2) E) :
  wpAny (model X.prog X.w) X.A (call (.ref C) us) (EP X pins σ Q) X.xe s:=by
 have hq:=h (s.heap.objs.size + 1) s.heap.objs.size (I.hok.fresh (yM _)) (I.hok.fresh (zH _)) (zR (qC _))
 have I2:=Inv.made (C:=C) I
 have r2:Vals (V.ref (s.heap.objs.size + 1)::(vs++dvs)) (Value.ref (s.heap.objs.size + 1)::(us++ds)):=.cons rfl (r.append hd)
 have hl:(Value.ref (s.heap.objs.size + 1)::us++ds).length=ps.length:=by
  have e:=r2.length
  rw[F.len _ _ _ _ hq] at e
  exact e.symm
 refine wpAny_call (make_map (f:=f) I.kIn M.makes M.init (beq_iff_eq.mp M.fn) (codeAny_mono (F.run _ X.stack _ _ ⟨Value.ref (s.heap.objs.size + 1)::us,[]⟩ (Value.ref (s.heap.objs.size + 1)::(us++ds)) _ _ E (hr.make C us [])
  (I2.env0.make C us []) (hb _ (Value.ref (s.heap.objs.size + 1)::us) I2.kIn hl) r2 hq) fun r s' hq'=>?_))
 cases r with
 | error e=>exact hx pins σ _ _ e s' I2 hq'
 | ok fl =>
  cases fl with
  | ret u =>
   obtain⟨v,H',I3,rv,ev,q3⟩:=I2.after hq'
   subst ev
   exact⟨rv,⟨V.ref (s.heap.objs.size + 1),H',I3,rfl,q3⟩⟩
  | next=>exact False.elim hq'
  | brk=>exact False.elim hq'
  | cont=>exact False.elim hq'
theorem pe_make (M:Mk X.K C f) (F:FnOk X.prog X.w X.K X.mg X.base CX k f fd ps sp) (hr:Room (k + 1) X.A) (hg:Gl X x) (hm:X.mg x=some (.ref C)) (hb:Binds X.K fd ps ds) (hd:Vals dvs ds) (hx:Passes CX X E)
  (ha:PA X (e::es) t) (hdb:(x == ("__debug__":Str))=false:=by decide) (he:starEach (e::es) X.env=(false,eval e X.env)::starEach es X.env:=by rfl) (hpl:(backTo pos (starEach es X.env)).any (·.1)=false:=by rfl) :
  PE X (.Call (.Name x p) (e::es) [] pos) (tMake C sp dvs E t):=by
 intro pins s σ H Q I h
 refine wpAny_Call_Name_kw (ld_glob I hg hm ?_ hdb)
 refine PySem.W.callWith_K (h₀:=X.base) I.ok.mod.kin M.kp (thn (ha pos pins s σ H _ I h) fun us s1 ⟨vs,H1,I1,r,q⟩=>⟨I1.kIn,?_⟩) he hpl
 exact run_make M F hr hb hd hx I1 r q
end
section
variable {X:Cx} {CX:CXT} {k:Nat} {f C:Addr} {fd:FuncData} {ps ks:List Str} {sp:Sp} {E:XK} {x m:Str} {p pos apos kpos:Pos} {e o:Expr} {es:List Expr} {kws:List Keyword} {te ta:TE} {t tk:TA} {nm:Option Str}
variable {g:List Value→List Value→List Value} {gV:List V→List V→List V}
end
structure FnScope (N P:List Str) (sc:Scope):Prop where
 kind:sc.kind=.function
 co:sc.isCoroutine=false
 gen:sc.isGenerator=false
 nd:N.Nodup
 pre:N.take P.length=P
 par:∀ x ∈ P,sc.names.lookup x=some .local∨sc.names.lookup x=some .cell
 nofree:∀ y ∈ sc.names,y.2 ≠ .free
theorem bindL_out {kindOf:Str→Option NameKind} {x:Str}:∀ {binds:List (Str × Value)} {m:Str→Option Value},(∀ v,(x,v) ∉ binds)→bindL kindOf binds m x=m x
 | [],_,_=>rfl
 | (n,v)::r,m,h=>by
  unfold bindL
  rw[bindL_out fun w hw=>h w (zI _ hw)]
  split
  ·have:x ≠ n:=by rintro rfl; exact h v zL
   simp [this]
  ·rfl
theorem bindC_out {kindOf:Str→Option NameKind} {x:Str}:∀ {binds:List (Str × Value)} {m:Str→Option Value},(∀ v,(x,v) ∉ binds)→bindC kindOf binds m x=m x
 | [],_,_=>rfl
 | (n,v)::r,m,h=>by
  unfold bindC
  rw[bindC_out fun w hw=>h w (zI _ hw)]
  split
  ·rfl
  ·have:x ≠ n:=by rintro rfl; exact h v zL
   simp [this]
theorem bindL_get {kindOf:Str→Option NameKind} {x:Str} {v:Value}:∀ {P:List Str} {vs:List Value} {i:Nat} {m:Str→Option Value},P.Nodup→P[i]?=some x→vs[i]?=some v→kindOf x=some .local →
  bindL kindOf (P.zip vs) m x=some v
 | [],_,_,_,_,h,_,_=>by simp at h
 | _::_,[],_,_,_,_,h,_=>by simp at h
 | p::P,w::vs,0,m,nd,h1,h2,hk=>by
  simp at h1 h2; subst h1; subst h2
  show bindL kindOf ((p,w)::P.zip vs) m p=_
  unfold bindL
  rw[bindL_out fun v hv=>(yW.mp nd).1 (qK hv).1,if_pos hk]
  simp
 | p::P,w::vs,i + 1,m,nd,h1,h2,hk=>by
  show bindL kindOf ((p,w)::P.zip vs) m x=_
  unfold bindL
  exact bindL_get (i:=i) (yW.mp nd).2 (by simpa using h1) (by simpa using h2) hk
theorem bindC_get {kindOf:Str→Option NameKind} {x:Str} {v:Value}:∀ {P:List Str} {vs:List Value} {i:Nat} {m:Str→Option Value},P.Nodup→P[i]?=some x→vs[i]?=some v→kindOf x ≠ some .local →
  bindC kindOf (P.zip vs) m x=some v
 | [],_,_,_,_,h,_,_=>by simp at h
 | _::_,[],_,_,_,_,h,_=>by simp at h
 | p::P,w::vs,0,m,nd,h1,h2,hk=>by
  simp at h1 h2; subst h1; subst h2
  show bindC kindOf ((p,w)::P.zip vs) m p=_
  unfold bindC
  rw[bindC_out fun v hv=>(yW.mp nd).1 (qK hv).1,if_neg hk]
  simp
 | p::P,w::vs,i + 1,m,nd,h1,h2,hk=>by
  show bindC kindOf ((p,w)::P.zip vs) m x=_
  unfold bindC
  exact bindC_get (i:=i) (yW.mp nd).2 (by simpa using h1) (by simpa using h2) hk
def start (N:List Str) (vs:List V):St:=vs.map some++List.replicate (N.length - vs.length) none
def cxOf (CX:CXT) (P:Program) (w:World) (K:PySem.W.Frag) (mg:Str→Option Value) (base:Heap) (N:List Str) (qual:Str) (scope:Scope) (f:Addr) (cd:Value) (A:Around) (outer:List Env) (s:Shared) (H:Hp) (E:XK):Cx where
 prog:=P
 w:=w
 K:=K
 mg:=mg
 base:=base
 A:=A.deeper (envOfC qual scope s.heap.objs.size f cd)
 N:=N
 s₀:=s
 H₀:=H
 env:=envOfC qual scope s.heap.objs.size f cd
 outer:=outer
 stack:=envOfC qual scope s.heap.objs.size f cd::outer
 ex:=[]
 calm:=true
 fn:=fun _=>true
 pn:=[]
 xe:=fun e s'=>wpAny (model P w) (A.deeper (envOfC qual scope s.heap.objs.size f cd)) (leaving (envOfC qual scope s.heap.objs.size f cd) e) (fun _ s''=>CX outer H s E e s'') (fun e' s''=>CX outer H s E e' s'') s'
theorem cell_has {sc:Scope} {n:Nat} {x:Str} (h:sc.names.lookup x=some .cell):∃ c,(cellsFrom n sc.names []).lookup x=some c:=by
 have q:=PySem.W.cellsFrom_some sc.names n [] (.inl h)
 exact yV.mp q
theorem inv_start {CX:CXT} {P:Program} {w:World} {K:PySem.W.Frag} {mg:Str→Option Value} {base:Heap} {N ps:List Str} {qual:Str} {scope:Scope} {f:Addr} {cd:Value} {A:Around} {outer:List Env} {s s1:Shared} {H:Hp} {E:XK} {us:List Value} {vs:List V}
  (S:FnScope N ps scope) (hd:A.handled=none) (e0:Env0 P w K mg base A outer s H) (hl:vs.length=ps.length) (r:Vals vs us)
  (x:InCallC s s.heap.objs.size (bindL (envOfC qual scope s.heap.objs.size f cd).kindOf (ps.zip us) fun _=>none) (cellsFrom (s.heap.objs.size + 1) scope.names []) (bindC (envOfC qual scope s.heap.objs.size f cd).kindOf (ps.zip us) fun _=>none) s1) :
  Inv (cxOf CX P w K mg base N qual scope f cd A outer s H E) [] (start N vs) H s1:=by
 have hpl:ps.length≤N.length:=by have:=congrArg List.length S.pre; rw[zU] at this; omega
 obtain⟨h1,tk,rfl,hk⟩:=x.done
 have noA:∀ b:Addr,b ∉ (cxOf CX P w K mg base N qual scope f cd A outer s H E).ex:=fun b z=>absurd (show b ∈ ([]:List Addr) from z) (by simp)
 refine⟨⟨e0.mod,S.kind,rfl,rfl,zH _,fun y z c h1 h2=>?_,fun y hy=>?_,fun y c _ h=>?_,fun _=>hd,Around.frames_deeper e0.frames,.inr ⟨rfl,rfl⟩,fun b z=>absurd z (noA b),e0.bs,e0.bsz,fun b _ _=>noA b,fun b z=>absurd z (noA b),e0.funs,e0.frf⟩,
  rfl,e0.bare,Un.kept hk,⟨_,x.toInCall.ns,fun i y v h1 h2 h3=>?_⟩,fun y c h=>⟨_,x.cell y c h⟩,e0.hok.fresh (zH _),fun y c h=>?_,fun p hp=>absurd (show p ∈ ([]:List (Addr × Obj)) from hp) (by simp),e0.hok.kept hk,?_⟩
 ·exact name_of_addr x.apart (PySem.mem_of_lookup h1) (PySem.mem_of_lookup h2)
 ·have hy:scope.names.lookup y=some .cell∨scope.names.lookup y=some .free:=hy
  rcases hy with hy|hy
  ·exact cell_has hy
  ·exact absurd rfl (S.nofree _ (PySem.mem_of_lookup hy))
 ·exact yQ (x.above y c (PySem.mem_of_lookup h))
 ·have hi:i < vs.length:=by
   unfold start at h2
   by_cases hi:i < vs.length
   ·exact hi
   ·rw[zZ (by simpa using hi)] at h2
    rw[List.getElem?_replicate] at h2
    split at h2 <;> cases h2
  have ha:vs[i]?=some v:=by
   unfold start at h2
   rw[yK (by simpa using hi),zE] at h2
   cases e:vs[i]? with
   | none=>rw[e] at h2; cases h2
   | some a=>rw[e] at h2; cases h2; rfl
  obtain⟨u,hu,rv⟩:=r.get ha
  have hp:ps[i]?=some y:=by
   rw[← S.pre,j1 (by omega)]; exact h1
  have ndP:ps.Nodup:=by rw[← S.pre]; exact S.nd.sublist (List.take_sublist _ _)
  refine⟨u,rv,?_⟩
  rcases S.par y (zG hp) with k|k
  ·exact .inl ⟨k,bindL_get ndP hp hu k⟩
  ·obtain⟨c,e⟩:=cell_has (n:=s.heap.objs.size + 1) k
   refine .inr ⟨.inl k,c,e,?_⟩
   have q:=x.cell y c e
   rw[bindC_get ndP hp hu (by show scope.names.lookup y ≠ _; rw[k]; decide)] at q
   exact q
 ·exact e0.hok.fresh (yQ (x.above y c (PySem.mem_of_lookup h)))
 ·unfold start
  show _=N.length
  rw[zN,zC,List.length_replicate]
  omega
theorem fn_of {CX:CXT} {P:Program} {w:World} {K:PySem.W.Frag} {mg:Str→Option Value} {base:Heap} {k:Nat} {f:Addr} {name qual:Str} {params:Arguments} {body:List Stmt} {scope:Scope} {dV kV doc pm cdv ct oc:Value} {an od:Option Addr}
  {osl:Array (Option Value)} {N ps:List Str} {sp:Sp} (lk:K.lookup f=some ⟨oc,od,.func (PySem.W.fnOf name qual params body scope dV kV doc pm an cdv ct),osl⟩) (hcd:PySem.W.codeIn K cdv qual=true) (S:FnScope N ps scope)
  (len:∀ vs H Q E,sp vs H Q E→vs.length=ps.length)
  (hbody:∀(A:Around) (outer:List Env) (s:Shared) (H:Hp) (vs:List V) (Q:VK) (E:XK),Room k (A.deeper (envOfC qual scope s.heap.objs.size f cdv))→sp vs H Q E →
   ∃ t,PSs (cxOf CX P w K mg base N qual scope f cdv A outer s H E) body t∧t { nx:=fun _ H'=>Q .non H',rt:=Q } (start N vs) H) :
  FnOk P w K mg base CX (k + 1) f (PySem.W.fnOf name qual params body scope dV kV doc pm an cdv ct) ps sp:=by
 refine⟨len,fun A outer s H args us vs Q E hr e0 hb r hsp=>?_⟩
 have hl:=len _ _ _ _ hsp
 have KX:K.In s.heap:=e0.mod.kin.keeps fun b o e=>(e0.bs b o e).1
 have lim:s.heap.NoLimit:=e0.mod.nolimit.keeps fun b o e=>(e0.bs b o e).1
 have hkind:∀ y ∈ ps.zip us,scope.names.lookup y.1=some .local∨(scope.names.lookup y.1=some .cell∧((cellsFrom (s.heap.objs.size + 1) scope.names []).lookup y.1).isSome=true):=fun⟨n,v⟩ hy=>by
  rcases S.par n (qK hy).1 with q|q
  ·exact .inl q
  ·exact .inr ⟨q,PySem.W.cellsFrom_some _ _ _ (.inl q)⟩
 refine codeAny_call_function hr.depth (KX _ _ lk) rfl S.co S.gen rfl (PySem.W.codeRec_of KX hcd) (hb _ _ _ _ ?_)
 refine wpAny_newFunctionEnv_cells S.kind hkind fun env he s1 x=>?_
 subst he
 refine⟨lim.keeps x.toInCall.keep,codeAny_func ?_⟩
 obtain⟨t,ht,hq⟩:=hbody A outer s H vs Q E (hr.deeper _) hsp
 have I:Inv (cxOf CX P w K mg base N qual scope f cdv A outer s H E) [] (start N vs) H s1:=inv_start S hr.hd e0 hl r x
 refine wpAny_mono (ht [] s1 (start N vs) H _ I hq) (fun fl s' hs=>?_) fun e s' hs=>hs
 have fin:∀ {σ':St} {H':Hp} {v:V} {u:Value},Inv (cxOf CX P w K mg base N qual scope f cdv A outer s H E) [] σ' H' s'→RelV v u→Q v H'→CE outer P w H s Q u s' :=
  fun {σ' H' v u} J rv q=>⟨v,H',J.os,J.bare,J.base,J.hok,rv,q⟩
 cases fl with
 | ret u =>
  obtain⟨v,σ',H',J,rv,q⟩:=hs
  exact fin J rv q
 | next =>
  obtain⟨σ',H',J,q⟩:=hs
  exact fin (v:=V.non) (u:=Value.none) J rfl q
 | brk =>
  obtain⟨_,_,_,q⟩:=hs
  exact False.elim q
 | cont =>
  obtain⟨_,_,_,q⟩:=hs
  exact False.elim q
end L2
namespace L2
open PySem PySem.Spec PyProof.Rows
section
variable {X:Cx} {x:Str} {p pos:Pos} {e:Expr} {es:List Expr} {t:TA} {id T:String} {r:List V→Hp→VK→Prop}
def tCB (r:List V→Hp→VK→Prop) (t:TA):TE:=fun σ H Q=>t σ H fun vs H1=>r vs H1 Q
theorem pe_callB (hc:CallR X (.builtin id) r) (hg:Gl X x) (hm:X.mg x=none) (hv:bootBuiltins x=some (.builtin id)) (ha:PA X (e::es) t) (hn:x ≠ "__name__":=by decide) (hdb:(x == ("__debug__":Str))=false:=by decide)
  (he:starEach (e::es) X.env=(false,eval e X.env)::starEach es X.env:=by rfl) (hpl:(backTo pos (starEach es X.env)).any (·.1)=false:=by rfl):PE X (.Call (.Name x p) (e::es) [] pos) (tCB r t):=by
 intro pins s σ H Q I h
 refine wpAny_Call_Name_kw (ld_blt I hg hm hv ?_ hn hdb)
 exact PyProof.Rows.callWith_builtin1 (thn (ha pos pins s σ H _ I h) fun us s1 ⟨vs,H1,I1,r1,q1⟩=>hc pins s1 σ H1 vs us Q I1 r1 q1) he hpl
theorem pe_callTy (hc:CallR X (.type T) r) (hg:Gl X x) (hm:X.mg x=none) (hv:bootBuiltins x=some (.type T)) (ha:PA X (e::es) t) (hn:x ≠ "__name__":=by decide) (hdb:(x == ("__debug__":Str))=false:=by decide)
  (he:starEach (e::es) X.env=(false,eval e X.env)::starEach es X.env:=by rfl) (hpl:(backTo pos (starEach es X.env)).any (·.1)=false:=by rfl):PE X (.Call (.Name x p) (e::es) [] pos) (tCB r t):=by
 intro pins s σ H Q I h
 refine wpAny_Call_Name_kw (ld_blt I hg hm hv ?_ hn hdb)
 exact PyProof.Rows.callWith_type1 (thn (ha pos pins s σ H _ I h) fun us s1 ⟨vs,H1,I1,r1,q1⟩=>hc pins s1 σ H1 vs us Q I1 r1 q1) he hpl
end
end L2
namespace L2
open PySem PySem.Spec PyProof.Rows
section
variable {κ:Type} [DecidableEq κ]
def valV (kvs:List (κ × V)) (k:κ):Option V:=(kvs.find? fun kv=>decide (kv.1=k)).map (·.2)
def putK (kvs:List (κ × V)) (k:κ) (v:V):List (κ × V) :=
 if (kvs.any fun kv=>decide (kv.1=k))=true then kvs.map (fun kv=>if kv.1=k then (kv.1,v) else kv) else kvs++[(k,v)]
theorem valV_pos {p:κ × V} {r:List (κ × V)} {k:κ} (e:p.1=k):valV (p::r) k=some p.2:=by simp [valV,qB,e]
theorem valV_neg {p:κ × V} {r:List (κ × V)} {k:κ} (e:¬ p.1=k):valV (p::r) k=valV r k:=by simp [valV,qB,e]
theorem valV_any (k:κ):∀ kvs:List (κ × V),(kvs.any fun kv=>decide (kv.1=k))=(valV kvs k).isSome
 | []=>rfl
 | p::r=>by
  rw[qS]
  by_cases e:p.1=k
  ·simp only [valV_pos e,decide_eq_true e,Bool.true_or,Option.isSome_some]
  ·rw[valV_neg e,decide_eq_false e,Bool.false_or]; exact valV_any k r
theorem length_putK (kvs:List (κ × V)) (k:κ) (v:V):(putK kvs k v).length≤kvs.length + 1:=by
 unfold putK
 split
 ·rw[zC]; omega
 ·rw[zN,zS,qA]; omega
theorem putK_new {kvs:List (κ × V)} {k:κ} (v:V) (h:valV kvs k=none):putK kvs k v=kvs++[(k,v)]:=by
 unfold putK
 rw[valV_any,h]
 exact if_neg (by decide)
theorem RelO.isSome_eq {o:Option V} {u:Option Value} (r:RelO o u):o.isSome=u.isSome:=by
 cases o with
 | none=>cases u with
  | none=>rfl
  | some _=>exact(show False from r).elim
 | some _=>cases u with
  | none=>exact(show False from r).elim
  | some _=>rfl
theorem KV.val {kvs:List (κ × V)} {vs:List (κ × Value)} (r:KV kvs vs) (k:κ):RelO (valV kvs k) (valueAt vs k):=by
 unfold KV at r
 induction r with
 | nil=>exact True.intro
 | @cons p q ps qs h t ih =>
  obtain⟨h1,h2⟩:=h
  by_cases e:p.1=k
  ·have e':q.1=k:=h1.symm.trans e
   have b:valueAt (q::qs) k=some q.2:=by simp [valueAt,qB,e']
   rw[valV_pos e,b]; exact h2
  ·have e':¬ q.1=k:=fun z=>e (h1.trans z)
   have b:valueAt (q::qs) k=valueAt qs k:=by simp [valueAt,qB,e']
   rw[valV_neg e,b]; exact ih
theorem KV.any {kvs:List (κ × V)} {vs:List (κ × Value)} (r:KV kvs vs) (k:κ):(kvs.any fun kv=>decide (kv.1=k))=vs.any fun kv=>decide (kv.1=k):=by
 unfold KV at r
 induction r with
 | nil=>rfl
 | cons h t ih=>rw[qS,qS,ih,h.1]
theorem KV.repl {kvs:List (κ × V)} {vs:List (κ × Value)} (r:KV kvs vs) (k:κ) {y:V} {u:Value} (ry:RelV y u) :
  KV (kvs.map fun kv=>if kv.1=k then (kv.1,y) else kv) (vs.map fun kv=>if kv.1=k then (kv.1,u) else kv):=by
 unfold KV at r ⊢
 induction r with
 | nil=>exact .nil
 | @cons p q ps qs h t ih =>
  rw[yJ,yJ]
  refine .cons ?_ ih
  obtain⟨h1,h2⟩:=h
  by_cases e:p.1=k
  ·rw[if_pos e,if_pos (h1.symm.trans e)]; exact⟨h1,ry⟩
  ·rw[if_neg e,if_neg (fun z=>e (h1.trans z))]; exact⟨h1,h2⟩
theorem KV.put {kvs:List (κ × V)} {vs:List (κ × Value)} (r:KV kvs vs) (k:κ) {y:V} {u:Value} (ry:RelV y u):KV (putK kvs k y) (stored vs k u):=by
 unfold putK stored
 rw[r.any k]
 by_cases e:(vs.any fun kv=>decide (kv.1=k))=true
 ·rw[if_pos e,if_pos e]; exact r.repl k ry
 ·rw[if_neg e,if_neg e]; exact Paired.snoc r ⟨rfl,ry⟩
theorem KV.length {kvs:List (κ × V)} {vs:List (κ × Value)} (r:KV kvs vs):kvs.length=vs.length:=Paired.length r
end
theorem kV_is {P:Program} {w:World} {k:Key} {u:Value} (r:RelV (kV k) u):(mixKind P w).is k u=true:=by
 cases k with
 | inl i=>obtain⟨t,e⟩:=(show ∃ t,u=Value.int i t from r); subst e; exact mixKind_int P w i t
 | inr x=>obtain⟨t,e⟩:=(show ∃ t,u=Value.str x t from r); subst e; exact mixKind_str P w x t
theorem items_are {P:Program} {w:World}:∀ {ks:List Key} {us:List Value},Vals (ks.map kV) us→ItemsAre (mixKind P w) ks us
 | [],_,r=>by rw[jM] at r; cases r; exact .nil
 | k::ks,_,r=>by
  rw[yJ] at r
  cases r with
  | cons h t=>exact .cons (kV_is h) (items_are t)
abbrev KT (H:Hp):List (List Key × V)→List (List Key × Addr × Value)→Prop:=Paired fun p q=>p.1=q.1∧H q.2.1=some (.tup (p.1.map kV))∧RelV p.2 q.2.2
theorem KT.val {H:Hp} {kvs:List (List Key × V)} {xs:List (List Key × Addr × Value)} (r:KT H kvs xs) (k:List Key):RelO (valV kvs k) ((atKey xs k).map (·.2)):=by
 induction r with
 | nil=>exact True.intro
 | @cons p q ps qs h t ih =>
  obtain⟨h1,_,h2⟩:=h
  by_cases e:p.1=k
  ·have e':q.1=k:=h1.symm.trans e
   have b:atKey (q::qs) k=some q.2:=by simp [atKey,qB,e']
   rw[valV_pos e,b]; exact h2
  ·have e':¬ q.1=k:=fun z=>e (h1.trans z)
   have b:atKey (q::qs) k=atKey qs k:=by simp [atKey,qB,e']
   rw[valV_neg e,b]; exact ih
theorem KT.repl {H:Hp} {kvs:List (List Key × V)} {xs:List (List Key × Addr × Value)} (r:KT H kvs xs) (k:List Key) {y:V} {u:Value} (ry:RelV y u) :
  KT H (kvs.map fun kv=>if kv.1=k then (kv.1,y) else kv) (xs.map (putAt k u)):=by
 induction r with
 | nil=>exact .nil
 | @cons p q ps qs h t ih =>
  rw[yJ,yJ]
  refine .cons ?_ ih
  obtain⟨h1,h2,h3⟩:=h
  unfold putAt
  by_cases e:p.1=k
  ·rw[if_pos e,if_pos (h1.symm.trans e)]; exact⟨h1,h2,ry⟩
  ·rw[if_neg e,if_neg (fun z=>e (h1.trans z))]; exact⟨h1,h2,h3⟩
theorem KT.put {H:Hp} {kvs:List (List Key × V)} {xs:List (List Key × Addr × Value)} (r:KT H kvs xs) (k:List Key) {b:Addr} {y:V} {u:Value} (hb:H b=some (.tup (k.map kV))) (ry:RelV y u) :
  KT H (putK kvs k y) (storedH xs k b u):=by
 have e:(kvs.any fun kv=>decide (kv.1=k))=(atKey xs k).isSome:=by
  rw[valV_any,(r.val k).isSome_eq,Option.isSome_map]
 unfold putK storedH
 rw[e]
 by_cases q:(atKey xs k).isSome=true
 ·rw[if_pos q,if_pos q]; exact r.repl k ry
 ·rw[if_neg q,if_neg q]; exact Paired.snoc r ⟨rfl,hb,ry⟩
theorem KT.keeps {H H':Hp} {kvs:List (List Key × V)} {xs:List (List Key × Addr × Value)} (r:KT H kvs xs) (ht:∀ b ys,H b=some (.tup ys)→H' b=some (.tup ys)):KT H' kvs xs :=
 Paired.mapP r fun _ _ z=>⟨z.1,ht _ _ z.2.1,z.2.2⟩
section
variable {P:Program} {w:World} {H:Hp} {h:Heap} {a:Addr}
theorem rd_of {u:HO} (ok:HOk P w H h) (e:Rd H a u):ObjOk P w H h a u:=e.ok ok
theorem dk_rd {kvs:List (Key × V)} (ok:HOk P w H h) (e:Rd H a (.dK kvs)):kvs.length≤sizeLine∧(a == sysModules)=false∧∃ vs,KV kvs vs∧h.DictOf (mixKind P w) a vs :=
 show ObjOk P w H h a (.dK kvs) from rd_of ok e
theorem dk_of {kvs:List (Key × V)} (ok:HOk P w H h) (e:H a=some (.dK kvs)):kvs.length≤sizeLine∧(a == sysModules)=false∧∃ vs,KV kvs vs∧h.DictOf (mixKind P w) a vs:=dk_rd ok (.inl e)
theorem key_of {ks:List Key} (ok:HOk P w H h) (e:H a=some (.tup (ks.map kV))):(tupleKind (mixKind P w)).is h ks a:=by
 obtain⟨_,its,r,o,h1,h2,n,h3⟩:=(show ObjOk P w H h a (.tup (ks.map kV)) from ok a _ e)
 exact⟨o,its.toArray,n,h1,h2,h3,by simpa using items_are r⟩
theorem dt_rd {kvs:List (List Key × V)} (ok:HOk P w H h) (e:Rd H a (.dT kvs)):kvs.length≤sizeLine∧(a == sysModules)=false ∧
  ∃ xs,KT H kvs xs∧h.DictOfH (tupleKind (mixKind P w)) a xs:=by
 obtain⟨z,y,xs,r,o,es,ep,h1,h2,h3,h4,h5⟩:=(show ObjOk P w H h a (.dT kvs) from rd_of ok e)
 refine⟨z,y,xs,r,o,es,ep,h1,h2,h3,h4,fun x hx=>?_,h5⟩
 have all:∀ {l:List (List Key × V)} {m:List (List Key × Addr × Value)},KT H l m→∀ x ∈ m,(tupleKind (mixKind P w)).is h x.1 x.2.1:=by
  intro l m q
  induction q with
  | nil=>intro x hx; exact nomatch hx
  | @cons p q ps qs hq t ih =>
   intro x hx
   rcases zQ.mp hx with e|hx
   ·subst e
    exact key_of ok (by rw[← hq.1]; exact hq.2.1)
   ·exact ih x hx
 exact all r x hx
theorem dt_of {kvs:List (List Key × V)} (ok:HOk P w H h) (e:H a=some (.dT kvs)):kvs.length≤sizeLine∧(a == sysModules)=false ∧
  ∃ xs,KT H kvs xs∧h.DictOfH (tupleKind (mixKind P w)) a xs:=dt_rd ok (.inl e)
end
def DGet (H:Hp) (a:Addr) (y:V) (r:Option V):Prop :=
 (∃ kvs k,Rd H a (.dK kvs)∧y=kV k∧r=valV kvs k)∨∃ kvs k b,Rd H a (.dT kvs)∧y=.ref b∧H b=some (.tup (k.map kV))∧r=valV kvs k
def DPut (H:Hp) (a:Addr) (y v:V) (H':Hp):Prop :=
 (∃ kvs k,H a=some (.dK kvs)∧y=kV k∧kvs.length < sizeLine∧H'=upd H a (.dK (putK kvs k v))) ∨
 ∃ kvs k b,H a=some (.dT kvs)∧y=.ref b∧H b=some (.tup (k.map kV))∧kvs.length < sizeLine∧H'=upd H a (.dT (putK kvs k v))
theorem DGet.k {H:Hp} {a:Addr} {kvs:List (Key × V)} {k:Key} (e:H a=some (.dK kvs)):DGet H a (kV k) (valV kvs k):=.inl ⟨kvs,k,.inl e,rfl,rfl⟩
theorem DGet.t {H:Hp} {a b:Addr} {kvs:List (List Key × V)} {k:List Key} (e:H a=some (.dT kvs)) (eb:H b=some (.tup (k.map kV))):DGet H a (.ref b) (valV kvs k):=.inr ⟨kvs,k,b,.inl e,rfl,eb,rfl⟩
theorem DPut.k {H:Hp} {a:Addr} {kvs:List (Key × V)} {k:Key} {v:V} (e:H a=some (.dK kvs)) (hl:kvs.length < sizeLine):DPut H a (kV k) v (upd H a (.dK (putK kvs k v))):=.inl ⟨kvs,k,e,rfl,hl,rfl⟩
theorem DPut.t {H:Hp} {a b:Addr} {kvs:List (List Key × V)} {k:List Key} {v:V} (e:H a=some (.dT kvs)) (eb:H b=some (.tup (k.map kV))) (hl:kvs.length < sizeLine) :
  DPut H a (.ref b) v (upd H a (.dT (putK kvs k v))):=.inr ⟨kvs,k,b,e,rfl,eb,hl,rfl⟩
section
variable {X:Cx} {pins:List (Addr × Obj)} {σ:St} {H:Hp} {s:Shared} {a:Addr} {y v:V} {u r:Value} {o:Option V} {A:Around} {E:Value→Shared→Prop}
theorem Inv.big (I:Inv X pins σ H s):sysModules < s.heap.objs.size:=by
 have h:mainGlobals < s.heap.objs.size:=(I.mod.glob.keeps I.bk).lt
 exact j7 (by decide) h
theorem d_getItem {Q:Value→Shared→Prop} (hu:A.units + 1 < cLine) (I:Inv X pins σ H s) (g:DGet H a y (some v)) (ry:RelV y u) (h:∀ w' s',Inv X pins σ H s'→RelV v w'→Q w' s') :
  wpAny (model X.prog X.w) A (getItem (.ref a) u) Q E s:=by
 rcases g with ⟨kvs,k,e,ey,l⟩|⟨kvs,k,b,e,ey,eb,l⟩
 ·subst ey
  obtain⟨z,hd,vs,rel,dd⟩:=dk_rd I.hok e
  obtain⟨w',hw,rw'⟩:=RelO.some_of (v:=v) (o:=valueAt vs k) (by rw[l]; exact rel.val k)
  exact wpAny_getItem_of (kV_is ry) dd.mapOf hw (h w' _ (I.tok _) rw')
 ·subst ey
  cases (show u=Value.ref b from ry)
  obtain⟨z,hd,xs,rel,dd⟩:=dt_rd I.hok e
  obtain⟨w',hw,rw'⟩:=RelO.some_of (v:=v) (o:=(atKey xs k).map (·.2)) (by rw[l]; exact rel.val k)
  obtain⟨p,hp,hp2⟩:=yO.mp hw
  refine wpAny_getItem_heap (tupleKind_room_in1 hu) (key_of I.hok eb) dd hp ?_
  rw[hp2]
  exact h w' _ (I.tok _) rw'
theorem d_write {h':Heap} {t':Nat} {ob:HO} (I:Inv X pins σ H s) (mu:Mut (H a)) (hs:Heap.SameBut a s.heap h') (he:∃ q,h'.get? a=some q) (new:ObjOk X.prog X.w (upd H a ob) h' a ob) :
  Inv X pins σ (upd H a ob) { s with heap:=h',toks:=t' } :=
 I.write (x:=a) (e:=a) mu (.inl rfl) (fun b q hb z=>(hs.2 b hb).trans z) he new
theorem dk_new {P:Program} {w:World} {H':Hp} {h':Heap} {kvs:List (Key × V)} {vs:List (Key × Value)} (z:kvs.length≤sizeLine) (hd:(a == sysModules)=false) (rel:KV kvs vs) (dd:h'.DictOf (mixKind P w) a vs) :
  ObjOk P w H' h' a (.dK kvs):=⟨z,hd,vs,rel,dd⟩
theorem d_setItem {H':Hp} {Q:Unit→Shared→Prop} (hu:A.units + 1 < cLine) (I:Inv X pins σ H s) (g:DPut H a y v H') (ry:RelV y u) (rv:RelV v r) (h:∀ s',Inv X pins σ H' s'→Q () s') :
  wpAny (model X.prog X.w) A (setItem (.ref a) u r) Q E s:=by
 rcases g with ⟨kvs,k,e,ey,l,eH⟩|⟨kvs,k,b,e,ey,eb,l,eH⟩
 ·subst ey eH
  obtain⟨z,hd,vs,rel,dd⟩:=dk_of I.hok e
  have hz:vs.length≤sizeLine:=by rw[← rel.length]; exact z
  have hl:(putK kvs k v).length≤sizeLine:=by have:=length_putK kvs k v; omega
  refine wpAny_setItem_pairs (hsz:=hz) (kV_is ry) dd fun h' dd' hs=>h _ ?_
  have he:∃ q,h'.get? a=some q:=let ⟨q,_,_,hq,_⟩:=dd'; ⟨q,hq⟩
  exact d_write I (by rw[e]; exact True.intro) hs he (dk_new hl hd (rel.put k rv) dd')
 ·subst ey eH
  cases (show u=Value.ref b from ry)
  obtain⟨z,hd,xs,rel,dd⟩:=dt_of I.hok e
  have hz:xs.length≤sizeLine:=by rw[← Paired.length rel]; exact z
  have hl:(putK kvs k v).length≤sizeLine:=by have:=length_putK kvs k v; omega
  refine wpAny_setItem_heap (hsz:=hz) (tupleKind_room_in1 hu) (key_of I.hok eb) dd fun h' dd' hs=>h _ ?_
  obtain⟨q,es,ep,hq,h2,h3,h4,_,h5⟩:=dd'
  refine d_write I (by rw[e]; exact True.intro) hs ⟨q,hq⟩ ⟨hl,hd,_,(rel.put k eb rv).keeps fun c ys ec=>?_,q,es,ep,hq,h2,h3,h4,h5⟩
  rw[upd_ne (ne_of ec e (fun z=>nomatch z))]
  exact ec
end
section
variable {X:Cx} {pins:List (Addr × Obj)} {σ:St} {H:Hp} {s:Shared} {a:Addr} {kvs:List (Key × V)} {k:Key} {u:Value} {A:Around} {E:Value→Shared→Prop}
end
def NoSl (i:Expr):Prop:=∀ ov iv,subscripted i false ov iv=operate [ov,iv] (getItem ov iv)
theorem subD_of {prog:Program} {w:World} {A:Around} {E:Value→Shared→Prop} {s:Shared} {env:Env} {value slice:Expr} {pos:Pos} {T id:String} {Q:Value→Shared→Prop}
  (hl:typeLookup (.type T) "__getitem__"=pure (some (.builtin id))) (hs:NoSl slice)
  (h:wpAny (model prog w) A (eval value env) (fun o s₁=>wpAny (model prog w) A (eval slice env) (fun i s₂=>s₂.TypeIs o T∧wpAny (model prog w) A (getItem o i) Q E s₂) E s₁) E s) :
  wpAny (model prog w) A (eval (.Subscript value slice pos) env) Q E s:=by
 refine Subscript_ (wpAny_mono h (fun o s₁ h₁=>wpAny_mono h₁ (fun i s₂ h₂=>?_) fun _ _ x=>x) fun _ _ x=>x)
 obtain⟨hT,h₂⟩:=h₂
 unfold subscriptTail
 refine wpAny_bind ?_
 rw[getitemInPython_of_ne hT.not_modules]
 refine wpAny_bind (wpAny_specialOf hT hl ?_)
 have fin:wpAny (model prog w) A (subscripted slice false o i) (fun r s₃=>wpAny (model prog w) A (letTemporaryGo value o r >>= fun _=>pure r) Q E s₃) E s₂:=by
  rw[hs o i]
  exact wpAny_operating (wpAny_mono h₂ (fun r s₃ h₃=>wpAny_bind (wpAny_letTemporaryGo (wpAny_pure h₃))) fun _ _ x=>x)
 first
  | exact wpAny_pure (wpAny_bind fin)
  | exact wpAny_bind (wpAny_pure (wpAny_bind fin))
  | exact wpAny_bind fin
theorem dict_typeIs {X:Cx} {pins:List (Addr × Obj)} {σ:St} {H:Hp} {s:Shared} {a:Addr} {y:V} {o:Option V} (I:Inv X pins σ H s) (g:DGet H a y o):s.TypeIs (.ref a) "dict":=by
 rcases g with ⟨kvs,k,e,_,_⟩|⟨kvs,k,b,e,_,_,_⟩
 ·obtain⟨_,_,vs,_,dd⟩:=dk_rd I.hok e
  exact dd.typeIs
 ·obtain⟨_,_,xs,_,dd⟩:=dt_rd I.hok e
  exact dd.typeIs
inductive tDGet_ (Q:VK) (x:V) (y:V) (H2:Hp):Prop where
 | mk (a v:_) (h_0:x=.ref a) (h_1:DGet H2 a y (some v)) (h_2:Q v H2):tDGet_ Q x y H2
def tDGet (td ty:TE):TE:=fun σ H Q=>td σ H fun x H1=>ty σ H1 fun y H2=>tDGet_ Q x y H2
inductive sDPut_ (D:Ends) (σ:St) (v:V) (x:V) (y:V) (H3:Hp):Prop where
 | mk (a H4:_) (h_0:x=.ref a) (h_1:DPut H3 a y v H4) (h_2:D.nx σ H4):sDPut_ D σ v x y H3
def sDPut (td ty tv:TE):TS:=fun D σ H=>tv σ H fun v H1=>td σ H1 fun x H2=>ty σ H2 fun y H3=>sDPut_ D σ v x y H3
section
variable {X:Cx} {o i e value:Expr} {pos pos' tpos:Pos} {td ty tv:TE}
theorem pe_dget (hu:X.A.units + 1 < cLine) (ho:PE X o td) (hi:PE X i ty) (hs:NoSl i):PE X (.Subscript o i pos) (tDGet td ty):=by
 intro pins s σ H Q I h
 refine subD_of PySem.F.slot_dict_getitem.lookup hs (thn (ho pins s σ H _ I h) fun u s1 ⟨x,H1,I1,rx,q1⟩=>thn (hi pins s1 σ H1 _ I1 q1) fun iv s2 ⟨y,H2,I2,ry,a,v,ex,g,q2⟩=>?_)
 subst ex
 obtain rfl:u=Value.ref a:=rx
 exact⟨dict_typeIs I2 g,d_getItem hu I2 g ry fun w' s3 I3 rw'=>⟨v,H2,I3,rw',q2⟩⟩
theorem ps_dput (hu:X.A.units + 1 < cLine) (ho:PE X o td) (hi:PE X i ty) (hv:PE X value tv) (hs:swapsWith value (some (.Subscript o i pos')) pos.line X.env=pure false) :
  PS X (.Assign [.Subscript o i pos'] value pos) (sDPut td ty tv):=by
 intro pins s σ H D I h
 refine wpAny_Assign_Subscript (thn (hv pins s σ H _ I h) fun r s1 ⟨v,H1,I1,rv,q1⟩=>thn (ho pins s1 σ H1 _ I1 q1) fun u s2 ⟨x,H2,I2,rx,q2⟩=>thn (hi pins s2 σ H2 _ I2 q2) fun iv s3 ⟨y,H3,I3,ry,a,H4,ex,g,q3⟩=>?_) hs
 subst ex
 obtain rfl:u=Value.ref a:=rx
 exact d_setItem hu I3 g ry rv fun s4 I4=>⟨σ,H4,I4,q3⟩
end
theorem dk_empty {P:Program} {w:World} {H:Hp} (h:Heap) (hb:sysModules < h.objs.size):ObjOk P w H (h.push { cls:=.type "dict",data:=.dict #[] }) h.objs.size (.dK []) :=
 ⟨zW _,beq_eq_false_iff_ne.mpr (Ne.symm (zR hb)),[],.nil,Heap.DictOf.new h⟩
theorem dt_empty {P:Program} {w:World} {H:Hp} (h:Heap) (hb:sysModules < h.objs.size):ObjOk P w H (h.push { cls:=.type "dict",data:=.dict #[] }) h.objs.size (.dT []) :=
 ⟨zW _,beq_eq_false_iff_ne.mpr (Ne.symm (zR hb)),[],.nil,_,#[],0,Heap.get?_push_size _ rfl,⟨rfl,rfl,rfl⟩,rfl,rfl,List.nodup_nil⟩
def tDNewK:TE:=fun _ H Q=>∀ p,H p=none→Q (.ref p) (upd H p (.dK []))
def tDNewT:TE:=fun _ H Q=>∀ p,H p=none→Q (.ref p) (upd H p (.dT []))
section
variable {X:Cx} {pos:Pos}
theorem pe_dnewK:PE X (.Dict [] [] pos) tDNewK:=fun pins s σ H Q I h =>
 wpAny_Dict_empty ⟨.ref s.heap.objs.size,_,I.laid (a:=s.heap.objs.size) (o:=.dK []) (t':=s.toks) (fun _ _ q=>Heap.get?_push_of_some _ q) (zH _) (dk_empty s.heap I.big),rfl,h _ (I.hok.fresh (zH _))⟩
theorem pe_dnewT:PE X (.Dict [] [] pos) tDNewT:=fun pins s σ H Q I h =>
 wpAny_Dict_empty ⟨.ref s.heap.objs.size,_,I.laid (a:=s.heap.objs.size) (o:=.dT []) (t':=s.toks) (fun _ _ q=>Heap.get?_push_of_some _ q) (zH _) (dt_empty s.heap I.big),rfl,h _ (I.hok.fresh (zH _))⟩
end
section
variable {X:Cx} {pins:List (Addr × Obj)} {σ:St} {H:Hp} {s:Shared} {a:Addr} {y d:V} {u r:Value} {o:Option V} {A:Around} {E:Value→Shared→Prop}
end
section
variable {X:Cx} {o e f:Expr} {apos cpos:Pos} {td ty tx:TE}
end
section
variable {X:Cx} {pins:List (Addr × Obj)} {σ:St} {H:Hp} {s:Shared} {a:Addr} {kvs:List (Key × V)} {A:Around} {E:Value→Shared→Prop}
end
section
variable {X:Cx} {pins:List (Addr × Obj)} {σ:St} {H:Hp} {s:Shared} {a:Addr} {y:V} {u:Value} {A:Around} {E:Value→Shared→Prop}
end
end L2
namespace HT
open PySem PyProof.Rows
def lexLt:List Int→List Int→Bool
 | [],[]=>false
 | [],_::_=>true
 | _::_,[]=>false
 | x::xs,y::ys=>if x=y then lexLt xs ys else decide (x < y)
theorem lexLt_cons (x y:Int) (xs ys:List Int):lexLt (x::xs) (y::ys)=if x=y then lexLt xs ys else decide (x < y):=rfl
theorem lexLt_nil_nil:lexLt [] []=false:=rfl
theorem lexLt_nil_cons (y:Int) (ys:List Int):lexLt [] (y::ys)=true:=rfl
theorem lexLt_cons_nil (x:Int) (xs:List Int):lexLt (x::xs) []=false:=rfl
theorem eqAt_int (A:Around) (s:Shared) (a:Int) (t:Tok) (c:Int) (u:Tok):∃ e,SeqAt.EqAt A s (.int a t) (.int c u) e∧(e=true ↔ a=c) :=
 ⟨(a == c),SeqAt.EqAt.int_int a t c u,by simp⟩
theorem rcLt_int (A:Around) (s:Shared) (a:Int) (t:Tok) (c:Int) (u:Tok) (prog:Program) (w:World) (E:Value→Shared→Prop) (Q:Value→Shared→Prop) (h:Q (.bool (decide (a < c))) s) :
  wpAny (model prog w) A (richCompare .Lt (.int a t) (.int c u)) Q E s :=
 (PyProof.Rows.lt_int h:wpAny (model prog w) A (compareOp .Lt (.int a t) (.int c u)) Q E s)
section
open PySem.SeqAt
open PySem.AutoSeq1 (wpAny_loadPart')
open PySem.MeetsSeq PySem.MeetsSeq2 PySem.MeetsSeq3
theorem tuple_lt_ints (l b:Addr) (items items2:Array Value) (n n2:Nat) (dd dd2:Option Addr) (sl sl2:Array (Option Value)) (ns ms:List Int) (hi:IntsAre items.toList ns) (hj:IntsAre items2.toList ms) :
  Meets (Builtin.«tuple.__lt__» ⟨[.ref l,.ref b],[]⟩)
   (fun _ R s=>s.heap.get? l=some { cls:=.type "tuple",dict:=dd,data:=.seq items n,slots:=sl }∧s.heap.get? b=some { cls:=.type "tuple",dict:=dd2,data:=.seq items2 n2,slots:=sl2 } ∧
    R (.ok (.ret (.bool (lexLt ns ms)))) s) :=
 .of_wp fun prog w A R s h=>by
  obtain⟨hp,g,d,tk,os⟩:=s; obtain⟨hl,hb,h⟩:=h
  have f2:=AutoSeq1.sub_tuple_tuple
  have z1:items.size=ns.length:=by rw[← hi.length]; simp
  have z2:items2.size=ms.length:=by rw[← hj.length]; simp
  wp_walk using wpAny_loadPart' hl,wpAny_loadPart' hb,wpAny_forIn_list _ (fun rest b s'=>b.1=none∧s'=⟨hp,g,d,tk,os⟩∧∃(vs ws:List Value) (ns' ms':List Int),rest=vs.zip ws ∧
   IntsAre vs ns'∧IntsAre ws ms'∧ns'.length + items2.size=ms'.length + items.size∧R (.ok (.ret (.bool (lexLt ns' ms')))) ⟨hp,g,d,tk,os⟩) _
  case turn =>
   rintro⟨y,x⟩ rest b s' ⟨hb',rfl,vs,ws,ns',ms',hz,hvi,hwi,hlen,hR⟩
   cases hvi with
   | nil=>rw[List.zip_nil_left] at hz; cases hz
   | cons a t hvi' =>
    cases hwi with
    | nil=>rw[List.zip_nil_right] at hz; cases hz
    | cons c u hwi' =>
     rw[qN] at hz
     injection hz with hyx hrest
     injection hyx with hy hx
     subst hy hx
     rw[lexLt_cons] at hR
     simp only [zS] at hlen
     obtain⟨e,he,hiff⟩:=eqAt_int A.in1 ⟨hp,g,d,tk,os⟩ a t c u
     refine wpAny_bind (he prog w _ _ ?_)
     cases e with
     | true =>
      rw[if_pos (hiff.mp rfl)] at hR
      wp_walk
      exact⟨rfl,rfl,_,_,_,_,hrest,hvi',hwi',by omega,hR⟩
     | false =>
      rw[if_neg (fun q=>absurd (hiff.mpr q) zV)] at hR
      have hri:=rcLt_int A.in1 ⟨hp,g,d,tk,os⟩ a t c u prog w
      wp_walk using hri
      exact⟨_,rfl,by simpa using hR⟩
  case fin =>
   rintro⟨b1,b2⟩ s' ⟨hb',rfl,vs,ws,ns',ms',hz,hvi,hwi,hlen,hR⟩
   simp only at hb'
   subst hb'
   have hv:lexLt ns' ms'=decide (items.size < items2.size):=by
    cases hvi with
    | nil =>
     cases hwi with
     | nil =>
      simp only [qA] at hlen
      rw[lexLt_nil_nil]
      exact(decide_eq_false (by omega)).symm
     | cons c u hw =>
      simp only [qA,zS] at hlen
      rw[lexLt_nil_cons]
      exact(decide_eq_true (by omega)).symm
    | cons a t hv =>
     cases hwi with
     | nil =>
      simp only [qA,zS] at hlen
      rw[lexLt_cons_nil]
      exact(decide_eq_false (by omega)).symm
     | cons c u hw =>
      rw[qN] at hz
      cases hz
   rw[hv] at hR
   wp_walk
   exact⟨_,rfl,by simpa [Builtin.Tuple.tupleCompareSizes] using hR⟩
  case h =>
   exact⟨rfl,rfl,items.toList,items2.toList,ns,ms,rfl,hi,hj,by omega,h⟩
end
section
variable {prog:Program} {w:World} {A:Around} {E:Value→Shared→Prop} {s:Shared}
theorem lt_tupInts {l b:Addr} {items items2:Array Value} {ns ms:List Int} {Q:Value→Shared→Prop} (hl:IsTup s.heap l items) (hb:IsTup s.heap b items2) (hi:IntsAre items.toList ns) (hj:IntsAre items2.toList ms)
  (hu:A.units < cLine) (h:Q (.bool (lexLt ns ms)) s):wpAny (model prog w) A (compareOp .Lt (.ref l) (.ref b)) Q E s:=by
 obtain⟨⟨cls,dd,data,sl⟩,ho,hc,n,hd⟩:=id hl
 obtain⟨⟨cls2,dd2,data2,sl2⟩,ho2,hc2,n2,hd2⟩:=id hb
 simp only at hc hd hc2 hd2
 subst hc hd hc2 hd2
 exact richCompare_meets_room (op:=.Lt) ⟨_,ho,rfl⟩ ⟨_,ho2,rfl⟩ PySem.F.slot_tuple_lt PySem.F.entry_tuple_lt (PySem.F.args_tuple_lt_2 _ _) (tuple_lt_ints l b items items2 n n2 dd dd2 sl sl2 ns ms hi hj)
  ⟨ho,ho2,show Value.bool (lexLt ns ms) ≠ Value.notImplemented∧Q (.bool (lexLt ns ms)) s from⟨(fun x=>nomatch x),h⟩⟩ hu
def sIx (n d:Nat):Option Int→Nat
 | none=>d
 | some v=>if v < 0 then (v + (n:Int)).toNat else min v.toNat n
end
end HT
namespace L2
open PySem PySem.Spec PyProof.Rows
abbrev TO:=St→Hp→(Option Int→Hp→Prop)→Prop
def PO (X:Cx) (e:Option Expr) (t:TO):Prop :=
 ∀(pins:List (Addr × Obj)) (s:Shared) (σ:St) (H:Hp) (Q:Option Int→Hp→Prop),Inv X pins σ H s→t σ H Q →
  wpAny (model X.prog X.w) X.A (evalPart e X.env) (fun u s'=>∃ o H',Inv X pins σ H' s'∧IsPart u o∧Q o H') X.xe s
def tNoPart:TO:=fun _ H Q=>Q none H
inductive tPart_ (Q:Option Int→Hp→Prop) (x:V) (H1:Hp):Prop where
 | mk (i:_) (h_0:x=.int i) (h_1:Q (some i) H1):tPart_ Q x H1
def tPart (t:TE):TO:=fun σ H Q=>t σ H fun x H1=>tPart_ Q x H1
theorem intsAre_of {ns:List Int}:∀ {us:List Value},Vals (ns.map V.int) us→IntsAre us ns:=by
 induction ns with
 | nil=>intro us r; rw[jM] at r; cases r; exact .nil
 | cons n ns ih =>
  intro us r
  rw[yJ] at r
  cases r with
  | cons r1 r2 =>
   obtain⟨t,e⟩:=r1
   subst e
   exact .cons n t (ih r2)
section
variable {X:Cx} {e:Expr} {te:TE} {lo hi:Option Expr} {tl th:TO} {pos p2:Pos}
theorem po_none:PO X none tNoPart:=by
 intro pins s σ H Q I h
 rw[evalPart_none]
 exact wpAny_pure ⟨none,H,I,.none,h⟩
theorem po_some (h:PE X e te):PO X (some e) (tPart te):=by
 intro pins s σ H Q I hw
 rw[evalPart_some]
 refine thn (h pins s σ H _ I hw) fun u s1 ⟨x,H1,I1,r1,q1⟩=>?_
 obtain⟨i,rfl,q⟩:=q1
 obtain⟨t,rfl⟩:=r1
 exact⟨some i,H1,I1,.int i t,q⟩
def SlR (X:Cx) (r:V→Option Int→Option Int→Hp→VK→Prop):Prop :=
 ∀(pins:List (Addr × Obj)) (s:Shared) (σ:St) (H:Hp) (x:V) (v vl vu:Value) (lo hi:Option Int) (sl:Addr) (Q:VK),Inv X pins σ H s→RelV x v→s.heap.IsSliceOf sl vl vu .none→IsPart vl lo→IsPart vu hi→r x lo hi H Q →
  ∃ T id,typeLookup (.type T) "__getitem__"=pure (some (.builtin id))∧s.TypeIs v T∧wpAny (model X.prog X.w) X.A (getItem v (.ref sl)) (EP X pins σ Q) X.xe s
def tSl (r:V→Option Int→Option Int→Hp→VK→Prop) (te:TE) (tl th:TO):TE:=fun σ H Q=>te σ H fun x H1=>tl σ H1 fun l H2=>th σ H2 fun u H3=>r x l u H3 Q
theorem pe_slice {r:V→Option Int→Option Int→Hp→VK→Prop} (hr:SlR X r) (he:PE X e te) (hl:PO X lo tl) (hu:PO X hi th):PE X (.Subscript e (.Slice lo hi none p2) pos) (tSl r te tl th):=by
 intro pins s σ H Q I h
 refine Subscript_ (thn (he pins s σ H _ I h) fun v s1 ⟨x,H1,I1,r1,q1⟩=>?_)
 refine wpAny_Slice (thn (hl pins s1 σ H1 _ I1 q1) fun vl s2 ⟨l,H2,I2,pl,q2⟩=>thn (hu pins s2 σ H2 _ I2 q2) fun vu s3 ⟨u,H3,I3,pu,q3⟩=>?_)
 rw[evalPart_none]
 refine wpAny_pure ?_
 have I4:Inv X pins σ H3 { s3 with heap:=s3.heap.push { cls:=.type "slice",data:=.fields #[vl,vu,.none] } }:=I3.kept (t':=s3.toks) fun b ob q=>Heap.get?_push_of_some _ q
 obtain⟨T,id,hT,ht,hg⟩:=hr pins { s3 with heap:=s3.heap.push { cls:=.type "slice",data:=.fields #[vl,vu,.none] } } σ H3 x v vl vu l u s3.heap.objs.size Q I4 r1 (Heap.IsSliceOf.new ..) pl pu q3
 show wpAny (model X.prog X.w) X.A (subscriptTail e (.Slice lo hi none p2) v (.ref s3.heap.objs.size)) (EP X pins σ Q) X.xe { s3 with heap:=s3.heap.push { cls:=.type "slice",data:=.fields #[vl,vu,.none] } }
 exact tail_any (ops:=[.ref s3.heap.objs.size,v]) ht hT hg (by with_unfolding_all rfl)
def cutV (xs:List V) (lo hi:Option Int):List V:=(xs.drop (HT.sIx xs.length 0 lo)).take (HT.sIx xs.length xs.length hi - HT.sIx xs.length 0 lo)
theorem cutV_length (xs:List V) (lo hi:Option Int):(cutV xs lo hi).length≤xs.length:=by
 unfold cutV
 rw[zU,List.length_drop]
 omega
end
end L2
namespace L2
open PySem PySem.Spec PyProof.Rows
def ixN (n:Nat) (i:Int):Option Nat:=if 0≤i then (if i < n then some i.toNat else none) else if -(n:Int)≤i then some (i + n).toNat else none
def atI {α:Type} (xs:List α) (i:Int):Option α:=(ixN xs.length i).bind fun j=>xs[j]?
theorem ixN_seq {n:Nat} {i:Int} {j:Nat} (h:ixN n i=some j):seqIndex? i n=some j∧j < n∧-(n:Int)≤i∧i < n:=by
 unfold ixN at h
 by_cases h0:0≤i
 ·rw[if_pos h0] at h
  by_cases h1:i < n
  ·rw[if_pos h1] at h
   have e:i.toNat=j:=Option.some.inj h
   exact⟨by rw[seqIndex_of h0 h1,e],by omega,by omega,h1⟩
  ·rw[if_neg h1] at h; cases h
 ·rw[if_neg h0] at h
  by_cases h1:-(n:Int)≤i
  ·rw[if_pos h1] at h
   have e:(i + n).toNat=j:=Option.some.inj h
   exact⟨by rw[seqIndex_neg (by omega) h1,e],by omega,h1,by omega⟩
  ·rw[if_neg h1] at h; cases h
theorem atI_get {α:Type} {xs:List α} {i:Int} {v:α} (h:atI xs i=some v):∃ j,seqIndex? i xs.length=some j∧xs[j]?=some v∧j < xs.length∧-(xs.length:Int)≤i∧i < xs.length:=by
 unfold atI at h
 cases e:ixN xs.length i with
 | none=>rw[e] at h; cases h
 | some j =>
  rw[e] at h
  obtain⟨h1,h2,h3,h4⟩:=ixN_seq e
  exact⟨j,h1,h,h2,h3,h4⟩
theorem atI_nat {α:Type} {xs:List α} {j:Nat} {v:α} (h:xs[j]?=some v):atI xs (j:Int)=some v:=by
 have hj:j < xs.length:=(zD.mp h).1
 have e:ixN xs.length (j:Int)=some j:=by
  unfold ixN
  rw[if_pos (by omega),if_pos (by omega)]; simp
 unfold atI; rw[e]; exact h
def PlainIx (b:Expr):Prop:=∀ o i,subscripted b false o i=operate [o,i] (getItem o i)
def IxR (X:Cx) (r:R2):Prop :=
 ∀(value slice:Expr) (pins:List (Addr × Obj)) (s:Shared) (σ:St) (H:Hp) (x y:V) (v u:Value) (Q:VK),Inv X pins σ H s→RelV x v→RelV y u→r x y H Q →
  subscripted slice false v u=operate [v,u] (getItem v u)→wpAny (model X.prog X.w) X.A (subscriptTail value slice v u) (EP X pins σ Q) X.xe s
def MtR (X:Cx) (id:String) (r:V→List V→Hp→VK→Prop):Prop :=
 ∀(pins:List (Addr × Obj)) (s:Shared) (σ:St) (H:Hp) (x:V) (xs:List V) (v:Value) (us:List Value) (Q:VK),Inv X pins σ H s→RelV x v→Vals xs us→r x xs H Q →
  wpAny (model X.prog X.w) X.A (call (.builtin id) (v::us)) (EP X pins σ Q) X.xe s
section
variable {X:Cx} {a b:Expr} {ta tb:TE} {pos:Pos}
theorem pe_ix {r:R2} (hr:IxR X r) (ha:PE X a ta) (hb:PE X b tb) (hs:PlainIx b):PE X (.Subscript a b pos) (tOp r ta tb):=by
 intro pins s σ H Q I h
 exact Subscript_ (binT ha hb I h fun v u s2 x y H2 I2 rx ry q=>hr a b pins s2 σ H2 x y v u Q I2 rx ry q (hs _ _))
inductive rIxL (K:PySem.W.Frag) (x:V) (y:V) (H:Hp) (Q:VK):Prop where
 | mk (p xs i v:_) (h_0:x=.ref p) (h_1:y=.int i) (h_2:SqL K H p xs) (h_3:atI xs i=some v) (h_4:Q v H):rIxL K x y H Q
inductive rIxT (K:PySem.W.Frag) (x:V) (y:V) (H:Hp) (Q:VK):Prop where
 | mk (p xs i v:_) (h_0:x=.ref p) (h_1:y=.int i) (h_2:SqT K H p xs) (h_3:atI xs i=some v) (h_4:Q v H):rIxT K x y H Q
theorem ix_list:IxR X (rIxL X.K):=by
 intro value slice pins s σ H x y v u Q I rx ry h hs
 obtain⟨p,xs,i,z,rfl,rfl,hq,he,q⟩:=h
 cases rx
 obtain⟨t,rfl⟩:=ry
 obtain⟨its,r,pl,hz⟩:=I.list hq
 obtain⟨j,h1,h2,h3,h4,h5⟩:=atI_get he
 obtain⟨w,ew,rw'⟩:=r.get h2
 have hl:=r.length
 have hn:=line63
 have fin:EP X pins σ Q w s:=⟨z,H,I,rw',q⟩
 by_cases h0:0≤i
 ·have hj:i.toNat=j:=by
   rw[seqIndex_of h0 h5] at h1
   exact Option.some.inj h1
  exact item_listR pl.isList h0 (by omega) (by rw[hj]; simpa using ew) fin hs
 ·have hj:(i + (its.toArray.size:Int)).toNat=j:=by
   rw[seqIndex_neg (by omega) h4] at h1
   rw[zM,← hl]
   exact Option.some.inj h1
  exact subscriptTail_builtinR (x:=w) pl.isList.typeIs slot_list_getitem.lookup
   (wpAny_getItem_list_neg (Q:=fun r s'=>r=w∧EP X pins σ Q r s') pl.isList (by omega) (by rw[zM] <;> omega) (by omega) (by rw[hj]; simpa using ew) ⟨rfl,fin⟩) hs
theorem ix_tup:IxR X (rIxT X.K):=by
 intro value slice pins s σ H x y v u Q I rx ry h hs
 obtain⟨p,xs,i,z,rfl,rfl,hq,he,q⟩:=h
 cases rx
 obtain⟨t,rfl⟩:=ry
 obtain⟨its,r,pl,hz⟩:=I.tuple hq
 obtain⟨j,h1,h2,h3,h4,h5⟩:=atI_get he
 obtain⟨w,ew,rw'⟩:=r.get h2
 have hl:=r.length
 have hn:=line63
 have fin:EP X pins σ Q w s:=⟨z,H,I,rw',q⟩
 exact subscriptTail_builtinR (x:=w) pl.typeIs slot_tuple_getitem.lookup
  (getItem_tuple (j:=j) (Q:=fun r s'=>r=w∧EP X pins σ Q r s') pl (by omega) (by omega) (by rw[zM,← hl]; exact h1) (by simpa using ew) ⟨rfl,fin⟩) hs
theorem mapSeq_set (its:List Value) (n j:Nat) (u:Value):Obj.mapSeq (·.setIfInBounds j u) { cls:=.type "list",data:=.seq its.toArray n }={ cls:=.type "list",data:=.seq (its.set j u).toArray n }:=by
 simp [Obj.mapSeq]
theorem Inv.lst {pins:List (Addr × Obj)} {σ:St} {H:Hp} {s:Shared} {p:Addr} {xs:List V} (I:Inv X pins σ H s) (h:H p=some (.lst xs)) :
  ∃(its:List Value) (n:Nat),Vals xs its∧s.heap.get? p=some { cls:=.type "list",data:=.seq its.toArray n }∧xs.length≤sizeLine:=by
 obtain⟨z,its,n,r,e⟩:=I.hok p _ h
 exact⟨its,n,r,e,z⟩
theorem Inv.lstUpd {pins:List (Addr × Obj)} {σ:St} {H:Hp} {s:Shared} {p:Addr} {xs ys:List V} {its its':List Value} {n n':Nat} {f:Obj→Obj} (I:Inv X pins σ H s) (h:H p=some (.lst xs))
  (ho:s.heap.get? p=some { cls:=.type "list",data:=.seq its.toArray n }) (hf:f { cls:=.type "list",data:=.seq its.toArray n }={ cls:=.type "list",data:=.seq its'.toArray n' }) (r:Vals ys its') (hz:ys.length≤sizeLine) (t:Nat) :
  Inv X pins σ (upd H p (.lst ys)) { s with heap:=s.heap.update p f,toks:=t }:=by
 have e:(s.heap.update p f).get? p=some { cls:=.type "list",data:=.seq its'.toArray n' }:=by
  rw[Heap.get?_update_self f ho (by rw[hf] <;> rfl),hf]
 refine I.write (x:=p) (e:=p) (by rw[h]; trivial) (.inl rfl) (fun b u hb q=>(Heap.get?_update_other _ _ (Ne.symm hb)).trans q) ⟨_,e⟩ ?_
 exact⟨hz,its',n',r,e⟩
inductive rSetL (o:V) (i:V) (v:V) (H:Hp) (Q:Hp→Prop):Prop where
 | mk (p xs k j:_) (h_0:o=.ref p) (h_1:i=.int k) (h_2:H p=some (.lst xs)) (h_3:ixN xs.length k=some j) (h_4:Q (upd H p (.lst (xs.set j v)))):rSetL o i v H Q
theorem set_list:PSet X rSetL:=by
 intro pins s σ H o i v ov iv u Q I ro ri rv h
 obtain⟨p,xs,k,j,rfl,rfl,hp,hj,q⟩:=h
 cases ro
 obtain⟨t,rfl⟩:=ri
 obtain⟨its,n,r,ho,hz⟩:=I.lst hp
 obtain⟨h1,h2,h3,h4⟩:=ixN_seq hj
 have hl:=r.length
 have hn:=line63
 have I':Inv X pins σ (upd H p (.lst (xs.set j v))) { s with heap:=s.heap.update p (Obj.mapSeq (·.setIfInBounds j u)) } :=
  I.lstUpd hp ho (mapSeq_set its n j u) (r.set rv j) (by rw[zT]; exact hz) s.toks
 by_cases h0:0≤k
 ·have hk:k.toNat=j:=by
   rw[seqIndex_of h0 h4] at h1
   exact Option.some.inj h1
  exact PySem.W.ki_setAt ho h0 (by omega) (by rw[zM,← hl]; exact h4) (by rw[hk]; exact⟨_,I',q⟩)
 ·have hk:(k + (its.toArray.size:Int)).toNat=j:=by
   rw[seqIndex_neg (by omega) h3] at h1
   rw[zM,← hl]
   exact Option.some.inj h1
  exact PySem.W.ki_setBack ho (by omega) (by rw[zM,← hl]; exact h3) (by omega) (by rw[hk]; exact⟨_,I',q⟩)
theorem slice_bounds (lo hi:Option Int) (n:Nat):(sliceBounds lo hi none n).1=((HT.sIx n 0 lo:Nat):Int)∧(sliceBounds lo hi none n).2.1=((HT.sIx n n hi:Nat):Int)∧(sliceBounds lo hi none n).2.2=1:=by
 refine⟨?_,?_,rfl⟩
 ·cases lo with
  | none=>simp [sliceBounds,HT.sIx]
  | some i =>
   simp only [sliceBounds,HT.sIx,Option.getD_none,show(1:Int) > 0 by decide,if_true]
   by_cases h:i < 0
   ·simp only [h,if_true] <;> omega
   ·simp only [h,if_false] <;> omega
 ·cases hi with
  | none=>simp [sliceBounds,HT.sIx]
  | some i =>
   simp only [sliceBounds,HT.sIx,Option.getD_none,show(1:Int) > 0 by decide,if_true]
   by_cases h:i < 0
   ·simp only [h,if_true] <;> omega
   ·simp only [h,if_false] <;> omega
theorem slicePick_cut (its:List Value) (lo hi:Option Int):slicePick its.toArray lo hi none=((its.drop (HT.sIx its.length 0 lo)).take (HT.sIx its.length its.length hi - HT.sIx its.length 0 lo)).toArray:=by
 obtain⟨h1,h2,h3⟩:=slice_bounds lo hi its.toArray.size
 unfold slicePick
 rw[h1,h2,h3]
 simp only [sliceRange_one,pick_run,zM] <;> rfl
inductive rSlL (K:PySem.W.Frag) (x:V) (lo:Option Int) (hi:Option Int) (H:Hp) (Q:VK):Prop where
 | mk (a xs:_) (h_0:x=.ref a) (h_1:SqL K H a xs) (h_2:∀ p,H p=none→Q (.ref p) (upd H p (.lst (cutV xs lo hi)))):rSlL K x lo hi H Q
theorem sl_list:SlR X (rSlL X.K):=by
 intro pins s σ H x v vl vu lo hi sl Q I rx hs pl pu h
 obtain⟨a,xs,rfl,hx,q⟩:=h
 cases rx
 obtain⟨its,r,ht,hz⟩:=I.list hx
 have hlen:=r.length
 refine⟨"list",_,slot_list_getitem.lookup,ht.isList.typeIs,?_⟩
 refine wpAny_getItem_list_slice ht.isList hs pl pu .none (by simp) ?_ (by rw[zM] <;> omega)
 rw[slicePick_cut,← hlen]
 refine⟨.ref s.heap.objs.size,_,I.laid (t':=s.toks) (o:=.lst (cutV xs lo hi)) (fun b ob q=>Heap.get?_push_of_some _ q) (zH _) ?_,rfl,q _ (I.hok.fresh (zH _))⟩
 exact⟨z4 (cutV_length xs lo hi) hz,_,0,(r.drop (HT.sIx xs.length 0 lo)).take (HT.sIx xs.length xs.length hi - HT.sIx xs.length 0 lo),Heap.get?_push_size _ rfl⟩
theorem call_len_seq:CallR X (.builtin "len") (fun xs H Q=>∃ p ys,xs=[.ref p]∧(SqL X.K H p ys∨SqT X.K H p ys)∧Q (.int ys.length) H):=by
 intro pins s σ H xs us Q I r h
 obtain⟨p,ys,rfl,hq,q⟩:=h
 obtain⟨u,rfl,rx⟩:=vals1 r
 cases rx
 have hn:=line63
 rcases hq with hq|hq
 ·obtain⟨its,r',pl,hz⟩:=I.list hq
  have hlen:=r'.length
  exact Calls.call_len_list pl.isList (by simp only [zM] <;> omega) ⟨.int ys.length,H,I.tok _,⟨s.toks + 1,by rw[zM,hlen]⟩,q⟩
 ·obtain⟨its,r',pl,hz⟩:=I.tuple hq
  have hlen:=r'.length
  exact len_tuple pl (by simp only [zM] <;> omega) ⟨.int ys.length,H,I.tok _,⟨s.toks + 1,by rw[zM,hlen]⟩,q⟩
theorem call_list_of:CallR X (.type "list") (fun xs H Q=>∃ p ys,xs=[.ref p]∧(SqL X.K H p ys∨SqT X.K H p ys)∧∀ l,H l=none→Q (.ref l) (upd H l (.lst ys))):=by
 intro pins s σ H xs us Q I r h
 obtain⟨p,ys,rfl,hq,q⟩:=h
 obtain⟨u,rfl,rx⟩:=vals1 r
 cases rx
 have fin:∀(its:List Value),Vals ys its→ys.length≤sizeLine→∀(h':Heap) (c':Nat),(∀ b o',s.heap.get? b=some o'→h'.get? b=some o') →
   h'.get? s.heap.objs.size=some { cls:=.type "list",dict:=none,data:=.seq its.toArray c',slots:=#[] }→EP X pins σ Q (.ref s.heap.objs.size) { s with heap:=h' }:=fun its r' hz h' c' kp e =>
  ⟨.ref s.heap.objs.size,_,I.laid (t':=s.toks) kp (zH _) (show ObjOk X.prog X.w _ h' _ (.lst ys) from⟨hz,its,c',r',e⟩),rfl,q _ (I.hok.fresh (zH _))⟩
 rcases hq with hq|hq
 ·obtain⟨its,r',pl,hz⟩:=I.list hq
  have hlen:=r'.length
  obtain⟨o,ho,hc,n,hd⟩:=pl.isList
  exact call_list_seq p (.inl rfl) ho hc hd (fun h' c' kp e=>fin its r' hz h' c' kp e) (by simp only [zM] <;> omega)
 ·obtain⟨its,r',pl,hz⟩:=I.tuple hq
  have hlen:=r'.length
  obtain⟨o,ho,hc,n,hd⟩:=pl
  exact call_list_seq p (.inr rfl) ho hc hd (fun h' c' kp e=>fin its r' hz h' c' kp e) (by simp only [zM] <;> omega)
theorem call_tuple_of:CallR X (.type "tuple") (fun xs H Q=>∃ p ys,xs=[.ref p]∧((SqL X.K H p ys∧∀ l,H l=none→Q (.ref l) (upd H l (.tup ys)))∨(SqT X.K H p ys∧Q (.ref p) H))):=by
 intro pins s σ H xs us Q I r h
 obtain⟨p,ys,rfl,h⟩:=h
 obtain⟨u,rfl,rx⟩:=vals1 r
 cases rx
 rcases h with ⟨hq,q⟩|⟨hq,q⟩
 ·obtain⟨its,r',pl,hz⟩:=I.list hq
  have hlen:=r'.length
  refine call_tuple_list pl.isList (fun h' kp=>?_) (by simp only [zM] <;> omega)
  have I1:Inv X pins σ H { s with heap:=h' }:=I.kept (t':=s.toks) kp
  have I2:Inv X pins σ (upd H h'.objs.size (.tup ys)) { s with heap:=h'.push { cls:=.type "tuple",data:=.seq its.toArray } } :=
   I1.laid (t':=s.toks) (fun b o e=>Heap.get?_push_of_some _ e) (zH _) (show ObjOk X.prog X.w _ _ _ (.tup ys) from⟨hz,its,r',IsTup.new _ _⟩)
  exact⟨.ref h'.objs.size,_,I2,rfl,q _ (I1.hok.fresh (zH _))⟩
 ·obtain⟨its,r',pl,hz⟩:=I.tuple hq
  exact call_tuple_same pl ⟨.ref p,H,I,rfl,q⟩
def tyV (K:PySem.W.Frag) (T:String) (x:V) (H:Hp):Prop:=match x with
 | .str _=>T="str"
 | .int _=>T="int"
 | .ref p=>(T="list"∧∃ xs,SqL K H p xs)∨(T="tuple"∧∃ o,K.lookup p=some o∧o.cls=.type "tuple"∧o.dict=none) ∨
   (T="dict"∧((∃ kvs,H p=some (.dK kvs))∨∃ kvs,H p=some (.dT kvs)))∨(T="set"∧∃ S n,H p=some (.set S n))
 | _=>False
theorem tyV_is {pins:List (Addr × Obj)} {σ:St} {H:Hp} {s:Shared} {T:String} {x:V} {v:Value} (I:Inv X pins σ H s) (r:RelV x v) (ty:tyV X.K T x H) :
  s.TypeIs v T∧∀ a,v=.ref a→∃ ob,s.heap.get? a=some ob∧ob.dict=none:=by
 cases x with
 | str z =>
  obtain⟨t,rfl⟩:=r
  cases (show T="str" from ty)
  exact⟨typeIs_str s z t,fun _ e=>nomatch e⟩
 | int i =>
  obtain⟨t,rfl⟩:=r
  cases (show T="int" from ty)
  exact⟨typeIs_int s i t,fun _ e=>nomatch e⟩
 | ref p =>
  cases r
  rcases ty with ⟨rfl,xs,hq⟩|⟨rfl,o,hk,hc,hd⟩|⟨rfl,hk⟩|⟨rfl,S,n,hk⟩
  ·obtain⟨its,_,pl,_⟩:=I.list hq
   refine⟨pl.isList.typeIs,fun a e=>?_⟩
   cases e
   obtain⟨o,n,e,c,hd,_⟩:=pl
   exact⟨o,e,hd⟩
  ·refine⟨⟨o,I.kIn p o hk,hc⟩,fun a e=>?_⟩
   cases e
   exact⟨o,I.kIn _ o hk,hd⟩
  ·have z:∃ o,s.heap.get? p=some o∧o.ExactDict:=by
    rcases hk with ⟨kvs,hk⟩|⟨kvs,hk⟩
    ·obtain⟨_,_,_,_,o,_,_,e,ex,_⟩:=I.hok p _ hk
     exact⟨o,e,ex⟩
    ·obtain⟨_,_,_,_,o,_,_,e,ex,_⟩:=I.hok p _ hk
     exact⟨o,e,ex⟩
   obtain⟨o,e,ex⟩:=z
   refine⟨⟨o,e,ex.1⟩,fun a e2=>?_⟩
   cases e2
   exact⟨o,e,ex.2.1⟩
  ·obtain⟨o,_,_,_,e,ex,_⟩:=I.hok p _ hk
   refine⟨⟨o,e,ex.1⟩,fun a e2=>?_⟩
   cases e2
   exact⟨o,e,ex.2.1⟩
 | _=>exact False.elim ty
def tBM (K:PySem.W.Frag) (T:String) (r:V→List V→Hp→VK→Prop) (to:TE) (t:TA):TE:=fun σ H Q=>to σ H fun x H1=>tyV K T x H1∧t σ H1 fun xs H2=>r x xs H2 Q
variable {o e:Expr} {es:List Expr} {to:TE} {t:TA} {name:Str} {apos cpos:Pos} {T id:String} {r:V→List V→Hp→VK→Prop}
theorem pe_bm (pa:PlainAttrs T) (slot:Slot T name id) (hty:typeOf (.builtin id)=pure (.type "method_descriptor")) (hm:MtR X id r) (ho:PE X o to) (ha:PA X (e::es) t)
  (hbase:attributeBase o name X.env (eval o X.env)=eval o X.env:=by rfl)
  (hfew:((backTo cpos (starEach (e::es) X.env)).all (fun x=>!x.1) && (backToKw cpos (keywordEach [] X.env)).all (fun x=>x.1.isSome)
   && decide ((e::es).length + ([]:List Keyword).length + (if ([]:List Keyword).isEmpty then 0 else 1) < 30))=true:=by rfl)
  (hline:(apos.endLine == cpos.line)=true:=by rfl) (hs:starEach (e::es) X.env=(false,eval e X.env)::starEach es X.env:=by rfl) (hplain:(backTo cpos (starEach es X.env)).any (·.1)=false:=by rfl) :
  PE X (.Call (.Attribute o name apos) (e::es) [] cpos) (tBM X.K T r to t):=by
 intro pins s σ H Q I h
 refine wpAny_Call_method_late hbase hfew hline rfl (thn (ho pins s σ H _ I h) fun v s1 ⟨x,H1,I1,r1,ty,q1⟩=>?_)
 obtain⟨h1,h2⟩:=tyV_is I1 r1 ty
 refine⟨T,id,pa,slot,hty,h1,h2,?_⟩
 have hA:=ha cpos pins s1 σ H1 _ I1 q1
 rw[hs] at hA ⊢
 refine Calls.callWith_builtin (by show(false || (backTo cpos (starEach es X.env)).any (·.1))=false; rw[hplain] <;> rfl) (Calls.evalArgs_plain ?_)
 exact thn hA fun us s2 ⟨vs,H2,I2,r2,q2⟩=>hm pins s2 σ H2 x vs v us Q I2 r1 r2 q2
/- xs.append(e),list.index on a module's tuple .. are MtR facts of 06m -/
end
end L2
namespace L2
open PySem PySem.Spec PyProof.Rows
def MtM (X:Cx) (id:String) (r:V→List V→Hp→VK→Prop):Prop :=
 ∀(pins:List (Addr × Obj)) (s:Shared) (σ:St) (H:Hp) (x:V) (xs:List V) (v:Value) (us:List Value) (Q:VK),Inv X pins σ H s→RelV x v→Vals xs us→r x xs H Q →
  wpAny (model X.prog X.w) X.A (call (.builtin id) (v::us)) (EP X pins σ Q) X.xe s
theorem pairedUn {α β:Type} {F:α→β→Prop} {x:α} {l:List α} {m:List β} (h:Paired F (x::l) m):∃ y r,m=y::r∧F x y∧Paired F l r:=by
 cases h with
 | cons p r=>exact⟨_,_,rfl,p,r⟩
theorem Vals.one {x:V} {us:List Value} (h:Vals [x] us):∃ u,us=[u]∧RelV x u:=by
 obtain⟨u,r,rfl,q,h2⟩:=pairedUn h
 cases h2
 exact⟨u,rfl,q⟩
theorem Vals.two {x y:V} {us:List Value} (h:Vals [x,y] us):∃ u v,us=[u,v]∧RelV x u∧RelV y v:=by
 obtain⟨u,r,rfl,q,h2⟩:=pairedUn h
 obtain⟨v,rfl,q2⟩:=Vals.one h2
 exact⟨u,v,rfl,q,q2⟩
theorem Vals.eraseIdx:∀ {xs:List V} {us:List Value} (i:Nat),Vals xs us→Vals (xs.eraseIdx i) (us.eraseIdx i)
 | _,_,_,.nil=>.nil
 | _,_,0,.cons _ t=>t
 | _,_,i + 1,.cons r t=>.cons r (Vals.eraseIdx i t)
theorem len_erase {α:Type}:∀(l:List α) (i:Nat),(l.eraseIdx i).length≤l.length
 | [],_=>zH _
 | _::_,0=>yM _
 | _::r,i + 1=>Nat.succ_le_succ (len_erase r i)
section
variable {X:Cx} {pins:List (Addr × Obj)} {σ:St} {H:Hp} {s:Shared} {l b:Addr} {xs ys zs:List V}
theorem Inv.lset {its its':List Value} {n:Nat} {f:Array Value→Array Value} {t':Nat} (I:Inv X pins σ H s) (hH:H l=some (.lst xs))
  (e:s.heap.get? l=some { cls:=.type "list",data:=.seq its.toArray n }) (hf:f its.toArray=its'.toArray) (hv:Vals ys its') (hz:ys.length≤sizeLine) :
  Inv X pins σ (upd H l (.lst ys)) { s with heap:=s.heap.update l (Obj.mapSeq f),toks:=t' }:=by
 have q:=PySem.IsL.update e f
 rw[hf] at q
 refine I.write (x:=l) (e:=l) (by rw[hH]; exact trivial) (.inl rfl) (fun b' u hb hu=>(Heap.get?_update_other s.heap (Obj.mapSeq f) (Ne.symm hb)).trans hu) ⟨_,q⟩ ?_
 exact⟨hz,its',_,hv,q⟩
theorem Inv.lnew {its:List Value} {t':Nat} (I:Inv X pins σ H s) (hv:Vals ys its) (hz:ys.length≤sizeLine) :
  Inv X pins σ (upd H s.heap.objs.size (.lst ys)) { s with heap:=s.heap.push { cls:=.type "list",data:=.seq its.toArray },toks:=t' } :=
 I.laid (fun _ _ q=>Heap.get?_push_of_some _ q) (zH _) ⟨hz,its,0,hv,Heap.get?_push_size _ rfl⟩
theorem Inv.fresh (I:Inv X pins σ H s):H s.heap.objs.size=none:=I.hok.fresh (zH _)
theorem Inv.lstM (I:Inv X pins σ H s) (hH:H l=some (.lst xs)):xs.length≤sizeLine∧∃(its:List Value) (n:Nat),Vals xs its∧xs.length=its.length∧s.heap.get? l=some { cls:=.type "list",data:=.seq its.toArray n }:=by
 obtain⟨z,its,n,r,e⟩:=I.hok l _ hH
 exact⟨z,its,n,r,r.length,e⟩
end
section
variable {X:Cx}
inductive rAppend (x:V) (vs:List V) (H:Hp) (Q:VK):Prop where
 | mk (l xs y:_) (h_0:x=.ref l) (h_1:vs=[y]) (h_2:H l=some (.lst xs)) (h_3:xs.length < sizeLine) (h_4:Q .non (upd H l (.lst (xs++[y])))):rAppend x vs H Q
theorem mt_append:MtM X "list.append" rAppend:=by
 intro pins s σ H x vs v us Q I rx rv h
 obtain⟨l,xs,y,rfl,rfl,hH,hz,q⟩:=h
 cases rx
 obtain⟨u,rfl,ru⟩:=rv.one
 obtain⟨z,its,n,r,hl,e⟩:=I.lstM hH
 refine call_meets F.slot_list_append ⟨_,e,rfl⟩ F.entry_list_append (F.args_list_append_2 _ _) (PySem.list_append l its.toArray n u (by rw[zM]; omega)) ⟨e,?_⟩
 refine⟨.non,_,I.lset (its':=its++[u]) hH e (by simp) (r.append (.cons ru .nil)) ?_,rfl,q⟩
 rw[zN,List.length_singleton]
 omega
inductive rPopAt (x:V) (vs:List V) (H:Hp) (Q:VK):Prop where
 | mk (l xs i k y:_) (h_0:x=.ref l) (h_1:vs=[.int i]) (h_2:H l=some (.lst xs)) (h_3:-(2 ^ 63)≤i) (h_4:i < 2 ^ 63) (h_5:seqIndex? i xs.length=some k) (h_6:xs[k]?=some y) (h_7:Q y (upd H l (.lst (xs.eraseIdx k)))):rPopAt x vs H Q
theorem mt_popAt:MtM X "list.pop" rPopAt:=by
 intro pins s σ H x vs v us Q I rx rv h
 obtain⟨l,xs,i,k,y,rfl,rfl,hH,h1,h2,hk,hy,q⟩:=h
 cases rx
 obtain⟨u,rfl,ru⟩:=rv.one
 obtain⟨t,rfl⟩:=ru
 obtain⟨z,its,n,r,hl,e⟩:=I.lstM hH
 obtain⟨w,hw,rw'⟩:=r.get hy
 refine call_meets F.slot_list_pop ⟨_,e,rfl⟩ F.entry_list_pop (F.args_list_pop_2 _ _)
  (MeetsSeq.list_pop_at l its.toArray n i t k w (fitsIndex_both h1 h2) (by rw[zM,← hl]; exact hk) (by rw[← yG]; exact hw) (by rw[zM]; omega)) ⟨e,?_⟩
 refine⟨y,_,I.lset (its':=its.eraseIdx k) hH e ?_ (r.eraseIdx k) ?_,rw',q⟩
 ·show its.toArray.eraseIdxIfInBounds k=(its.eraseIdx k).toArray
  rw[List.eraseIdxIfInBounds_toArray]
 ·have:=len_erase xs k
  omega
inductive rCat (x:V) (y:V) (H:Hp) (Q:VK):Prop where
 | mk (l b xs zs:_) (h_0:x=.ref l) (h_1:y=.ref b) (h_2:H l=some (.lst xs)) (h_3:H b=some (.lst zs)) (h_4:xs.length + zs.length≤sizeLine) (h_5:∀ p,H p=none→Q (.ref p) (upd H p (.lst (xs++zs)))):rCat x y H Q
theorem op_cat:OpR X (binaryOp .Add) rCat:=by
 intro pins s σ H x y v u Q I rx ry h
 obtain⟨l,b,xs,zs,rfl,rfl,hH,hB,hz,q⟩:=h
 cases rx
 cases ry
 obtain⟨z,its,n,r,hl,e⟩:=I.lstM hH
 obtain⟨z2,its2,n2,r2,hl2,e2⟩:=I.lstM hB
 refine PySem.P.add_list e e2 ?_ (by rw[zM,zM]; omega)
 have ea:its.toArray++its2.toArray=(its++its2).toArray:=by simp
 rw[ea]
 exact⟨.ref _,_,I.lnew (t':=s.toks) (r.append r2) (by rw[zN]; omega),rfl,q _ I.fresh⟩
end
section
variable {prog:Program} {w:World} {A:Around} {E:Value→Shared→Prop} {s:Shared}
end
section
variable {X:Cx}
end
end L2
namespace Att
open PySem PySem.W PySem.Calls PyProof.Rows
theorem ints_of_wellAll {P:Params} {h:Heap}:∀(ns:List Int) (vs:List Value),WellAll P h vs (ns.map WData.int)→IntsAre vs ns:=by
 intro ns
 induction ns with
 | nil =>
  intro vs w
  rw[jM] at w
  cases w
  exact .nil
 | cons n ns ih =>
  intro vs w
  rw[yJ] at w
  cases w with
  | cons a b =>
   cases a
   exact .cons _ _ (ih _ b)
theorem script_of {l:OpenLaw} {n:Nat} (hn:l.most=some n) {P:Params} {h:Heap} {args:List WData} {vals:List Value}
  (hpre:l.row.toRowW.claim.pre args=true) (hwl:WellAll P h vals args) :
  ∃ a vs ns,vals=[Value.ref a]∧args=[WData.list (ns.map WData.int)]∧h.get? a=some { cls:=.type "list",data:=.seq vs.toArray }∧IntsAre vs ns∧ns.length≤n:=by
 have hsh:WShape.hasAll [] args [.list .int]=true:=(pre_splitW hpre).1
 have hc:l.pre.holds [] { args:=args }=true:=(pre_splitW hpre).2
 obtain⟨d,r,rfl,h1,h2⟩:=hasAllW_cons hsh
 obtain rfl:=hasAllW_nil h2
 obtain⟨xs,rfl,h3⟩:=hasW_list h1
 obtain⟨ns,rfl⟩:=items_int h3
 have hlen:ns.length≤n:=by
  unfold OpenLaw.pre at hc
  have h4:(WTm.not (.lt (.lit (.int (n:Int))) (.len (.arg 0)))).holds [] { args:=[.list (ns.map .int)] }=true:=by
   have h4:=(holds_andW hc).1
   rw[hn] at h4
   exact h4
  have h5:=condW_of h4 (w_not (w_lt w_lit (w_len_list (w_arg rfl))))
  rw[zC] at h5
  refine Nat.le_of_not_lt fun q=>?_
  have q':(n:Int) < ((ns.length:Nat):Int):=by omega
  first
   | (rw[decide_eq_true q'] at h5; exact absurd h5 (by decide))
   | (simp at h5; omega)
 cases hwl with
 | cons w1 w2 =>
  cases w2
  cases w1 with
  | list ho hall=>exact⟨_,_,ns,rfl,rfl,ho,ints_of_wellAll ns _ hall,hlen⟩
theorem post_true (l:OpenLaw) (args:List WData):l.row.toRowW.claim.post args (.bool true) args=true :=
 postW_of (r:=l.row.toRowW) (X:=(true == true))
  (show WShape.has [] (.bool true) .bool=true by first|rfl|decide|simp [WShape.has,WShape.arms,WShape.armsAll])
  (show(WTm.eq .res (.lit (.bool true))).value [] { args:=args,res:=some (.bool true),after:=args }=some (.bool (true == true)) from w_eq_bool (w_res rfl) w_lit) rfl
theorem attach_call {l:OpenLaw} {n:Nat} {q:Program} {loose:List Str} {XP:(Str→Option Value)→Heap→Prop} {YP:World→Heap→Prop} {d:DefRec}
  (hn:l.most=some n) (hdf:d.params.defaults=[])
  (call:∀(w:World) (s₀ s₁:Shared) (mg mb:Str→Option Value) (fa:Addr) (o:Obj) (pm cd doc:Value) (a:Addr) (vs:List Value) (ns:List Int),
   Ground q loose [] XP w s₀ mg mb s₁.heap→YP w s₁.heap →
   s₁.heap.get? fa=some o→o.data=.func (docDef d.name d.params d.body d.scope pm cd doc)→s₁.heap.CodeRec cd d.name→mg d.name=some (.ref fa) →
   s₁.heap.get? a=some { cls:=.type "list",data:=.seq vs.toArray }→IntsAre vs ns→ns.length≤n→s₁.gens=#[] →
   codeAny (model l.prog w) callerA (.call (.ref fa) ⟨[.ref a],[]⟩) (fun r s'=>r=.ok (.ret (.bool true))∧OldK s₁.heap s'.heap∧s'.os=s₁.os∧AllBare s'.gens) s₁) :
  WalkO q loose XP YP l.row.toRowW d [] (fun f vs=>PySem.call f vs):=by
 intro w s₀ s₁ mg mb G Y fa o pm cd doc dV kV ho hd hcd hD hmg hg args vals as hpre hlay hrd hwl hlo
 obtain rfl:dV=.none:=Dflts.none hD hdf
 obtain rfl:kV=.none:=Dflts.noKw hD
 obtain⟨a,vs,ns,rfl,rfl,hobj,hints,hlen⟩:=script_of hn hpre hwl
 refine enter_call (codeAny_mono (call w s₀ s₁ mg mb fa o pm cd doc a vs ns G Y ho (fd_plain hd) hcd hmg hobj hints hlen hg) fun r s' hq=>?_)
 obtain⟨rfl,h2,h3,h4⟩:=hq
 exact⟨.inl ⟨.bool true,.bool true,[],rfl,fun _=>rfl,.bool true,post_true l _,fun _=>⟨List.Pairwise.nil,fun _ hm=>(nomatch hm)⟩⟩,h2,h3,h4⟩
section
variable {prog:Program} {w:World} {A:Around} {E:Value→Shared→Prop} {s:Shared} {K:Frag}
end
end Att
namespace L2
open PySem PySem.Spec PyProof.Rows
theorem vals_ints:∀ {vs:List Value} {ns:List Int},IntsAre vs ns→Vals (ns.map V.int) vs
 | _,_,.nil=>.nil
 | _,_,.cons n t h=>.cons ⟨t,rfl⟩ (vals_ints h)
end L2
namespace L2
open PySem PySem.Spec PyProof.Rows
end L2
/- THE LAST THEOREM (shape; LID,My.* are yours):
   My.Adr: a structure of the addresses that your layer names (classes,functions); My.Txt K t: a structure (Prop) of the equations over K;
   My.txt_mk:{K} {implicit addresses ..} (e1:nsIn K mainGlobals "law"=some (some (.ref f))) (e2:K.lookup f=some ⟨oc,od,.func (fnOf "law" "law" params body scope dV kV doc pm an cdv ct),sl⟩) (e3:codeIn K cdv "law"=true) ..:∃ t,My.Txt K t
set_option maxRecDepth 100000 in
set_option maxHeartbeats 0 in
theorem PySem.Challenge.cw_LID_holds : PySem.Challenge.rw_LID.Holds := by
 w_on; o_law; k_head; (case hw=>w_witness2)
 k_fill
 refine L2.walk_of (l:=PySem.Challenge.rw_LID) (n:=63) (k:=40) (x:="script") (CX:=fun w=>..) (sp:=fun _=>My.sp_law) rfl (by decide) rfl ⟨rfl,by decide,by decide⟩ (fun w h Y=>PySem.W.kIn_of Y) ?F ?S ?C
 case F =>
  intro w mg fa h KX G hmg
  have T:∃ t,My.Txt (L2.KOf KX) t:=by
   dsimp only [L2.KOf]                          -- K must stand as «<heap const> w.params» for k_is
   refine' My.txt_mk ?e1 ?e2 ?e3 ..
   (case e1=>PySem.W.k_is)                    -- in the order: a name -> its address -> its object -> its parts
   (case e2=>PySem.W.k_is)
   ..
  obtain⟨t,T⟩:=T
  have e0:=hmg.symm.trans (PySem.W.mg_of KX G T.law)
  cases e0                                       -- fa is the law's own address
  exact⟨_,fun s u=>.of_eq rfl,fun base kb nb=>My.law_fn T kb nb⟩     -- if «.of_eq rfl» comes too early: refine' ⟨_,?b,fun base kb nb=>My.law_fn T kb nb⟩; exact fun s u=>.of_eq rfl
 case S=>exact fun w H a ns hl hO hS=>..
 case C=>exact ..
(the tactic k_is has no namespace: write k_is) -/
namespace L2
open PySem PySem.Spec PyProof.Rows
def inClass (s:Stmt) (j:Nat):Stmt:=match s with
 | .ClassDef _ _ _ body _ _ _ _ _ _ _=>body.getD j (.Pass ⟨0,0,0,0⟩)
 | _=>.Pass ⟨0,0,0,0⟩
def defArgs (s:Stmt):Arguments:=match s with
 | .FunctionDef _ a _ _ _ _ _ _ _ _=>a
 | _=>{ posonlyargs:=[],args:=[],vararg:=none,kwonlyargs:=[],kw_defaults:=[],kwarg:=none,defaults:=[] }
def defBody (s:Stmt):List Stmt:=match s with
 | .FunctionDef _ _ b _ _ _ _ _ _ _=>b
 | _=>[]
def defScope (s:Stmt):Scope:=match s with
 | .FunctionDef _ _ _ _ _ _ sc _ _ _=>sc
 | _=>{ kind:=.function,names:=[],isGenerator:=false,isCoroutine:=false }
abbrev CX0:CXT:=fun _ _ _ _ _ _=>False
abbrev E0:XK:=fun _ _ _=>False
theorem pass0 {X:Cx}:Passes CX0 X E0:=fun _ _ _ _ _ _ _ h=>h.elim
structure Fun (K:PySem.W.Frag) (x qual:Str) (st:Stmt) (f:Addr) (fd:FuncData):Prop where
 ex:∃(oc:Value) (od:Option Addr) (kV doc pm:Value) (an:Option Addr) (cdv ct:Value) (osl:Array (Option Value)),
  fd=PySem.W.fnOf x qual (defArgs st) (defBody st) (defScope st) .none kV doc pm an cdv ct∧K.lookup f=some ⟨oc,od,.func fd,osl⟩∧PySem.W.codeIn K cdv qual=true
 kp:PySem.W.keepIn K (.ref f)=true
section
variable {P:Program} {w:World} {K:PySem.W.Frag} {mg:Str→Option Value} {base:Heap}
theorem Fun.ok {x qual:Str} {st:Stmt} {f:Addr} {fd:FuncData} {N ps:List Str} {k:Nat} {sp:Sp} (F:Fun K x qual st f fd) (S:FnScope N ps (defScope st)) (len:∀ vs H Q E,sp vs H Q E→vs.length=ps.length)
  (hbody:∀(cdv:Value) (A:Around) (outer:List Env) (s:Shared) (H:Hp) (vs:List V) (Q:VK) (E:XK),Room k (A.deeper (envOfC qual (defScope st) s.heap.objs.size f cdv))→sp vs H Q E →
   ∃ t,PSs (cxOf CX0 P w K mg base N qual (defScope st) f cdv A outer s H E).nox (defBody st) t∧t { nx:=fun _ H'=>Q .non H',rt:=Q } (start N vs) H):FnOk P w K mg base CX0 (k + 1) f fd ps sp:=by
 obtain⟨oc,od,kV,doc,pm,an,cdv,ct,osl,rfl,lk,hcd⟩:=F.ex
 refine fn_of lk hcd S len fun A outer s H vs Q E hr hsp=>?_
 obtain⟨t,h,q⟩:=hbody cdv A outer s H vs Q E hr hsp
 exact⟨t,h.nox,q⟩
theorem Fun.binds {x qual:Str} {st:Stmt} {f:Addr} {fd:FuncData} {ps:List Str} (F:Fun K x qual st f fd)
  (h:∀(kV doc pm:Value) (an:Option Addr) (cdv ct:Value) (us:List Value),us.length=ps.length→bindArgs (PySem.W.fnOf x qual (defArgs st) (defBody st) (defScope st) .none kV doc pm an cdv ct) ⟨us,[]⟩=pure (ps.zip us)):Binds K fd ps []:=by
 obtain⟨oc,od,kV,doc,pm,an,cdv,ct,osl,rfl,lk,hcd⟩:=F.ex
 exact .all (h kV doc pm an cdv ct)
theorem fun_mk {x qual:Str} {st:Stmt} {f:Addr} {oc:Value} {od an:Option Addr} {osl:Array (Option Value)} {kV doc pm cdv ct:Value} (l:K.lookup f=some ⟨oc,od,.func (PySem.W.fnOf x qual (defArgs st) (defBody st) (defScope st) .none kV doc pm an cdv ct),osl⟩)
  (c:PySem.W.codeIn K cdv qual=true) (k:PySem.W.keepIn K (.ref f)=true):Fun K x qual st f (PySem.W.fnOf x qual (defArgs st) (defBody st) (defScope st) .none kV doc pm an cdv ct):=⟨⟨oc,od,kV,doc,pm,an,cdv,ct,osl,rfl,l,c⟩,k⟩
end
theorem hu_of {A:Around} {k:Nat} (hr:Room k A):A.units + 1 < cLine:=y7 (Nat.add_le_add_left (by decide:1≤64) _) hr.units
theorem small1000 {n:Nat} (h:n≤1000):n < sizeLine:=y7 h (by decide)
section
variable {X:Cx}
theorem pv (i:Nat) {x:Str} {pos:Pos} (hN:X.N[i]?=some x:=by rfl) (hv:Vis X.env.scope x:=by first|exact Or.inl rfl|exact Or.inr (Or.inl rfl)|exact Or.inr (Or.inr rfl)) (hd:(x == ("__debug__":Str))=false:=by decide)
  (hcd:(x == ("__classdict__":Str))=false:=by decide):PE X (.Name x pos) (tVar i):=pe_var hN hv hd hcd
end
theorem iteF {A B:Prop} (h:B):if false=true then A else B:=by
 rw[if_neg zV]
 exact h
theorem iteT {A B:Prop} (h:A):if true=true then A else B:=by
 rw[if_pos rfl]
 exact h
theorem ite2 {c A B:Prop} [Decidable c] (h1:c→A) (h2:¬ c→B):if c then A else B:=by
 by_cases h:c
 ·rw[if_pos h]
  exact h1 h
 ·rw[if_neg h]
  exact h2 h
def Same (H H':Hp):Prop:=∀ b o,H b=some o→H' b=some o
theorem Same.refl (H:Hp):Same H H:=fun _ _ h=>h
theorem Same.trans {H H1 H2:Hp} (a:Same H H1) (b:Same H1 H2):Same H H2:=fun c o h=>b c o (a c o h)
theorem Same.free {H H':Hp} (e:Same H H') {l:Addr} (h:H' l=Option.none):H l=Option.none:=by
 cases q:H l with
 | none=>rfl
 | some o =>
  rw[e l o q] at h
  cases h
theorem Same.seq {K:PySem.W.Frag} {H H':Hp} {a:Addr} {xs:List V} (e:Same H H') (h:SqL K H a xs):SqL K H' a xs:=by
 rcases h with (h|⟨o,h⟩)|h
 ·exact .inl (.inl (e _ _ h))
 ·exact .inl (.inr ⟨o,e _ _ h⟩)
 ·exact .inr h
end L2
namespace L2
open PySem PySem.Spec PyProof.Rows
section
variable {X:Cx}
end
section
variable {κ:Type} [DecidableEq κ]
end
end L2
namespace L2
open PySem PySem.Spec PyProof.Rows
theorem iteB {c:Bool} {A B:Prop} (h1:c=true→A) (h2:c=false→B):if c=true then A else B:=by
 cases c with
 | true=>exact iteT (h1 rfl)
 | false=>exact iteF (h2 rfl)
mutual
inductive Dt (K:PySem.W.Frag) (H:Hp):Nat→V→PyData→Prop
 | non (n:Nat):Dt K H n .non .none
 | bl (n:Nat) (b:Bool):Dt K H n (.bl b) (.bool b)
 | int (n:Nat) (i:Int):Dt K H n (.int i) (.int i)
 | str (n:Nat) (x:Str) (h:PyData.canLay0 (.str x)=true):Dt K H n (.str x) (.str x)
 | lst {n:Nat} {a:Addr} {xs:List V} {ds:List PyData} (h:SqL K H a xs) (r:DtAll K H n xs ds):Dt K H (n + 1) (.ref a) (.list ds)
 | tup {n:Nat} {a:Addr} {xs:List V} {ds:List PyData} (h:SqT K H a xs) (r:DtAll K H n xs ds):Dt K H (n + 1) (.ref a) (.tuple ds)
inductive DtAll (K:PySem.W.Frag) (H:Hp):Nat→List V→List PyData→Prop
 | nil (n:Nat):DtAll K H n [] []
 | cons {n:Nat} {x:V} {d:PyData} {xs:List V} {ds:List PyData} (h:Dt K H n x d) (r:DtAll K H n xs ds):DtAll K H n (x::xs) (d::ds)
end
mutual
theorem Dt.reads {X:Cx} {pins:List (Addr × Obj)} {σ:St} {H:Hp} {s:Shared} (I:Inv X pins σ H s):∀ {n:Nat} {x:V} {d:PyData} {u:Value},Dt X.K H n x d→RelV x u→(∃ as,Reads s.heap u d as)∧d.canLay0=true∧d.depth≤n
 | _,_,_,_,.non n,r=>by cases r; exact⟨⟨_,.none⟩,rfl,by simp [PyData.depth]⟩
 | _,_,_,_,.bl n b,r=>by cases r; exact⟨⟨_,.bool b⟩,rfl,by simp [PyData.depth]⟩
 | _,_,_,_,.int n i,r=>by obtain⟨t,rfl⟩:=r; exact⟨⟨_,.int i t⟩,rfl,by simp [PyData.depth]⟩
 | _,_,_,_,.str n x h,r=>by obtain⟨t,rfl⟩:=r; exact⟨⟨_,.str x t⟩,h,by simp [PyData.depth]⟩
 | _,_,_,_,.lst h ra,r=>by
  cases r
  obtain⟨its,rv,pl,_⟩:=I.list h
  obtain⟨⟨as,q⟩,c,dp⟩:=DtAll.reads I ra rv
  obtain⟨o,ho,hc,k,hd⟩:=pl.isList
  exact⟨⟨_,.list ho hc hd (by simpa using q)⟩,c,by simp only [PyData.depth]; omega⟩
 | _,_,_,_,.tup h ra,r=>by
  cases r
  obtain⟨its,rv,pl,_⟩:=I.tuple h
  obtain⟨⟨as,q⟩,c,dp⟩:=DtAll.reads I ra rv
  obtain⟨o,ho,hc,k,hd⟩:=pl
  exact⟨⟨_,.tuple ho hc hd (by simpa using q)⟩,c,by simp only [PyData.depth]; omega⟩
theorem DtAll.reads {X:Cx} {pins:List (Addr × Obj)} {σ:St} {H:Hp} {s:Shared} (I:Inv X pins σ H s):∀ {n:Nat} {xs:List V} {ds:List PyData} {us:List Value},DtAll X.K H n xs ds→Vals xs us →
  (∃ as,ReadsAll s.heap us ds as)∧PyData.canLayAll0 ds=true∧PyData.depthAll ds≤n
 | _,_,_,_,.nil n,r=>by cases r; exact⟨⟨_,.nil⟩,rfl,by simp [PyData.depthAll]⟩
 | _,_,_,_,.cons h ra,r=>by
  cases r with
  | cons r1 r2 =>
   obtain⟨⟨as,q⟩,c,dp⟩:=Dt.reads I h r1
   obtain⟨⟨bs,q2⟩,c2,dp2⟩:=DtAll.reads I ra r2
   exact⟨⟨_,.cons q q2⟩,by simp [PyData.canLayAll0,c,c2],by simp only [PyData.depthAll]; omega⟩
end
section
variable {X:Cx}
inductive rEqD (K:PySem.W.Frag) (x:V) (y:V) (H:Hp) (Q:VK):Prop where
 | mk (d e n:_) (h_0:Dt K H n x d) (h_1:Dt K H n y e) (h_2:n≤64) (h_3:Q (.bl (PyData.eqv d e)) H):rEqD K x y H Q
inductive rNeD (K:PySem.W.Frag) (x:V) (y:V) (H:Hp) (Q:VK):Prop where
 | mk (d e n:_) (h_0:Dt K H n x d) (h_1:Dt K H n y e) (h_2:n≤64) (h_3:Q (.bl (!PyData.eqv d e)) H):rNeD K x y H Q
theorem op_eqD (hu:X.A.units + 64 < cLine):OpR X (compareOp .Eq) (rEqD X.K):=by
 intro pins s σ H x y v u Q I rx ry h
 obtain⟨d,e,n,hd,he,hn,q⟩:=h
 obtain⟨⟨as,ra⟩,ca,da⟩:=hd.reads I rx
 obtain⟨⟨bs,rb⟩,cb,db⟩:=he.reads I ry
 exact SeqAt.compareEq_reads ra rb ca cb (by omega) ⟨.bl _,H,I,rfl,q⟩
theorem op_neD (hu:X.A.units + 64 < cLine):OpR X (compareOp .NotEq) (rNeD X.K):=by
 intro pins s σ H x y v u Q I rx ry h
 obtain⟨d,e,n,hd,he,hn,q⟩:=h
 obtain⟨⟨as,ra⟩,ca,da⟩:=hd.reads I rx
 obtain⟨⟨bs,rb⟩,cb,db⟩:=he.reads I ry
 exact SeqAt.rcNeAt_reads ra rb ca cb (by omega) X.prog X.w X.xe _ ⟨.bl _,H,I,rfl,q⟩
inductive rIsiT (K:PySem.W.Frag) (xs:List V) (H:Hp) (Q:VK):Prop where
 | mk (x n t b:_) (h_0:xs=[x,.ty n]) (h_1:TyOf K H x t) (h_2:PySem.W.kitOne K t (.type n)=some b) (h_3:Q (.bl b) H):rIsiT K xs H Q
theorem call_isiT:CallR X (.builtin "isinstance") (rIsiT X.K):=by
 intro pins s σ H xs us Q I r h
 obtain⟨x,n,t,b,rfl,ty,e,q⟩:=h
 obtain⟨v,w',rfl,rv,rw'⟩:=vals2 r
 cases rw'
 exact isinst_ok I rv ty e fun tk=>⟨.bl b,H,I.tok tk,rfl,q⟩
def tSl3 (K:PySem.W.Frag) (te:TE) (tl th ts:TO):TE:=fun σ H Q=>te σ H fun x H1=>tl σ H1 fun l H2=>th σ H2 fun u H3=>ts σ H3 fun k H4 =>
 ∃ a ns,x=.ref a∧SqL K H4 a (ns.map V.int)∧k ≠ some 0∧∀ p ms,ms=pickNums ns l u k→ms.length≤ns.length→H4 p=none→Q (.ref p) (upd H4 p (.lst (ms.map V.int)))
theorem pe_slice3 {e:Expr} {te:TE} {lo hi st:Option Expr} {tl th ts:TO} {pos p2:Pos} (he:PE X e te) (hl:PO X lo tl) (hu:PO X hi th) (hk:PO X st ts)
  (hsub:∀ o i,∃ ops,subscripted (.Slice lo hi st p2) false o i=operate ops (getItem o i):=by intro _ _; exact⟨_,by with_unfolding_all rfl⟩) :
  PE X (.Subscript e (.Slice lo hi st p2) pos) (tSl3 X.K te tl th ts):=by
 intro pins s σ H Q I h
 refine Subscript_ (thn (he pins s σ H _ I h) fun v s1 ⟨x,H1,I1,r1,q1⟩=>?_)
 refine wpAny_Slice (thn (hl pins s1 σ H1 _ I1 q1) fun vl s2 ⟨l,H2,I2,pl,q2⟩=>thn (hu pins s2 σ H2 _ I2 q2) fun vu s3 ⟨u,H3,I3,pu,q3⟩=>thn (hk pins s3 σ H3 _ I3 q3) fun vk s4 ⟨k,H4,I4,pk,q4⟩=>?_)
 obtain⟨a,ns,rfl,hx,k0,q⟩:=q4
 cases r1
 have I5:Inv X pins σ H4 { s4 with heap:=s4.heap.push { cls:=.type "slice",data:=.fields #[vl,vu,vk] } }:=I4.kept (t':=s4.toks) fun b ob q=>Heap.get?_push_of_some _ q
 obtain⟨its,r,ht,hz⟩:=I5.list hx
 have hi:=intsAre_of r
 have hlen:=hi.length
 have hp:=hi.pick l u k
 have hle:=length_pickNums_le hi l u k
 rw[zC] at hz
 obtain⟨ops,hops⟩:=hsub (.ref a) (.ref s4.heap.objs.size)
 refine tail_any (ops:=ops) ht.isList.typeIs slot_list_getitem.lookup (wpAny_getItem_list_slice ht.isList (Heap.IsSliceOf.new ..) pl pu pk k0 ?_ (by rw[zM]; omega)) hops
 refine⟨.ref _,_,I5.laid (t':=s4.toks) (o:=.lst ((pickNums ns l u k).map V.int)) (fun b ob q=>Heap.get?_push_of_some _ q) (zH _) ?_,rfl,q _ _ rfl hle (I5.hok.fresh (zH _))⟩
 refine⟨by rw[zC]; omega,(slicePick its.toArray l u k).toList,0,vals_ints hp,?_⟩
 exact Heap.get?_push_size _ rfl
structure ClsM (K:PySem.W.Frag) (C:Addr) (m:Str) (f:Addr):Prop where
 ga:PySem.W.specialIn K (.ref C) "__getattribute__"=some (some (.builtin "type.__getattribute__"))
 mc:∃ mc,PySem.W.readsIn K C mc=true∧PySem.W.findCls K (.ref C) mc m=some (.val (.ref f))
 kp:PySem.W.keepIn K (.ref f)=true
theorem pe_clsm {CX:CXT} {k:Nat} {f C:Addr} {fd:FuncData} {ps:List Str} {sp:Sp} {dvs:List V} {ds:List Value} {E:XK} {x m:Str} {p pos apos:Pos} {e:Expr} {es:List Expr} {t:TA} {pl:Sem Bool}
  (hg:Gl X x) (hm:X.mg x=some (.ref C)) (c:ClsM X.K C m f) (F:FnOk X.prog X.w X.K X.mg X.base CX k f fd ps sp) (hr:Room k X.A) (hb:Binds X.K fd ps ds) (hd:Vals dvs ds) (hx:Passes CX X E) (ha:PA X (e::es) t)
  (hdb:(x == ("__debug__":Str))=false:=by decide) (hst:starEach (e::es) X.env=(false,eval e X.env)::starEach es X.env:=by rfl) (hpl:(backTo pos (starEach es X.env)).any (·.1)=false:=by rfl)
  (ht:eval (.Call (.Attribute (.Name x p) m apos) (e::es) [] pos) X.env=(do
   let ov ← eval (.Name x p) X.env
   standAt apos.atName
   let (f,first) ← holding [ov] (getMethod ov m pl)
   callWith pos f first (backTo pos (starEach (e::es) X.env)) (backToKw pos (keywordEach [] X.env))):=by rfl) :
  PE X (.Call (.Attribute (.Name x p) m apos) (e::es) [] pos) (tCall sp dvs E t):=by
 intro pins s σ H Q I h
 refine PySem.W.methodCall_KW (pl:=pl) (ld_glob I hg hm ?_ hdb) ht
 obtain⟨mc,h1,h2⟩:=c.mc
 refine PySem.W.method_cls I.kIn c.ga (PySem.W.cls_value I.kIn h1 h2 rfl ?_)
 have I1:Inv X pins σ H { s with toks:=s.toks + 1 }:=I.tok _
 refine PySem.W.callWith_K (first:=[]) (h₀:=X.base) I.ok.mod.kin c.kp (thn (ha pos pins _ σ H _ I1 h) fun us s2 ⟨vs,H2,I2,r,q2⟩=>⟨I2.kIn,?_⟩) hst hpl
 exact run_fn (us:=us) (vs:=vs) F hr hb hd hx I2 r q2
end
end L2
namespace L2
open PySem PySem.Spec PyProof.Rows
theorem bt_len:bootBuiltins "len"=some (.builtin "len"):=by decide +kernel
theorem bt_isinstance:bootBuiltins "isinstance"=some (.builtin "isinstance"):=by decide +kernel
theorem bt_list:bootBuiltins "list"=some (.type "list"):=by decide +kernel
theorem bt_tuple:bootBuiltins "tuple"=some (.type "tuple"):=by decide +kernel
theorem bt_str:bootBuiltins "str"=some (.type "str"):=by decide +kernel
theorem bt_min:bootBuiltins "min"=some (.builtin "min"):=by decide +kernel
theorem bt_sum:bootBuiltins "sum"=some (.builtin "sum"):=by decide +kernel
theorem bt_any:bootBuiltins "any"=some (.builtin "any"):=by decide +kernel
theorem bt_all:bootBuiltins "all"=some (.builtin "all"):=by decide +kernel
theorem bt_sorted:bootBuiltins "sorted"=some (.builtin "sorted"):=by decide +kernel
structure FnAt (P:Program) (w:World) (K:PySem.W.Frag) (mg:Str→Option Value) (base:Heap) (k:Nat) (x:Str) (ps:List Str) (sp:Sp):Prop where
 ex:∃(f:Addr) (fd:FuncData),FnOk P w K mg base CX0 k f fd ps sp∧mg x=some (.ref f)∧PySem.W.keepIn K (.ref f)=true∧Binds K fd ps []
structure MethAt (P:Program) (w:World) (K:PySem.W.Frag) (mg:Str→Option Value) (base:Heap) (k:Nat) (C:Addr) (m:Str) (ps:List Str) (sp:Sp):Prop where
 ex:∃(f:Addr) (fd:FuncData),FnOk P w K mg base CX0 k f fd ps sp∧Meth K C m f∧Binds K fd ps []
 cls:Cls K C
structure MkAt (P:Program) (w:World) (K:PySem.W.Frag) (mg:Str→Option Value) (base:Heap) (k:Nat) (x:Str) (C:Addr) (ps:List Str) (sp:Sp):Prop where
 ex:∃(f:Addr) (fd:FuncData),FnOk P w K mg base CX0 k f fd ps sp∧Mk K C f∧Binds K fd ps []
 mg:mg x=some (.ref C)
structure ClsAt (P:Program) (w:World) (K:PySem.W.Frag) (mg:Str→Option Value) (base:Heap) (k:Nat) (C:Addr) (m:Str) (ps:List Str) (sp:Sp):Prop where
 ex:∃(f:Addr) (fd:FuncData),FnOk P w K mg base CX0 k f fd ps sp∧ClsM K C m f∧Binds K fd ps []
section
variable {X:Cx} {k:Nat} {ps:List Str} {sp:Sp} {x m:Str} {C:Addr} {p pos apos:Pos} {e o:Expr} {es:List Expr} {t:TA} {ta:TE}
theorem pe_fn (G:FnAt X.prog X.w X.K X.mg X.base k x ps sp) (hr:Room k X.A) (hg:Gl X x) (ha:PA X (e::es) t) (hdb:(x == ("__debug__":Str))=false:=by decide)
  (he:starEach (e::es) X.env=(false,eval e X.env)::starEach es X.env:=by rfl) (hpl:(backTo pos (starEach es X.env)).any (·.1)=false:=by rfl) :
  PE X (.Call (.Name x p) (e::es) [] pos) (tCall sp [] E0 t):=by
 obtain⟨f,fd,F,hm,hk,hb⟩:=G.ex
 exact pe_call F hr hg hm hk hb .nil pass0 ha hdb he hpl
theorem pe_mth {pl:Sem Bool} (G:MethAt X.prog X.w X.K X.mg X.base k C m ps sp) (hr:Room k X.A) (he:PE X o ta) (ha:PA X (e::es) t)
  (hst:starEach (e::es) X.env=(false,eval e X.env)::starEach es X.env:=by rfl) (hpl:(backTo pos (starEach es X.env)).any (·.1)=false:=by rfl)
  (ht:eval (.Call (.Attribute o m apos) (e::es) [] pos) X.env=(do
   let ov ← eval o X.env
   standAt apos.atName
   let (f,first) ← holding [ov] (getMethod ov m pl)
   callWith pos f first (backTo pos (starEach (e::es) X.env)) (backToKw pos (keywordEach [] X.env))):=by rfl) :
  PE X (.Call (.Attribute o m apos) (e::es) [] pos) (tMeth C m sp [] E0 ta t):=by
 obtain⟨f,fd,F,hm,hb⟩:=G.ex
 exact pe_meth (pl:=pl) he G.cls hm F hr hb .nil pass0 ha hst hpl ht
theorem pe_mk (M:MkAt X.prog X.w X.K X.mg X.base k x C ps sp) (hr:Room (k + 1) X.A) (hg:Gl X x) (ha:PA X (e::es) t) (hdb:(x == ("__debug__":Str))=false:=by decide)
  (he:starEach (e::es) X.env=(false,eval e X.env)::starEach es X.env:=by rfl) (hpl:(backTo pos (starEach es X.env)).any (·.1)=false:=by rfl) :
  PE X (.Call (.Name x p) (e::es) [] pos) (tMake C sp [] E0 t):=by
 obtain⟨f,fd,F,hm,hb⟩:=M.ex
 exact pe_make hm F hr hg M.mg hb .nil pass0 ha hdb he hpl
theorem pe_clsm' {pl:Sem Bool} (hg:Gl X x) (hm:X.mg x=some (.ref C)) (G:ClsAt X.prog X.w X.K X.mg X.base k C m ps sp) (hr:Room k X.A) (ha:PA X (e::es) t)
  (hdb:(x == ("__debug__":Str))=false:=by decide) (hst:starEach (e::es) X.env=(false,eval e X.env)::starEach es X.env:=by rfl) (hpl:(backTo pos (starEach es X.env)).any (·.1)=false:=by rfl)
  (ht:eval (.Call (.Attribute (.Name x p) m apos) (e::es) [] pos) X.env=(do
   let ov ← eval (.Name x p) X.env
   standAt apos.atName
   let (f,first) ← holding [ov] (getMethod ov m pl)
   callWith pos f first (backTo pos (starEach (e::es) X.env)) (backToKw pos (keywordEach [] X.env))):=by rfl) :
  PE X (.Call (.Attribute (.Name x p) m apos) (e::es) [] pos) (tCall sp [] E0 t):=by
 obtain⟨f,fd,F,c,hb⟩:=G.ex
 exact pe_clsm (pl:=pl) hg hm c F hr hb .nil pass0 ha hdb hst hpl ht
end
def Keep (L:List Addr) (H H':Hp):Prop:=∀ b o,H b=some o→b ∉ L→H' b=some o
theorem Same.upd {H H':Hp} {p:Addr} {o:HO} (h:Same H H') (n:H p=none):Same H (upd H' p o):=fun b u e=>by
 rw[upd_ne (ne_of_none e n)]
 exact h b u e
theorem Same.new {H:Hp} {p:Addr} {o:HO} (n:H p=none):Same H (L2.upd H p o):=(Same.refl H).upd n
theorem ints_get {ns:List Int} {i:Nat} {y:V} (h:(ns.map V.int)[i]?=some y):∃ z,y=V.int z∧ns[i]?=some z:=by
 rw[zE] at h
 cases e:ns[i]? with
 | none=>rw[e] at h; cases h
 | some z=>rw[e] at h; exact⟨z,(Option.some.inj h).symm,rfl⟩
end L2
namespace L2
open PySem PySem.Spec PyProof.Rows
theorem ixT {K:PySem.W.Frag} {H:Hp} {p:Addr} {xs:List V} {i:Int} {v:V} {Q:VK} (h:H p=some (.tup xs)) (e:atI xs i=some v) (q:Q v H):rIxT K (.ref p) (.int i) H Q:=⟨p,xs,i,v,rfl,rfl,SqT.of h,e,q⟩
theorem tyL {K:PySem.W.Frag} {H:Hp} {p:Addr} {xs:List V} (h:H p=some (.lst xs)):tyV K "list" (.ref p) H:=.inl ⟨rfl,xs,SqL.of h⟩
theorem atI_map {α β:Type} {rs:List α} {f:α→β} {k:Int} {j:Nat} {r:α} (hk:k=(j:Int)) (h:rs[j]?=some r):atI (rs.map f) k=some (f r):=by
 rw[hk]
 exact atI_nat (by rw[zE,h]; rfl)
theorem Keep.same {L:List Addr} {H H':Hp} (h:Same H H'):Keep L H H':=fun b o e _=>h b o e
theorem Keep.upd {L:List Addr} {H H':Hp} {a:Addr} {o:HO} (h:Keep L H H') (ha:a ∈ L):Keep L H (L2.upd H' a o):=fun b u e hb=>by
 rw[upd_ne (fun z=>hb (by rw[z]; exact ha))]
 exact h b u e hb
theorem Keep.new {L:List Addr} {H H':Hp} {a:Addr} {o:HO} (h:Keep L H H') (n:H a=none):Keep L H (L2.upd H' a o):=fun b u e hb=>by
 rw[upd_ne (ne_of_none e n)]
 exact h b u e hb
end L2
namespace L2
open PySem PySem.Spec PyProof.Rows
inductive Each {α:Type} (P:α→Prop):List α→Prop
 | nil:Each P []
 | cons {a:α} {l:List α}:P a→Each P l→Each P (a::l)
theorem Each.mem {α:Type} {P:α→Prop}:∀ {l:List α},Each P l→∀ a ∈ l,P a
 | _,.nil,_,h=>absurd h zK
 | _,.cons p r,a,h=>by
  rcases zQ.mp h with e|e
  ·rw[e]; exact p
  ·exact r.mem a e
def Cx.comp (X:Cx) (scope:Scope) (cl:List (Str × Addr)) (C:Addr) (fp:List Addr) (N':List Str) (s2:Shared) (H2:Hp):Cx where
 prog:=X.prog
 w:=X.w
 K:=X.K
 mg:=X.mg
 base:=X.base
 A:=X.A
 N:=N'
 s₀:=s2
 H₀:=H2
 env:=compEnvC scope cl C X.env
 outer:=X.stack
 stack:=X.stack
 ex:=fp
 fn:=fun _=>false
 calm:=X.calm
 pn:=[]
 xe:=fun _ _=>False
structure CompOk (X:Cx) (scope:Scope) (cl:List (Str × Addr)) (own fr:List Str) (js:List Nat):Prop where
 kind:scope.kind=.function
 clos:closureFor scope X.env=pure cl
 nocell:∀ y ∈ scope.names,y.2 ≠ .cell
 names:∀ y ∈ scope.names,y.2=.local→scope.names.lookup y.1=some .local
 cells:Each (fun(p:Str × Addr)=>X.env.cells.lookup p.1=some p.2) cl
 has:Each (fun(p:Str × NameKind)=>((p.2 != .cell && p.2 != .free) || (cl.lookup p.1).isSome)=true) (relabel scope X.env).names
 fr:Paired (fun(x:Str) (j:Nat)=>X.N[j]?=some x∧(X.env.kindOf x=some .cell∨X.env.kindOf x=some .free)∧((relabel scope X.env).names.lookup x=some .cell∨(relabel scope X.env).names.lookup x=some .free)) fr js
 calm:X.calm=true
def blk (own:List Str) (js:List Nat) (σ:St):St:=own.map (fun _=>none)++js.map fun j=>(σ[j]?).join
theorem _root_.PySem.Paired.getL {α β:Type} {F:α→β→Prop}:∀ {l₁:List α} {l₂:List β} {i:Nat} {a:α},Paired F l₁ l₂→l₁[i]?=some a→∃ b,l₂[i]?=some b∧F a b
 | _,_,_,_,.nil,e=>by simp at e
 | _,_,0,_,.cons r _,e=>by simp at e; subst e; exact⟨_,rfl,r⟩
 | _,_,i + 1,a,.cons _ t,e=>by
  obtain⟨u,h1,h2⟩:=PySem.Paired.getL (i:=i) (a:=a) t (by simpa using e)
  exact⟨u,by simpa using h1,h2⟩
section
variable {X:Cx} {scope:Scope} {cl:List (Str × Addr)} {own fr:List Str} {js:List Nat} {pins:List (Addr × Obj)} {σ:St} {H:Hp} {s:Shared}
theorem CompOk.cell (c:CompOk X scope cl own fr js) {x:Str} {a:Addr} (h:cl.lookup x=some a):X.env.cells.lookup x=some a:=c.cells.mem _ (PySem.mem_of_lookup h)
theorem Inv.block (c:CompOk X scope cl own fr js) (I:Inv X pins σ H s) {fp:List Addr} (hf:∀ b ∈ fp,FpOk X pins H b∧b < s.heap.objs.size) {h':Heap} {C D:Addr} {m:Str→Option Value} {t':Nat}
  (k:∀ b o,s.heap.get? b=some o→h'.get? b=some o) (hC:s.heap.objs.size≤C) (hD:s.heap.objs.size≤D) (hDC:D ≠ C) (ns:h'.Ns C m) (hl:h'.get? D=some { cls:=.type "list",data:=.seq #[] }) :
  Inv (X.comp scope cl C fp (own++fr) s H) [] (blk own js σ) (upd H D (.lst [])) { s with heap:=h',toks:=t' }:=by
 have fC:H C=none:=I.hok.fresh hC
 have lt:∀ {b:Addr} {o:Obj},s.heap.get? b=some o→b < s.heap.objs.size:=fun e=>Heap.lt_size e
 have cne:∀ x a,cl.lookup x=some a→∃ v,s.heap.IsCell a v:=fun x a e=>I.cell x a (c.cell e)
 refine⟨⟨I.ok.mod,c.kind,I.ok.glob,I.ok.blt,hC,fun x y a h1 h2=>I.ok.inj x y a (c.cell h1) (c.cell h2),fun x hx=>?_,fun x a z=>(by cases z),I.ok.hd,I.ok.frames,.inl rfl,fun b hb=>⟨?_,fun x a e=>?_⟩,I.bs,z4 I.ok.bsz I.sz,fun b o e hb=>?_,fun b hb hz=>?_,I.stack,I.stkFree⟩,
  rfl,I.bare,?_,⟨m,ns,fun i x v h1 h2 h3=>?_⟩,fun x a e=>?_,?_,fun x a e=>?_,fun p hp=>absurd (show p ∈ ([]:List (Addr × Obj)) from hp) zK,?_,?_⟩
 ·have hx':(relabel scope X.env).names.lookup x=some .cell∨(relabel scope X.env).names.lookup x=some .free:=hx
  have z:∀ kd,(relabel scope X.env).names.lookup x=some kd→(kd=.cell∨kd=.free)→∃ a,cl.lookup x=some a:=fun kd e1 e2=>by
   have q:=c.has.mem _ (PySem.mem_of_lookup e1)
   rcases e2 with e2|e2 <;> subst e2 <;> exact yV.mp q
  rcases hx' with h|h
  ·exact z _ h (.inl rfl)
  ·exact z _ h (.inr rfl)
 ·exact zR (zO (hf b hb).2 hC)
 ·exact(hf b hb).1.2.2.2.2.1 x a (c.cell e)
 ·rcases(hf b hb).1.2.2.2.1 with z|z
  ·exact I.ok.noex b o e z
  ·exact absurd (zO (Heap.lt_size e) (z4 I.ok.bsz z)) (y3 _)
 ·rcases zQ.mp (I.stkSub b hz) with z|z
  ·exact(hf b hb).1.2.1 z
  ·exact(hf b hb).1.2.2.1 z
 ·exact Un.laid k hD (I.hok.fresh hD)
 ·-- the names that it shares
  have hi:own.length≤i:=by
   by_cases q:own.length≤i
   ·exact q
   ·unfold blk at h2
    rw[yK (by rw[zC]; omega),zE] at h2
    cases e:own[i]? with
    | none=>rw[e] at h2; cases h2
    | some z=>rw[e] at h2; cases h2
  have h1':fr[i - own.length]?=some x:=by
   have q:(own++fr)[i]?=some x:=h1
   rw[zZ hi] at q
   exact q
  obtain⟨j,hj,hN,hk,hr⟩:=c.fr.getL h1'
  have h2':σ[j]?=some (some v):=by
   unfold blk at h2
   rw[zZ (by rw[zC]; exact hi),zC,zE,hj] at h2
   have q:some ((σ[j]?).join)=some (some v):=h2
   have q':=Option.some.inj q
   cases e:σ[j]? with
   | none=>rw[e] at q'; cases q'
   | some z=>rw[e] at q'; rw[show z=some v from q']
  obtain⟨m0,hn0,hl0⟩:=I.loc
  obtain⟨u,r,l⟩:=hl0 j x v hN h2' (hk.elim (fun z=>.inr (.inl z)) fun z=>.inr (.inr z))
  refine⟨u,r,.inr ⟨hr,?_⟩⟩
  rcases l with ⟨hk',_⟩|⟨_,a,ea,ca⟩
  ·rcases hk with z|z <;> (rw[hk'] at z; cases z)
  ·have hx':∃ b,cl.lookup x=some b:=by
    have z:∀ kd,(relabel scope X.env).names.lookup x=some kd→(kd=.cell∨kd=.free)→∃ a,cl.lookup x=some a:=fun kd e1 e2=>by
     have q:=c.has.mem _ (PySem.mem_of_lookup e1)
     rcases e2 with e2|e2 <;> subst e2 <;> exact yV.mp q
    rcases hr with h|h
    ·exact z _ h (.inl rfl)
    ·exact z _ h (.inr rfl)
   obtain⟨b,eb⟩:=hx'
   have eab:=c.cell eb
   rw[ea] at eab
   cases eab
   obtain⟨o,ho,hd⟩:=ca
   exact⟨a,eb,o,k _ _ ho,hd⟩
 ·obtain⟨v,o,ho,hd⟩:=cne x a e
  exact⟨v,o,k _ _ ho,hd⟩
 ·show upd H D (.lst []) C=none
  rw[upd_ne hDC.symm]; exact fC
 ·obtain⟨v,o,ho,hd⟩:=cne x a e
  rw[upd_ne (zR (zO (lt ho) hD))]
  exact I.freeC x a (c.cell e)
 ·exact I.hok.laid k hD ⟨zW _,[],0,.nil,hl⟩
 ·unfold blk
  show _=(own++fr).length
  have:=c.fr.length
  rw[zN,zN,zC,zC]
  omega
theorem Inv.unblock (I:Inv X pins σ H s) {fp:List Addr} (hf:∀ b ∈ fp,FpOk X pins H b) {N':List Str} {C:Addr} {pl:List (Addr × Obj)} {σ':St} {H':Hp} {s':Shared}
  (J:Inv (X.comp scope cl C fp N' s H) pl σ' H' s'):Inv X pins σ H' s' :=
 I.call' (ch:=fp) J.os J.base J.hok J.bare fun b hb=>⟨(hf b hb).2.2.2.1,(hf b hb).2.1,(hf b hb).2.2.2.2.1,(hf b hb).2.2.2.2.2⟩
end
def PTs (X:Cx) (ifs:List Expr) (t:TT):Prop :=
 ∀(pins:List (Addr × Obj)) (s:Shared) (σ:St) (H:Hp) (Q:Bool→Hp→Prop),Inv X pins σ H s→t σ H Q →
  wpAny (model X.prog X.w) X.A (forIn ifs true fun c r=>if r=true then do let ok ← isTrue c X.env (eval c X.env); pure (ForInStep.yield ok) else pure (ForInStep.yield r)) (TP X pins σ Q) X.xe s
def tTrue:TT:=fun _ H Q=>Q true H
theorem pts_nil {X:Cx}:PTs X [] tTrue:=fun _ _ _ H _ I h=>wpAny_tests_nil ⟨H,I,h⟩
theorem pts_one {X:Cx} {c:Expr} {t:TT} (h:PT X c t):PTs X [c] t:=fun pins s σ H Q I q=>wpAny_tests_one (h pins s σ H Q I q)
def CompW (J:It) (D:Addr) (σ0:St) (g:TG) (tc:TT) (te:TE) (H1:Hp) (Q:Hp→Prop):Prop :=
 ∃ W:Nat→Nat→Hp→Prop,(∃ m,W 0 m (upd H1 D (.lst [])))∧∀ i m H,W i m H →
  (J.stop i H∧Q H)∨(J.go i H∧∀ x H',J.yld i H x H'→g x σ0 H' fun σ2 H2=>tc σ2 H2 fun b H3 =>
   if b=true then te σ2 H3 fun y H4=>∃ ys,H4 D=some (.lst ys)∧ys.length < sizeLine∧∃ m',m' < m∧W (i + 1) m' (upd H4 D (.lst (ys++[y]))) else ∃ m',m' < m∧W (i + 1) m' H3)
section
variable {X:Cx} {elt iter tg:Expr} {ifs:List Expr} {scope:Scope} {cl:List (Str × Addr)} {own fr:List Str} {js:List Nat} {wi:TI} {g:TG} {tc:TT} {te:TE} {pos:Pos}
theorem comp_loop {pins:List (Addr × Obj)} {σ:St} {H1:Hp} {s1:Shared} {it:Addr} {fp:List Addr} {tn:Nat→Heap→Prop} {J:It} {C D:Addr} {h':Heap} {m:Str→Option Value} {t':Nat} {Q:Hp→Prop} {R:Result→Shared→Prop}
  (c:CompOk X scope cl own fr js) (I:Inv X pins σ H1 s1) (T:Turn X.prog X.w X.K tg J fp it tn) (st:tn 0 s1.heap) (hf:∀ b ∈ fp,FpOk X pins H1 b)
  (hg:PG (X.comp scope cl C fp (own++fr) s1 H1) tg g) (hc:PTs (X.comp scope cl C fp (own++fr) s1 H1) ifs tc) (he:PE (X.comp scope cl C fp (own++fr) s1 H1) elt te)
  (k:∀ b o,s1.heap.get? b=some o→h'.get? b=some o) (hC:s1.heap.objs.size≤C) (hD:s1.heap.objs.size≤D) (hDC:D ≠ C) (ns:h'.Ns C m) (hl:h'.get? D=some { cls:=.type "list",data:=.seq #[] })
  (q:CompW J D (blk own js σ) g tc te H1 Q)
  (fin:∀ H' s' m',Inv X pins σ H' s'→s'.heap.Ns C m'→H' C=none→Q H'→R (.ok .next) s') :
  codeAny (model X.prog X.w) X.A (.compLoop (.ListComp elt [⟨tg,iter,ifs,0⟩] scope pos) 0 (.ref it) (.ref D) (compEnvC scope cl C X.env)) R { s1 with heap:=h',toks:=t' }:=by
 have hf2:∀ b ∈ fp,FpOk X pins H1 b∧b < s1.heap.objs.size:=fun b hb=>by
  obtain⟨o,e,_⟩:=T.obj _ _ st b hb
  exact⟨hf b hb,Heap.lt_size e⟩
 have J0:Inv (X.comp scope cl C fp (own++fr) s1 H1) [] (blk own js σ) (upd H1 D (.lst [])) { s1 with heap:=h',toks:=t' }:=I.block c hf2 k hC hD hDC ns hl
 have fpN:∀ b ∈ fp,(upd H1 D (.lst [])) b=none:=fun b hb=>by
  rw[upd_ne (zR (zO (hf2 b hb).2 hD))]
  exact(hf b hb).1
 have st0:tn 0 h':=T.keep _ _ _ st fun b _ o e=>k b o e
 obtain⟨W,⟨m0,w0⟩,turn⟩:=q
 have stat:∀ {H':Hp},(∀ b ∈ fp,H' b=none)→∀ b ∈ fp,FpOk (X.comp scope cl C fp (own++fr) s1 H1) [] H' b:=fun hn b hb=>by
  refine⟨hn b hb,zR (zO (hf2 b hb).2 hC),fun z=>?_,.inl hb,fun x a e=>(hf b hb).2.2.2.2.1 x a (c.cell e),fun p hp=>absurd (show p ∈ ([]:List (Addr × Obj)) from hp) zK⟩
  rcases zQ.mp (I.stkSub b z) with z|z
  ·exact(hf b hb).2.1 z
  ·exact(hf b hb).2.2.1 z
 refine codeAny_loop rfl (fun n s'=>∃ i H',Inv (X.comp scope cl C fp (own++fr) s1 H1) [] (blk own js σ) H' s'∧tn i s'.heap∧(∀ b ∈ fp,H' b=none)∧W i n H') ?_ m0 ⟨0,_,J0,st0,fpN,w0⟩
 rintro n s3 ⟨i,H3,I3,st3,fr3,w3⟩
 show wpAny _ X.A ((compTurn (.ListComp elt [⟨tg,iter,ifs,0⟩] scope pos) 0 (.ref it) (.ref D) (compEnvC scope cl C X.env)).onRaise (fun x=>do noteFrame x (compEnvC scope cl C X.env); theTreesLotGoes x)) _ _ s3
 refine wpAny_noted ?_
 rw[compTurn_list]
 have weak:∀ {α:Type} {tr:Sem α} {Q':α→Shared→Prop} {E':Value→Shared→Prop} {s':Shared},wpAny (model X.prog X.w) X.A tr Q' (fun _ _=>False) s'→wpAny (model X.prog X.w) X.A tr Q' E' s':=fun h=>wpAny_mono h (fun _ _ z=>z) fun _ _ z=>z.elim
 refine wpAny_bind (wpAny_standAt (wpAny_bind ?_))
 rcases turn i n H3 w3 with ⟨stop,qn⟩|⟨go,step⟩
 ·refine weak (thn (T.done (X.comp scope cl C fp (own++fr) s1 H1) rfl rfl rfl c.calm i [] s3 _ H3 _ I3 (stat fr3) st3 stop) fun r s4 ⟨hr,I4⟩=>?_)
  subst hr
  refine wpAny_pure ?_
  obtain⟨m',hn',_⟩:=I4.loc
  exact fin H3 s4 m' (I.unblock hf I4) hn' I4.free qn
 ·refine weak (thn (T.item (X.comp scope cl C fp (own++fr) s1 H1) rfl rfl rfl c.calm i [] s3 _ H3 _ I3 (stat fr3) st3 go) fun r s4 ⟨u,hr,h4⟩=>?_)
  subst hr
  refine wpAny_bind (weak (thn h4 fun _ s5 ⟨x,H5,I5,r5,y5,st5,fr5⟩=>?_))
  have I5':=I5.pinned (stat fr5) (T.obj _ _ st5)
  refine wpAny_bind (weak (thn (hg _ s5 _ H5 x u _ I5' r5 (step x H5 y5)) fun _ s6 ⟨σ6,H6,I6,q6⟩=>?_))
  have back:∀ {σ7:St} {H7:Hp} {s7:Shared} {m':Nat},Inv (X.comp scope cl C fp (own++fr) s1 H1) ([]++pinsAt fp s5.heap) σ7 H7 s7→m' < n→W (i + 1) m' H7→Inv (X.comp scope cl C fp (own++fr) s1 H1) [] (blk own js σ) H7 s7 →
    ∃ m,m < n∧∃ i H',Inv (X.comp scope cl C fp (own++fr) s1 H1) [] (blk own js σ) H' s7∧tn i s7.heap∧(∀ b ∈ fp,H' b=none)∧W i m H':=fun {σ7 H7 s7 m'} I7 hm w7 I8=>by
   refine⟨m',hm,i + 1,H7,I8,T.keep _ _ _ st5 fun b hb o e=>(I7.pin (b,o) (zP _ (zP _ (mem_pinsAt hb e)))).1,fun b hb=>?_,w7⟩
   obtain⟨o,e,d⟩:=T.obj _ _ st5 b hb
   exact(I7.pin (b,o) (zP _ (zP _ (mem_pinsAt hb e)))).2.1
  have anew:∀ {σ7:St} {H7:Hp} {s7:Shared} {pl:List (Addr × Obj)},Inv (X.comp scope cl C fp (own++fr) s1 H1) pl σ7 H7 s7→Inv (X.comp scope cl C fp (own++fr) s1 H1) [] (blk own js σ) H7 s7:=fun {σ7 H7 s7 pl} I7=>by
   have IX:=I.unblock hf I7
   obtain⟨m',hn',_⟩:=I7.loc
   obtain⟨mX,nX,lX⟩:=IX.loc
   refine⟨I7.ok,I7.os,I7.bare,I7.base,⟨m',hn',fun i x v h1 h2 h3=>?_⟩,I7.cell,I7.free,I7.freeC,fun p hp=>absurd (show p ∈ ([]:List (Addr × Obj)) from hp) zK,I7.hok,I3.len⟩
   have hi:own.length≤i:=by
    by_cases q:own.length≤i
    ·exact q
    ·unfold blk at h2
     rw[yK (by rw[zC]; omega),zE] at h2
     cases e:own[i]? with
     | none=>rw[e] at h2; cases h2
     | some z=>rw[e] at h2; cases h2
   have h1':fr[i - own.length]?=some x:=by
    have q:(own++fr)[i]?=some x:=h1
    rw[zZ hi] at q
    exact q
   obtain⟨j,hj,hN,hk,hr⟩:=c.fr.getL h1'
   have h2':σ[j]?=some (some v):=by
    unfold blk at h2
    rw[zZ (by rw[zC]; exact hi),zC,zE,hj] at h2
    have q:some ((σ[j]?).join)=some (some v):=h2
    have q':=Option.some.inj q
    cases e:σ[j]? with
    | none=>rw[e] at q'; cases q'
    | some z=>rw[e] at q'; rw[show z=some v from q']
   obtain⟨u,r,l⟩:=lX j x v hN h2' (hk.elim (fun z=>.inr (.inl z)) fun z=>.inr (.inr z))
   refine⟨u,r,.inr ⟨hr,?_⟩⟩
   rcases l with ⟨hk',_⟩|⟨_,a,ea,ca⟩
   ·rcases hk with z|z <;> (rw[hk'] at z; cases z)
   ·obtain⟨b,eb⟩:=I7.ok.has x hr
    have eab:=c.cell eb
    rw[ea] at eab
    cases eab
    exact⟨a,eb,ca⟩
  refine wpAny_bind (weak (thn (hc _ s6 σ6 H6 _ I6 q6) fun ok s7 ⟨H7,I7,q7⟩=>?_))
  cases ok with
  | false =>
   have q7':=(if_neg (by decide:¬ (false=true))).mp q7
   obtain⟨m',hm,w7⟩:=q7'
   exact wpAny_pure ⟨rfl,back I7 hm w7 (anew I7)⟩
  | true =>
   have q7':=(if_pos (rfl:true=true)).mp q7
   refine wpAny_bind (wpAny_bind (weak (thn (he _ s7 σ6 H7 _ I7 q7') fun y s8 ⟨v8,H8,I8,r8,ys,e8,z8,m',hm,w8⟩=>?_)))
   refine wpAny_bind (weak (thn (mt_append (X:=X.comp scope cl C fp (own++fr) s1 H1) _ s8 σ6 H8 (.ref D) [v8] (.ref D) [y] (fun _ H9=>H9=upd H8 D (.lst (ys++[v8]))) I8 rfl (.cons r8 .nil) ⟨D,ys,v8,rfl,rfl,e8,z8,rfl⟩) fun _ s9 ⟨_,H9,I9,_,e9⟩=>?_))
   subst e9
   exact wpAny_pure (wpAny_pure ⟨rfl,back I9 hm w8 (anew I9)⟩)
end
end L2
namespace L2
open PySem PySem.Spec PyProof.Rows
section
variable {X:Cx} {elt iter tg:Expr} {ifs:List Expr} {scope:Scope} {cl:List (Str × Addr)} {own fr:List Str} {js:List Nat} {wi:TI} {g:TG} {tc:TT} {te:TE} {pos:Pos}
def tComp (wi:TI) (own:List Str) (js:List Nat) (g:TG) (tc:TT) (te:TE):TE:=fun σ H Q=>wi σ H fun J H1=>∀ D,H1 D=none→CompW J D (blk own js σ) g tc te H1 fun H2=>Q (.ref D) H2
theorem pe_comp (c:CompOk X scope cl own fr js) (hi:PI X tg iter wi) (hg:∀ C fp s H,PG (X.comp scope cl C fp (own++fr) s H) tg g) (hc:∀ C fp s H,PTs (X.comp scope cl C fp (own++fr) s H) ifs tc)
  (he:∀ C fp s H,PE (X.comp scope cl C fp (own++fr) s H) elt te) (hs:∀ x,foldedSetIterable iter X.env x=pure x:=by intro _; rfl) :
  PE X (.ListComp elt [⟨tg,iter,ifs,0⟩] scope pos) (tComp wi own js g tc te):=by
 intro pins s σ H Q I h
 rw[eval_ListComp]
 refine wpAny_comprehension_free (use:=none) rfl hs c.clos c.kind c.names (thn (hi pins s σ H _ I h) fun v s1 h1=>thn h1 fun itv s2 h2=>?_)
 obtain⟨it,fp,tn,J,H2,rfl,I2,T,st2,f2,q⟩:=h2
 refine wpAny_newObj_type (wpAny_newFunctionEnv c.nocell (by intro y hy; simp at hy) (fun h₁ hns₁ hsb₁=>?_) c.kind)
 dsimp only at hns₁ hsb₁ ⊢
 generalize hH2:s2.heap.push { cls:=.type "list",dict:=none,data:=.seq ([]:List Value).toArray }=hp at hns₁ hsb₁ ⊢
 have hC:hp.objs.size=s2.heap.objs.size + 1:=by rw[← hH2,Heap.size_push]
 have hDC:s2.heap.objs.size ≠ hp.objs.size:=by rw[hC]; exact zR (qC _)
 have hCle:s2.heap.objs.size≤hp.objs.size:=by rw[hC]; exact yM _
 have old:∀ b o,s2.heap.get? b=some o→h₁.get? b=some o:=fun b o e=>hsb₁.extBut b o (by rw[hC]; exact zR (yS (Heap.lt_size e))) (Heap.get?_push_of_some _ (hH2 ▸ Heap.get?_push_of_some _ e))
 have hl:h₁.get? s2.heap.objs.size=some { cls:=.type "list",data:=.seq #[] }:=hsb₁.extBut _ _ hDC (Heap.get?_push_of_some _ (hH2 ▸ Heap.get?_push_size _ rfl))
 have loop:∀ t',codeAny (model X.prog X.w) X.A (.compLoop (.ListComp elt [⟨tg,iter,ifs,0⟩] scope pos) 0 (.ref it) (.ref s2.heap.objs.size) (compEnvC scope cl hp.objs.size X.env))
   (compPost (model X.prog X.w) X.A X.xe none (EP X pins σ Q) (.ref s2.heap.objs.size) hp.objs.size) { s2 with heap:=h₁,toks:=t' }:=fun t' =>
  comp_loop c I2 T st2 f2 (hg _ _ _ _) (hc _ _ _ _) (he _ _ _ _) old hCle (zH _) hDC hns₁ hl (q _ (I2.hok.fresh (zH _))) fun H' s' m' I' hn' hCn qn=>by
   refine⟨m',hn',fun h'' hs''=>⟨.ref s2.heap.objs.size,H',?_,rfl,qn⟩⟩
   obtain⟨f0,f1,_,f3,f4,f5⟩:=I2.fpOk hCle hCn
   exact I'.turned (t':=s'.toks) (fun b o hb e=>hs''.extBut b o hb e) f0 f1 f3 f4 f5
 have st1:tn 0 h₁:=T.keep _ _ _ st2 fun b _ o e=>old b o e
 exact codeAny_compStart_list (loop _) (T.self _ 0 _ _ _ st1 (loop _))
theorem ps_setC {i:Nat} {y:Str} {py spos:Pos} (hN:X.N.Nodup) (hiy:X.N[i]?=some y) (hx:Loc X.env.scope y)
  (hsw:swapsWith (.ListComp elt [⟨tg,iter,ifs,0⟩] scope pos) (some (.Name y py)) spos.line X.env=pure true)
  (c:CompOk X scope cl own fr js) (hi:PI X tg iter wi) (hg:∀ C fp s H,PG (X.comp scope cl C fp (own++fr) s H) tg g) (hc:∀ C fp s H,PTs (X.comp scope cl C fp (own++fr) s H) ifs tc)
  (he:∀ C fp s H,PE (X.comp scope cl C fp (own++fr) s H) elt te) (hs:∀ x,foldedSetIterable iter X.env x=pure x:=by intro _; rfl)
  (hfn:X.fn y=true∨X.env.scope.names.lookup y=some .local:=by first|exact .inl rfl|exact .inr rfl|assumption) :
  PS X (.Assign [.Name y py] (.ListComp elt [⟨tg,iter,ifs,0⟩] scope pos) spos) (tAsg (tComp wi own js g tc te) (gName i)):=by
 intro pins s σ H D I h
 rw[exec_Assign_Name_used _ _ _ _ hsw]
 refine wpAny_bind (wpAny_standAt (wpAny_bind ?_))
 show wpAny _ X.A (do let _ ← comprehension (.ListComp elt [⟨tg,iter,ifs,0⟩] scope pos) scope X.env _ (newList []) false (eval iter X.env) (some (assign (.Name y py) X.env))) _ _ s
 refine wpAny_bind (wpAny_mono (wpAny_comprehension_free (use:=some (assign (.Name y py) X.env)) (Q:=fun _ s'=>SP X pins D .next s') rfl hs c.clos c.kind c.names
  (thn (hi pins s σ H _ I h) fun v s1 h1=>thn h1 fun itv s2 h2=>?_)) (fun _ s' hq=>wpAny_pure (wpAny_pure hq)) fun _ _ e=>e)
 obtain⟨it,fp,tn,J,H2,rfl,I2,T,st2,f2,q⟩:=h2
 refine wpAny_newObj_type (wpAny_newFunctionEnv c.nocell (by intro y hy; simp at hy) (fun h₁ hns₁ hsb₁=>?_) c.kind)
 dsimp only at hns₁ hsb₁ ⊢
 generalize hH2:s2.heap.push { cls:=.type "list",dict:=none,data:=.seq ([]:List Value).toArray }=hp at hns₁ hsb₁ ⊢
 have hC:hp.objs.size=s2.heap.objs.size + 1:=by rw[← hH2,Heap.size_push]
 have hDC:s2.heap.objs.size ≠ hp.objs.size:=by rw[hC]; exact zR (qC _)
 have hCle:s2.heap.objs.size≤hp.objs.size:=by rw[hC]; exact yM _
 have old:∀ b o,s2.heap.get? b=some o→h₁.get? b=some o:=fun b o e=>hsb₁.extBut b o (by rw[hC]; exact zR (yS (Heap.lt_size e))) (Heap.get?_push_of_some _ (hH2 ▸ Heap.get?_push_of_some _ e))
 have hl:h₁.get? s2.heap.objs.size=some { cls:=.type "list",data:=.seq #[] }:=hsb₁.extBut _ _ hDC (Heap.get?_push_of_some _ (hH2 ▸ Heap.get?_push_size _ rfl))
 have loop:∀ t',codeAny (model X.prog X.w) X.A (.compLoop (.ListComp elt [⟨tg,iter,ifs,0⟩] scope pos) 0 (.ref it) (.ref s2.heap.objs.size) (compEnvC scope cl hp.objs.size X.env))
   (compPost (model X.prog X.w) X.A X.xe (some (assign (.Name y py) X.env)) (fun _ s'=>SP X pins D .next s') (.ref s2.heap.objs.size) hp.objs.size) { s2 with heap:=h₁,toks:=t' }:=fun t' =>
  comp_loop c I2 T st2 f2 (hg _ _ _ _) (hc _ _ _ _) (he _ _ _ _) old hCle (zH _) hDC hns₁ hl (q _ (I2.hok.fresh (zH _))) fun H' s' m' I' hn' hCn qn=>by
   obtain⟨f0,f1,f2',f3,f4,f5⟩:=I2.fpOk hCle hCn
   obtain⟨oC,es,ep,eC,dC,rC⟩:=id hn'
   have I'':Inv X (pins++[(hp.objs.size,oC)]) σ H' s':=I'.pins_of fun p hpp=>(yA.mp hpp).elim (fun z=>I'.pin p (zP _ z)) fun z=>by
    rw[zF] at z
    subst z
    exact⟨eC,f0,f1,f2',fun v z=>by rw[dC] at z; cases z⟩
   show wpAny _ X.A (assign (.Name y py) X.env (.ref s2.heap.objs.size)) _ _ s'
   refine thn (pg_name (i:=i) hN hiy hx hfn _ s' σ H' (.ref s2.heap.objs.size) (.ref s2.heap.objs.size) _ I'' rfl qn) fun _ s7 ⟨σ7,H7,I7,q7⟩=>?_
   have p7:=I7.pin (hp.objs.size,oC) (zP _ (zP _ (yH _)))
   refine⟨m',⟨oC,es,ep,p7.1,dC,rC⟩,fun h'' hs''=>⟨σ7,H7,?_,q7⟩⟩
   exact I7.unpinned.turned (t':=s7.toks) (fun b o hb e=>hs''.extBut b o hb e) p7.2.1 f1 f3 f4 f5
 have st1:tn 0 h₁:=T.keep _ _ _ st2 fun b _ o e=>old b o e
 exact codeAny_compStart_list (loop _) (T.self _ 0 _ _ _ st1 (loop _))
end
section
variable {g:TG} {tc:TT} {te:TE} {D:Addr} {σ0:St} {H1:Hp} {Q:Hp→Prop}
theorem comp_list {K:PySem.W.Frag} {a:Addr} {xs:List V} (Pv:Nat→Hp→Prop) (h0:Pv 0 (upd H1 D (.lst []))) (hl:∀ i H,i≤xs.length→Pv i H→SqL K H a xs)
  (hs:∀ i x H (m:Nat) (W:Nat→Nat→Hp→Prop),xs[i]?=some x→Pv i H→(∀ H',Pv (i + 1) H'→∃ m',m' < m∧W (i + 1) m' H')→g x σ0 H fun σ2 H2=>tc σ2 H2 fun b H3 =>
   if b=true then te σ2 H3 fun y H4=>∃ ys,H4 D=some (.lst ys)∧ys.length < sizeLine∧∃ m',m' < m∧W (i + 1) m' (upd H4 D (.lst (ys++[y]))) else ∃ m',m' < m∧W (i + 1) m' H3)
  (hd:∀ H,Pv xs.length H→Q H):CompW (Itl K a) D σ0 g tc te H1 Q:=by
 refine⟨fun i m H=>m=xs.length - i∧i≤xs.length∧Pv i H,⟨xs.length,by simp,zW _,h0⟩,?_⟩
 rintro i m H ⟨rfl,hi,p⟩
 have q:=hl i H hi p
 by_cases hlt:i < xs.length
 ·refine .inr ⟨⟨xs,xs[i],q,by simp [hlt]⟩,fun x H' y=>?_⟩
  obtain⟨e,y⟩:=y
  subst e
  exact hs i x _ (xs.length - i) (fun i m H=>m=xs.length - i∧i≤xs.length∧Pv i H) (y xs q) p fun H' p'=>⟨xs.length - (i + 1),by omega,rfl,hlt,p'⟩
 ·have e:i=xs.length:=by omega
  subst e
  exact .inl ⟨⟨xs,q,zH _⟩,hd H p⟩
theorem comp_tup {K:PySem.W.Frag} {a:Addr} {xs:List V} (Pv:Nat→Hp→Prop) (h0:Pv 0 (upd H1 D (.lst []))) (hl:∀ i H,i≤xs.length→Pv i H→SqT K H a xs)
  (hs:∀ i x H (m:Nat) (W:Nat→Nat→Hp→Prop),xs[i]?=some x→Pv i H→(∀ H',Pv (i + 1) H'→∃ m',m' < m∧W (i + 1) m' H')→g x σ0 H fun σ2 H2=>tc σ2 H2 fun b H3 =>
   if b=true then te σ2 H3 fun y H4=>∃ ys,H4 D=some (.lst ys)∧ys.length < sizeLine∧∃ m',m' < m∧W (i + 1) m' (upd H4 D (.lst (ys++[y]))) else ∃ m',m' < m∧W (i + 1) m' H3)
  (hd:∀ H,Pv xs.length H→Q H):CompW (Itt K a) D σ0 g tc te H1 Q:=by
 refine⟨fun i m H=>m=xs.length - i∧i≤xs.length∧Pv i H,⟨xs.length,by simp,zW _,h0⟩,?_⟩
 rintro i m H ⟨rfl,hi,p⟩
 have q:=hl i H hi p
 by_cases hlt:i < xs.length
 ·refine .inr ⟨⟨xs,xs[i],q,by simp [hlt]⟩,fun x H' y=>?_⟩
  obtain⟨e,y⟩:=y
  subst e
  exact hs i x _ (xs.length - i) (fun i m H=>m=xs.length - i∧i≤xs.length∧Pv i H) (y xs q) p fun H' p'=>⟨xs.length - (i + 1),by omega,rfl,hlt,p'⟩
 ·have e:i=xs.length:=by omega
  subst e
  exact .inl ⟨⟨xs,q,zH _⟩,hd H p⟩
theorem comp_range {lo:Int} {n:Nat} (Pv:Nat→Hp→Prop) (h0:Pv 0 (upd H1 D (.lst [])))
  (hs:∀ i H (m:Nat) (W:Nat→Nat→Hp→Prop),i < n→Pv i H→(∀ H',Pv (i + 1) H'→∃ m',m' < m∧W (i + 1) m' H')→g (.int (lo + i)) σ0 H fun σ2 H2=>tc σ2 H2 fun b H3 =>
   if b=true then te σ2 H3 fun y H4=>∃ ys,H4 D=some (.lst ys)∧ys.length < sizeLine∧∃ m',m' < m∧W (i + 1) m' (upd H4 D (.lst (ys++[y]))) else ∃ m',m' < m∧W (i + 1) m' H3)
  (hd:∀ H,Pv n H→Q H):CompW (Itr lo n) D σ0 g tc te H1 Q:=by
 refine⟨fun i m H=>m=n - i∧i≤n∧Pv i H,⟨n,by simp,zW _,h0⟩,?_⟩
 rintro i m H ⟨rfl,hi,p⟩
 by_cases hlt:i < n
 ·refine .inr ⟨hlt,fun x H' y=>?_⟩
  obtain⟨e,y⟩:=y
  subst e y
  exact hs i _ (n - i) (fun i m H=>m=n - i∧i≤n∧Pv i H) hlt p fun H' p'=>⟨n - (i + 1),by omega,rfl,hlt,p'⟩
 ·have e:i=n:=by omega
  subst e
  exact .inl ⟨zH _,hd H p⟩
end
end L2
namespace L2
open PySem PySem.Spec PyProof.Rows
theorem bt_enumerate:bootBuiltins "enumerate"=some (.type "enumerate"):=by decide +kernel
theorem bt_range:bootBuiltins "range"=some (.type "range"):=by decide +kernel
def Ite (K:PySem.W.Frag) (a:Addr):It :=
 ⟨fun i H=>∃ xs x,SqL K H a xs∧xs[i]?=some x,fun i H x H'=>∃ p v,x=.ref p∧H p=none∧(∀ xs,SqL K H a xs→xs[i]?=some v)∧H'=upd H p (.tup [.int i,v]),fun i H=>∃ xs,SqL K H a xs∧xs.length≤i⟩
theorem turn_enum {P:Program} {w:World} {K:PySem.W.Frag} {elts:List Expr} {x1:Nat} {tpos:Pos} (a e it:Addr) (hne:e ≠ it) :
  Turn P w K (.Tuple elts x1 tpos) (Ite K a) [e,it] e (fun i h=>∃ old,IsEnum h e it i old∧h.IsListIter it a i) where
 mem:=by simp
 obj:=fun i h st b hb=>by
  obtain⟨old,h1,h2⟩:=st
  rcases zQ.mp hb with r|r
  ·subst r
   exact⟨_,h1,fun v z=>by cases z⟩
  ·have r:=zF.mp r
   subst r
   obtain⟨o,e2,c,d⟩:=h2
   exact⟨o,e2,fun v z=>by rw[d] at z; cases z⟩
 keep:=fun i h h' st k=>by
  obtain⟨old,h1,h2⟩:=st
  exact⟨old,k e (by simp) _ h1,h2.at fun o q=>k it (by simp) o q⟩
 item:=by
  intro X hP hw hK hc i pins s σ H E I hf st hg
  subst hP hw hK
  obtain⟨xs,x,hq,hx⟩:=hg
  obtain⟨its,rv,p,hz⟩:=I.list hq
  obtain⟨u,hu,ru⟩:=rv.get hx
  obtain⟨old,h1,h2⟩:=st
  have fe:=hf e (by simp)
  have fi:=hf it (by simp)
  refine wpAny_pyNext_enum_item h1 h2 p.isList (x:=u) (by simpa using hu) hne fun h' out it' tup sz k=>?_
  refine⟨_,rfl,wpAny_letOwnedTupleGo_enum out fun h'' en sb=>?_⟩
  have np:H s.heap.objs.size=none:=I.hok.fresh (zH _)
  have lt:∀ {b:Addr} {o:Obj},s.heap.get? b=some o→b ≠ s.heap.objs.size:=fun q=>zR (Heap.lt_size q)
  have kk:∀ b o,b ≠ e→b ≠ it→s.heap.get? b=some o→h''.get? b=some o:=fun b o n1 n2 q=>sb.extBut b o n1 (k b o n1 n2 q)
  have pe:s.heap.objs.size ≠ e:=Ne.symm (lt h1)
  have pit:s.heap.objs.size ≠ it:=by
   obtain⟨o,e2,_⟩:=h2
   exact Ne.symm (lt e2)
  have tup2:h''.get? s.heap.objs.size=some { cls:=.type "tuple",data:=.seq #[.int i s.toks,u] }:=sb.extBut _ _ pe tup
  have it2:h''.IsListIter it a (i + 1):=it'.at fun o q=>sb.extBut it o (Ne.symm hne) q
  have nch:∀ {b:Addr},b ∉ [e,it]→b ≠ e∧b ≠ it:=fun hb=>⟨fun z=>hb (by simp [z]),fun z=>hb (by simp [z])⟩
  have trk:∀ {b:Addr} {o:HO},H b=some o→b ≠ e∧b ≠ it:=fun q=>⟨fun z=>(by rw[z,fe.1] at q; cases q),fun z=>(by rw[z,fi.1] at q; cases q)⟩
  have I1:Inv X pins σ (upd H s.heap.objs.size (.tup [.int i,x])) { s with heap:=h'',toks:=s.toks + 1 }:=by
   refine I.step (g':=s.gens) (d':=s.drawn) (ch:=[e,it]) (fun b hb=>?_) (fun b o _ _ hcc q _=>kk b o (nch hcc).1 (nch hcc).2 q) (fun b o _ _ hcc q _=>⟨o.slots,kk b o (nch hcc).1 (nch hcc).2 q⟩)
    (fun b o _ q n=>by rw[upd_ne (lt q)]; exact n) (fun b o hcc q=>⟨o,kk b o (nch hcc).1 (nch hcc).2 q⟩) (fun b ys q=>by rw[upd_ne (ne_of_none q np)]; exact q) (fun b o y q=>by rw[upd_ne (ne_of_none q np)]; exact q)
    (fun b ps q=>⟨#[],by rw[upd_ne (ne_of_none q np),q]; simp⟩) (fun m hm=>?_) (fun b o q=>?_) I.bare
   ·rcases zQ.mp hb with r|r
    ·rw[r]; exact⟨fe.2.2.2.1,fe.2.1,fe.2.2.2.2.1,fe.2.2.2.2.2⟩
    ·rw[zF.mp r]; exact⟨fi.2.2.2.1,fi.2.1,fi.2.2.2.2.1,fi.2.2.2.2.2⟩
   ·obtain⟨o,es,ep,ho,r⟩:=hm
    exact⟨o,es,ep,kk _ o (Ne.symm fe.2.1) (Ne.symm fi.2.1) ho,r⟩
   ·by_cases hb:b=s.heap.objs.size
    ·subst hb
     rw[upd_same] at q
     cases q
     exact⟨(by show 2≤sizeLine; decide),[.int i s.toks,u],.cons ⟨_,rfl⟩ (.cons ru .nil),⟨_,tup2,rfl,_,rfl⟩⟩
    ·rw[upd_ne hb] at q
     refine(I.hok b o q).stay (fun c v hcc z=>?_) (fun c z=>by rw[upd_ne (ne_of_none z np)]; exact z) fun c ys z=>by rw[upd_ne (ne_of_none z np)]; exact z
     rcases hcc with r|r
     ·rw[r] at z ⊢; exact kk _ _ (trk q).1 (trk q).2 z
     ·exact kk _ _ (trk r).1 (trk r).2 z
  have en2:IsEnum h'' e it ((i + 1:Nat):Int) u:=en
  refine⟨.ref s.heap.objs.size,_,I1,rfl,⟨_,x,rfl,np,fun ys hy=>by rw[I.list_inj hy hq]; exact hx,rfl⟩,⟨u,en2,it2⟩,fun b hb=>?_⟩
  rcases zQ.mp hb with r|r
  ·rw[r,upd_ne pe.symm]; exact fe.1
  ·rw[zF.mp r,upd_ne pit.symm]; exact fi.1
 done:=by
  intro X hP hw hK hc i pins s σ H E I hf st hg
  subst hP hw hK
  obtain⟨xs,hq,hx⟩:=hg
  obtain⟨its,rv,p,hz⟩:=I.list hq
  obtain⟨old,h1,h2⟩:=st
  obtain⟨f0,f1,f2,f3,f4,f5⟩:=hf it (by simp)
  have hl:=rv.length
  exact wpAny_pyNext_enum_end (I.ok.hd hc) h1 h2 p.isList (by simp; omega) fun h' eb=>⟨rfl,I.turned (t':=s.toks) (fun b o hb q=>eb b o hb q) f0 f1 f3 f4 f5⟩
 self:=fun _ _ _ _ _ st h=>by
  obtain⟨old,h1,_⟩:=st
  exact wpAny_pyIter_enum h1 h
section
variable {X:Cx}
inductive iEnum_ (K:PySem.W.Frag) (R:It→Hp→Prop) (vs:List V) (H1:Hp):Prop where
 | mk (a:_) (h_0:vs=[.ref a]) (h_1:(∃ xs,SqL K H1 a xs)) (h_2:R (Ite K a) H1):iEnum_ K R vs H1
def iEnum (K:PySem.W.Frag) (ta:TA):TI:=fun σ H R=>ta σ H fun vs H1=>iEnum_ K R vs H1
theorem pi_enum {l:Expr} {ta:TA} {p pos:Pos} {elts:List Expr} {x1:Nat} {tpos:Pos} (hg:Gl X "enumerate") (hm:X.mg "enumerate"=none) (ha:PA X [l] ta) (hs:starEach [l] X.env=[(false,eval l X.env)]:=by rfl) :
  PI X (.Tuple elts x1 tpos) (.Call (.Name "enumerate" p) [l] [] pos) (iEnum X.K ta):=by
 intro pins s σ H R I h
 refine Call_ (ld_blt I hg hm bt_enumerate (PyProof.Rows.callWith_type1 (thn (ha pos pins s σ H _ I h) fun us s1 ⟨vs,H1,I1,r1,q1⟩=>?_) hs rfl))
 obtain⟨a,rfl,⟨xs,hq⟩,q⟩:=q1
 obtain⟨u,rfl,ru⟩:=vals1 r1
 cases ru
 obtain⟨its,rv,pl,hz⟩:=I1.list hq
 refine call_enumerate_list pl.isList fun h' en it sz k=>?_
 refine wpAny_pyIter_enum en ?_
 have I2:Inv X pins σ H1 { s1 with heap:=h' }:=I1.kept (t':=s1.toks) k
 refine⟨s1.heap.objs.size + 1,[s1.heap.objs.size + 1,s1.heap.objs.size],_,_,H1,rfl,I2,turn_enum a _ _ (qT _),⟨_,en,it⟩,fun b hb=>?_,q⟩
 rcases zQ.mp hb with r|r
 ·rw[r]; exact I1.fpOk (yM _) (I1.hok.fresh (yM _))
 ·rw[zF.mp r]; exact I1.fpOk (zH _) (I1.hok.fresh (zH _))
theorem comp_enum {K:PySem.W.Frag} {a:Addr} {xs:List V} {g:TG} {tc:TT} {te:TE} {D:Addr} {σ0:St} {H1:Hp} {Q:Hp→Prop} (Pv:Nat→Hp→Prop) (h0:Pv 0 (upd H1 D (.lst []))) (hl:∀ i H,i≤xs.length→Pv i H→SqL K H a xs)
  (hs:∀ i x H (m:Nat) (W:Nat→Nat→Hp→Prop),xs[i]?=some x→Pv i H→(∀ H',Pv (i + 1) H'→∃ m',m' < m∧W (i + 1) m' H')→∀ p,H p=none→g (.ref p) σ0 (upd H p (.tup [.int i,x])) fun σ2 H2=>tc σ2 H2 fun b H3 =>
   if b=true then te σ2 H3 fun y H4=>∃ ys,H4 D=some (.lst ys)∧ys.length < sizeLine∧∃ m',m' < m∧W (i + 1) m' (upd H4 D (.lst (ys++[y]))) else ∃ m',m' < m∧W (i + 1) m' H3)
  (hd:∀ H,Pv xs.length H→Q H):CompW (Ite K a) D σ0 g tc te H1 Q:=by
 refine⟨fun i m H=>m=xs.length - i∧i≤xs.length∧Pv i H,⟨xs.length,by simp,zW _,h0⟩,?_⟩
 rintro i m H ⟨rfl,hi,p⟩
 have q:=hl i H hi p
 by_cases hlt:i < xs.length
 ·refine .inr ⟨⟨xs,xs[i],q,by simp [hlt]⟩,fun x H' y=>?_⟩
  obtain⟨pp,v,rfl,np,hx,rfl⟩:=y
  exact hs i v _ (xs.length - i) (fun i m H=>m=xs.length - i∧i≤xs.length∧Pv i H) (hx xs q) p (fun H' p'=>⟨xs.length - (i + 1),by omega,rfl,hlt,p'⟩) pp np
 ·have e:i=xs.length:=by omega
  subst e
  exact .inl ⟨⟨xs,q,zH _⟩,hd H p⟩
mutual
theorem Dt.can {K:PySem.W.Frag} {H:Hp}:∀ {n:Nat} {x:V} {d:PyData},Dt K H n x d→d.canLay0=true
 | _,_,_,.non _=>rfl
 | _,_,_,.bl _ _=>rfl
 | _,_,_,.int _ _=>rfl
 | _,_,_,.str _ _ h=>h
 | _,_,_,.lst _ r=>by rw[PyData.canLay0]; exact DtAll.can r
 | _,_,_,.tup _ r=>by rw[PyData.canLay0]; exact DtAll.can r
theorem DtAll.can {K:PySem.W.Frag} {H:Hp}:∀ {n:Nat} {xs:List V} {ds:List PyData},DtAll K H n xs ds→PyData.canLayAll0 ds=true
 | _,_,_,.nil _=>rfl
 | _,_,_,.cons h r=>by rw[PyData.canLayAll0,Dt.can h,DtAll.can r]; rfl
end
theorem DtAll.of {K:PySem.W.Frag} {H:Hp} {α:Type} {n:Nat} {f:α→PyData} {P:V→α→Prop} (h:∀ x a,P x a→Dt K H n x (f a)):∀ {xs:List V} {as:List α},Paired P xs as→DtAll K H n xs (as.map f)
 | _,_,.nil=>.nil n
 | _,_,.cons p r=>.cons (h _ _ p) (DtAll.of h r)
theorem call_anyB (hc:X.calm=true):CallR X (.builtin "any") (fun xs H Q=>∃(p:Addr) (bs:List Bool),xs=[.ref p]∧SqL X.K H p (bs.map V.bl)∧Q (.bl (bs.any id)) H):=by
 intro pins s σ H xs us Q I r h
 obtain⟨p,bs,rfl,hq,q⟩:=h
 obtain⟨u,rfl,ru⟩:=vals1 r
 cases ru
 obtain⟨its,rv,pl,hz⟩:=I.list hq
 have hl:=rv.length
 rw[zC] at hl
 have lt:p < s.heap.objs.size:=by obtain⟨o,e,_⟩:=pl.isList; exact Heap.lt_size e
 refine call_any_walk (wpAny_pyIter_list pl.isList ?_)
 refine⟨_,_,_,_,_,_,fun i=>bs.getD i false,rfl,Walks.list (A:=X.A.in1) (I.ok.hd hc) s.heap.objs.size p (zR lt) its.toArray,⟨⟨_,Heap.get?_push_size _ rfl,rfl,rfl⟩,pl.isList.push _⟩,?_,fun h' tk k=>?_⟩
 ·intro i v s' Q' E' hP hQ
  have hi:its[i]?=some v:=by simpa using hP
  have hil:i < bs.length:=by have:=(zD.mp hi).1; omega
  obtain⟨u,hu,ru⟩:=rv.get (i:=i) (x:=V.bl bs[i]) (by rw[zE,zB hil]; rfl)
  rw[hi] at hu
  cases hu
  cases (show v=Value.bool bs[i] from ru)
  refine wpAny_truthy_bool ?_
  have e:bs.getD i false=bs[i]:=by rw[zA,zB hil]; rfl
  rw[← e]
  exact hQ
 ·refine⟨.bl _,H,I.kept (t':=tk) fun b o e=>k b o (fun z=>?_) (Heap.get?_push_of_some _ e),rfl,?_⟩
  ·rw[zF.mp z] at e
   exact absurd (Heap.lt_size e) (y3 _)
  ·have e:(List.range its.toArray.size).any (fun i=>bs.getD i false)=bs.any id:=by
    rw[zM,← hl]
    clear q hq hl rv hz
    induction bs with
    | nil=>rfl
    | cons b bs ih=>rw[zS,j8,qS,j9,qS]; exact congrArg (b || ·) ih
   show Q (.bl _) H
   rw[e]
   exact q
inductive tRng_ (Q:VK) (vs:List V) (H1:Hp):Prop where
 | mk (j:Int) (h_0:vs=[.int j]) (h_1:∀ r,H1 r=none→Q (.ref r) (upd H1 r (.rng 0 j))):tRng_ Q vs H1
def tRng (ta:TA):TE:=fun σ H Q=>ta σ H fun vs H1=>tRng_ Q vs H1
theorem pe_range1 {a:Expr} {ta:TA} {p pos:Pos} (hg:Gl X "range") (hm:X.mg "range"=none) (ha:PA X [a] ta) (hs:starEach [a] X.env=[(false,eval a X.env)]:=by rfl):PE X (.Call (.Name "range" p) [a] [] pos) (tRng ta):=by
 intro pins s σ H Q I h
 refine Call_ (ld_blt I hg hm bt_range (PyProof.Rows.callWith_type1 (thn (ha pos pins s σ H _ I h) fun us s1 ⟨vs,H1,I1,r1,q1⟩=>?_) hs rfl))
 obtain⟨j,rfl,q⟩:=q1
 obtain⟨u,rfl,t,rfl⟩:=vals1 r1
 refine call_range_1 ?_
 exact⟨.ref _,_,I1.laid (o:=.rng 0 j) (fun b o e=>Heap.get?_push_of_some _ e) (zH _) ⟨_,_,_,Heap.get?_push_size _ rfl⟩,rfl,q _ (I1.hok.fresh (zH _))⟩
theorem call_list_rng (hc:X.calm=true):CallR X (.type "list") (fun xs H Q=>∃ r n,xs=[.ref r]∧H r=some (.rng 0 ((n:Nat):Int))∧n≤1000∧∀ l,H l=none→Q (.ref l) (upd H l (.lst ((List.range n).map fun(i:Nat)=>V.int (i:Int))))):=by
 intro pins s σ H xs us Q I r h
 obtain⟨p,n,rfl,hq,hn,q⟩:=h
 obtain⟨u,rfl,ru⟩:=vals1 r
 cases ru
 obtain⟨t,u,v,e⟩:=I.hok p _ hq
 refine call_list_range (I.ok.hd hc) e (small_one (by decide) (by decide) (by omega) (by omega)) (n:=n) (by rw[rangeSize_one]; split <;> omega) (by omega) fun h' tk acc c k e' it=>?_
 refine⟨.ref _,_,I.laid (t':=tk) (o:=.lst ((List.range n).map fun(i:Nat)=>V.int (i:Int))) k (zH _) ?_,rfl,q _ (I.hok.fresh (zH _))⟩
 refine⟨by rw[zC,z9]; exact yQ (small1000 hn),acc.toList,c,?_,by simpa using e'⟩
 obtain⟨hsz,hit⟩:=it
 have gen:∀(l:List Value) (k:Nat),(∀ j v,l[j]?=some v→∃ t,v=Value.int ((k + j:Nat):Int) t)→Vals ((List.range' k l.length).map fun(i:Nat)=>V.int (i:Int)) l:=by
  intro l
  induction l with
  | nil=>intro k _; exact .nil
  | cons v l ih =>
   intro k hv
   rw[zS,List.range'_succ]
   refine .cons ?_ (ih (k + 1) fun j v hj=>?_)
   ·obtain⟨t,e⟩:=hv 0 v rfl
    exact⟨t,by simpa using e⟩
   ·obtain⟨t,e⟩:=hv (j + 1) v (by simpa using hj)
    exact⟨t,by rw[e]; congr 1; omega⟩
 have g:=gen acc.toList 0 fun j v hj=>by
  obtain⟨t,e⟩:=hit j v (by simpa using hj)
  exact⟨t,by rw[e]; congr 1; omega⟩
 rw[show acc.toList.length=n by simpa using hsz,← jG] at g
 exact g
end
end L2
namespace L2
open PySem PySem.Spec PyProof.Rows
section
variable {X:Cx} {K:PySem.W.Frag} {a b e o l:Expr} {es:List Expr} {ta tb te to tl:TE} {t:TA} {pos:Pos}
theorem ix_tupK (hK:X.K=K):IxR X (rIxT K):=by subst hK; exact ix_tup
theorem ix_listK (hK:X.K=K):IxR X (rIxL K):=by subst hK; exact ix_list
theorem pe_fldK {f:Str} (hK:X.K=K) (he:PE X e ta) (hb:attributeBase e f X.env (eval e X.env)=eval e X.env):PE X (.Attribute e f pos) (tFld K ta f):=by subst hK; exact pe_fld he hb
theorem pi_listK {tg:Expr} (hK:X.K=K) (hl:PE X l tl):PI X tg l (iList K tl):=by subst hK; exact pi_list hl
theorem pi_tupK {tg:Expr} (hK:X.K=K) (hl:PE X l tl):PI X tg l (iTup K tl):=by subst hK; exact pi_tup hl
theorem pe_slice3K {lo hi st:Option Expr} {tl th ts:TO} {p2:Pos} (hK:X.K=K) (he:PE X e te) (hl:PO X lo tl) (hu:PO X hi th) (hk:PO X st ts)
  (hsub:∀ o i,∃ ops,subscripted (.Slice lo hi st p2) false o i=operate ops (getItem o i):=by intro _ _; exact⟨_,by with_unfolding_all rfl⟩) :
  PE X (.Subscript e (.Slice lo hi st p2) pos) (tSl3 K te tl th ts):=by subst hK; exact pe_slice3 he hl hu hk hsub
theorem call_len_seqK (hK:X.K=K):CallR X (.builtin "len") (fun xs H Q=>∃ p ys,xs=[.ref p]∧(SqL K H p ys∨SqT K H p ys)∧Q (.int ys.length) H):=by subst hK; exact call_len_seq
theorem call_isiTK (hK:X.K=K):CallR X (.builtin "isinstance") (rIsiT K):=by subst hK; exact call_isiT
theorem call_list_ofK (hK:X.K=K):CallR X (.type "list") (fun xs H Q=>∃ p ys,xs=[.ref p]∧(SqL K H p ys∨SqT K H p ys)∧∀ l,H l=none→Q (.ref l) (upd H l (.lst ys))):=by subst hK; exact call_list_of
theorem op_eqDK (hK:X.K=K) (hu:X.A.units + 64 < cLine):OpR X (compareOp .Eq) (rEqD K):=by subst hK; exact op_eqD hu
theorem op_neDK (hK:X.K=K) (hu:X.A.units + 64 < cLine):OpR X (compareOp .NotEq) (rNeD K):=by subst hK; exact op_neD hu
theorem pg_tupK {k:Nat} {t:TGs} {n:Nat} (hK:X.K=K) (hc:X.calm=true) (h:PGs X es t)
  (hn:(assignEach es X.env).length=n:=by rfl) (hst:(assignEach es X.env).findIdx? (·.1)=none:=by rfl):PG X (.Tuple es k pos) (gTup K n t):=by subst hK; exact pg_tup hc h hn hst
end
end L2
namespace L2
open PySem PySem.Spec PyProof.Rows
abbrev Cell:=Addr × HO
def Hs (H:Hp) (M:List Cell):Prop:=(M.map Prod.fst).Nodup∧∀ p ∈ M,H p.1=some p.2
def Hc (H:Hp) (Ms:List (List Cell)):Prop:=Hs H Ms.flatten
theorem Hs.perm {H:Hp} {M N:List Cell} (h:Hs H M) (p:M.Perm N):Hs H N :=
 ⟨(p.map Prod.fst).nodup_iff.mp h.1,fun c hc=>h.2 c (p.mem_iff.mpr hc)⟩
theorem Hs.sub {H:Hp} {M N:List Cell} (h:Hs H M) (s:List.Sublist N M):Hs H N :=
 ⟨h.1.sublist (s.map Prod.fst),fun c hc=>h.2 c (s.subset hc)⟩
theorem Hc.get {H:Hp} {Ms:List (List Cell)} (h:Hc H Ms) (i j:Nat) {c:List Cell} {a:Addr} {o:HO} (hi:Ms[i]?=some c) (hj:c[j]?=some (a,o)):H a=some o :=
 h.2 (a,o) (List.mem_flatten.mpr ⟨c,zG hi,zG hj⟩)
theorem pick_perm {α:Type}:∀ {Ms:List (List α)} {i:Nat} {c:List α},Ms[i]?=some c→Ms.flatten.Perm (c++(Ms.eraseIdx i).flatten)
 | [],i,c,h=>by simp at h
 | d::Ms,0,c,h=>by simp at h; subst h; exact List.Perm.refl _
 | d::Ms,i + 1,c,h=>by
  have ih:=pick_perm (Ms:=Ms) (i:=i) (c:=c) (by simpa using h)
  rw[z7,j3,z7]
  refine(ih.append_left d).trans ?_
  rw[← yL,← yL]
  exact(jC).append_right _
theorem set_perm {α:Type}:∀ {Ms:List (List α)} {i:Nat} {c c':List α},Ms[i]?=some c→(Ms.set i c').flatten.Perm (c'++(Ms.eraseIdx i).flatten)
 | [],i,c,c',h=>by simp at h
 | d::Ms,0,c,c',h=>List.Perm.refl _
 | d::Ms,i + 1,c,c',h=>by
  have ih:=set_perm (Ms:=Ms) (i:=i) (c:=c) (c':=c') (by simpa using h)
  rw[List.set_cons_succ,z7,j3,z7]
  refine(ih.append_left d).trans ?_
  rw[← yL,← yL]
  exact(jC).append_right _
theorem Hc.pick {H:Hp} {Ms:List (List Cell)} (h:Hc H Ms) (i:Nat) {c:List Cell} (hi:Ms[i]?=some c):Hc H (c::Ms.eraseIdx i):=Hs.perm h (pick_perm hi)
theorem Hc.back {H:Hp} {Ms:List (List Cell)} {i:Nat} {c c':List Cell} (h:Hc H (c'::Ms.eraseIdx i)) (hi:Ms[i]?=some c):Hc H (Ms.set i c'):=Hs.perm h (set_perm hi).symm
theorem Hc.split {H:Hp} {a b:List Cell} {Ms:List (List Cell)} (h:Hc H ((a++b)::Ms)):Hc H (a::b::Ms):=by
 unfold Hc at h ⊢
 rw[z7,z7,← yL]
 exact h
theorem Hc.join {H:Hp} {a b:List Cell} {Ms:List (List Cell)} (h:Hc H (a::b::Ms)):Hc H ((a++b)::Ms):=by
 unfold Hc at h ⊢
 rw[z7,z7,← yL] at h
 exact h
theorem Hc.swap {H:Hp} {a b:List Cell} {Ms:List (List Cell)} (h:Hc H (a::b::Ms)):Hc H (b::a::Ms):=by
 refine Hs.perm h ?_
 rw[z7,z7,z7,z7,← yL,← yL]
 exact jC.append_right _
theorem Hc.tl {H:Hp} {c:List Cell} {Ms:List (List Cell)} (h:Hc H (c::Ms)):Hc H Ms:=by
 refine Hs.sub h ?_
 rw[z7]
 exact jX _ _
theorem Hc.same {H H':Hp} {Ms:List (List Cell)} (h:Hc H Ms) (s:Same H H'):Hc H' Ms:=⟨h.1,fun p hp=>s _ _ (h.2 p hp)⟩
theorem Hc.new {H:Hp} {Ms:List (List Cell)} (h:Hc H Ms) {p:Addr} (n:H p=none) (o:HO):Hc (upd H p o) ([(p,o)]::Ms):=by
 have ne:∀ c ∈ Ms.flatten,c.1 ≠ p:=fun c hc z=>by
  have e:=h.2 c hc
  rw[z,n] at e
  cases e
 refine⟨?_,fun c hc=>?_⟩
 ·show((p,o)::Ms.flatten |>.map Prod.fst).Nodup
  rw[yJ,yW]
  exact⟨fun z=>by obtain⟨c,hc,e⟩:=yB.mp z; exact ne c hc e,h.1⟩
 ·rcases zQ.mp (show c ∈ (p,o)::Ms.flatten from hc) with r|r
  ·rw[r]; exact upd_same
  ·rw[upd_ne (ne c r)]; exact h.2 c r
theorem Hc.newS {H H':Hp} {Ms:List (List Cell)} (h:Hc H Ms) {p:Addr} {o:HO} (n:H p=none) (e:H' p=some o) (s:Same H H'):Hc H' ([(p,o)]::Ms):=by
 have ne:∀ c ∈ Ms.flatten,c.1 ≠ p:=fun c hc z=>by
  have e:=h.2 c hc
  rw[z,n] at e
  cases e
 refine⟨?_,fun c hc=>?_⟩
 ·show((p,o)::Ms.flatten |>.map Prod.fst).Nodup
  rw[yJ,yW]
  exact⟨fun z=>by obtain⟨c,hc,e⟩:=yB.mp z; exact ne c hc e,h.1⟩
 ·rcases zQ.mp (show c ∈ (p,o)::Ms.flatten from hc) with r|r
  ·rw[r]; exact e
  ·exact s _ _ (h.2 c r)
theorem Hs.put {H:Hp} {A:List Cell} {a:Addr} {o o':HO} {B:List Cell} (h:Hs H (A++(a,o)::B)):Hs (upd H a o') (A++(a,o')::B):=by
 have ek:(A++(a,o')::B).map Prod.fst=(A++(a,o)::B).map Prod.fst:=by simp
 have nd:=h.1
 refine⟨by rw[ek]; exact nd,fun c hc=>?_⟩
 rw[zJ,yJ,List.nodup_append] at nd
 obtain⟨_,n2,n3⟩:=nd
 rw[yW] at n2
 rcases yA.mp hc with r|r
 ·have:c.1 ≠ a:=n3 c.1 (yB.mpr ⟨c,r,rfl⟩) a zL
  rw[upd_ne this]
  exact h.2 c (y2 _ r)
 ·rcases zQ.mp r with r|r
  ·rw[r]; exact upd_same
  ·have:c.1 ≠ a:=fun z=>n2.1 (z ▸ yB.mpr ⟨c,r,rfl⟩)
   rw[upd_ne this]
   exact h.2 c (zP _ (zI _ r))
theorem cut_at {α:Type}:∀ {l:List α} {j:Nat} {x:α},l[j]?=some x→∃ A B,l=A++x::B∧A.length=j
 | [],j,x,h=>by simp at h
 | y::l,0,x,h=>by simp at h; subst h; exact⟨[],l,rfl,rfl⟩
 | y::l,j + 1,x,h=>by
  obtain⟨A,B,e,n⟩:=cut_at (l:=l) (j:=j) (x:=x) (by simpa using h)
  exact⟨y::A,B,by rw[e]; rfl,by rw[zS,n]⟩
theorem set_cut {α:Type}:∀ {A B:List α} {x y:α},(A++x::B).set A.length y=A++y::B
 | [],_,_,_=>rfl
 | a::A,B,x,y=>by
  show a::(A++x::B).set A.length y=a::(A++y::B)
  rw[set_cut]
theorem Hc.put {H:Hp} {Ms:List (List Cell)} (h:Hc H Ms) (i j:Nat) {c:List Cell} {a:Addr} {o:HO} (hi:Ms[i]?=some c) (hj:c[j]?=some (a,o)) (o':HO):Hc (upd H a o') (Ms.set i (c.set j (a,o'))):=by
 obtain⟨A,B,e,n⟩:=cut_at hj
 subst e
 subst n
 rw[set_cut]
 refine Hc.back (c:=A++(a,o)::B) ?_ hi
 have h1:Hs H ((A++(a,o)::B)++(Ms.eraseIdx i).flatten):=h.pick i hi
 rw[yL,jP] at h1
 have h2:=h1.put (o':=o')
 show Hs (upd H a o') ((A++(a,o')::B)++(Ms.eraseIdx i).flatten)
 rw[yL,jP]
 exact h2
def rowsC (ls:List Addr) (os:List HO):List Cell:=ls.zip os
theorem rowsC_get {ls:List Addr} {os:List HO} {j:Nat} {l:Addr} {o:HO} (h1:ls[j]?=some l) (h2:os[j]?=some o):(rowsC ls os)[j]?=some (l,o):=by
 unfold rowsC
 rw[qP]
 exact⟨h1,h2⟩
theorem rowsC_set:∀ {ls:List Addr} {os:List HO} {j:Nat} {l:Addr} {o:HO},ls[j]?=some l→(rowsC ls os).set j (l,o)=rowsC ls (os.set j o)
 | [],_,_,_,_,h=>by simp at h
 | _::_,[],_,_,_,_=>by simp [rowsC]
 | a::ls,u::os,0,l,o,h=>by simp at h; subst h; rfl
 | a::ls,u::os,j + 1,l,o,h=>by
  show(a,u)::(rowsC ls os).set j (l,o)=(a,u)::rowsC ls (os.set j o)
  rw[rowsC_set (by simpa using h)]
theorem Hc.pad {H:Hp} {Ms:List (List Cell)} (h:Hc H Ms):Hc H ([]::Ms):=h
theorem map_set_same {α β:Type} {f:α→β} {l:List α} {j:Nat} {r r':α} (h:l[j]?=some r) (e:f r'=f r):(l.set j r').map f=l.map f:=by
 rw[qG,e]
 have:(l.map f)[j]?=some (f r):=by rw[zE,h]; rfl
 obtain⟨hj,he⟩:=zD.mp this
 rw[← he]
 exact List.set_getElem_self hj
end L2
namespace L2
open PySem PySem.Spec PyProof.Rows
theorem Keep.new' {L:List Addr} {H H':Hp} {q:Addr} {o:HO} (k:Keep L H H') (n:H' q=none):Keep L H (L2.upd H' q o):=fun b u e hb=>by
 have h:=k b u e hb
 rw[upd_ne (ne_of_none h n)]
 exact h
theorem Keep.free1 {H H':Hp} {p q:Addr} {u:HO} (k:Keep [p] H H') (hp:H' p=some u) (n:H' q=none):H q=none:=by
 cases e:H q with
 | none=>rfl
 | some o =>
  have:=k q o e (fun z=>by rw[zF.mp z,hp] at n; cases n)
  rw[n] at this
  cases this
section
variable {X:Cx}
theorem call_sumL (hc:X.calm=true):CallR X (.builtin "sum") (fun xs H Q=>∃(p:Addr) (ns:List Int),xs=[.ref p]∧SqL X.K H p (ns.map V.int)∧Q (.int ns.sum) H):=by
 intro pins s σ H xs us Q I r h
 obtain⟨p,ns,rfl,hq,q⟩:=h
 obtain⟨u,rfl,ru⟩:=vals1 r
 cases ru
 obtain⟨its,rv,pl,hz⟩:=I.list hq
 have hi:=intsAre_of rv
 obtain⟨ys,e⟩:=hi.allInts.items
 have hns:ns=ys.toList.map (·.1):=by
  rw[← hi.numsOf,← nums_intItems,← e]
 have hl:=pl.isList
 rw[e] at hl
 refine sum_intListG (I.ok.hd hc) hl fun h' tk t' hk=>?_
 refine⟨.int _,H,I.kept (t':=tk) hk,⟨t',?_⟩,q⟩
 rw[preSum_eq,q5 (by simp),hns]
end
end L2
namespace L2
open PySem PySem.Spec PyProof.Rows
inductive tMethU_ {ι:Type} (cls:ι→Addr) (m:Str) (sp:ι→Sp) (E:XK) (t:TA) (σ:St) (Q:VK) (x:V) (H1:Hp):Prop where
 | mk (a i dx fs:_) (h_0:x=.ref a) (h_1:H1 a=some (.ins (cls i) dx fs)) (h_2:fs.lookup m=none) (h_3:t σ H1 fun vs H2=>sp i (x::vs) H2 Q E):tMethU_ cls m sp E t σ Q x H1
def tMethU {ι:Type} (cls:ι→Addr) (m:Str) (sp:ι→Sp) (E:XK) (ta:TE) (t:TA):TE:=fun σ H Q=>ta σ H fun x H1=>tMethU_ cls m sp E t σ Q x H1
section
variable {X:Cx} {k:Nat} {ps:List Str} {ι:Type} {cls:ι→Addr} {sp:ι→Sp} {m:Str} {pos apos:Pos} {e o:Expr} {es:List Expr} {t:TA} {ta:TE}
theorem pe_mthU {pl:Sem Bool} (G:∀ i,MethAt X.prog X.w X.K X.mg X.base k (cls i) m ps (sp i)) (hr:Room k X.A) (he:PE X o ta) (ha:PA X (e::es) t)
  (hst:starEach (e::es) X.env=(false,eval e X.env)::starEach es X.env:=by rfl) (hpl:(backTo pos (starEach es X.env)).any (·.1)=false:=by rfl)
  (ht:eval (.Call (.Attribute o m apos) (e::es) [] pos) X.env=(do
   let ov ← eval o X.env
   standAt apos.atName
   let (f,first) ← holding [ov] (getMethod ov m pl)
   callWith pos f first (backTo pos (starEach (e::es) X.env)) (backToKw pos (keywordEach [] X.env))):=by rfl) :
  PE X (.Call (.Attribute o m apos) (e::es) [] pos) (tMethU cls m sp E0 ta t):=by
 intro pins s σ H Q I h
 refine PySem.W.methodCall_KW (pl:=pl) (thn (he pins s σ H _ I h) fun u s1 ⟨x,H1,I1,rx,a,i,dx,fs,ex,ea,l,q⟩=>?_) ht
 obtain⟨f,fd,F,hm,hb⟩:=(G i).ex
 subst ex
 obtain rfl:u=Value.ref a:=rx
 refine getmeth_ok I1 ea (G i).cls hm l ?_
 refine PySem.W.callWith_K (first:=[.ref a]) (h₀:=X.base) I.ok.mod.kin hm.kp (thn (ha pos pins s1 σ H1 _ I1 q) fun us s2 ⟨vs,H2,I2,r,q2⟩=>⟨I2.kIn,?_⟩) hst hpl
 exact run_fn (us:=.ref a::us) (vs:=.ref a::vs) (ds:=[]) (dvs:=[]) F hr hb .nil pass0 I2 (.cons rfl r) (by rw[yD]; exact q2)
end
section
variable {X:Cx} {K:PySem.W.Frag} {o e:Expr} {es:List Expr} {to:TE} {t:TA} {name:Str} {apos cpos:Pos} {T id:String} {r:V→List V→Hp→VK→Prop}
end
theorem MethAt.imp {P:Program} {w:World} {K:PySem.W.Frag} {mg:Str→Option Value} {base:Heap} {k:Nat} {C:Addr} {m:Str} {ps:List Str} {sp sp':Sp} (G:MethAt P w K mg base k C m ps sp) (h:∀ vs H Q E,sp' vs H Q E→sp vs H Q E):MethAt P w K mg base k C m ps sp':=by
 obtain⟨f,fd,F,hm,hb⟩:=G.ex
 exact⟨⟨f,fd,F.imp h,hm,hb⟩,G.cls⟩
theorem MethAt.mono {P:Program} {w:World} {K:PySem.W.Frag} {mg:Str→Option Value} {base:Heap} {j k:Nat} {C:Addr} {m:Str} {ps:List Str} {sp:Sp} (G:MethAt P w K mg base j C m ps sp) (h:j≤k):MethAt P w K mg base k C m ps sp:=by
 obtain⟨f,fd,F,hm,hb⟩:=G.ex
 exact⟨⟨f,fd,F.mono h,hm,hb⟩,G.cls⟩
end L2
namespace L2
open PySem PySem.Spec PyProof.Rows
section
variable {X:Cx} {pins:List (Addr × Obj)} {σ:St} {H:Hp} {s:Shared} {d:Addr}
end
section
variable {X:Cx} {l tg:Expr} {td:TE} {g:TG} {tb:TS} {apos cpos pos:Pos} {body:List Stmt}
end
end L2
namespace L2
open PySem PySem.Spec PyProof.Rows
structure SrtS where
 arr:Array Keyed
 kf:Nat→Int
 kd:SortKind
structure SBk (a₀:SrtS) (st:SortSt):Prop where
 perm:(arrOf st).Perm a₀.arr
 kind:kindOf st=a₀.kd
 failed:failedOf st=none
 pend:pendingOf st=#[]
theorem SBk.size {a₀:SrtS} {st:SortSt} (h:SBk a₀ st):(arrOf st).size=a₀.arr.size:=h.perm.size_eq
theorem SBk.setArr {a₀:SrtS} {st:SortSt} (h:SBk a₀ st) {xs:Array Keyed} (hp:xs.Perm (arrOf st)):SBk a₀ (PyProof.Rows.setArr st xs):=⟨hp.trans h.perm,h.kind,h.failed,h.pend⟩
def intS (a:Array Keyed):SrtS:=⟨a,PyProof.Rows.K a,oneType'⟩
section
variable (a₀:SrtS)
def kAt (p:Nat):Int:=a₀.kf p
def lexP (p q:Nat):Prop:=kAt a₀ p < kAt a₀ q∨(kAt a₀ p=kAt a₀ q∧p < q)
structure Gh (st:SortSt) (g:Array Nat):Prop where
 base:SBk a₀ st
 size:g.size=a₀.arr.size
 at':∀ k:Nat,(arrOf st)[k]?=(g[k]?).bind fun(p:Nat)=>a₀.arr[p]?
 perm:g.toList.Perm (List.range a₀.arr.size)
def gAt (g:Array Nat) (k:Nat):Nat:=(g[k]?).getD 0
def SortedL (g:Array Nat) (n:Nat):Prop:=∀ i j,i < j→j < n→lexP a₀ (gAt g i) (gAt g j)
def DescL (g:Array Nat) (n:Nat):Prop:=∀ i j,i < j→j < n→lexP a₀ (gAt g j) (gAt g i)
structure Rest (g:Array Nat) (n:Nat):Prop where
 low:∀ k,k < n→gAt g k < n
 same:∀ k,n≤k→k < a₀.arr.size→gAt g k=k
end
section
variable {a₀:SrtS} {st:SortSt} {g:Array Nat}
theorem gAt_mem {a₀:SrtS} {st:SortSt} {g:Array Nat} (G:Gh a₀ st g) {i:Nat} (hi:i < a₀.arr.size):gAt g i < a₀.arr.size:=by
 have hg:i < g.size:=by rw[G.size]; exact hi
 have:gAt g i ∈ g.toList:=by rw[gAt,yZ hg]; simp
 exact yC.mp (G.perm.mem_iff.mp this)
theorem size_swapIB {α:Type} (xs:Array α) (i j:Nat):(xs.swapIfInBounds i j).size=xs.size:=Array.size_swapIfInBounds
theorem bind_swap {xs:Array Keyed} {g:Array Nat} (hs:xs.size=g.size) (h:∀ k:Nat,xs[k]?=(g[k]?).bind fun(p:Nat)=>a₀.arr[p]?) (i j:Nat):∀ k:Nat,(xs.swapIfInBounds i j)[k]?=((g.swapIfInBounds i j)[k]?).bind fun(p:Nat)=>a₀.arr[p]?:=fun k=>by
 by_cases hi:i < xs.size
 ·by_cases hj:j < xs.size
  ·rw[getElem?_swapIB hi hj,getElem?_swapIB (by omega) (by omega)]
   split
   ·exact h i
   ·split
    ·exact h j
    ·exact h k
  ·rw[qF,qF,dif_pos hi,dif_pos (by omega:i < g.size),dif_neg hj,dif_neg (by omega)]
   exact h k
 ·rw[qF,qF,dif_neg hi,dif_neg (by omega)]
  exact h k
theorem bind_swaps {β:Type} (p q:β→Nat):∀(l:List β) (xs:Array Keyed) (g:Array Nat),xs.size=g.size→(∀ k:Nat,xs[k]?=(g[k]?).bind fun(p:Nat)=>a₀.arr[p]?) →
  ∀ k:Nat,(l.foldl (fun a k=>a.swapIfInBounds (p k) (q k)) xs)[k]?=((l.foldl (fun a k=>a.swapIfInBounds (p k) (q k)) g)[k]?).bind fun(p:Nat)=>a₀.arr[p]?
 | [],_,_,_,h=>h
 | x::l,xs,g,hs,h=>bind_swaps p q l _ _ (by rw[size_swapIB,size_swapIB]; exact hs) (bind_swap hs h (p x) (q x))
theorem Gh.mirror (G:Gh a₀ st g) (i j d:Nat):Gh a₀ (setArr st (mirror (arrOf st) i j d)) (mirror g i j d) :=
 ⟨G.base.setArr (mirror_perm _ _ _ _),by rw[mirror_size]; exact G.size,bind_swaps _ _ _ _ _ (by rw[G.base.size,G.size]) G.at',(jW.mp (mirror_perm g i j d)).trans G.perm⟩
theorem Gh.bubble (G:Gh a₀ st g) (src d:Nat):Gh a₀ (setArr st (bubble (arrOf st) src d)) (bubble g src d) :=
 ⟨G.base.setArr (bubble_perm _ _ _),by rw[bubble_size]; exact G.size,bind_swaps _ _ _ _ _ (by rw[G.base.size,G.size]) G.at',(jW.mp (bubble_perm g src d)).trans G.perm⟩
theorem gAt_mirror {g:Array Nat} {i j:Nat} (hj:j≤g.size) (k:Nat):gAt (mirror g i j ((j - i) / 2)) k=if i≤k∧k < j then gAt g (i + j - 1 - k) else gAt g k:=by
 unfold gAt
 rw[getElem?_mirror_all hj]
 split <;> rfl
theorem gAt_bubble {g:Array Nat} {src d:Nat} (hs:src < g.size) (hd:d≤src) (k:Nat):gAt (bubble g src d) k=if k=src - d then gAt g src else if src - d < k∧k≤src then gAt g (k - 1) else gAt g k:=by
 unfold gAt
 rw[getElem?_bubble hs d hd]
 split
 ·rfl
 ·split <;> rfl
theorem Rest.mirror {g:Array Nat} {n i j:Nat} (R:Rest a₀ g n) (hj:j≤n) (hn:j≤g.size):Rest a₀ (mirror g i j ((j - i) / 2)) n:=by
 refine⟨fun k hk=>?_,fun k h1 h2=>?_⟩
 ·rw[gAt_mirror hn]
  split
  ·exact R.low _ (by omega)
  ·exact R.low _ hk
 ·rw[gAt_mirror hn,if_neg (by omega)]
  exact R.same k h1 h2
end
section
variable {prog:Program} {w:World} {A:Around} {E:Value→Shared→Prop} {s:Shared} {a₀:SrtS}
def LtOk (prog:Program) (w:World) (A:Around) (E:Value→Shared→Prop) (s:Shared) (a₀:SrtS):Prop:=∀ {st:SortSt} {g:Array Nat} {i j:Nat} {Q:Option Bool→SortSt→Prop},Gh a₀ st g→i < a₀.arr.size→j < a₀.arr.size→Q (some (decide (kAt a₀ (gAt g i) < kAt a₀ (gAt g j)))) st→wpS (model prog w) A E s (ltAt' i j) Q st
theorem wpS_ltG {st:SortSt} {g:Array Nat} {i j:Nat} {Q:Option Bool→SortSt→Prop} (G:Gh a₀ st g) (h0:LtOk prog w A E s a₀) (hi:i < a₀.arr.size) (hj:j < a₀.arr.size) (h:Q (some (decide (kAt a₀ (gAt g i) < kAt a₀ (gAt g j)))) st) :
  wpS (model prog w) A E s (ltAt' i j) Q st:=h0 G hi hj h
theorem intS_lt {a:Array Keyed} (h0:IntKeys a):LtOk prog w A E s (intS a):=fun {st g i j Q} G hi hj h=>by
 have k:∀ {i:Nat},i < a.size→PyProof.Rows.K (arrOf st) i=kAt (intS a) (gAt g i):=fun {i} hi=>by
  have hg:i < g.size:=by rw[G.size]; exact hi
  refine K_congr ?_
  rw[G.at' i,gAt,yZ hg]
  rfl
 refine wpS_ltK (a₀:=a) ⟨G.base.perm,G.base.kind,G.base.failed,G.base.pend⟩ h0 hi hj ?_
 rw[k hi,k hj]
 exact h
theorem wpS_ascG {st:SortSt} {g:Array Nat} {a nrem:Nat} {Q:AscSt→SortSt→Prop} (h0:LtOk prog w A E s a₀) (hn:nrem≤a₀.arr.size) (ha:1≤a) (han:a≤nrem) (G:Gh a₀ st g) (hs:SortedL a₀ g a) (hr:Rest a₀ g a)
  (h:∀ n,a≤n→n≤nrem→SortedL a₀ g n→Rest a₀ g n→(n=nrem∨kAt a₀ (gAt g n) < kAt a₀ (gAt g (n - 1)))→Q (none,n) st):wpS (model prog w) A E s (ascLoop a nrem) Q st:=by
 unfold ascLoop
 refine wpS_forRange (I:=fun x c st'=>st'=st∧c=(none,x)∧SortedL a₀ g x∧Rest a₀ g x) ?step ?fin ⟨rfl,rfl,hs,hr⟩
 case fin =>
  rintro c st' ⟨rfl,rfl,hs',hr'⟩
  rw[show max a nrem=nrem by omega] at hs' hr' ⊢
  exact h nrem han (zH _) hs' hr' (.inl rfl)
 case step =>
  rintro x c st' hax hxn ⟨rfl,rfl,hs',hr'⟩
  dsimp only
  refine wpS_bind (wpS_ltG G h0 (by omega) (by omega) ?_)
  by_cases hless:kAt a₀ (gAt g x) < kAt a₀ (gAt g (x - 1))
  ·simp only [hless,decide_true,if_true]
   exact wpS_pure (h x hax (by omega) hs' hr' (.inr hless))
  ·simp only [hless,decide_false,zY,if_false]
   have ex:=hr'.same x (zH _) (by omega)
   refine wpS_pure ⟨rfl,rfl,fun i j hij hj=>?_,⟨fun k hk=>?_,fun k h1 h2=>hr'.same k (by omega) h2⟩⟩
   ·by_cases hjx:j < x
    ·exact hs' i j hij hjx
    ·have hj':j=x:=by omega
     subst hj'
     have li:=hr'.low i hij
     by_cases hi':i=j - 1
     ·subst hi'
      unfold lexP
      rw[ex] at hless ⊢
      omega
     ·have l1:=hs' i (j - 1) (by omega) (by omega)
      unfold lexP at l1 ⊢
      rw[ex] at hless ⊢
      omega
   ·by_cases hkx:k < x
    ·have:=hr'.low k hkx; omega
    ·have:k=x:=by omega
     subst this
     omega
theorem wpS_tail3G {st:SortSt} {g:Array Nat} {n nrem:Nat} {Q:Option Nat→SortSt→Prop} (h0:LtOk prog w A E s a₀) (hn:nrem≤a₀.arr.size) (h1:1≤n) (hnn:n≤nrem) (G:Gh a₀ st g) (hs:DescL a₀ g n) (hr:Rest a₀ g n)
  (h:∀ m st' g',Gh a₀ st' g'→1≤m→m≤nrem→SortedL a₀ g' m→Rest a₀ g' m→Q (some m) st'):wpS (model prog w) A E s (tail3 n nrem) Q st:=by
 unfold tail3
 have hsz:n≤g.size:=by rw[G.size]; omega
 refine wpS_bind (wpS_reverse ?_)
 have G':=G.mirror 0 n ((n - 0) / 2)
 refine wpS_bind (wpS_ascG h0 hn h1 hnn G' ?_ (hr.mirror (zH _) hsz) fun m hm1 hm2 hsm hrm _=>wpS_pure (h m _ _ G' (by omega) hm2 hsm hrm))
 intro i j hij hj
 rw[gAt_mirror hsz,gAt_mirror hsz,if_pos (by omega),if_pos (by omega)]
 exact hs _ _ (by omega) (by omega)
structure Fall (a₀:SrtS) (g:Array Nat) (x neq:Nat):Prop where
 le:neq + 1≤x
 d:DescL a₀ g (x - (neq + 1))
 lt:∀ i,i < x - (neq + 1)→kAt a₀ (gAt g (x - 1)) < kAt a₀ (gAt g i)
 eq:∀ i,x - (neq + 1)≤i→i < x→kAt a₀ (gAt g i)=kAt a₀ (gAt g (x - 1))
 up:∀ i j,x - (neq + 1)≤i→i < j→j < x→gAt g i < gAt g j
theorem Fall.turn {g:Array Nat} {x neq:Nat} (F:Fall a₀ g x neq) (hx:x≤g.size):DescL a₀ (mirror g (x - (neq + 1)) x ((x - (x - (neq + 1))) / 2)) x:=by
 obtain⟨hl,fd,flt,feq,fup⟩:=F
 have hbx:x - (neq + 1)≤x:=Nat.sub_le _ _
 clear hl
 generalize x - (neq + 1)=b at *
 intro i j hij hj
 have inn:∀ t,b≤t→t < x→b≤b + x - 1 - t∧b + x - 1 - t < x:=fun t h1 h2=>by omega
 rw[gAt_mirror hx,gAt_mirror hx]
 by_cases hi:b≤i
 ·have hi2:=j7 hij hj
  have hj2:=yQ (y7 hi hij)
  have mv:b + x - 1 - j < b + x - 1 - i:=by omega
  rw[if_pos ⟨hj2,hj⟩,if_pos ⟨hi,hi2⟩]
  have e1:=feq _ (inn j hj2 hj).1 (inn j hj2 hj).2
  have e2:=feq _ (inn i hi hi2).1 (inn i hi hi2).2
  exact .inr ⟨e1.trans e2.symm,fup _ _ (inn j hj2 hj).1 mv (inn i hi hi2).2⟩
 ·rw[if_neg (show ¬ (b≤i∧i < x) from fun z=>hi z.1)]
  by_cases hjb:b≤j
  ·rw[if_pos ⟨hjb,hj⟩]
   have e1:=feq _ (inn j hjb hj).1 (inn j hjb hj).2
   have l1:=flt i (Nat.not_le.mp hi)
   exact .inl (by rw[e1]; exact l1)
  ·rw[if_neg (show ¬ (b≤j∧j < x) from fun z=>hjb z.1)]
   exact fd i j hij (Nat.not_le.mp hjb)
theorem Fall.whole {g:Array Nat} {x:Nat} (F:Fall a₀ g x 0):DescL a₀ g x:=by
 intro i j hij hj
 by_cases hjb:j < x - 1
 ·exact F.d i j hij hjb
 ·have:j=x - 1:=by omega
  subst this
  exact .inl (F.lt i (by omega))
theorem Fall.next {g:Array Nat} {x:Nat} (hd:DescL a₀ g x) (hx:1≤x) (hl:kAt a₀ (gAt g x) < kAt a₀ (gAt g (x - 1))):Fall a₀ g (x + 1) 0:=by
 refine⟨by omega,?_,fun i hi=>?_,fun i h1 h2=>?_,fun i j h1 h2 h3=>by omega⟩
 ·rw[show x + 1 - (0 + 1)=x by omega]
  exact hd
 ·rw[show x + 1 - 1=x by omega]
  by_cases hi':i=x - 1
  ·rw[hi']; exact hl
  ·have:=hd i (x - 1) (by omega) (by omega)
   unfold lexP at this
   omega
 ·rw[show x + 1 - 1=i by omega]
theorem wpS_descG {st:SortSt} {g:Array Nat} {n nrem:Nat} {Q:DescSt→SortSt→Prop} (h0:LtOk prog w A E s a₀) (hn:nrem≤a₀.arr.size) (hnn:n≤nrem) (G:Gh a₀ st g) (hf:Fall a₀ g n 0) (hr:Rest a₀ g n)
  (h:∀ m neq st' g',Gh a₀ st' g'→n≤m→m≤nrem→Fall a₀ g' m neq→Rest a₀ g' m→Q (none,m,neq) st'):wpS (model prog w) A E s (descLoop n nrem) Q st:=by
 unfold descLoop
 refine wpS_forRange (I:=fun x c st'=>∃ neq g',c=(none,x,neq)∧Gh a₀ st' g'∧Fall a₀ g' x neq∧Rest a₀ g' x) ?step ?fin ⟨0,g,rfl,G,hf,hr⟩
 case fin =>
  rintro c st' ⟨neq,g',rfl,G',hf',hr'⟩
  rw[Nat.max_eq_right hnn] at hf' hr' ⊢
  exact h nrem neq st' g' G' hnn (zH _) hf' hr'
 case step =>
  rintro x c st' hax hxn ⟨neq,g',rfl,G',hf',hr'⟩
  dsimp only
  have hx1:1≤x:=z4 (Nat.le_add_left 1 neq) hf'.le
  have hxs:x < a₀.arr.size:=zO hxn hn
  have hxp:x - 1 < a₀.arr.size:=y7 (Nat.sub_le _ _) hxs
  have hsz:x≤g'.size:=by rw[G'.size]; exact yQ hxs
  have ex:=hr'.same x (zH _) hxs
  have rest1:∀ g2:Array Nat,Rest a₀ g2 x→Rest a₀ g2 (x + 1):=fun g2 R=>⟨fun k hk=>by
   by_cases hkx:k < x
   ·have:=R.low k hkx; omega
   ·have e:k=x:=by omega
    rw[e,R.same x (zH _) hxs]; omega,fun k h1 h2=>R.same k (by omega) h2⟩
  refine wpS_bind (wpS_ltG G' h0 hxs hxp ?_)
  by_cases hless:kAt a₀ (gAt g' x) < kAt a₀ (gAt g' (x - 1))
  ·simp only [hless,decide_true,if_true]
   by_cases hneq:neq > 0
   ·rw[if_pos hneq]
    have hd:=hf'.turn hsz
    have R2:=hr'.mirror (i:=x - (neq + 1)) (zH _) hsz
    refine wpS_bind (wpS_reverse (wpS_pure ⟨0,_,rfl,G'.mirror _ _ _,Fall.next hd hx1 ?_,rest1 _ R2⟩))
    rw[gAt_mirror hsz,gAt_mirror hsz,if_neg (by omega),if_pos (by have:=hf'.le; omega)]
    have e1:=hf'.eq (x - (neq + 1) + x - 1 - (x - 1)) (by have:=hf'.le; omega) (by have:=hf'.le; omega)
    rw[e1]
    exact hless
   ·rw[if_neg hneq]
    have e0:neq=0:=Nat.eq_zero_of_not_pos hneq
    subst e0
    exact wpS_pure ⟨0,g',rfl,G',Fall.next hf'.whole hx1 hless,rest1 _ hr'⟩
  ·simp only [hless,decide_false,zY,if_false]
   refine wpS_bind (wpS_ltG G' h0 hxp hxs ?_)
   by_cases hlarger:kAt a₀ (gAt g' (x - 1)) < kAt a₀ (gAt g' x)
   ·simp only [hlarger,decide_true,if_true]
    exact wpS_pure (h x neq st' g' G' hax (yQ hxn) hf' hr')
   ·simp only [hlarger,decide_false,zY,if_false]
    have heq:kAt a₀ (gAt g' x)=kAt a₀ (gAt g' (x - 1)):=by omega
    have hl:=hf'.le
    refine wpS_pure ⟨neq + 1,g',rfl,G',⟨by omega,?_,fun i hi=>?_,fun i h1 h2=>?_,fun i j h1 h2 h3=>?_⟩,rest1 _ hr'⟩
    ·rw[show x + 1 - (neq + 1 + 1)=x - (neq + 1) by omega]
     exact hf'.d
    ·rw[show x + 1 - 1=x by omega,heq]
     exact hf'.lt i (by omega)
    ·rw[show x + 1 - 1=x by omega]
     by_cases hix:i=x
     ·rw[hix]
     ·rw[heq]; exact hf'.eq i (by omega) (by omega)
    ·by_cases hjx:j=x
     ·rw[hjx,ex]
      exact hr'.low i (by omega)
     ·exact hf'.up i j (by omega) h2 (by omega)
theorem wpS_descPartG {st:SortSt} {g:Array Nat} {n nrem:Nat} {Q:Option Nat→SortSt→Prop} (h0:LtOk prog w A E s a₀) (hn:nrem≤a₀.arr.size) (hnn:n + 1≤nrem) (G:Gh a₀ st g) (hf:Fall a₀ g (n + 1) 0) (hr:Rest a₀ g (n + 1))
  (h:∀ m st' g',Gh a₀ st' g'→1≤m→m≤nrem→SortedL a₀ g' m→Rest a₀ g' m→Q (some m) st'):wpS (model prog w) A E s (descPart n nrem) Q st:=by
 unfold descPart
 refine wpS_bind (wpS_lift (wpAny_rule ⟨rfl,?_⟩))
 refine wpS_bind (wpS_descG h0 hn hnn G hf hr fun m neq st' g' G' hm1 hm2 hf' hr'=>?_)
 dsimp only
 have hsz:m≤g'.size:=by rw[G'.size]; omega
 by_cases hneq:neq > 0
 ·rw[if_pos hneq]
  exact wpS_bind (wpS_reverse (wpS_tail3G h0 hn (by omega) hm2 (G'.mirror _ _ _) (hf'.turn hsz) (hr'.mirror (zH _) hsz) h))
 ·rw[if_neg hneq]
  have e0:neq=0:=by omega
  subst e0
  exact wpS_tail3G h0 hn (by omega) hm2 G' hf'.whole hr' h
theorem gAt_range {n k:Nat} (h:k < n):gAt (Array.range n) k=k:=by
 unfold gAt
 simp [h]
theorem wpS_countG {st:SortSt} {nrem:Nat} {Q:Option Nat→SortSt→Prop} (h0:LtOk prog w A E s a₀) (hn:nrem=a₀.arr.size) (h1:1≤nrem) (G:Gh a₀ st (Array.range a₀.arr.size))
  (h:∀ m st' g',Gh a₀ st' g'→1≤m→m≤nrem→SortedL a₀ g' m→Rest a₀ g' m→Q (some m) st'):wpS (model prog w) A E s (countRun' 0 nrem) Q st:=by
 rw[countRun0_eq]
 have R:∀ n,n≤a₀.arr.size→Rest a₀ (Array.range a₀.arr.size) n:=fun n hn'=>⟨fun k hk=>by rw[gAt_range (zO hk hn')]; exact hk,fun k h1 h2=>gAt_range h2⟩
 refine wpS_bind (wpS_ascG h0 (qZ hn) (zH 1) h1 G (fun i j hij hj=>absurd (zO hij (qQ hj)) (q9 _)) (R 1 (hn ▸ h1)) fun n hn1 hn2 hsn hrn hor=>?_)
 dsimp only
 by_cases hnn:n=nrem
 ·rw[if_pos (by simpa using hnn)]
  exact wpS_pure (h n st _ G hn1 hn2 hsn hrn)
 ·rw[if_neg (by simpa using hnn)]
  have hlt:=hor.resolve_left hnn
  by_cases hgt:n > 1
  ·rw[if_pos hgt]
   refine wpS_bind (wpS_ltG G h0 (by omega) (by omega) ?_)
   by_cases hrose:kAt a₀ (gAt (Array.range a₀.arr.size) 0) < kAt a₀ (gAt (Array.range a₀.arr.size) (n - 1))
   ·simp only [hrose,decide_true,if_true]
    exact wpS_pure (h n st _ G hn1 hn2 hsn hrn)
   ·simp only [hrose,decide_false,zY,if_false]
    have hsz:n≤(Array.range a₀.arr.size).size:=by rw[G.size,← hn]; exact hn2
    have ez:n - (n - 1 + 1)=0:=by omega
    have hf:Fall a₀ (Array.range a₀.arr.size) n (n - 1):=by
     refine⟨by omega,fun i j hij hj=>absurd (ez ▸ hj:j < 0) (q9 _),fun i hi=>absurd (ez ▸ hi:i < 0) (q9 _),fun i h1 h2=>?_,fun i j h1 h2 h3=>?_⟩
     ·by_cases hi0:i=0
      ·subst hi0
       by_cases e:(0:Nat)=n - 1
       ·rw[← e]
       ·have:=hsn 0 (n - 1) (by omega) (by omega)
        unfold lexP at this
        omega
      ·have a1:=hsn 0 i (by omega) h2
       by_cases e:i=n - 1
       ·rw[e]
       ·have a2:=hsn i (n - 1) (by omega) (by omega)
        unfold lexP at a1 a2
        omega
     ·rw[gAt_range (by omega),gAt_range (by omega)]
      exact h2
    have hd:=hf.turn hsz
    rw[ez] at hd
    have hrm:=(R n (hn ▸ hn2)).mirror (i:=0) (zH _) hsz
    refine wpS_bind (wpS_reverse (wpS_descPartG h0 (by omega) (by omega) (G.mirror _ _ _) (Fall.next hd (by omega) ?_) ?_ h))
    ·rw[gAt_mirror hsz,gAt_mirror hsz,if_neg (by omega),if_pos (by omega),show 0 + n - 1 - (n - 1)=0 by omega]
     have e0:=hf.eq 0 (by omega) (by omega)
     rw[e0]
     exact hlt
    ·exact⟨fun k hk=>by
      by_cases hkn:k < n
      ·have:=hrm.low k hkn; omega
      ·have e:k=n:=by omega
       rw[e,hrm.same n (zH _) (by omega)]; omega,fun k h1 h2=>hrm.same k (by omega) h2⟩
  ·rw[if_neg hgt]
   have hn1':n=1:=by omega
   subst hn1'
   exact wpS_descPartG h0 (by omega) (by omega) G (Fall.next (fun i j hij hj=>absurd (zO hij (qQ hj)) (q9 _)) (zH _) hlt) (R 2 (by omega)) h
theorem wpS_binG {st:SortSt} {g:Array Nat} {n ok:Nat} {Q:Bool→SortSt→Prop} (h0:LtOk prog w A E s a₀) (hn:n=a₀.arr.size) (hok:ok≤n) (hok1:1≤ok) (G:Gh a₀ st g) (hs:SortedL a₀ g ok) (hr:Rest a₀ g ok)
  (h:∀ st' g',Gh a₀ st' g'→SortedL a₀ g' n→Q true st'):wpS (model prog w) A E s (binarySort' 0 n ok) Q st:=by
 rw[binarySort'_eq]
 simp only [qY]
 refine wpS_bind (wpS_mono (wpS_forRange (I:=fun k c st'=>c=(none,())∧∃ g',Gh a₀ st' g'∧SortedL a₀ g' k∧Rest a₀ g' k)
  (Q:=fun c st'=>c=(none,())∧∃ g',Gh a₀ st' g'∧SortedL a₀ g' n) ?step ?fin ?init) ?post)
 case post =>
  rintro c st' ⟨rfl,g',G',hs'⟩
  exact wpS_pure (h st' g' G' hs')
 case init =>
  rw[Nat.max_eq_left hok1]
  exact⟨rfl,g,G,hs,hr⟩
 case fin =>
  rintro c st' ⟨hc,g',G',hs',_⟩
  rw[Nat.max_eq_left hok1,Nat.max_eq_right hok] at hs'
  exact⟨hc,g',G',hs'⟩
 case step =>
  rintro k c st' hak hkn ⟨rfl,g',G',hs',hr'⟩
  have hk:k < a₀.arr.size:=by omega
  have ek:=hr'.same k (zH _) hk
  refine wpS_bind (wpS_mono (wpS_forRange (I:=fun x c st''=>st''=st'∧∃ l r,c=(none,l,r)∧l≤r∧r≤k∧r - l≤k - x ∧
    (∀ i,i < l→kAt a₀ (gAt g' i)≤kAt a₀ (gAt g' k))∧(∀ i,r≤i→i < k→kAt a₀ (gAt g' k) < kAt a₀ (gAt g' i)))
   (Q:=fun c st''=>st''=st'∧∃ l r,c=(none,l,r)∧l≤k ∧
    (∀ i,i < l→kAt a₀ (gAt g' i)≤kAt a₀ (gAt g' k))∧(∀ i,l≤i→i < k→kAt a₀ (gAt g' k) < kAt a₀ (gAt g' i))) ?istep ?ifin ?iinit) ?ipost)
  case iinit=>exact⟨rfl,0,k,rfl,by omega,by omega,by omega,fun i hi=>by omega,fun i h1 h2=>by omega⟩
  case ifin =>
   rintro c st'' ⟨rfl,l,r,rfl,hlr,hrk,hm,hlo,hhi⟩
   have:l=r:=by omega
   subst this
   exact⟨rfl,l,l,rfl,hrk,hlo,hhi⟩
  case istep =>
   rintro x c st'' _ hxk ⟨rfl,l,r,rfl,hlr,hrk,hm,hlo,hhi⟩
   dsimp only
   have mono:∀ i j,i≤j→j < k→kAt a₀ (gAt g' i)≤kAt a₀ (gAt g' j):=fun i j hij hj=>by
    by_cases e:i=j
    ·rw[e]; exact qJ _
    ·have:=hs' i j (by omega) hj
     unfold lexP at this
     omega
   by_cases hge:l ≥ r
   ·rw[if_pos hge]
    have:l=r:=by omega
    subst this
    exact wpS_pure ⟨rfl,l,l,rfl,hrk,hlo,hhi⟩
   ·rw[if_neg hge]
    have m1:l≤(l + r) / 2:=by omega
    have m2:(l + r) / 2 < r:=by omega
    generalize (l + r) / 2=md at m1 m2 ⊢
    have mk:md < k:=zO m2 hrk
    refine wpS_bind (wpS_ltG G' h0 hk (j7 mk hk) ?_)
    by_cases hless:kAt a₀ (gAt g' k) < kAt a₀ (gAt g' md)
    ·simp only [hless,decide_true,if_true]
     refine wpS_pure ⟨rfl,l,md,rfl,m1,yQ mk,Nat.le_pred_of_lt (zO (Nat.sub_lt_sub_right m1 m2) hm),hlo,fun i h1 h2=>?_⟩
     exact Int.lt_of_lt_of_le hless (mono _ _ h1 h2)
    ·simp only [hless,decide_false,zY,if_false]
     refine wpS_pure ⟨rfl,md + 1,r,rfl,m2,hrk,Nat.sub_le_sub_right (z4 (Nat.sub_le_sub_left m1 r) hm) 1,fun i h1=>?_,hhi⟩
     exact Int.le_trans (mono i md (qQ h1) mk) (Int.not_lt.mp hless)
  case ipost =>
   rintro c st'' ⟨rfl,l,r,rfl,hlk,hlo,hhi⟩
   show wpS _ _ _ _ (do moveDown' k l; pure (ForInStep.yield (none,()))) _ _
   rw[moveDown'_eq]
   have hks:k < g'.size:=by rw[G'.size]; exact hk
   have hkd:k - l≤k:=Nat.sub_le _ _
   have hkl:k - (k - l)=l:=Nat.sub_sub_self hlk
   refine wpS_bind (wpS_modify (wpS_pure ⟨rfl,bubble g' k (k - l),G'.bubble k (k - l),fun i j hij hj=>?_,⟨fun i hi=>?_,fun i h1 h2=>?_⟩⟩))
   ·rw[gAt_bubble hks hkd,gAt_bubble hks hkd,hkl]
    by_cases hil:i=l
    ·rw[if_pos hil,if_neg (j5 (hil ▸ hij)),if_pos ⟨hil ▸ hij,qQ hj⟩]
     exact .inl (hhi (j - 1) (Nat.le_pred_of_lt (hil ▸ hij)) (by omega))
    ·rw[if_neg hil]
     by_cases hil2:i < l
     ·rw[if_neg (by omega)]
      by_cases hjl:j=l
      ·rw[if_pos hjl]
       have a1:=hlo i hil2
       have a2:=hr'.low i (by omega)
       unfold lexP
       rw[ek] at a1 ⊢
       omega
      ·rw[if_neg hjl]
       by_cases hjl2:l < j
       ·rw[if_pos (by omega)]
        exact hs' i (j - 1) (by omega) (by omega)
       ·rw[if_neg (by omega)]
        exact hs' i j hij (by omega)
     ·rw[if_pos (by omega),if_neg (by omega),if_pos (by omega)]
      exact hs' (i - 1) (j - 1) (by omega) (by omega)
   ·rw[gAt_bubble hks hkd,hkl]
    split
    ·omega
    ·split
     ·have:=hr'.low (i - 1) (by omega); omega
     ·have:=hr'.low i (by omega); omega
   ·rw[gAt_bubble hks hkd,hkl,if_neg (by omega),if_neg (by omega)]
    exact hr'.same i (by omega) h2
theorem wpS_sortG {st:SortSt} {Q:Unit→SortSt→Prop} (h0:LtOk prog w A E s a₀) (hB:SBk a₀ st) (he:arrOf st=a₀.arr) (h2:2≤a₀.arr.size) (h64:a₀.arr.size < 64)
  (h:∀ st' g,(arrOf st').Perm a₀.arr→failedOf st'=none→(∀ k:Nat,(arrOf st')[k]?=((g:Array Nat)[k]?).bind fun(p:Nat)=>a₀.arr[p]?)→g.toList.Perm (List.range a₀.arr.size)→SortedL a₀ g a₀.arr.size→Q () st'):wpS (model prog w) A E s sortRuns' Q st:=by
 have G0:Gh a₀ st (Array.range a₀.arr.size):=⟨hB,by simp,fun k=>by
  rw[he]
  by_cases hk:k < a₀.arr.size
  ·have e:(Array.range a₀.arr.size)[k]?=some k:=by simp [hk]
   rw[e]
   rfl
  ·rw[yP (by omega),yP (by simpa using hk)]
   rfl,by rw[jL]⟩
 rw[sortRuns'_eq]
 refine wpS_bind (wpS_get ?_)
 dsimp only
 have hmr:minRun' a₀.arr.size a₀.arr.size 0=a₀.arr.size:=by
  obtain⟨f,hf⟩:∃ f,a₀.arr.size=f + 1:=⟨a₀.arr.size - 1,by omega⟩
  have:minRun' (f + 1) a₀.arr.size 0=a₀.arr.size:=by rw[minRun'_succ,if_pos h64]; rfl
  rwa [← hf] at this
 simp only [hB.size,hmr]
 refine wpS_bind (wpS_mono (wpS_forRange
  (I:=fun x c st'=>(x=0∧c=(none,0)∧st'=st)∨(1≤x∧c=(none,a₀.arr.size)∧pendingOf st'=#[(0,a₀.arr.size,0)]∧∃ st'' g,Gh a₀ st'' g∧SortedL a₀ g a₀.arr.size∧arrOf st'=arrOf st''∧failedOf st'=none))
  (Q:=fun c st'=>c=(none,a₀.arr.size)∧pendingOf st'=#[(0,a₀.arr.size,0)]∧∃ st'' g,Gh a₀ st'' g∧SortedL a₀ g a₀.arr.size∧arrOf st'=arrOf st''∧failedOf st'=none) ?step ?fin (.inl ⟨rfl,rfl,rfl⟩)) ?post)
 case fin =>
  rintro c st' (⟨hx,_,_⟩|⟨_,hc,hD⟩)
  ·omega
  ·exact⟨hc,hD⟩
 case step =>
  rintro x c st' _ hx (⟨rfl,rfl,rfl⟩|⟨hx1,rfl,hD⟩)
  ·dsimp only
   rw[if_neg (by omega)]
   simp only [Nat.sub_zero,j6,qY]
   refine wpS_bind (wpS_countG h0 rfl (by omega) G0 fun m st2 g2 G2 hm1 hm2 hs2 hr2=>?_)
   dsimp only
   by_cases hlt:m < a₀.arr.size
   ·rw[if_pos hlt]
    refine wpS_bind (wpS_lift (wpAny_rule ⟨rfl,?_⟩))
    refine wpS_bind (wpS_binG h0 rfl hm2 hm1 G2 hs2 hr2 fun st3 g3 G3 hs3=>?_)
    simp only [Bool.not_true,zY,if_false]
    refine wpS_bind (wpS_get ?_)
    have hb:(pendingOf st3).back?=none:=by rw[G3.base.pend]; rfl
    rw[hb]
    dsimp only
    exact wpS_bind (wpS_modify (wpS_pure (.inr ⟨by omega,rfl,by show(pendingOf st3).push _=_; rw[G3.base.pend]; rfl,st3,g3,G3,hs3,rfl,G3.base.failed⟩)))
   ·rw[if_neg hlt]
    have hm:m=a₀.arr.size:=by omega
    subst hm
    refine wpS_bind (wpS_get ?_)
    have hb:(pendingOf st2).back?=none:=by rw[G2.base.pend]; rfl
    rw[hb]
    dsimp only
    exact wpS_bind (wpS_modify (wpS_pure (.inr ⟨by omega,rfl,by show(pendingOf st2).push _=_; rw[G2.base.pend]; rfl,st2,g2,G2,hs2,rfl,G2.base.failed⟩)))
  ·dsimp only
   rw[if_pos (zH _)]
   exact wpS_pure ⟨rfl,hD⟩
 case post =>
  rintro c st' ⟨rfl,hD⟩
  dsimp only
  refine wpS_bind (wpS_mono (wpS_forRange (I:=fun _ c st''=>st''=st'∧c=(none,())) (Q:=fun c st''=>st''=st'∧c=(none,())) ?_ (fun _ _ hh=>hh) ⟨rfl,rfl⟩) ?_)
  ·rintro x c st'' _ _ ⟨rfl,rfl⟩
   refine wpS_bind (wpS_get ?_)
   rw[if_pos (by rw[hD.1]; exact zH 1)]
   exact wpS_pure ⟨rfl,rfl⟩
  ·rintro c st'' ⟨rfl,rfl⟩
   obtain⟨_,st3,g3,G3,hs3,ea,ef⟩:=hD
   refine wpS_pure (h _ g3 (by rw[ea]; exact G3.base.perm) ef (fun k=>by rw[ea]; exact G3.at' k) G3.perm hs3)
end
end L2
namespace L2
open PySem PySem.Spec PyProof.Rows
def StabOut (kz:List Int) (vs out:List Value):Prop :=
 ∃ is:List Nat,is.Perm (List.range vs.length)∧out=is.map (fun i=>vs.getD i .none)∧is.Pairwise (fun i j=>kz.getD i 0 < kz.getD j 0∨(kz.getD i 0=kz.getD j 0∧i < j))
theorem zip_at {keys:Array Value} {vs:List Value} {kz:List Int} (hk:IntsAre keys.toList kz) (hlen:kz.length=vs.length) {p:Nat} (hp:p < vs.length) :
  ∃ t,(keys.zip vs.toArray)[p]?=some (.int (kz.getD p 0) t,vs.getD p .none):=by
 have hl:=hk.length
 rw[y6] at hl
 have e1:kz[p]?=some (kz.getD p 0):=by
  rw[zA,zB (by omega)]; rfl
 obtain⟨t,ht⟩:=hk.get p _ e1
 refine⟨t,?_⟩
 have e2:vs[p]?=some (vs.getD p .none):=by
  rw[zA,zB hp]; rfl
 rw[← yG,ksk_zip,qP]
 exact⟨ht,e2⟩
theorem stab_of {keys:Array Value} {vs:List Value} {kz:List Int} (hk:IntsAre keys.toList kz) (hlen:kz.length=vs.length) {xs:Array Keyed} {g:Array Nat}
  (ha:∀ k:Nat,xs[k]?=(g[k]?).bind fun(p:Nat)=>(keys.zip vs.toArray)[p]?) (hp:g.toList.Perm (List.range vs.length)) (hs:SortedL (intS (keys.zip vs.toArray)) g vs.length):StabOut kz vs (xs.map (·.2)).toList:=by
 have hgl:g.size=vs.length:=by have:=hp.length_eq; simpa using this
 have hmem:∀ k,k < vs.length→∃ p,g[k]?=some p∧p < vs.length:=fun k hk'=>by
  have e:g[k]?=some g[k]:=yZ (by omega)
  have:g[k] ∈ g.toList:=by simp
  exact⟨_,e,yC.mp (hp.mem_iff.mp this)⟩
 refine⟨g.toList,hp,?_,?_⟩
 ·refine qR fun k=>?_
  rw[yG,Array.getElem?_map,ha,zE,yG]
  by_cases hk':k < vs.length
  ·obtain⟨p,e,hpl⟩:=hmem k hk'
   obtain⟨t,e2⟩:=zip_at hk hlen hpl
   rw[e]
   show Option.map _ ((keys.zip vs.toArray)[p]?)=_
   rw[e2]
   rfl
  ·have:g[k]?=none:=yP (by omega)
   rw[this]
   rfl
 ·rw[qO]
  intro i j hi hj hij
  have hi':i < vs.length:=by simpa [hgl] using hi
  have hj':j < vs.length:=by simpa [hgl] using hj
  obtain⟨p,ep,hpl⟩:=hmem i hi'
  obtain⟨q,eq,hql⟩:=hmem j hj'
  have h1:=hs i j hij hj'
  have gi:gAt g i=p:=by unfold gAt; rw[ep]; rfl
  have gj:gAt g j=q:=by unfold gAt; rw[eq]; rfl
  have li:g.toList[i]=p:=by
   have:g.toList[i]?=some p:=by rw[yG]; exact ep
   exact(zD.mp this).2
  have lj:g.toList[j]=q:=by
   have:g.toList[j]?=some q:=by rw[yG]; exact eq
   exact(zD.mp this).2
  rw[gi,gj] at h1
  rw[li,lj]
  have kat:∀ p,p < vs.length→kAt (intS (keys.zip vs.toArray)) p=kz.getD p 0:=fun p hpl=>by
   obtain⟨t,e2⟩:=zip_at hk hlen hpl
   obtain⟨hb,e3⟩:=Array.getElem?_eq_some_iff.mp e2
   show PyProof.Rows.K (keys.zip vs.toArray) p=_
   rw[K_eq hb,e3]
   rfl
  unfold lexP at h1
  rw[kat p hpl,kat q hql] at h1
  exact h1
abbrev Kept (g h:Heap):Prop:=∀ b o,g.get? b=some o→h.get? b=some o
theorem Kept.but {g h h':Heap} {a:Addr} (k:Kept g h) (s:Heap.SameBut a h h') (ha:g.objs.size≤a):Kept g h':=fun b o e =>
 (s.2 b (zR (zO (Heap.lt_size e) ha))).trans (k b o e)
section
variable {prog:Program} {w:World} {A:Around} {E:Value→Shared→Prop} {s:Shared} {g:Heap} {a kS:Addr} {vs:List Value} {kz:List Int} {keys:Array Value} {e e1:Nat} {P:PySem.Fin→Shared→Prop}
theorem sk_tail {st:SortSt} {gg:Array Nat} (F:Kept g s.heap) (nk:s.heap.get? kS=some (seqObj "list" keys e)) (na:s.heap.get? a=some (seqObj "list" #[] e1)) (hka:kS ≠ a) (hgk:g.objs.size≤kS) (hga:g.objs.size≤a)
  (hk:IntsAre keys.toList kz) (hlen:kz.length=vs.length) (h64:vs.length < 64) (hp:(arrOf st).Perm (keys.zip vs.toArray))
  (ha:∀ k:Nat,(arrOf st)[k]?=(gg[k]?).bind fun(p:Nat)=>(keys.zip vs.toArray)[p]?) (hgp:gg.toList.Perm (List.range vs.length)) (hs:SortedL (intS (keys.zip vs.toArray)) gg vs.length) (hfl:failedOf st=none)
  (h:∀ h' tk out c,Kept g h'→h'.get? a=some (seqObj "list" out c)→StabOut kz vs out.toList→P (.done (.ret .none)) { s with heap:=h',toks:=tk }) :
  wpAny (model prog w) A (ksk_tail a false e1 (.ref kS) st) P E s:=by
 have hsz:keys.size=vs.length:=by
  have h1:=hk.length
  rw[y6] at h1
  omega
 have hsz2:(arrOf st).size=vs.length:=by rw[hp.size_eq,Array.size_zip,hsz,zM,j6]
 have s1:=Heap.SameBut.update s.heap kS (Obj.mapSeq fun _=>(#[]:Array Value))
 have na1:(s.heap.update kS (Obj.mapSeq fun _=>(#[]:Array Value))).get? a=some (seqObj "list" #[] e1):=(s1.2 a hka.symm).trans na
 have s2:=Heap.SameBut.update (s.heap.update kS (Obj.mapSeq fun _=>(#[]:Array Value))) a (Obj.mapSeq fun _=>(arrOf st).map (·.2))
 obtain⟨c2,hc2⟩:∃ c2,((s.heap.update kS (Obj.mapSeq fun _=>(#[]:Array Value))).update a (Obj.mapSeq fun _=>(arrOf st).map (·.2))).get? a=some (seqObj "list" ((arrOf st).map (·.2)) c2) :=
  ⟨_,get?_update_seq na1 fun _=>(arrOf st).map (·.2)⟩
 unfold ksk_tail
 try dsimp only
 refine wpAny_bind (listUpdate_at nk rfl ?_ (by rw[hsz,sizeLine_eq]; omega) (zW _))
 refine wpAny_bind (wpAny_letGo ?_)
 refine wpAny_bind (seqEpoch_at na1 rfl ?_)
 simp only [zY,if_false]
 refine wpAny_bind (listUpdate_at na1 rfl ?_ (zW _) (by rw[jV,hsz2,sizeLine_eq]; omega))
 rw[hfl]
 simp only [bne_self_eq_false,zY,if_false]
 exact wpAny_pure (h _ _ _ c2 ((F.but s1 hgk).but s2 hga) hc2 (stab_of hk hlen ha hgp hs))
theorem sk_end (F:Kept g s.heap) (nk:s.heap.get? kS=some (seqObj "list" keys e)) (na:s.heap.get? a=some (seqObj "list" #[] e1)) (hka:kS ≠ a) (hgk:g.objs.size≤kS) (hga:g.objs.size≤a)
  (hk:IntsAre keys.toList kz) (hlen:kz.length=vs.length) (h64:vs.length < 64)
  (h:∀ h' tk out c,Kept g h'→h'.get? a=some (seqObj "list" out c)→StabOut kz vs out.toList→P (.done (.ret .none)) { s with heap:=h',toks:=tk }) :
  wpAny (model prog w) A (ksk_end a false vs.toArray e1 (.ref kS) keys) P E s:=by
 have hsz:keys.size=vs.length:=by
  have h1:=hk.length
  rw[y6] at h1
  omega
 have hzs:(keys.zip vs.toArray).size=vs.length:=by rw[Array.size_zip,hsz,zM,j6]
 unfold ksk_end
 try dsimp only
 simp only [zY,if_false]
 by_cases h2:vs.toArray.size < 2
 ·rw[if_pos h2,if_pos h2]
  refine wpAny_bind (wpAny_pure ?_)
  rw[StateT.run_pure]
  refine wpAny_bind (wpAny_pure ?_)
  try dsimp only
  rw[zM] at h2
  refine sk_tail (st:=SortSt.mk' general' (keys.zip vs.toArray) #[] 7 none) (gg:=Array.range vs.length) F nk na hka hgk hga hk hlen h64 (Array.Perm.refl _) (fun k=>?_) (by rw[jL]) (fun i j hij hj=>by omega) rfl h
  show(keys.zip vs.toArray)[k]?=_
  by_cases hk':k < vs.length
  ·have e:(Array.range vs.length)[k]?=some k:=by simp [hk']
   rw[e]
   rfl
  ·rw[yP (by omega),yP (by simpa using hk')]
   rfl
 ·rw[if_neg h2,if_neg h2]
  rw[zM] at h2
  rw[ksk_kind hk (by rw[hsz]; omega)]
  refine wpAny_bind (wpAny_pure ?_)
  refine wpAny_bind (wpAny_mono (wpS_sortG (a₀:=intS (keys.zip vs.toArray)) (st:=SortSt.mk' oneType' (keys.zip vs.toArray) #[] 7 none)
   (Q:=fun _ st'=>∃ gg:Array Nat,(arrOf st').Perm (keys.zip vs.toArray)∧failedOf st'=none∧(∀ k:Nat,(arrOf st')[k]?=(gg[k]?).bind fun(p:Nat)=>(keys.zip vs.toArray)[p]?)∧gg.toList.Perm (List.range (keys.zip vs.toArray).size)∧SortedL (intS (keys.zip vs.toArray)) gg (keys.zip vs.toArray).size)
   (intS_lt (ksk_intKeys hk)) ⟨Array.Perm.refl _,rfl,rfl,rfl⟩ rfl (by show 2≤(keys.zip vs.toArray).size; rw[hzs]; omega) (by show(keys.zip vs.toArray).size < 64; rw[hzs]; exact h64) fun st' gg a1 a2 a3 a4 a5=>⟨gg,a1,a2,a3,a4,a5⟩) ?_ fun _ _ e=>e)
  rintro⟨⟨⟩,st'⟩ s' ⟨rfl,gg,hp,hf,ha,hgp,hs⟩
  try dsimp only
  exact sk_tail F nk na hka hgk hga hk hlen h64 hp ha (by rw[← hzs]; exact hgp) (by rw[← hzs]; exact hs) hf h
def KeyEnd (h:Heap) (k:Int) (s₁:Shared) (v:Value) (s₂:Shared):Prop:=∃ h' tk t',s₂={ s₁ with heap:=h',toks:=tk }∧v=.int k t'∧Kept h h'
theorem sk_rest {f:Value} (F:Kept g s.heap) (nk:s.heap.get? kS=some (seqObj "list" #[] 0)) (na:s.heap.get? a=some (seqObj "list" #[] e1)) (hka:kS ≠ a) (hgk:g.objs.size≤kS) (hga:g.objs.size≤a)
  (hlen:kz.length=vs.length) (h64:vs.length < 64)
  (turn:∀(i:Nat) (v:Value) (k:Int),vs[i]?=some v→kz[i]?=some k→∀(h:Heap) (tk:Nat),Kept g h →
   wpAny (model prog w) A (call f [v]) (KeyEnd h k { s with heap:=h,toks:=tk }) (fun _ _=>False) { s with heap:=h,toks:=tk })
  (h:∀ h' tk out c,Kept g h'→h'.get? a=some (seqObj "list" out c)→StabOut kz vs out.toList→P (.done (.ret .none)) { s with heap:=h',toks:=tk }) :
  wpAny (model prog w) A (ksk_rest a f false vs.toArray e1 (.ref kS)) P E s:=by
 unfold ksk_rest
 refine wpAny_bind (wpAny_rule ?_)
 first
  | rw[List.forIn_toArray]
  | (rw[← Array.forIn_toList]; simp only [List.toList_toArray])
  | rw[← Array.forIn_toList]
 refine wpAny_bind (ksk_fold (fun i s'=>∃ h' tk kA e,s'={ s with heap:=h',toks:=tk }∧Kept g h'∧h'.get? kS=some (seqObj "list" kA e)∧h'.get? a=some (seqObj "list" #[] e1)∧IntsAre kA.toList (kz.take i)) vs 0 s
  ⟨s.heap,s.toks,#[],0,rfl,F,nk,na,by simpa using IntsAre.nil⟩ ?step ?done)
 case step =>
  rintro j x s' hx ⟨h',tk,kA,e,rfl,F',nk',na',hk⟩
  simp only [qY] at hk ⊢
  have hj:j < vs.length:=(zD.mp hx).1
  obtain⟨k,hkj⟩:∃ k,kz[j]?=some k:=⟨_,zB (by omega)⟩
  have hz:kA.size≤vs.length:=by
   have h1:=hk.length
   rw[y6,zU] at h1
   omega
  refine wpAny_bind (wpAny_attempt (wpAny_mono (turn j x k hx hkj h' tk F') (fun v s'' he=>?_) fun _ _ hF=>hF.elim))
  obtain⟨g2,tk2,t2,rfl,rfl,F2⟩:=he
  try dsimp only
  have nk2:=F2 _ _ nk'
  have na2:=F2 _ _ na'
  have s1:=Heap.SameBut.update g2 kS (Obj.mapSeq (·.push (.int k t2)))
  obtain⟨c2,hc2⟩:∃ c2,(g2.update kS (Obj.mapSeq (·.push (.int k t2)))).get? kS=some (seqObj "list" (kA.push (.int k t2)) c2):=⟨_,get?_update_seq nk2 (·.push (.int k t2))⟩
  have ek:kz.take (j + 1)=kz.take j++[k]:=by rw[yI,hkj]; simp
  have ea:(kA.push (Value.int k t2)).toList=kA.toList++[Value.int k t2]:=by simp
  refine wpAny_bind (listUpdate_at nk2 rfl ?_ (by rw[sizeLine_eq]; omega) (z4 (qZ (Array.size_push ..)) (by rw[sizeLine_eq]; omega)))
  exact wpAny_pure ⟨rfl,_,_,kA.push (.int k t2),c2,rfl,Kept.but (fun b o q=>F2 b o (F' b o q)) s1 hgk,hc2,(s1.2 a hka.symm).trans na2,by rw[ea,ek]; exact ksk_snoc hk⟩
 case done =>
  rintro s' ⟨h',tk,kA,e,rfl,F',nk',na',hk⟩
  have hk':IntsAre kA.toList kz:=by
   have e3:kz.take (0 + vs.length)=kz:=q5 (by omega)
   rw[e3] at hk
   exact hk
  try dsimp only
  refine wpAny_bind (listItems_at nk' rfl ?_)
  exact sk_end F' nk' na' hka hgk hga hk' hlen h64 fun h3 tk3 out c F3 N3 k3=>h h3 tk3 out c F3 N3 k3
theorem sk_sort {f:Value} {n:Nat} (F:Kept g s.heap) (ho:s.heap.get? a=some (seqObj "list" vs.toArray n)) (hga:g.objs.size≤a)
  (hlen:kz.length=vs.length) (h64:vs.length < 64)
  (turn:∀(i:Nat) (v:Value) (k:Int),vs[i]?=some v→kz[i]?=some k→∀(h:Heap) (tk:Nat),Kept g h →
   wpAny (model prog w) A (call f [v]) (KeyEnd h k { s with heap:=h,toks:=tk }) (fun _ _=>False) { s with heap:=h,toks:=tk })
  (h:∀ h' tk out c,Kept g h'→h'.get? a=some (seqObj "list" out c)→StabOut kz vs out.toList→P (.done (.ret .none)) { s with heap:=h',toks:=tk }) :
  wpAny (model prog w) A (ksk_tree a f false) P E s:=by
 have ha:a < s.heap.objs.size:=Heap.lt_size ho
 have s1:=Heap.SameBut.update s.heap a (Obj.mapSeq fun _=>(#[]:Array Value))
 obtain⟨e1,ho1⟩:∃ e1,(s.heap.update a (Obj.mapSeq fun _=>(#[]:Array Value))).get? a=some (seqObj "list" #[] e1):=⟨_,get?_update_seq ho fun _=>#[]⟩
 have F1:=F.but s1 hga
 have hkS:((s.heap.update a (Obj.mapSeq fun _=>(#[]:Array Value))).push (seqObj "tuple" vs.toArray 0)).objs.size=s.heap.objs.size + 1:=by rw[size_push',Heap.size_update]
 unfold ksk_tree
 refine wpAny_bind (listItems_at ho rfl ?_)
 refine wpAny_bind (listUpdate_at ho rfl ?_ (by rw[zM,sizeLine_eq]; omega) (zW _))
 refine wpAny_bind (seqEpoch_at ho1 rfl ?_)
 refine wpAny_bind (wpAny_newTuple ?_ (by show vs.length≤_; rw[sizeLine_eq]; omega))
 refine wpAny_bind (wpAny_newList ?_ (zW _))
 refine wpAny_holding ?_
 refine sk_rest (s:={ s with heap:=((s.heap.update a (Obj.mapSeq fun _=>(#[]:Array Value))).push (seqObj "tuple" vs.toArray 0)).push (seqObj "list" #[] 0) }) (kS:=((s.heap.update a (Obj.mapSeq fun _=>(#[]:Array Value))).push (seqObj "tuple" vs.toArray 0)).objs.size)
  (fun b o q=>Heap.get?_push_of_some _ (Heap.get?_push_of_some _ (F1 b o q))) (Heap.get?_push_size _ rfl) (Heap.get?_push_of_some _ (Heap.get?_push_of_some _ ho1)) (by rw[hkS]; exact j5 (yS ha)) (by rw[hkS]; exact z4 hga (yQ (yS ha))) hga hlen h64 turn h
theorem sk_sorted {l:Addr} {f:Value} {kw:List (Str × Value)} {Q:Value→Shared→Prop} (hl:s.heap.IsList l vs.toArray) (hlen:kz.length=vs.length) (h64:vs.length < 64)
  (ha1:argsOk "sorted" ⟨[.ref l],kw⟩) (ha2:∀ x,argsOk "list.sort" ⟨[.ref x],kw⟩) (ht:∀ x,Builtin.«list.sort» ⟨[.ref x],kw⟩=ksk_tree x f false)
  (turn:∀(i:Nat) (v:Value) (k:Int),vs[i]?=some v→kz[i]?=some k→∀(h:Heap) (tk:Nat),Kept s.heap h →
   wpAny (model prog w) A.in1.in1 (call f [v]) (KeyEnd h k { s with heap:=h,toks:=tk }) (fun _ _=>False) { s with heap:=h,toks:=tk })
  (h:∀ D h' tk out c,Kept s.heap h'→s.heap.objs.size≤D→h'.get? D=some (seqObj "list" out c)→StabOut kz vs out.toList→Q (.ref D) { s with heap:=h',toks:=tk }) :
  wpAny (model prog w) A (call (.builtin "sorted") [.ref l] kw) Q E s:=by
 refine call_function_entry_kw kind_sorted plain_sorted entry_sorted ha1 ?_
 unfold Builtin.«sorted»
 refine wpAny_bind (m:=checkCount "sorted" 1 1 _) (wpAny_pure ?_)
 refine wpAny_bind (collect_list hl ?_ (by rw[sizeLine_eq]; omega))
 refine wpAny_bind (wpAny_newList ?_ (by rw[sizeLine_eq]; omega))
 have hsz:((s.heap.push (seqObj "list" #[] 0)).update s.heap.objs.size (Obj.mapSeq (·++vs.toArray))).objs.size=s.heap.objs.size + 1:=by
  rw[Heap.size_update,size_push']
 have hoL:(((s.heap.push (seqObj "list" #[] 0)).update s.heap.objs.size (Obj.mapSeq (·++vs.toArray))).push (seqObj "list" vs.toArray 0)).get? (s.heap.objs.size + 1)=some (seqObj "list" vs.toArray 0):=by
  rw[← hsz]; exact Heap.get?_push_size _ rfl
 have keep:∀ b o,s.heap.get? b=some o→(((s.heap.push (seqObj "list" #[] 0)).update s.heap.objs.size (Obj.mapSeq (·++vs.toArray))).push (seqObj "list" vs.toArray 0)).get? b=some o:=fun b o q=>by
  have hlt:b < s.heap.objs.size:=Heap.lt_size q
  rw[Heap.get?_push_ne _ _ _ (by rw[hsz]; exact zR (yS hlt)),Heap.get?_update_ne _ _ _ _ (zR hlt),Heap.get?_push_ne _ _ _ (zR hlt)]
  exact q
 show wpAny _ _ _ _ _ { s with heap:=((s.heap.push (seqObj "list" #[] 0)).update s.heap.objs.size (Obj.mapSeq (·++vs.toArray))).push (seqObj "list" vs.toArray 0) }
 rw[hsz]
 refine wpAny_bind (wpAny_holding (wpAny_call_entry_kw slot_list_sort ⟨_,hoL,rfl⟩ entry_list_sort ?body (ha2 _)))
 case body =>
  have ht':=ht (s.heap.objs.size + 1)
  show wpAny (model prog w) A.in1.in1 (Builtin.«list.sort» ⟨[.ref (s.heap.objs.size + 1)],kw⟩) _ _ _
  rw[ht']
  refine sk_sort (s:={ s with heap:=((s.heap.push (seqObj "list" #[] 0)).update s.heap.objs.size (Obj.mapSeq (·++vs.toArray))).push (seqObj "list" vs.toArray 0) }) (g:=s.heap)
   keep hoL (yM _) hlen h64 turn fun h' tk out c F' N' k'=>⟨_,rfl,?_⟩
  exact wpAny_pure ⟨_,rfl,h _ h' tk out c F' (yM _) N' k'⟩
end
end L2
namespace L2
open PySem PySem.Spec PyProof.Rows PySem.W
abbrev lamPar (x:Str) (p:Pos):Arguments:={ posonlyargs:=[],args:=[{ arg:=x,annotation:=none,pos:=p }],vararg:=none,kwonlyargs:=[],kw_defaults:=[],kwarg:=none,defaults:=[] }
abbrev lamSc (x:Str):Scope:={ kind:=.function,names:=[(x,.local)],isGenerator:=false,isCoroutine:=false,more:=[] }
abbrev lamBody (x:Str) (i:Int) (p2 p3 p4:Pos):Expr:=.Subscript (.Name x p2) (.Constant (.int i) 0 p3) p4
section
variable {prog:Program} {w:World} {A:Around} {s:Shared}
theorem lam_ix {f t c':Addr} {x qual:Str} {pm ctv:Value} {p1 p2 p3 p4:Pos} {its:Array Value} {i k:Int} {u:Tok} {j:Nat}
  (ho:s.heap.get? f=some (kla_obj "<lambda>" qual (lamPar x p1) (lamBody x i p2 p3 p4) (lamSc x) [] pm c' ctv)) (hcd:s.heap.CodeRec (.ref c') qual) (hroom:A.depth < recursionLimit) (lim:s.heap.NoLimit)
  (ht:IsTup s.heap t its) (hlo:-(2 ^ 63)≤i) (hhi:i < 2 ^ 63) (hj:seqIndex? i its.size=some j) (hx:its[j]?=some (.int k u)) (hd:(x == ("__debug__":Str))=false)
  (hbind:∀ v,bindArgs (kla_fn "<lambda>" qual (lamPar x p1) (lamBody x i p2 p3 p4) (lamSc x) [] pm (.ref c') ctv) ⟨[v],[]⟩=pure [(x,v)]) :
  wpAny (model prog w) A (call (.ref f) [.ref t]) (KeyEnd s.heap k s) (fun _ _=>False) s:=by
 refine wpAny_call ?_
 refine kla_callFunE hroom ho rfl rfl rfl rfl hcd ?_
 rw[hbind]
 refine wpAny_pure (wpAny_newFunctionEnv (fun y hy=>?_) (fun y hy=>?_) (fun h₁ hns hsb=>⟨lim.fresh _ hsb,?_⟩) rfl)
 ·rw[zF.mp hy]; exact fun z=>nomatch z
 ·rw[zF.mp hy]
  show List.lookup x [(x,NameKind.local)]=_
  simp [List.lookup]
 ·have hk₁:Kept s.heap h₁:=fun b o e=>hsb.extBut b o (zR (Heap.lt_size e)) (Heap.get?_push_of_some _ e)
  refine kla_codeExpr (wpAny_mono (Q:=fun v s'=>KeyEnd s.heap k s v s') (E:=fun _ _=>False) ?_ (fun v s' h'=>h') fun _ _ h'=>h'.elim)
  refine Subscript_ (wpAny_Name (wpAny_loadName_local rfl ?_ hns (v:=.ref t) ?_ (wpAny_Constant_int ?_)) hd)
  ·show List.lookup x [(x,NameKind.local)]=_
   simp [List.lookup]
  ·show List.lookup x [(x,Value.ref t)]=_
   simp [List.lookup]
  ·have ht₁:IsTup h₁ t its:=let ⟨o,e,r⟩:=ht; ⟨o,hk₁ _ _ e,r⟩
   refine subscriptTail_builtinR (x:=.int k u) (s:={ s with heap:=h₁,toks:=s.toks + [(x,Value.ref t)].length + 1 }) ht₁.typeIs slot_tuple_getitem.lookup (getItem_tuple (j:=j) ht₁ hlo hhi hj hx ⟨rfl,h₁,_,u,rfl,rfl,hk₁⟩)
end
def codeO (c':Addr) (q:Str):HO:=.ext fun h=>h.CodeRec (.ref c') q
theorem codeRec_keeps {h1 h2:Heap} {c':Addr} {q:Str} (x:h1.CodeRec (.ref c') q) (k:∀ o,h1.get? c'=some o→h2.get? c'=some o):h2.CodeRec (.ref c') q:=by
 obtain⟨c,o,vs,t,e,ho,r⟩:=x
 cases e
 exact⟨c',o,vs,t,rfl,k _ ho,r⟩
theorem codeO_ok {P:Program} {w:World} {H:Hp} {h:Heap} {c':Addr} {q:Str} (x:h.CodeRec (.ref c') q):ObjOk P w H h c' (codeO c' q):=by
 refine⟨x,?_,fun h1 h2 x1 k=>codeRec_keeps x1 k⟩
 obtain⟨c,o,vs,t,e,ho,r⟩:=x
 cases e
 exact⟨o,ho⟩
section
variable {X:Cx} {pins:List (Addr × Obj)} {σ:St} {H:Hp} {s:Shared}
theorem Inv.grown {P c':Addr} {ps more:Array Value} {q:Str} {h':Heap} {t':Nat} (I:Inv X pins σ H s) (hP:H P=some (.tbl ps)) (hx:Heap.ExtBut P s.heap h') (hc:s.heap.objs.size≤c') (hrec:h'.CodeRec (.ref c') q)
  (htb:h'.get? P=some (tabObj (ps++more))):Inv X pins σ (upd (upd H P (.tbl (ps++more))) c' (codeO c' q)) { s with heap:=h',toks:=t' }:=by
 have hcn:=I.hok.fresh hc
 have hcP:P ≠ c':=ne_of_none hP hcn
 have other:∀ b,b ≠ P→b ≠ c'→upd (upd H P (.tbl (ps++more))) c' (codeO c' q) b=H b:=fun b n1 n2=>by rw[upd_ne n2,upd_ne n1]
 have atP:upd (upd H P (.tbl (ps++more))) c' (codeO c' q) P=some (.tbl (ps++more)):=by rw[upd_ne hcP,upd_same]
 have nP:∀ b,H b=none→b ≠ P:=fun b n z=>by subst z; rw[n] at hP; cases hP
 refine I.un ⟨fun b o e n _ _=>hx b o (nP b n) e,fun b o e n _ _=>⟨o.slots,hx b o (nP b n) e⟩,fun b o e n _=>?_,fun b o e _=>?_,fun b xs e=>?_,fun b o u e=>?_,fun b qs e=>?_⟩ fun b u e=>?_
 ·rw[other b (nP b n) (zR (zO (Heap.lt_size e) hc))]; exact n
 ·by_cases hb:b=P
  ·subst hb; exact⟨_,htb⟩
  ·exact⟨o,hx b o hb e⟩
 ·rw[other b (ne_of e hP (fun z=>nomatch z)) (ne_of_none e hcn)]; exact e
 ·rw[other b (ne_of e hP (fun z=>nomatch z)) (ne_of_none e hcn)]; exact e
 ·by_cases hb:b=P
  ·subst hb
   rw[hP] at e; cases e
   exact⟨more,atP⟩
  ·exact⟨#[],by rw[other b hb (ne_of_none e hcn),e]; simp⟩
 ·by_cases hb:b=c'
  ·subst hb
   rw[upd_same] at e; cases e
   exact codeO_ok hrec
  ·by_cases hbP:b=P
   ·subst hbP
    rw[atP] at e; cases e
    exact htb
   ·rw[other b hbP hb] at e
    refine(I.hok b u e).stay (fun d v hd q=>hx d v (fun z=>?_) q) (fun d z=>?_) fun d xs z=>?_
    ·subst z
     rcases hd with z|z
     ·exact hbP z.symm
     ·rw[hP] at z; cases z
    ·rw[other d (ne_of z hP (fun z=>nomatch z)) (ne_of_none z hcn)]; exact z
    ·rw[other d (ne_of z hP (fun z=>nomatch z)) (ne_of_none z hcn)]; exact z
end
def StabV (kz:List Int) (xs out:List V):Prop :=
 ∃ is:List Nat,is.Perm (List.range xs.length)∧out=is.map (fun i=>xs.getD i .non)∧is.Pairwise (fun i j=>kz.getD i 0 < kz.getD j 0∨(kz.getD i 0=kz.getD j 0∧i < j))
theorem vals_pick {xs:List V} {vs:List Value} (r:Vals xs vs):∀ is:List Nat,(∀ i ∈ is,i < xs.length)→Vals (is.map fun i=>xs.getD i .non) (is.map fun i=>vs.getD i .none)
 | [],_=>.nil
 | i::is,h=>by
  have e:xs[i]?=some (xs.getD i .non):=by rw[zA,zB (h i (.head _))]; rfl
  obtain⟨u,e2,r2⟩:=r.get e
  have e3:vs.getD i .none=u:=by rw[zA,e2]; rfl
  refine .cons ?_ (vals_pick r is fun j hj=>h j (.tail _ hj))
  show RelV (xs.getD i .non) (vs.getD i .none)
  rw[e3]; exact r2
theorem stab_vals {kz:List Int} {xs:List V} {vs out:List Value} (r:Vals xs vs) (h:StabOut kz vs out):∃ ys,Vals ys out∧StabV kz xs ys∧ys.length=xs.length:=by
 obtain⟨is,h1,h2,h3⟩:=h
 rw[← r.length] at h1
 subst h2
 exact⟨_,vals_pick r is fun i hi=>yC.mp (h1.mem_iff.mp hi),⟨is,h1,rfl,h3⟩,by rw[zC,h1.length_eq,z9]⟩
inductive rSrt (K:PySem.W.Frag) (P:Addr) (q:Str) (ln cl:Nat) (i:Int) (Q:VK) (v:V) (H1:Hp):Prop where
 | mk (l xs kz:_) (h_0:v=.ref l) (h_1:SqL K H1 l xs) (h_2:xs.length < 64) (h_3:kz.length=xs.length) (h_4:(∀(j:Nat) x k,xs[j]?=some x→kz[j]?=some k→∃ t ys,x=.ref t∧SqT K H1 t ys∧atI ys i=some (.int k))) (h_5:((H1 P=some (.tbl #[])∧∀ c' D out,H1 c'=none→c' ≠ D→H1 D=none→StabV kz xs out→Q (.ref D) (upd (upd (upd H1 P (.tbl #[rawInt ln,rawInt cl,.ref c'])) c' (codeO c' q)) D (.lst out)))∨(∃ c',H1 P=some (.tbl #[rawInt ln,rawInt cl,.ref c'])∧H1 c'=some (codeO c' q)∧∀ D out,H1 D=none→StabV kz xs out→Q (.ref D) (upd H1 D (.lst out))))):rSrt K P q ln cl i Q v H1
def tSrt (K:PySem.W.Frag) (P:Addr) (q:Str) (ln cl:Nat) (i:Int) (ta:TE):TE:=fun σ H Q=>ta σ H (rSrt K P q ln cl i Q)
theorem pe_srt {X:Cx} {k:Nat} {c P:Addr} {q x nm:Str} {a:Expr} {ta:TE} {i:Int} {p kp p1 p2 p3 p4 lp pos:Pos} (hr:Room k X.A) (hg:Gl X nm) (hm:X.mg nm=none) (hv:bootBuiltins nm=some (.builtin "sorted"))
  (hcode:X.env.code=.ref c) (hq:X.env.qual++"<lambda>"=q) (C:CodeHd X.base c P) (hB:X.base.BuiltinsAt X.mg P) (ha:PE X a ta) (hd:(x == ("__debug__":Str))=false)
  (hbind:∀(pm ctv:Value) (c':Addr) v,bindArgs (kla_fn "<lambda>" q (lamPar x p1) (lamBody x i p2 p3 p4) (lamSc x) [] pm (.ref c') ctv) ⟨[v],[]⟩=pure [(x,v)])
  (hcl:closureFor (lamSc x) X.env=pure []) (hdef:defaultsOf (lamPar x p1) X.env=([],[]))
  (hn:nm ≠ "__name__":=by decide) (hdb:(nm == ("__debug__":Str))=false:=by decide)
  (hs:starEach [a] X.env=(false,eval a X.env)::starEach [] X.env:=by rfl) (he:backTo pos (starEach [a] X.env)=(false,eval a X.env)::backTo pos (starEach [] X.env):=by rfl)
  (hpl:(backTo pos (starEach [a] X.env)).any (·.1)=false:=by rfl) :
  PE X (.Call (.Name nm p) [a] [⟨some "key",.Lambda (lamPar x p1) (lamBody x i p2 p3 p4) (lamSc x) lp,kp⟩] pos) (tSrt X.K P q lp.line lp.col i ta):=by
 intro pins s σ H Q I h
 refine wpAny_Call_Name_kw (ld_blt I hg hm hv ?_ hn hdb)
 have core:∀(l:Addr) (xs:List V) (kz:List Int) (s2:Shared) (H2:Hp) (f c':Addr) (pm ctv:Value),Inv X pins σ H2 s2→xs.length < 64→kz.length=xs.length →
   s2.heap.get? f=some (kla_obj "<lambda>" q (lamPar x p1) (lamBody x i p2 p3 p4) (lamSc x) [] pm c' ctv)→s2.heap.CodeRec (.ref c') q→SqL X.K H2 l xs →
   (∀(j:Nat) x k,xs[j]?=some x→kz[j]?=some k→∃ t ys,x=.ref t∧SqT X.K H2 t ys∧atI ys i=some (.int k)) →
   (∀ D out,H2 D=none→StabV kz xs out→Q (.ref D) (upd H2 D (.lst out))) →
   wpAny (model X.prog X.w) X.A (call (.builtin "sorted") [.ref l] [(Str.ofString "key",.ref f)]) (EP X pins σ Q) X.xe s2:=by
  intro l xs kz s2 H2 f c' pm ctv I2 h64 hlen hf hcd hl hkeys hQ
  obtain⟨its,r,hlst,hz⟩:=I2.list hl
  have hrl:=r.length
  refine sk_sorted (vs:=its) (kz:=kz) (let ⟨o,n,e,hc,_,hd⟩:=hlst; ⟨o,e,hc,n,hd⟩) (by omega) (by omega) (ksk_s1 _ _) (fun _=>ksk_l1 _ _) (fun _=>ksk_t1 _ _) (fun j v k hv hk h tk kp=>?_) fun D h' tk out cc kp hD hget hstab=>?_
  ·have hj:j < xs.length:=by rw[hrl]; exact(zD.mp hv).1
   have ex:xs[j]?=some xs[j]:=zB hj
   obtain⟨u,hu,ru⟩:=r.get ex
   rw[hv] at hu
   cases hu
   obtain⟨t,ys,e1,ht,hat⟩:=hkeys j _ k ex hk
   rw[e1] at ru
   cases ru
   obtain⟨jts,r2,pl,hz2⟩:=I2.tuple ht
   obtain⟨n,h1,h2,h3,h4,h5⟩:=atI_get hat
   obtain⟨w,ew,rw'⟩:=r2.get h2
   obtain⟨tok,rfl⟩:=rw'
   have hl2:=r2.length
   have hn:=line63
   have pl':IsTup h t jts.toArray:=let ⟨o,e,r⟩:=pl; ⟨o,kp _ _ e,r⟩
   exact lam_ix (s:={ s2 with heap:=h,toks:=tk }) (A:=X.A.in1.in1) (kp _ _ hf) (codeRec_keeps hcd fun o e=>kp _ _ e) hr.depth (I2.nolimit.keeps kp) pl' (by omega) (by omega) (by rw[zM,← hl2]; exact h1) (by simpa using ew) hd (hbind pm ctv c')
  ·obtain⟨ys,rv,sv,lv⟩:=stab_vals r hstab
   exact⟨.ref D,upd H2 D (.lst ys),I2.laid (t':=tk) kp hD ⟨by rw[lv]; exact hz,out.toList,cc,rv,by simpa using hget⟩,rfl,hQ D ys (I2.hok.fresh hD) sv⟩
 refine callWith_kw (thn (pa_cons ha pa_nil hs pos pins s σ H (fun vs H1=>match vs with|[v]=>rSrt X.K P q lp.line lp.col i Q v H1|_=>False) I h) ?_) he hpl
 rintro us s1 ⟨vs,H1,I1,r,q1⟩
 match vs,r,q1 with
 | [v],r,q1 =>
 obtain⟨l,xs,kz,rfl,hl,h64,hlen,hkeys,hT⟩:=q1
 cases r with
 | cons r0 r1 =>
 cases r1
 cases r0
 refine kws_cons (kla_eval hdef ?_)
 rw[hq]
 have C1:=C.keeps I1.bk
 have hB1:=hB.keeps I1.bk
 have hge:X.env.globals=mainGlobals:=I1.ok.glob
 have hgs:s1.heap.Ns mainGlobals X.mg:=I1.mod.glob.keeps I1.bk
 rcases hT with ⟨hP,hQ⟩|⟨c',hP,hc',hQ⟩
 ·have hPo:s1.heap.get? P=some (tabObj #[]):=I1.hok _ _ hP
  have hgP:mainGlobals ≠ P:=fun z=>by
   obtain⟨o,es,ep,e,hd',_⟩:=hgs
   rw[z,hPo] at e; cases e; cases hd'
  refine kla_makeFunction (mg:=X.mg) hcl hge hgs hcode C1 hPo True.intro rfl hgP hB1 fun c' ctv h' tk hx hge' hlt hrec htb=>?_
  refine kws_nil ?_
  have I2:=(I1.grown (t':=tk) hP hx hge' hrec htb).kept (t':=tk) (h':=h'.push (kla_obj "<lambda>" q (lamPar x p1) (lamBody x i p2 p3 p4) (lamSc x) [] ((X.mg "__name__").getD .none) c' ctv)) fun b o e=>Heap.get?_push_of_some _ e
  have hcn:=I1.hok.fresh hge'
  have oth:∀ {b:Addr} {u:HO},Rd H1 b u→(∀ ps,u ≠ .tbl ps)→Rd (upd (upd H1 P (.tbl (#[]++#[rawInt lp.line,rawInt lp.col,.ref c']))) c' (codeO c' q)) b u:=fun {b u} hb hu=>by
   rcases hb with hb|⟨o,hb⟩
   ·exact .inl (by rw[upd_ne (ne_of_none hb hcn),upd_ne (ne_of hb hP (hu _))]; exact hb)
   ·exact .inr ⟨o,by rw[upd_ne (ne_of_none hb hcn),upd_ne (ne_of hb hP (fun z=>nomatch z))]; exact hb⟩
  refine core l xs kz _ _ _ c' _ ctv I2 h64 hlen (Heap.get?_push_size _ rfl) (codeRec_keeps hrec fun o e=>Heap.get?_push_of_some _ e) ?_ (fun j y k ej ek=>?_) fun D out hD st=>?_
  ·rcases hl with hl|hl
   ·exact .inl (oth hl fun _ z=>nomatch z)
   ·exact .inr hl
  ·obtain⟨t,ys,e1,ht,hat⟩:=hkeys j y k ej ek
   refine⟨t,ys,e1,?_,hat⟩
   rcases ht with ht|ht
   ·exact .inl (oth ht fun _ z=>nomatch z)
   ·exact .inr ht
  ·have n1:D ≠ c':=fun z=>by rw[z,upd_same] at hD; cases hD
   rw[upd_ne n1] at hD
   have n2:D ≠ P:=fun z=>by rw[z,upd_same] at hD; cases hD
   rw[upd_ne n2] at hD
   exact hQ c' D out hcn n1.symm hD st
 ·have hPo:s1.heap.get? P=some (tabObj #[rawInt lp.line,rawInt lp.col,.ref c']):=I1.hok _ _ hP
  have hrec:s1.heap.CodeRec (.ref c') q:=(I1.hok _ _ hc').1
  refine kla_makeFunctionHit (mg:=X.mg) (cv:=.ref c') hcl hge hgs hcode C1 hPo (by simp [TriplesOk,rawInt]) (by simp [codeAmong,rawInt]) hB1 fun ctv h' tk hk _=>?_
  refine kws_nil ?_
  have kp:Kept s1.heap (h'.push (kla_obj "<lambda>" q (lamPar x p1) (lamBody x i p2 p3 p4) (lamSc x) [] ((X.mg "__name__").getD .none) c' ctv)):=fun b o e=>Heap.get?_push_of_some _ (hk b o e)
  exact core l xs kz _ _ _ c' _ ctv (I1.kept (t':=tk) kp) h64 hlen (Heap.get?_push_size _ rfl) (codeRec_keeps hrec fun o e=>kp _ _ e) hl hkeys fun D out hD st=>hQ D out hD st
end L2
namespace L2
open PySem PySem.Spec PyProof.Rows PySem.W
structure Tab (K:PySem.W.Frag) (mg:Str→Option Value) (h:Heap) (c P:Addr):Prop where
 hd:CodeHd h c P
 bl:h.BuiltinsAt mg P
def OnlyT (tabs:List (Addr × Addr)) (H:Hp):Prop:=∀ b,(b ∈ tabs.map (·.2)∧H b=some (.tbl #[]))∨(b ∉ tabs.map (·.2)∧(H b=none∨∃ o xs,H b=some (.frz o (.lst xs))))
theorem law_callT {P:Program} {w:World} {K:PySem.W.Frag} {mg mb:Str→Option Value} {CX:CXT} {k:Nat} {fa a:Addr} {fd:FuncData} {x:Str} {sp:Sp} {s₁:Shared} {vs:List Value} {ns:List Int} {tabs:List (Addr × Addr)}
  (KX:K.In s₁.heap) (hns:s₁.heap.Ns mainGlobals mg) (hb:s₁.heap.Ns builtinsNs mb) (hbb:∀ x:Str,x ≠ "__name__"→mb x=bootBuiltins x) (hlim:s₁.heap.NoLimit) (hg:s₁.gens=#[])
  (ha:s₁.heap.get? a=some { cls:=.type "list",data:=.seq vs.toArray }) (hi:IntsAre vs ns) (hl:ns.length≤sizeLine) (hr:Room k callerA)
  (hT:∀ q ∈ tabs,Tab K mg s₁.heap q.1 q.2∧s₁.heap.get? q.2=some (tabObj #[])∧K.lookup q.2=none)
  (F:∀ base:Heap,K.In base→base.Ns mainGlobals mg→(∀ q ∈ tabs,Tab K mg base q.1 q.2)→FnOk P w K mg base CX k fa fd [x] sp) (hbind:∀(s:Shared) (u:Value),BindsTo s fd ⟨[u],[]⟩ [(x,u)])
  (hsp:∀ H:Hp,OnlyT tabs H→SqL K H a (ns.map V.int)→sp [.ref a] H (fun v _=>v=.bl true) fun _ _ _=>False)
  (hCX:∀ H e s',CX [] H s₁ (fun _ _ _=>False) e s'→False) :
  codeAny (model P w) callerA (.call (.ref fa) ⟨[.ref a],[]⟩) (fun r s'=>r=.ok (.ret (.bool true))∧OldK s₁.heap s'.heap∧s'.os=s₁.os∧AllBare s'.gens) s₁:=by
 have rv:=vals_ints hi
 have lenV:=hi.length
 have tabAt:∀ {b:Addr},b ∈ tabs.map (·.2)→∃ c,Tab K mg s₁.heap c b∧s₁.heap.get? b=some (tabObj #[])∧K.lookup b=none:=fun {b} hb=>by
  obtain⟨q,hq,rfl⟩:=yB.mp hb
  exact⟨q.1,hT q hq⟩
 have naT:a ∉ tabs.map (·.2):=fun z=>by
  obtain⟨c,_,e,_⟩:=tabAt z
  rw[ha] at e; cases e
 have core:∀ H:Hp,OnlyT tabs H→SqL K H a (ns.map V.int)→HOk P w H s₁.heap→(∀ b,H b ≠ none→b=a∨b ∈ tabs.map (·.2))→(H a ≠ none→K.lookup a=none) →
   codeAny (model P w) callerA (.call (.ref fa) ⟨[.ref a],[]⟩) (fun r s'=>r=.ok (.ret (.bool true))∧OldK s₁.heap s'.heap∧s'.os=s₁.os∧AllBare s'.gens) s₁:=by
  intro H hO hS hok hA hK
  have base_of:∀ {b:Addr} {o:Obj},s₁.heap.get? b=some o→H b=none→(hidT s₁.heap H).get? b=some o:=fun e n=>hidT_get e n
  have noA':∀ {b:Addr} {o:Obj},s₁.heap.get? b=some o→o ≠ { cls:=.type "list",data:=.seq vs.toArray }→o ≠ tabObj #[]→H b=none:=fun {b o} e n1 n2=>by
   cases q:H b with
   | none=>rfl
   | some u =>
    rcases hA b (by rw[q]; simp) with e'|e'
    ·subst e'
     rw[ha] at e; cases e
     exact absurd rfl n1
    ·obtain⟨c,_,e2,_⟩:=tabAt e'
     rw[e] at e2; cases e2
     exact absurd rfl n2
  have noA:∀ {b:Addr} {o:Obj} {es:Array DictEntry} {ep:Nat},s₁.heap.get? b=some o→o.data=.dict es ep→H b=none:=fun {b o es ep} e d =>
   noA' e (fun z=>by subst z; cases d) (fun z=>by subst z; cases d)
  have nsK:∀ {b:Addr} {m:Str→Option Value},s₁.heap.Ns b m→(hidT s₁.heap H).Ns b m:=fun {b m} ⟨o,es,ep,e,d,r⟩=>⟨o,es,ep,base_of e (noA e d),d,r⟩
  have hKb:K.In (hidT s₁.heap H):=fun b o e=>base_of (KX b o e) (by
   cases q:H b with
   | none=>rfl
   | some u =>
    rcases hA b (by rw[q]; simp) with e'|e'
    ·subst e'
     rw[hK (by rw[q]; simp)] at e; cases e
    ·obtain⟨c,_,_,e2⟩:=tabAt e'
     rw[e] at e2; cases e2)
  have hTb:∀ q ∈ tabs,Tab K mg (hidT s₁.heap H) q.1 q.2:=fun q hq=>by
   obtain⟨⟨⟨o,vs',file,tf,flags,tg,inF,text,tt,e,hc,hd,r⟩,⟨bm,ob,b1,b2,b3,b4,b5,b6,b7,b8⟩⟩,_,_⟩:=hT q hq
   exact⟨⟨o,vs',file,tf,flags,tg,inF,text,tt,base_of e (noA' e (fun z=>by subst z; cases hd) (fun z=>by subst z; cases hc)),hc,hd,r⟩,
    ⟨bm,ob,b1,b2,b3,b4,base_of b5 (noA' b5 (fun z=>by subst z; cases b8) (fun z=>by subst z; cases b6)),b6,b7,b8⟩⟩
  have hM:Mod K mg (hidT s₁.heap H):=⟨hKb,nsK hns,⟨mb,nsK hb,hbb⟩,let ⟨mc,h1,h2⟩:=hlim; ⟨mc,nsK h1,h2⟩⟩
  have e0:Env0 P w K mg (hidT s₁.heap H) callerA [] s₁ H:=⟨rfl,hM,fun b o e=>of_hidT e,qZ (hidT_size _ _),trivial,fun b hb=>absurd (show b ∈ ([]:List Addr) from hb) (by simp),hok,.of_eq hg⟩
  refine codeAny_mono ((F _ hKb (nsK hns) hTb).run callerA [] s₁ H ⟨[.ref a],[]⟩ [.ref a] [.ref a] _ _ hr e0 (hbind s₁ (.ref a)) (.cons rfl .nil) (hsp H hO hS)) fun r s' h=>?_
  cases r with
  | error e=>exact(hCX H e s' h).elim
  | ok fl =>
   cases fl with
   | next=>exact False.elim h
   | brk=>exact False.elim h
   | cont=>exact False.elim h
   | ret u =>
    obtain⟨v,H',os,bare,un,hok',r',q⟩:=h
    have q':v=.bl true:=q
    subst q'
    obtain rfl:u=Value.bool true:=r'
    have kp:∀ b o,s₁.heap.get? b=some o→b ∉ tabs.map (·.2)→s'.heap.get? b=some o:=fun b o e hb'=>by
     rcases hO b with ⟨z,_⟩|⟨_,z|⟨ob,xs,z⟩⟩
     ·exact absurd z hb'
     ·exact un.keep b o e z (by intro z; exact absurd (show b ∈ ([]:List Addr) from z) (by simp)) (by simp)
     ·have z2:=un.frzs b ob _ z
      obtain⟨e1,_⟩:=hok b _ z
      obtain⟨e2,_⟩:=hok' b _ z2
      rw[e] at e1; cases e1
      exact e2
    have tb:∀ b,b ∈ tabs.map (·.2)→∃ more,s'.heap.get? b=some (tabObj (#[]++more)):=fun b hb'=>by
     rcases hO b with ⟨_,z⟩|⟨z,_⟩
     ·obtain⟨more,z2⟩:=un.tbls b _ z
      exact⟨more,hok' b _ z2⟩
     ·exact absurd hb' z
    refine⟨rfl,⟨fun b o e=>?_,fun b o e=>?_⟩,os,bare⟩
    ·by_cases hb':b ∈ tabs.map (·.2)
     ·obtain⟨more,e2⟩:=tb b hb'
      obtain⟨c,t,e3,_⟩:=tabAt hb'
      rw[e] at e3; cases e3
      exact .inr (.inl ⟨(t.hd.tab e).isCodeTable,rfl,#[],more,rfl,e2⟩)
     ·exact .inl (kp b o e hb')
    ·by_cases hb':b ∈ tabs.map (·.2)
     ·obtain⟨more,e2⟩:=tb b hb'
      exact⟨_,e2⟩
     ·exact⟨o,kp b o e hb'⟩
 cases hk:K.lookup a with
 | some o =>
  have e:=KX a o hk
  rw[ha] at e
  cases e
  refine core (fun b=>if b ∈ tabs.map (·.2) then some (.tbl #[]) else none) (fun b=>?_) (.inr ⟨_,vs.toArray,_,hk,rfl,rfl,rfl,by rw[zM,lenV]; exact hl,by simpa using rv⟩) (fun b u z=>?_) (fun b z=>?_) fun z=>absurd (if_neg naT) z
  ·by_cases hb':b ∈ tabs.map (·.2)
   ·exact .inl ⟨hb',if_pos hb'⟩
   ·exact .inr ⟨hb',.inl (if_neg hb')⟩
  ·by_cases hb':b ∈ tabs.map (·.2)
   ·have z':=(if_pos hb').symm.trans z
    cases z'
    obtain⟨c,_,e3,_⟩:=tabAt hb'
    exact e3
   ·have z':=(if_neg hb').symm.trans z
    cases z'
  ·by_cases hb':b ∈ tabs.map (·.2)
   ·exact .inr hb'
   ·exact absurd (if_neg hb') z
 | none =>
  refine core (fun b=>if b ∈ tabs.map (·.2) then some (.tbl #[]) else if b=a then some (.frz { cls:=.type "list",data:=.seq vs.toArray } (.lst (ns.map V.int))) else none) (fun b=>?_)
   (.inl (.inr ⟨{ cls:=.type "list",data:=.seq vs.toArray },(if_neg naT).trans (if_pos rfl)⟩)) (fun b u z=>?_) (fun b z=>?_) fun _=>hk
  ·by_cases hb':b ∈ tabs.map (·.2)
   ·exact .inl ⟨hb',if_pos hb'⟩
   ·refine .inr ⟨hb',?_⟩
    by_cases hba:b=a
    ·exact .inr ⟨_,_,(if_neg hb').trans (if_pos hba)⟩
    ·exact .inl ((if_neg hb').trans (if_neg hba))
  ·by_cases hb':b ∈ tabs.map (·.2)
   ·have z':=(if_pos hb').symm.trans z
    cases z'
    obtain⟨c,_,e3,_⟩:=tabAt hb'
    exact e3
   ·have z':=(if_neg hb').symm.trans z
    by_cases hba:b=a
    ·have z2:=(if_pos hba).symm.trans z'
     cases z2
     subst hba
     exact⟨ha,by rw[zC]; exact hl,vs,_,rv,ha⟩
    ·have z2:=(if_neg hba).symm.trans z'
     cases z2
  ·by_cases hb':b ∈ tabs.map (·.2)
   ·exact .inr hb'
   ·by_cases hba:b=a
    ·exact .inl hba
    ·exact absurd ((if_neg hb').trans (if_neg hba)) z
end L2
namespace L2
open PySem PySem.Spec PyProof.Rows PySem.W
theorem tabIn_of {K:PySem.W.Frag} {x:Str} {f c P:Addr} {oc oc':Value} {od od':Option Addr} {fd:FuncData} {vs:Array Value} {sl sl':Array (Option Value)} (e1:nsIn K mainGlobals x=some (some (.ref f))) (e2:K.lookup f=some ⟨oc,od,.func fd,sl⟩) (e3:fd.code=.ref c)
  (e4:K.lookup c=some ⟨oc',od',.fields vs,sl'⟩) (e5:vs[11]?=some (.ref P)):tabIn K x=some (c,P):=by
 unfold tabIn
 simp only [e1,e2,e3,e4,e5]
end L2
namespace L2
open PySem PySem.Spec PyProof.Rows PySem.W
section
variable {P:Program} {w:World} {K:PySem.W.Frag} {mg:Str→Option Value} {base:Heap}
theorem Fun.okC {x qual:Str} {st:Stmt} {f c:Addr} {fd:FuncData} {N ps:List Str} {k:Nat} {sp:Sp} (F:Fun K x qual st f fd) (hc:fd.code=.ref c) (S:FnScope N ps (defScope st)) (len:∀ vs H Q E,sp vs H Q E→vs.length=ps.length)
  (hbody:∀(A:Around) (outer:List Env) (s:Shared) (H:Hp) (vs:List V) (Q:VK) (E:XK),Room k (A.deeper (envOfC qual (defScope st) s.heap.objs.size f (.ref c)))→sp vs H Q E →
   ∃ t,PSs (cxOf CX0 P w K mg base N qual (defScope st) f (.ref c) A outer s H E).nox (defBody st) t∧t { nx:=fun _ H'=>Q .non H',rt:=Q } (start N vs) H):FnOk P w K mg base CX0 (k + 1) f fd ps sp:=by
 obtain⟨oc,od,kV,doc,pm,an,cdv,ct,osl,rfl,lk,hcd⟩:=F.ex
 have e:cdv=.ref c:=hc
 subst e
 refine fn_of lk hcd S len fun A outer s H vs Q E hr hsp=>?_
 obtain⟨t,h,q⟩:=hbody A outer s H vs Q E hr hsp
 exact⟨t,h.nox,q⟩
end
structure Sm (H H':Hp):Prop where
 keep:∀ b u,H b=some u→(∀ ps,u ≠ .tbl ps)→H' b=some u
 tabs:∀ b ps,H b=some (.tbl ps)→∃ ps',H' b=some (.tbl ps')
section
variable {H H' H'':Hp} {b p:Addr} {o:HO} {xs:List V}
theorem Sm.free (s:Sm H H') (n:H' b=none):H b=none:=by
 cases e:H b with
 | none=>rfl
 | some u =>
  by_cases h:∃ ps,u=.tbl ps
  ·obtain⟨ps,rfl⟩:=h
   obtain⟨ps',e'⟩:=s.tabs b ps e
   rw[n] at e'; cases e'
  ·rw[s.keep b u e fun ps z=>h ⟨ps,z⟩] at n; cases n
end
def LamT (P:Addr) (q:Str) (ln cl:Nat) (H:Hp):Prop:=H P=some (.tbl #[])∨∃ c',H P=some (.tbl #[rawInt ln,rawInt cl,.ref c'])∧H c'=some (codeO c' q)
theorem LamT.same {P:Addr} {q:Str} {ln cl:Nat} {H H':Hp} (h:LamT P q ln cl H) (s:Same H H'):LamT P q ln cl H':=by
 rcases h with h|⟨c',h1,h2⟩
 ·exact .inl (s _ _ h)
 ·exact .inr ⟨c',s _ _ h1,s _ _ h2⟩
theorem LamT.updL {P p:Addr} {q:Str} {ln cl:Nat} {H:Hp} {xs:List V} {o:HO} (h:LamT P q ln cl H) (e:H p=some (.lst xs)):LamT P q ln cl (upd H p o):=by
 rcases h with h|⟨c',h1,h2⟩
 ·exact .inl (by rw[upd_ne (ne_of h e fun z=>nomatch z)]; exact h)
 ·exact .inr ⟨c',by rw[upd_ne (ne_of h1 e fun z=>nomatch z)]; exact h1,by rw[upd_ne (ne_of h2 e fun z=>nomatch z)]; exact h2⟩
theorem perm_unique {R:Nat→Nat→Prop} (asym:∀ a b,R a b→R b a→False):∀ {l₁ l₂:List Nat},l₁.Perm l₂→l₁.Pairwise R→l₂.Pairwise R→l₁=l₂
 | [],l₂,p,_,_=>by rw[List.nil_perm.mp p]
 | a::l₁,[],p,_,_=>by have:=p.length_eq; simp at this
 | a::l₁,b::l₂,p,h1,h2=>by
  have r1:=yX.mp h1
  have r2:=yX.mp h2
  have e:a=b:=by
   rcases zQ.mp (p.mem_iff.mp (zL (a:=a))) with e|m
   ·exact e
   ·rcases zQ.mp (p.mem_iff.mpr (zL (a:=b))) with e|m'
    ·exact e.symm
    ·exact(asym a b (r1.1 b m') (r2.1 a m)).elim
  subst e
  rw[perm_unique asym (List.Perm.cons_inv p) r1.2 r2.2]
theorem stab_is {kz:List Int} {n m:Nat} {is:List Nat} (hb:∀ i,i < n→0≤kz.getD i 0∧kz.getD i 0 < m) (hp:is.Perm (List.range n)) (hw:is.Pairwise (fun i j=>kz.getD i 0 < kz.getD j 0∨(kz.getD i 0=kz.getD j 0∧i < j))) :
  is=(List.range m).flatMap fun(t:Nat)=>(List.range n).filter fun i=>kz.getD i 0 == (t:Int):=by
 have hj:((List.range m).flatMap fun(t:Nat)=>(List.range n).filter fun i=>kz.getD i 0 == (t:Int)).Pairwise (fun i j=>kz.getD i 0 < kz.getD j 0∨(kz.getD i 0=kz.getD j 0∧i < j)):=by
  rw[kH]
  refine⟨fun t _=>?_,?_⟩
  ·have h1:((List.range n).filter fun i=>kz.getD i 0 == (t:Int)).Pairwise (· < ·):=List.Pairwise.filter _ q8
   refine List.Pairwise.imp_of_mem (fun {i j} hi hj h=>?_) h1
   have e1:=(z6.mp hi).2
   have e2:=(z6.mp hj).2
   simp at e1 e2
   exact .inr ⟨by simp; omega,h⟩
  ·refine List.Pairwise.imp (fun {t u} h i hi j hj=>?_) (q8 (n:=m))
   have e1:=(z6.mp hi).2
   have e2:=(z6.mp hj).2
   simp at e1 e2
   exact .inl (by simp; omega)
 refine perm_unique (fun a b h1 h2=>by omega) (hp.trans ?_) hw hj
 refine(List.perm_ext_iff_of_nodup List.nodup_range (hj.imp fun h e=>by subst e; omega)).mpr fun i=>?_
 rw[yC,qU]
 constructor
 ·intro h
  obtain⟨h1,h2⟩:=hb i h
  refine⟨(kz.getD i 0).toNat,yC.mpr (by omega),z6.mpr ⟨yC.mpr h,?_⟩⟩
  have:((kz.getD i 0).toNat:Int)=kz.getD i 0:=by omega
  rw[this]
  simp
 ·rintro⟨t,_,h⟩
  exact yC.mp (z6.mp h).1
theorem range_filter {α:Type} (d:α) (f:α→Bool):∀ L:List α,((List.range L.length).filter fun i=>f (L.getD i d)).map (fun i=>L.getD i d)=L.filter f:=fun L=>by
 have e:L=(List.range L.length).map fun i=>L.getD i d:=by
  refine qR fun k=>?_
  rw[zE]
  by_cases h:k < L.length
  ·rw[qL h,zB h]
   show _=some (L.getD k d)
   rw[zA,zB h]
   rfl
  ·rw[yF (by omega),yF (by simp; omega)]
   rfl
 conv=>rhs; rw[e]
 rw[List.filter_map]
 rfl
theorem stab_bucket {α:Type} (d:α) (key:α→Int) {L:List α} {m:Nat} {is:List Nat} (hb:∀ x ∈ L,0≤key x∧key x < m) (hp:is.Perm (List.range L.length))
  (hw:is.Pairwise (fun i j=>(L.map key).getD i 0 < (L.map key).getD j 0∨((L.map key).getD i 0=(L.map key).getD j 0∧i < j))) :
  is.map (fun i=>L.getD i d)=(List.range m).flatMap fun(t:Nat)=>L.filter fun x=>key x == (t:Int):=by
 have eg:∀ i,i < L.length→(L.map key).getD i 0=key (L.getD i d):=fun i h=>by
  rw[zA,zE,zB h,zA,zB h]
  rfl
 have hm:∀ i,i < L.length→L.getD i d ∈ L:=fun i h=>by
  rw[zA,zB h]
  exact qW h
 rw[stab_is (n:=L.length) (m:=m) (fun i h=>by rw[eg i h]; exact hb _ (hm i h)) hp hw,List.map_flatMap]
 congr 1
 funext t
 rw[← range_filter d (fun x=>key x == (t:Int)) L]
 congr 1
 refine List.filter_congr fun i hi=>?_
 rw[eg i (yC.mp hi)]
theorem paired_pick {α:Type} {F:V→α→Prop} (d:α) {xs:List V} {L:List α} (r:Paired F xs L):∀ is:List Nat,(∀ i ∈ is,i < xs.length)→Paired F (is.map fun i=>xs.getD i .non) (is.map fun i=>L.getD i d)
 | [],_=>.nil
 | i::is,h=>by
  have e:xs[i]?=some (xs.getD i .non):=by rw[zA,zB (h i (.head _))]; rfl
  obtain⟨u,e2,r2⟩:=PySem.Paired.getL r e
  have e3:L.getD i d=u:=by rw[zA,e2]; rfl
  refine .cons ?_ (paired_pick d r is fun j hj=>h j (.tail _ hj))
  show F (xs.getD i .non) (L.getD i d)
  rw[e3]; exact r2
end L2
namespace L2
open PySem PySem.Spec PyProof.Rows
section
variable {X:Cx}
theorem call_allB (hc:X.calm=true):CallR X (.builtin "all") (fun xs H Q=>∃(p:Addr) (bs:List Bool),xs=[.ref p]∧SqL X.K H p (bs.map V.bl)∧Q (.bl (bs.all id)) H):=by
 intro pins s σ H xs us Q I r h
 obtain⟨p,bs,rfl,hq,q⟩:=h
 obtain⟨u,rfl,ru⟩:=vals1 r
 cases ru
 obtain⟨its,rv,pl,hz⟩:=I.list hq
 have hl:=rv.length
 rw[zC] at hl
 have lt:p < s.heap.objs.size:=by obtain⟨o,e,_⟩:=pl.isList; exact Heap.lt_size e
 refine call_all_walk (wpAny_pyIter_list pl.isList ?_)
 refine⟨_,_,_,_,_,_,fun i=>bs.getD i true,rfl,Walks.list (A:=X.A.in1) (I.ok.hd hc) s.heap.objs.size p (zR lt) its.toArray,⟨⟨_,Heap.get?_push_size _ rfl,rfl,rfl⟩,pl.isList.push _⟩,?_,fun h' tk k=>?_⟩
 ·intro i v s' Q' E' hP hQ
  have hi:its[i]?=some v:=by simpa using hP
  have hil:i < bs.length:=by have:=(zD.mp hi).1; omega
  obtain⟨u,hu,ru⟩:=rv.get (i:=i) (x:=V.bl bs[i]) (by rw[zE,zB hil]; rfl)
  rw[hi] at hu
  cases hu
  cases (show v=Value.bool bs[i] from ru)
  refine wpAny_truthy_bool ?_
  have e:bs.getD i true=bs[i]:=by rw[zA,zB hil]; rfl
  rw[← e]
  exact hQ
 ·refine⟨.bl _,H,I.kept (t':=tk) fun b o e=>k b o (fun z=>?_) (Heap.get?_push_of_some _ e),rfl,?_⟩
  ·rw[zF.mp z] at e
   exact absurd (Heap.lt_size e) (y3 _)
  ·have e:(List.range its.toArray.size).all (fun i=>bs.getD i true)=bs.all id:=by
    rw[zM,← hl]
    clear q hq hl rv hz
    induction bs with
    | nil=>rfl
    | cons b bs ih=>rw[zS,j8,List.all_cons,List.all_map,List.all_cons]; exact congrArg (b && ·) ih
   show Q (.bl _) H
   rw[e]
   exact q
end
end L2
namespace L2
open PySem PySem.Spec PyProof.Rows
section
variable {X:Cx} {tg:Expr}
end
end L2
namespace L2
open PySem PyProof.Rows
theorem min_nm:(toString "min"++toString ".loop":String)="min.loop":=by decide
def itO (l:Addr):Obj:={ cls:=.type "list_iterator",data:=.fields #[.ref l,.int 0 0] }
def TupK (h h':Heap):Prop:=∀ b o,o.cls=.type "tuple"→h.get? b=some o→h'.get? b=some o
theorem tupK_upd {h:Heap} {S:Addr} {f:Obj→Obj} {o:Obj} (hS:h.get? S=some o) (hc:o.cls=.type "list"):TupK h (h.update S f):=fun b ob hb e=>by
 have hne:S ≠ b:=fun z=>by
  subst z
  rw[hS] at e
  cases e
  rw[hc] at hb
  exact absurd hb (by decide)
 exact(Heap.get?_update_other _ _ hne).trans e
theorem tupK_it {h h':Heap} {I l:Addr} {j:Nat} (hI:h.IsListIter I l j) (hk:∀ b o,b ∉ [I]→h.get? b=some o→h'.get? b=some o):TupK h h':=fun b ob hb e=>by
 refine hk b ob (fun z=>?_) e
 obtain⟨o,e1,hc,_⟩:=hI
 rw[zF.mp z,e1] at e
 cases e
 rw[hc] at hb
 exact absurd hb (by decide)
section
variable {prog:Program} {w:World} {A:Around} {R:Result→Shared→Prop} {I S l:Addr} {vs:List Value} {KI:Heap→Nat→Value→Prop} {bt:Nat→Nat→Bool} {kw:List (Str × Value)}
theorem mnN_loop (hh:A.handled=none) (hlI:l ≠ I) (hSI:S ≠ I) (hlS:l ≠ S) (s₀:Shared) (turn:∀ h i v,vs[i]?=some v→KI h i v)
  (mono:∀ h h' i u,KI h i u→TupK h h'→KI h' i u) (hcmp:∀ i j u v (s:Shared) (Q E:Value→Shared→Prop),KI s.heap i u→KI s.heap j v→Q (.bool (bt i j)) s→wpAny (model prog w) A.in1 (richCompare .Lt u v) Q E s)
  (hfI:s₀.heap.get? I=none) (hfS:s₀.heap.get? S=none)
  (hR:∀ v h' tk,vs[argBest bt (vs.length - 1)]?=some v→Kept s₀.heap h'→R (.ok (.ret v)) { s₀ with heap:=h',toks:=tk }) :
  ∀(k j:Nat) (h:Heap) (tk:Nat) (vb kb:Value) (c:Nat),vs.length - (j + 1)=k→j + 1≤vs.length→Kept s₀.heap h→h.IsListIter I l (j + 1)→h.IsList l vs.toArray→KI h (argBest bt j) kb→vs[argBest bt j]?=some vb →
   h.get? S=some (seqObj "list" #[vb,kb] c)→
   codeAny (model prog w) A (.builtin "min.loop" ⟨[.ref I,.none,.ref S],kw⟩) R { s₀ with heap:=h,toks:=tk }:=by
 have W:=Walks.list (prog:=prog) (w:=w) (A:=A.in1) hh I l hlI vs.toArray
 have hsz:vs.toArray.size=vs.length:=zM ..
 intro k
 induction k with
 | zero =>
  intro j h tk vb kb c hk hj K0 hit hls hK hvb hS 
  have hin:j + 1=vs.length:=by omega
  refine codeAny_builtin PySem.F.entry_min_loop (by
   rw[Around.under_plainId PySem.F.plain_min_loop _]
   refine wpAny_bind (m:=seqItems? (.ref S)) (wpAny_seqItems hS rfl (wpAny_bind (wpAny_tryCatch (W.done _ _ _ ⟨by rw[hsz,← hin]; exact hit,hls⟩ fun h' tk' hk'=>?_))))
   have hS':=hk' S _ (fun z=>hSI (zF.mp z)) hS
   refine wpAny_bind (m:=updateSeq S (fun _=>#[])) (wpAny_updateSeq hS' rfl (wpAny_bind (wpAny_letGo (wpAny_pure ?_))))
   refine hR vb _ _ (by rw[← hin]; exact hvb) fun b o e=>?_
   have n1:b ≠ S:=fun z=>by rw[z,hfS] at e; cases e
   have n2:b ≠ I:=fun z=>by rw[z,hfI] at e; cases e
   exact(Heap.get?_update_other _ _ (Ne.symm n1)).trans (hk' b o (fun z=>n2 (zF.mp z)) (K0 b o e)))
 | succ k ih =>
  intro j h tk vb kb c hk hj K0 hit hls hK hvb hS 
  have hlt:j + 1 < vs.length:=by omega
  refine codeAny_builtin PySem.F.entry_min_loop (by
   rw[Around.under_plainId PySem.F.plain_min_loop _]
   refine wpAny_bind (m:=seqItems? (.ref S)) (wpAny_seqItems hS rfl (wpAny_bind (wpAny_tryCatch (W.item (j + 1) _ _ _ (by rw[hsz]; exact hlt) ⟨hit,hls⟩ fun v h' tk' hP hst' hk'=>?_))))
   have hv:vs[j + 1]?=some v:=by simpa using hP
   have hS':=hk' S _ (fun z=>hSI (zF.mp z)) hS
   have T1:=tupK_it hit hk'
   have K1:Kept s₀.heap h':=fun b o e=>hk' b o (fun z=>by rw[zF.mp z,hfI] at e; cases e) (K0 b o e)
   obtain⟨h2,u,tk2,e2,st2,K2,hS2,hKu,hKb⟩:∃(h2:Heap) (u:Value) (tk2:Nat),(h2=h'∧v=u∧tk'=tk2)∧(h2.IsListIter I l (j + 1 + 1)∧h2.IsList l vs.toArray)∧Kept s₀.heap h2∧h2.get? S=some (seqObj "list" #[vb,kb] c)∧KI h2 (j + 1) u∧KI h2 (argBest bt j) kb :=
    ⟨h',v,tk',⟨rfl,rfl,rfl⟩,hst',K1,hS',turn _ _ _ hv,mono _ _ _ _ hK T1⟩
   obtain⟨rfl,rfl,rfl⟩:=e2
   refine wpAny_bind (wpAny_pure (wpAny_bind (wpAny_tryCatch (wpAny_holding (wpAny_bind (m:=richCompare .Lt v kb) (hcmp (j + 1) (argBest bt j) v kb _ _ _ hKu hKb ?_))))))
   refine wpAny_bind (wpAny_holding (wpAny_truthy_bool (wpAny_bind (wpAny_letGo (wpAny_pure ?_)))))
   cases hb:bt (j + 1) (argBest bt j) with
   | true =>
    simp only [if_true]
    refine wpAny_bind (wpAny_updateSeq hS2 rfl (wpAny_bind (wpAny_letGo ?_)))
    rw[min_nm]
    have T3:TupK h2 (h2.update S (Obj.mapSeq fun _=>#[v,v])):=tupK_upd hS2 rfl
    have oth:∀ b o,b ≠ S→h2.get? b=some o→(h2.update S (Obj.mapSeq fun _=>#[v,v])).get? b=some o:=fun b o n e=>(Heap.get?_update_other _ _ (Ne.symm n)).trans e
    obtain⟨oI,i1,i2,i3⟩:=st2.1
    obtain⟨oL,l1,l2⟩:=st2.2
    refine wpAny_pure ⟨plainId_quiet PySem.F.plain_min_loop _,ih (j + 1) _ _ v v _ (by omega) hlt (fun b o e=>oth b o (fun z=>by rw[z,hfS] at e; cases e) (K2 b o e)) ⟨oI,oth _ _ hSI.symm i1,i2,i3⟩ ⟨oL,oth _ _ hlS l1,l2⟩ ?_ ?_ (Heap.get?_update_self _ hS2 rfl) ⟩
    ·simp only [argBest,hb,if_true]; exact mono _ _ _ _ hKu T3
    ·simp only [argBest,hb,if_true]; exact hv
   | false =>
    simp only [zY,if_false]
    refine wpAny_bind (wpAny_letGo ?_)
    rw[min_nm]
    refine wpAny_pure ⟨plainId_quiet PySem.F.plain_min_loop _,ih (j + 1) _ _ vb kb _ (by omega) hlt K2 st2.1 st2.2 ?_ ?_ hS2 ⟩
    ·simp only [argBest,hb,zY,if_false]; exact hKb
    ·simp only [argBest,hb,zY,if_false]; exact hvb)
theorem mnK_loop {q:Addr} (hh:A.handled=none) (hlI:l ≠ I) (hSI:S ≠ I) (hlS:l ≠ S) (s₀:Shared) (turn:∀ i v,vs[i]?=some v→∀ h tk (Q E:Value→Shared→Prop),Kept s₀.heap h→(∀ u h' tk',Kept h h'→KI h' i u→Q u { s₀ with heap:=h',toks:=tk' })→wpAny (model prog w) A.in1 (call (.ref q) [v]) Q E { s₀ with heap:=h,toks:=tk })
  (mono:∀ h h' i u,KI h i u→TupK h h'→KI h' i u) (hcmp:∀ i j u v (s:Shared) (Q E:Value→Shared→Prop),KI s.heap i u→KI s.heap j v→Q (.bool (bt i j)) s→wpAny (model prog w) A.in1 (richCompare .Lt u v) Q E s)
  (hfI:s₀.heap.get? I=none) (hfS:s₀.heap.get? S=none)
  (hR:∀ v h' tk,vs[argBest bt (vs.length - 1)]?=some v→Kept s₀.heap h'→R (.ok (.ret v)) { s₀ with heap:=h',toks:=tk }) :
  ∀(k j:Nat) (h:Heap) (tk:Nat) (vb kb:Value) (c:Nat),vs.length - (j + 1)=k→j + 1≤vs.length→Kept s₀.heap h→h.IsListIter I l (j + 1)→h.IsList l vs.toArray→KI h (argBest bt j) kb→vs[argBest bt j]?=some vb →
   h.get? S=some (seqObj "list" #[vb,kb] c)→
   codeAny (model prog w) A (.builtin "min.loop" ⟨[.ref I,.ref q,.ref S],kw⟩) R { s₀ with heap:=h,toks:=tk }:=by
 have W:=Walks.list (prog:=prog) (w:=w) (A:=A.in1) hh I l hlI vs.toArray
 have hsz:vs.toArray.size=vs.length:=zM ..
 intro k
 induction k with
 | zero =>
  intro j h tk vb kb c hk hj K0 hit hls hK hvb hS 
  have hin:j + 1=vs.length:=by omega
  refine codeAny_builtin PySem.F.entry_min_loop (by
   rw[Around.under_plainId PySem.F.plain_min_loop _]
   refine wpAny_bind (m:=seqItems? (.ref S)) (wpAny_seqItems hS rfl (wpAny_bind (wpAny_tryCatch (W.done _ _ _ ⟨by rw[hsz,← hin]; exact hit,hls⟩ fun h' tk' hk'=>?_))))
   have hS':=hk' S _ (fun z=>hSI (zF.mp z)) hS
   refine wpAny_bind (m:=updateSeq S (fun _=>#[])) (wpAny_updateSeq hS' rfl (wpAny_bind (wpAny_letGo (wpAny_pure ?_))))
   refine hR vb _ _ (by rw[← hin]; exact hvb) fun b o e=>?_
   have n1:b ≠ S:=fun z=>by rw[z,hfS] at e; cases e
   have n2:b ≠ I:=fun z=>by rw[z,hfI] at e; cases e
   exact(Heap.get?_update_other _ _ (Ne.symm n1)).trans (hk' b o (fun z=>n2 (zF.mp z)) (K0 b o e)))
 | succ k ih =>
  intro j h tk vb kb c hk hj K0 hit hls hK hvb hS 
  have hlt:j + 1 < vs.length:=by omega
  refine codeAny_builtin PySem.F.entry_min_loop (by
   rw[Around.under_plainId PySem.F.plain_min_loop _]
   refine wpAny_bind (m:=seqItems? (.ref S)) (wpAny_seqItems hS rfl (wpAny_bind (wpAny_tryCatch (W.item (j + 1) _ _ _ (by rw[hsz]; exact hlt) ⟨hit,hls⟩ fun v h' tk' hP hst' hk'=>?_))))
   have hv:vs[j + 1]?=some v:=by simpa using hP
   have hS':=hk' S _ (fun z=>hSI (zF.mp z)) hS
   have T1:=tupK_it hit hk'
   have K1:Kept s₀.heap h':=fun b o e=>hk' b o (fun z=>by rw[zF.mp z,hfI] at e; cases e) (K0 b o e)
   refine wpAny_bind (m:=tryCatch (holding [v] (call (.ref q) [v])) _) (wpAny_tryCatch (wpAny_holding (turn (j + 1) v hv h' tk' _ _ K1 fun u h2 tk2 k2 hKu=>?_)))
   obtain⟨oI,i1,i2,i3⟩:=hst'.1
   obtain⟨oL,l1,l2⟩:=hst'.2
   have st2:h2.IsListIter I l (j + 1 + 1)∧h2.IsList l vs.toArray:=⟨⟨oI,k2 _ _ i1,i2,i3⟩,⟨oL,k2 _ _ l1,l2⟩⟩
   have K2:Kept s₀.heap h2:=fun b o e=>k2 b o (K1 b o e)
   have hS2:=k2 _ _ hS'
   have hKb:KI h2 (argBest bt j) kb:=mono _ _ _ _ hK fun b o c e=>k2 b o (T1 b o c e)
   refine wpAny_bind (wpAny_tryCatch (wpAny_holding (wpAny_bind (m:=richCompare .Lt u kb) (hcmp (j + 1) (argBest bt j) u kb _ _ _ hKu hKb ?_))))
   refine wpAny_bind (wpAny_holding (wpAny_truthy_bool (wpAny_bind (wpAny_letGo (wpAny_pure ?_)))))
   cases hb:bt (j + 1) (argBest bt j) with
   | true =>
    simp only [if_true]
    refine wpAny_bind (wpAny_updateSeq hS2 rfl (wpAny_bind (wpAny_letGo ?_)))
    rw[min_nm]
    have T3:TupK h2 (h2.update S (Obj.mapSeq fun _=>#[v,u])):=tupK_upd hS2 rfl
    have oth:∀ b o,b ≠ S→h2.get? b=some o→(h2.update S (Obj.mapSeq fun _=>#[v,u])).get? b=some o:=fun b o n e=>(Heap.get?_update_other _ _ (Ne.symm n)).trans e
    obtain⟨oI,i1,i2,i3⟩:=st2.1
    obtain⟨oL,l1,l2⟩:=st2.2
    refine wpAny_pure ⟨plainId_quiet PySem.F.plain_min_loop _,ih (j + 1) _ _ v u _ (by omega) hlt (fun b o e=>oth b o (fun z=>by rw[z,hfS] at e; cases e) (K2 b o e)) ⟨oI,oth _ _ hSI.symm i1,i2,i3⟩ ⟨oL,oth _ _ hlS l1,l2⟩ ?_ ?_ (Heap.get?_update_self _ hS2 rfl) ⟩
    ·simp only [argBest,hb,if_true]; exact mono _ _ _ _ hKu T3
    ·simp only [argBest,hb,if_true]; exact hv
   | false =>
    simp only [zY,if_false]
    refine wpAny_bind (wpAny_letGo ?_)
    rw[min_nm]
    refine wpAny_pure ⟨plainId_quiet PySem.F.plain_min_loop _,ih (j + 1) _ _ vb kb _ (by omega) hlt K2 st2.1 st2.2 ?_ ?_ hS2 ⟩
    ·simp only [argBest,hb,zY,if_false]; exact hKb
    ·simp only [argBest,hb,zY,if_false]; exact hvb)
theorem mnD_call {d:Value} {Q E:Value→Shared→Prop} {s:Shared} (hh:A.handled=none) (hl:s.heap.IsList l vs.toArray) (ha:argsOk "min" ⟨[.ref l],[(Str.ofString "default",d)]⟩) (turn:∀ h i v,vs[i]?=some v→KI h i v)
  (mono:∀ h h' i u,KI h i u→TupK h h'→KI h' i u) (hcmp:∀ i j u v (s:Shared) (Q E:Value→Shared→Prop),KI s.heap i u→KI s.heap j v→Q (.bool (bt i j)) s→wpAny (model prog w) A.in1 (richCompare .Lt u v) Q E s)
  (hne:0 < vs.length→∀ v h' tk,vs[argBest bt (vs.length - 1)]?=some v→Kept s.heap h'→Q v { s with heap:=h',toks:=tk })
  (hnil:vs.length=0→∀ h' tk,Kept s.heap h'→Q d { s with heap:=h',toks:=tk }) :
  wpAny (model prog w) A (call (.builtin "min") [.ref l] [(Str.ofString "default",d)]) Q E s:=by
 refine kmk_tree PySem.F.kind_min PySem.F.plain_min PySem.F.entry_min ha ?_
 refine wpAny_bind (m:=Builtin.Builtins.bindParams "min" ["key","default"] 0 ⟨[],[(Str.ofString "default",d)]⟩) (wpAny_of_eq (show Builtin.Builtins.bindParams "min" ["key","default"] 0 ⟨[],[(Str.ofString "default",d)]⟩=pure [none,some d] from rfl) ?_)
 refine wpAny_bind (wpAny_pure (wpAny_bind (wpAny_pyIter_list hl (wpAny_bind (wpAny_newList ?_ (zW _))))))
 rw[min_nm]
 refine wpAny_pure ⟨plainId_quiet PySem.F.plain_min_loop _,?_⟩
 have hll:l < s.heap.objs.size:=by obtain⟨o,e,_⟩:=hl; exact Heap.lt_size e
 show codeAny _ _ _ _ { s with heap:=(s.heap.push (itO l)).push (seqObj "list" #[] 0) }
 have gI:((s.heap.push (itO l)).push (seqObj "list" #[] 0)).get? s.heap.objs.size=some (itO l):=Heap.get?_push_of_some _ (Heap.get?_push_size _ rfl)
 have hSz:(s.heap.push (itO l)).objs.size=s.heap.objs.size + 1:=size_push' ..
 have gS:((s.heap.push (itO l)).push (seqObj "list" #[] 0)).get? (s.heap.push (itO l)).objs.size=some (seqObj "list" #[] 0):=Heap.get?_push_size _ rfl
 have KK:Kept s.heap ((s.heap.push (itO l)).push (seqObj "list" #[] 0)):=fun b o e=>Heap.get?_push_of_some _ (Heap.get?_push_of_some _ e)
 have hl2:((s.heap.push (itO l)).push (seqObj "list" #[] 0)).IsList l vs.toArray:=by obtain⟨o,e,r⟩:=hl; exact⟨o,KK _ _ e,r⟩
 rw[hSz] at gS
 have hSz':(s.heap.push { cls:=.type "list_iterator",data:=.fields #[.ref l,.int 0 0] }).objs.size=s.heap.objs.size + 1:=hSz
 try rw[hSz']
 generalize hI:s.heap.objs.size=I at *
 have hlI:l ≠ I:=zR hll
 have hSI:I + 1 ≠ I:=qT _
 have hlS:l ≠ I + 1:=zR (yS hll)
 have hfI:s.heap.get? I=none:=Heap.get?_none_of_le (by omega)
 have hfS:s.heap.get? (I + 1)=none:=Heap.get?_none_of_le (by omega)
 generalize ((s.heap.push (itO l)).push (seqObj "list" #[] 0))=h1 at *
 have W:=Walks.list (prog:=prog) (w:=w) (A:=A.in1) hh I l hlI vs.toArray
 have hsz:vs.toArray.size=vs.length:=zM ..
 have hit:h1.IsListIter I l 0:=⟨_,gI,rfl,rfl⟩
 refine codeAny_builtin PySem.F.entry_min_loop (by
  rw[Around.under_plainId PySem.F.plain_min_loop _]
  by_cases hn:0 < vs.length
  ·refine wpAny_bind (m:=seqItems? (.ref (I + 1))) (wpAny_seqItems gS rfl (wpAny_bind (wpAny_tryCatch (W.item 0 _ _ _ (by rw[hsz]; exact hn) ⟨hit,hl2⟩ fun v h' tk' hP hst' hk'=>?_))))
   have hv:vs[0]?=some v:=by simpa using hP
   have hS':=hk' (I + 1) _ (fun z=>hSI (zF.mp z)) gS
   have K1:Kept s.heap h':=fun b o e=>hk' b o (fun z=>by rw[zF.mp z,hfI] at e; cases e) (KK b o e)
   obtain⟨h2,u,tk2,e2,st2,K2,hS2,hKu⟩:∃(h2:Heap) (u:Value) (tk2:Nat),(h2=h'∧v=u∧tk'=tk2)∧(h2.IsListIter I l 1∧h2.IsList l vs.toArray)∧Kept s.heap h2∧h2.get? (I + 1)=some (seqObj "list" #[] 0)∧KI h2 0 u:=⟨h',v,tk',⟨rfl,rfl,rfl⟩,hst',K1,hS',turn _ _ _ hv⟩
   obtain⟨rfl,rfl,rfl⟩:=e2
   refine wpAny_bind (wpAny_pure (wpAny_bind (wpAny_updateSeq hS2 rfl ?_)))
   rw[min_nm]
   have T3:TupK h2 (h2.update (I + 1) (Obj.mapSeq fun _=>#[v,v])):=tupK_upd hS2 rfl
   have oth:∀ b o,b ≠ I + 1→h2.get? b=some o→(h2.update (I + 1) (Obj.mapSeq fun _=>#[v,v])).get? b=some o:=fun b o n e=>(Heap.get?_update_other _ _ (Ne.symm n)).trans e
   obtain⟨oI,i1,i2,i3⟩:=st2.1
   obtain⟨oL,l1,l2⟩:=st2.2
   refine wpAny_pure ⟨plainId_quiet PySem.F.plain_min_loop _,mnN_loop hh hlI hSI hlS s turn mono hcmp hfI hfS (fun v' h'' tk'' e1 e2=>hne hn v' h'' tk'' e1 e2) _ 0 _ _ v v _ rfl hn (fun b o e=>oth b o (fun z=>by rw[z,hfS] at e; cases e) (K2 b o e)) ⟨oI,oth _ _ hSI.symm i1,i2,i3⟩ ⟨oL,oth _ _ hlS l1,l2⟩ (mono _ _ _ _ hKu T3) hv (Heap.get?_update_self _ hS2 rfl)⟩
  ·refine wpAny_bind (m:=seqItems? (.ref (I + 1))) (wpAny_seqItems gS rfl (wpAny_bind (wpAny_tryCatch (W.done _ _ _ ⟨by rw[hsz,show vs.length=0 by omega]; exact hit,hl2⟩ fun h' tk' hk'=>?_))))
   refine wpAny_bind (m:=rule _) (wpAny_rule (wpAny_pure ?_))
   exact hnil (by omega) _ _ fun b o e=>hk' b o (fun z=>by rw[zF.mp z,hfI] at e; cases e) (KK b o e))
theorem mnKD_call {q:Addr} {d:Value} {Q E:Value→Shared→Prop} {s:Shared} (hh:A.handled=none) (hl:s.heap.IsList l vs.toArray) (ha:argsOk "min" ⟨[.ref l],[(Str.ofString "key",.ref q),(Str.ofString "default",d)]⟩) (turn:∀ i v,vs[i]?=some v→∀ h tk (Q E:Value→Shared→Prop),Kept s.heap h→(∀ u h' tk',Kept h h'→KI h' i u→Q u { s with heap:=h',toks:=tk' })→wpAny (model prog w) A.in1 (call (.ref q) [v]) Q E { s with heap:=h,toks:=tk })
  (mono:∀ h h' i u,KI h i u→TupK h h'→KI h' i u) (hcmp:∀ i j u v (s:Shared) (Q E:Value→Shared→Prop),KI s.heap i u→KI s.heap j v→Q (.bool (bt i j)) s→wpAny (model prog w) A.in1 (richCompare .Lt u v) Q E s)
  (hne:0 < vs.length→∀ v h' tk,vs[argBest bt (vs.length - 1)]?=some v→Kept s.heap h'→Q v { s with heap:=h',toks:=tk })
  (hnil:vs.length=0→∀ h' tk,Kept s.heap h'→Q d { s with heap:=h',toks:=tk }) :
  wpAny (model prog w) A (call (.builtin "min") [.ref l] [(Str.ofString "key",.ref q),(Str.ofString "default",d)]) Q E s:=by
 refine kmk_tree PySem.F.kind_min PySem.F.plain_min PySem.F.entry_min ha ?_
 refine wpAny_bind (m:=Builtin.Builtins.bindParams "min" ["key","default"] 0 ⟨[],[(Str.ofString "key",.ref q),(Str.ofString "default",d)]⟩) (wpAny_of_eq (show Builtin.Builtins.bindParams "min" ["key","default"] 0 ⟨[],[(Str.ofString "key",.ref q),(Str.ofString "default",d)]⟩=pure [some (.ref q),some d] from rfl) ?_)
 refine wpAny_bind (wpAny_pure (wpAny_bind (wpAny_pyIter_list hl (wpAny_bind (wpAny_newList ?_ (zW _))))))
 rw[min_nm]
 refine wpAny_pure ⟨plainId_quiet PySem.F.plain_min_loop _,?_⟩
 have hll:l < s.heap.objs.size:=by obtain⟨o,e,_⟩:=hl; exact Heap.lt_size e
 show codeAny _ _ _ _ { s with heap:=(s.heap.push (itO l)).push (seqObj "list" #[] 0) }
 have gI:((s.heap.push (itO l)).push (seqObj "list" #[] 0)).get? s.heap.objs.size=some (itO l):=Heap.get?_push_of_some _ (Heap.get?_push_size _ rfl)
 have hSz:(s.heap.push (itO l)).objs.size=s.heap.objs.size + 1:=size_push' ..
 have gS:((s.heap.push (itO l)).push (seqObj "list" #[] 0)).get? (s.heap.push (itO l)).objs.size=some (seqObj "list" #[] 0):=Heap.get?_push_size _ rfl
 have KK:Kept s.heap ((s.heap.push (itO l)).push (seqObj "list" #[] 0)):=fun b o e=>Heap.get?_push_of_some _ (Heap.get?_push_of_some _ e)
 have hl2:((s.heap.push (itO l)).push (seqObj "list" #[] 0)).IsList l vs.toArray:=by obtain⟨o,e,r⟩:=hl; exact⟨o,KK _ _ e,r⟩
 rw[hSz] at gS
 have hSz':(s.heap.push { cls:=.type "list_iterator",data:=.fields #[.ref l,.int 0 0] }).objs.size=s.heap.objs.size + 1:=hSz
 try rw[hSz']
 generalize hI:s.heap.objs.size=I at *
 have hlI:l ≠ I:=zR hll
 have hSI:I + 1 ≠ I:=qT _
 have hlS:l ≠ I + 1:=zR (yS hll)
 have hfI:s.heap.get? I=none:=Heap.get?_none_of_le (by omega)
 have hfS:s.heap.get? (I + 1)=none:=Heap.get?_none_of_le (by omega)
 generalize ((s.heap.push (itO l)).push (seqObj "list" #[] 0))=h1 at *
 have W:=Walks.list (prog:=prog) (w:=w) (A:=A.in1) hh I l hlI vs.toArray
 have hsz:vs.toArray.size=vs.length:=zM ..
 have hit:h1.IsListIter I l 0:=⟨_,gI,rfl,rfl⟩
 refine codeAny_builtin PySem.F.entry_min_loop (by
  rw[Around.under_plainId PySem.F.plain_min_loop _]
  by_cases hn:0 < vs.length
  ·refine wpAny_bind (m:=seqItems? (.ref (I + 1))) (wpAny_seqItems gS rfl (wpAny_bind (wpAny_tryCatch (W.item 0 _ _ _ (by rw[hsz]; exact hn) ⟨hit,hl2⟩ fun v h' tk' hP hst' hk'=>?_))))
   have hv:vs[0]?=some v:=by simpa using hP
   have hS':=hk' (I + 1) _ (fun z=>hSI (zF.mp z)) gS
   have K1:Kept s.heap h':=fun b o e=>hk' b o (fun z=>by rw[zF.mp z,hfI] at e; cases e) (KK b o e)
   refine wpAny_bind (m:=tryCatch (holding [v] (call (.ref q) [v])) _) (wpAny_tryCatch (wpAny_holding (turn 0 v hv h' tk' _ _ K1 fun u h2 tk2 k2 hKu=>?_)))
   obtain⟨oI0,i10,i20,i30⟩:=hst'.1
   obtain⟨oL0,l10,l20⟩:=hst'.2
   have st2:h2.IsListIter I l 1∧h2.IsList l vs.toArray:=⟨⟨oI0,k2 _ _ i10,i20,i30⟩,⟨oL0,k2 _ _ l10,l20⟩⟩
   have K2:Kept s.heap h2:=fun b o e=>k2 b o (K1 b o e)
   have hS2:=k2 _ _ hS'
   refine wpAny_bind (wpAny_updateSeq hS2 rfl ?_)
   rw[min_nm]
   have T3:TupK h2 (h2.update (I + 1) (Obj.mapSeq fun _=>#[v,u])):=tupK_upd hS2 rfl
   have oth:∀ b o,b ≠ I + 1→h2.get? b=some o→(h2.update (I + 1) (Obj.mapSeq fun _=>#[v,u])).get? b=some o:=fun b o n e=>(Heap.get?_update_other _ _ (Ne.symm n)).trans e
   obtain⟨oI,i1,i2,i3⟩:=st2.1
   obtain⟨oL,l1,l2⟩:=st2.2
   refine wpAny_pure ⟨plainId_quiet PySem.F.plain_min_loop _,mnK_loop hh hlI hSI hlS s turn mono hcmp hfI hfS (fun v' h'' tk'' e1 e2=>hne hn v' h'' tk'' e1 e2) _ 0 _ _ v u _ rfl hn (fun b o e=>oth b o (fun z=>by rw[z,hfS] at e; cases e) (K2 b o e)) ⟨oI,oth _ _ hSI.symm i1,i2,i3⟩ ⟨oL,oth _ _ hlS l1,l2⟩ (mono _ _ _ _ hKu T3) hv (Heap.get?_update_self _ hS2 rfl)⟩
  ·refine wpAny_bind (m:=seqItems? (.ref (I + 1))) (wpAny_seqItems gS rfl (wpAny_bind (wpAny_tryCatch (W.done _ _ _ ⟨by rw[hsz,show vs.length=0 by omega]; exact hit,hl2⟩ fun h' tk' hk'=>?_))))
   refine wpAny_bind (m:=rule _) (wpAny_rule (wpAny_pure ?_))
   exact hnil (by omega) _ _ fun b o e=>hk' b o (fun z=>by rw[zF.mp z,hfI] at e; cases e) (KK b o e))
end
end L2
namespace L2
open PySem PySem.Spec PyProof.Rows PySem.Calls
theorem args_minD (a d:Value):argsOk "min" ⟨[a],[(Str.ofString "default",d)]⟩:=by unfold argsOk; kernel_rfl
theorem args_minKD (a f d:Value):argsOk "min" ⟨[a],[(Str.ofString "key",f),(Str.ofString "default",d)]⟩:=by unfold argsOk; kernel_rfl
theorem best_le {ns:List Int} (n:Nat) (hn:n < ns.length):∀ k,k≤n→ns.getD (argBest (fun i j=>decide (ns.getD i 0 < ns.getD j 0)) n) 0≤ns.getD k 0:=by
 induction n with
 | zero=>intro k hk; rw[show k=0 by omega]; exact qJ _
 | succ n ih =>
  intro k hk
  have h1:=ih (by omega)
  simp only [argBest]
  by_cases hb:ns.getD (n + 1) 0 < ns.getD (argBest (fun i j=>decide (ns.getD i 0 < ns.getD j 0)) n) 0
  ·rw[if_pos (decide_eq_true hb)]
   by_cases e:k=n + 1
   ·rw[e]; exact qJ _
   ·have:=h1 k (by omega); omega
  ·rw[if_neg (by simpa using hb)]
   by_cases e:k=n + 1
   ·rw[e]; omega
   ·exact h1 k (by omega)
theorem best_lt (bt:Nat→Nat→Bool) (n:Nat):argBest bt n≤n:=by
 induction n with
 | zero=>exact zH _
 | succ n ih=>simp only [argBest]; split <;> omega
def tMinD (K:PySem.W.Frag) (ta:TE):TE:=fun σ H Q=>ta σ H fun v H1=>∃ l ns,v=.ref l∧SqL K H1 l (ns.map V.int)∧(ns=[]→Q .non H1)∧∀ M,M ∈ ns→(∀ a ∈ ns,M≤a)→Q (.int M) H1
theorem pe_minD {X:Cx} {nm:Str} {a:Expr} {ta:TE} {p kp pd pos:Pos} {jd} (hc:X.calm=true) (hg:Gl X nm) (hm:X.mg nm=none) (hv:bootBuiltins nm=some (.builtin "min")) (ha:PE X a ta)
  (hn:nm ≠ "__name__":=by decide) (hdb:(nm == ("__debug__":Str))=false:=by decide)
  (hs:starEach [a] X.env=(false,eval a X.env)::starEach [] X.env:=by rfl) (he:backTo pos (starEach [a] X.env)=(false,eval a X.env)::backTo pos (starEach [] X.env):=by rfl)
  (hpl:(backTo pos (starEach [a] X.env)).any (·.1)=false:=by rfl) :
  PE X (.Call (.Name nm p) [a] [⟨some "default",.Constant .none jd pd,kp⟩] pos) (tMinD X.K ta):=by
 intro pins s σ H Q I h
 refine wpAny_Call_Name_kw (ld_blt I hg hm hv ?_ hn hdb)
 refine callWith_kw (thn (pa_cons ha pa_nil hs pos pins s σ H (fun vs H1=>match vs with|[v]=>∃ l ns,v=.ref l∧SqL X.K H1 l (ns.map V.int)∧(ns=[]→Q .non H1)∧∀ M,M ∈ ns→(∀ a ∈ ns,M≤a)→Q (.int M) H1|_=>False) I h) ?_) he hpl
 rintro us s1 ⟨vs,H1,I1,r,q1⟩
 match vs,r,q1 with
 | [v],r,q1 =>
 obtain⟨l,ns,rfl,hl,q0,q⟩:=q1
 cases r with
 | cons r0 r1 =>
 cases r1
 cases r0
 refine kws_cons (Constant_none (kws_nil ?_))
 obtain⟨its,rv,pl,hz⟩:=I1.list hl
 have hi:=intsAre_of rv
 have hlen:=rv.length
 rw[zC] at hlen
 refine mnD_call (KI:=fun _ i u=>∃ t,u=.int (ns.getD i 0) t) (bt:=fun i j=>decide (ns.getD i 0 < ns.getD j 0)) (I1.ok.hd hc) pl.isList (args_minD _ _) (fun h i v hv=>?_) (fun _ _ _ _ z _=>z) (fun i j u v s Q E ⟨t,e1⟩ ⟨t2,e2⟩ hq=>?_) (fun hp v h' tk hv hk=>?_) (fun hz h' tk hk=>?_)
 ·have hi':i < ns.length:=by rw[hlen]; exact(zD.mp hv).1
  obtain⟨w,e,rw'⟩:=rv.get (i:=i) (x:=.int ns[i]) (by rw[zE,zB hi']; rfl)
  rw[hv] at e
  cases e
  obtain⟨t,e⟩:=rw'
  exact⟨t,by rw[e,zA,zB hi']; rfl⟩
 ·subst e1 e2
  exact CmpOf.ints_lt (prog:=X.prog) (w:=X.w) (A:=X.A.in1) (P:=fun i v=>∃ t,v=.int (ns.getD i 0) t) (fun i=>ns.getD i 0) (fun i v h=>h) i j _ _ s Q E ⟨t,rfl⟩ ⟨t2,rfl⟩ hq
 ·have hb:=best_lt (fun i j=>decide (ns.getD i 0 < ns.getD j 0)) (its.length - 1)
  have hi':argBest (fun i j=>decide (ns.getD i 0 < ns.getD j 0)) (its.length - 1) < ns.length:=by omega
  obtain⟨w,e,rw'⟩:=rv.get (i:=argBest (fun i j=>decide (ns.getD i 0 < ns.getD j 0)) (its.length - 1)) (x:=.int (ns[argBest (fun i j=>decide (ns.getD i 0 < ns.getD j 0)) (its.length - 1)])) (by rw[zE,zB hi']; rfl)
  rw[hv] at e
  cases e
  refine⟨.int _,H1,I1.kept (t':=tk) hk,rw',q _ (qW _) fun a ha=>?_⟩
  obtain⟨k,hk1,rfl⟩:=List.getElem_of_mem ha
  have hle:=best_le (ns:=ns) (its.length - 1) (by omega) k (by omega)
  rw[zA,zA,zB hi',zB hk1] at hle
  exact hle
 ·exact⟨.non,H1,I1.kept (t':=tk) hk,rfl,q0 (jS (by omega))⟩
end L2
namespace L2
open PySem PySem.Spec PyProof.Rows PySem.W PySem.Calls
abbrev lamB2 (x:Str) (p2 p3 p4 p5 p6 p7 p8:Pos):Expr:=.Tuple [.Subscript (.Name x p2) (.Constant (.int 0) 0 p3) p4,.Subscript (.Name x p5) (.Constant (.int 1) 0 p6) p7] 0 p8
section
variable {prog:Program} {w:World} {A:Around} {s:Shared}
theorem lam_pair {f t c':Addr} {x qual:Str} {pm ctv:Value} {p1 p2 p3 p4 p5 p6 p7 p8:Pos} {its:Array Value} {k1 k2:Int} {u1 u2:Tok} {Q E:Value→Shared→Prop}
  (ho:s.heap.get? f=some (kla_obj "<lambda>" qual (lamPar x p1) (lamB2 x p2 p3 p4 p5 p6 p7 p8) (lamSc x) [] pm c' ctv)) (hcd:s.heap.CodeRec (.ref c') qual) (hroom:A.depth < recursionLimit) (lim:s.heap.NoLimit)
  (ht:IsTup s.heap t its) (hsz:2≤its.size) (h0:its[0]?=some (.int k1 u1)) (h1:its[1]?=some (.int k2 u2)) (hd:(x == ("__debug__":Str))=false)
  (hbind:∀ v,bindArgs (kla_fn "<lambda>" qual (lamPar x p1) (lamB2 x p2 p3 p4 p5 p6 p7 p8) (lamSc x) [] pm (.ref c') ctv) ⟨[v],[]⟩=pure [(x,v)])
  (hQ:∀ a h' tk',Kept s.heap h'→IsTup h' a #[.int k1 u1,.int k2 u2]→Q (.ref a) { s with heap:=h',toks:=tk' }) :
  wpAny (model prog w) A (call (.ref f) [.ref t]) Q E s:=by
 refine wpAny_call (kla_callFunE hroom ho rfl rfl rfl rfl hcd ?_)
 rw[hbind]
 refine wpAny_pure (wpAny_newFunctionEnv (fun y hy=>?_) (fun y hy=>?_) (fun h₁ hns hsb=>⟨lim.fresh _ hsb,?_⟩) rfl)
 ·rw[zF.mp hy]; exact fun z=>nomatch z
 ·rw[zF.mp hy]
  show List.lookup x [(x,NameKind.local)]=_
  simp [List.lookup]
 ·have hk₁:Kept s.heap h₁:=fun b o e=>hsb.extBut b o (zR (Heap.lt_size e)) (Heap.get?_push_of_some _ e)
  have ht₁:IsTup h₁ t its:=let ⟨o,e,r⟩:=ht; ⟨o,hk₁ _ _ e,r⟩
  have i0:seqIndex? 0 its.size=some 0:=by generalize its.size=n at hsz; unfold seqIndex?; simp; omega
  have i1:seqIndex? 1 its.size=some 1:=by generalize its.size=n at hsz; unfold seqIndex?; simp; omega
  refine kla_codeExpr (wpAny_mono (E:=fun _ _=>False) (Q:=fun v s'=>∃ a h' tk',v=.ref a∧s'={ s with heap:=h',toks:=tk' }∧Kept s.heap h'∧IsTup h' a #[.int k1 u1,.int k2 u2]) ?_ (fun v s' ⟨a,h',tk',e1,e2,kk,tt⟩=>by subst e1 e2; exact hQ a h' tk' kk tt) fun _ _ h'=>h'.elim)
  refine wpAny_Tuple_spliced (Calls.spliced_cons ?_)
  refine Subscript_ (wpAny_Name (wpAny_loadName_local rfl ?_ hns (v:=.ref t) ?_ (wpAny_Constant_int ?_)) hd)
  ·show List.lookup x [(x,NameKind.local)]=_
   simp [List.lookup]
  ·show List.lookup x [(x,Value.ref t)]=_
   simp [List.lookup]
  ·refine subscriptTail_builtinR (x:=.int k1 u1) (s:={ s with heap:=h₁,toks:=s.toks + [(x,Value.ref t)].length + 1 }) ht₁.typeIs slot_tuple_getitem.lookup (getItem_tuple (j:=0) ht₁ (by decide) (by decide) i0 h0 ⟨rfl,?_⟩)
   refine Calls.spliced_cons ?_
   refine Subscript_ (wpAny_Name (wpAny_loadName_local rfl ?_ hns (v:=.ref t) ?_ (wpAny_Constant_int ?_)) hd)
   ·show List.lookup x [(x,NameKind.local)]=_
    simp [List.lookup]
   ·show List.lookup x [(x,Value.ref t)]=_
    simp [List.lookup]
   ·refine subscriptTail_builtinR (x:=.int k2 u2) (s:={ s with heap:=h₁,toks:=s.toks + [(x,Value.ref t)].length + 1 + 1 }) ht₁.typeIs slot_tuple_getitem.lookup (getItem_tuple (j:=1) ht₁ (by decide) (by decide) i1 h1 ⟨rfl,?_⟩)
    refine Calls.spliced_nil ⟨(by show 2≤sizeLine; decide),_,_,_,rfl,rfl,fun b o e=>Heap.get?_push_of_some _ (hk₁ b o e),IsTup.new _ _⟩
end
def kLt (a b:Int × Int):Bool:=HT.lexLt [a.1,a.2] [b.1,b.2]
def bestK (ks:List (Int × Int)):Nat:=argBest (fun i j=>kLt (ks.getD i (0,0)) (ks.getD j (0,0))) (ks.length - 1)
inductive rMinK (K:PySem.W.Frag) (P:Addr) (q:Str) (ln cl:Nat) (Q:VK) (v:V) (H1:Hp):Prop where
 | mk (l xs ks:_) (h_0:v=.ref l) (h_1:SqL K H1 l xs) (h_2:ks.length=xs.length) (h_3:(∀(j:Nat) x (k:Int × Int),xs[j]?=some x→ks[j]?=some k→∃ t ys,x=.ref t∧SqT K H1 t ys∧ys[0]?=some (.int k.1)∧ys[1]?=some (.int k.2))) (h_4:LamT P q ln cl H1) (h_5:∀ H2,Keep [P] H1 H2→LamT P q ln cl H2→(xs=[]→Q .non H2)∧∀ x,xs[bestK ks]?=some x→Q x H2):rMinK K P q ln cl Q v H1
def tMinK (K:PySem.W.Frag) (P:Addr) (q:Str) (ln cl:Nat) (ta:TE):TE:=fun σ H Q=>ta σ H (rMinK K P q ln cl Q)
theorem pe_minKD {X:Cx} {k:Nat} {c P:Addr} {q x nm:Str} {a:Expr} {ta:TE} {p kp kp2 pd p1 p2 p3 p4 p5 p6 p7 p8 lp pos:Pos} {jd} (hc:X.calm=true) (hr:Room k X.A) (hg:Gl X nm) (hm:X.mg nm=none) (hv:bootBuiltins nm=some (.builtin "min"))
  (hcode:X.env.code=.ref c) (hq:X.env.qual++"<lambda>"=q) (C:CodeHd X.base c P) (hB:X.base.BuiltinsAt X.mg P) (ha:PE X a ta) (hd:(x == ("__debug__":Str))=false)
  (hbind:∀(pm ctv:Value) (c':Addr) v,bindArgs (kla_fn "<lambda>" q (lamPar x p1) (lamB2 x p2 p3 p4 p5 p6 p7 p8) (lamSc x) [] pm (.ref c') ctv) ⟨[v],[]⟩=pure [(x,v)])
  (hcl:closureFor (lamSc x) X.env=pure []) (hdef:defaultsOf (lamPar x p1) X.env=([],[]))
  (hn:nm ≠ "__name__":=by decide) (hdb:(nm == ("__debug__":Str))=false:=by decide)
  (hs:starEach [a] X.env=(false,eval a X.env)::starEach [] X.env:=by rfl) (he:backTo pos (starEach [a] X.env)=(false,eval a X.env)::backTo pos (starEach [] X.env):=by rfl)
  (hpl:(backTo pos (starEach [a] X.env)).any (·.1)=false:=by rfl) :
  PE X (.Call (.Name nm p) [a] [⟨some "key",.Lambda (lamPar x p1) (lamB2 x p2 p3 p4 p5 p6 p7 p8) (lamSc x) lp,kp⟩,⟨some "default",.Constant .none jd pd,kp2⟩] pos) (tMinK X.K P q lp.line lp.col ta):=by
 intro pins s σ H Q I h
 refine wpAny_Call_Name_kw (ld_blt I hg hm hv ?_ hn hdb)
 have core:∀(l:Addr) (xs:List V) (ks:List (Int × Int)) (s2:Shared) (H2:Hp) (f c':Addr) (pm ctv:Value),Inv X pins σ H2 s2→ks.length=xs.length →
   s2.heap.get? f=some (kla_obj "<lambda>" q (lamPar x p1) (lamB2 x p2 p3 p4 p5 p6 p7 p8) (lamSc x) [] pm c' ctv)→s2.heap.CodeRec (.ref c') q→SqL X.K H2 l xs →
   (∀(j:Nat) x (k:Int × Int),xs[j]?=some x→ks[j]?=some k→∃ t ys,x=.ref t∧SqT X.K H2 t ys∧ys[0]?=some (.int k.1)∧ys[1]?=some (.int k.2)) →
   ((xs=[]→Q .non H2)∧∀ x,xs[bestK ks]?=some x→Q x H2) →
   wpAny (model X.prog X.w) X.A (call (.builtin "min") [.ref l] [(Str.ofString "key",.ref f),(Str.ofString "default",.none)]) (EP X pins σ Q) X.xe s2:=by
  intro l xs ks s2 H2 f c' pm ctv I2 hlen hf hcd hl hkeys hQ
  obtain⟨its,r,hlst,hz⟩:=I2.list hl
  have hrl:=r.length
  refine mnKD_call (KI:=fun h i u=>∃ a ts,u=.ref a∧IsTup h a ts∧IntsAre ts.toList [(ks.getD i (0,0)).1,(ks.getD i (0,0)).2]) (bt:=fun i j=>kLt (ks.getD i (0,0)) (ks.getD j (0,0))) (vs:=its) (I2.ok.hd hc) hlst.isList (args_minKD _ _ _) (fun i v hv h tk Q' E' kp fin=>?_) (fun h h' i u z tk=>?_) (fun i j u v s' Q' E' z1 z2 hq'=>?_) (fun hp v h' tk hv hk=>?_) (fun hz h' tk hk=>?_)
  ·have hi:i < xs.length:=by rw[hrl]; exact(zD.mp hv).1
   have ex:xs[i]?=some xs[i]:=zB hi
   have ek:ks[i]?=some ks[i]:=zB (by omega)
   obtain⟨u,hu,ru⟩:=r.get ex
   rw[hv] at hu
   cases hu
   obtain⟨t,ys,e1,ht,y0,y1⟩:=hkeys i _ _ ex ek
   rw[e1] at ru
   cases ru
   obtain⟨jts,r2,pl,hz2⟩:=I2.tuple ht
   obtain⟨w0,ew0,t0,rfl⟩:=r2.get y0
   obtain⟨w1,ew1,t1,rfl⟩:=r2.get y1
   have hl2:=(zD.mp ew1).1
   have pl':IsTup h t jts.toArray:=let ⟨o,e,r⟩:=pl; ⟨o,kp _ _ e,r⟩
   refine lam_pair (s:={ s2 with heap:=h,toks:=tk }) (A:=X.A.in1) (kp _ _ hf) (codeRec_keeps hcd fun o e=>kp _ _ e) hr.depth (I2.nolimit.keeps kp) pl' (by rw[zM]; omega) (by simpa using ew0) (by simpa using ew1) hd (hbind pm ctv c') (fun a h' tk' k' tt=>?_)
   refine fin _ h' tk' k' ⟨a,_,rfl,tt,?_⟩
   have eg:ks.getD i (0,0)=ks[i]:=by rw[zA,ek]; rfl
   rw[eg]
   exact .cons _ t0 (.cons _ t1 .nil)
  ·obtain⟨a,ts,e1,⟨o,e2,e3,e4⟩,e5⟩:=z
   exact⟨a,ts,e1,⟨o,tk a o e3 e2,e3,e4⟩,e5⟩
  ·obtain⟨a,ts,rfl,e2,e3⟩:=z1
   obtain⟨b,ts',rfl,e5,e6⟩:=z2
   refine HT.lt_tupInts (A:=X.A.in1) e2 e5 e3 e6 ?_ hq'
   have:=hr.un
   show X.A.units + 1 < _
   omega
  ·have hb:bestK ks=argBest (fun i j=>kLt (ks.getD i (0,0)) (ks.getD j (0,0))) (its.length - 1):=by unfold bestK; rw[hlen,hrl]
   rw[← hb] at hv
   have hi:bestK ks < xs.length:=by rw[hrl]; exact(zD.mp hv).1
   have ex:xs[bestK ks]?=some xs[bestK ks]:=zB hi
   obtain⟨u,hu,ru⟩:=r.get ex
   rw[hv] at hu
   cases hu
   exact⟨_,H2,I2.kept (t':=tk) hk,ru,hQ.2 _ ex⟩
  ·exact⟨.non,H2,I2.kept (t':=tk) hk,rfl,hQ.1 (jS (by omega))⟩
 refine callWith_kw (thn (pa_cons ha pa_nil hs pos pins s σ H (fun vs H1=>match vs with|[v]=>rMinK X.K P q lp.line lp.col Q v H1|_=>False) I h) ?_) he hpl
 rintro us s1 ⟨vs,H1,I1,r,q1⟩
 match vs,r,q1 with
 | [v],r,q1 =>
 obtain⟨l,xs,ks,rfl,hl,hlen,hkeys,hT,hQ⟩:=q1
 cases r with
 | cons r0 r1 =>
 cases r1
 cases r0
 refine kws_cons (kla_eval hdef ?_)
 rw[hq]
 have C1:=C.keeps I1.bk
 have hB1:=hB.keeps I1.bk
 have hge:X.env.globals=mainGlobals:=I1.ok.glob
 have hgs:s1.heap.Ns mainGlobals X.mg:=I1.mod.glob.keeps I1.bk
 rcases hT with hP|⟨c',hP,hc'⟩
 ·have hPo:s1.heap.get? P=some (tabObj #[]):=I1.hok _ _ hP
  have hgP:mainGlobals ≠ P:=fun z=>by
   obtain⟨o,es,ep,e,hd',_⟩:=hgs
   rw[z,hPo] at e; cases e; cases hd'
  refine kla_makeFunction (mg:=X.mg) hcl hge hgs hcode C1 hPo True.intro rfl hgP hB1 fun c' ctv h' tk hx hge' hlt hrec htb=>?_
  refine kws_cons (Constant_none (kws_nil ?_))
  have I2:=(I1.grown (t':=tk) hP hx hge' hrec htb).kept (t':=tk) (h':=h'.push (kla_obj "<lambda>" q (lamPar x p1) (lamB2 x p2 p3 p4 p5 p6 p7 p8) (lamSc x) [] ((X.mg "__name__").getD .none) c' ctv)) fun b o e=>Heap.get?_push_of_some _ e
  have hcn:=I1.hok.fresh hge'
  have oth:∀ {b:Addr} {u:HO},Rd H1 b u→(∀ ps,u ≠ .tbl ps)→Rd (upd (upd H1 P (.tbl (#[]++#[rawInt lp.line,rawInt lp.col,.ref c']))) c' (codeO c' q)) b u:=fun {b u} hb hu=>by
   rcases hb with hb|⟨o,hb⟩
   ·exact .inl (by rw[upd_ne (ne_of_none hb hcn),upd_ne (ne_of hb hP (hu _))]; exact hb)
   ·exact .inr ⟨o,by rw[upd_ne (ne_of_none hb hcn),upd_ne (ne_of hb hP (fun z=>nomatch z))]; exact hb⟩
  have hkp:Keep [P] H1 (upd (upd H1 P (.tbl (#[]++#[rawInt lp.line,rawInt lp.col,.ref c']))) c' (codeO c' q)):=fun b u e hb=>by
   rw[upd_ne (ne_of_none e hcn),upd_ne (fun z=>hb (by rw[z]; exact yH _))]; exact e
  have hT2:LamT P q lp.line lp.col (upd (upd H1 P (.tbl (#[]++#[rawInt lp.line,rawInt lp.col,.ref c']))) c' (codeO c' q)):=.inr ⟨c',by rw[upd_ne (ne_of_none hP hcn),upd_same]; rfl,upd_same⟩
  refine core l xs ks _ _ _ c' _ ctv I2 hlen (Heap.get?_push_size _ rfl) (codeRec_keeps hrec fun o e=>Heap.get?_push_of_some _ e) ?_ (fun j y k ej ek=>?_) (hQ _ hkp hT2)
  ·rcases hl with hl|hl
   ·exact .inl (oth hl fun _ z=>nomatch z)
   ·exact .inr hl
  ·obtain⟨t,ys,e1,ht,y0,y1⟩:=hkeys j y k ej ek
   refine⟨t,ys,e1,?_,y0,y1⟩
   rcases ht with ht|ht
   ·exact .inl (oth ht fun _ z=>nomatch z)
   ·exact .inr ht
 ·have hPo:s1.heap.get? P=some (tabObj #[rawInt lp.line,rawInt lp.col,.ref c']):=I1.hok _ _ hP
  have hrec:s1.heap.CodeRec (.ref c') q:=(I1.hok _ _ hc').1
  refine kla_makeFunctionHit (mg:=X.mg) (cv:=.ref c') hcl hge hgs hcode C1 hPo (by simp [TriplesOk,rawInt]) (by simp [codeAmong,rawInt]) hB1 fun ctv h' tk hk _=>?_
  refine kws_cons (Constant_none (kws_nil ?_))
  have kp:Kept s1.heap (h'.push (kla_obj "<lambda>" q (lamPar x p1) (lamB2 x p2 p3 p4 p5 p6 p7 p8) (lamSc x) [] ((X.mg "__name__").getD .none) c' ctv)):=fun b o e=>Heap.get?_push_of_some _ (hk b o e)
  exact core l xs ks _ _ _ c' _ ctv (I1.kept (t':=tk) kp) hlen (Heap.get?_push_size _ rfl) (codeRec_keeps hrec fun o e=>kp _ _ e) hl hkeys (hQ H1 (Keep.same (Same.refl _)) (.inr ⟨c',hP,hc'⟩))
end L2
namespace L2
open PySem PySem.Spec PyProof.Rows
theorem rcGt_int (A:Around) (s:Shared) (a:Int) (t:Tok) (c:Int) (u:Tok) (prog:Program) (w:World) (E:Value→Shared→Prop) (Q:Value→Shared→Prop) (h:Q (.bool (decide (c < a))) s) :
  wpAny (model prog w) A (richCompare .Gt (.int a t) (.int c u)) Q E s :=
 (PyProof.Rows.gt_int h:wpAny (model prog w) A (compareOp .Gt (.int a t) (.int c u)) Q E s)
section
open PySem.SeqAt
open PySem.AutoSeq1 (wpAny_loadPart')
open PySem.MeetsSeq PySem.MeetsSeq2 PySem.MeetsSeq3
theorem tuple_gt_ints (l b:Addr) (items items2:Array Value) (n n2:Nat) (dd dd2:Option Addr) (sl sl2:Array (Option Value)) (ns ms:List Int) (hi:IntsAre items.toList ns) (hj:IntsAre items2.toList ms) :
  Meets (Builtin.«tuple.__gt__» ⟨[.ref l,.ref b],[]⟩)
   (fun _ R s=>s.heap.get? l=some { cls:=.type "tuple",dict:=dd,data:=.seq items n,slots:=sl }∧s.heap.get? b=some { cls:=.type "tuple",dict:=dd2,data:=.seq items2 n2,slots:=sl2 } ∧
    R (.ok (.ret (.bool (HT.lexLt ms ns)))) s) :=
 .of_wp fun prog w A R s h=>by
  obtain⟨hp,g,d,tk,os⟩:=s; obtain⟨hl,hb,h⟩:=h
  have f2:=AutoSeq1.sub_tuple_tuple
  have z1:items.size=ns.length:=by rw[← hi.length]; simp
  have z2:items2.size=ms.length:=by rw[← hj.length]; simp
  wp_walk using wpAny_loadPart' hl,wpAny_loadPart' hb,wpAny_forIn_list _ (fun rest b s'=>b.1=none∧s'=⟨hp,g,d,tk,os⟩∧∃(vs ws:List Value) (ns' ms':List Int),rest=vs.zip ws ∧
   IntsAre vs ns'∧IntsAre ws ms'∧ns'.length + items2.size=ms'.length + items.size∧R (.ok (.ret (.bool (HT.lexLt ms' ns')))) ⟨hp,g,d,tk,os⟩) _
  case turn =>
   rintro⟨y,x⟩ rest b s' ⟨hb',rfl,vs,ws,ns',ms',hz,hvi,hwi,hlen,hR⟩
   cases hvi with
   | nil=>rw[List.zip_nil_left] at hz; cases hz
   | cons a t hvi' =>
    cases hwi with
    | nil=>rw[List.zip_nil_right] at hz; cases hz
    | cons c u hwi' =>
     rw[qN] at hz
     injection hz with hyx hrest
     injection hyx with hy hx
     subst hy hx
     rw[HT.lexLt_cons] at hR
     simp only [zS] at hlen
     obtain⟨e,he,hiff⟩:=HT.eqAt_int A.in1 ⟨hp,g,d,tk,os⟩ a t c u
     refine wpAny_bind (he prog w _ _ ?_)
     cases e with
     | true =>
      rw[if_pos (hiff.mp rfl).symm] at hR
      wp_walk
      exact⟨rfl,rfl,_,_,_,_,hrest,hvi',hwi',by omega,hR⟩
     | false =>
      rw[if_neg (fun q=>absurd (hiff.mpr q.symm) zV)] at hR
      have hri:=rcGt_int A.in1 ⟨hp,g,d,tk,os⟩ a t c u prog w
      wp_walk using hri
      exact⟨_,rfl,by simpa using hR⟩
  case fin =>
   rintro⟨b1,b2⟩ s' ⟨hb',rfl,vs,ws,ns',ms',hz,hvi,hwi,hlen,hR⟩
   simp only at hb'
   subst hb'
   have hv:HT.lexLt ms' ns'=decide (items2.size < items.size):=by
    cases hvi with
    | nil =>
     cases hwi with
     | nil =>
      simp only [qA] at hlen
      rw[HT.lexLt_nil_nil]
      exact(decide_eq_false (by omega)).symm
     | cons c u hw =>
      simp only [qA,zS] at hlen
      rw[HT.lexLt_cons_nil]
      exact(decide_eq_false (by omega)).symm
    | cons a t hv =>
     cases hwi with
     | nil =>
      simp only [qA,zS] at hlen
      rw[HT.lexLt_nil_cons]
      exact(decide_eq_true (by omega)).symm
     | cons c u hw =>
      rw[qN] at hz
      cases hz
   rw[hv] at hR
   wp_walk
   exact⟨_,rfl,by simpa [Builtin.Tuple.tupleCompareSizes] using hR⟩
  case h =>
   exact⟨rfl,rfl,items.toList,items2.toList,ns,ms,rfl,hi,hj,by omega,h⟩
end
section
variable {prog:Program} {w:World} {A:Around} {E:Value→Shared→Prop} {s:Shared}
theorem gt_tupInts {l b:Addr} {items items2:Array Value} {ns ms:List Int} {Q:Value→Shared→Prop} (hl:IsTup s.heap l items) (hb:IsTup s.heap b items2) (hi:IntsAre items.toList ns) (hj:IntsAre items2.toList ms)
  (hu:A.units < cLine) (h:Q (.bool (HT.lexLt ms ns)) s):wpAny (model prog w) A (compareOp .Gt (.ref l) (.ref b)) Q E s:=by
 obtain⟨⟨cls,dd,data,sl⟩,ho,hc,n,hd⟩:=id hl
 obtain⟨⟨cls2,dd2,data2,sl2⟩,ho2,hc2,n2,hd2⟩:=id hb
 simp only at hc hd hc2 hd2
 subst hc hd hc2 hd2
 exact richCompare_meets_room (op:=.Gt) ⟨_,ho,rfl⟩ ⟨_,ho2,rfl⟩ PySem.F.slot_tuple_gt PySem.F.entry_tuple_gt (PySem.F.args_tuple_gt_2 _ _) (tuple_gt_ints l b items items2 n n2 dd dd2 sl sl2 ns ms hi hj)
  ⟨ho,ho2,show Value.bool (HT.lexLt ms ns) ≠ Value.notImplemented∧Q (.bool (HT.lexLt ms ns)) s from⟨(fun x=>nomatch x),h⟩⟩ hu
end
section
variable {X:Cx}
inductive rGtT (K:PySem.W.Frag) (x:V) (y:V) (H:Hp) (Q:VK):Prop where
 | mk (a b ns ms:_) (h_0:x=.ref a) (h_1:y=.ref b) (h_2:SqT K H a (ns.map V.int)) (h_3:SqT K H b (ms.map V.int)) (h_4:Q (.bl (HT.lexLt ms ns)) H):rGtT K x y H Q
theorem op_gtT (hu:X.A.units < cLine):OpR X (compareOp .Gt) (rGtT X.K):=by
 intro pins s σ H x y v u Q I rx ry h
 obtain⟨a,b,ns,ms,rfl,rfl,ha,hb,q⟩:=h
 cases rx
 cases ry
 obtain⟨its,r1,p1,_⟩:=I.tuple ha
 obtain⟨its2,r2,p2,_⟩:=I.tuple hb
 have i1:IntsAre its.toArray.toList ns:=intsAre_of r1
 have i2:IntsAre its2.toArray.toList ms:=intsAre_of r2
 exact gt_tupInts p1 p2 i1 i2 hu ⟨.bl (HT.lexLt ms ns),H,I,rfl,q⟩
end
end L2
namespace L2
theorem len1 {α:Type} {us:List α} (h:us.length=1):∃ a,us=[a]:=List.length_eq_one_iff.mp h
theorem lenS {α:Type} {n:Nat} {us:List α} (h:us.length=n + 1):∃ a r,us=a::r∧r.length=n:=by
 cases us with
 | nil=>cases h
 | cons a r=>exact⟨a,r,rfl,Nat.succ.inj h⟩
theorem len2 {α:Type} {us:List α} (h:us.length=2):∃ a b,us=[a,b]:=by
 obtain⟨a,r,rfl,e⟩:=lenS h; obtain⟨b,rfl⟩:=len1 e; exact⟨a,b,rfl⟩
theorem len3 {α:Type} {us:List α} (h:us.length=3):∃ a b c,us=[a,b,c]:=by
 obtain⟨a,r,rfl,e⟩:=lenS h; obtain⟨b,c,rfl⟩:=len2 e; exact⟨a,b,c,rfl⟩
theorem len4 {α:Type} {us:List α} (h:us.length=4):∃ a b c d,us=[a,b,c,d]:=by
 obtain⟨a,r,rfl,e⟩:=lenS h; obtain⟨b,c,d,rfl⟩:=len3 e; exact⟨a,b,c,d,rfl⟩
theorem len5 {α:Type} {us:List α} (h:us.length=5):∃ a b c d e,us=[a,b,c,d,e]:=by
 obtain⟨a,r,rfl,q⟩:=lenS h; obtain⟨b,c,d,e,rfl⟩:=len4 q; exact⟨a,b,c,d,e,rfl⟩
end L2
namespace L2
open PySem PySem.Spec PyProof.Rows
open PySem.AutoSeq1 (wpAny_loadPart')
open PySem.MeetsSeq
section
end
section
variable {X:Cx}
end
end L2
namespace L2
open PySem PySem.Spec PyProof.Rows PySem.W PySem.Calls
section
variable {P:Program} {w:World} {K:PySem.W.Frag} {A:Around}
end
end L2
namespace L2
open PySem PyProof.Rows
section
variable {X:Cx}
end
end L2
namespace L2
open PySem PyProof.Rows
section
variable {prog:Program} {w:World} {A:Around} {E:Value→Shared→Prop} {s:Shared}
def PairIn (h:Heap) (v:Value) (p:Int × Int):Prop:=∃(a:Addr) (o:Obj) (n:Nat) (t u:Tok),v=.ref a∧h.get? a=some o∧o.cls=.type "tuple"∧o.data=.seq #[.int p.1 t,.int p.2 u] n
def pLt (p q:Int × Int):Bool:=decide (p.1 < q.1∨(p.1=q.1∧p.2 < q.2))
theorem keyLt_pair {v u:Value} {p q:Int × Int} {Q:Bool→Shared→Prop} (hv:PairIn s.heap v p) (hu:PairIn s.heap u q) (h:Q (pLt p q) s):wpAny (model prog w) A (keyLt' (tuples' true) v u) Q E s:=by
 obtain⟨a,o,n,t1,t2,rfl,g1,_,d1⟩:=hv
 obtain⟨b,o',n',t3,t4,rfl,g2,_,d2⟩:=hu
 refine PySem.W.kat_lt g1 d1 g2 d2 ?_
 refine PySem.W.kat_cons (wpAny_eqBool_int ?_)
 unfold pLt at h
 by_cases e:p.1=q.1
 ·rw[beq_iff_eq.mpr e]
  refine PySem.W.kat_yes (PySem.W.kat_cons (wpAny_eqBool_int ?_))
  by_cases e2:p.2=q.2
  ·rw[beq_iff_eq.mpr e2]
   refine PySem.W.kat_yes (PySem.W.kat_nil ?_)
   have:decide (p.1 < q.1∨(p.1=q.1∧p.2 < q.2))=false:=decide_eq_false (by omega)
   rw[this] at h
   exact h
  ·rw[show(p.2 == q.2)=false from by simpa using e2]
   refine PySem.W.kat_no (PySem.W.kat_one _ _ (wpAny_lt_int ?_))
   have:decide (p.1 < q.1∨(p.1=q.1∧p.2 < q.2))=decide (p.2 < q.2):=decide_eq_decide.mpr (by omega)
   rw[this] at h
   exact h
 ·rw[show(p.1 == q.1)=false from by simpa using e]
  refine PySem.W.kat_no (oneLt_int ?_)
  have:decide (p.1 < q.1∨(p.1=q.1∧p.2 < q.2))=decide (p.1 < q.1):=decide_eq_decide.mpr (by omega)
  rw[this] at h
  exact h
def rankOf (ps:List (Int × Int)) (i:Nat):Int:=((ps.countP fun p=>pLt p (ps.getD i (0,0)):Nat):Int)
theorem pLt_iff (p q:Int × Int):pLt p q=true ↔ (p.1 < q.1∨(p.1=q.1∧p.2 < q.2)):=by unfold pLt; exact decide_eq_true_iff
theorem countP_lt {α:Type} {f g:α→Bool}:∀ {l:List α},(∀ x ∈ l,f x=true→g x=true)→(∃ x ∈ l,g x=true∧f x=false)→l.countP f < l.countP g
 | [],_,⟨_,h,_⟩=>absurd h zK
 | y::l,h,⟨x,hx,h1,h2⟩=>by
  have mono:l.countP f≤l.countP g:=kI fun z hz=>h z (zI _ hz)
  have hy:=h y zL
  rw[List.countP_cons,List.countP_cons]
  rcases zQ.mp hx with e|e
  ·subst e
   rw[h1,h2]
   simp only [if_true,zY,if_false]
   omega
  ·have ih:=countP_lt (fun z hz=>h z (zI _ hz)) ⟨x,e,h1,h2⟩
   cases e1:f y with
   | true=>rw[hy e1]; simp only [if_true]; omega
   | false =>
    simp only [zY,if_false]
    split <;> omega
theorem rank_lt {ps:List (Int × Int)} {i j:Nat} (hi:i < ps.length):decide (rankOf ps i < rankOf ps j)=pLt (ps.getD i (0,0)) (ps.getD j (0,0)):=by
 have hm:ps.getD i (0,0) ∈ ps:=by rw[zA,zB hi]; exact qW hi
 cases e:pLt (ps.getD i (0,0)) (ps.getD j (0,0)) with
 | true =>
  refine decide_eq_true ?_
  unfold rankOf
  have:=countP_lt (f:=fun p=>pLt p (ps.getD i (0,0))) (g:=fun p=>pLt p (ps.getD j (0,0))) (l:=ps) (fun x _ h=>?_) ⟨_,hm,e,?_⟩
  ·omega
  ·rw[pLt_iff] at h e ⊢; omega
  ·cases z:pLt (ps.getD i (0,0)) (ps.getD i (0,0)) with
   | false=>rfl
   | true=>rw[pLt_iff] at z; omega
 | false =>
  refine decide_eq_false ?_
  unfold rankOf
  have:=kI (p:=fun p=>pLt p (ps.getD j (0,0))) (q:=fun p=>pLt p (ps.getD i (0,0))) (l:=ps) fun x _ h=>by
   have ne:¬ ((ps.getD i (0,0)).1 < (ps.getD j (0,0)).1∨((ps.getD i (0,0)).1=(ps.getD j (0,0)).1∧(ps.getD i (0,0)).2 < (ps.getD j (0,0)).2)):=fun z=>by
    rw[(pLt_iff _ _).mpr z] at e; cases e
   rw[pLt_iff] at h ⊢
   omega
  omega
def pairS (vs:List Value) (ps:List (Int × Int)):SrtS:=⟨pairsOf vs,rankOf ps,tuples' true⟩
theorem pairs_at {vs:List Value} {i:Nat} {v:Value} (h:vs[i]?=some v):(pairsOf vs)[i]?=some (v,v):=by
 rw[← yG,pairsOf_toList,qP]
 exact⟨h,h⟩
theorem pairS_lt {vs:List Value} {ps:List (Int × Int)} (hl:vs.length=ps.length) (hp:∀(i:Nat) v,vs[i]?=some v→PairIn s.heap v (ps.getD i (0,0))):LtOk prog w A E s (pairS vs ps):=fun {st g i j Q} G hi hj h=>by
 have sz:(pairS vs ps).arr.size=vs.length:=pairsOf_size vs
 have at_:∀ {k:Nat},k < (pairS vs ps).arr.size→∃ v,(arrOf st)[k]?=some (v,v)∧PairIn s.heap v (ps.getD (gAt g k) (0,0)):=fun {k} hk=>by
  have gm:=gAt_mem G hk
  have hg:k < g.size:=by rw[G.size]; exact hk
  obtain⟨v,hv⟩:∃ v,vs[gAt g k]?=some v:=⟨vs[gAt g k]'(by omega),zB _⟩
  refine⟨v,?_,hp _ v hv⟩
  have e:g[k]?=some (gAt g k):=by unfold gAt; rw[yZ hg]; rfl
  rw[G.at' k,e]
  exact pairs_at hv
 obtain⟨v,ev,pv⟩:=at_ hi
 obtain⟨u,eu,pu⟩:=at_ hj
 rw[ltAt'_eq]
 refine wpS_bind (wpS_get ?_)
 show wpS _ _ _ _ (do let x1 ← elem' (arrOf st) i; let x2 ← elem' (arrOf st) j; lt' x1 x2) Q st
 rw[elem'_eq,elem'_eq,ev,eu]
 refine wpS_bind (wpS_pure (wpS_bind (wpS_pure ?_)))
 rw[lt'_eq]
 refine wpS_bind (wpS_get ?_)
 rw[show kindOf st=tuples' true from G.base.kind]
 refine wpS_bind (wpS_lift (wpAny_attempt (keyLt_pair pv pu ⟨rfl,?_⟩)))
 have gi:gAt g i < ps.length:=by have:=gAt_mem G hi; omega
 have e:=rank_lt (ps:=ps) (i:=gAt g i) (j:=gAt g j) gi
 rw[← e]
 exact wpS_pure h
theorem PairIn.keep {h h':Heap} {v:Value} {p:Int × Int} (k:∀ b o,o.cls=.type "tuple"→h.get? b=some o→h'.get? b=some o) (x:PairIn h v p):PairIn h' v p:=by
 obtain⟨a,o,n,t,u,e,g,c,d⟩:=x
 exact⟨a,o,n,t,u,e,k a o c g,c,d⟩
def RankOut (ps:List (Int × Int)) (vs:List Value) (out:Array Value):Prop:=∃ is:List Nat,is.Perm (List.range vs.length)∧out.toList=is.map (fun i=>vs.getD i .none)∧is.Pairwise fun i j=>rankOf ps i < rankOf ps j∨(rankOf ps i=rankOf ps j∧i < j)
theorem rank_out {vs:List Value} {ps:List (Int × Int)} {st:SortSt} {g:Array Nat} (ha:∀ k:Nat,(arrOf st)[k]?=(g[k]?).bind fun(p:Nat)=>(pairsOf vs)[p]?) (hp:g.toList.Perm (List.range vs.length)) (hs:SortedL (pairS vs ps) g vs.length):RankOut ps vs ((arrOf st).map (·.2)):=by
 have hgl:g.size=vs.length:=by have:=hp.length_eq; simpa using this
 have hm:∀ k,k < vs.length→g[k]?=some (gAt g k)∧gAt g k < vs.length:=fun k hk=>by
  have e:g[k]?=some g[k]:=yZ (by omega)
  have:g[k] ∈ g.toList:=by simp
  have e2:gAt g k=g[k]:=by unfold gAt; rw[e]; rfl
  rw[e2]
  exact⟨e,yC.mp (hp.mem_iff.mp this)⟩
 refine⟨g.toList,hp,?_,?_⟩
 ·refine qR fun k=>?_
  rw[yG,Array.getElem?_map,ha,zE,yG]
  by_cases hk:k < vs.length
  ·obtain⟨e,hl⟩:=hm k hk
   rw[e]
   show Option.map _ ((pairsOf vs)[gAt g k]?)=_
   rw[pairs_at (v:=vs.getD (gAt g k) .none) (by rw[zA,zB hl]; rfl)]
   rfl
  ·rw[show g[k]?=none from yP (by omega)]
   rfl
 ·rw[qO]
  intro i j hi hj hij
  have hi':i < vs.length:=by simpa [hgl] using hi
  have hj':j < vs.length:=by simpa [hgl] using hj
  have li:∀ {k:Nat} (hk:k < g.toList.length),k < vs.length→g.toList[k]=gAt g k:=fun {k} hk hk'=>by
   have:g.toList[k]?=some (gAt g k):=by rw[yG]; exact(hm k hk').1
   exact(zD.mp this).2
  rw[li hi hi',li hj hj']
  exact hs i j hij hj'
theorem sortT_tree {a:Addr} {vs:List Value} {ps:List (Int × Int)} {n:Nat} {P:Fin→Shared→Prop} (hx:s.heap.get? a=some (seqObj "list" vs.toArray n)) (hl:vs.length=ps.length) (hp:∀(i:Nat) v,vs[i]?=some v→PairIn s.heap v (ps.getD i (0,0))) (h64:vs.length < 64)
  (h:∀ out:Array Value,RankOut ps vs out→P (.done (.ret .none)) { s with heap:=sortedHeap s.heap a vs out }):wpAny (model prog w) A (Builtin.«list.sort» ⟨[.ref a],[]⟩) P E s:=by
 rw[list_sort_plain]
 have la:a < s.heap.objs.size:=Heap.lt_size hx
 refine wpAny_bind (listItems_at hx rfl (wpAny_bind (listUpdate_at hx rfl ?_)))
 obtain⟨c1,x1⟩:∃ c1,(s.heap.update a (Obj.mapSeq fun _=>#[])).get? a=some (seqObj "list" #[] c1):=⟨_,get?_update_seq hx (fun _=>#[])⟩
 refine wpAny_bind (seqEpoch_at x1 rfl (wpAny_bind (wpAny_newTuple (wpAny_bind (wpAny_newList (wpAny_holding ?_))))))
 have old:∀ b o,b ≠ a→s.heap.get? b=some o→(((s.heap.update a (Obj.mapSeq fun _=>#[])).push (seqObj "tuple" vs.toArray 0)).push (seqObj "list" #[] 0)).get? b=some o:=fun b o nb e=>by
  have lb:b < s.heap.objs.size:=Heap.lt_size e
  rw[Heap.get?_push_ne _ _ _ (by rw[size_push',Heap.size_update]; omega),Heap.get?_push_ne _ _ _ (by rw[Heap.size_update]; omega),Heap.get?_update_ne _ _ _ _ nb]
  exact e
 have x6:(((s.heap.update a (Obj.mapSeq fun _=>#[])).push (seqObj "tuple" vs.toArray 0)).push (seqObj "list" #[] 0)).get? a=some (seqObj "list" #[] c1):=by
  rw[Heap.get?_push_ne _ _ _ (by rw[size_push',Heap.size_update]; omega),Heap.get?_push_ne _ _ _ (by rw[Heap.size_update]; omega)]
  exact x1
 have hp6:∀(i:Nat) v,vs[i]?=some v→PairIn (((s.heap.update a (Obj.mapSeq fun _=>#[])).push (seqObj "tuple" vs.toArray 0)).push (seqObj "list" #[] 0)) v (ps.getD i (0,0)):=fun i v hv=>(hp i v hv).keep fun b o cl e=>old b o (fun z=>by subst z; rw[hx] at e; cases e; exact absurd (show Value.type "list"=Value.type "tuple" from cl) (fun z=>by injection z with z; exact absurd z (by decide))) e
 show wpAny (model prog w) A _ P E { s with heap:=(((s.heap.update a (Obj.mapSeq fun _=>#[])).push (seqObj "tuple" vs.toArray 0)).push (seqObj "list" #[] 0)) }
 dsimp only
 have sz:vs.toArray.size=vs.length:=by simp
 by_cases h2:vs.toArray.size < 2
 ·rw[if_pos h2,if_pos h2]
  refine wpAny_bind (wpAny_pure ?_)
  rw[StateT.run_pure]
  refine wpAny_bind (wpAny_pure ?_)
  dsimp only
  refine wpAny_bind (seqEpoch_at x6 rfl (wpAny_bind (listUpdate_at x6 rfl ?_ (hsz2:=by rw[jV]; show(pairsOf vs).size≤_; rw[pairsOf_size,sizeLine_eq]; omega))))
  simp only [bne_self_eq_false,zY,if_false]
  refine wpAny_pure (h _ (rank_out (ps:=ps) (st:=SortSt.mk' general' (vs.toArray.zip vs.toArray) #[] 7 none) (g:=Array.range vs.length) (fun k=>?_) (by rw[jL]) (fun i j hij hj=>by omega)))
  show(pairsOf vs)[k]?=_
  by_cases hk:k < vs.length
  ·rw[show(Array.range vs.length)[k]?=some k by simp [hk]]
   rfl
  ·rw[yP (by rw[pairsOf_size]; omega),yP (by simpa using hk)]
   rfl
 ·rw[if_neg h2,if_neg h2]
  rw[sz] at h2
  have kt:∀(l:List Value) (q:List (Int × Int)),(∀(i:Nat) v,l[i]?=some v→PairIn (((s.heap.update a (Obj.mapSeq fun _=>#[])).push (seqObj "tuple" vs.toArray 0)).push (seqObj "list" #[] 0)) v (q.getD i (0,0)))→∃ fs:List Value,fs.length=l.length∧(∀ f ∈ fs,∃ i t,f=.int i t)∧PySem.W.KatTups (((s.heap.update a (Obj.mapSeq fun _=>#[])).push (seqObj "tuple" vs.toArray 0)).push (seqObj "list" #[] 0)) l fs:=fun l=>by
   induction l with
   | nil=>exact fun _ _=>⟨[],rfl,fun _ z=>absurd z zK,PySem.W.KatTups.nil⟩
   | cons v l ih =>
    intro q hq
    obtain⟨b,o,m,t,u',rfl,g1,c1',d1⟩:=hq 0 v rfl
    obtain⟨fs,e1,e2,e3⟩:=ih (q.drop 1) fun i v' hv'=>by
     have:=hq (i + 1) v' hv'
     rw[zA] at this ⊢
     rw[List.getElem?_drop,Nat.add_comm]
     exact this
    refine⟨.int _ t::fs,by rw[zS,zS,e1],fun f hf=>?_,PySem.W.KatTups.cons g1 c1' d1 rfl e3⟩
    rcases zQ.mp hf with z|z
    ·exact⟨_,_,z⟩
    ·exact e2 f z
  obtain⟨fs,f1,f2,f3⟩:=kt vs ps hp6
  refine wpAny_bind (PySem.W.kat_kind (T:=.type "int") f3 (by omega) (fun f hf=>?_) (by decide) ?_)
  ·obtain⟨i,t,rfl⟩:=f2 f hf
   exact .now
  refine wpAny_bind (wpAny_mono (wpS_sortG (a₀:=pairS vs ps) (st:=SortSt.mk' (tuples' true) (vs.toArray.zip vs.toArray) #[] 7 none)
   (Q:=fun _ st'=>∃ gg:Array Nat,(arrOf st').Perm (pairsOf vs)∧failedOf st'=none∧(∀ k:Nat,(arrOf st')[k]?=(gg[k]?).bind fun(p:Nat)=>(pairsOf vs)[p]?)∧gg.toList.Perm (List.range (pairsOf vs).size)∧SortedL (pairS vs ps) gg (pairsOf vs).size)
   (pairS_lt hl hp6) ⟨Array.Perm.refl _,rfl,rfl,rfl⟩ rfl (by show 2≤(pairsOf vs).size; rw[pairsOf_size]; omega) (by show(pairsOf vs).size < 64; rw[pairsOf_size]; exact h64) fun st' gg a1 a2 a3 a4 a5=>⟨gg,a1,a2,a3,a4,a5⟩) ?_ fun _ _ e=>e)
  rintro⟨⟨⟩,st'⟩ s' ⟨rfl,gg,hpm,hf,ha,hgp,hs⟩
  dsimp only
  rw[pairsOf_size] at hgp hs
  refine wpAny_bind (seqEpoch_at x6 rfl (wpAny_bind (listUpdate_at x6 rfl ?_ (hsz2:=by refine z4 (qZ ((jV ..).trans (hpm.size_eq.trans (pairsOf_size _)))) ?_; rw[sizeLine_eq]; omega))))
  rw[hf]
  simp only [bne_self_eq_false,zY,if_false]
  exact wpAny_pure (h _ (rank_out ha hgp hs))
theorem sorted_pairs {l:Addr} {vs:List Value} {ps:List (Int × Int)} {Q:Value→Shared→Prop} (hl:s.heap.IsList l vs.toArray) (len:vs.length=ps.length) (hp:∀(i:Nat) v,vs[i]?=some v→PairIn s.heap v (ps.getD i (0,0))) (h64:vs.length < 64)
  (h:∀ out:Array Value,RankOut ps vs out→Q (.ref (s.heap.objs.size + 1)) { s with heap:=sortedAll s.heap vs out }):wpAny (model prog w) A (call (.builtin "sorted") [.ref l]) Q E s:=by
 refine Calls.call_function_entry (E:=E) kind_sorted plain_sorted entry_sorted (args_sorted1 _) ?_
 unfold Builtin.«sorted»
 refine wpAny_bind (m:=checkCount "sorted" 1 1 _) (wpAny_pure (wpAny_bind (collect_list hl (wpAny_bind (wpAny_newList ?_)))))
 have z1:((s.heap.push (seqObj "list" #[] 0)).update s.heap.objs.size (Obj.mapSeq (·++vs.toArray))).objs.size=s.heap.objs.size + 1:=by rw[Heap.size_update,size_push']
 have z2:(((s.heap.push (seqObj "list" #[] 0)).update s.heap.objs.size (Obj.mapSeq (·++vs.toArray))).push (seqObj "list" vs.toArray 0)).get? (s.heap.objs.size + 1)=some (seqObj "list" vs.toArray 0):=by rw[← z1]; exact Heap.get?_push_size _ rfl
 have hp2:∀(i:Nat) v,vs[i]?=some v→PairIn (((s.heap.push (seqObj "list" #[] 0)).update s.heap.objs.size (Obj.mapSeq (·++vs.toArray))).push (seqObj "list" vs.toArray 0)) v (ps.getD i (0,0)):=fun i v hv=>(hp i v hv).keep fun b o _ e=>by
  have lb:b < s.heap.objs.size:=Heap.lt_size e
  rw[Heap.get?_push_ne _ _ _ (by rw[z1]; omega),Heap.get?_update_ne _ _ _ _ (by omega),Heap.get?_push_ne _ _ _ (by omega)]
  exact e
 show wpAny _ _ _ _ _ { s with heap:=(((s.heap.push (seqObj "list" #[] 0)).update s.heap.objs.size (Obj.mapSeq (·++vs.toArray))).push (seqObj "list" vs.toArray 0)) }
 rw[z1]
 exact wpAny_bind (wpAny_holding (wpAny_call_entry slot_list_sort ⟨_,z2,rfl⟩ entry_list_sort (sortT_tree z2 len hp2 h64 fun out ro=>⟨_,rfl,wpAny_pure ⟨_,rfl,h out ro⟩⟩) (args_list_sort _)))
end
section
variable {X:Cx}
def RankV (ps:List (Int × Int)) (us out:List V):Prop:=∃ is:List Nat,is.Perm (List.range us.length)∧out=is.map (fun i=>us.getD i .non)∧is.Pairwise fun i j=>rankOf ps i < rankOf ps j∨(rankOf ps i=rankOf ps j∧i < j)
theorem call_srtP:CallR X (.builtin "sorted") (fun xs H Q=>∃(p:Addr) (us:List V) (ps:List (Int × Int)),xs=[.ref p]∧SqL X.K H p us∧us.length=ps.length∧(∀(i:Nat) v,us[i]?=some v→∃ a,v=.ref a∧H a=some (.tup [.int (ps.getD i (0,0)).1,.int (ps.getD i (0,0)).2]))∧us.length < 64∧∀(l:Addr) (out:List V),H l=none→RankV ps us out→Q (.ref l) (upd H l (.lst out))):=by
 intro pins s σ H xs us Q I r h
 obtain⟨p,uv,ps,rfl,hq,hlen,htup,h64,q⟩:=h
 obtain⟨u,rfl,ru⟩:=vals1 r
 cases ru
 obtain⟨its,rv,pl,hz⟩:=I.list hq
 have hl2:=rv.length
 have gt:∀(i:Nat) v,its[i]?=some v→∃ x,uv[i]?=some x∧RelV x v:=fun i v hv=>by
  obtain⟨x,hx⟩:∃ x,uv[i]?=some x:=⟨uv[i]'(by have:=(zD.mp hv).1; omega),zB _⟩
  obtain⟨v',hv',rr⟩:=Vals.get rv hx
  rw[hv] at hv'
  cases hv'
  exact⟨x,hx,rr⟩
 refine sorted_pairs (ps:=ps) pl.isList (by omega) (fun i v hv=>?_) (by omega) fun out ro=>?_
 ·obtain⟨x,hx,rr⟩:=gt i v hv
  obtain⟨a,rfl,ha⟩:=htup i x hx
  cases rr
  obtain⟨_,its2,rv2,o,g1,g2,n,g3⟩:=(show ObjOk X.prog X.w H s.heap a (.tup _) from I.hok a _ ha)
  obtain⟨u1,u2,e2,⟨t1,rfl⟩,⟨t2,rfl⟩⟩:=vals2 rv2
  subst e2
  exact⟨a,o,n,t1,t2,rfl,g1,g2,g3⟩
 ·obtain⟨e,he⟩:=sortedAll_at s.heap its out
  obtain⟨is,h1,h2,h3⟩:=ro
  have hv:Vals (is.map fun i=>uv.getD i .non) out.toList:=by
   rw[h2]
   have all:∀ l:List Nat,(∀ i ∈ l,i < its.length)→Vals (l.map fun i=>uv.getD i .non) (l.map fun i=>its.getD i Value.none):=fun l=>by
    induction l with
    | nil=>exact fun _=>.nil
    | cons i l ih =>
     intro hi
     have li:=hi i zL
     obtain⟨x,hx,rr⟩:=gt i (its.getD i Value.none) (by rw[zA,zB li]; rfl)
     refine .cons ?_ (ih fun j hj=>hi j (zI _ hj))
     show RelV (uv.getD i .non) (its.getD i Value.none)
     rw[zA,hx]
     exact rr
   exact all is fun i hi=>yC.mp (h1.mem_iff.mp hi)
  have ll:(is.map fun i=>uv.getD i .non).length=uv.length:=by rw[zC,h1.length_eq,z9]; omega
  refine⟨.ref _,_,I.laid (t':=s.toks) (o:=.lst (is.map fun i=>uv.getD i .non)) (fun _ _=>sortedAll_old) (yM _) ⟨?_,out.toList,e,hv,he⟩,rfl,q _ _ (I.hok.fresh (yM _)) ⟨is,by rw[hl2]; exact h1,rfl,h3⟩⟩
  rw[ll]
  exact yQ (small1000 (by omega))
end
end L2
namespace L2
open PySem PyProof.Rows
section
variable {prog:Program} {w:World} {A:Around} {R:Result→Shared→Prop} {I S l:Addr} {vs:List Value} {KI:Heap→Nat→Value→Prop} {bt:Nat→Nat→Bool} {kw:List (Str × Value)}
theorem mnT_loop (hh:A.handled=none) (hlI:l ≠ I) (hSI:S ≠ I) (hlS:l ≠ S) (s₀:Shared) (turn:∀ h i v,Kept s₀.heap h→vs[i]?=some v→KI h i v)
  (mono:∀ h h' i u,KI h i u→TupK h h'→KI h' i u) (hcmp:∀ i j u v (s:Shared) (Q E:Value→Shared→Prop),KI s.heap i u→KI s.heap j v→Q (.bool (bt i j)) s→wpAny (model prog w) A.in1 (richCompare .Lt u v) Q E s)
  (hfI:s₀.heap.get? I=none) (hfS:s₀.heap.get? S=none)
  (hR:∀ v h' tk,vs[argBest bt (vs.length - 1)]?=some v→Kept s₀.heap h'→R (.ok (.ret v)) { s₀ with heap:=h',toks:=tk }) :
  ∀(k j:Nat) (h:Heap) (tk:Nat) (vb kb:Value) (c:Nat),vs.length - (j + 1)=k→j + 1≤vs.length→Kept s₀.heap h→h.IsListIter I l (j + 1)→h.IsList l vs.toArray→KI h (argBest bt j) kb→vs[argBest bt j]?=some vb →
   h.get? S=some (seqObj "list" #[vb,kb] c)→
   codeAny (model prog w) A (.builtin "min.loop" ⟨[.ref I,.none,.ref S],kw⟩) R { s₀ with heap:=h,toks:=tk }:=by
 have W:=Walks.list (prog:=prog) (w:=w) (A:=A.in1) hh I l hlI vs.toArray
 have hsz:vs.toArray.size=vs.length:=zM ..
 intro k
 induction k with
 | zero =>
  intro j h tk vb kb c hk hj K0 hit hls hK hvb hS 
  have hin:j + 1=vs.length:=by omega
  refine codeAny_builtin PySem.F.entry_min_loop (by
   rw[Around.under_plainId PySem.F.plain_min_loop _]
   refine wpAny_bind (m:=seqItems? (.ref S)) (wpAny_seqItems hS rfl (wpAny_bind (wpAny_tryCatch (W.done _ _ _ ⟨by rw[hsz,← hin]; exact hit,hls⟩ fun h' tk' hk'=>?_))))
   have hS':=hk' S _ (fun z=>hSI (zF.mp z)) hS
   refine wpAny_bind (m:=updateSeq S (fun _=>#[])) (wpAny_updateSeq hS' rfl (wpAny_bind (wpAny_letGo (wpAny_pure ?_))))
   refine hR vb _ _ (by rw[← hin]; exact hvb) fun b o e=>?_
   have n1:b ≠ S:=fun z=>by rw[z,hfS] at e; cases e
   have n2:b ≠ I:=fun z=>by rw[z,hfI] at e; cases e
   exact(Heap.get?_update_other _ _ (Ne.symm n1)).trans (hk' b o (fun z=>n2 (zF.mp z)) (K0 b o e)))
 | succ k ih =>
  intro j h tk vb kb c hk hj K0 hit hls hK hvb hS 
  have hlt:j + 1 < vs.length:=by omega
  refine codeAny_builtin PySem.F.entry_min_loop (by
   rw[Around.under_plainId PySem.F.plain_min_loop _]
   refine wpAny_bind (m:=seqItems? (.ref S)) (wpAny_seqItems hS rfl (wpAny_bind (wpAny_tryCatch (W.item (j + 1) _ _ _ (by rw[hsz]; exact hlt) ⟨hit,hls⟩ fun v h' tk' hP hst' hk'=>?_))))
   have hv:vs[j + 1]?=some v:=by simpa using hP
   have hS':=hk' S _ (fun z=>hSI (zF.mp z)) hS
   have T1:=tupK_it hit hk'
   have K1:Kept s₀.heap h':=fun b o e=>hk' b o (fun z=>by rw[zF.mp z,hfI] at e; cases e) (K0 b o e)
   obtain⟨h2,u,tk2,e2,st2,K2,hS2,hKu,hKb⟩:∃(h2:Heap) (u:Value) (tk2:Nat),(h2=h'∧v=u∧tk'=tk2)∧(h2.IsListIter I l (j + 1 + 1)∧h2.IsList l vs.toArray)∧Kept s₀.heap h2∧h2.get? S=some (seqObj "list" #[vb,kb] c)∧KI h2 (j + 1) u∧KI h2 (argBest bt j) kb :=
    ⟨h',v,tk',⟨rfl,rfl,rfl⟩,hst',K1,hS',turn _ _ _ K1 hv,mono _ _ _ _ hK T1⟩
   obtain⟨rfl,rfl,rfl⟩:=e2
   refine wpAny_bind (wpAny_pure (wpAny_bind (wpAny_tryCatch (wpAny_holding (wpAny_bind (m:=richCompare .Lt v kb) (hcmp (j + 1) (argBest bt j) v kb _ _ _ hKu hKb ?_))))))
   refine wpAny_bind (wpAny_holding (wpAny_truthy_bool (wpAny_bind (wpAny_letGo (wpAny_pure ?_)))))
   cases hb:bt (j + 1) (argBest bt j) with
   | true =>
    simp only [if_true]
    refine wpAny_bind (wpAny_updateSeq hS2 rfl (wpAny_bind (wpAny_letGo ?_)))
    rw[min_nm]
    have T3:TupK h2 (h2.update S (Obj.mapSeq fun _=>#[v,v])):=tupK_upd hS2 rfl
    have oth:∀ b o,b ≠ S→h2.get? b=some o→(h2.update S (Obj.mapSeq fun _=>#[v,v])).get? b=some o:=fun b o n e=>(Heap.get?_update_other _ _ (Ne.symm n)).trans e
    obtain⟨oI,i1,i2,i3⟩:=st2.1
    obtain⟨oL,l1,l2⟩:=st2.2
    refine wpAny_pure ⟨plainId_quiet PySem.F.plain_min_loop _,ih (j + 1) _ _ v v _ (by omega) hlt (fun b o e=>oth b o (fun z=>by rw[z,hfS] at e; cases e) (K2 b o e)) ⟨oI,oth _ _ hSI.symm i1,i2,i3⟩ ⟨oL,oth _ _ hlS l1,l2⟩ ?_ ?_ (Heap.get?_update_self _ hS2 rfl) ⟩
    ·simp only [argBest,hb,if_true]; exact mono _ _ _ _ hKu T3
    ·simp only [argBest,hb,if_true]; exact hv
   | false =>
    simp only [zY,if_false]
    refine wpAny_bind (wpAny_letGo ?_)
    rw[min_nm]
    refine wpAny_pure ⟨plainId_quiet PySem.F.plain_min_loop _,ih (j + 1) _ _ vb kb _ (by omega) hlt K2 st2.1 st2.2 ?_ ?_ hS2 ⟩
    ·simp only [argBest,hb,zY,if_false]; exact hKb
    ·simp only [argBest,hb,zY,if_false]; exact hvb)
theorem mnN_call {Q E:Value→Shared→Prop} {s:Shared} (hh:A.handled=none) (hl:s.heap.IsList l vs.toArray) (ha:argsOk "min" ⟨[.ref l],[]⟩) (turn:∀ h i v,Kept s.heap h→vs[i]?=some v→KI h i v)
  (mono:∀ h h' i u,KI h i u→TupK h h'→KI h' i u) (hcmp:∀ i j u v (s:Shared) (Q E:Value→Shared→Prop),KI s.heap i u→KI s.heap j v→Q (.bool (bt i j)) s→wpAny (model prog w) A.in1 (richCompare .Lt u v) Q E s)
  (hn:0 < vs.length) (hne:∀ v h' tk,vs[argBest bt (vs.length - 1)]?=some v→Kept s.heap h'→Q v { s with heap:=h',toks:=tk }) :
  wpAny (model prog w) A (call (.builtin "min") [.ref l]) Q E s:=by
 refine kmk_tree PySem.F.kind_min PySem.F.plain_min PySem.F.entry_min ha ?_
 refine wpAny_bind (m:=Builtin.Builtins.bindParams "min" ["key","default"] 0 ⟨[],[]⟩) (wpAny_of_eq (show Builtin.Builtins.bindParams "min" ["key","default"] 0 ⟨[],[]⟩=pure [none,none] from rfl) ?_)
 refine wpAny_bind (wpAny_pure (wpAny_bind (wpAny_pyIter_list hl (wpAny_bind (wpAny_newList ?_ (zW _))))))
 rw[min_nm]
 refine wpAny_pure ⟨plainId_quiet PySem.F.plain_min_loop _,?_⟩
 have hll:l < s.heap.objs.size:=by obtain⟨o,e,_⟩:=hl; exact Heap.lt_size e
 show codeAny _ _ _ _ { s with heap:=(s.heap.push (itO l)).push (seqObj "list" #[] 0) }
 have gI:((s.heap.push (itO l)).push (seqObj "list" #[] 0)).get? s.heap.objs.size=some (itO l):=Heap.get?_push_of_some _ (Heap.get?_push_size _ rfl)
 have hSz:(s.heap.push (itO l)).objs.size=s.heap.objs.size + 1:=size_push' ..
 have gS:((s.heap.push (itO l)).push (seqObj "list" #[] 0)).get? (s.heap.push (itO l)).objs.size=some (seqObj "list" #[] 0):=Heap.get?_push_size _ rfl
 have KK:Kept s.heap ((s.heap.push (itO l)).push (seqObj "list" #[] 0)):=fun b o e=>Heap.get?_push_of_some _ (Heap.get?_push_of_some _ e)
 have hl2:((s.heap.push (itO l)).push (seqObj "list" #[] 0)).IsList l vs.toArray:=by obtain⟨o,e,r⟩:=hl; exact⟨o,KK _ _ e,r⟩
 rw[hSz] at gS
 have hSz':(s.heap.push { cls:=.type "list_iterator",data:=.fields #[.ref l,.int 0 0] }).objs.size=s.heap.objs.size + 1:=hSz
 try rw[hSz']
 generalize hI:s.heap.objs.size=I at *
 have hlI:l ≠ I:=zR hll
 have hSI:I + 1 ≠ I:=qT _
 have hlS:l ≠ I + 1:=zR (yS hll)
 have hfI:s.heap.get? I=none:=Heap.get?_none_of_le (by omega)
 have hfS:s.heap.get? (I + 1)=none:=Heap.get?_none_of_le (by omega)
 generalize ((s.heap.push (itO l)).push (seqObj "list" #[] 0))=h1 at *
 have W:=Walks.list (prog:=prog) (w:=w) (A:=A.in1) hh I l hlI vs.toArray
 have hsz:vs.toArray.size=vs.length:=zM ..
 have hit:h1.IsListIter I l 0:=⟨_,gI,rfl,rfl⟩
 refine codeAny_builtin PySem.F.entry_min_loop (by
  rw[Around.under_plainId PySem.F.plain_min_loop _]
  refine wpAny_bind (m:=seqItems? (.ref (I + 1))) (wpAny_seqItems gS rfl (wpAny_bind (wpAny_tryCatch (W.item 0 _ _ _ (by rw[hsz]; exact hn) ⟨hit,hl2⟩ fun v h' tk' hP hst' hk'=>?_))))
  have hv:vs[0]?=some v:=by simpa using hP
  have hS':=hk' (I + 1) _ (fun z=>hSI (zF.mp z)) gS
  have K1:Kept s.heap h':=fun b o e=>hk' b o (fun z=>by rw[zF.mp z,hfI] at e; cases e) (KK b o e)
  obtain⟨h2,u,tk2,e2,st2,K2,hS2,hKu⟩:∃(h2:Heap) (u:Value) (tk2:Nat),(h2=h'∧v=u∧tk'=tk2)∧(h2.IsListIter I l 1∧h2.IsList l vs.toArray)∧Kept s.heap h2∧h2.get? (I + 1)=some (seqObj "list" #[] 0)∧KI h2 0 u:=⟨h',v,tk',⟨rfl,rfl,rfl⟩,hst',K1,hS',turn _ _ _ K1 hv⟩
  obtain⟨rfl,rfl,rfl⟩:=e2
  refine wpAny_bind (wpAny_pure (wpAny_bind (wpAny_updateSeq hS2 rfl ?_)))
  rw[min_nm]
  have T3:TupK h2 (h2.update (I + 1) (Obj.mapSeq fun _=>#[v,v])):=tupK_upd hS2 rfl
  have oth:∀ b o,b ≠ I + 1→h2.get? b=some o→(h2.update (I + 1) (Obj.mapSeq fun _=>#[v,v])).get? b=some o:=fun b o n e=>(Heap.get?_update_other _ _ (Ne.symm n)).trans e
  obtain⟨oI,i1,i2,i3⟩:=st2.1
  obtain⟨oL,l1,l2⟩:=st2.2
  refine wpAny_pure ⟨plainId_quiet PySem.F.plain_min_loop _,mnT_loop hh hlI hSI hlS s turn mono hcmp hfI hfS (fun v' h'' tk'' e1 e2=>hne v' h'' tk'' e1 e2) _ 0 _ _ v v _ rfl hn (fun b o e=>oth b o (fun z=>by rw[z,hfS] at e; cases e) (K2 b o e)) ⟨oI,oth _ _ hSI.symm i1,i2,i3⟩ ⟨oL,oth _ _ hlS l1,l2⟩ (mono _ _ _ _ hKu T3) hv (Heap.get?_update_self _ hS2 rfl)⟩)
end
section
variable {X:Cx}
theorem args_min1 (a:Value):argsOk "min" ⟨[a],[]⟩:=by unfold argsOk; kernel_rfl
theorem call_minT (hc:X.calm=true) (hu:X.A.units + 64 < cLine):CallR X (.builtin "min") (fun xs H Q=>∃(p:Addr) (us:List V) (ks:List (Int × Int)),xs=[.ref p]∧SqL X.K H p us∧ks.length=us.length∧0 < us.length∧(∀(j:Nat) x (k:Int × Int),us[j]?=some x→ks[j]?=some k→∃ t,x=.ref t∧H t=some (.tup [.int k.1,.int k.2]))∧∀ x,us[bestK ks]?=some x→Q x H):=by
 intro pins s σ H xs us Q I r h
 obtain⟨p,uv,ks,rfl,hq,hlen,h0,htup,q⟩:=h
 obtain⟨u,rfl,ru⟩:=vals1 r
 cases ru
 obtain⟨its,rv,pl,hz⟩:=I.list hq
 have hl2:=rv.length
 refine mnN_call (KI:=fun h i v=>∃(a:Addr) (ts:Array Value),v=.ref a∧IsTup h a ts∧IntsAre ts.toList [(ks.getD i (0,0)).1,(ks.getD i (0,0)).2]) (bt:=fun i j=>kLt (ks.getD i (0,0)) (ks.getD j (0,0))) (I.ok.hd hc) pl.isList (args_min1 _) (fun h i v kp hv=>?_) (fun h h' i v z tk=>?_) (fun i j u v s1 Q1 E1 z1 z2 hq'=>?_) (by omega) (fun v h' tk hv hk=>?_)
 ·obtain⟨x,hx⟩:∃ x,uv[i]?=some x:=⟨uv[i]'(by have:=(zD.mp hv).1; omega),zB _⟩
  obtain⟨v',hv',rr⟩:=Vals.get rv hx
  rw[hv] at hv'
  cases hv'
  obtain⟨k,hk⟩:∃ k,ks[i]?=some k:=⟨ks[i]'(by have:=(zD.mp hx).1; omega),zB _⟩
  have ek:ks.getD i (0,0)=k:=by rw[zA,hk]; rfl
  obtain⟨a,rfl,ha⟩:=htup i x k hx hk
  cases rr
  obtain⟨_,its2,rv2,o,g1,g2,n,g3⟩:=(show ObjOk X.prog X.w H s.heap a (.tup _) from I.hok a _ ha)
  obtain⟨u1,u2,e2,⟨t1,rfl⟩,⟨t2,rfl⟩⟩:=vals2 rv2
  subst e2
  rw[ek]
  exact⟨a,_,rfl,⟨o,kp _ _ g1,g2,n,g3⟩,.cons _ t1 (.cons _ t2 .nil)⟩
 ·obtain⟨a,ts,e1,⟨o,e2,e3,e4⟩,e5⟩:=z
  exact⟨a,ts,e1,⟨o,tk a o e3 e2,e3,e4⟩,e5⟩
 ·obtain⟨a,ts,rfl,e2,e3⟩:=z1
  obtain⟨b,ts',rfl,e5,e6⟩:=z2
  refine HT.lt_tupInts (A:=X.A.in1) e2 e5 e3 e6 ?_ hq'
  show X.A.units + 1 < _
  omega
 ·have hb:bestK ks=argBest (fun i j=>kLt (ks.getD i (0,0)) (ks.getD j (0,0))) (its.length - 1):=by unfold bestK; rw[hlen,hl2]
  rw[← hb] at hv
  obtain⟨x,hx⟩:∃ x,uv[bestK ks]?=some x:=⟨uv[bestK ks]'(by have:=(zD.mp hv).1; omega),zB _⟩
  obtain⟨v',hv',rr⟩:=Vals.get rv hx
  rw[hv] at hv'
  cases hv'
  exact⟨x,H,I.kept (t':=tk) hk,rr,q x hx⟩
end
end L2
namespace L2
open PySem PySem.Spec PyProof.Rows
section
variable {X:Cx}
def tRev2 (K:PySem.W.Frag) (te:TE) (tl th ts:TO):TE:=fun σ H Q=>te σ H fun x H1=>tl σ H1 fun l H2=>th σ H2 fun u H3=>ts σ H3 fun k H4 =>
 ∃ a x1 x2,x=.ref a∧SqL K H4 a [x1,x2]∧l=none∧u=none∧k=some (-1)∧∀ p,H4 p=none→Q (.ref p) (upd H4 p (.lst [x2,x1]))
theorem pe_rev2 {e:Expr} {te:TE} {lo hi st:Option Expr} {tl th ts:TO} {pos p2:Pos} (he:PE X e te) (hl:PO X lo tl) (hu:PO X hi th) (hk:PO X st ts)
  (hsub:∀ o i,∃ ops,subscripted (.Slice lo hi st p2) false o i=operate ops (getItem o i):=by intro _ _; exact⟨_,by with_unfolding_all rfl⟩) :
  PE X (.Subscript e (.Slice lo hi st p2) pos) (tRev2 X.K te tl th ts):=by
 intro pins s σ H Q I h
 refine Subscript_ (thn (he pins s σ H _ I h) fun v s1 ⟨x,H1,I1,r1,q1⟩=>?_)
 refine wpAny_Slice (thn (hl pins s1 σ H1 _ I1 q1) fun vl s2 ⟨l,H2,I2,pl,q2⟩=>thn (hu pins s2 σ H2 _ I2 q2) fun vu s3 ⟨u,H3,I3,pu,q3⟩=>thn (hk pins s3 σ H3 _ I3 q3) fun vk s4 ⟨k,H4,I4,pk,q4⟩=>?_)
 obtain⟨a,x1,x2,rfl,hx,rfl,rfl,rfl,q⟩:=q4
 cases r1
 have I5:Inv X pins σ H4 { s4 with heap:=s4.heap.push { cls:=.type "slice",data:=.fields #[vl,vu,vk] } }:=I4.kept (t':=s4.toks) fun b ob q=>Heap.get?_push_of_some _ q
 obtain⟨its,r,ht,hz⟩:=I5.list hx
 obtain⟨v1,v2,rfl,g1,g2⟩:=r.two
 obtain⟨ops,hops⟩:=hsub (.ref a) (.ref s4.heap.objs.size)
 refine tail_any (ops:=ops) ht.isList.typeIs slot_list_getitem.lookup (wpAny_getItem_list_slice ht.isList (Heap.IsSliceOf.new ..) pl pu pk (by decide) ?_ (by show 2≤_; decide)) hops
 refine⟨.ref _,_,I5.laid (t':=s4.toks) (o:=.lst [x2,x1]) (fun b ob q=>Heap.get?_push_of_some _ q) (zH _) ?_,rfl,q _ (I5.hok.fresh (zH _))⟩
 have e:slicePick [v1,v2].toArray none none (some (-1))=#[v2,v1]:=by
  have e1:sliceRange (sliceBounds none none (some (-1)) 2).1 (sliceBounds none none (some (-1)) 2).2.1 (sliceBounds none none (some (-1)) 2).2.2=[1,0]:=by decide +kernel
  show((sliceRange (sliceBounds none none (some (-1)) 2).1 (sliceBounds none none (some (-1)) 2).2.1 (sliceBounds none none (some (-1)) 2).2.2).filterMap _).toArray=_
  rw[e1]
  rfl
 refine⟨by show 2≤_; decide,(slicePick [v1,v2].toArray none none (some (-1))).toList,0,by rw[e]; exact .cons g2 (.cons g1 .nil),?_⟩
 exact Heap.get?_push_size _ rfl
theorem pe_rev2K {K:PySem.W.Frag} {e:Expr} {te:TE} {lo hi st:Option Expr} {tl th ts:TO} {pos p2:Pos} (hK:X.K=K) (he:PE X e te) (hl:PO X lo tl) (hu:PO X hi th) (hk:PO X st ts)
  (hsub:∀ o i,∃ ops,subscripted (.Slice lo hi st p2) false o i=operate ops (getItem o i):=by intro _ _; exact⟨_,by with_unfolding_all rfl⟩) :
  PE X (.Subscript e (.Slice lo hi st p2) pos) (tRev2 K te tl th ts):=by subst hK; exact pe_rev2 he hl hu hk hsub
end
end L2
namespace L2
open PySem PySem.Spec PyProof.Rows
def Cx.compX (X:Cx) (scope:Scope) (cl:List (Str × Addr)) (x0:Str) (c0 C:Addr) (fp:List Addr) (N':List Str) (s2:Shared) (H2:Hp):Cx :=
 { X.comp scope ((x0,c0)::cl) C fp N' s2 H2 with fn:=fun x=>(cl.lookup x).isNone }
structure CompOkX (X:Cx) (scope:Scope) (cl:List (Str × Addr)) (x0:Str) (own fr:List Str) (js:List Nat):Prop where
 kind:scope.kind=.function
 clos:closureFor scope X.env=pure cl
 lay:∀ n,cellsFrom n scope.names cl=(x0,n)::cl
 psh:∀ h,pushCells h scope.names=h.push { cls:=.type "cell",data:=.cell none }
 names:∀ y ∈ scope.names,y.2=.local→scope.names.lookup y.1=some .local
 cells:Each (fun(p:Str × Addr)=>X.env.cells.lookup p.1=some p.2) cl
 nx0:cl.lookup x0=none
 has:Each (fun(p:Str × NameKind)=>((p.2 != .cell && p.2 != .free) || (p.1 == x0) || (cl.lookup p.1).isSome)=true) (relabel scope X.env).names
 fr:Paired (fun(x:Str) (j:Nat)=>(X.N[j]?=some x∧(X.env.kindOf x=some .cell∨X.env.kindOf x=some .free)∧((relabel scope X.env).names.lookup x=some .cell∨(relabel scope X.env).names.lookup x=some .free))∧(cl.lookup x).isSome=true) fr js
 calm:X.calm=true
theorem newEnv1 {M:Model} {A:Around} {E:Value→Shared→Prop} {s:Shared} {scope:Scope} {globals:Addr} {closure:List (Str × Addr)} {qual:Str} {env:Env} {builtins:Addr} {Q:Env→Shared→Prop}
  (hQ:Q (newEnv scope s.heap.objs.size globals (cellsFrom (s.heap.objs.size + 1) scope.names closure) qual none .none (some env) builtins) { s with heap:=pushCells (s.heap.push { cls:=.type "dict",data:=.dict #[] }) scope.names }) :
  wpAny M A (newFunctionEnv scope globals closure [] qual none .none (some env) builtins) Q E s:=by
 simp only [newFunctionEnv,Option.isSome_some,if_true]
 refine wpAny_bind (wpAny_alloc ?_)
 refine wpAny_bind (wpAny_layCells _ (fun name kind cells=>by cases hkc:kind == NameKind.cell <;> simp [hkc]) _ _ _ _ ?_)
 rw[show({ s with heap:=s.heap.push { cls:=.type "dict",data:=.dict #[] } }:Shared).heap.objs.size=s.heap.objs.size + 1 from Heap.size_push ..]
 exact wpAny_bind (wpAny_pure (wpAny_pure hQ))
section
variable {X:Cx} {scope:Scope} {cl:List (Str × Addr)} {x0:Str} {own fr:List Str} {js:List Nat} {pins:List (Addr × Obj)} {σ:St} {H:Hp} {s:Shared}
theorem CompOkX.cell (c:CompOkX X scope cl x0 own fr js) {x:Str} {a:Addr} (h:cl.lookup x=some a):X.env.cells.lookup x=some a:=c.cells.mem _ (PySem.mem_of_lookup h)
theorem look_cons {x0 x:Str} {c0 a:Addr} {cl:List (Str × Addr)} (h:List.lookup x ((x0,c0)::cl)=some a):(x=x0∧a=c0)∨cl.lookup x=some a:=by
 rw[jO] at h
 split at h
 ·rename_i e
  cases h
  exact .inl ⟨eq_of_beq e,rfl⟩
 ·exact .inr h
theorem look_in {x0 x:Str} {c0 a:Addr} {cl:List (Str × Addr)} (n:cl.lookup x0=none) (h:cl.lookup x=some a):List.lookup x ((x0,c0)::cl)=some a:=by
 rw[jO]
 split
 ·rename_i e
  rw[eq_of_beq e,n] at h
  cases h
 ·exact h
theorem look_self {x0:Str} {c0:Addr} {cl:List (Str × Addr)}:List.lookup x0 ((x0,c0)::cl)=some c0:=by
 rw[jO,beq_self_eq_true]
theorem Inv.blockX (c:CompOkX X scope cl x0 own fr js) (I:Inv X pins σ H s) {fp:List Addr} (hf:∀ b ∈ fp,FpOk X pins H b∧b < s.heap.objs.size) {h':Heap} {C D c0:Addr} {m:Str→Option Value} {t':Nat}
  (k:∀ b o,s.heap.get? b=some o→h'.get? b=some o) (hC:s.heap.objs.size≤C) (hD:s.heap.objs.size≤D) (hDC:D ≠ C) (h0:s.heap.objs.size≤c0) (hD0:D ≠ c0) (i0:h'.IsCell c0 none) (ns:h'.Ns C m) (hl:h'.get? D=some { cls:=.type "list",data:=.seq #[] }) :
  Inv (X.compX scope cl x0 c0 C fp (own++fr) s H) [] (blk own js σ) (upd H D (.lst [])) { s with heap:=h',toks:=t' }:=by
 have fC:H C=none:=I.hok.fresh hC
 have lt:∀ {b:Addr} {o:Obj},s.heap.get? b=some o→b < s.heap.objs.size:=fun e=>Heap.lt_size e
 have cne:∀ x a,cl.lookup x=some a→∃ v,s.heap.IsCell a v:=fun x a e=>I.cell x a (c.cell e)
 refine⟨⟨I.ok.mod,c.kind,I.ok.glob,I.ok.blt,hC,fun x y a h1 h2=>?_,fun x hx=>?_,fun x a z e=>?_,I.ok.hd,I.ok.frames,.inl rfl,fun b hb=>⟨?_,fun x a e=>?_⟩,I.bs,z4 I.ok.bsz I.sz,fun b o e hb=>?_,fun b hb hz=>?_,I.stack,I.stkFree⟩,
  rfl,I.bare,?_,⟨m,ns,fun i x v h1 h2 h3=>?_⟩,fun x a e=>?_,?_,fun x a e=>?_,fun p hp=>absurd (show p ∈ ([]:List (Addr × Obj)) from hp) zK,?_,?_⟩
 ·have lc:∀ {x:Str},cl.lookup x=some c0→False:=fun {x} e=>by
   obtain⟨v,o,ho,_⟩:=cne x c0 e
   exact absurd (lt ho) (Nat.not_lt.mpr h0)
  rcases look_cons h1 with ⟨e1,e2⟩|e1 <;> rcases look_cons h2 with ⟨e3,e4⟩|e3
  ·rw[e1,e3]
  ·rw[e2] at e3; exact(lc e3).elim
  ·rw[e4] at e1; exact(lc e1).elim
  ·exact I.ok.inj x y a (c.cell e1) (c.cell e3)
 ·have hx':(relabel scope X.env).names.lookup x=some .cell∨(relabel scope X.env).names.lookup x=some .free:=hx
  have z:∀ kd,(relabel scope X.env).names.lookup x=some kd→(kd=.cell∨kd=.free)→∃ a,List.lookup x ((x0,c0)::cl)=some a:=fun kd e1 e2=>by
   have q:=c.has.mem _ (PySem.mem_of_lookup e1)
   by_cases ex:x=x0
   ·exact⟨c0,by rw[ex]; exact look_self⟩
   ·have q':(cl.lookup x).isSome=true:=by
     rcases e2 with e2|e2 <;> subst e2 <;> simpa [ex] using q
    obtain⟨a,ha⟩:=yV.mp q'
    exact⟨a,look_in c.nx0 ha⟩
  rcases hx' with h|h
  ·exact z _ h (.inl rfl)
  ·exact z _ h (.inr rfl)
 ·have z':(cl.lookup x).isNone=true:=z
  rcases look_cons e with ⟨_,e2⟩|e2
  ·rw[e2]; exact h0
  ·rw[e2] at z'; cases z'
 ·exact zR (zO (hf b hb).2 hC)
 ·rcases look_cons e with ⟨_,e2⟩|e2
  ·rw[e2]; exact fun z=>absurd (hf b hb).2 (by rw[← z]; exact Nat.not_lt.mpr h0)
  ·exact(hf b hb).1.2.2.2.2.1 x a (c.cell e2)
 ·rcases(hf b hb).1.2.2.2.1 with z|z
  ·exact I.ok.noex b o e z
  ·exact absurd (zO (Heap.lt_size e) (z4 I.ok.bsz z)) (y3 _)
 ·rcases zQ.mp (I.stkSub b hz) with z|z
  ·exact(hf b hb).1.2.1 z
  ·exact(hf b hb).1.2.2.1 z
 ·exact Un.laid k hD (I.hok.fresh hD)
 ·-- the names that it shares
  have hi:own.length≤i:=by
   by_cases q:own.length≤i
   ·exact q
   ·unfold blk at h2
    rw[yK (by rw[zC]; omega),zE] at h2
    cases e:own[i]? with
    | none=>rw[e] at h2; cases h2
    | some z=>rw[e] at h2; cases h2
  have h1':fr[i - own.length]?=some x:=by
   have q:(own++fr)[i]?=some x:=h1
   rw[zZ hi] at q
   exact q
  obtain⟨j,hj,⟨hN,hk,hr⟩,hsm⟩:=c.fr.getL h1'
  have h2':σ[j]?=some (some v):=by
   unfold blk at h2
   rw[zZ (by rw[zC]; exact hi),zC,zE,hj] at h2
   have q:some ((σ[j]?).join)=some (some v):=h2
   have q':=Option.some.inj q
   cases e:σ[j]? with
   | none=>rw[e] at q'; cases q'
   | some z=>rw[e] at q'; rw[show z=some v from q']
  obtain⟨m0,hn0,hl0⟩:=I.loc
  obtain⟨u,r,l⟩:=hl0 j x v hN h2' (hk.elim (fun z=>.inr (.inl z)) fun z=>.inr (.inr z))
  refine⟨u,r,.inr ⟨hr,?_⟩⟩
  rcases l with ⟨hk',_⟩|⟨_,a,ea,ca⟩
  ·rcases hk with z|z <;> (rw[hk'] at z; cases z)
  ·have hx':∃ b,cl.lookup x=some b:=yV.mp hsm
   obtain⟨b,eb⟩:=hx'
   have eab:=c.cell eb
   rw[ea] at eab
   cases eab
   obtain⟨o,ho,hd⟩:=ca
   exact⟨a,look_in c.nx0 eb,o,k _ _ ho,hd⟩
 ·rcases look_cons e with ⟨_,e2⟩|e2
  ·rw[e2]; exact⟨none,i0⟩
  ·obtain⟨v,o,ho,hd⟩:=cne x a e2
   exact⟨v,o,k _ _ ho,hd⟩
 ·show upd H D (.lst []) C=none
  rw[upd_ne hDC.symm]; exact fC
 ·rcases look_cons e with ⟨_,e2⟩|e2
  ·rw[e2,upd_ne (Ne.symm hD0)]
   exact I.hok.fresh h0
  ·obtain⟨v,o,ho,hd⟩:=cne x a e2
   rw[upd_ne (zR (zO (lt ho) hD))]
   exact I.freeC x a (c.cell e2)
 ·exact I.hok.laid k hD ⟨zW _,[],0,.nil,hl⟩
 ·unfold blk
  show _=(own++fr).length
  have:=c.fr.length
  rw[zN,zN,zC,zC]
  omega
theorem Inv.unblockX (I:Inv X pins σ H s) {fp:List Addr} (hf:∀ b ∈ fp,FpOk X pins H b) {N':List Str} {C:Addr} {pl:List (Addr × Obj)} {σ':St} {H':Hp} {s':Shared}
  {c0:Addr} (J:Inv (X.compX scope cl x0 c0 C fp N' s H) pl σ' H' s'):Inv X pins σ H' s' :=
 I.call' (ch:=fp) J.os J.base J.hok J.bare fun b hb=>⟨(hf b hb).2.2.2.1,(hf b hb).2.1,(hf b hb).2.2.2.2.1,(hf b hb).2.2.2.2.2⟩
end
section
variable {X:Cx} {elt iter tg:Expr} {ifs:List Expr} {scope:Scope} {cl:List (Str × Addr)} {x0:Str} {own fr:List Str} {js:List Nat} {wi:TI} {g:TG} {tc:TT} {te:TE} {pos:Pos}
theorem comp_loopX {pins:List (Addr × Obj)} {σ:St} {H1:Hp} {s1:Shared} {it:Addr} {fp:List Addr} {tn:Nat→Heap→Prop} {J:It} {C D:Addr} {h':Heap} {m:Str→Option Value} {t':Nat} {Q:Hp→Prop} {R:Result→Shared→Prop}
  {c0:Addr} (c:CompOkX X scope cl x0 own fr js) (I:Inv X pins σ H1 s1) (T:Turn X.prog X.w X.K tg J fp it tn) (st:tn 0 s1.heap) (hf:∀ b ∈ fp,FpOk X pins H1 b)
  (hg:PG (X.compX scope cl x0 c0 C fp (own++fr) s1 H1) tg g) (hc:PTs (X.compX scope cl x0 c0 C fp (own++fr) s1 H1) ifs tc) (he:PE (X.compX scope cl x0 c0 C fp (own++fr) s1 H1) elt te)
  (k:∀ b o,s1.heap.get? b=some o→h'.get? b=some o) (hC:s1.heap.objs.size≤C) (hD:s1.heap.objs.size≤D) (hDC:D ≠ C) (h0:s1.heap.objs.size≤c0) (hD0:D ≠ c0) (i0:h'.IsCell c0 none) (ns:h'.Ns C m) (hl:h'.get? D=some { cls:=.type "list",data:=.seq #[] })
  (q:CompW J D (blk own js σ) g tc te H1 Q)
  (fin:∀ H' s' m',Inv X pins σ H' s'→s'.heap.Ns C m'→H' C=none→Q H'→R (.ok .next) s') :
  codeAny (model X.prog X.w) X.A (.compLoop (.ListComp elt [⟨tg,iter,ifs,0⟩] scope pos) 0 (.ref it) (.ref D) (compEnvC scope ((x0,c0)::cl) C X.env)) R { s1 with heap:=h',toks:=t' }:=by
 have hf2:∀ b ∈ fp,FpOk X pins H1 b∧b < s1.heap.objs.size:=fun b hb=>by
  obtain⟨o,e,_⟩:=T.obj _ _ st b hb
  exact⟨hf b hb,Heap.lt_size e⟩
 have J0:Inv (X.compX scope cl x0 c0 C fp (own++fr) s1 H1) [] (blk own js σ) (upd H1 D (.lst [])) { s1 with heap:=h',toks:=t' }:=I.blockX c hf2 k hC hD hDC h0 hD0 i0 ns hl
 have fpN:∀ b ∈ fp,(upd H1 D (.lst [])) b=none:=fun b hb=>by
  rw[upd_ne (zR (zO (hf2 b hb).2 hD))]
  exact(hf b hb).1
 have st0:tn 0 h':=T.keep _ _ _ st fun b _ o e=>k b o e
 obtain⟨W,⟨m0,w0⟩,turn⟩:=q
 have stat:∀ {H':Hp},(∀ b ∈ fp,H' b=none)→∀ b ∈ fp,FpOk (X.compX scope cl x0 c0 C fp (own++fr) s1 H1) [] H' b:=fun hn b hb=>by
  refine⟨hn b hb,zR (zO (hf2 b hb).2 hC),fun z=>?_,.inl hb,fun x a e=>(look_cons e).elim (fun z=>by rw[z.2]; exact fun y=>absurd (hf2 b hb).2 (by rw[← y]; exact Nat.not_lt.mpr h0)) (fun z=>(hf b hb).2.2.2.2.1 x a (c.cell z)),fun p hp=>absurd (show p ∈ ([]:List (Addr × Obj)) from hp) zK⟩
  rcases zQ.mp (I.stkSub b z) with z|z
  ·exact(hf b hb).2.1 z
  ·exact(hf b hb).2.2.1 z
 refine codeAny_loop rfl (fun n s'=>∃ i H',Inv (X.compX scope cl x0 c0 C fp (own++fr) s1 H1) [] (blk own js σ) H' s'∧tn i s'.heap∧(∀ b ∈ fp,H' b=none)∧W i n H') ?_ m0 ⟨0,_,J0,st0,fpN,w0⟩
 rintro n s3 ⟨i,H3,I3,st3,fr3,w3⟩
 show wpAny _ X.A ((compTurn (.ListComp elt [⟨tg,iter,ifs,0⟩] scope pos) 0 (.ref it) (.ref D) (compEnvC scope ((x0,c0)::cl) C X.env)).onRaise (fun x=>do noteFrame x (compEnvC scope ((x0,c0)::cl) C X.env); theTreesLotGoes x)) _ _ s3
 refine wpAny_noted ?_
 rw[compTurn_list]
 have weak:∀ {α:Type} {tr:Sem α} {Q':α→Shared→Prop} {E':Value→Shared→Prop} {s':Shared},wpAny (model X.prog X.w) X.A tr Q' (fun _ _=>False) s'→wpAny (model X.prog X.w) X.A tr Q' E' s':=fun h=>wpAny_mono h (fun _ _ z=>z) fun _ _ z=>z.elim
 refine wpAny_bind (wpAny_standAt (wpAny_bind ?_))
 rcases turn i n H3 w3 with ⟨stop,qn⟩|⟨go,step⟩
 ·refine weak (thn (T.done (X.compX scope cl x0 c0 C fp (own++fr) s1 H1) rfl rfl rfl c.calm i [] s3 _ H3 _ I3 (stat fr3) st3 stop) fun r s4 ⟨hr,I4⟩=>?_)
  subst hr
  refine wpAny_pure ?_
  obtain⟨m',hn',_⟩:=I4.loc
  exact fin H3 s4 m' (I.unblockX hf I4) hn' I4.free qn
 ·refine weak (thn (T.item (X.compX scope cl x0 c0 C fp (own++fr) s1 H1) rfl rfl rfl c.calm i [] s3 _ H3 _ I3 (stat fr3) st3 go) fun r s4 ⟨u,hr,h4⟩=>?_)
  subst hr
  refine wpAny_bind (weak (thn h4 fun _ s5 ⟨x,H5,I5,r5,y5,st5,fr5⟩=>?_))
  have I5':=I5.pinned (stat fr5) (T.obj _ _ st5)
  refine wpAny_bind (weak (thn (hg _ s5 _ H5 x u _ I5' r5 (step x H5 y5)) fun _ s6 ⟨σ6,H6,I6,q6⟩=>?_))
  have back:∀ {σ7:St} {H7:Hp} {s7:Shared} {m':Nat},Inv (X.compX scope cl x0 c0 C fp (own++fr) s1 H1) ([]++pinsAt fp s5.heap) σ7 H7 s7→m' < n→W (i + 1) m' H7→Inv (X.compX scope cl x0 c0 C fp (own++fr) s1 H1) [] (blk own js σ) H7 s7 →
    ∃ m,m < n∧∃ i H',Inv (X.compX scope cl x0 c0 C fp (own++fr) s1 H1) [] (blk own js σ) H' s7∧tn i s7.heap∧(∀ b ∈ fp,H' b=none)∧W i m H':=fun {σ7 H7 s7 m'} I7 hm w7 I8=>by
   refine⟨m',hm,i + 1,H7,I8,T.keep _ _ _ st5 fun b hb o e=>(I7.pin (b,o) (zP _ (zP _ (mem_pinsAt hb e)))).1,fun b hb=>?_,w7⟩
   obtain⟨o,e,d⟩:=T.obj _ _ st5 b hb
   exact(I7.pin (b,o) (zP _ (zP _ (mem_pinsAt hb e)))).2.1
  have anew:∀ {σ7:St} {H7:Hp} {s7:Shared} {pl:List (Addr × Obj)},Inv (X.compX scope cl x0 c0 C fp (own++fr) s1 H1) pl σ7 H7 s7→Inv (X.compX scope cl x0 c0 C fp (own++fr) s1 H1) [] (blk own js σ) H7 s7:=fun {σ7 H7 s7 pl} I7=>by
   have IX:=I.unblockX hf I7
   obtain⟨m',hn',_⟩:=I7.loc
   obtain⟨mX,nX,lX⟩:=IX.loc
   refine⟨I7.ok,I7.os,I7.bare,I7.base,⟨m',hn',fun i x v h1 h2 h3=>?_⟩,I7.cell,I7.free,I7.freeC,fun p hp=>absurd (show p ∈ ([]:List (Addr × Obj)) from hp) zK,I7.hok,I3.len⟩
   have hi:own.length≤i:=by
    by_cases q:own.length≤i
    ·exact q
    ·unfold blk at h2
     rw[yK (by rw[zC]; omega),zE] at h2
     cases e:own[i]? with
     | none=>rw[e] at h2; cases h2
     | some z=>rw[e] at h2; cases h2
   have h1':fr[i - own.length]?=some x:=by
    have q:(own++fr)[i]?=some x:=h1
    rw[zZ hi] at q
    exact q
   obtain⟨j,hj,⟨hN,hk,hr⟩,hsm⟩:=c.fr.getL h1'
   have h2':σ[j]?=some (some v):=by
    unfold blk at h2
    rw[zZ (by rw[zC]; exact hi),zC,zE,hj] at h2
    have q:some ((σ[j]?).join)=some (some v):=h2
    have q':=Option.some.inj q
    cases e:σ[j]? with
    | none=>rw[e] at q'; cases q'
    | some z=>rw[e] at q'; rw[show z=some v from q']
   obtain⟨u,r,l⟩:=lX j x v hN h2' (hk.elim (fun z=>.inr (.inl z)) fun z=>.inr (.inr z))
   refine⟨u,r,.inr ⟨hr,?_⟩⟩
   rcases l with ⟨hk',_⟩|⟨_,a,ea,ca⟩
   ·rcases hk with z|z <;> (rw[hk'] at z; cases z)
   ·obtain⟨b,eb⟩:=yV.mp hsm
    have eab:=c.cell eb
    rw[ea] at eab
    cases eab
    exact⟨a,look_in c.nx0 eb,ca⟩
  refine wpAny_bind (weak (thn (hc _ s6 σ6 H6 _ I6 q6) fun ok s7 ⟨H7,I7,q7⟩=>?_))
  cases ok with
  | false =>
   have q7':=(if_neg (by decide:¬ (false=true))).mp q7
   obtain⟨m',hm,w7⟩:=q7'
   exact wpAny_pure ⟨rfl,back I7 hm w7 (anew I7)⟩
  | true =>
   have q7':=(if_pos (rfl:true=true)).mp q7
   refine wpAny_bind (wpAny_bind (weak (thn (he _ s7 σ6 H7 _ I7 q7') fun y s8 ⟨v8,H8,I8,r8,ys,e8,z8,m',hm,w8⟩=>?_)))
   refine wpAny_bind (weak (thn (mt_append (X:=X.compX scope cl x0 c0 C fp (own++fr) s1 H1) _ s8 σ6 H8 (.ref D) [v8] (.ref D) [y] (fun _ H9=>H9=upd H8 D (.lst (ys++[v8]))) I8 rfl (.cons r8 .nil) ⟨D,ys,v8,rfl,rfl,e8,z8,rfl⟩) fun _ s9 ⟨_,H9,I9,_,e9⟩=>?_))
   subst e9
   exact wpAny_pure (wpAny_pure ⟨rfl,back I9 hm w8 (anew I9)⟩)
theorem ps_setCV {i:Nat} {y:Str} {py spos:Pos} (hN:X.N.Nodup) (hiy:X.N[i]?=some y) (hx:Loc X.env.scope y)
  (hsw:swapsWith (.ListComp elt [⟨tg,iter,ifs,0⟩] scope pos) (some (.Name y py)) spos.line X.env=pure true)
  (c:CompOkX X scope cl x0 own fr js) (hi:PI X tg iter wi) (hg:∀ c0 C fp s H,PG (X.compX scope cl x0 c0 C fp (own++fr) s H) tg g) (hc:∀ c0 C fp s H,PTs (X.compX scope cl x0 c0 C fp (own++fr) s H) ifs tc)
  (he:∀ c0 C fp s H,PE (X.compX scope cl x0 c0 C fp (own++fr) s H) elt te) (hs:∀ x,foldedSetIterable iter X.env x=pure x:=by intro _; rfl)
  (hfn:X.fn y=true∨X.env.scope.names.lookup y=some .local:=by first|exact .inl rfl|exact .inr rfl|assumption) :
  PS X (.Assign [.Name y py] (.ListComp elt [⟨tg,iter,ifs,0⟩] scope pos) spos) (tAsg (tComp wi own js g tc te) (gName i)):=by
 intro pins s σ H D I h
 rw[exec_Assign_Name_used _ _ _ _ hsw]
 refine wpAny_bind (wpAny_standAt (wpAny_bind ?_))
 show wpAny _ X.A (do let _ ← comprehension (.ListComp elt [⟨tg,iter,ifs,0⟩] scope pos) scope X.env _ (newList []) false (eval iter X.env) (some (assign (.Name y py) X.env))) _ _ s
 refine wpAny_bind (wpAny_mono (wpAny_comprehension_free (use:=some (assign (.Name y py) X.env)) (Q:=fun _ s'=>SP X pins D .next s') rfl hs c.clos c.kind c.names
  (thn (hi pins s σ H _ I h) fun v s1 h1=>thn h1 fun itv s2 h2=>?_)) (fun _ s' hq=>wpAny_pure (wpAny_pure hq)) fun _ _ e=>e)
 obtain⟨it,fp,tn,J,H2,rfl,I2,T,st2,f2,q⟩:=h2
 refine wpAny_newObj_type (newEnv1 ?_)
 dsimp only
 rw[c.lay,c.psh]
 generalize hH2:s2.heap.push { cls:=.type "list",dict:=none,data:=.seq ([]:List Value).toArray }=hp
 generalize hh1:(hp.push { cls:=.type "dict",data:=.dict #[] }).push { cls:=.type "cell",data:=.cell none }=h₁
 have sz1:(hp.push { cls:=.type "dict",data:=.dict #[] }).objs.size=hp.objs.size + 1:=Heap.size_push ..
 have ex1:∀ b o,hp.get? b=some o→h₁.get? b=some o:=fun b o e=>hh1 ▸ Heap.get?_push_of_some _ (Heap.get?_push_of_some _ e)
 have hns₁:h₁.Ns hp.objs.size (fun _=>none):=hh1 ▸ (Heap.Ns.new hp (.type "dict")).keeps (fun b o e=>Heap.get?_push_of_some _ e)
 have i0:h₁.IsCell (hp.objs.size + 1) none:=⟨_,by rw[← hh1,← sz1]; exact Heap.get?_push_size _ rfl,rfl⟩
 have hC:hp.objs.size=s2.heap.objs.size + 1:=by rw[← hH2,Heap.size_push]
 have hDC:s2.heap.objs.size ≠ hp.objs.size:=by rw[hC]; exact zR (qC _)
 have hCle:s2.heap.objs.size≤hp.objs.size:=by rw[hC]; exact yM _
 have old:∀ b o,s2.heap.get? b=some o→h₁.get? b=some o:=fun b o e=>ex1 b o (hH2 ▸ Heap.get?_push_of_some _ e)
 have hl:h₁.get? s2.heap.objs.size=some { cls:=.type "list",data:=.seq #[] }:=ex1 _ _ (hH2 ▸ Heap.get?_push_size _ rfl)
 have loop:∀ t',codeAny (model X.prog X.w) X.A (.compLoop (.ListComp elt [⟨tg,iter,ifs,0⟩] scope pos) 0 (.ref it) (.ref s2.heap.objs.size) (compEnvC scope ((x0,hp.objs.size + 1)::cl) hp.objs.size X.env))
   (compPost (model X.prog X.w) X.A X.xe (some (assign (.Name y py) X.env)) (fun _ s'=>SP X pins D .next s') (.ref s2.heap.objs.size) hp.objs.size) { s2 with heap:=h₁,toks:=t' }:=fun t' =>
  comp_loopX (c0:=hp.objs.size + 1) c I2 T st2 f2 (hg _ _ _ _ _) (hc _ _ _ _ _) (he _ _ _ _ _) old hCle (zH _) hDC (Nat.le_succ_of_le hCle) (by rw[hC]; exact zR (yS (qC _))) i0 hns₁ hl (q _ (I2.hok.fresh (zH _))) fun H' s' m' I' hn' hCn qn=>by
   obtain⟨f0,f1,f2',f3,f4,f5⟩:=I2.fpOk hCle hCn
   obtain⟨oC,es,ep,eC,dC,rC⟩:=id hn'
   have I'':Inv X (pins++[(hp.objs.size,oC)]) σ H' s':=I'.pins_of fun p hpp=>(yA.mp hpp).elim (fun z=>I'.pin p (zP _ z)) fun z=>by
    rw[zF] at z
    subst z
    exact⟨eC,f0,f1,f2',fun v z=>by rw[dC] at z; cases z⟩
   show wpAny _ X.A (assign (.Name y py) X.env (.ref s2.heap.objs.size)) _ _ s'
   refine thn (pg_name (i:=i) hN hiy hx hfn _ s' σ H' (.ref s2.heap.objs.size) (.ref s2.heap.objs.size) _ I'' rfl qn) fun _ s7 ⟨σ7,H7,I7,q7⟩=>?_
   have p7:=I7.pin (hp.objs.size,oC) (zP _ (zP _ (yH _)))
   refine⟨m',⟨oC,es,ep,p7.1,dC,rC⟩,fun h'' hs''=>⟨σ7,H7,?_,q7⟩⟩
   exact I7.unpinned.turned (t':=s7.toks) (fun b o hb e=>hs''.extBut b o hb e) p7.2.1 f1 f3 f4 f5
 have st1:tn 0 h₁:=T.keep _ _ _ st2 fun b _ o e=>old b o e
 exact codeAny_compStart_list (loop _) (T.self _ 0 _ _ _ st1 (loop _))
end
end L2
namespace L2
open PySem PySem.Spec PyProof.Rows
section
variable {X:Cx} {K:PySem.W.Frag}
theorem call_srtPK (hK:X.K=K):CallR X (.builtin "sorted") (fun xs H Q=>∃(p:Addr) (us:List V) (ps:List (Int × Int)),xs=[.ref p]∧SqL K H p us∧us.length=ps.length∧(∀(i:Nat) v,us[i]?=some v→∃ a,v=.ref a∧H a=some (.tup [.int (ps.getD i (0,0)).1,.int (ps.getD i (0,0)).2]))∧us.length < 64∧∀(l:Addr) (out:List V),H l=none→RankV ps us out→Q (.ref l) (upd H l (.lst out))):=by subst hK; exact call_srtP
theorem pi_enumK {l:Expr} {ta:TA} {p pos:Pos} {elts:List Expr} {x1:Nat} {tpos:Pos} (hK:X.K=K) (hg:Gl X "enumerate") (hm:X.mg "enumerate"=none) (ha:PA X [l] ta) (hs:starEach [l] X.env=[(false,eval l X.env)]:=by rfl) :
  PI X (.Tuple elts x1 tpos) (.Call (.Name "enumerate" p) [l] [] pos) (iEnum K ta):=by subst hK; exact pi_enum hg hm ha hs
end
end L2
namespace Oc
end Oc
namespace Oc
open PySem L2
end Oc
namespace Oc
open PySem L2
end Oc
namespace L2
open PySem
theorem sE_c {c:Const} {j:Nat} {pos:Pos} {es:List Expr} {env:Env}:starEach (.Constant c j pos::es) env=(false,eval (.Constant c j pos) env)::starEach es env:=rfl
theorem pa_cint {X:Cx} {i:Int} {j} {pos:Pos} {es:List Expr} {t:TA} (hr:PA X es t):PA X (.Constant (.int i) j pos::es) (tCons (tC (.int i)) t):=pa_cons pe_int hr sE_c
theorem pa_cstr {X:Cx} {x:Str} {j} {pos:Pos} {es:List Expr} {t:TA} (hr:PA X es t):PA X (.Constant (.str x) j pos::es) (tCons (tC (.str x)) t):=pa_cons pe_str hr sE_c
end L2
namespace L2
open PySem
theorem sw_sub {a b:Expr} {p:Pos} {t:Expr} {l:Nat} {env:Env}:swapsWith (.Subscript a b p) (some t) l env=pure false:=rfl
end L2
namespace Oc
open PySem L2
def top (i:Nat):Stmt:=PySem.Challenge.pw_ownclocks_k22_steps_walked.main.body.getD i (.Pass ⟨0,0,0,0⟩)
theorem p64:(2:Int) ^ 64=18446744073709551616:=by decide
theorem p62:(2:Int) ^ 62=4611686018427387904:=by decide
end Oc
namespace Oc
open PySem L2
structure Txt (K:PySem.W.Frag) (mg:Str→Option Value):Prop where
 n_tuple:mg "tuple"=none
 n_len:mg "len"=none
 n_range:mg "range"=none
 n_list:mg "list"=none
 n_isinstance:mg "isinstance"=none
 n_bool:mg "bool"=none
 n_int:mg "int"=none
 n_any:mg "any"=none
 n_min:mg "min"=none
 n_enumerate:mg "enumerate"=none
 n_sorted:mg "sorted"=none
 n_sum:mg "sum"=none
 n_all:mg "all"=none
 n_str:mg "str"=none
end Oc
namespace Oc
open PySem L2
def drawW (ns:List Int) (k:Int):List Int:=PyProof.Rows.pickNums ns (some (k % (1 + (ns.length:Int) / 8))) none (some (1 + (ns.length:Int) / 8))
def drawG (k:Int) (f c:Int):Int:=(f * (2 * k + 1013) + c) % 999999000001
def drawF (ns:List Int) (k:Int):Int :=
 let f:=(drawW ns k).foldl (drawG k) (31 * k + 5)
 f * (f / 7 % 99991 + 3 * k + 1) % 999999000001
theorem drawF_bd (ns:List Int) (k:Int):0≤drawF ns k∧drawF ns k < 999999000001:=⟨yN _ (by decide),yE _ (by decide)⟩
inductive spDraw (K:PySem.W.Frag) (vs:List V) (H:Hp) (Q:VK) (x_3:XK):Prop where
 | mk (a:Addr) (ns:List Int) (k:Int) (h_0:vs=[.ref a,.int k]) (h_1:SqL K H a (ns.map V.int)) (h_2:ns.length≤63) (h_3:0≤k) (h_4:k≤1000) (h_5:∀(H':Hp),Same H H'→Q (.int (drawF ns k)) H'):spDraw K vs H Q x_3
section
variable {P:Program} {w:World} {K:PySem.W.Frag} {mg:Str→Option Value} {base:Heap}
theorem sc_draw:FnScope ["script","k","step","found","cell"] ["script","k"] (defScope (top 18)):=⟨rfl,rfl,rfl,by decide +kernel,rfl,by decide +kernel,by decide +kernel⟩
theorem ok_draw {f:Addr} {fd:FuncData} (F:Fun K "_law_draw" "_law_draw" (top 18) f fd) (T:Txt K mg):FnOk P w K mg base CX0 1 f fd ["script","k"] (spDraw K):=by
 have nd:=sc_draw.nd
 refine F.ok sc_draw (fun vs H Q E h=>?_) (fun cdv A outer s H vs Q E hr h=>?_)
 ·obtain⟨a,ns,k,rfl,_⟩:=h
  rfl
 ·obtain⟨a,ns,k,rfl,hS,hl,k0,k1,q⟩:=h
  refine⟨_,(@pss_cons _ _ _ _ _ (ps_set (i:=2) nd rfl (by nofun) (pe_op op_add pe_int (pe_op op_fdiv (pe_callB (call_len_seqK (K:=K) rfl) (by rfl) T.n_len bt_len (@pa_cons _ _ _ _ _ (pv 0) pa_nil (by rfl))) pe_int)))
   (@pss_cons _ _ _ _ _ (ps_set (i:=3) nd rfl (by nofun) (pe_op op_add (pe_op op_mul pe_int (pv 1)) pe_int))
   (@pss_cons _ _ _ _ _ (ps_for PassesOwn.never rfl (pi_listK (K:=K) rfl (pe_slice3K (K:=K) rfl (pv 0) (po_some (pe_op op_mod (pv 1) (pv 2))) po_none (po_some (pv 2)))) (pg_name (i:=4) nd rfl (by nofun)) (@pss_one _ _ _ (ps_set (i:=3) nd rfl (by nofun) (pe_op op_mod (pe_op op_add (pe_op op_mul (pv 3) (pe_op op_add (pe_op op_mul pe_int (pv 1)) pe_int)) (pv 4)) pe_int))))
   (@pss_one _ _ _ (@ps_ret _ _ _ _ (pe_op op_mod (pe_op op_mul (pv 3) (pe_op op_add (pe_op op_add (pe_op op_mod (pe_op op_fdiv (pv 3) pe_int) pe_int) (pe_op op_mul pe_int (pv 1))) pe_int)) pe_int)))))),?_⟩
  refine⟨_,rfl,a,_,rfl,.inl hS,?_⟩
  rw[zC]
  infer_instance
  have hst:(0:Int) < 1 + (ns.length:Int) / 8:=by omega
  refine⟨_,_,rfl,rfl,by omega,?_⟩
  infer_instance
  refine⟨a,ns,rfl,hS,(by intro z; have z':=Option.some.inj z; omega),fun p ms em hm np=>?_⟩
  have s1:Same H (upd H p (.lst (ms.map V.int))):=Same.new np
  have em':ms=drawW ns k:=em
  subst em'
  refine⟨p,rfl,⟨_,SqL.of upd_same⟩,for_list (K:=K) (a:=p) (xs:=(drawW ns k).map V.int) (fun i σ H2=>∃(v:Option V),σ=[some (.ref a),some (.int k),some (.int (1 + (ns.length:Int) / 8)),some (.int (((drawW ns k).take i).foldl (drawG k) (31 * k + 5))),v]∧0≤((drawW ns k).take i).foldl (drawG k) (31 * k + 5)∧((drawW ns k).take i).foldl (drawG k) (31 * k + 5) < 999999000001∧H2=upd H p (.lst ((drawW ns k).map V.int)))
   ⟨_,rfl,by show 0≤31 * k + 5; omega,by show 31 * k + 5 < _; omega,rfl⟩ (fun i σ H2 _ ⟨_,_,_,_,e⟩=>by rw[e]; exact SqL.of upd_same) ?_ ?_⟩
  ·rintro i y σ H2 hi ⟨v,rfl,f0,f1,rfl⟩
   obtain⟨z,rfl,hz⟩:=ints_get hi
   have et:((drawW ns k).take (i + 1)).foldl (drawG k) (31 * k + 5)=drawG k (((drawW ns k).take i).foldl (drawG k) (31 * k + 5)) z:=by
    rw[yI,hz,jN]
    rfl
   rw[et]
   generalize ((drawW ns k).take i).foldl (drawG k) (31 * k + 5)=fo at f0 f1
   infer_instance
   refine⟨_,_,rfl,rfl,.inl ⟨by rw[p64]; omega,by rw[p64]; omega⟩,?_⟩
   infer_instance
   exact⟨yN _ (by decide),yE _ (by decide),rfl⟩
  ·rintro σ H2 ⟨v,rfl,f0,f1,rfl⟩
   rw[zC,zX] at f0 f1 ⊢
   have eq:drawF ns k=((drawW ns k).foldl (drawG k) (31 * k + 5)) * (((drawW ns k).foldl (drawG k) (31 * k + 5)) / 7 % 99991 + 3 * k + 1) % 999999000001:=rfl
   rw[eq] at q
   generalize (drawW ns k).foldl (drawG k) (31 * k + 5)=fo at f0 f1 q
   infer_instance
   refine⟨_,_,rfl,rfl,.inl ⟨by rw[p64]; omega,by rw[p64]; omega⟩,?_⟩
   infer_instance
   exact q _ s1
end
end Oc
namespace Oc
open PySem L2
abbrev Tri:=Int × Int × Int
def triV (t:Tri):List V:=[.int t.1,.int t.2.1,.int t.2.2]
def triD (t:Tri):PyData:=.tuple [.int t.1,.int t.2.1,.int t.2.2]
abbrev Sta:=Str × Option Int
def staV:Sta→List V
 | (k,none)=>[.str k]
 | (k,some n)=>[.str k,.int n]
set_option genInjectivity false in
set_option genSizeOf false in
structure Wk where
 st:List Sta
 be:List Tri
 fe:List Tri
def StaOk (s:Sta):Prop:=(∃ n,s=(("relay":Str),some n)∧-1000000000≤n∧n≤1000000000)∨s=(("sorter":Str),none)∨(∃ n,s=(("thinner":Str),some n)∧2≤n∧n≤9)∨s=(("joiner":Str),none)∨s=(("sink":Str),none)
structure Wk.Ok (W:Wk):Prop where
 s1:1≤W.st.length
 s8:W.st.length≤8
 b12:W.be.length≤12
 f60:W.fe.length≤60
 sta:∀ s ∈ W.st,StaOk s
 bel:∀ t ∈ W.be,0≤t.1∧t.1 < W.st.length∧0≤t.2.1∧t.2.1 < W.st.length∧1≤t.2.2∧t.2.2≤9
 fee:∀ t ∈ W.fe,0≤t.1∧t.1 < W.st.length∧0≤t.2.1∧t.2.1≤50∧-1000000000≤t.2.2∧t.2.2≤1000000000
inductive IsTri (H:Hp) (x:V) (t:Tri):Prop where
 | mk (p:_) (h_0:x=.ref p) (h_1:H p=some (.tup (triV t))):IsTri H x t
inductive IsSta (H:Hp) (x:V) (s:Sta):Prop where
 | mk (p:_) (h_0:x=.ref p) (h_1:H p=some (.tup (staV s))):IsSta H x s
theorem IsTri.same {H H':Hp} (s:Same H H') {x:V} {t:Tri} (h:IsTri H x t):IsTri H' x t:=let ⟨p,e,q⟩:=h; ⟨p,e,s _ _ q⟩
theorem IsSta.same {H H':Hp} (s:Same H H') {x:V} {t:Sta} (h:IsSta H x t):IsSta H' x t:=let ⟨p,e,q⟩:=h; ⟨p,e,s _ _ q⟩
structure LsAt (H:Hp) (s b f:Addr) (W:Wk) (xs ys zs:List V):Prop where
 hs:H s=some (.lst xs)
 hb:H b=some (.lst ys)
 hf:H f=some (.lst zs)
 ps:Paired (IsSta H) xs W.st
 pb:Paired (IsTri H) ys W.be
 pf:Paired (IsTri H) zs W.fe
theorem pairedMono {α β:Type} {F G:α→β→Prop} (h:∀ a b,F a b→G a b) {l:List α} {m:List β} (p:Paired F l m):Paired G l m:=L2.Paired.mapP p h
theorem LsAt.same {H H':Hp} {s b f:Addr} {W:Wk} {xs ys zs:List V} (e:Same H H') (h:LsAt H s b f W xs ys zs):LsAt H' s b f W xs ys zs :=
 ⟨e _ _ h.hs,e _ _ h.hb,e _ _ h.hf,pairedMono (fun _ _=>IsSta.same e) h.ps,pairedMono (fun _ _=>IsTri.same e) h.pb,pairedMono (fun _ _=>IsTri.same e) h.pf⟩
structure WkAt (H:Hp) (w:Addr) (W:Wk):Prop where
 ex:∃ s b f xs ys zs,H w=some (.tup [.ref s,.ref b,.ref f])∧LsAt H s b f W xs ys zs
theorem WkAt.same {H H':Hp} {w:Addr} {W:Wk} (e:Same H H') (h:WkAt H w W):WkAt H' w W:=by
 obtain⟨s,b,f,xs,ys,zs,h1,h2⟩:=h.ex
 exact⟨s,b,f,xs,ys,zs,e _ _ h1,h2.same e⟩
theorem cells_dedup {H:Hp}:∀ {L:List Cell},(∀ c ∈ L,H c.1=some c.2)→∃ L':List Cell,Hs H L'∧∀ c ∈ L,c ∈ L'
 | [],_=>⟨[],⟨List.nodup_nil,fun _ h=>absurd h zK⟩,fun _ h=>absurd h zK⟩
 | c::L,h=>by
  obtain⟨L',h1,h2⟩:=cells_dedup (L:=L) fun d hd=>h d (zI _ hd)
  have hc:=h c zL
  by_cases hm:c.1 ∈ L'.map Prod.fst
  ·obtain⟨d,hd,e⟩:=yB.mp hm
   have ed:=h1.2 d hd
   rw[e,hc] at ed
   have:d=c:=Prod.ext e (Option.some.inj ed).symm
   refine⟨L',h1,fun x hx=>?_⟩
   rcases zQ.mp hx with r|r
   ·rw[r,← this]; exact hd
   ·exact h2 x r
  ·refine⟨c::L',⟨by rw[yJ,yW]; exact⟨hm,h1.1⟩,fun x hx=>?_⟩,fun x hx=>?_⟩
   ·rcases zQ.mp hx with r|r
    ·rw[r]; exact hc
    ·exact h1.2 x r
   ·rcases zQ.mp hx with r|r
    ·rw[r]; exact zL
    ·exact zI _ (h2 x r)
theorem paired_cells {α:Type} {H:Hp} {F:Hp→V→α→Prop} (hF:∀ x a,F H x a→∃ c:Cell,H c.1=some c.2∧∀ H':Hp,H' c.1=some c.2→F H' x a):∀ {xs:List V} {as:List α},Paired (F H) xs as→∃ L:List Cell,(∀ c ∈ L,H c.1=some c.2)∧∀ H':Hp,(∀ c ∈ L,H' c.1=some c.2)→Paired (F H') xs as
 | _,_,.nil=>⟨[],fun _ h=>absurd h zK,fun _ _=>.nil⟩
 | _,_,.cons p r=>by
  obtain⟨c,h1,h2⟩:=hF _ _ p
  obtain⟨L,h3,h4⟩:=paired_cells hF r
  refine⟨c::L,fun x hx=>?_,fun H' h=>.cons (h2 H' (h c zL)) (h4 H' fun x hx=>h x (zI _ hx))⟩
  rcases zQ.mp hx with e|e
  ·rw[e]; exact h1
  ·exact h3 x e
theorem WkAt.cells2 {H:Hp} {w:Addr} {W:Wk} (h:WkAt H w W):∃(wc:List Cell) (s b f:Addr) (xs ys zs:List V),Hc H [wc]∧∀ H':Hp,(∀ c ∈ wc,H' c.1=some c.2)→H' w=some (.tup [.ref s,.ref b,.ref f])∧LsAt H' s b f W xs ys zs:=by
 obtain⟨s,b,f,xs,ys,zs,h1,h2⟩:=h.ex
 obtain⟨L1,a1,b1⟩:=paired_cells (F:=IsSta) (fun x a ⟨p,e,hp⟩=>⟨(p,_),hp,fun H' h'=>⟨p,e,h'⟩⟩) h2.ps
 obtain⟨L2,a2,b2⟩:=paired_cells (F:=IsTri) (fun x a ⟨p,e,hp⟩=>⟨(p,_),hp,fun H' h'=>⟨p,e,h'⟩⟩) h2.pb
 obtain⟨L3,a3,b3⟩:=paired_cells (F:=IsTri) (fun x a ⟨p,e,hp⟩=>⟨(p,_),hp,fun H' h'=>⟨p,e,h'⟩⟩) h2.pf
 obtain⟨L',c1,c2⟩:=cells_dedup (H:=H) (L:=(w,.tup [.ref s,.ref b,.ref f])::(s,.lst xs)::(b,.lst ys)::(f,.lst zs)::(L1++(L2++L3))) (fun c hc=>by
  rcases zQ.mp hc with e|hc
  ·rw[e]; exact h1
  rcases zQ.mp hc with e|hc
  ·rw[e]; exact h2.hs
  rcases zQ.mp hc with e|hc
  ·rw[e]; exact h2.hb
  rcases zQ.mp hc with e|hc
  ·rw[e]; exact h2.hf
  rcases yA.mp hc with e|hc
  ·exact a1 c e
  rcases yA.mp hc with e|e
  ·exact a2 c e
  ·exact a3 c e)
 refine⟨L',s,b,f,xs,ys,zs,by show Hs H [L'].flatten; rw[y9]; exact c1,fun H' h'=>⟨?_,?_,?_,?_,?_,?_,?_⟩⟩
 ·exact h' _ (c2 _ zL)
 ·exact h' _ (c2 _ (zI _ zL))
 ·exact h' _ (c2 _ (zI _ (zI _ zL)))
 ·exact h' _ (c2 _ (zI _ (zI _ (zI _ zL))))
 ·exact b1 H' fun c hc=>h' c (c2 c (zI _ (zI _ (zI _ (zI _ (y2 _ hc))))))
 ·exact b2 H' fun c hc=>h' c (c2 c (zI _ (zI _ (zI _ (zI _ (zP _ (y2 _ hc)))))))
 ·exact b3 H' fun c hc=>h' c (c2 c (zI _ (zI _ (zI _ (zI _ (zP _ (zP _ hc)))))))
theorem IsTri.dt {K:PySem.W.Frag} {H:Hp} {x:V} {t:Tri} (h:IsTri H x t):Dt K H 1 x (triD t):=by
 obtain⟨p,rfl,e⟩:=h
 exact .tup (SqT.of e) (.cons (.int _ _) (.cons (.int _ _) (.cons (.int _ _) (.nil _))))
def idx {α:Type} (f:α→Bool):Nat→List α→List Int
 | _,[]=>[]
 | k,t::r=>if f t then (k:Int)::idx f (k + 1) r else idx f (k + 1) r
theorem idx_snoc {α:Type} (f:α→Bool):∀(l:List α) (k:Nat) (t:α),idx f k (l++[t])=idx f k l++(if f t then [((k + l.length:Nat):Int)] else [])
 | [],k,t=>by
  show idx f k [t]=[]++_
  unfold idx
  split <;> simp [idx]
 | x::l,k,t=>by
  show idx f k (x::(l++[t]))=idx f k (x::l)++_
  have ih:=idx_snoc f l (k + 1) t
  have e:k + 1 + l.length=k + (x::l).length:=by rw[zS]; omega
  rw[e] at ih
  unfold idx
  by_cases h:f x=true
  ·rw[if_pos h,if_pos h,ih]; rfl
  ·rw[if_neg h,if_neg h,ih]
theorem idx_take {α:Type} (f:α→Bool) {l:List α} {i:Nat} {t:α} (h:l[i]?=some t):idx f 0 (l.take (i + 1))=idx f 0 (l.take i)++(if f t then [(i:Int)] else []):=by
 have hi:=(zD.mp h).1
 rw[yI,h]
 show idx f 0 (l.take i++[t])=_
 rw[idx_snoc,zU,Nat.min_eq_left (yQ hi),qY]
theorem idx_len {α:Type} (f:α→Bool):∀(l:List α) (k:Nat),(idx f k l).length≤l.length
 | [],_=>zH _
 | x::l,k=>by
  have:=idx_len f l (k + 1)
  unfold idx
  split
  ·rw[zS,zS]; omega
  ·rw[zS]; omega
def Wk.wy (W:Wk) (s:Int):List Int:=(if W.fe.any (fun t=>t.1 == s) then [-1] else [])++idx (fun(t:Tri)=>t.2.1 == s) 0 W.be
def Wk.lv (W:Wk) (s:Int):List Int:=idx (fun(t:Tri)=>t.1 == s) 0 W.be
theorem _root_.PySem.Paired.gt {α β:Type} {F:α→β→Prop} {l₁:List α} {l₂:List β} (h:Paired F l₁ l₂) {i:Nat} {a:α} (e:l₁[i]?=some a):∃ b,l₂[i]?=some b∧F a b:=PySem.Paired.getL h e
inductive spWays (vs:List V) (H:Hp) (Q:VK) (x_3:XK):Prop where
 | mk (w:Addr) (W:Wk) (s:Int) (h_0:vs=[.ref w,.int s]) (h_1:WkAt H w W) (h_2:W.Ok) (h_3:∀(p:Addr) (H':Hp),H p=none→H' p=some (.lst ((W.wy s).map V.int))→Same H H'→Q (.ref p) H'):spWays vs H Q x_3
inductive spLeav (vs:List V) (H:Hp) (Q:VK) (x_3:XK):Prop where
 | mk (w:Addr) (W:Wk) (s:Int) (h_0:vs=[.ref w,.int s]) (h_1:WkAt H w W) (h_2:W.Ok) (h_3:∀(p:Addr) (H':Hp),H p=none→H' p=some (.lst ((W.lv s).map V.int))→Same H H'→Q (.ref p) H'):spLeav vs H Q x_3
section
variable {P:Program} {w:World} {K:PySem.W.Frag} {mg:Str→Option Value} {base:Heap}
theorem lO:FnScope ["works","station","belts","fed"] ["works","station"] (defScope (top 2)):=⟨rfl,rfl,rfl,by decide +kernel,rfl,by decide +kernel,by decide +kernel⟩
theorem oZ {f:Addr} {fd:FuncData} {tk:Tok} (F:Fun K "ways" "ways" (top 2) f fd) (T:Txt K mg) (g_DOOR:mg "DOOR"=some (.int (-1) tk)):FnOk P w K mg base CX0 1 f fd ["works","station"] spWays:=by
 have nd:=lO.nd
 refine F.ok lO (fun vs H Q E h=>?_) (fun cdv A outer s H vs Q E hr h=>?_)
 ·obtain⟨w,W,z,rfl,_⟩:=h
  rfl
 ·obtain⟨w,W,z,rfl,hw,ok,q⟩:=h
  obtain⟨sa,ba,fa,xs,ys,zs,h1,h2⟩:=hw.ex
  refine⟨_,(@pss_cons _ _ _ _ _ (ps_setC (i:=2) nd rfl (Or.inl rfl) rfl (own:=["number","belt"]) (fr:=["station"]) (js:=[1]) (by and_intros) (pi_enum rfl T.n_enumerate (@pa_cons _ _ _ _ _ (@pe_ix _ _ _ _ _ _ _ (ix_tupK (K:=K) rfl) (pv 0) pe_int (fun _ _=>rfl)) pa_nil (by rfl))) (fun _ _ _ _=>(pg_tupK (K:=K) (n:=2) rfl rfl (pgs_cons (pg_name (i:=0) (show List.Nodup (["number","belt","station"]:List Str) from by decide +kernel) rfl (by nofun)) (pgs_cons (pg_name (i:=1) (show List.Nodup (["number","belt","station"]:List Str) from by decide +kernel) rfl (by nofun)) pgs_nil)))) (fun _ _ _ _=>(pts_one (pt_cmpR op_eq (@pe_ix _ _ _ _ _ _ _ (ix_tupK (K:=K) rfl) (pv 1) pe_int (fun _ _=>rfl)) (pv 2) (nomark _)))) (fun _ _ _ _=>(pv 0)))
   (@pss_cons _ _ _ _ _ (ps_set (i:=3) nd rfl (by nofun) (pe_callB (call_anyB rfl) (by rfl) T.n_any bt_any (@pa_cons _ _ _ _ _ (pe_comp (own:=["feed"]) (fr:=["station"]) (js:=[1]) (by and_intros) (pi_listK (K:=K) rfl (@pe_ix _ _ _ _ _ _ _ (ix_tupK (K:=K) rfl) (pv 0) pe_int (fun _ _=>rfl))) (fun _ _ _ _=>(pg_name (i:=0) (show List.Nodup (["feed","station"]:List Str) from by decide +kernel) rfl (by nofun))) (fun _ _ _ _=>pts_nil) (fun _ _ _ _=>(pe_cmpR op_eq (@pe_ix _ _ _ _ _ _ _ (ix_tupK (K:=K) rfl) (pv 0) pe_int (fun _ _=>rfl)) (pv 1) (nomark _)))) pa_nil (by rfl))))
   (@pss_one _ _ _ (@ps_ret _ _ _ _ (pe_ifExp (pt_val (pv 3)) (pe_op op_cat (@pe_lst _ _ _ _ (@pa_cons _ _ _ _ _ (pe_glob (v:=.int (-1)) (by rfl) g_DOOR ⟨_,rfl⟩) pa_nil (by rfl))) (pv 2)) (pv 2)))))),?_⟩
  refine⟨_,rfl,⟨_,_,_,_,rfl,rfl,SqT.of h1,(atI_nat (j:=1) rfl),ba,rfl,⟨_,SqL.of h2.hb⟩,fun D nD=>?_⟩⟩
  have lb:=h2.pb.length
  have b12:=ok.b12
  refine comp_enum (a:=ba) (xs:=ys) (fun i H4=>Same H H4∧H4 D=some (.lst ((idx (fun(t:Tri)=>t.2.1 == z) 0 (W.be.take i)).map V.int))) ⟨Same.new nD,upd_same⟩ (fun i H4 _ p=>SqL.of (p.1 _ _ h2.hb)) ?_ ?_
  ·rintro i x H4 m Wf hx ⟨s4,h4⟩ nx pp np
   obtain⟨t,ht,hp0⟩:=h2.pb.gt hx
   obtain⟨a0,rfl,ha⟩:=hp0
   have s5:Same H4 (upd H4 pp (.tup [.int i,.ref a0])):=Same.new np
   refine⟨pp,_,rfl,SqT.of upd_same,rfl,_,_,rfl,_,_,rfl,rfl,?_⟩
   refine⟨_,rfl,⟨_,_,_,_,rfl,rfl,SqT.of (s5 _ _ (s4 _ _ ha)),(atI_nat (j:=1) rfl),_,rfl,rfl,_,rfl,?_⟩⟩
   have et:decide (V.int t.2.1=V.int z)=(t.2.1 == z):=dec_int
   have eid:=idx_take (fun(t:Tri)=>t.2.1 == z) ht
   refine iteB (fun hb=>?_) (fun hb=>?_)
   ·rw[et] at hb
    refine⟨_,rfl,_,s5 _ _ h4,small1000 (by rw[zC]; have:=idx_len (fun(t:Tri)=>t.2.1 == z) (W.be.take i) 0; rw[zU] at this; omega),nx _ ⟨?_,?_⟩⟩
    ·exact((s4.trans s5).upd nD)
    ·rw[upd_same,eid,hb,if_pos rfl,zJ]; rfl
   ·rw[et] at hb
    refine nx _ ⟨s4.trans s5,?_⟩
    rw[eid,hb,if_neg zV,yD]
    exact s5 _ _ h4
  ·rintro H4 ⟨s4,h4⟩
   rw[lb,zX] at h4
   refine⟨_,rfl,⟨_,_,_,_,rfl,rfl,SqT.of (s4 _ _ h1),(atI_nat (j:=2) rfl),fa,rfl,⟨_,SqL.of (s4 _ _ h2.hf)⟩,fun D2 nD2=>?_⟩⟩
   have lf:=h2.pf.length
   have f60:=ok.f60
   refine comp_list (a:=fa) (xs:=zs) (fun i H5=>Same H4 H5∧H5 D2=some (.lst (((W.fe.take i).map fun(t:Tri)=>t.1 == z).map V.bl))) ⟨Same.new nD2,upd_same⟩ (fun i H5 _ p=>SqL.of (p.1 _ _ (s4 _ _ h2.hf))) ?_ ?_
   ·rintro i x H5 m Wf hx ⟨s5,h5⟩ nx
    obtain⟨t,ht,hp0⟩:=h2.pf.gt hx
    obtain⟨a0,rfl,ha⟩:=hp0
    have hi:=(zD.mp ht).1
    refine⟨_,rfl,⟨_,_,_,_,rfl,rfl,SqT.of (s5 _ _ (s4 _ _ ha)),(atI_nat (j:=0) rfl),_,rfl,rfl,_,h5,small1000 (by rw[zC,zC,zU]; omega),nx _ ⟨s5.upd nD2,?_⟩⟩⟩
    rw[upd_same,yI,ht,zJ,zJ]
    show some (HO.lst (_++[V.bl (decide (V.int t.1=V.int z))]))=some (HO.lst (_++[V.bl (t.1 == z)]))
    rw[dec_int]
   ·rintro H5 ⟨s5,h5⟩
    rw[lf,zX] at h5
    refine⟨D2,_,rfl,SqL.of h5,?_⟩
    have ea:((W.fe.map fun(t:Tri)=>t.1 == z).any id)=W.fe.any fun t=>t.1 == z:=by rw[j9]; rfl
    refine⟨_,rfl,_,rfl,?_⟩
    refine iteB (fun hb=>?_) (fun hb=>?_)
    ·rw[ea] at hb
     refine⟨(by show 1≤sizeLine; decide),fun l1 n1=>?_⟩
     have s6:Same H5 (upd H5 l1 (.lst [V.int (-1)])):=Same.new n1
     refine⟨_,rfl,l1,D,_,_,rfl,rfl,upd_same,s6 _ _ (s5 _ _ h4),?_,fun c nc=>?_⟩
     ·rw[zC]
      have:=idx_len (fun(t:Tri)=>t.2.1 == z) W.be 0
      exact yQ (small1000 (by show 1 + _≤1000; omega))
     ·refine q c _ (((s4.trans s5).trans s6).free nc) ?_ (((s4.trans s5).trans s6).upd (((s4.trans s5).trans s6).free nc))
      rw[upd_same]
      unfold Wk.wy
      rw[hb,if_pos rfl,zJ]
      rfl
    ·rw[ea] at hb
     refine⟨_,rfl,q D _ nD ?_ (s4.trans s5)⟩
     unfold Wk.wy
     rw[hb,if_neg zV,List.nil_append]
     exact s5 _ _ h4
theorem sc_leav:FnScope ["works","station"] ["works","station"] (defScope (top 5)):=⟨rfl,rfl,rfl,by decide +kernel,rfl,by decide +kernel,by decide +kernel⟩
theorem ok_leav {f:Addr} {fd:FuncData} (F:Fun K "leaving" "leaving" (top 5) f fd) (T:Txt K mg):FnOk P w K mg base CX0 1 f fd ["works","station"] spLeav:=by
 have nd:=sc_leav.nd
 refine F.ok sc_leav (fun vs H Q E h=>?_) (fun cdv A outer s H vs Q E hr h=>?_)
 ·obtain⟨w,W,z,rfl,_⟩:=h
  rfl
 ·obtain⟨w,W,z,rfl,hw,ok,q⟩:=h
  obtain⟨sa,ba,fa,xs,ys,zs,h1,h2⟩:=hw.ex
  refine⟨_,(@pss_one _ _ _ (@ps_ret _ _ _ _ (pe_comp (own:=["number","belt"]) (fr:=["station"]) (js:=[1]) (by and_intros) (pi_enum rfl T.n_enumerate (@pa_cons _ _ _ _ _ (@pe_ix _ _ _ _ _ _ _ (ix_tupK (K:=K) rfl) (pv 0) pe_int (fun _ _=>rfl)) pa_nil (by rfl))) (fun _ _ _ _=>(pg_tupK (K:=K) (n:=2) rfl rfl (pgs_cons (pg_name (i:=0) (show List.Nodup (["number","belt","station"]:List Str) from by decide +kernel) rfl (by nofun)) (pgs_cons (pg_name (i:=1) (show List.Nodup (["number","belt","station"]:List Str) from by decide +kernel) rfl (by nofun)) pgs_nil)))) (fun _ _ _ _=>(pts_one (pt_cmpR op_eq (@pe_ix _ _ _ _ _ _ _ (ix_tupK (K:=K) rfl) (pv 1) pe_int (fun _ _=>rfl)) (pv 2) (nomark _)))) (fun _ _ _ _=>(pv 0))))),?_⟩
  refine⟨_,rfl,⟨_,_,_,_,rfl,rfl,SqT.of h1,(atI_nat (j:=1) rfl),ba,rfl,⟨_,SqL.of h2.hb⟩,fun D nD=>?_⟩⟩
  have lb:=h2.pb.length
  have b12:=ok.b12
  refine comp_enum (a:=ba) (xs:=ys) (fun i H4=>Same H H4∧H4 D=some (.lst ((idx (fun(t:Tri)=>t.1 == z) 0 (W.be.take i)).map V.int))) ⟨Same.new nD,upd_same⟩ (fun i H4 _ p=>SqL.of (p.1 _ _ h2.hb)) ?_ ?_
  ·rintro i x H4 m Wf hx ⟨s4,h4⟩ nx pp np
   obtain⟨t,ht,hp0⟩:=h2.pb.gt hx
   obtain⟨a0,rfl,ha⟩:=hp0
   have s5:Same H4 (upd H4 pp (.tup [.int i,.ref a0])):=Same.new np
   refine⟨pp,_,rfl,SqT.of upd_same,rfl,_,_,rfl,_,_,rfl,rfl,?_⟩
   refine⟨_,rfl,⟨_,_,_,_,rfl,rfl,SqT.of (s5 _ _ (s4 _ _ ha)),(atI_nat (j:=0) rfl),_,rfl,rfl,_,rfl,?_⟩⟩
   have et:decide (V.int t.1=V.int z)=(t.1 == z):=dec_int
   have eid:=idx_take (fun(t:Tri)=>t.1 == z) ht
   refine iteB (fun hb=>?_) (fun hb=>?_)
   ·rw[et] at hb
    refine⟨_,rfl,_,s5 _ _ h4,small1000 (by rw[zC]; have:=idx_len (fun(t:Tri)=>t.1 == z) (W.be.take i) 0; rw[zU] at this; omega),nx _ ⟨?_,?_⟩⟩
    ·exact((s4.trans s5).upd nD)
    ·rw[upd_same,eid,hb,if_pos rfl,zJ]; rfl
   ·rw[et] at hb
    refine nx _ ⟨s4.trans s5,?_⟩
    rw[eid,hb,if_neg zV,yD]
    exact s5 _ _ h4
  ·rintro H4 ⟨s4,h4⟩
   rw[lb,zX] at h4
   exact q D _ nD h4 s4
end
end Oc
namespace Oc
theorem take_1 {α:Type} {l:List α} {i:Nat} {x:α} (h:l[i]?=some x):l.take (i + 1)=l.take i++[x]:=by rw[yI,h]; rfl
end Oc
namespace Oc
open PySem L2 PyProof.Rows
inductive spSta (vs:List V) (H:Hp) (Q:VK) (x_3:XK):Prop where
 | mk (c:Int) (h_0:vs=[.int c]) (h_1:∀(p:Addr) (s:Sta) (H':Hp),H' p=some (.tup (staV s))→StaOk s→Same H H'→Q (.ref p) H'):spSta vs H Q x_3
inductive spWks (K:PySem.W.Frag) (vs:List V) (H:Hp) (Q:VK) (x_3:XK):Prop where
 | mk (a:Addr) (ns:List Int) (h_0:vs=[.ref a]) (h_1:SqL K H a (ns.map V.int)) (h_2:ns.length≤63) (h_3:∀(w:Addr) (W:Wk) (H':Hp),WkAt H' w W→W.Ok→Same H H'→Q (.ref w) H'):spWks K vs H Q x_3
theorem paired_app {α β:Type} {F:α→β→Prop}:∀ {a:List α} {b:List β} {c:List α} {d:List β},Paired F a b→Paired F c d→Paired F (a++c) (b++d)
 | _,_,_,_,.nil,h=>h
 | _,_,_,_,.cons p r,h=>.cons p (paired_app r h)
theorem IsTri.keep {H:Hp} {a:Addr} {xs ys:List V} (e:H a=some (.lst xs)) {x:V} {t:Tri} (h:IsTri H x t):IsTri (upd H a (.lst ys)) x t:=by
 obtain⟨p,rfl,q⟩:=h
 exact⟨p,rfl,by rw[upd_ne (ne_of q e (by intro z; cases z))]; exact q⟩
theorem IsSta.keep {H:Hp} {a:Addr} {xs ys:List V} (e:H a=some (.lst xs)) {x:V} {t:Sta} (h:IsSta H x t):IsSta (upd H a (.lst ys)) x t:=by
 obtain⟨p,rfl,q⟩:=h
 exact⟨p,rfl,by rw[upd_ne (ne_of q e (by intro z; cases z))]; exact q⟩
theorem tri_go {H4 H7 H9:Hp} {aB t:Addr} {ys:List V} {be:List Tri} (x:Tri) (s7:Same H4 H7) (s9:Same H7 H9) (hB:H7 aB=some (.lst ys)) (nB:H4 aB=none) (pb:Paired (IsTri H7) ys be) (nt:H9 t=none) :
  Same H4 (upd (upd H9 t (.tup (triV x))) aB (.lst (ys++[.ref t])))∧Paired (IsTri (upd (upd H9 t (.tup (triV x))) aB (.lst (ys++[.ref t])))) (ys++[.ref t]) (be++[x]):=by
 have s10:Same H9 (upd H9 t (.tup (triV x))):=Same.new nt
 have s:=s9.trans s10
 exact⟨(s7.trans s).upd nB,paired_app (pairedMono (fun _ _ h=>(IsTri.same s h).keep (s _ _ hB)) pb) (.cons (IsTri.keep (s _ _ hB) ⟨t,rfl,upd_same⟩) .nil)⟩
theorem all_snoc {α:Type} {p:α→Prop} {l:List α} {x:α} (h:∀ t ∈ l,p t) (hx:p x):∀ t ∈ l++[x],p t:=fun u hu=>by
 rcases yA.mp hu with q|q
 ·exact h u q
 ·rw[zF.mp q]; exact hx
theorem if_t0 {c:Bool} {tA tB:TS} {D:Ends} {σ:L2.St} {H:Hp} (R:L2.St→Hp→Prop) (hA:c=true→(∀ σ' H',R σ' H'→D.nx σ' H')→tA D σ H) (hB:c=false→(∀ σ' H',R σ' H'→D.nx σ' H')→tB D σ H) (f:∀ σ' H',R σ' H'→D.nx σ' H'):if c=true then tA D σ H else tB D σ H:=by
 cases c
 ·exact iteF (hB rfl f)
 ·exact iteT (hA rfl f)
section
variable {P:Program} {w:World} {K:PySem.W.Frag} {mg:Str→Option Value} {base:Heap}
theorem sc_sta:FnScope ["number","word"] ["number"] (defScope (top 19)):=⟨rfl,rfl,rfl,by decide +kernel,rfl,by decide +kernel,by decide +kernel⟩
theorem ok_sta {f:Addr} {fd:FuncData} (F:Fun K "_law_station" "_law_station" (top 19) f fd):FnOk P w K mg base CX0 1 f fd ["number"] spSta:=by
 have nd:=sc_sta.nd
 refine F.ok sc_sta (fun vs H Q E h=>?_) (fun cdv A outer s H vs Q E hr h=>?_)
 ·obtain⟨c,rfl,_⟩:=h
  rfl
 ·obtain⟨n,rfl,q⟩:=h
  refine⟨_,(@pss_cons _ _ _ _ _ (@ps_set _ _ 1 _ _ _ _ nd rfl (by nofun) (@pe_ix _ _ _ _ _ _ _ (ix_listK (K:=K) rfl) (@pe_lst _ _ _ _ (@pa_cstr _ _ _ _ _ _ (@pa_cstr _ _ _ _ _ _ (@pa_cstr _ _ _ _ _ _ (@pa_cstr _ _ _ _ _ _ (@pa_cstr _ _ _ _ _ _ (@pa_cstr _ _ _ _ _ _ (@pa_cstr _ _ _ _ _ _ pa_nil)))))))) (pe_op op_mod (pv 0) pe_int) (fun _ _=>rfl)) sw_sub (by first|exact .inl rfl|exact .inr rfl|assumption))
   (@pss_cons _ _ _ _ _ (ps_if (pt_cmpR op_eq (pv 1) pe_str (nomark _)) (@pss_one _ _ _ (@ps_ret _ _ _ _ (@pe_tup _ _ _ _ _ (@pa_cons _ _ _ _ _ (pv 1) (@pa_cons _ _ _ _ _ (pe_op op_sub (pe_op op_mod (pe_op op_fdiv (pv 0) pe_int) pe_int) pe_int) pa_nil (by rfl)) (by rfl))))) pss_nil)
   (@pss_cons _ _ _ _ _ (ps_if (pt_cmpR op_eq (pv 1) pe_str (nomark _)) (@pss_one _ _ _ (@ps_ret _ _ _ _ (@pe_tup _ _ _ _ _ (@pa_cons _ _ _ _ _ (pv 1) (@pa_cons _ _ _ _ _ (pe_op op_add pe_int (pe_op op_mod (pe_op op_fdiv (pv 0) pe_int) pe_int)) pa_nil (by rfl)) (by rfl))))) pss_nil)
   (@pss_one _ _ _ (@ps_ret _ _ _ _ (@pe_tup _ _ _ _ _ (@pa_cons _ _ _ _ _ (pv 1) pa_nil (by rfl)))))))),?_⟩
  refine⟨(by show 7≤sizeLine; decide),fun l nl=>?_⟩
  have s1:Same H (upd H l (.lst [.str "relay",.str "sorter",.str "thinner",.str "joiner",.str "relay",.str "sink",.str "sorter"])):=Same.new nl
  infer_instance
  have d0:=yN n (show(7:Int) ≠ 0 by decide)
  have d1:=yE n (show(0:Int) < 7 by decide)
  obtain⟨j,hj⟩:∃ j:Nat,n % 7=(j:Int):=⟨(n % 7).toNat,by omega⟩
  have hj5:j < 7:=by omega
  have tup1:∀(x:Str) (H1:Hp),Same H H1→StaOk (x,none)→∀ t,H1 t=none→Q (.ref t) (upd H1 t (.tup [.str x])):=fun x H1 sx ok t nt=>q t (x,none) _ upd_same ok (sx.upd (sx.free nt))
  match j,hj5 with
  | 0,_ =>
   refine⟨_,_,_,_,rfl,rfl,SqL.of upd_same,(by rw[hj]; exact atI_nat (j:=0) rfl),?_⟩
   refine⟨_,rfl,rfl,_,rfl,?_⟩
   rw[show decide (V.str "relay"=V.str "relay")=true from by decide +kernel]
   refine iteT ?_
   infer_instance
   refine⟨(by show 2≤sizeLine; decide),fun t nt=>?_⟩
   exact q t ("relay",some (n / 7 % 41 - 20)) _ upd_same (.inl ⟨_,rfl,by omega,by omega⟩) (s1.upd (s1.free nt))
  | 1,_ =>
   refine⟨_,_,_,_,rfl,rfl,SqL.of upd_same,(by rw[hj]; exact atI_nat (j:=1) rfl),?_⟩
   refine⟨_,rfl,rfl,_,rfl,?_⟩
   rw[show decide (V.str "sorter"=V.str "relay")=false from by decide +kernel]
   refine iteF ⟨_,rfl,rfl,_,rfl,?_⟩
   rw[show decide (V.str "sorter"=V.str "thinner")=false from by decide +kernel]
   exact iteF ⟨_,rfl,(by show 1≤sizeLine; decide),tup1 _ _ s1 (.inr (.inl rfl))⟩
  | 2,_ =>
   refine⟨_,_,_,_,rfl,rfl,SqL.of upd_same,(by rw[hj]; exact atI_nat (j:=2) rfl),?_⟩
   refine⟨_,rfl,rfl,_,rfl,?_⟩
   rw[show decide (V.str "thinner"=V.str "relay")=false from by decide +kernel]
   refine iteF ⟨_,rfl,rfl,_,rfl,?_⟩
   rw[show decide (V.str "thinner"=V.str "thinner")=true from by decide +kernel]
   refine iteT ?_
   infer_instance
   refine⟨(by show 2≤sizeLine; decide),fun t nt=>?_⟩
   exact q t ("thinner",some (2 + n / 7 % 8)) _ upd_same (.inr (.inr (.inl ⟨_,rfl,by omega,by omega⟩))) (s1.upd (s1.free nt))
  | 3,_ =>
   refine⟨_,_,_,_,rfl,rfl,SqL.of upd_same,(by rw[hj]; exact atI_nat (j:=3) rfl),?_⟩
   refine⟨_,rfl,rfl,_,rfl,?_⟩
   rw[show decide (V.str "joiner"=V.str "relay")=false from by decide +kernel]
   refine iteF ⟨_,rfl,rfl,_,rfl,?_⟩
   rw[show decide (V.str "joiner"=V.str "thinner")=false from by decide +kernel]
   exact iteF ⟨_,rfl,(by show 1≤sizeLine; decide),tup1 _ _ s1 (.inr (.inr (.inr (.inl rfl))))⟩
  | 4,_ =>
   refine⟨_,_,_,_,rfl,rfl,SqL.of upd_same,(by rw[hj]; exact atI_nat (j:=4) rfl),?_⟩
   refine⟨_,rfl,rfl,_,rfl,?_⟩
   rw[show decide (V.str "relay"=V.str "relay")=true from by decide +kernel]
   refine iteT ?_
   infer_instance
   refine⟨(by show 2≤sizeLine; decide),fun t nt=>?_⟩
   exact q t ("relay",some (n / 7 % 41 - 20)) _ upd_same (.inl ⟨_,rfl,by omega,by omega⟩) (s1.upd (s1.free nt))
  | 5,_ =>
   refine⟨_,_,_,_,rfl,rfl,SqL.of upd_same,(by rw[hj]; exact atI_nat (j:=5) rfl),?_⟩
   refine⟨_,rfl,rfl,_,rfl,?_⟩
   rw[show decide (V.str "sink"=V.str "relay")=false from by decide +kernel]
   refine iteF ⟨_,rfl,rfl,_,rfl,?_⟩
   rw[show decide (V.str "sink"=V.str "thinner")=false from by decide +kernel]
   exact iteF ⟨_,rfl,(by show 1≤sizeLine; decide),tup1 _ _ s1 (.inr (.inr (.inr (.inr rfl))))⟩
  | 6,_ =>
   refine⟨_,_,_,_,rfl,rfl,SqL.of upd_same,(by rw[hj]; exact atI_nat (j:=6) rfl),?_⟩
   refine⟨_,rfl,rfl,_,rfl,?_⟩
   rw[show decide (V.str "sorter"=V.str "relay")=false from by decide +kernel]
   refine iteF ⟨_,rfl,rfl,_,rfl,?_⟩
   rw[show decide (V.str "sorter"=V.str "thinner")=false from by decide +kernel]
   exact iteF ⟨_,rfl,(by show 1≤sizeLine; decide),tup1 _ _ s1 (.inr (.inl rfl))⟩
theorem sc_wks:FnScope ["script","many","lines","stations","belts","k","number","feeds","cell"] ["script"] (defScope (top 20)):=⟨rfl,rfl,rfl,by decide +kernel,rfl,by decide +kernel,by decide +kernel⟩
theorem ok_wks {f:Addr} {fd:FuncData} (F:Fun K "_law_works" "_law_works" (top 20) f fd) (T:Txt K mg) (ag:FnAt P w K mg base 1 "_law_draw" ["script","k"] (spDraw K)) (aM:FnAt P w K mg base 1 "_law_station" ["number"] spSta):FnOk P w K mg base CX0 2 f fd ["script"] (spWks K):=by
 have nd:=sc_wks.nd
 refine F.ok sc_wks (fun vs H Q E h=>?_) (fun cdv A outer s H vs Q E hr h=>?_)
 ·obtain⟨a,ns,rfl,_⟩:=h
  rfl
 ·obtain⟨a,ns,rfl,hS,hl,q⟩:=h
  refine⟨_,(@pss_cons _ _ _ _ _ (ps_set (i:=1) nd rfl (by nofun) (pe_op op_add pe_int (pe_op op_mod (pe_fn ag (hr.mono (by decide)) (by rfl) (@pa_cons _ _ _ _ _ (pv 0) (@pa_cons _ _ _ _ _ pe_int pa_nil (by rfl)) (by rfl))) pe_int)))
   (@pss_cons _ _ _ _ _ (ps_set (i:=2) nd rfl (by nofun) (pe_op op_mod (pe_fn ag (hr.mono (by decide)) (by rfl) (@pa_cons _ _ _ _ _ (pv 0) (@pa_cons _ _ _ _ _ pe_int pa_nil (by rfl)) (by rfl))) pe_int))
   (@pss_cons _ _ _ _ _ (ps_if (pt_cmpR op_eq (pe_op op_mod (pe_fn ag (hr.mono (by decide)) (by rfl) (@pa_cons _ _ _ _ _ (pv 0) (@pa_cons _ _ _ _ _ pe_int pa_nil (by rfl)) (by rfl))) pe_int) pe_int (nomark _)) (@pss_cons _ _ _ _ _ (ps_set (i:=1) nd rfl (by nofun) (pe_op op_add pe_int (pe_op op_mod (pe_fn ag (hr.mono (by decide)) (by rfl) (@pa_cons _ _ _ _ _ (pv 0) (@pa_cons _ _ _ _ _ pe_int pa_nil (by rfl)) (by rfl))) pe_int)))
   (@pss_one _ _ _ (ps_set (i:=2) nd rfl (by nofun) (pe_op op_add pe_int (pe_op op_mod (pe_fn ag (hr.mono (by decide)) (by rfl) (@pa_cons _ _ _ _ _ (pv 0) (@pa_cons _ _ _ _ _ pe_int pa_nil (by rfl)) (by rfl))) pe_int))))) pss_nil)
   (@pss_cons _ _ _ _ _ (ps_setC (i:=3) nd rfl (Or.inl rfl) rfl (own:=["k"]) (fr:=["script"]) (js:=[0]) (by and_intros) (pi_range1 rfl T.n_range (@pa_cons _ _ _ _ _ (pv 1) pa_nil (by rfl))) (fun _ _ _ _=>(pg_name (i:=0) (show List.Nodup (["k","script"]:List Str) from by decide +kernel) rfl (by nofun))) (fun _ _ _ _=>pts_nil) (fun _ _ _ _=>(pe_fn aM (hr.mono (by decide)) (by rfl) (@pa_cons _ _ _ _ _ (pe_fn ag (hr.mono (by decide)) (by rfl) (@pa_cons _ _ _ _ _ (pv 1) (@pa_cons _ _ _ _ _ (pe_op op_add pe_int (pv 0)) pa_nil (by rfl)) (by rfl))) pa_nil (by rfl)))))
   (@pss_cons _ _ _ _ _ (ps_set (i:=4) nd rfl (by nofun) (@pe_lst _ _ _ _ pa_nil))
   (@pss_cons _ _ _ _ _ (ps_for PassesOwn.never rfl (pi_range1 rfl T.n_range (@pa_cons _ _ _ _ _ (pv 2) pa_nil (by rfl))) (pg_name (i:=5) nd rfl (by nofun)) (@pss_cons _ _ _ _ _ (ps_set (i:=6) nd rfl (by nofun) (pe_fn ag (hr.mono (by decide)) (by rfl) (@pa_cons _ _ _ _ _ (pv 0) (@pa_cons _ _ _ _ _ (pe_op op_add pe_int (pv 5)) pa_nil (by rfl)) (by rfl))))
   (@pss_one _ _ _ (ps_expr (pe_bm PySem.F.plainAttrs_list PySem.F.slot_list_append PySem.F.type_list_append mt_append (pv 4) (@pa_cons _ _ _ _ _ (@pe_tup _ _ _ _ _ (@pa_cons _ _ _ _ _ (pe_op op_mod (pv 6) (pv 1)) (@pa_cons _ _ _ _ _ (pe_op op_mod (pe_op op_fdiv (pv 6) pe_int) (pv 1)) (@pa_cons _ _ _ _ _ (pe_op op_add pe_int (pe_op op_mod (pe_op op_fdiv (pv 6) pe_int) (@pe_ix _ _ _ _ _ _ _ (ix_listK (K:=K) rfl) (@pe_lst _ _ _ _ (@pa_cons _ _ _ _ _ pe_int (@pa_cons _ _ _ _ _ pe_int pa_nil (by rfl)) (by rfl))) (pe_op op_mod (pe_op op_fdiv (pv 6) pe_int) pe_int) (fun _ _=>rfl)))) pa_nil (by rfl)) (by rfl)) (by rfl))) pa_nil (by rfl)))))))
   (@pss_cons _ _ _ _ _ (ps_set (i:=7) nd rfl (by nofun) (@pe_lst _ _ _ _ pa_nil))
   (@pss_cons _ _ _ _ _ (ps_for PassesOwn.never rfl (pi_range1 rfl T.n_range (@pa_cons _ _ _ _ _ (pe_op op_add pe_int (pe_op op_mod (pe_fn ag (hr.mono (by decide)) (by rfl) (@pa_cons _ _ _ _ _ (pv 0) (@pa_cons _ _ _ _ _ pe_int pa_nil (by rfl)) (by rfl))) pe_int)) pa_nil (by rfl))) (pg_name (i:=5) nd rfl (by nofun)) (@pss_cons _ _ _ _ _ (ps_set (i:=6) nd rfl (by nofun) (pe_fn ag (hr.mono (by decide)) (by rfl) (@pa_cons _ _ _ _ _ (pv 0) (@pa_cons _ _ _ _ _ (pe_op op_add pe_int (pv 5)) pa_nil (by rfl)) (by rfl))))
   (@pss_cons _ _ _ _ _ (ps_set (i:=8) nd rfl (by nofun) (pe_callB (call_sumL rfl) (by rfl) T.n_sum bt_sum (@pa_cons _ _ _ _ _ (pe_slice3K (K:=K) rfl (pv 0) (po_some (pv 5)) (po_some pe_int) (po_some pe_int)) pa_nil (by rfl))))
   (@pss_one _ _ _ (ps_expr (pe_bm PySem.F.plainAttrs_list PySem.F.slot_list_append PySem.F.type_list_append mt_append (pv 7) (@pa_cons _ _ _ _ _ (@pe_tup _ _ _ _ _ (@pa_cons _ _ _ _ _ (pe_op op_mod (pv 6) (pv 1)) (@pa_cons _ _ _ _ _ (pe_op op_mod (pe_op op_fdiv (pv 6) pe_int) (@pe_ix _ _ _ _ _ _ _ (ix_listK (K:=K) rfl) (@pe_lst _ _ _ _ (@pa_cons _ _ _ _ _ pe_int (@pa_cons _ _ _ _ _ pe_int pa_nil (by rfl)) (by rfl))) (pe_op op_mod (pe_op op_fdiv (pv 6) pe_int) pe_int) (fun _ _=>rfl))) (@pa_cons _ _ _ _ _ (pe_op op_sub (pe_op op_mod (pe_op op_add (pv 8) (pe_op op_fdiv (pv 6) pe_int)) pe_int) pe_int) pa_nil (by rfl)) (by rfl)) (by rfl))) pa_nil (by rfl))))))))
   (@pss_one _ _ _ (@ps_ret _ _ _ _ (@pe_tup _ _ _ _ _ (@pa_cons _ _ _ _ _ (pv 3) (@pa_cons _ _ _ _ _ (pv 4) (@pa_cons _ _ _ _ _ (pv 7) pa_nil (by rfl)) (by rfl)) (by rfl))))))))))))),?_⟩
  refine⟨_,rfl,a,ns,0,rfl,hS,hl,by decide,by decide,fun H00 s00=>⟨_,_,rfl,rfl,(show(0:Int) < 5 by decide),_,_,rfl,rfl,?_⟩⟩
  refine⟨_,rfl,a,ns,1,rfl,s00.seq hS,hl,by decide,by decide,fun H01 s01=>⟨_,_,rfl,rfl,(show(0:Int) < 8 by decide),?_⟩⟩
  have s001:=s00.trans s01
  refine⟨_,rfl,a,ns,3,rfl,s001.seq hS,hl,by decide,by decide,fun H02 s02=>⟨_,_,rfl,rfl,(show(0:Int) < 8 by decide),rfl,_,rfl,?_⟩⟩
  have s002:=s001.trans s02
  refine if_t0 (fun σ' H'=>∃ M cb:Int,σ'=[some (.ref a),some (.int M),some (.int cb),none,none,none,none,none,none]∧Same H H'∧1≤M∧M≤8∧0≤cb∧cb≤12) (fun _ k=>?_) (fun _ k=>k _ _ ⟨_,_,rfl,s002,by omega,by omega,by omega,by omega⟩) ?_
  ·refine⟨_,rfl,a,ns,0,rfl,s002.seq hS,hl,by decide,by decide,fun H03 s03=>⟨_,_,rfl,rfl,(show(0:Int) < 3 by decide),_,_,rfl,rfl,?_⟩⟩
   have s003:=s002.trans s03
   refine⟨_,rfl,a,ns,1,rfl,s003.seq hS,hl,by decide,by decide,fun H04 s04=>⟨_,_,rfl,rfl,(show(0:Int) < 5 by decide),_,_,rfl,rfl,?_⟩⟩
   exact k _ _ ⟨_,_,rfl,s003.trans s04,by omega,by omega,by omega,by omega⟩
  rintro σ' H0 ⟨M,cb,rfl,s0,M1,M8,c0,c1⟩
  clear s00 s01 s02 s001 s002
  refine⟨_,rfl,_,rfl,by rw[p62]; omega,by rw[p62]; omega,fun D nD=>?_⟩
  refine comp_range (lo:=0) (n:=M.toNat) (fun i H4=>∃(xs:List V) (ss:List Sta),Same H0 H4∧H4 D=some (.lst xs)∧Paired (IsSta H4) xs ss∧ss.length=i∧∀ s ∈ ss,StaOk s)
   ⟨[],[],Same.new nD,upd_same,.nil,rfl,fun s h=>absurd h zK⟩ ?_ ?_
  ·rintro i H4 m Wf hi ⟨xs,ss,s4,h4,pr,el,ok⟩ nx
   refine⟨_,rfl,_,rfl,_,_,rfl,rfl,a,ns,_,rfl,(s0.trans s4).seq hS,hl,by omega,by omega,fun H5 s5=>⟨_,rfl,fun p st H6 hp okp s6=>?_⟩⟩
   have lx:=pr.length
   have s56:=s5.trans s6
   refine⟨_,s56 _ _ h4,small1000 (by omega),nx _ ⟨xs++[.ref p],ss++[st],(s4.trans s56).upd nD,upd_same,?_,by rw[zN,el]; rfl,fun s h=>?_⟩⟩
   ·exact paired_app (pairedMono (fun _ _ h=>(IsSta.same s56 h).keep (s56 _ _ h4)) pr) (.cons (IsSta.keep (s56 _ _ h4) ⟨p,rfl,hp⟩) .nil)
   ·rcases yA.mp h with h|h
    ·exact ok s h
    ·rw[zF.mp h]; exact okp
  ·rintro H4 ⟨xs,ss,s4,h4,prS,elS,okS⟩
   have elS':(ss.length:Int)=M:=by omega
   have s04:=s0.trans s4
   refine⟨zW _,fun aB nB=>?_⟩
   have s5:Same H4 (upd H4 aB (.lst [])):=Same.new nB
   have hB5:=upd_same (H:=H4) (a:=aB) (o:=.lst [])
   refine⟨_,rfl,_,rfl,by rw[p62]; omega,by rw[p62]; omega,for_range (n:=cb.toNat) (fun i σ H7=>∃(ys:List V) (be:List Tri) (v4 v5 v6 v7:Option V),σ=[some (.ref a),some (.int M),some (.int cb),some (.ref D),some (.ref aB),v4,v5,v6,v7]∧Same H4 H7 ∧
    H7 aB=some (.lst ys)∧Paired (IsTri H7) ys be∧be.length=i∧(∀ t ∈ be,0≤t.1∧t.1 < M∧0≤t.2.1∧t.2.1 < M∧1≤t.2.2∧t.2.2≤9))
    ⟨[],[],none,none,none,none,rfl,s5,hB5,.nil,rfl,fun t h=>absurd h zK⟩ ?_ ?_⟩
   ·rintro i σ H7 hi ⟨ys,be,v4,v5,v6,v7,rfl,s7,hB7,pb,lb,okb⟩
    have lyb:=pb.length
    refine⟨_,rfl,_,rfl,_,_,rfl,rfl,a,ns,_,rfl,(s04.trans s7).seq hS,hl,by omega,by omega,fun H8 s8=>?_⟩
    have z0:=(drawF_bd ns (40 + (0 + (i:Int)))).1
    generalize drawF ns (40 + (0 + (i:Int)))=z at z0
    have m1:=yN z (show M ≠ 0 by omega)
    have m2:=yE z (show 0 < M by omega)
    have m3:=yN (z / 8) (show M ≠ 0 by omega)
    have m4:=yE (z / 8) (show 0 < M by omega)
    have hB8:=s8 _ _ hB7
    have s78:=s7.trans s8
    refine⟨_,rfl,tyL hB8,_,rfl,_,rfl,_,_,rfl,rfl,(show 0 < M by omega),_,rfl,_,_,rfl,rfl,⟨by decide,by decide⟩,_,rfl,_,_,rfl,rfl,(show 0 < M by omega),_,rfl,_,_,rfl,rfl,⟨by decide,by decide⟩,(by show 2≤sizeLine; decide),fun l nl=>?_⟩
    have s9:Same H8 (upd H8 l (.lst [.int 3,.int 9])):=Same.new nl
    refine⟨_,rfl,_,_,rfl,rfl,⟨by decide,by decide⟩,_,_,rfl,rfl,(show(0:Int) < 2 by decide),?_⟩
    have d0:=yN (z / 640) (show(2:Int) ≠ 0 by decide)
    have d2:=yE (z / 640) (show(0:Int) < 2 by decide)
    have hcase:z / 640 % 2=((0:Nat):Int)∨z / 640 % 2=((1:Nat):Int):=by omega
    have hBl:(upd H8 l (.lst [.int 3,.int 9])) aB=some (.lst ys):=s9 _ _ hB8
    rcases hcase with e|e
    ·refine⟨_,_,_,_,rfl,rfl,SqL.of upd_same,by rw[e]; exact atI_nat (j:=0) rfl,_,_,rfl,rfl,(show(0:Int) < 3 by decide),_,_,rfl,rfl,(by show 3≤sizeLine; decide),fun t nt=>?_⟩
     exact⟨_,_,_,rfl,rfl,Same.new nt _ _ hBl,small1000 (by omega),by
      obtain⟨g1,g2⟩:=tri_go (z % M,z / 8 % M,1 + z / 64 % 3) s7 (s8.trans s9) hB7 nB pb nt
      exact⟨_,_,_,_,_,_,rfl,g1,upd_same,g2,by rw[zN,lb]; rfl,all_snoc okb ⟨m1,m2,m3,m4,by show 1≤1 + z / 64 % 3; omega,by show 1 + z / 64 % 3≤9; omega⟩⟩⟩
    ·refine⟨_,_,_,_,rfl,rfl,SqL.of upd_same,by rw[e]; exact atI_nat (j:=1) rfl,_,_,rfl,rfl,(show(0:Int) < 9 by decide),_,_,rfl,rfl,(by show 3≤sizeLine; decide),fun t nt=>?_⟩
     exact⟨_,_,_,rfl,rfl,Same.new nt _ _ hBl,small1000 (by omega),by
      obtain⟨g1,g2⟩:=tri_go (z % M,z / 8 % M,1 + z / 64 % 9) s7 (s8.trans s9) hB7 nB pb nt
      exact⟨_,_,_,_,_,_,rfl,g1,upd_same,g2,by rw[zN,lb]; rfl,all_snoc okb ⟨m1,m2,m3,m4,by show 1≤1 + z / 64 % 9; omega,by show 1 + z / 64 % 9≤9; omega⟩⟩⟩
   ·rintro σ H7 ⟨ys,be,v4,v5,v6,v7,rfl,s7,hB7,pb,lb,okb⟩
    have lyb:=pb.length
    refine⟨zW _,fun aF nF=>?_⟩
    have nBF:aB ≠ aF:=ne_of_none hB7 nF
    have s8:Same H7 (upd H7 aF (.lst [])):=Same.new nF
    refine⟨_,rfl,a,ns,2,rfl,(s04.trans (s7.trans s8)).seq hS,hl,by decide,by decide,fun H9 s9=>⟨_,_,rfl,rfl,(show(0:Int) < 9 by decide),?_⟩⟩
    have hF9:=s9 _ _ (upd_same (H:=H7) (a:=aF) (o:=.lst []))
    have s79:=s8.trans s9
    have c0:=yN (drawF ns 2) (show(9:Int) ≠ 0 by decide)
    have c1:=yE (drawF ns 2) (show(0:Int) < 9 by decide)
    obtain⟨cf,hcf⟩:∃ cf,cf=drawF ns 2 % 9:=⟨_,rfl⟩
    rw[← hcf] at c0 c1
    refine⟨_,_,rfl,rfl,1 + cf,(by rw[hcf]),by rw[p62]; omega,by rw[p62]; omega,for_range (n:=(1 + cf).toNat) (fun i σ H10=>∃(zs:List V) (fe:List Tri) (v4 v5 v7:Option V),σ=[some (.ref a),some (.int M),some (.int cb),some (.ref D),some (.ref aB),v4,v5,some (.ref aF),v7]∧Same H7 H10 ∧
     H10 aF=some (.lst zs)∧Paired (IsTri H10) zs fe∧fe.length=i∧(∀ t ∈ fe,0≤t.1∧t.1 < M∧0≤t.2.1∧t.2.1≤50∧-1000000000≤t.2.2∧t.2.2≤1000000000))
     ⟨[],[],_,_,_,rfl,s79,hF9,.nil,rfl,fun t h=>absurd h zK⟩ ?_ ?_⟩
    ·rintro i σ H10 hi ⟨zs,fe,v4,v5,v7,rfl,s10,hF10,pf,lf,okf⟩
     have lyf:=pf.length
     refine⟨_,rfl,_,rfl,_,_,rfl,rfl,a,ns,_,rfl,(s04.trans (s7.trans s10)).seq hS,hl,by omega,by omega,fun H11 s11=>?_⟩
     have z0:=(drawF_bd ns (50 + (0 + (i:Int)))).1
     generalize drawF ns (50 + (0 + (i:Int)))=z at z0
     have m1:=yN z (show M ≠ 0 by omega)
     have m2:=yE z (show 0 < M by omega)
     refine⟨_,rfl,_,rfl,_,rfl,_,rfl,_,rfl,a,ns,rfl,(s04.trans (s7.trans (s10.trans s11))).seq hS,(by intro z; cases z),fun p ms em hm np=>?_⟩
     have s12:Same H11 (upd H11 p (.lst (ms.map V.int))):=Same.new np
     refine⟨p,ms,rfl,SqL.of upd_same,?_⟩
     generalize ms.sum=cs
     generalize (upd H11 p (.lst (ms.map V.int)))=H12 at s12 ⊢
     have s1012:=s11.trans s12
     have hF12:=s1012 _ _ hF10
     refine⟨_,rfl,tyL hF12,_,rfl,_,rfl,_,_,rfl,rfl,(show 0 < M by omega),_,rfl,_,_,rfl,rfl,⟨by decide,by decide⟩,(by show 2≤sizeLine; decide),fun l nl=>?_⟩
     have s13:Same H12 (upd H12 l (.lst [.int 4,.int 13])):=Same.new nl
     refine⟨_,rfl,_,_,rfl,rfl,⟨by decide,by decide⟩,_,_,rfl,rfl,(show(0:Int) < 2 by decide),?_⟩
     have hcase:z / 200 % 2=((0:Nat):Int)∨z / 200 % 2=((1:Nat):Int):=by omega
     have hFl:(upd H12 l (.lst [.int 4,.int 13])) aF=some (.lst zs):=s13 _ _ hF12
     rcases hcase with e|e
     ·refine⟨_,_,_,_,rfl,rfl,SqL.of upd_same,by rw[e]; exact atI_nat (j:=0) rfl,_,_,rfl,rfl,(show(0:Int) < 4 by decide),?_⟩
      infer_instance
      refine⟨(by show 3≤sizeLine; decide),fun t nt=>?_⟩
      exact⟨_,_,_,rfl,rfl,Same.new nt _ _ hFl,small1000 (by omega),by
       obtain⟨g1,g2⟩:=tri_go (z % M,z / 8 % 4,(cs + z / 999) % 101 - 50) s10 (s1012.trans s13) hF10 nF pf nt
       exact⟨_,_,_,_,_,rfl,g1,upd_same,g2,by rw[zN,lf]; rfl,all_snoc okf ⟨m1,m2,by show 0≤z / 8 % 4; omega,by show z / 8 % 4≤50; omega,by show -1000000000≤(cs + z / 999) % 101 - 50; omega,by show(cs + z / 999) % 101 - 50≤1000000000; omega⟩⟩⟩
     ·refine⟨_,_,_,_,rfl,rfl,SqL.of upd_same,by rw[e]; exact atI_nat (j:=1) rfl,_,_,rfl,rfl,(show(0:Int) < 13 by decide),?_⟩
      infer_instance
      refine⟨(by show 3≤sizeLine; decide),fun t nt=>?_⟩
      exact⟨_,_,_,rfl,rfl,Same.new nt _ _ hFl,small1000 (by omega),by
       obtain⟨g1,g2⟩:=tri_go (z % M,z / 8 % 13,(cs + z / 999) % 101 - 50) s10 (s1012.trans s13) hF10 nF pf nt
       exact⟨_,_,_,_,_,rfl,g1,upd_same,g2,by rw[zN,lf]; rfl,all_snoc okf ⟨m1,m2,by show 0≤z / 8 % 13; omega,by show z / 8 % 13≤50; omega,by show -1000000000≤(cs + z / 999) % 101 - 50; omega,by show(cs + z / 999) % 101 - 50≤1000000000; omega⟩⟩⟩
    ·rintro σ H10 ⟨zs,fe,v4,v5,v7,rfl,s10,hF10,pf,lf,okf⟩
     refine⟨_,rfl,_,rfl,_,rfl,(by show 3≤sizeLine; decide),fun wt nw=>?_⟩
     have sw:Same H10 (upd H10 wt (.tup [.ref D,.ref aB,.ref aF])):=Same.new nw
     have s7w:=s10.trans sw
     have s4w:=s7.trans s7w
     refine q wt ⟨ss,be,fe⟩ _ ⟨D,aB,aF,xs,ys,zs,upd_same,⟨s4w _ _ h4,s7w _ _ hB7,sw _ _ hF10,pairedMono (fun _ _=>IsSta.same s4w) prS,pairedMono (fun _ _=>IsTri.same s7w) pb,pairedMono (fun _ _=>IsTri.same sw) pf⟩⟩ ⟨?_,?_,?_,?_,okS,?_,?_⟩ (s04.trans s4w)
     ·show 1≤ss.length; omega
     ·show ss.length≤8; omega
     ·show be.length≤12; omega
     ·show fe.length≤60; omega
     ·intro t h
      have:=okb t h
      show 0≤t.1∧t.1 < (ss.length:Int)∧0≤t.2.1∧t.2.1 < (ss.length:Int)∧1≤t.2.2∧t.2.2≤9
      rw[elS']
      exact this
     ·intro t h
      have:=okf t h
      show 0≤t.1∧t.1 < (ss.length:Int)∧0≤t.2.1∧t.2.1≤50∧-1000000000≤t.2.2∧t.2.2≤1000000000
      rw[elS']
      exact this
end
end Oc
namespace Oc
open PySem L2
theorem wb:¬ (("ways":Str)="belts"):=by decide +kernel
def fS (p1 p2:Addr):List (Str × V):=putF "belts" (.ref p2) (putF "ways" (.ref p1) [])
theorem fS_belts (p1 p2:Addr):(fS p1 p2).lookup ("belts":Str)=some (.ref p2):=by
 unfold fS
 rw[lookup_putF,if_pos rfl]
theorem cX (p1 p2:Addr):(fS p1 p2).lookup ("ways":Str)=some (.ref p1):=by
 unfold fS
 rw[lookup_putF,if_neg wb,lookup_putF,if_pos rfl]
theorem fS_no (p1 p2:Addr) {m:Str} (h1:¬ m="belts") (h2:¬ m="ways"):(fS p1 p2).lookup m=none:=by
 unfold fS
 rw[lookup_putF,if_neg h1,lookup_putF,if_neg h2]
 rfl
theorem fS_len (p1 p2:Addr):(fS p1 p2).length≤2:=by
 have h1:=length_putF "ways" (.ref p1) []
 have h2:=length_putF "belts" (.ref p2) (putF "ways" (.ref p1) [])
 have h3:([]:List (Str × V)).length=0:=rfl
 unfold fS
 omega
structure StC (K:PySem.W.Frag) (C:Addr):Prop where
 cl:Cls K C
 nW:NoAttr K C "ways"
 nB:NoAttr K C "belts"
inductive spStI (K:PySem.W.Frag) (vs:List V) (H:Hp) (Q:VK) (x_3:XK):Prop where
 | mk (p wa b C dx:Addr) (xs ys:List V) (M:List (List Cell)) (h_0:vs=[.ref p,.ref wa,.ref b]) (h_1:Hc H ([(p,.ins C dx [])]::M)) (h_2:StC K C) (h_3:SqL K H wa xs) (h_4:SqL K H b ys) (h_5:wa ≠ p) (h_6:b ≠ p) (h_7:∀(p1 p2:Addr) (H':Hp),Keep [p] H H'→Hc H' ([(p,.ins C dx (fS p1 p2)),(p1,.tup xs),(p2,.tup ys)]::M)→Q .non H'):spStI K vs H Q x_3
inductive spOne (K:PySem.W.Frag) (vs:List V) (H:Hp) (Q:VK) (x_3:XK):Prop where
 | mk (p C dx bt:Addr) (fs:List (Str × V)) (ys:List V) (z:Int) (h_0:vs=[.ref p,.int z]) (h_1:H p=some (.ins C dx fs)) (h_2:StC K C) (h_3:fs.lookup ("belts":Str)=some (.ref bt)) (h_4:H bt=some (.tup ys)) (h_5:(ys=[]→Q .non H)) (h_6:(∀ y r t,ys=y::r→H t=none→Q (.ref t) (upd H t (.tup [y,.int z])))):spOne K vs H Q x_3
section
variable {P:Program} {w:World} {K:PySem.W.Frag} {mg:Str→Option Value} {base:Heap}
theorem sc_stI:FnScope ["self","ways","belts"] ["self","ways","belts"] (defScope (inClass (top 8) 0)):=⟨rfl,rfl,rfl,by decide +kernel,rfl,by decide +kernel,by decide +kernel⟩
theorem ok_stI {f:Addr} {fd:FuncData} (F:Fun K "__init__" "Station.__init__" (inClass (top 8) 0) f fd) (T:Txt K mg):FnOk P w K mg base CX0 1 f fd ["self","ways","belts"] (spStI K):=by
 have nd:=sc_stI.nd
 refine F.ok sc_stI (fun vs H Q E h=>?_) (fun cdv A outer s H vs Q E hr h=>?_)
 ·obtain⟨p,wa,b,C,dx,xs,ys,M,rfl,_⟩:=h
  rfl
 ·obtain⟨p,wa,b,C,dx,xs,ys,M,rfl,hc,c,hw,hb,n1,n2,q⟩:=h
  refine⟨_,(@pss_cons _ _ _ _ _ (ps_fld (pv 0) (pe_callTy call_tuple_of (by rfl) T.n_tuple bt_tuple (@pa_cons _ _ _ _ _ (pv 1) pa_nil (by rfl))) rfl)
   (@pss_one _ _ _ (ps_fld (pv 0) (pe_callTy call_tuple_of (by rfl) T.n_tuple bt_tuple (@pa_cons _ _ _ _ _ (pv 2) pa_nil (by rfl))) rfl))),?_⟩
  refine⟨_,rfl,wa,xs,rfl,.inl ⟨hw,fun p1 f1=>?_⟩⟩
  have hc1:=hc.new f1 (.tup xs)
  have hp:=hc.get 0 0 rfl rfl
  refine⟨_,rfl,p,C,dx,[],rfl,hc1.get 1 0 rfl rfl,c.cl,c.nW,(by show 0 < 1000; decide),?_⟩
  have hc2:=hc1.put 1 0 rfl rfl (.ins C dx (putF "ways" (.ref p1) []))
  have hb1:SqL K (upd (upd H p1 (.tup xs)) p (.ins C dx (putF "ways" (.ref p1) []))) b ys:=by
   have k1:∀ o,H b=some o→upd (upd H p1 (.tup xs)) p (.ins C dx (putF "ways" (.ref p1) [])) b=some o:=fun o e=>by
    rw[upd_ne n2,upd_ne (ne_of_none e f1)]
    exact e
   rcases hb with (h|⟨o,h⟩)|h
   ·exact .inl (.inl (k1 _ h))
   ·exact .inl (.inr ⟨o,k1 _ h⟩)
   ·exact .inr h
  refine⟨_,rfl,b,ys,rfl,.inl ⟨hb1,fun p2 f2=>?_⟩⟩
  have hc3:=hc2.new f2 (.tup ys)
  refine⟨_,rfl,p,C,dx,_,rfl,hc3.get 2 0 rfl rfl,c.cl,c.nB,?_,?_⟩
  ·have h1:=length_putF "ways" (.ref p1) []
   have h3:([]:List (Str × V)).length=0:=rfl
   omega
  ·have hc4:Hc _ ([(p2,.tup ys)]::[(p1,.tup xs)]::[(p,.ins C dx (fS p1 p2))]::M):=hc3.put 2 0 rfl rfl (.ins C dx (fS p1 p2))
   have hc5:Hc _ ([(p,.ins C dx (fS p1 p2))]::[(p1,.tup xs)]::[(p2,.tup ys)]::M):=(hc4.pick 1 rfl).pick 2 rfl
   exact q p1 p2 _ (((((Keep.same (Same.refl H)).new' f1).upd (yH _)).new' f2).upd (yH _)) hc5.join.join
theorem sc_one:FnScope ["self","piece"] ["self","piece"] (defScope (inClass (top 8) 2)):=⟨rfl,rfl,rfl,by decide +kernel,rfl,by decide +kernel,by decide +kernel⟩
theorem ok_one {f:Addr} {fd:FuncData} (F:Fun K "on_first" "Station.on_first" (inClass (top 8) 2) f fd) (T:Txt K mg):FnOk P w K mg base CX0 1 f fd ["self","piece"] (spOne K):=by
 have nd:=sc_one.nd
 refine F.ok sc_one (fun vs H Q E h=>?_) (fun cdv A outer s H vs Q E hr h=>?_)
 ·obtain⟨p,C,dx,bt,fs,ys,z,rfl,_⟩:=h
  rfl
 ·obtain⟨p,C,dx,bt,fs,ys,z,rfl,hp,c,hf,ht,q0,q1⟩:=h
  refine⟨_,(@pss_one _ _ _ (@ps_ret _ _ _ _ (pe_ifExp (pt_cmpR op_gt (pe_callB (call_len_seqK (K:=K) rfl) (by rfl) T.n_len bt_len (@pa_cons _ _ _ _ _ (pe_fldK (K:=K) rfl (pv 0) rfl) pa_nil (by rfl))) pe_int (nomark _)) (@pe_tup _ _ _ _ _ (@pa_cons _ _ _ _ _ (@pe_ix _ _ _ _ _ _ _ (ix_tupK (K:=K) rfl) (pe_fldK (K:=K) rfl (pv 0) rfl) pe_int (fun _ _=>rfl)) (@pa_cons _ _ _ _ _ (pv 1) pa_nil (by rfl)) (by rfl))) pe_non))),?_⟩
  refine⟨_,rfl,p,C,dx,_,_,rfl,hp,c.cl,c.nB,hf,bt,_,rfl,.inr (SqT.of ht),?_⟩
  infer_instance
  cases ys with
  | nil=>exact iteF (q0 rfl)
  | cons y r =>
   have e:decide ((0:Int) < ((y::r).length:Int))=true:=by
    rw[zS]
    exact decide_eq_true (by omega)
   rw[e]
   refine iteT ?_
   refine⟨_,rfl,p,C,dx,_,_,rfl,hp,c.cl,c.nB,hf,bt,_,_,_,rfl,rfl,SqT.of ht,atI_nat (j:=0) rfl,_,rfl,(by show 2≤sizeLine; decide),fun t ht=>?_⟩
   exact q1 y r t rfl ht
end
end Oc
namespace Oc
open PySem L2
def fR (p1 p2:Addr) (m:Int):List (Str × V):=putF "more" (.int m) (fS p1 p2)
theorem bm:¬ (("belts":Str)="more"):=by decide +kernel
theorem fR_more (p1 p2:Addr) (m:Int):(fR p1 p2 m).lookup ("more":Str)=some (.int m):=by
 unfold fR
 rw[lookup_putF,if_pos rfl]
theorem fR_belts (p1 p2:Addr) (m:Int):(fR p1 p2 m).lookup ("belts":Str)=some (.ref p2):=by
 unfold fR
 rw[lookup_putF,if_neg bm,fS_belts]
theorem fR_no (p1 p2:Addr) (m:Int) {x:Str} (h0:¬ x="more") (h1:¬ x="belts") (h2:¬ x="ways"):(fR p1 p2 m).lookup x=none:=by
 unfold fR
 rw[lookup_putF,if_neg h0,fS_no _ _ h1 h2]
structure RlC (K:PySem.W.Frag) (C:Addr):Prop where
 st:StC K C
 nM:NoAttr K C "more"
inductive spRlI (K:PySem.W.Frag) (vs:List V) (H:Hp) (Q:VK) (x_3:XK):Prop where
 | mk (p wa b C dx:Addr) (xs ys:List V) (m:Int) (M:List (List Cell)) (h_0:vs=[.ref p,.ref wa,.ref b,.int m]) (h_1:Hc H ([(p,.ins C dx [])]::M)) (h_2:RlC K C) (h_3:SqL K H wa xs) (h_4:SqL K H b ys) (h_5:wa ≠ p) (h_6:b ≠ p) (h_7:∀(p1 p2:Addr) (H':Hp),Keep [p] H H'→Hc H' ([(p,.ins C dx (fR p1 p2 m)),(p1,.tup xs),(p2,.tup ys)]::M)→Q .non H'):spRlI K vs H Q x_3
inductive spRlT (C:Addr) (vs:List V) (H:Hp) (Q:VK) (x_3:XK):Prop where
 | mk (p dx p1 p2:Addr) (m z:Int) (wy:V) (ys:List V) (h_0:vs=[.ref p,wy,.int z]) (h_1:H p=some (.ins C dx (fR p1 p2 m))) (h_2:H p2=some (.tup ys)) (h_3:(ys=[]→Q .non H)) (h_4:(∀ y r t,ys=y::r→H t=none→Q (.ref t) (upd H t (.tup [y,.int (z + m)])))):spRlT C vs H Q x_3
section
variable {P:Program} {w:World} {K:PySem.W.Frag} {mg:Str→Option Value} {base:Heap}
theorem sc_rlI:FnScope ["self","ways","belts","more"] ["self","ways","belts","more"] (defScope (inClass (top 9) 0)):=⟨rfl,rfl,rfl,by decide +kernel,rfl,by decide +kernel,by decide +kernel⟩
theorem ok_rlI {f cS:Addr} {fd:FuncData} (F:Fun K "__init__" "Relay.__init__" (inClass (top 9) 0) f fd) (au:mg "Station"=some (.ref cS)) (aj:ClsAt P w K mg base 1 cS "__init__" ["self","ways","belts"] (spStI K)) :
  FnOk P w K mg base CX0 2 f fd ["self","ways","belts","more"] (spRlI K):=by
 have nd:=sc_rlI.nd
 refine F.ok sc_rlI (fun vs H Q E h=>?_) (fun cdv A outer s H vs Q E hr h=>?_)
 ·obtain⟨p,wa,b,C,dx,xs,ys,m,M,rfl,_⟩:=h
  rfl
 ·obtain⟨p,wa,b,C,dx,xs,ys,m,M,rfl,hc,c,hw,hb,n1,n2,q⟩:=h
  refine⟨_,(@pss_cons _ _ _ _ _ (ps_expr (pe_clsm' rfl au aj (hr.mono (by decide)) (@pa_cons _ _ _ _ _ (pv 0) (@pa_cons _ _ _ _ _ (pv 1) (@pa_cons _ _ _ _ _ (pv 2) pa_nil (by rfl)) (by rfl)) (by rfl))))
   (@pss_one _ _ _ (ps_fld (pv 0) (pv 3) rfl))),?_⟩
  refine⟨_,rfl,_,rfl,_,rfl,p,wa,b,C,dx,xs,ys,M,rfl,hc,c.st,hw,hb,n1,n2,fun p1 p2 H' kp hc1=>?_⟩
  refine⟨_,rfl,_,rfl,p,C,dx,_,rfl,hc1.get 0 0 rfl rfl,c.st.cl,c.nM,?_,?_⟩
  ·have:=fS_len p1 p2
   omega
  ·exact q p1 p2 _ (kp.upd (yH _)) (hc1.put 0 0 rfl rfl _)
theorem sc_rlT:FnScope ["self","way","piece"] ["self","way","piece"] (defScope (inClass (top 9) 1)):=⟨rfl,rfl,rfl,by decide +kernel,rfl,by decide +kernel,by decide +kernel⟩
theorem ok_rlT {f C:Addr} {fd:FuncData} (F:Fun K "take" "Relay.take" (inClass (top 9) 1) f fd) (c:RlC K C) (G_on_first:MethAt P w K mg base 1 C "on_first" ["self","piece"] (spOne K)) :
  FnOk P w K mg base CX0 2 f fd ["self","way","piece"] (spRlT C):=by
 have nd:=sc_rlT.nd
 refine F.ok sc_rlT (fun vs H Q E h=>?_) (fun cdv A outer s H vs Q E hr h=>?_)
 ·obtain⟨p,dx,p1,p2,m,z,wy,ys,rfl,_⟩:=h
  rfl
 ·obtain⟨p,dx,p1,p2,m,z,wy,ys,rfl,hp,ht,q0,q1⟩:=h
  refine⟨_,(@pss_one _ _ _ (@ps_ret _ _ _ _ (pe_mth G_on_first (hr.mono (by decide)) (pv 0) (@pa_cons _ _ _ _ _ (pe_op op_add (pv 2) (pe_fldK (K:=K) rfl (pv 0) rfl)) pa_nil (by rfl))))),?_⟩
  refine⟨_,rfl,p,dx,_,rfl,hp,fR_no _ _ _ (by decide +kernel) (by decide +kernel) (by decide +kernel),_,rfl,_,rfl,p,C,dx,_,_,rfl,hp,c.st.cl,c.nM,fR_more _ _ _,_,_,rfl,rfl,?_⟩
  exact⟨p,C,dx,p2,_,ys,_,rfl,hp,c.st,fR_belts _ _ _,ht,q0,q1⟩
end
end Oc
namespace Oc
open PySem L2
inductive spSrT (C:Addr) (vs:List V) (H:Hp) (Q:VK) (x_3:XK):Prop where
 | mk (p dx p1 p2:Addr) (z:Int) (wy:V) (bs:List Int) (h_0:vs=[.ref p,wy,.int z]) (h_1:H p=some (.ins C dx (fS p1 p2))) (h_2:H p2=some (.tup (bs.map V.int))) (h_3:(bs=[]→Q .non H)) (h_4:(∀(y:Int) (t:Addr),bs ≠ []→bs[(z % (bs.length:Int)).toNat]?=some y→H t=none→Q (.ref t) (upd H t (.tup [.int y,.int z])))):spSrT C vs H Q x_3
section
variable {P:Program} {w:World} {K:PySem.W.Frag} {mg:Str→Option Value} {base:Heap}
theorem sc_srT:FnScope ["self","way","piece"] ["self","way","piece"] (defScope (inClass (top 10) 0)):=⟨rfl,rfl,rfl,by decide +kernel,rfl,by decide +kernel,by decide +kernel⟩
theorem ok_srT {f C:Addr} {fd:FuncData} (F:Fun K "take" "Sorter.take" (inClass (top 10) 0) f fd) (T:Txt K mg) (c:StC K C):FnOk P w K mg base CX0 1 f fd ["self","way","piece"] (spSrT C):=by
 have nd:=sc_srT.nd
 refine F.ok sc_srT (fun vs H Q E h=>?_) (fun cdv A outer s H vs Q E hr h=>?_)
 ·obtain⟨p,dx,p1,p2,z,wy,bs,rfl,_⟩:=h
  rfl
 ·obtain⟨p,dx,p1,p2,z,wy,bs,rfl,hp,ht,q0,q1⟩:=h
  refine⟨_,(@pss_cons _ _ _ _ _ (ps_if (pt_cmpR op_eq (pe_callB (call_len_seqK (K:=K) rfl) (by rfl) T.n_len bt_len (@pa_cons _ _ _ _ _ (pe_fldK (K:=K) rfl (pv 0) rfl) pa_nil (by rfl))) pe_int (nomark _)) (@pss_one _ _ _ (@ps_ret _ _ _ _ pe_non)) pss_nil)
   (@pss_one _ _ _ (@ps_ret _ _ _ _ (@pe_tup _ _ _ _ _ (@pa_cons _ _ _ _ _ (@pe_ix _ _ _ _ _ _ _ (ix_tupK (K:=K) rfl) (pe_fldK (K:=K) rfl (pv 0) rfl) (pe_op op_mod (pv 2) (pe_callB (call_len_seqK (K:=K) rfl) (by rfl) T.n_len bt_len (@pa_cons _ _ _ _ _ (pe_fldK (K:=K) rfl (pv 0) rfl) pa_nil (by rfl)))) (fun _ _=>rfl)) (@pa_cons _ _ _ _ _ (pv 2) pa_nil (by rfl)) (by rfl)))))),?_⟩
  refine⟨_,rfl,p,C,dx,_,_,rfl,hp,c.cl,c.nB,fS_belts _ _,p2,_,rfl,.inr (SqT.of ht),rfl,_,rfl,?_⟩
  rw[zC]
  cases bs with
  | nil=>exact iteT (q0 rfl)
  | cons b0 bs =>
   have hl:(0:Int) < ((b0::bs).length:Int):=by rw[zS]; omega
   have e:decide (V.int (((b0::bs).length:Nat):Int)=V.int 0)=false:=decide_eq_false fun h=>by
    have:=V.int.inj h
    omega
   rw[e]
   refine iteF ?_
   refine⟨_,rfl,p,C,dx,_,_,rfl,hp,c.cl,c.nB,fS_belts _ _,_,rfl,_,rfl,p,C,dx,_,_,rfl,hp,c.cl,c.nB,fS_belts _ _,p2,_,rfl,.inr (SqT.of ht),_,_,rfl,rfl,(by rw[zC]; exact hl),?_⟩
   rw[zC]
   have d0:=yN z (Int.ne_of_gt hl)
   have d1:=yE z hl
   obtain⟨j,hj⟩:∃ j:Nat,z % ((b0::bs).length:Int)=(j:Int):=⟨(z % ((b0::bs).length:Int)).toNat,by omega⟩
   obtain⟨y,hy⟩:∃ y,(b0::bs)[j]?=some y:=⟨(b0::bs)[j]'(by omega),zB _⟩
   refine ixT ht (atI_map hj hy) ⟨_,rfl,(by show 2≤sizeLine; decide),fun t nt=>?_⟩
   exact q1 y t (by simp) (by rw[hj]; exact hy) nt
end
end Oc
namespace Oc
open PySem L2
theorem putF_twice (f:Str) (u v:V):∀ fs:List (Str × V),putF f v (putF f u fs)=putF f v fs
 | []=>by
  show(if f=f then [(f,v)] else (f,u)::putF f v [])=[(f,v)]
  rw[if_pos rfl]
 | (g,x)::r=>by
  show putF f v (if g=f then (g,u)::r else (g,x)::putF f u r)=if g=f then (g,v)::r else (g,x)::putF f v r
  by_cases h:g=f
  ·rw[if_pos h,if_pos h]
   show(if g=f then (g,v)::r else (g,u)::putF f v r)=_
   rw[if_pos h]
  ·rw[if_neg h,if_neg h]
   show(if g=f then (g,v)::putF f u r else (g,x)::putF f v (putF f u r))=_
   rw[if_neg h,putF_twice f u v r]
def fT (p1 p2:Addr) (e n:Int):List (Str × V):=putF "seen" (.int n) (putF "every" (.int e) (fS p1 p2))
theorem se:¬ (("every":Str)="seen"):=by decide +kernel
theorem sb:¬ (("belts":Str)="seen"):=by decide +kernel
theorem eb':¬ (("belts":Str)="every"):=by decide +kernel
theorem fT_seen (p1 p2:Addr) (e n:Int):(fT p1 p2 e n).lookup ("seen":Str)=some (.int n):=by
 unfold fT
 rw[lookup_putF,if_pos rfl]
theorem fT_every (p1 p2:Addr) (e n:Int):(fT p1 p2 e n).lookup ("every":Str)=some (.int e):=by
 unfold fT
 rw[lookup_putF,if_neg se,lookup_putF,if_pos rfl]
theorem fT_belts (p1 p2:Addr) (e n:Int):(fT p1 p2 e n).lookup ("belts":Str)=some (.ref p2):=by
 unfold fT
 rw[lookup_putF,if_neg sb,lookup_putF,if_neg eb',fS_belts]
theorem fT_no (p1 p2:Addr) (e n:Int) {x:Str} (h0:¬ x="seen") (h3:¬ x="every") (h1:¬ x="belts") (h2:¬ x="ways"):(fT p1 p2 e n).lookup x=none:=by
 unfold fT
 rw[lookup_putF,if_neg h0,lookup_putF,if_neg h3,fS_no _ _ h1 h2]
theorem fT_put (p1 p2:Addr) (e n m:Int):putF "seen" (.int m) (fT p1 p2 e n)=fT p1 p2 e m:=putF_twice _ _ _ _
theorem fT_len (p1 p2:Addr) (e n:Int):(fT p1 p2 e n).length≤4:=by
 have h1:=fS_len p1 p2
 have h2:=length_putF "every" (.int e) (fS p1 p2)
 have h3:=length_putF "seen" (.int n) (putF "every" (.int e) (fS p1 p2))
 unfold fT
 omega
structure ThC (K:PySem.W.Frag) (C:Addr):Prop where
 st:StC K C
 nE:NoAttr K C "every"
 nN:NoAttr K C "seen"
inductive spThI (K:PySem.W.Frag) (vs:List V) (H:Hp) (Q:VK) (x_3:XK):Prop where
 | mk (p wa b C dx:Addr) (xs ys:List V) (m:Int) (M:List (List Cell)) (h_0:vs=[.ref p,.ref wa,.ref b,.int m]) (h_1:Hc H ([(p,.ins C dx [])]::M)) (h_2:ThC K C) (h_3:SqL K H wa xs) (h_4:SqL K H b ys) (h_5:wa ≠ p) (h_6:b ≠ p) (h_7:∀(p1 p2:Addr) (H':Hp),Keep [p] H H'→Hc H' ([(p,.ins C dx (fT p1 p2 m 0)),(p1,.tup xs),(p2,.tup ys)]::M)→Q .non H'):spThI K vs H Q x_3
inductive spThT (C:Addr) (vs:List V) (H:Hp) (Q:VK) (x_3:XK):Prop where
 | mk (p dx p1 p2:Addr) (m n z:Int) (wy:V) (ys:List V) (h_0:vs=[.ref p,wy,.int z]) (h_1:H p=some (.ins C dx (fT p1 p2 m n))) (h_2:H p2=some (.tup ys)) (h_3:2≤m) (h_4:((n + 1) % m=0∨ys=[]→Q .non (upd H p (.ins C dx (fT p1 p2 m (n + 1)))))) (h_5:(∀ y r t,¬ (n + 1) % m=0→ys=y::r→H t=none→Q (.ref t) (upd (upd H p (.ins C dx (fT p1 p2 m (n + 1)))) t (.tup [y,.int z])))):spThT C vs H Q x_3
section
variable {P:Program} {w:World} {K:PySem.W.Frag} {mg:Str→Option Value} {base:Heap}
theorem sc_thI:FnScope ["self","ways","belts","every"] ["self","ways","belts","every"] (defScope (inClass (top 11) 0)):=⟨rfl,rfl,rfl,by decide +kernel,rfl,by decide +kernel,by decide +kernel⟩
theorem ok_thI {f cS:Addr} {fd:FuncData} (F:Fun K "__init__" "Thinner.__init__" (inClass (top 11) 0) f fd) (au:mg "Station"=some (.ref cS)) (aj:ClsAt P w K mg base 1 cS "__init__" ["self","ways","belts"] (spStI K)) :
  FnOk P w K mg base CX0 2 f fd ["self","ways","belts","every"] (spThI K):=by
 have nd:=sc_thI.nd
 refine F.ok sc_thI (fun vs H Q E h=>?_) (fun cdv A outer s H vs Q E hr h=>?_)
 ·obtain⟨p,wa,b,C,dx,xs,ys,m,M,rfl,_⟩:=h
  rfl
 ·obtain⟨p,wa,b,C,dx,xs,ys,m,M,rfl,hc,c,hw,hb,n1,n2,q⟩:=h
  refine⟨_,(@pss_cons _ _ _ _ _ (ps_expr (pe_clsm' rfl au aj (hr.mono (by decide)) (@pa_cons _ _ _ _ _ (pv 0) (@pa_cons _ _ _ _ _ (pv 1) (@pa_cons _ _ _ _ _ (pv 2) pa_nil (by rfl)) (by rfl)) (by rfl))))
   (@pss_cons _ _ _ _ _ (ps_fld (pv 0) (pv 3) rfl)
   (@pss_one _ _ _ (ps_fld (pv 0) pe_int rfl)))),?_⟩
  refine⟨_,rfl,_,rfl,_,rfl,p,wa,b,C,dx,xs,ys,M,rfl,hc,c.st,hw,hb,n1,n2,fun p1 p2 H' kp hc1=>?_⟩
  have l1:=fS_len p1 p2
  have l2:=length_putF "every" (.int m) (fS p1 p2)
  refine⟨_,rfl,_,rfl,p,C,dx,_,rfl,hc1.get 0 0 rfl rfl,c.st.cl,c.nE,by omega,?_⟩
  have hc2:=hc1.put 0 0 rfl rfl (.ins C dx (putF "every" (.int m) (fS p1 p2)))
  refine⟨_,rfl,p,C,dx,_,rfl,upd_same,c.st.cl,c.nN,by omega,?_⟩
  exact q p1 p2 _ ((kp.upd (yH _)).upd (yH _)) (hc2.put 0 0 rfl rfl _)
theorem sc_thT:FnScope ["self","way","piece"] ["self","way","piece"] (defScope (inClass (top 11) 1)):=⟨rfl,rfl,rfl,by decide +kernel,rfl,by decide +kernel,by decide +kernel⟩
theorem ok_thT {f C:Addr} {fd:FuncData} (F:Fun K "take" "Thinner.take" (inClass (top 11) 1) f fd) (c:ThC K C) (G_on_first:MethAt P w K mg base 1 C "on_first" ["self","piece"] (spOne K)) :
  FnOk P w K mg base CX0 2 f fd ["self","way","piece"] (spThT C):=by
 have nd:=sc_thT.nd
 refine F.ok sc_thT (fun vs H Q E h=>?_) (fun cdv A outer s H vs Q E hr h=>?_)
 ·obtain⟨p,dx,p1,p2,m,n,z,wy,ys,rfl,_⟩:=h
  rfl
 ·obtain⟨p,dx,p1,p2,m,n,z,wy,ys,rfl,hp,ht,hm,q0,q1⟩:=h
  refine⟨_,(@pss_cons _ _ _ _ _ (ps_fld (pv 0) (pe_op op_add (pe_fldK (K:=K) rfl (pv 0) rfl) pe_int) rfl)
   (@pss_cons _ _ _ _ _ (ps_if ((pw_and (pt_cmpR op_ne (pe_fldK (K:=K) rfl (pv 0) rfl) pe_int (nomark _)) (pw_and1 (pt_cmpR op_eq (pe_op op_mod (pe_fldK (K:=K) rfl (pv 0) rfl) (pe_fldK (K:=K) rfl (pv 0) rfl)) pe_int (nomark _))))).pt (@pss_one _ _ _ (@ps_ret _ _ _ _ pe_non)) pss_nil)
   (@pss_one _ _ _ (@ps_ret _ _ _ _ (pe_mth G_on_first (hr.mono (by decide)) (pv 0) (@pa_cons _ _ _ _ _ (pv 2) pa_nil (by rfl))))))),?_⟩
  have l1:=fT_len p1 p2 m n
  refine⟨_,rfl,p,C,dx,_,_,rfl,hp,c.st.cl,c.nN,fT_seen _ _ _ _,_,_,rfl,rfl,_,rfl,p,C,dx,_,rfl,hp,c.st.cl,c.nN,by omega,?_⟩
  rw[fT_put]
  have h1:(upd H p (.ins C dx (fT p1 p2 m (n + 1)))) p=some (.ins C dx (fT p1 p2 m (n + 1))):=upd_same
  have np2:p2 ≠ p:=ne_of ht hp (by intro z; cases z)
  have h2:(upd H p (.ins C dx (fT p1 p2 m (n + 1)))) p2=some (.tup ys):=by rw[upd_ne np2]; exact ht
  have hn:∀ t,(upd H p (.ins C dx (fT p1 p2 m (n + 1)))) t=none→H t=none:=fun t z=>by
   have:t ≠ p:=fun y=>by rw[y,h1] at z; cases z
   rw[upd_ne this] at z
   exact z
  generalize (upd H p (.ins C dx (fT p1 p2 m (n + 1))))=H1 at h1 h2 hn q0 q1 ⊢
  refine⟨_,rfl,p,C,dx,_,_,rfl,h1,c.st.cl,c.nE,fT_every _ _ _ _,rfl,_,rfl,?_⟩
  have e1:(!decide (V.int m=V.int 0))=true:=by
   rw[decide_eq_false (fun h=>by have:=V.int.inj h; omega)]
   rfl
  rw[e1]
  refine iteT ?_
  refine⟨_,rfl,p,C,dx,_,_,rfl,h1,c.st.cl,c.nN,fT_seen _ _ _ _,_,rfl,p,C,dx,_,_,rfl,h1,c.st.cl,c.nE,fT_every _ _ _ _,_,_,rfl,rfl,(show(0:Int) < m by omega),rfl,_,rfl,?_⟩
  refine ite2 (fun hz=>?_) (fun hz=>?_)
  ·exact q0 (.inl (V.int.inj (of_decide_eq_true hz)))
  ·have hz':¬ (n + 1) % m=0:=fun e=>hz (decide_eq_true (congrArg V.int e))
   refine⟨_,rfl,p,dx,_,rfl,h1,fT_no _ _ _ _ (by decide +kernel) (by decide +kernel) (by decide +kernel) (by decide +kernel),_,rfl,?_⟩
   exact⟨p,C,dx,p2,_,ys,_,rfl,h1,c.st,fT_belts _ _ _ _,h2,fun e=>q0 (.inr e),fun y r t e nt=>q1 y r t hz' e (hn t nt)⟩
end
end Oc
namespace Oc
open PySem L2
def ImmO:HO→Prop
 | .lst _=>False
 | .ins _ _ _=>False
 | .dK _=>False
 | _=>True
def Tk (H H':Hp):Prop:=∀ b u,H b=some u→ImmO u→H' b=some u
theorem Tk.of {H H':Hp} (s:Same H H'):Tk H H':=fun b u e _=>s b u e
theorem Tk.refl (H:Hp):Tk H H:=fun _ _ e _=>e
theorem Tk.trans {H H1 H2:Hp} (a:Tk H H1) (b:Tk H1 H2):Tk H H2:=fun c u e n=>b c u (a c u e n) n
theorem Tk.put {H H':Hp} {a:Addr} {u o:HO} (k:Tk H H') (e:H' a=some u) (hu:¬ ImmO u):Tk H (upd H' a o):=fun b v eb hv=>by
 have e1:=k b v eb hv
 rw[upd_ne (fun z=>by subst z; rw[e] at e1; cases e1; exact hu hv)]
 exact e1
theorem Tk.new {H H':Hp} {a:Addr} {o:HO} (k:Tk H H') (n:H' a=none):Tk H (upd H' a o):=k.trans (Tk.of (Same.new n))
theorem Tk.tup {H H':Hp} (k:Tk H H') {b:Addr} {xs:List V} (e:H b=some (.tup xs)):H' b=some (.tup xs):=k _ _ e trivial
theorem IsTri.tk {H H':Hp} (k:Tk H H') {x:V} {t:Tri} (h:IsTri H x t):IsTri H' x t:=let ⟨p,e,q⟩:=h; ⟨p,e,k.tup q⟩
theorem smallM {n:Nat} (h:n≤100000):n < sizeLine:=y7 h (by decide)
end Oc
namespace Oc
open PySem L2
theorem DGet.ki {H:Hp} {a:Addr} {kvs:List (Key × V)} {n:Int} {v:V} (e:H a=some (.dK kvs)) (h:valV kvs (Sum.inl n:Key)=some v):DGet H a (.int n) (some v):=by
 rw[← h]
 exact DGet.k (k:=Sum.inl n) e
def fJ (p1 p2 d:Addr):List (Str × V):=putF "kept" (.ref d) (fS p1 p2)
theorem kb_:¬ (("belts":Str)="kept"):=by decide +kernel
theorem kw_:¬ (("ways":Str)="kept"):=by decide +kernel
theorem fJ_kept (p1 p2 d:Addr):(fJ p1 p2 d).lookup ("kept":Str)=some (.ref d):=by
 unfold fJ
 rw[lookup_putF,if_pos rfl]
theorem fJ_belts (p1 p2 d:Addr):(fJ p1 p2 d).lookup ("belts":Str)=some (.ref p2):=by
 unfold fJ
 rw[lookup_putF,if_neg kb_,fS_belts]
theorem iq (p1 p2 d:Addr):(fJ p1 p2 d).lookup ("ways":Str)=some (.ref p1):=by
 unfold fJ
 rw[lookup_putF,if_neg kw_,cX]
theorem fJ_no (p1 p2 d:Addr) {x:Str} (h0:¬ x="kept") (h1:¬ x="belts") (h2:¬ x="ways"):(fJ p1 p2 d).lookup x=none:=by
 unfold fJ
 rw[lookup_putF,if_neg h0,fS_no _ _ h1 h2]
structure JnC (K:PySem.W.Frag) (C:Addr):Prop where
 st:StC K C
 nK:NoAttr K C "kept"
def jk (ws:List Int) (ls:List Addr):List (Key × V):=(ws.zip ls).map fun p=>(Sum.inl p.1,V.ref p.2)
def jrows (ls:List Addr) (rows:List (List Int)):List Cell:=rowsC ls (rows.map fun r=>HO.lst (r.map V.int))
def jobj (C dx p p1 p2 d:Addr) (ws:List Int) (ls:List Addr) (ys:List V):List Cell:=[(p,.ins C dx (fJ p1 p2 d)),(p1,.tup (ws.map V.int)),(p2,.tup ys),(d,.dK (jk ws ls))]
theorem jk_snoc {ws:List Int} {ls:List Addr} (h:ls.length=ws.length) (w:Int) (l:Addr):jk (ws++[w]) (ls++[l])=jk ws ls++[(Sum.inl w,V.ref l)]:=by
 unfold jk
 rw[jT h.symm,zJ]
 rfl
theorem jk_none:∀ {ws:List Int} {ls:List Addr} {w:Int},w ∉ ws→valV (jk ws ls) (Sum.inl w:Key)=none
 | [],_,_,_=>rfl
 | _::_,[],_,_=>rfl
 | v::ws,l::ls,w,h=>by
  show valV ((Sum.inl v,V.ref l)::jk ws ls) _=none
  rw[valV_neg (fun e=>h (by rw[Sum.inl.inj e]; exact zL))]
  exact jk_none fun z=>h (zI _ z)
theorem jk_get:∀ {ws:List Int} {ls:List Addr} {j:Nat} {w:Int} {l:Addr},ws.Nodup→ws[j]?=some w→ls[j]?=some l→valV (jk ws ls) (Sum.inl w:Key)=some (.ref l)
 | [],_,_,_,_,_,h,_=>by simp at h
 | _::_,[],_,_,_,_,_,h=>by simp at h
 | v::ws,m::ls,0,w,l,nd,h1,h2=>by
  simp at h1 h2
  subst h1 h2
  exact valV_pos rfl
 | v::ws,m::ls,j + 1,w,l,nd,h1,h2=>by
  rw[yW] at nd
  have h1':ws[j]?=some w:=by simpa using h1
  show valV ((Sum.inl v,V.ref m)::jk ws ls) _=_
  rw[valV_neg (fun e=>nd.1 (by rw[show v=w from Sum.inl.inj e]; exact zG h1'))]
  exact jk_get nd.2 h1' (by simpa using h2)
theorem jk_len (ws:List Int) (ls:List Addr):(jk ws ls).length≤ws.length:=by
 unfold jk
 rw[zC,List.length_zip]
 exact Nat.min_le_left _ _
theorem jrows_snoc {ls:List Addr} {rows:List (List Int)} (h:ls.length=rows.length) (l:Addr) (r:List Int):jrows (ls++[l]) (rows++[r])=jrows ls rows++[(l,.lst (r.map V.int))]:=by
 unfold jrows rowsC
 rw[zJ,jT (by rw[zC]; exact h)]
 rfl
theorem jrows_get {ls:List Addr} {rows:List (List Int)} {j:Nat} {l:Addr} {r:List Int} (h1:ls[j]?=some l) (h2:rows[j]?=some r):(jrows ls rows)[j]?=some (l,.lst (r.map V.int)) :=
 rowsC_get h1 (by rw[zE,h2]; rfl)
theorem jrows_set {ls:List Addr} {rows:List (List Int)} {j:Nat} {l:Addr} (r:List Int) (h1:ls[j]?=some l):(jrows ls rows).set j (l,.lst (r.map V.int))=jrows ls (rows.set j r):=by
 unfold jrows
 rw[rowsC_set h1,qG]
def heads (rows:List (List Int)):Int:=(rows.map fun r=>r.headD 0).sum
theorem sum_snoc (l:List Int) (x:Int):(l++[x]).sum=l.sum + x:=by
 induction l with
 | nil=>simp
 | cons a l ih=>simp only [jP,List.sum_cons,ih]; omega
theorem heads_snoc (rows:List (List Int)) (r:List Int):heads (rows++[r])=heads rows + r.headD 0:=by
 unfold heads
 rw[zJ]
 exact sum_snoc _ _
def anyE (rows:List (List Int)):Bool:=rows.any fun r=>r.isEmpty
def cutR (rows:List (List Int)) (i:Nat):List (List Int):=(rows.take i).map List.tail++rows.drop i
theorem cutR_zero (rows:List (List Int)):cutR rows 0=rows:=by simp [cutR]
theorem cutR_all (rows:List (List Int)):cutR rows rows.length=rows.map List.tail:=by simp [cutR]
theorem cutR_get {rows:List (List Int)} {i:Nat} {r:List Int} (h:rows[i]?=some r):(cutR rows i)[i]?=some r:=by
 have hi:=(zD.mp h).1
 unfold cutR
 rw[zZ (by rw[zC,zU]; omega),zC,zU,Nat.min_eq_left (yQ hi),j4,List.getElem?_drop,Nat.add_zero]
 exact h
theorem cutR_set {rows:List (List Int)} {i:Nat} {r:List Int} (h:rows[i]?=some r):(cutR rows i).set i r.tail=cutR rows (i + 1):=by
 have hi:=(zD.mp h).1
 have ed:rows.drop i=r::rows.drop (i + 1):=by
  rw[List.drop_eq_getElem_cons hi]
  congr 1
  exact(zD.mp h).2
 unfold cutR
 rw[ed,yI,h,zJ]
 have el:((rows.take i).map List.tail).length=i:=by rw[zC,zU]; omega
 have:=set_cut (A:=(rows.take i).map List.tail) (B:=rows.drop (i + 1)) (x:=r) (y:=r.tail)
 rw[el] at this
 rw[this]
 simp
inductive JOut (ys:List V) (rows:List (List Int)):V→List Cell→List (List Int)→Prop
 | wait (h:anyE rows=true):JOut ys rows .non [] rows
 | lost (h:anyE rows=false) (e:ys=[]):JOut ys rows .non [] (rows.map List.tail)
 | put (h:anyE rows=false) {y:V} {ys':List V} (e:ys=y::ys') (t:Addr):JOut ys rows (.ref t) [(t,.tup [y,.int (heads rows)])] (rows.map List.tail)
inductive spJnI (K:PySem.W.Frag) (vs:List V) (H:Hp) (Q:VK) (x_3:XK):Prop where
 | mk (p wa b C dx:Addr) (ws:List Int) (ys:List V) (M:List (List Cell)) (h_0:vs=[.ref p,.ref wa,.ref b]) (h_1:Hc H ([(p,.ins C dx [])]::M)) (h_2:JnC K C) (h_3:SqL K H wa (ws.map V.int)) (h_4:SqL K H b ys) (h_5:wa ≠ p) (h_6:b ≠ p) (h_7:ws.Nodup) (h_8:ws.length≤100) (h_9:∀(p1 p2 d:Addr) (ls:List Addr) (H':Hp),ls.length=ws.length→Keep [p] H H'→Hc H' (jobj C dx p p1 p2 d ws ls ys::jrows ls (ws.map fun _=>[])::M)→Q .non H'):spJnI K vs H Q x_3
inductive spJnT (C:Addr) (vs:List V) (H:Hp) (Q:VK) (x_3:XK):Prop where
 | mk (p dx p1 p2 d:Addr) (wv z:Int) (ws:List Int) (ls:List Addr) (ys:List V) (j:Nat) (rows:List (List Int)) (r:List Int) (M:List (List Cell)) (h_0:vs=[.ref p,.int wv,.int z]) (h_1:Hc H (jobj C dx p p1 p2 d ws ls ys::jrows ls rows::M)) (h_2:ws.Nodup) (h_3:ws.length≤100) (h_4:ls.length=ws.length) (h_5:rows.length=ws.length) (h_6:ws[j]?=some wv) (h_7:rows[j]?=some r) (h_8:r.length≤90000) (h_9:∀(v:V) (ft:List Cell) (rows':List (List Int)) (H':Hp),JOut ys (rows.set j (r++[z])) v ft rows'→Hc H' (ft::jobj C dx p p1 p2 d ws ls ys::jrows ls rows'::M)→Tk H H'→Q v H'):spJnT C vs H Q x_3
section
variable {P:Program} {w:World} {K:PySem.W.Frag} {mg:Str→Option Value} {base:Heap}
theorem sc_jnI:FnScope ["self","ways","belts","way"] ["self","ways","belts"] (defScope (inClass (top 12) 0)):=⟨rfl,rfl,rfl,by decide +kernel,rfl,by decide +kernel,by decide +kernel⟩
theorem ok_jnI {f cS:Addr} {fd:FuncData} (F:Fun K "__init__" "Joiner.__init__" (inClass (top 12) 0) f fd) (au:mg "Station"=some (.ref cS)) (aj:ClsAt P w K mg base 1 cS "__init__" ["self","ways","belts"] (spStI K)) :
  FnOk P w K mg base CX0 2 f fd ["self","ways","belts"] (spJnI K):=by
 have nd:=sc_jnI.nd
 refine F.ok sc_jnI (fun vs H Q E h=>?_) (fun cdv A outer s H vs Q E hr h=>?_)
 ·obtain⟨p,wa,b,C,dx,ws,ys,M,rfl,_⟩:=h
  rfl
 ·obtain⟨p,wa,b,C,dx,ws,ys,M,rfl,hc,c,hw,hb,n1,n2,ndw,lw,q⟩:=h
  have hu:=hu_of hr
  have cl:=c.st.cl
  have nK:=c.nK
  have nW:=c.st.nW
  refine⟨_,(@pss_cons _ _ _ _ _ (ps_expr (pe_clsm' rfl au aj (hr.mono (by decide)) (@pa_cons _ _ _ _ _ (pv 0) (@pa_cons _ _ _ _ _ (pv 1) (@pa_cons _ _ _ _ _ (pv 2) pa_nil (by rfl)) (by rfl)) (by rfl))))
   (@pss_cons _ _ _ _ _ (ps_fld (pv 0) pe_dnewK rfl)
   (@pss_one _ _ _ (ps_for PassesOwn.never rfl (pi_tupK (K:=K) rfl (pe_fldK (K:=K) rfl (pv 0) rfl)) (pg_name (i:=3) nd rfl (by nofun)) (@pss_one _ _ _ (ps_dput hu (pe_fldK (K:=K) rfl (pv 0) rfl) (pv 3) (@pe_lst _ _ _ _ pa_nil) rfl)))))),?_⟩
  refine⟨_,rfl,_,rfl,_,rfl,p,wa,b,C,dx,_,ys,M,rfl,hc,c.st,hw,hb,n1,n2,fun p1 p2 H1 kp1 hc1=>?_⟩
  intro d fd
  have fd0:H d=none:=kp1.free1 (hc1.get 0 0 rfl rfl) fd
  have kp3:=(kp1.new' (o:=.dK []) fd).upd (a:=p) (o:=.ins C dx (putF "kept" (.ref d) (fS p1 p2))) (yH _)
  have hc2:=hc1.new fd (.dK [])
  refine⟨_,rfl,p,C,dx,_,rfl,hc2.get 1 0 rfl rfl,cl,nK,?_,?_⟩
  ·have:=fS_len p1 p2
   omega
  have hc3:Hc _ ([(d,.dK [])]::[(p,.ins C dx (fJ p1 p2 d)),(p1,.tup (ws.map V.int)),(p2,.tup ys)]::M):=hc2.put 1 0 rfl rfl (.ins C dx (fJ p1 p2 d))
  change _ at hc3
  generalize hg:upd (upd H1 d (HO.dK [])) p (.ins C dx (putF "kept" (.ref d) (fS p1 p2)))=H3
  have hc3':Hc H3 ([(d,.dK [])]::[(p,.ins C dx (fJ p1 p2 d)),(p1,.tup (ws.map V.int)),(p2,.tup ys)]::M):=by rw[← hg]; exact hc3
  rw[hg] at kp3
  clear hc3 hg hc2 hc1
  have lk:=fJ_kept p1 p2 d
  have lw':=iq p1 p2 d
  refine⟨_,rfl,p,C,dx,_,_,rfl,hc3'.get 1 0 rfl rfl,cl,nW,lw',p1,rfl,⟨_,SqT.of (hc3'.get 1 1 rfl rfl)⟩,for_tup (K:=K) (a:=p1) (xs:=ws.map V.int) (fun i σ H5=>∃(v:Option V) (ls:List Addr),σ=[some (.ref p),some (.ref wa),some (.ref b),v]∧ls.length=i∧Keep [p] H H5 ∧
   Hc H5 ([(d,.dK (jk (ws.take i) ls))]::[(p,.ins C dx (fJ p1 p2 d)),(p1,.tup (ws.map V.int)),(p2,.tup ys)]::jrows ls ((ws.take i).map fun _=>[])::M)) ⟨none,[],rfl,rfl,kp3,?_⟩ (fun i σ H5 _ ⟨_,_,_,_,_,h⟩=>SqT.of (h.get 1 1 rfl rfl)) ?_ ?_⟩
  ·exact hc3'
  ·rintro i x σ H5 hi ⟨v,ls,rfl,el,kp5,hc5⟩
   obtain⟨z,rfl,hz⟩:=ints_get hi
   have hil:=(zD.mp hz).1
   refine⟨zW _,fun l nl=>?_⟩
   have hc6:=hc5.new nl (.lst [])
   have lt:(ws.take i).length=i:=by rw[zU]; omega
   refine⟨_,rfl,p,C,dx,_,_,rfl,hc6.get 2 0 rfl rfl,cl,nK,lk,_,rfl,d,_,rfl,DPut.k (k:=Sum.inl z) (hc6.get 1 0 rfl rfl) (small1000 (by have:=jk_len (ws.take i) ls; omega)),?_⟩
   have hc7:=hc6.put 1 0 rfl rfl (.dK (putK (jk (ws.take i) ls) (Sum.inl z) (.ref l)))
   have nz:z ∉ ws.take i:=fun h=>by
    obtain⟨m,hm⟩:=yR h
    have hm1:=(zD.mp hm).1
    rw[j1 (by omega)] at hm
    have:=(List.getElem?_inj (by omega) ndw).mp (hm.trans hz.symm)
    omega
   have et:ws.take (i + 1)=ws.take i++[z]:=by rw[yI,hz]; rfl
   refine⟨_,ls++[l],rfl,by rw[zN,el]; rfl,(kp5.new' nl).new fd0,?_⟩
   rw[et,jk_snoc (by omega),zJ]
   show Hc _ (_::_::jrows (ls++[l]) (((ws.take i).map fun _=>[])++[[]])::M)
   rw[jrows_snoc (by rw[zC]; omega),← putK_new _ (jk_none nz)]
   have hc8:Hc _ ([(d,.dK (putK (jk (ws.take i) ls) (Sum.inl z) (.ref l)))]::[(p,.ins C dx (fJ p1 p2 d)),(p1,.tup (ws.map V.int)),(p2,.tup ys)]::[(l,.lst [])]::jrows ls ((ws.take i).map fun _=>[])::M):=(hc7.pick 2 rfl).pick 2 rfl
   have hc9:=((hc8.pick 3 rfl).pick 3 rfl)
   have hc9':Hc _ ([(l,.lst [])]::jrows ls ((ws.take i).map fun _=>[])::[(d,.dK (putK (jk (ws.take i) ls) (Sum.inl z) (.ref l)))]::[(p,.ins C dx (fJ p1 p2 d)),(p1,.tup (ws.map V.int)),(p2,.tup ys)]::M):=hc9
   have hcA:=(hc9'.swap.join.pick 2 rfl).pick 2 rfl
   exact hcA
  ·rintro σ H5 ⟨v,ls,rfl,el,kp5,hc5⟩
   rw[zC] at el hc5
   rw[zX] at hc5
   have hc6:=hc5.swap.join
   exact q p1 p2 d ls H5 el kp5 hc6
theorem sc_jnT:FnScope ["self","way","piece","total","each"] ["self","way","piece"] (defScope (inClass (top 12) 1)):=⟨rfl,rfl,rfl,by decide +kernel,rfl,by decide +kernel,by decide +kernel⟩
theorem ok_jnT {f C:Addr} {fd:FuncData} (F:Fun K "take" "Joiner.take" (inClass (top 12) 1) f fd) (T:Txt K mg) (c:JnC K C) (G_on_first:MethAt P w K mg base 1 C "on_first" ["self","piece"] (spOne K)) :
  FnOk P w K mg base CX0 2 f fd ["self","way","piece"] (spJnT C):=by
 have nd:=sc_jnT.nd
 refine F.ok sc_jnT (fun vs H Q E h=>?_) (fun cdv A outer s H vs Q E hr h=>?_)
 ·obtain⟨p,dx,p1,p2,d,wv,z,ws,ls,ys,j,rows,r,M,rfl,_⟩:=h
  rfl
 ·obtain⟨p,dx,p1,p2,d,wv,z,ws,ls,ys,j,rows,r,M,rfl,hc,ndw,lw,el,er,hj,hrj,lr,q⟩:=h
  have hu:=hu_of hr
  have cl:=c.st.cl
  have nK:=c.nK
  have nW:=c.st.nW
  have lk:=fJ_kept p1 p2 d
  have lkw:=iq p1 p2 d
  refine⟨_,(@pss_cons _ _ _ _ _ (ps_expr (pe_bm PySem.F.plainAttrs_list PySem.F.slot_list_append PySem.F.type_list_append mt_append (pe_dget hu (pe_fldK (K:=K) rfl (pv 0) rfl) (pv 1) (fun _ _=>rfl)) (@pa_cons _ _ _ _ _ (pv 2) pa_nil (by rfl))))
   (@pss_cons _ _ _ _ _ (ps_if (pt_val (pe_callB (call_anyB rfl) (by rfl) T.n_any bt_any (@pa_cons _ _ _ _ _ (pe_comp (own:=["each"]) (fr:=["self"]) (js:=[0]) (by and_intros) (pi_tupK (K:=K) rfl (pe_fldK (K:=K) rfl (pv 0) rfl)) (fun _ _ _ _=>(pg_name (i:=0) (show List.Nodup (["each","self"]:List Str) from by decide +kernel) rfl (by nofun))) (fun _ _ _ _=>pts_nil) (fun _ _ _ _=>(pe_cmpR op_eq (pe_callB (call_len_seqK (K:=K) rfl) (by rfl) T.n_len bt_len (@pa_cons _ _ _ _ _ (pe_dget hu (pe_fldK (K:=K) rfl (pv 1) rfl) (pv 0) (fun _ _=>rfl)) pa_nil (by rfl))) pe_int (nomark _)))) pa_nil (by rfl)))) (@pss_one _ _ _ (@ps_ret _ _ _ _ pe_non)) pss_nil)
   (@pss_cons _ _ _ _ _ (ps_set (i:=3) nd rfl (by nofun) pe_int)
   (@pss_cons _ _ _ _ _ (ps_for PassesOwn.never rfl (pi_tupK (K:=K) rfl (pe_fldK (K:=K) rfl (pv 0) rfl)) (pg_name (i:=4) nd rfl (by nofun)) (@pss_one _ _ _ (ps_set (i:=3) nd rfl (by nofun) (pe_op op_add (pv 3) (pe_bm PySem.F.plainAttrs_list PySem.F.slot_list_pop PySem.F.type_list_pop mt_popAt (pe_dget hu (pe_fldK (K:=K) rfl (pv 0) rfl) (pv 4) (fun _ _=>rfl)) (@pa_cons _ _ _ _ _ pe_int pa_nil (by rfl)))))))
   (@pss_one _ _ _ (@ps_ret _ _ _ _ (pe_mth G_on_first (hr.mono (by decide)) (pv 0) (@pa_cons _ _ _ _ _ (pv 3) pa_nil (by rfl))))))))),?_⟩
  have hjl:=(zD.mp hj).1
  obtain⟨l,hl⟩:∃ l,ls[j]?=some l:=⟨ls[j]'(by omega),zB _⟩
  have hlr:=hc.get 1 j rfl (jrows_get hl hrj)
  refine⟨_,rfl,p,C,dx,_,_,rfl,hc.get 0 0 rfl rfl,cl,nK,lk,_,rfl,d,_,rfl,DGet.ki (hc.get 0 3 rfl rfl) (jk_get ndw hj hl),tyL hlr,_,rfl,_,_,_,rfl,rfl,hlr,smallM (by rw[zC]; omega),?_⟩
  have k1:Tk H (upd H l (.lst (r.map V.int++[V.int z]))):=(Tk.refl H).put hlr (fun z=>z)
  have hc1:=hc.put 1 j rfl (jrows_get hl hrj) (.lst ((r++[z]).map V.int))
  rw[jrows_set _ hl] at hc1
  have hc1':Hc (upd H l (.lst (r.map V.int++[V.int z]))) (jobj C dx p p1 p2 d ws ls ys::jrows ls (rows.set j (r++[z]))::M):=by
   have e:(r++[z]).map V.int=r.map V.int++[V.int z]:=by rw[zJ]; rfl
   rw[← e]
   exact hc1
  clear hc1
  have er2:(rows.set j (r++[z])).length=ws.length:=by rw[zT]; exact er
  generalize (rows.set j (r++[z]))=rows2 at hc1' er2 q
  generalize (upd H l (.lst (r.map V.int++[V.int z])))=H1 at hc1' k1 ⊢
  refine⟨_,rfl,p,C,dx,_,_,rfl,hc1'.get 0 0 rfl rfl,cl,nW,lkw,p1,rfl,⟨_,SqT.of (hc1'.get 0 1 rfl rfl)⟩,fun D nD=>?_⟩
  refine comp_tup (K:=K) (a:=p1) (xs:=ws.map V.int) (fun i H5=>Tk H H5∧Hc H5 ([(D,.lst (((rows2.take i).map List.isEmpty).map V.bl))]::jobj C dx p p1 p2 d ws ls ys::jrows ls rows2::M)) ⟨k1.new nD,hc1'.new nD _⟩ (fun i H5 _ h=>SqT.of (h.2.get 1 1 rfl rfl)) ?_ ?_
  ·rintro i x H5 m Wf hi ⟨k5,hc5⟩ nx
   obtain⟨v,rfl,hv⟩:=ints_get hi
   have hil:=(zD.mp hv).1
   obtain⟨l2,hl2⟩:∃ l,ls[i]?=some l:=⟨ls[i]'(by omega),zB _⟩
   obtain⟨r2,hr2⟩:∃ r,rows2[i]?=some r:=⟨rows2[i]'(by omega),zB _⟩
   have hlr2:=hc5.get 2 i rfl (jrows_get hl2 hr2)
   refine⟨_,rfl,p,C,dx,_,_,rfl,hc5.get 1 0 rfl rfl,cl,nK,lk,_,rfl,d,_,rfl,DGet.ki (hc5.get 1 3 rfl rfl) (jk_get ndw hv hl2),_,_,rfl,.inl (SqL.of hlr2),rfl,_,hc5.get 0 0 rfl rfl,small1000 (by rw[zC,zC,zU]; omega),nx _ ⟨k5.put (hc5.get 0 0 rfl rfl) (fun z=>z),?_⟩⟩
   have e:V.bl (decide (V.int ((r2.map V.int).length:Int)=V.int 0))=V.bl r2.isEmpty:=by
    rw[zC]
    cases r2 with
    | nil=>rfl
    | cons a b =>
     rw[decide_eq_false (fun h=>by have:=V.int.inj h; rw[zS] at this; omega)]
     rfl
   show Hc (upd H5 D (.lst (((rows2.take i).map List.isEmpty).map V.bl++[V.bl (decide (V.int ((r2.map V.int).length:Int)=V.int 0))]))) _
   rw[e,yI,hr2,zJ,zJ]
   exact hc5.put 0 0 rfl rfl _
  ·rintro H5 ⟨k5,hc5⟩
   rw[zC,← er2,zX] at hc5
   refine⟨D,_,rfl,SqL.of (hc5.get 0 0 rfl rfl),?_⟩
   have ea:((rows2.map List.isEmpty).any id)=anyE rows2:=by rw[j9]; rfl
   rw[ea]
   have hc6:=hc5.tl
   refine⟨_,rfl,iteB (fun hb=>q _ _ _ _ (.wait hb) (Hc.pad hc6) k5) (fun hb=>?_)⟩
   have ne:∀ {i:Nat} {r:List Int},rows2[i]?=some r→∃ a t,r=a::t:=fun {i r} h=>by
    cases r with
    | cons a t=>exact⟨a,t,rfl⟩
    | nil =>
     have:anyE rows2=true:=List.any_eq_true.mpr ⟨[],zG h,rfl⟩
     rw[this] at hb
     cases hb
   refine⟨_,rfl,p,C,dx,_,_,rfl,hc6.get 0 0 rfl rfl,cl,nW,lkw,p1,rfl,⟨_,SqT.of (hc6.get 0 1 rfl rfl)⟩,for_tup (K:=K) (a:=p1) (xs:=ws.map V.int) (fun i σ H7=>∃(v:Option V),σ=[some (.ref p),some (.int wv),some (.int z),some (.int (heads (rows2.take i))),v] ∧
    Tk H H7∧Hc H7 (jobj C dx p p1 p2 d ws ls ys::jrows ls (cutR rows2 i)::M)) ⟨none,rfl,k5,by rw[cutR_zero]; exact hc6⟩ (fun i σ H7 _ ⟨_,_,_,h⟩=>SqT.of (h.get 0 1 rfl rfl)) ?_ ?_⟩
   ·rintro i x σ H7 hi ⟨v,rfl,k7,hc7⟩
    obtain⟨v2,rfl,hv⟩:=ints_get hi
    have hil:=(zD.mp hv).1
    obtain⟨l2,hl2⟩:∃ l,ls[i]?=some l:=⟨ls[i]'(by omega),zB _⟩
    obtain⟨r2,hr2⟩:∃ r,rows2[i]?=some r:=⟨rows2[i]'(by omega),zB _⟩
    obtain⟨a0,t0,rfl⟩:=ne hr2
    have hlr2:=hc7.get 1 i rfl (jrows_get hl2 (cutR_get hr2))
    refine⟨_,rfl,_,rfl,p,C,dx,_,_,rfl,hc7.get 0 0 rfl rfl,cl,nK,lk,_,rfl,d,_,rfl,DGet.ki (hc7.get 0 3 rfl rfl) (jk_get ndw hv hl2),tyL hlr2,l2,_,0,0,V.int a0,rfl,rfl,hlr2,by decide,by decide,seqIndex_of (k:=0) (by decide) (by rw[zC,zS]; omega),rfl,?_⟩
    refine⟨_,_,rfl,rfl,?_⟩
    have hc8:=hc7.put 1 i rfl (jrows_get hl2 (cutR_get hr2)) (.lst (t0.map V.int))
    rw[jrows_set _ hl2] at hc8
    have e8:=cutR_set hr2
    refine⟨some (.int v2),?_,k7.put hlr2 (fun z=>z),?_⟩
    rotate_left
    ·rw[← e8]
     exact hc8
    ·rw[yI,hr2]
     show _=[some (V.ref p),some (V.int wv),some (V.int z),some (V.int (heads (rows2.take i++[a0::t0]))),_]
     rw[heads_snoc]
     rfl
   ·rintro σ H7 ⟨v,rfl,k7,hc7⟩
    rw[zC,← er2,cutR_all] at hc7
    rw[zC,← er2,zX]
    refine⟨_,rfl,p,dx,_,rfl,hc7.get 0 0 rfl rfl,fJ_no _ _ _ (by decide +kernel) (by decide +kernel) (by decide +kernel),_,rfl,?_⟩
    exact⟨p,C,dx,p2,_,ys,_,rfl,hc7.get 0 0 rfl rfl,c.st,fJ_belts _ _ _,hc7.get 0 2 rfl rfl,fun e=>q _ _ _ _ (.lost hb e) (Hc.pad hc7) k7,fun y r t e nt=>q _ _ _ _ (.put hb e t) (hc7.new nt _) (k7.new nt)⟩
end
end Oc
namespace Oc
open PySem L2
inductive Kd where
 | relay (n:Int)
 | sorter
 | thinner (n:Int)
 | joiner
 | sink
deriving DecidableEq
set_option genInjectivity false in
set_option genSizeOf false in
structure Cs where
 rl:Addr
 so:Addr
 th:Addr
 jn:Addr
 si:Addr
def Cs.of (cs:Cs):Kd→Addr
 | .relay _=>cs.rl
 | .sorter=>cs.so
 | .thinner _=>cs.th
 | .joiner=>cs.jn
 | .sink=>cs.si
structure CsOk (K:PySem.W.Frag) (cs:Cs):Prop where
 rl:RlC K cs.rl
 so:StC K cs.so
 th:ThC K cs.th
 jn:JnC K cs.jn
 si:StC K cs.si
set_option genInjectivity false in
set_option genSizeOf false in
structure SR where
 x:Addr
 dx:Addr
 p1:Addr
 p2:Addr
 d:Addr
 k:Kd
 ws:List Int
 bs:List Int
 ls:List Addr
 seen:Int
 rows:List (List Int)
def SR.flds (r:SR):List (Str × V):=match r.k with
 | .relay n=>fR r.p1 r.p2 n
 | .sorter=>fS r.p1 r.p2
 | .thinner n=>fT r.p1 r.p2 n r.seen
 | .joiner=>fJ r.p1 r.p2 r.d
 | .sink=>fS r.p1 r.p2
def SR.more (r:SR):List Cell:=match r.k with
 | .joiner=>(r.d,.dK (jk r.ws r.ls))::jrows r.ls r.rows
 | _=>[]
def srC (cs:Cs) (r:SR):List Cell:=(r.x,.ins (cs.of r.k) r.dx r.flds)::(r.p1,.tup (r.ws.map V.int))::(r.p2,.tup (r.bs.map V.int))::r.more
structure SOk (m:Nat) (r:SR):Prop where
 nd:r.ws.Nodup
 l1:r.ws.length≤100
 jn:r.k=.joiner→r.ls.length=r.ws.length∧r.rows.length=r.ws.length∧∀ row ∈ r.rows,row.length≤m
 th:∀ n,r.k=.thinner n→2≤n
theorem SR.flds_no (r:SR) {x:Str} (h0:¬ x="kept") (h1:¬ x="belts") (h2:¬ x="ways") (h3:¬ x="more") (h4:¬ x="seen") (h5:¬ x="every"):r.flds.lookup x=none:=by
 unfold SR.flds
 cases r.k with
 | relay n=>exact fR_no _ _ _ h3 h1 h2
 | sorter=>exact fS_no _ _ h1 h2
 | thinner n=>exact fT_no _ _ _ _ h4 h5 h1 h2
 | joiner=>exact fJ_no _ _ _ h0 h1 h2
 | sink=>exact fS_no _ _ h1 h2
def SR.add (r:SR) (j:Nat) (z:Int):List (List Int):=r.rows.set j (r.rows.getD j []++[z])
def SR.out (r:SR) (j:Nat) (z:Int):Option (Int × Int):=match r.k with
 | .relay n=>r.bs.head?.map fun b=>(b,z + n)
 | .sorter=>if r.bs=[] then none else (r.bs[(z % (r.bs.length:Int)).toNat]?).map fun b=>(b,z)
 | .thinner n=>if (r.seen + 1) % n=0 then none else r.bs.head?.map fun b=>(b,z)
 | .joiner=>if anyE (r.add j z) then none else r.bs.head?.map fun b=>(b,heads (r.add j z))
 | .sink=>none
def SR.nxt (r:SR) (j:Nat) (z:Int):SR:=match r.k with
 | .thinner _=>{ r with seen:=r.seen + 1 }
 | .joiner=>{ r with rows:=if anyE (r.add j z) then r.add j z else (r.add j z).map List.tail }
 | _=>r
theorem SR.nxt_x (r:SR) (j:Nat) (z:Int):(r.nxt j z).x=r.x∧(r.nxt j z).k=r.k∧(r.nxt j z).ws=r.ws∧(r.nxt j z).bs=r.bs:=by
 unfold SR.nxt
 cases e:r.k <;> simp [e]
theorem SOk.nxt {m:Nat} {r:SR} (h:SOk m r) (j:Nat) (z:Int):SOk (m + 1) (r.nxt j z):=by
 obtain⟨x,dx,p1,p2,d,k,ws,bs,ls,seen,rows⟩:=r
 cases k with
 | relay n=>exact⟨h.nd,h.l1,fun e=>(by cases e),fun n e=>h.th n e⟩
 | sorter=>exact⟨h.nd,h.l1,fun e=>(by cases e),fun n e=>by cases e⟩
 | sink=>exact⟨h.nd,h.l1,fun e=>(by cases e),fun n e=>by cases e⟩
 | thinner n=>exact⟨h.nd,h.l1,fun e=>(by cases e),fun n e=>h.th n e⟩
 | joiner =>
  refine⟨h.nd,h.l1,fun _=>?_,fun n e=>by cases e⟩
  obtain⟨h1,h2,h3⟩:=h.jn rfl
  have ha:∀ row ∈ SR.add ⟨x,dx,p1,p2,d,.joiner,ws,bs,ls,seen,rows⟩ j z,row.length≤m + 1:=fun row hr=>by
   rcases jY hr with e|e
   ·have:=h3 row e; omega
   ·rw[e,zN]
    have:(rows.getD j []).length≤m:=by
     rw[zA]
     cases hj:rows[j]? with
     | none=>exact zW _
     | some r0=>exact h3 r0 (zG hj)
    show(rows.getD j []).length + 1≤_
    omega
  have el:(SR.add ⟨x,dx,p1,p2,d,.joiner,ws,bs,ls,seen,rows⟩ j z).length=ws.length:=by
   unfold SR.add
   rw[zT]
   exact h2
  have eN:(SR.nxt ⟨x,dx,p1,p2,d,.joiner,ws,bs,ls,seen,rows⟩ j z).rows=if anyE (SR.add ⟨x,dx,p1,p2,d,.joiner,ws,bs,ls,seen,rows⟩ j z) then SR.add ⟨x,dx,p1,p2,d,.joiner,ws,bs,ls,seen,rows⟩ j z else (SR.add ⟨x,dx,p1,p2,d,.joiner,ws,bs,ls,seen,rows⟩ j z).map List.tail:=rfl
  refine⟨h1,?_,?_⟩
  ·rw[eN]
   split
   ·exact el
   ·rw[zC]; exact el
  ·rw[eN]
   split
   ·exact ha
   ·intro row hr
    obtain⟨r0,h0,rfl⟩:=yB.mp hr
    have:=ha r0 h0
    rw[qV]
    omega
theorem SOk.le {m n:Nat} {r:SR} (h:SOk m r) (e:m≤n):SOk n r:=⟨h.nd,h.l1,fun k=>let ⟨a,b,d⟩:=h.jn k; ⟨a,b,fun row hr=>z4 (d row hr) e⟩,h.th⟩
inductive Put:Option (Int × Int)→V→List Cell→Prop
 | no:Put none .non []
 | yes (b y:Int) (t:Addr):Put (some (b,y)) (.ref t) [(t,.tup [.int b,.int y])]
inductive spTk (cs:Cs) (k:Kd) (vs:List V) (H:Hp) (Q:VK) (x_3:XK):Prop where
 | mk (r:SR) (j m:Nat) (wv z:Int) (M:List (List Cell)) (h_0:vs=[.ref r.x,.int wv,.int z]) (h_1:r.k=k) (h_2:Hc H (srC cs r::M)) (h_3:SOk m r) (h_4:m≤90000) (h_5:r.ws[j]?=some wv) (h_6:∀(v:V) (ft:List Cell) (H':Hp),Put (r.out j z) v ft→Hc H' (ft::srC cs (r.nxt j z)::M)→Tk H H'→Q v H'):spTk cs k vs H Q x_3
section
variable {P:Program} {w:World} {K:PySem.W.Frag} {mg:Str→Option Value} {base:Heap}
def spNon:Sp:=fun vs H Q _=>vs.length=3∧Q .non H
theorem sc_stT:FnScope ["self","way","piece"] ["self","way","piece"] (defScope (inClass (top 8) 1)):=⟨rfl,rfl,rfl,by decide +kernel,rfl,by decide +kernel,by decide +kernel⟩
theorem ok_stT {f:Addr} {fd:FuncData} (F:Fun K "take" "Station.take" (inClass (top 8) 1) f fd):FnOk P w K mg base CX0 1 f fd ["self","way","piece"] spNon:=by
 have nd:=sc_stT.nd
 refine F.ok sc_stT (fun vs H Q E h=>h.1) (fun cdv A outer s H vs Q E hr h=>?_)
 refine⟨_,(@pss_one _ _ _ (@ps_ret _ _ _ _ pe_non)),?_⟩
 exact h.2
theorem take_all {cs:Cs} (G1:MethAt P w K mg base 2 cs.rl "take" ["self","way","piece"] (spRlT cs.rl)) (G2:MethAt P w K mg base 1 cs.so "take" ["self","way","piece"] (spSrT cs.so)) (G3:MethAt P w K mg base 2 cs.th "take" ["self","way","piece"] (spThT cs.th))
  (G4:MethAt P w K mg base 2 cs.jn "take" ["self","way","piece"] (spJnT cs.jn)) (G5:MethAt P w K mg base 1 cs.si "take" ["self","way","piece"] spNon) (k:Kd):MethAt P w K mg base 2 (cs.of k) "take" ["self","way","piece"] (spTk cs k):=by
 cases k with
 | relay n =>
  refine G1.imp fun vs H Q E h=>?_
  obtain⟨⟨x,dx,p1,p2,d,k,ws,bs,ls,seen,rows⟩,j,m,wv,z,M,rfl,e,hc,ok,hm,hw,q⟩:=h
  cases e
  refine⟨x,dx,p1,p2,n,z,_,bs.map V.int,rfl,hc.get 0 0 rfl rfl,hc.get 0 2 rfl rfl,fun eb=>?_,fun y rr t eb nt=>?_⟩
  ·have:bs=[]:=jI.mp eb
   subst this
   exact q _ _ _ .no hc.pad (Tk.refl _)
  ·cases bs with
   | nil=>cases eb
   | cons b bs =>
    cases eb
    exact q _ _ _ (.yes _ _ t) (hc.new nt _) ((Tk.refl _).new nt)
 | sorter =>
  refine(G2.mono (by decide)).imp fun vs H Q E h=>?_
  obtain⟨⟨x,dx,p1,p2,d,k,ws,bs,ls,seen,rows⟩,j,m,wv,z,M,rfl,e,hc,ok,hm,hw,q⟩:=h
  cases e
  refine⟨x,dx,p1,p2,z,_,bs,rfl,hc.get 0 0 rfl rfl,hc.get 0 2 rfl rfl,fun eb=>?_,fun y t eb hy nt=>?_⟩
  ·subst eb
   exact q _ _ _ .no hc.pad (Tk.refl _)
  ·have eo:SR.out ⟨x,dx,p1,p2,d,.sorter,ws,bs,ls,seen,rows⟩ j z=some (y,z):=by
    show(if bs=[] then none else (bs[(z % (bs.length:Int)).toNat]?).map fun b=>(b,z))=_
    rw[if_neg eb,hy]
    rfl
   exact q _ _ _ (by rw[eo]; exact .yes _ _ t) (hc.new nt _) ((Tk.refl _).new nt)
 | thinner n =>
  refine G3.imp fun vs H Q E h=>?_
  obtain⟨⟨x,dx,p1,p2,d,k,ws,bs,ls,seen,rows⟩,j,m,wv,z,M,rfl,e,hc,ok,hm,hw,q⟩:=h
  cases e
  have hput:=hc.put 0 0 rfl rfl (.ins cs.th dx (fT p1 p2 n (seen + 1)))
  have kput:Tk H (upd H x (.ins cs.th dx (fT p1 p2 n (seen + 1)))):=(Tk.refl H).put (hc.get 0 0 rfl rfl) (fun z=>z)
  refine⟨x,dx,p1,p2,n,seen,z,_,bs.map V.int,rfl,hc.get 0 0 rfl rfl,hc.get 0 2 rfl rfl,ok.th n rfl,fun hn=>?_,fun y rr t hn eb nt=>?_⟩
  ·have eo:SR.out ⟨x,dx,p1,p2,d,.thinner n,ws,bs,ls,seen,rows⟩ j z=none:=by
    show(if (seen + 1) % n=0 then none else bs.head?.map fun b=>(b,z))=_
    rcases hn with h|h
    ·rw[if_pos h]
    ·have:bs=[]:=jI.mp h
     rw[this]
     split <;> rfl
   exact q _ _ _ (by rw[eo]; exact .no) hput.pad kput
  ·cases bs with
   | nil=>cases eb
   | cons b bs =>
    cases eb
    have eo:SR.out ⟨x,dx,p1,p2,d,.thinner n,ws,b::bs,ls,seen,rows⟩ j z=some (b,z):=by
     show(if (seen + 1) % n=0 then none else (b::bs).head?.map fun b=>(b,z))=_
     rw[if_neg hn]
     rfl
    have nt':(upd H x (.ins cs.th dx (fT p1 p2 n (seen + 1)))) t=none:=by
     rw[upd_ne (fun z=>by have:=hc.get 0 0 rfl rfl; rw[← z,nt] at this; cases this)]
     exact nt
    exact q _ _ _ (by rw[eo]; exact .yes _ _ t) (hput.new nt' _) (kput.new nt')
 | joiner =>
  refine G4.imp fun vs H Q E h=>?_
  obtain⟨⟨x,dx,p1,p2,d,k,ws,bs,ls,seen,rows⟩,j,m,wv,z,M,rfl,e,hc,ok,hm,hw,q⟩:=h
  cases e
  obtain⟨h1,h2,h3⟩:=ok.jn rfl
  have hjl:j < ws.length:=(zD.mp hw).1
  have h2':rows.length=ws.length:=h2
  obtain⟨row,hrow⟩:∃ row,rows[j]?=some row:=⟨rows[j]'(by omega),zB _⟩
  have hc':Hc H (jobj cs.jn dx x p1 p2 d ws ls (bs.map V.int)::jrows ls rows::M):=Hc.split (a:=jobj cs.jn dx x p1 p2 d ws ls (bs.map V.int)) (b:=jrows ls rows) hc
  have ea:SR.add ⟨x,dx,p1,p2,d,.joiner,ws,bs,ls,seen,rows⟩ j z=rows.set j (row++[z]):=by
   show rows.set j (rows.getD j []++[z])=_
   rw[zA,hrow]
   rfl
  refine⟨x,dx,p1,p2,d,wv,z,ws,ls,bs.map V.int,j,rows,row,M,rfl,hc',ok.nd,ok.l1,h1,h2,hw,hrow,by have:=h3 row (zG hrow); omega,fun v ft rows' H' out hc2 k2=>?_⟩
  rw[← ea] at out
  have hj:∀ {rows'},(SR.nxt ⟨x,dx,p1,p2,d,.joiner,ws,bs,ls,seen,rows⟩ j z).rows=rows'→Hc H' (ft::jobj cs.jn dx x p1 p2 d ws ls (bs.map V.int)::jrows ls rows'::M)→Hc H' (ft::srC cs (SR.nxt ⟨x,dx,p1,p2,d,.joiner,ws,bs,ls,seen,rows⟩ j z)::M):=fun {rows'} e h=>by
   subst e
   exact Hc.swap (Hc.join (a:=jobj cs.jn dx x p1 p2 d ws ls (bs.map V.int)) (b:=jrows ls _) ((h.pick 2 rfl).pick 2 rfl))
  have eN:(SR.nxt ⟨x,dx,p1,p2,d,.joiner,ws,bs,ls,seen,rows⟩ j z).rows=if anyE (SR.add ⟨x,dx,p1,p2,d,.joiner,ws,bs,ls,seen,rows⟩ j z) then (SR.add ⟨x,dx,p1,p2,d,.joiner,ws,bs,ls,seen,rows⟩ j z) else (SR.add ⟨x,dx,p1,p2,d,.joiner,ws,bs,ls,seen,rows⟩ j z).map List.tail:=rfl
  have eO:SR.out ⟨x,dx,p1,p2,d,.joiner,ws,bs,ls,seen,rows⟩ j z=if anyE (SR.add ⟨x,dx,p1,p2,d,.joiner,ws,bs,ls,seen,rows⟩ j z) then none else bs.head?.map fun b=>(b,heads (SR.add ⟨x,dx,p1,p2,d,.joiner,ws,bs,ls,seen,rows⟩ j z)):=rfl
  cases out with
  | wait h =>
   refine q _ _ _ ?_ (hj (by rw[eN,if_pos h]) hc2) k2
   rw[eO,if_pos h]
   exact .no
  | lost h e =>
   refine q _ _ _ ?_ (hj (by rw[eN,h]; rfl) hc2) k2
   have:bs=[]:=jI.mp e
   rw[eO,h,this]
   exact .no
  | put h e t =>
   cases bs with
   | nil=>cases e
   | cons b bs =>
    cases e
    refine q _ _ _ ?_ (hj (by rw[eN,h]; rfl) hc2) k2
    rw[eO,h]
    exact .yes _ _ t
 | sink =>
  refine(G5.mono (by decide)).imp fun vs H Q E h=>?_
  obtain⟨⟨x,dx,p1,p2,d,k,ws,bs,ls,seen,rows⟩,j,m,wv,z,M,rfl,e,hc,ok,hm,hw,q⟩:=h
  cases e
  exact⟨rfl,q _ _ _ .no hc.pad (Tk.refl _)⟩
end
end Oc
namespace Oc
open PySem L2
theorem idx_ge {α:Type} (f:α→Bool):∀(l:List α) (k:Nat) (x:Int),x ∈ idx f k l→(k:Int)≤x
 | [],_,_,h=>absurd h zK
 | y::l,k,x,h=>by
  unfold idx at h
  by_cases hf:f y=true
  ·rw[if_pos hf] at h
   rcases zQ.mp h with e|e
   ·omega
   ·have:=idx_ge f l (k + 1) x e
    omega
  ·rw[if_neg hf] at h
   have:=idx_ge f l (k + 1) x h
   omega
theorem idx_pw {α:Type} (f:α→Bool):∀(l:List α) (k:Nat),(idx f k l).Pairwise (· < ·)
 | [],_=>List.Pairwise.nil
 | y::l,k=>by
  unfold idx
  by_cases hf:f y=true
  ·rw[if_pos hf]
   refine yX.mpr ⟨fun x hx=>?_,idx_pw f l (k + 1)⟩
   have:=idx_ge f l (k + 1) x hx
   omega
  ·rw[if_neg hf]
   exact idx_pw f l (k + 1)
theorem nd_lt {l:List Int} (h:l.Pairwise (· < ·)):l.Nodup:=h.imp fun h e=>by omega
theorem Wk.wy_pw (W:Wk) (s:Int):(W.wy s).Pairwise (· < ·):=by
 unfold Wk.wy
 split
 ·refine yX.mpr ⟨fun x hx=>?_,idx_pw _ _ _⟩
  have:=idx_ge _ _ _ _ hx
  omega
 ·exact idx_pw _ _ _
theorem Wk.wy_nd (W:Wk) (s:Int):(W.wy s).Nodup:=nd_lt (W.wy_pw s)
theorem Wk.wy_len {W:Wk} (ok:W.Ok) (s:Int):(W.wy s).length≤13:=by
 have h1:=idx_len (fun(t:Tri)=>t.2.1 == s) W.be 0
 have h2:=ok.b12
 unfold Wk.wy
 rw[zN]
 split
 ·show 1 + _≤13; omega
 ·show 0 + _≤13; omega
def kdOf (s:Sta):Kd:=if s.1="relay" then .relay (s.2.getD 0) else if s.1="sorter" then .sorter else if s.1="thinner" then .thinner (s.2.getD 0) else if s.1="joiner" then .joiner else .sink
theorem kd_relay (n:Option Int):kdOf ("relay",n)=.relay (n.getD 0):=by unfold kdOf; rw[if_pos rfl]
theorem kd_sorter (n:Option Int):kdOf ("sorter",n)=.sorter:=by
 unfold kdOf
 rw[if_neg (show ¬ (("sorter":Str)="relay") by decide +kernel),if_pos rfl]
theorem kd_thinner (n:Option Int):kdOf ("thinner",n)=.thinner (n.getD 0):=by
 unfold kdOf
 rw[if_neg (show ¬ (("thinner":Str)="relay") by decide +kernel),if_neg (show ¬ (("thinner":Str)="sorter") by decide +kernel),if_pos rfl]
theorem kd_joiner (n:Option Int):kdOf ("joiner",n)=.joiner:=by
 unfold kdOf
 rw[if_neg (show ¬ (("joiner":Str)="relay") by decide +kernel),if_neg (show ¬ (("joiner":Str)="sorter") by decide +kernel),if_neg (show ¬ (("joiner":Str)="thinner") by decide +kernel),if_pos rfl]
theorem kd_sink (n:Option Int):kdOf ("sink",n)=.sink:=by
 unfold kdOf
 rw[if_neg (show ¬ (("sink":Str)="relay") by decide +kernel),if_neg (show ¬ (("sink":Str)="sorter") by decide +kernel),if_neg (show ¬ (("sink":Str)="thinner") by decide +kernel),if_neg (show ¬ (("sink":Str)="joiner") by decide +kernel)]
structure Made (W:Wk) (s:Nat) (r:SR):Prop where
 k:∃ st,W.st[s]?=some st∧r.k=kdOf st
 ws:r.ws=W.wy s
 bs:r.bs=W.lv s
 seen:r.seen=0
 rows:r.rows=if r.k=.joiner then (W.wy s).map (fun _=>[]) else []
 ok:SOk 0 r
inductive spSides (vs:List V) (H:Hp) (Q:VK) (x_3:XK):Prop where
 | mk (w:Addr) (W:Wk) (s:Int) (M:List (List Cell)) (h_0:vs=[.ref w,.int s]) (h_1:WkAt H w W) (h_2:W.Ok) (h_3:Hc H M) (h_4:∀(t p1 p2:Addr) (H':Hp),Same H H'→Hc H' ([(t,.tup [.ref p1,.ref p2]),(p1,.lst ((W.wy s).map V.int)),(p2,.lst ((W.lv s).map V.int))]::M)→Q (.ref t) H'):spSides vs H Q x_3
inductive spSo (cs:Cs) (vs:List V) (H:Hp) (Q:VK) (x_3:XK):Prop where
 | mk (w:Addr) (W:Wk) (s:Nat) (M:List (List Cell)) (h_0:vs=[.ref w,.int s]) (h_1:WkAt H w W) (h_2:W.Ok) (h_3:s < W.st.length) (h_4:Hc H M) (h_5:∀(r:SR) (H':Hp),Same H H'→Hc H' (srC cs r::M)→Made W s r→Q (.ref r.x) H'):spSo cs vs H Q x_3
section
variable {P:Program} {w:World} {K:PySem.W.Frag} {mg:Str→Option Value} {base:Heap}
theorem i4:FnScope ["works","station"] ["works","station"] (defScope (top 6)):=⟨rfl,rfl,rfl,by decide +kernel,rfl,by decide +kernel,by decide +kernel⟩
theorem nC {f:Addr} {fd:FuncData} (F:Fun K "sides" "sides" (top 6) f fd) (pJ:FnAt P w K mg base 1 "ways" ["works","station"] spWays) (mx:FnAt P w K mg base 1 "leaving" ["works","station"] spLeav) :
  FnOk P w K mg base CX0 2 f fd ["works","station"] spSides:=by
 have nd:=i4.nd
 refine F.ok i4 (fun vs H Q E h=>?_) (fun cdv A outer s H vs Q E hr h=>?_)
 ·obtain⟨w,W,z,M,rfl,_⟩:=h
  rfl
 ·obtain⟨w,W,z,M,rfl,hw,ok,hc,q⟩:=h
  refine⟨_,(@pss_one _ _ _ (@ps_ret _ _ _ _ (@pe_tup _ _ _ _ _ (@pa_cons _ _ _ _ _ (pe_fn pJ (hr.mono (by decide)) (by rfl) (@pa_cons _ _ _ _ _ (pv 0) (@pa_cons _ _ _ _ _ (pv 1) pa_nil (by rfl)) (by rfl))) (@pa_cons _ _ _ _ _ (pe_fn mx (hr.mono (by decide)) (by rfl) (@pa_cons _ _ _ _ _ (pv 0) (@pa_cons _ _ _ _ _ (pv 1) pa_nil (by rfl)) (by rfl))) pa_nil (by rfl)) (by rfl))))),?_⟩
  refine⟨_,rfl,_,rfl,w,W,z,rfl,hw,ok,fun p1 H1 n1 h1 s1=>⟨_,rfl,_,rfl,w,W,z,rfl,hw.same s1,ok,fun p2 H2 n2 h2 s2=>⟨(by show 2≤sizeLine; decide),fun t nt=>?_⟩⟩⟩
  have hc1:=hc.newS n1 h1 s1
  have hc2:=hc1.newS n2 h2 s2
  have hc3:Hc _ ([(t,.tup [.ref p1,.ref p2])]::[(p2,.lst ((W.lv z).map V.int))]::[(p1,.lst ((W.wy z).map V.int))]::M):=hc2.new nt _
  have hc4:Hc _ ([(t,.tup [.ref p1,.ref p2])]::[(p1,.lst ((W.wy z).map V.int))]::[(p2,.lst ((W.lv z).map V.int))]::M):=(hc3.pick 2 rfl).pick 1 rfl
  exact q t p1 p2 _ ((s1.trans s2).trans (Same.new nt)) hc4.join.join
theorem sc_so:FnScope ["works","station","told","kind","around"] ["works","station"] (defScope (top 14)):=⟨rfl,rfl,rfl,by decide +kernel,rfl,by decide +kernel,by decide +kernel⟩
theorem ok_so {f:Addr} {fd:FuncData} {cs:Cs} (F:Fun K "station_of" "station_of" (top 14) f fd) (c:CsOk K cs) (oP:FnAt P w K mg base 2 "sides" ["works","station"] spSides)
  (oA:MkAt P w K mg base 2 "Relay" cs.rl ["self","ways","belts","more"] (spRlI K)) (nH:MkAt P w K mg base 1 "Sorter" cs.so ["self","ways","belts"] (spStI K)) (my:MkAt P w K mg base 2 "Thinner" cs.th ["self","ways","belts","every"] (spThI K))
  (mV:MkAt P w K mg base 2 "Joiner" cs.jn ["self","ways","belts"] (spJnI K)) (pK:MkAt P w K mg base 1 "Sink" cs.si ["self","ways","belts"] (spStI K)) :
  FnOk P w K mg base CX0 4 f fd ["works","station"] (spSo cs):=by
 have nd:=sc_so.nd
 refine F.ok sc_so (fun vs H Q E h=>?_) (fun cdv A outer s H vs Q E hr h=>?_)
 ·obtain⟨w,W,z,M,rfl,_⟩:=h
  rfl
 ·obtain⟨w,W,z,M,rfl,hw,ok,hz,hc,q⟩:=h
  refine⟨_,(@pss_cons _ _ _ _ _ (ps_set (i:=2) nd rfl (by nofun) (@pe_ix _ _ _ _ _ _ _ (ix_listK (K:=K) rfl) (@pe_ix _ _ _ _ _ _ _ (ix_tupK (K:=K) rfl) (pv 0) pe_int (fun _ _=>rfl)) (pv 1) (fun _ _=>rfl)))
   (@pss_cons _ _ _ _ _ (ps_set (i:=3) nd rfl (by nofun) (@pe_ix _ _ _ _ _ _ _ (ix_tupK (K:=K) rfl) (pv 2) pe_int (fun _ _=>rfl)))
   (@pss_cons _ _ _ _ _ (ps_set (i:=4) nd rfl (by nofun) (pe_fn oP (hr.mono (by decide)) (by rfl) (@pa_cons _ _ _ _ _ (pv 0) (@pa_cons _ _ _ _ _ (pv 1) pa_nil (by rfl)) (by rfl))))
   (@pss_cons _ _ _ _ _ (ps_if (pt_cmpR op_eq (pv 3) pe_str (nomark _)) (@pss_one _ _ _ (@ps_ret _ _ _ _ (pe_mk oA (hr.mono (by decide)) (by rfl) (@pa_cons _ _ _ _ _ (@pe_ix _ _ _ _ _ _ _ (ix_tupK (K:=K) rfl) (pv 4) pe_int (fun _ _=>rfl)) (@pa_cons _ _ _ _ _ (@pe_ix _ _ _ _ _ _ _ (ix_tupK (K:=K) rfl) (pv 4) pe_int (fun _ _=>rfl)) (@pa_cons _ _ _ _ _ (@pe_ix _ _ _ _ _ _ _ (ix_tupK (K:=K) rfl) (pv 2) pe_int (fun _ _=>rfl)) pa_nil (by rfl)) (by rfl)) (by rfl))))) pss_nil)
   (@pss_cons _ _ _ _ _ (ps_if (pt_cmpR op_eq (pv 3) pe_str (nomark _)) (@pss_one _ _ _ (@ps_ret _ _ _ _ (pe_mk nH (hr.mono (by decide)) (by rfl) (@pa_cons _ _ _ _ _ (@pe_ix _ _ _ _ _ _ _ (ix_tupK (K:=K) rfl) (pv 4) pe_int (fun _ _=>rfl)) (@pa_cons _ _ _ _ _ (@pe_ix _ _ _ _ _ _ _ (ix_tupK (K:=K) rfl) (pv 4) pe_int (fun _ _=>rfl)) pa_nil (by rfl)) (by rfl))))) pss_nil)
   (@pss_cons _ _ _ _ _ (ps_if (pt_cmpR op_eq (pv 3) pe_str (nomark _)) (@pss_one _ _ _ (@ps_ret _ _ _ _ (pe_mk my (hr.mono (by decide)) (by rfl) (@pa_cons _ _ _ _ _ (@pe_ix _ _ _ _ _ _ _ (ix_tupK (K:=K) rfl) (pv 4) pe_int (fun _ _=>rfl)) (@pa_cons _ _ _ _ _ (@pe_ix _ _ _ _ _ _ _ (ix_tupK (K:=K) rfl) (pv 4) pe_int (fun _ _=>rfl)) (@pa_cons _ _ _ _ _ (@pe_ix _ _ _ _ _ _ _ (ix_tupK (K:=K) rfl) (pv 2) pe_int (fun _ _=>rfl)) pa_nil (by rfl)) (by rfl)) (by rfl))))) pss_nil)
   (@pss_cons _ _ _ _ _ (ps_if (pt_cmpR op_eq (pv 3) pe_str (nomark _)) (@pss_one _ _ _ (@ps_ret _ _ _ _ (pe_mk mV (hr.mono (by decide)) (by rfl) (@pa_cons _ _ _ _ _ (@pe_ix _ _ _ _ _ _ _ (ix_tupK (K:=K) rfl) (pv 4) pe_int (fun _ _=>rfl)) (@pa_cons _ _ _ _ _ (@pe_ix _ _ _ _ _ _ _ (ix_tupK (K:=K) rfl) (pv 4) pe_int (fun _ _=>rfl)) pa_nil (by rfl)) (by rfl))))) pss_nil)
   (@pss_one _ _ _ (@ps_ret _ _ _ _ (pe_mk pK (hr.mono (by decide)) (by rfl) (@pa_cons _ _ _ _ _ (@pe_ix _ _ _ _ _ _ _ (ix_tupK (K:=K) rfl) (pv 4) pe_int (fun _ _=>rfl)) (@pa_cons _ _ _ _ _ (@pe_ix _ _ _ _ _ _ _ (ix_tupK (K:=K) rfl) (pv 4) pe_int (fun _ _=>rfl)) pa_nil (by rfl)) (by rfl)))))))))))),?_⟩
  obtain⟨sa,ba,fa,xs,ys,zs,h1,h2⟩:=id hw.ex
  have ls:=h2.ps.length
  obtain⟨xv,hx⟩:∃ x,xs[z]?=some x:=⟨xs[z]'(by omega),zB _⟩
  obtain⟨st,hst,hp⟩:=h2.ps.gt hx
  obtain⟨ta,rfl,hta⟩:=hp
  have okst:=ok.sta st (zG hst)
  have l13:=W.wy_len ok z
  refine⟨_,rfl,⟨_,_,_,_,rfl,rfl,SqT.of h1,atI_nat (j:=0) rfl,_,rfl,⟨_,_,_,_,rfl,rfl,SqL.of h2.hs,atI_nat hx,?_⟩⟩⟩
  have mk:∀ {H1 H2:Hp} {x dx:Addr} {o:HO},Same H H1→H1 x=none→H1 dx=none→Keep [x] (upd (upd H1 dx (.own x)) x o) H2→Same H H2:=fun s1 nx ndx kp b o e =>
   kp b o (((Same.new ndx).upd nx) b o (s1 b o e)) (by rw[zF]; exact ne_of_none (s1 b o e) nx)
  rcases okst with ⟨n,rfl,_⟩|rfl|⟨n,rfl,hn,_⟩|rfl|rfl
  ·refine⟨_,rfl,⟨_,_,_,_,rfl,rfl,SqT.of hta,atI_nat (j:=0) rfl,_,rfl,_,rfl,w,W,z,M,rfl,hw,ok,hc,fun t q1 q2 H1 s1 hc1=>?_⟩⟩
   refine⟨_,rfl,rfl,_,rfl,?_⟩
   rw[show decide (V.str "relay"=V.str "relay")=true from by decide +kernel]
   refine iteT ⟨_,rfl,⟨_,_,_,_,rfl,rfl,SqT.of (hc1.get 0 0 rfl rfl),atI_nat (j:=0) rfl,_,rfl,⟨_,_,_,_,rfl,rfl,SqT.of (hc1.get 0 0 rfl rfl),atI_nat (j:=1) rfl,_,rfl,⟨_,_,_,_,rfl,rfl,SqT.of (s1 _ _ hta),atI_nat (j:=1) rfl,fun x dx nx ndx nex=>?_⟩⟩⟩⟩
   have hcF:=(hc1.new ndx (.own x)).new (p:=x) (by rw[upd_ne (Ne.symm nex)]; exact nx) (.ins cs.rl dx [])
   refine⟨x,q1,q2,cs.rl,dx,_,_,n,_,rfl,hcF,c.rl,SqL.of (hcF.get 2 1 rfl rfl),SqL.of (hcF.get 2 2 rfl rfl),ne_of_none (hc1.get 0 1 rfl rfl) nx,ne_of_none (hc1.get 0 2 rfl rfl) nx,fun p1 p2 H' kp hc'=>⟨rfl,?_⟩⟩
   exact q ⟨x,dx,p1,p2,0,.relay n,W.wy z,W.lv z,[],0,[]⟩ H' (mk s1 nx ndx kp) (((hc'.pick 1 rfl).tl.pick 1 rfl).tl) ⟨⟨_,hst,by rw[kd_relay]; rfl⟩,rfl,rfl,rfl,rfl,⟨W.wy_nd z,by show(W.wy z).length≤100; omega,fun e=>(by cases e),fun n e=>by cases e⟩⟩
  ·refine⟨_,rfl,⟨_,_,_,_,rfl,rfl,SqT.of hta,atI_nat (j:=0) rfl,_,rfl,_,rfl,w,W,z,M,rfl,hw,ok,hc,fun t q1 q2 H1 s1 hc1=>?_⟩⟩
   refine⟨_,rfl,rfl,_,rfl,?_⟩
   rw[show decide (V.str "sorter"=V.str "relay")=false from by decide +kernel]
   refine iteF ⟨_,rfl,rfl,_,rfl,?_⟩
   rw[show decide (V.str "sorter"=V.str "sorter")=true from by decide +kernel]
   refine iteT ⟨_,rfl,⟨_,_,_,_,rfl,rfl,SqT.of (hc1.get 0 0 rfl rfl),atI_nat (j:=0) rfl,_,rfl,⟨_,_,_,_,rfl,rfl,SqT.of (hc1.get 0 0 rfl rfl),atI_nat (j:=1) rfl,fun x dx nx ndx nex=>?_⟩⟩⟩
   have hcF:=(hc1.new ndx (.own x)).new (p:=x) (by rw[upd_ne (Ne.symm nex)]; exact nx) (.ins cs.so dx [])
   refine⟨x,q1,q2,cs.so,dx,_,_,_,rfl,hcF,c.so,SqL.of (hcF.get 2 1 rfl rfl),SqL.of (hcF.get 2 2 rfl rfl),ne_of_none (hc1.get 0 1 rfl rfl) nx,ne_of_none (hc1.get 0 2 rfl rfl) nx,fun p1 p2 H' kp hc'=>⟨rfl,?_⟩⟩
   exact q ⟨x,dx,p1,p2,0,.sorter,W.wy z,W.lv z,[],0,[]⟩ H' (mk s1 nx ndx kp) (((hc'.pick 1 rfl).tl.pick 1 rfl).tl) ⟨⟨_,hst,by rw[kd_sorter]⟩,rfl,rfl,rfl,rfl,⟨W.wy_nd z,by show(W.wy z).length≤100; omega,fun e=>(by cases e),fun n e=>by cases e⟩⟩
  ·refine⟨_,rfl,⟨_,_,_,_,rfl,rfl,SqT.of hta,atI_nat (j:=0) rfl,_,rfl,_,rfl,w,W,z,M,rfl,hw,ok,hc,fun t q1 q2 H1 s1 hc1=>?_⟩⟩
   refine⟨_,rfl,rfl,_,rfl,?_⟩
   rw[show decide (V.str "thinner"=V.str "relay")=false from by decide +kernel]
   refine iteF ⟨_,rfl,rfl,_,rfl,?_⟩
   rw[show decide (V.str "thinner"=V.str "sorter")=false from by decide +kernel]
   refine iteF ⟨_,rfl,rfl,_,rfl,?_⟩
   rw[show decide (V.str "thinner"=V.str "thinner")=true from by decide +kernel]
   refine iteT ⟨_,rfl,⟨_,_,_,_,rfl,rfl,SqT.of (hc1.get 0 0 rfl rfl),atI_nat (j:=0) rfl,_,rfl,⟨_,_,_,_,rfl,rfl,SqT.of (hc1.get 0 0 rfl rfl),atI_nat (j:=1) rfl,_,rfl,⟨_,_,_,_,rfl,rfl,SqT.of (s1 _ _ hta),atI_nat (j:=1) rfl,fun x dx nx ndx nex=>?_⟩⟩⟩⟩
   have hcF:=(hc1.new ndx (.own x)).new (p:=x) (by rw[upd_ne (Ne.symm nex)]; exact nx) (.ins cs.th dx [])
   refine⟨x,q1,q2,cs.th,dx,_,_,n,_,rfl,hcF,c.th,SqL.of (hcF.get 2 1 rfl rfl),SqL.of (hcF.get 2 2 rfl rfl),ne_of_none (hc1.get 0 1 rfl rfl) nx,ne_of_none (hc1.get 0 2 rfl rfl) nx,fun p1 p2 H' kp hc'=>⟨rfl,?_⟩⟩
   exact q ⟨x,dx,p1,p2,0,.thinner n,W.wy z,W.lv z,[],0,[]⟩ H' (mk s1 nx ndx kp) (((hc'.pick 1 rfl).tl.pick 1 rfl).tl) ⟨⟨_,hst,by rw[kd_thinner]; rfl⟩,rfl,rfl,rfl,rfl,⟨W.wy_nd z,by show(W.wy z).length≤100; omega,fun e=>(by cases e),fun n' e=>by cases e; exact hn⟩⟩
  ·refine⟨_,rfl,⟨_,_,_,_,rfl,rfl,SqT.of hta,atI_nat (j:=0) rfl,_,rfl,_,rfl,w,W,z,M,rfl,hw,ok,hc,fun t q1 q2 H1 s1 hc1=>?_⟩⟩
   refine⟨_,rfl,rfl,_,rfl,?_⟩
   rw[show decide (V.str "joiner"=V.str "relay")=false from by decide +kernel]
   refine iteF ⟨_,rfl,rfl,_,rfl,?_⟩
   rw[show decide (V.str "joiner"=V.str "sorter")=false from by decide +kernel]
   refine iteF ⟨_,rfl,rfl,_,rfl,?_⟩
   rw[show decide (V.str "joiner"=V.str "thinner")=false from by decide +kernel]
   refine iteF ⟨_,rfl,rfl,_,rfl,?_⟩
   rw[show decide (V.str "joiner"=V.str "joiner")=true from by decide +kernel]
   refine iteT ⟨_,rfl,⟨_,_,_,_,rfl,rfl,SqT.of (hc1.get 0 0 rfl rfl),atI_nat (j:=0) rfl,_,rfl,⟨_,_,_,_,rfl,rfl,SqT.of (hc1.get 0 0 rfl rfl),atI_nat (j:=1) rfl,fun x dx nx ndx nex=>?_⟩⟩⟩
   have hcF:=(hc1.new ndx (.own x)).new (p:=x) (by rw[upd_ne (Ne.symm nex)]; exact nx) (.ins cs.jn dx [])
   refine⟨x,q1,q2,cs.jn,dx,_,_,_,rfl,hcF,c.jn,SqL.of (hcF.get 2 1 rfl rfl),SqL.of (hcF.get 2 2 rfl rfl),ne_of_none (hc1.get 0 1 rfl rfl) nx,ne_of_none (hc1.get 0 2 rfl rfl) nx,W.wy_nd z,by omega,fun p1 p2 d ls' H' el kp hc'=>⟨rfl,?_⟩⟩
   have hc'':=Hc.join (((hc'.pick 2 rfl).tl.pick 2 rfl).tl)
   have hc3:Hc H' (srC cs ⟨x,dx,p1,p2,d,.joiner,W.wy z,W.lv z,ls',0,(W.wy z).map fun _=>[]⟩::M):=Hc.join (a:=jobj cs.jn dx x p1 p2 d (W.wy z) ls' ((W.lv z).map V.int)) (b:=jrows ls' ((W.wy z).map fun _=>[])) (((((hc'.pick 2 rfl).tl.pick 2 rfl).tl).pick 1 rfl).pick 1 rfl)
   refine q ⟨x,dx,p1,p2,d,.joiner,W.wy z,W.lv z,ls',0,(W.wy z).map fun _=>[]⟩ H' (mk s1 nx ndx kp) hc3 ⟨⟨_,hst,by rw[kd_joiner]⟩,rfl,rfl,rfl,by rw[if_pos rfl],⟨W.wy_nd z,by show(W.wy z).length≤100; omega,fun _=>⟨el,by rw[zC],fun row hr=>?_⟩,fun n e=>by cases e⟩⟩
   obtain⟨_,_,rfl⟩:=yB.mp hr
   exact zH _
  ·refine⟨_,rfl,⟨_,_,_,_,rfl,rfl,SqT.of hta,atI_nat (j:=0) rfl,_,rfl,_,rfl,w,W,z,M,rfl,hw,ok,hc,fun t q1 q2 H1 s1 hc1=>?_⟩⟩
   refine⟨_,rfl,rfl,_,rfl,?_⟩
   rw[show decide (V.str "sink"=V.str "relay")=false from by decide +kernel]
   refine iteF ⟨_,rfl,rfl,_,rfl,?_⟩
   rw[show decide (V.str "sink"=V.str "sorter")=false from by decide +kernel]
   refine iteF ⟨_,rfl,rfl,_,rfl,?_⟩
   rw[show decide (V.str "sink"=V.str "thinner")=false from by decide +kernel]
   refine iteF ⟨_,rfl,rfl,_,rfl,?_⟩
   rw[show decide (V.str "sink"=V.str "joiner")=false from by decide +kernel]
   refine iteF ⟨_,rfl,⟨_,_,_,_,rfl,rfl,SqT.of (hc1.get 0 0 rfl rfl),atI_nat (j:=0) rfl,_,rfl,⟨_,_,_,_,rfl,rfl,SqT.of (hc1.get 0 0 rfl rfl),atI_nat (j:=1) rfl,fun x dx nx ndx nex=>?_⟩⟩⟩
   have hcF:=(hc1.new ndx (.own x)).new (p:=x) (by rw[upd_ne (Ne.symm nex)]; exact nx) (.ins cs.si dx [])
   refine⟨x,q1,q2,cs.si,dx,_,_,_,rfl,hcF,c.si,SqL.of (hcF.get 2 1 rfl rfl),SqL.of (hcF.get 2 2 rfl rfl),ne_of_none (hc1.get 0 1 rfl rfl) nx,ne_of_none (hc1.get 0 2 rfl rfl) nx,fun p1 p2 H' kp hc'=>⟨rfl,?_⟩⟩
   exact q ⟨x,dx,p1,p2,0,.sink,W.wy z,W.lv z,[],0,[]⟩ H' (mk s1 nx ndx kp) (((hc'.pick 1 rfl).tl.pick 1 rfl).tl) ⟨⟨_,hst,by rw[kd_sink]⟩,rfl,rfl,rfl,rfl,⟨W.wy_nd z,by show(W.wy z).length≤100; omega,fun e=>(by cases e),fun n e=>by cases e⟩⟩
end
end Oc
namespace Oc
open PySem L2
structure SmD (Pd:Addr) (H H':Hp):Prop where
 keep:∀ b u,H b=some u→((∀ ps,u ≠ HO.tbl ps)∨b ≠ Pd)→H' b=some u
 tabs:∀ b ps,H b=some (.tbl ps)→∃ ps',H' b=some (.tbl ps')
section
variable {Pd:Addr} {H H' H'':Hp} {b:Addr} {xs:List V}
theorem SmD.of (s:Same H H'):SmD Pd H H':=⟨fun b u e _=>s b u e,fun b ps e=>⟨ps,s _ _ e⟩⟩
theorem SmD.trans (a:SmD Pd H H') (b:SmD Pd H' H''):SmD Pd H H'':=⟨fun c u e n=>b.keep c u (a.keep c u e n) n,fun c ps e=>let ⟨ps',e'⟩:=a.tabs c ps e; b.tabs c ps' e'⟩
theorem SmD.tup (s:SmD Pd H H') (e:H b=some (.tup xs)):H' b=some (.tup xs):=s.keep _ _ e (.inl fun _ z=>nomatch z)
theorem SmD.lst (s:SmD Pd H H') (e:H b=some (.lst xs)):H' b=some (.lst xs):=s.keep _ _ e (.inl fun _ z=>nomatch z)
theorem SmD.upd {p:Addr} {o:HO} (s:SmD Pd H H') (n:H p=none):SmD Pd H (upd H' p o) :=
 ⟨fun b u e h=>by rw[upd_ne (ne_of_none e n)]; exact s.keep b u e h,fun b ps e=>by rw[upd_ne (ne_of_none e n)]; exact s.tabs b ps e⟩
theorem SmD.sm (s:SmD Pd H H'):Sm H H':=⟨fun b u e n=>s.keep b u e (.inl n),s.tabs⟩
theorem SmD.free (s:SmD Pd H H') (n:H' b=none):H b=none:=s.sm.free n
end
theorem rSrt_ofD {K:PySem.W.Frag} {P l:Addr} {q:Str} {ln cl:Nat} {i:Int} {Q:VK} {xs:List V} {kz:List Int} {H1:Hp} (hl:SqL K H1 l xs) (h64:xs.length < 64) (hlen:kz.length=xs.length)
  (hk:∀(j:Nat) x k,xs[j]?=some x→kz[j]?=some k→∃ t ys,x=.ref t∧SqT K H1 t ys∧atI ys i=some (.int k)) (hT:LamT P q ln cl H1)
  (fin:∀ H6 D out,SmD P H1 H6→LamT P q ln cl H6→H1 D=none→H6 D=some (.lst out)→StabV kz xs out→Q (.ref D) H6):rSrt K P q ln cl i Q (.ref l) H1:=by
 refine⟨l,xs,kz,rfl,hl,h64,hlen,hk,?_⟩
 rcases hT with hP|⟨c',hP,hc'⟩
 ·refine .inl ⟨hP,fun c' D out nc ne nD st=>fin _ D out ?_ ?_ nD upd_same st⟩
  ·have ncP:P ≠ c':=ne_of_none hP nc
   have nDP:P ≠ D:=ne_of_none hP nD
   refine⟨fun b u e h=>?_,fun b ps e=>?_⟩
   ·have nb:b ≠ P:=h.elim (fun h=>ne_of e hP (h _)) id
    rw[upd_ne (ne_of_none e nD),upd_ne (ne_of_none e nc),upd_ne nb]; exact e
   ·by_cases hb:b=P
    ·subst hb; exact⟨_,by rw[upd_ne nDP,upd_ne ncP,upd_same]⟩
    ·exact⟨ps,by rw[upd_ne (ne_of_none e nD),upd_ne (ne_of_none e nc),upd_ne hb]; exact e⟩
  ·exact .inr ⟨c',by rw[upd_ne (ne_of_none hP nD),upd_ne (ne_of_none hP nc),upd_same],by rw[upd_ne ne,upd_same]⟩
 ·refine .inr ⟨c',hP,hc',fun D out nD st=>fin _ D out (SmD.of (Same.new nD)) ?_ nD upd_same st⟩
  exact LamT.same (.inr ⟨c',hP,hc'⟩) (Same.new nD)
end Oc
namespace Oc
open PySem L2
theorem IsTri.sm {Pd:Addr} {H H':Hp} (s:SmD Pd H H') {x:V} {t:Tri} (h:IsTri H x t):IsTri H' x t:=let ⟨p,e,q⟩:=h; ⟨p,e,s.tup q⟩
theorem IsSta.sm {Pd:Addr} {H H':Hp} (s:SmD Pd H H') {x:V} {t:Sta} (h:IsSta H x t):IsSta H' x t:=let ⟨p,e,q⟩:=h; ⟨p,e,s.tup q⟩
theorem WkAt.sm {Pd:Addr} {H H':Hp} {w:Addr} {W:Wk} (e:SmD Pd H H') (h:WkAt H w W):WkAt H' w W:=by
 obtain⟨s,b,f,xs,ys,zs,h1,h2⟩:=h.ex
 exact⟨s,b,f,xs,ys,zs,e.tup h1,e.lst h2.hs,e.lst h2.hb,e.lst h2.hf,pairedMono (fun _ _=>IsSta.sm e) h2.ps,pairedMono (fun _ _=>IsTri.sm e) h2.pb,pairedMono (fun _ _=>IsTri.sm e) h2.pf⟩
inductive IsPr (H:Hp) (x:V) (t:Int × Int):Prop where
 | mk (p:_) (h_0:x=.ref p) (h_1:H p=some (.tup [.int t.1,.int t.2])):IsPr H x t
theorem IsPr.same {H H':Hp} (s:Same H H') {x:V} {t:Int × Int} (h:IsPr H x t):IsPr H' x t:=let ⟨p,e,q⟩:=h; ⟨p,e,s _ _ q⟩
theorem IsPr.keep {H:Hp} {a:Addr} {xs ys:List V} (e:H a=some (.lst xs)) {x:V} {t:Int × Int} (h:IsPr H x t):IsPr (upd H a (.lst ys)) x t:=by
 obtain⟨p,rfl,q⟩:=h
 exact⟨p,rfl,by rw[upd_ne (ne_of q e (by intro z; cases z))]; exact q⟩
def Wk.drs (W:Wk) (s:Int):List Tri:=(List.range 51).flatMap fun(t:Nat)=>W.fe.filter fun f=>f.1 == s && f.2.1 == (t:Int)
def prOf (t:Tri):Int × Int:=(t.2.1,t.2.2)
def Wk.dr (W:Wk) (s:Int):List (Int × Int):=(W.drs s).map prOf
abbrev dq:Str:="door.<locals>.<lambda>"
abbrev DoorT (P:Addr) (H:Hp):Prop:=LamT P dq 9 61 H
inductive spDoor (Pd:Addr) (vs:List V) (H:Hp) (Q:VK) (x_3:XK):Prop where
 | mk (w:Addr) (W:Wk) (s:Int) (h_0:vs=[.ref w,.int s]) (h_1:WkAt H w W) (h_2:W.Ok) (h_3:DoorT Pd H) (h_4:∀(p:Addr) (rs:List V) (H':Hp),H p=none→H' p=some (.lst rs)→Paired (IsPr H') rs (W.dr s)→SmD Pd H H'→DoorT Pd H'→rs.length≤60→Q (.ref p) H'):spDoor Pd vs H Q x_3
theorem drs_of {W:Wk} (ok:W.Ok) {s:Int} {is:List Nat} (hp:is.Perm (List.range (W.fe.filter fun f=>f.1 == s).length))
  (hw:is.Pairwise (fun i j=>((W.fe.filter fun f=>f.1 == s).map fun(f:Tri)=>f.2.1).getD i 0 < ((W.fe.filter fun f=>f.1 == s).map fun(f:Tri)=>f.2.1).getD j 0∨(((W.fe.filter fun f=>f.1 == s).map fun(f:Tri)=>f.2.1).getD i 0=((W.fe.filter fun f=>f.1 == s).map fun(f:Tri)=>f.2.1).getD j 0∧i < j))) :
  is.map (fun i=>(W.fe.filter fun f=>f.1 == s).getD i (0,0,0))=W.drs s:=by
 rw[stab_bucket (0,0,0) (fun(f:Tri)=>f.2.1) (m:=51) (fun x hx=>?_) hp hw]
 ·unfold Wk.drs
  congr 1
  funext t
  rw[List.filter_filter]
  refine List.filter_congr fun x _=>?_
  rw[Bool.and_comm]
 ·obtain⟨h1,h2,h3,h4,_⟩:=ok.fee x (z6.mp hx).1
  exact⟨h3,by omega⟩
section
variable {P:Program} {w:World} {K:PySem.W.Frag} {mg:Str→Option Value} {base:Heap}
theorem lS:FnScope ["works","station","feeds"] ["works","station"] (defScope (top 3)):=⟨rfl,rfl,rfl,by decide +kernel,rfl,by decide +kernel,by decide +kernel⟩
theorem oy {f c Pd:Addr} {fd:FuncData} (F:Fun K "door" "door" (top 3) f fd) (hc:fd.code=.ref c) (tb:Tab K mg base c Pd) (T:Txt K mg):FnOk P w K mg base CX0 1 f fd ["works","station"] (spDoor Pd):=by
 have nd:=lS.nd
 refine F.okC hc lS (fun vs H Q E h=>?_) (fun A outer s H vs Q E hr h=>?_)
 ·obtain⟨w,W,z,rfl,_⟩:=h
  rfl
 ·obtain⟨w,W,z,rfl,hw,ok,hT,q⟩:=h
  obtain⟨sa,ba,fa,xs,ys,zs,h1,h2⟩:=hw.ex
  have lf:=h2.pf.length
  have f60:=ok.f60
  refine⟨_,(@pss_cons _ _ _ _ _ (ps_setC (i:=2) nd rfl (Or.inl rfl) rfl (own:=["feed"]) (fr:=["station"]) (js:=[1]) (by and_intros) (pi_listK (K:=K) rfl (@pe_ix _ _ _ _ _ _ _ (ix_tupK (K:=K) rfl) (pv 0) pe_int (fun _ _=>rfl))) (fun _ _ _ _=>(pg_name (i:=0) (show List.Nodup (["feed","station"]:List Str) from by decide +kernel) rfl (by nofun))) (fun _ _ _ _=>(pts_one (pt_cmpR op_eq (@pe_ix _ _ _ _ _ _ _ (ix_tupK (K:=K) rfl) (pv 0) pe_int (fun _ _=>rfl)) (pv 1) (nomark _)))) (fun _ _ _ _=>(pv 0)))
   (@pss_one _ _ _ (@ps_ret _ _ _ _ (pe_comp (own:=["feed"]) (fr:=[]) (js:=[]) (by and_intros) (pi_listK (K:=K) rfl (pe_srt hr (by rfl) T.n_sorted bt_sorted rfl (by rfl) tb.hd tb.bl (pv 2) (by decide) (fun _ _ _ _=>rfl) (by rfl) (by rfl))) (fun _ _ _ _=>(pg_name (i:=0) (show List.Nodup (["feed"]:List Str) from by decide +kernel) rfl (by nofun))) (fun _ _ _ _=>pts_nil) (fun _ _ _ _=>(@pe_tup _ _ _ _ _ (@pa_cons _ _ _ _ _ (@pe_ix _ _ _ _ _ _ _ (ix_tupK (K:=K) rfl) (pv 0) pe_int (fun _ _=>rfl)) (@pa_cons _ _ _ _ _ (@pe_ix _ _ _ _ _ _ _ (ix_tupK (K:=K) rfl) (pv 0) pe_int (fun _ _=>rfl)) pa_nil (by rfl)) (by rfl)))))))),?_⟩
  refine⟨_,rfl,⟨_,_,_,_,rfl,rfl,SqT.of h1,(atI_nat (j:=2) rfl),fa,rfl,⟨_,SqL.of h2.hf⟩,fun D nD=>?_⟩⟩
  refine comp_list (a:=fa) (xs:=zs) (fun i H5=>Same H H5∧∃ xs':List V,H5 D=some (.lst xs')∧Paired (IsTri H5) xs' ((W.fe.take i).filter fun f=>f.1 == z)) ⟨Same.new nD,[],upd_same,.nil⟩ (fun i H5 _ p=>SqL.of (p.1 _ _ h2.hf)) ?_ ?_
  ·rintro i x H5 m Wf hx ⟨s5,xs',h5,p5⟩ nx
   obtain⟨t,ht,hp0⟩:=h2.pf.gt hx
   obtain⟨a0,rfl,ha⟩:=hp0
   have hi:=(zD.mp ht).1
   refine⟨_,rfl,⟨_,_,_,_,rfl,rfl,SqT.of (s5 _ _ ha),(atI_nat (j:=0) rfl),_,rfl,rfl,_,rfl,?_⟩⟩
   have et:decide (V.int t.1=V.int z)=(t.1 == z):=dec_int
   have l5:=p5.length
   have l6:((W.fe.take i).filter fun f=>f.1 == z).length≤60:=z4 (jF _ _) (by rw[zU]; omega)
   have ef:(W.fe.take (i + 1)).filter (fun f=>f.1 == z)=(W.fe.take i).filter (fun f=>f.1 == z)++(if (t.1 == z)=true then [t] else []):=by
    rw[yI,ht,jK]
    congr 1
    show List.filter _ [t]=_
    rw[qX,jU]
   refine iteB (fun hb=>?_) (fun hb=>?_)
   ·rw[et] at hb
    refine⟨_,rfl,_,h5,small1000 (by omega),nx _ ⟨s5.upd nD,xs'++[.ref a0],upd_same,?_⟩⟩
    rw[ef,hb,if_pos rfl]
    exact paired_app (pairedMono (fun _ _ h=>h.keep h5) p5) (.cons (IsTri.keep h5 ⟨a0,rfl,s5 _ _ ha⟩) .nil)
   ·rw[et] at hb
    refine nx _ ⟨s5,xs',h5,?_⟩
    rw[ef,hb,if_neg zV,yD]
    exact p5
  ·rintro H5 ⟨s5,xs',h5,p5⟩
   rw[lf,zX] at p5
   have l5:=p5.length
   have l6:(W.fe.filter fun f=>f.1 == z).length≤60:=z4 (jF _ _) f60
   refine⟨_,rfl,?_⟩
   refine rSrt_ofD (kz:=(W.fe.filter fun f=>f.1 == z).map fun(f:Tri)=>f.2.1) (SqL.of h5) (by omega) (by rw[zC]; omega) (fun j x k hj hk=>?_) (hT.same s5) (fun H6 D2 out s6 hT6 nD2 h6 st=>?_)
   ·obtain⟨t,ht,a0,rfl,ha⟩:=p5.gt hj
    rw[zE,ht] at hk
    cases hk
    exact⟨a0,_,rfl,SqT.of ha,atI_nat (j:=1) rfl⟩
   ·obtain⟨is,i1,rfl,i3⟩:=st
    have i1':=i1
    rw[l5] at i1'
    have p6:Paired (IsTri H6) (is.map fun i=>xs'.getD i .non) (W.drs z):=by
     rw[← drs_of ok i1' i3]
     exact pairedMono (fun _ _=>IsTri.sm s6) (paired_pick (0,0,0) p5 is fun i hi=>yC.mp (i1.mem_iff.mp hi))
    have lo:(is.map fun i=>xs'.getD i V.non).length≤60:=by rw[zC,i1.length_eq,z9]; omega
    have hD2:H D2=none:=s5.free nD2
    have sH6:SmD Pd H H6:=(SmD.of s5).trans s6
    generalize (is.map fun i=>xs'.getD i V.non)=out at h6 p6 lo
    have l7:=p6.length
    refine⟨D2,rfl,⟨_,SqL.of h6⟩,fun D3 nD3=>?_⟩
    refine comp_list (a:=D2) (xs:=out) (fun i H7=>Same H6 H7∧∃ rs:List V,H7 D3=some (.lst rs)∧Paired (IsPr H7) rs (((W.drs z).take i).map prOf)) ⟨Same.new nD3,[],upd_same,.nil⟩ (fun i H7 _ p=>SqL.of (p.1 _ _ h6)) ?_ ?_
    ·rintro i x H7 m Wf hx ⟨s7,rs,h7,p7⟩ nx
     obtain⟨t,ht,hp0⟩:=p6.gt hx
     obtain⟨a0,rfl,ha⟩:=hp0
     have hi:=(zD.mp ht).1
     have l8:=p7.length
     rw[zC,zU] at l8
     refine⟨_,rfl,⟨_,_,_,_,rfl,rfl,SqT.of (s7 _ _ ha),(atI_nat (j:=1) rfl),_,rfl,⟨_,_,_,_,rfl,rfl,SqT.of (s7 _ _ ha),(atI_nat (j:=2) rfl),?_⟩⟩⟩
     refine⟨(by show 2≤sizeLine; decide),fun p np=>?_⟩
     have s8:Same H7 (upd H7 p (.tup [.int t.2.1,.int t.2.2])):=Same.new np
     refine⟨_,s8 _ _ h7,small1000 (by omega),nx _ ⟨(s7.trans s8).upd nD3,rs++[.ref p],upd_same,?_⟩⟩
     rw[yI,ht,zJ]
     exact paired_app (pairedMono (fun _ _ h=>(IsPr.same s8 h).keep (s8 _ _ h7)) p7) (.cons (IsPr.keep (s8 _ _ h7) ⟨p,rfl,upd_same⟩) .nil)
    ·rintro H7 ⟨s7,rs,h7,p7⟩
     rw[l7,zX] at p7
     exact q D3 rs H7 (sH6.free nD3) h7 p7 (sH6.trans (SmD.of s7)) (hT6.same s7) (by have:=p7.length; rw[zC] at this; omega)
end
end Oc
namespace Oc
open PySem L2
def NoT (Ms:List (List Cell)):Prop:=∀ c ∈ Ms.flatten,∀ ps,c.2 ≠ HO.tbl ps
theorem NoT.cons {c:List Cell} {Ms:List (List Cell)} (h:∀ x ∈ c,∀ ps,x.2 ≠ HO.tbl ps) (n:NoT Ms):NoT (c::Ms):=fun x hx=>by
 rcases yA.mp (show x ∈ c++Ms.flatten from hx) with q|q
 ·exact h x q
 ·exact n x q
theorem NoT.one {a:Addr} {o:HO} {Ms:List (List Cell)} (h:∀ ps,o ≠ HO.tbl ps) (n:NoT Ms):NoT ([(a,o)]::Ms):=n.cons fun x hx=>by rw[zF.mp hx]; exact h
theorem NoT.lst {a:Addr} {xs:List V} {Ms:List (List Cell)} (n:NoT Ms):NoT ([(a,.lst xs)]::Ms):=n.one fun _ z=>nomatch z
theorem noT_rows {as:List Addr} {vs:List (List V)}:∀ x ∈ rowsC as (vs.map HO.lst),∀ ps,x.2 ≠ HO.tbl ps:=fun x hx ps=>by
 obtain⟨i,hi⟩:=yR hx
 have h2:=(qK hx).2
 obtain⟨v,_,e⟩:=yB.mp h2
 rw[← e]
 exact fun z=>nomatch z
theorem _root_.L2.Hc.sm {Pd:Addr} {H H':Hp} {Ms:List (List Cell)} (h:Hc H Ms) (n:NoT Ms) (s:SmD Pd H H'):Hc H' Ms:=⟨h.1,fun p hp=>s.keep _ _ (h.2 p hp) (.inl (n p hp))⟩
theorem _root_.L2.Hc.newM {Pd:Addr} {H H':Hp} {Ms:List (List Cell)} {p:Addr} {o:HO} (h:Hc H Ms) (n:NoT Ms) (np:H p=none) (e:H' p=some o) (s:SmD Pd H H'):Hc H' ([(p,o)]::Ms):=by
 refine⟨(h.new np o).1,fun c hc=>?_⟩
 rcases yA.mp (show c ∈ [(p,o)]++Ms.flatten from hc) with q|q
 ·rw[zF.mp q]; exact e
 ·exact(h.sm n s).2 c q
def Kp (Pd p:Addr) (H H':Hp):Prop:=∀ b u,H b=some u→((∀ ps,u ≠ HO.tbl ps)∨b ≠ Pd)→b ≠ p→H' b=some u
theorem Kp.sm {Pd p:Addr} {H H':Hp} (s:SmD Pd H H'):Kp Pd p H H':=fun b u e n _=>s.keep b u e n
theorem Kp.trans {Pd p:Addr} {H H1 H2:Hp} (a:Kp Pd p H H1) (b:Kp Pd p H1 H2):Kp Pd p H H2:=fun c u e n m=>b c u (a c u e n m) n m
theorem Kp.put {Pd p:Addr} {H:Hp} {o:HO}:Kp Pd p H (upd H p o):=fun b u e _ m=>by rw[upd_ne m]; exact e
theorem Kp.tup {Pd p C dx:Addr} {fs:List (Str × V)} {H H':Hp} (k:Kp Pd p H H') (hp:H p=some (.ins C dx fs)) {b:Addr} {xs:List V} (e:H b=some (.tup xs)):H' b=some (.tup xs):=k b _ e (.inl fun _ z=>nomatch z) (ne_of e hp fun z=>nomatch z)
theorem Kp.lst {Pd p C dx:Addr} {fs:List (Str × V)} {H H':Hp} (k:Kp Pd p H H') (hp:H p=some (.ins C dx fs)) {b:Addr} {xs:List V} (e:H b=some (.lst xs)):H' b=some (.lst xs):=k b _ e (.inl fun _ z=>nomatch z) (ne_of e hp fun z=>nomatch z)
theorem WkAt.kp {Pd p C dx:Addr} {fs:List (Str × V)} {H H':Hp} (k:Kp Pd p H H') (hp:H p=some (.ins C dx fs)) {w:Addr} {W:Wk} (h:WkAt H w W):WkAt H' w W:=by
 obtain⟨s,b,f,xs,ys,zs,h1,h2⟩:=h.ex
 refine⟨s,b,f,xs,ys,zs,k.tup hp h1,k.lst hp h2.hs,k.lst hp h2.hb,k.lst hp h2.hf,pairedMono (fun _ _ h=>?_) h2.ps,pairedMono (fun _ _ h=>?_) h2.pb,pairedMono (fun _ _ h=>?_) h2.pf⟩
 all_goals
  obtain⟨q,e,r⟩:=h
  exact⟨q,e,k.tup hp r⟩
theorem _root_.L2.LamT.updI {P p C dx:Addr} {fs:List (Str × V)} {q:Str} {ln cl:Nat} {H:Hp} {o:HO} (h:LamT P q ln cl H) (e:H p=some (.ins C dx fs)):LamT P q ln cl (upd H p o):=by
 rcases h with h|⟨c',h1,h2⟩
 ·exact .inl (by rw[upd_ne (ne_of h e fun z=>nomatch z)]; exact h)
 ·exact .inr ⟨c',by rw[upd_ne (ne_of h1 e fun z=>nomatch z)]; exact h1,by rw[upd_ne (ne_of h2 e fun z=>nomatch z)]; exact h2⟩
def Wk.de (W:Wk) (s:Int):List Tri:=(W.dr s).map fun p=>(p.1,-1,p.2)
theorem Wk.drs_mem {W:Wk} {s:Int} {t:Tri} (h:t ∈ W.drs s):t ∈ W.fe∧t.1=s:=by
 unfold Wk.drs at h
 obtain⟨i,_,hi⟩:=qU.mp h
 obtain⟨h1,h2⟩:=z6.mp hi
 rw[jR] at h2
 exact⟨h1,by simpa using h2.1⟩
inductive spDE (Pd:Addr) (vs:List V) (H:Hp) (Q:VK) (x_3:XK):Prop where
 | mk (w:Addr) (W:Wk) (s:Int) (h_0:vs=[.ref w,.int s]) (h_1:WkAt H w W) (h_2:W.Ok) (h_3:DoorT Pd H) (h_4:∀(p:Addr) (rs:List V) (H':Hp),H p=none→H' p=some (.lst rs)→Paired (IsTri H') rs (W.de s)→SmD Pd H H'→DoorT Pd H'→rs.length≤60→Q (.ref p) H'):spDE Pd vs H Q x_3
section
variable {P:Program} {w:World} {K:PySem.W.Frag} {mg:Str→Option Value} {base:Heap}
theorem sc_de:FnScope ["works","station"] ["works","station"] (defScope (top 4)):=⟨rfl,rfl,rfl,by decide +kernel,rfl,by decide +kernel,by decide +kernel⟩
theorem ok_de {f Pd:Addr} {fd:FuncData} {tkD:Tok} (F:Fun K "door_events" "door_events" (top 4) f fd) (g_DOOR:mg "DOOR"=some (.int (-1) tkD)) (lu:FnAt P w K mg base 1 "door" ["works","station"] (spDoor Pd)):FnOk P w K mg base CX0 2 f fd ["works","station"] (spDE Pd):=by
 have nd:=sc_de.nd
 refine F.ok sc_de (fun vs H Q E h=>?_) (fun cdv A outer s H vs Q E hr h=>?_)
 ·obtain⟨w,W,z,rfl,_⟩:=h
  rfl
 ·obtain⟨w,W,z,rfl,hw,ok,hT,q⟩:=h
  refine⟨_,(@pss_one _ _ _ (@ps_ret _ _ _ _ (pe_comp (own:=["fed"]) (fr:=[]) (js:=[]) (by and_intros) (pi_listK (K:=K) rfl (pe_fn lu (hr.mono (by decide)) (by rfl) (@pa_cons _ _ _ _ _ (pv 0) (@pa_cons _ _ _ _ _ (pv 1) pa_nil (by rfl)) (by rfl)))) (fun _ _ _ _=>(pg_name (i:=0) (show List.Nodup (["fed"]:List Str) from by decide +kernel) rfl (by nofun))) (fun _ _ _ _=>pts_nil) (fun _ _ _ _=>(@pe_tup _ _ _ _ _ (@pa_cons _ _ _ _ _ (@pe_ix _ _ _ _ _ _ _ (ix_tupK (K:=K) rfl) (pv 0) pe_int (fun _ _=>rfl)) (@pa_cons _ _ _ _ _ (pe_glob (v:=.int (-1)) (by rfl) (by exact g_DOOR) ⟨_,rfl⟩) (@pa_cons _ _ _ _ _ (@pe_ix _ _ _ _ _ _ _ (ix_tupK (K:=K) rfl) (pv 0) pe_int (fun _ _=>rfl)) pa_nil (by rfl)) (by rfl)) (by rfl))))))),?_⟩
  refine⟨_,rfl,_,rfl,w,W,z,rfl,hw,ok,hT,fun p rs H1 np hp pr sm hT1 l60=>⟨p,rfl,⟨_,SqL.of hp⟩,fun D nD=>?_⟩⟩
  have l1:=pr.length
  refine comp_list (a:=p) (xs:=rs) (fun i H5=>Same H1 H5∧∃ xs':List V,H5 D=some (.lst xs')∧Paired (IsTri H5) xs' (((W.dr z).take i).map fun p=>(p.1,-1,p.2))) ⟨Same.new nD,[],upd_same,.nil⟩ (fun i H5 _ p=>SqL.of (p.1 _ _ hp)) ?_ ?_
  ·rintro i x H5 m Wf hx ⟨s5,xs',h5,p5⟩ nx
   obtain⟨t,ht,a0,rfl,ha⟩:=pr.gt hx
   have hi:=(zD.mp hx).1
   have l5:=p5.length
   rw[zC,zU] at l5
   refine⟨_,rfl,⟨_,_,_,_,rfl,rfl,SqT.of (s5 _ _ ha),(atI_nat (j:=0) rfl),_,rfl,⟨_,_,_,_,rfl,rfl,SqT.of (s5 _ _ ha),(atI_nat (j:=1) rfl),(by show 3≤sizeLine; decide),fun pt np=>?_⟩⟩⟩
   have s6:Same H5 (upd H5 pt (.tup [.int t.1,.int (-1),.int t.2])):=Same.new np
   refine⟨_,s6 _ _ h5,small1000 (by omega),nx _ ⟨(s5.trans s6).upd nD,xs'++[.ref pt],upd_same,?_⟩⟩
   rw[take_1 ht,zJ]
   exact paired_app (pairedMono (fun _ _ h=>(IsTri.same s6 h).keep (s6 _ _ h5)) p5) (.cons (IsTri.keep (s6 _ _ h5) ⟨pt,rfl,upd_same⟩) .nil)
  ·rintro H5 ⟨s5,xs',h5,p5⟩
   rw[l1,zX] at p5
   have l5:=p5.length
   rw[zC,← l1] at l5
   exact q D xs' H5 (sm.free nD) h5 p5 (sm.trans (SmD.of s5)) (hT1.same s5) (by omega)
end
end Oc
namespace Oc
open PySem L2
structure OR where
 x:Addr
 dx:Addr
 sl:Addr
 dl:Addr
 ol:Addr
 rl:Addr
 pl:Addr
 gl:Addr
 srs:List SR
 dels:List Int
 da:List Addr
 ra:List Addr
 ga:List Addr
 dv:List (List V)
 rv:List (List V)
 gv:List (List V)
 pr:List (Option Int)
def pV:Option Int→V
 | none=>.non
 | some n=>.int n
def oFs (sl dl ol rl pl gl:Addr):List (Str × V):=putF "logs" (.ref gl) (putF "promises" (.ref pl) (putF "rows" (.ref rl) (putF "doors" (.ref ol) (putF "delays" (.ref dl) (putF "stations" (.ref sl) [])))))
def OR.flds (o:OR):List (Str × V):=oFs o.sl o.dl o.ol o.rl o.pl o.gl
def srefs (srs:List SR):List V:=srs.map fun r=>V.ref r.x
def Wk.dels (W:Wk):List Int:=W.be.map fun t=>t.2.2
def Wk.prs (W:Wk):List (Option Int):=W.be.map fun t=>some t.2.2
def hdC (C:Addr) (o:OR):List Cell:=[(o.x,.ins C o.dx o.flds),(o.sl,.lst (srefs o.srs)),(o.dl,.lst (o.dels.map V.int)),(o.ol,.lst (o.da.map V.ref)),(o.rl,.lst (o.ra.map V.ref)),(o.pl,.lst (o.pr.map pV)),(o.gl,.lst (o.ga.map V.ref))]
def liC (as:List Addr) (vs:List (List V)):List Cell:=rowsC as (vs.map HO.lst)
def stC (cs:Cs) (srs:List SR):List Cell:=srs.flatMap (srC cs)
def ownCs (cs:Cs) (C:Addr) (o:OR):List (List Cell):=[hdC C o,liC o.da o.dv,liC o.ra o.rv,liC o.ga o.gv,stC cs o.srs]
theorem lk_no {x y:Str} {v:V} {fs:List (Str × V)} (h:¬ y=x):(putF x v fs).lookup y=fs.lookup y:=by rw[lookup_putF,if_neg h]
section
variable {sl dl ol rl pl gl:Addr}
theorem f_logs:(oFs sl dl ol rl pl gl).lookup ("logs":Str)=some (.ref gl):=by unfold oFs; rw[lookup_putF,if_pos rfl]
theorem f_prom:(oFs sl dl ol rl pl gl).lookup ("promises":Str)=some (.ref pl):=by unfold oFs; rw[lk_no (by decide +kernel),lookup_putF,if_pos rfl]
theorem f_rows:(oFs sl dl ol rl pl gl).lookup ("rows":Str)=some (.ref rl):=by unfold oFs; rw[lk_no (by decide +kernel),lk_no (by decide +kernel),lookup_putF,if_pos rfl]
theorem oB:(oFs sl dl ol rl pl gl).lookup ("doors":Str)=some (.ref ol):=by unfold oFs; rw[lk_no (by decide +kernel),lk_no (by decide +kernel),lk_no (by decide +kernel),lookup_putF,if_pos rfl]
theorem f_dels:(oFs sl dl ol rl pl gl).lookup ("delays":Str)=some (.ref dl):=by unfold oFs; rw[lk_no (by decide +kernel),lk_no (by decide +kernel),lk_no (by decide +kernel),lk_no (by decide +kernel),lookup_putF,if_pos rfl]
theorem f_stas:(oFs sl dl ol rl pl gl).lookup ("stations":Str)=some (.ref sl):=by unfold oFs; rw[lk_no (by decide +kernel),lk_no (by decide +kernel),lk_no (by decide +kernel),lk_no (by decide +kernel),lk_no (by decide +kernel),lookup_putF,if_pos rfl]
theorem f_meth {x:Str} (h1:¬ x="logs") (h2:¬ x="promises") (h3:¬ x="rows") (h4:¬ x="doors") (h5:¬ x="delays") (h6:¬ x="stations"):(oFs sl dl ol rl pl gl).lookup x=none:=by
 unfold oFs; rw[lk_no h1,lk_no h2,lk_no h3,lk_no h4,lk_no h5,lk_no h6]; rfl
end
theorem f_m {sl dl ol rl pl gl:Addr} {x:Str} (h:¬ x="logs"∧¬ x="promises"∧¬ x="rows"∧¬ x="doors"∧¬ x="delays"∧¬ x="stations"):(oFs sl dl ol rl pl gl).lookup x=none:=f_meth h.1 h.2.1 h.2.2.1 h.2.2.2.1 h.2.2.2.2.1 h.2.2.2.2.2
structure OwC (K:PySem.W.Frag) (C:Addr):Prop where
 cl:Cls K C
 n1:NoAttr K C "stations"
 n2:NoAttr K C "delays"
 n3:NoAttr K C "doors"
 n4:NoAttr K C "rows"
 n5:NoAttr K C "promises"
 n6:NoAttr K C "logs"
structure Evs (H:Hp) (o:OR) (de re ge:List (List Tri)):Prop where
 d:Paired (fun us ts=>Paired (IsTri H) us ts) o.dv de
 r:Paired (fun us ts=>Paired (IsTri H) us ts) o.rv re
 g:Paired (fun us ts=>Paired (IsTri H) us ts) o.gv ge
structure OOk (o:OR):Prop where
 ld:o.da.length=o.srs.length
 ldv:o.dv.length=o.srs.length
 lr:o.ra.length=o.dels.length
 lrv:o.rv.length=o.dels.length
 lp:o.pr.length=o.dels.length
 lg:o.ga.length=o.srs.length
 lgv:o.gv.length=o.srs.length
 s8:o.srs.length≤8
 b12:o.dels.length≤12
 ways:∀ r ∈ o.srs,∀ w ∈ r.ws,w=-1∨(0≤w∧w < o.dels.length)
 belts:∀ r ∈ o.srs,∀ b ∈ r.bs,0≤b∧b < o.dels.length
structure ONew (W:Wk) (o:OR):Prop where
 ok:OOk o
 srs:∀ j r,o.srs[j]?=some r→Made W j r
 ns:o.srs.length=W.st.length
 dels:o.dels=W.dels
 pr:o.pr=W.prs
def Wk.des (W:Wk):List (List Tri):=(List.range W.st.length).map fun(s:Nat)=>W.de (s:Int)
inductive spOwI (K:PySem.W.Frag) (cs:Cs) (C Pd:Addr) (vs:List V) (H:Hp) (Q:VK) (x_3:XK):Prop where
 | mk (p w dx:Addr) (W:Wk) (M:List (List Cell)) (h_0:vs=[.ref p,.ref w]) (h_1:Hc H ([(p,.ins C dx [])]::M)) (h_2:NoT M) (h_3:WkAt H w W) (h_4:W.Ok) (h_5:DoorT Pd H) (h_6:∀(o:OR) (H':Hp),o.x=p→Hc H' (ownCs cs C o++M)→Kp Pd p H H'→DoorT Pd H'→ONew W o→Evs H' o W.des (W.be.map fun _=>[]) (W.st.map fun _=>[])→Q .non H'):spOwI K cs C Pd vs H Q x_3
theorem idx_lt {α:Type} (f:α→Bool):∀(l:List α) (k:Nat) (x:Int),x ∈ idx f k l→x < (k + l.length:Nat)
 | [],_,_,h=>absurd h zK
 | y::l,k,x,h=>by
  unfold idx at h
  have e:(y::l).length=l.length + 1:=rfl
  by_cases hf:f y=true
  ·rw[if_pos hf] at h
   rcases zQ.mp h with e|e
   ·omega
   ·have:=idx_lt f l (k + 1) x e
    omega
  ·rw[if_neg hf] at h
   have:=idx_lt f l (k + 1) x h
   omega
theorem Wk.wy_in {W:Wk} {s w:Int} (h:w ∈ W.wy s):w=-1∨(0≤w∧w < W.be.length):=by
 unfold Wk.wy at h
 rcases yA.mp h with q|q
 ·split at q
  ·exact .inl (zF.mp q)
  ·exact absurd q zK
 ·have a:=idx_ge _ _ _ _ q
  have b:=idx_lt _ _ _ _ q
  exact .inr ⟨by omega,by omega⟩
theorem Wk.lv_in {W:Wk} {s w:Int} (h:w ∈ W.lv s):0≤w∧w < W.be.length:=by
 unfold Wk.lv at h
 have a:=idx_ge _ _ _ _ h
 have b:=idx_lt _ _ _ _ h
 exact⟨by omega,by omega⟩
theorem noT_sr (cs:Cs) (r:SR):∀ x ∈ srC cs r,∀ ps,x.2 ≠ HO.tbl ps:=fun x hx ps=>by
 rcases zQ.mp hx with q|hx
 ·rw[q]; exact fun z=>nomatch z
 rcases zQ.mp hx with q|hx
 ·rw[q]; exact fun z=>nomatch z
 rcases zQ.mp hx with q|hx
 ·rw[q]; exact fun z=>nomatch z
 unfold SR.more at hx
 split at hx
 ·rcases zQ.mp hx with q|hx
  ·rw[q]; exact fun z=>nomatch z
  ·have h2:=(qK hx).2
   obtain⟨v,_,e⟩:=yB.mp h2
   rw[← e]
   exact fun z=>nomatch z
 ·exact absurd hx zK
theorem noT_st (cs:Cs) (srs:List SR):∀ x ∈ stC cs srs,∀ ps,x.2 ≠ HO.tbl ps:=fun x hx=>by
 obtain⟨r,_,h⟩:=qU.mp hx
 exact noT_sr cs r x h
theorem stC_snoc (cs:Cs) (srs:List SR) (r:SR):stC cs (srs++[r])=stC cs srs++srC cs r:=by
 unfold stC
 rw[List.flatMap_append]
 simp
theorem rowsC_snoc {ls:List Addr} {os:List HO} (h:ls.length=os.length) (l:Addr) (o:HO):rowsC (ls++[l]) (os++[o])=rowsC ls os++[(l,o)]:=by
 unfold rowsC
 rw[jT h]
 rfl
theorem liC_snoc {ls:List Addr} {vs:List (List V)} (h:ls.length=vs.length) (l:Addr) (v:List V):liC (ls++[l]) (vs++[v])=liC ls vs++[(l,.lst v)]:=by
 unfold liC
 rw[zJ]
 exact rowsC_snoc (by rw[zC]; exact h) _ _
end Oc
namespace Oc
open PySem L2
theorem getAll_snoc {α:Type} {Pr:Nat→α→Prop} {l:List α} {x:α} (h:∀ j r,l[j]?=some r→Pr j r) (hx:Pr l.length x):∀ j r,(l++[x])[j]?=some r→Pr j r:=fun j r hr=>by
 by_cases hj:j < l.length
 ·rw[yK hj] at hr
  exact h j r hr
 ·rw[zZ (by omega)] at hr
  cases e:j - l.length with
  | zero =>
   rw[e] at hr
   cases hr
   rw[show j=l.length by omega]
   exact hx
  | succ k=>rw[e] at hr; cases hr
theorem put_len {x:Str} {v:V} {fs:List (Str × V)} {n:Nat} (h:fs.length≤n):(putF x v fs).length≤n + 1:=z4 (length_putF x v fs) (by omega)
theorem pairs_keep {H:Hp} {a:Addr} {xs ys:List V} (e:H a=some (.lst xs)) {dv:List (List V)} {de:List (List Tri)} (h:Paired (fun us ts=>Paired (IsTri H) us ts) dv de):Paired (fun us ts=>Paired (IsTri (upd H a (.lst ys))) us ts) dv de :=
 pairedMono (fun _ _ h=>pairedMono (fun _ _ h=>h.keep e) h) h
theorem pairs_sm {Pd:Addr} {H H':Hp} (s:SmD Pd H H') {dv:List (List V)} {de:List (List Tri)} (h:Paired (fun us ts=>Paired (IsTri H) us ts) dv de):Paired (fun us ts=>Paired (IsTri H') us ts) dv de :=
 pairedMono (fun _ _ h=>pairedMono (fun _ _ h=>h.sm s) h) h
theorem pairs_kp {Pd p C dx:Addr} {fs:List (Str × V)} {H H':Hp} (k:Kp Pd p H H') (hp:H p=some (.ins C dx fs)) {dv:List (List V)} {de:List (List Tri)} (h:Paired (fun us ts=>Paired (IsTri H) us ts) dv de):Paired (fun us ts=>Paired (IsTri H') us ts) dv de :=
 pairedMono (fun _ _ h=>pairedMono (fun _ _ h=>let ⟨q,e,r⟩:=h; ⟨q,e,k.tup hp r⟩) h) h
theorem pairs_nil {α β:Type} {F:List α→List β→Prop} (h:F [] []) {γ δ:Type}:∀ {l:List γ} {m:List δ},l.length=m.length→Paired F (l.map fun _=>[]) (m.map fun _=>[])
 | [],[],_=>.nil
 | [],_::_,e=>by cases e
 | _::_,[],e=>by cases e
 | x::l,y::m,e=>.cons h (pairs_nil h (Nat.succ.inj e))
section
variable {P:Program} {w:World} {K:PySem.W.Frag} {mg:Str→Option Value} {base:Heap}
theorem sc_owI:FnScope ["self","works"] ["self","works"] (defScope (inClass (top 16) 0)):=⟨rfl,rfl,rfl,by decide +kernel,rfl,by decide +kernel,by decide +kernel⟩
theorem ok_owI {f C Pd:Addr} {cs:Cs} {fd:FuncData} (F:Fun K "__init__" "Own.__init__" (inClass (top 16) 0) f fd) (T:Txt K mg) (c:OwC K C) (aY:FnAt P w K mg base 4 "station_of" ["works","station"] (spSo cs)) (aR:FnAt P w K mg base 2 "door_events" ["works","station"] (spDE Pd)) :
  FnOk P w K mg base CX0 5 f fd ["self","works"] (spOwI K cs C Pd):=by
 have nd:=sc_owI.nd
 refine F.ok sc_owI (fun vs H Q E h=>?_) (fun cdv A outer s H vs Q E hr h=>?_)
 ·obtain⟨p,w,dx,W,M,rfl,_⟩:=h
  rfl
 ·obtain⟨p,w,dx,W,M,rfl,hc,nT,hw,ok,hT,q⟩:=h
  obtain⟨sa,ba,fa,xs,ys,zs,h1,h2⟩:=id hw.ex
  have ls:=h2.ps.length
  have lb:=h2.pb.length
  have s8:=ok.s8
  have b12:=ok.b12
  have hp:=hc.get 0 0 rfl rfl
  refine⟨_,(@pss_cons _ _ _ _ _ (ps_fld (pv 0) (pe_comp (own:=["station"]) (fr:=["works"]) (js:=[1]) (by and_intros) (pi_range1 rfl T.n_range (@pa_cons _ _ _ _ _ (pe_callB (call_len_seqK (K:=K) rfl) (by rfl) T.n_len bt_len (@pa_cons _ _ _ _ _ (@pe_ix _ _ _ _ _ _ _ (ix_tupK (K:=K) rfl) (pv 1) pe_int (fun _ _=>rfl)) pa_nil (by rfl))) pa_nil (by rfl))) (fun _ _ _ _=>(pg_name (i:=0) (show List.Nodup (["station","works"]:List Str) from by decide +kernel) rfl (by nofun))) (fun _ _ _ _=>pts_nil) (fun _ _ _ _=>(pe_fn aY (hr.mono (by decide)) (by rfl) (@pa_cons _ _ _ _ _ (pv 1) (@pa_cons _ _ _ _ _ (pv 0) pa_nil (by rfl)) (by rfl))))) rfl)
   (@pss_cons _ _ _ _ _ (ps_fld (pv 0) (pe_comp (own:=["belt"]) (fr:=[]) (js:=[]) (by and_intros) (pi_listK (K:=K) rfl (@pe_ix _ _ _ _ _ _ _ (ix_tupK (K:=K) rfl) (pv 1) pe_int (fun _ _=>rfl))) (fun _ _ _ _=>(pg_name (i:=0) (show List.Nodup (["belt"]:List Str) from by decide +kernel) rfl (by nofun))) (fun _ _ _ _=>pts_nil) (fun _ _ _ _=>(@pe_ix _ _ _ _ _ _ _ (ix_tupK (K:=K) rfl) (pv 0) pe_int (fun _ _=>rfl)))) rfl)
   (@pss_cons _ _ _ _ _ (ps_fld (pv 0) (pe_comp (own:=["station"]) (fr:=["works"]) (js:=[1]) (by and_intros) (pi_range1 rfl T.n_range (@pa_cons _ _ _ _ _ (pe_callB (call_len_seqK (K:=K) rfl) (by rfl) T.n_len bt_len (@pa_cons _ _ _ _ _ (@pe_ix _ _ _ _ _ _ _ (ix_tupK (K:=K) rfl) (pv 1) pe_int (fun _ _=>rfl)) pa_nil (by rfl))) pa_nil (by rfl))) (fun _ _ _ _=>(pg_name (i:=0) (show List.Nodup (["station","works"]:List Str) from by decide +kernel) rfl (by nofun))) (fun _ _ _ _=>pts_nil) (fun _ _ _ _=>(pe_fn aR (hr.mono (by decide)) (by rfl) (@pa_cons _ _ _ _ _ (pv 1) (@pa_cons _ _ _ _ _ (pv 0) pa_nil (by rfl)) (by rfl))))) rfl)
   (@pss_cons _ _ _ _ _ (ps_fld (pv 0) (pe_comp (own:=["belt"]) (fr:=[]) (js:=[]) (by and_intros) (pi_listK (K:=K) rfl (@pe_ix _ _ _ _ _ _ _ (ix_tupK (K:=K) rfl) (pv 1) pe_int (fun _ _=>rfl))) (fun _ _ _ _=>(pg_name (i:=0) (show List.Nodup (["belt"]:List Str) from by decide +kernel) rfl (by nofun))) (fun _ _ _ _=>pts_nil) (fun _ _ _ _=>(@pe_lst _ _ _ _ pa_nil))) rfl)
   (@pss_cons _ _ _ _ _ (ps_fld (pv 0) (pe_comp (own:=["belt"]) (fr:=[]) (js:=[]) (by and_intros) (pi_listK (K:=K) rfl (@pe_ix _ _ _ _ _ _ _ (ix_tupK (K:=K) rfl) (pv 1) pe_int (fun _ _=>rfl))) (fun _ _ _ _=>(pg_name (i:=0) (show List.Nodup (["belt"]:List Str) from by decide +kernel) rfl (by nofun))) (fun _ _ _ _=>pts_nil) (fun _ _ _ _=>(@pe_ix _ _ _ _ _ _ _ (ix_tupK (K:=K) rfl) (pv 0) pe_int (fun _ _=>rfl)))) rfl)
   (@pss_one _ _ _ (ps_fld (pv 0) (pe_comp (own:=["station"]) (fr:=[]) (js:=[]) (by and_intros) (pi_listK (K:=K) rfl (@pe_ix _ _ _ _ _ _ _ (ix_tupK (K:=K) rfl) (pv 1) pe_int (fun _ _=>rfl))) (fun _ _ _ _=>(pg_name (i:=0) (show List.Nodup (["station"]:List Str) from by decide +kernel) rfl (by nofun))) (fun _ _ _ _=>pts_nil) (fun _ _ _ _=>(@pe_lst _ _ _ _ pa_nil))) rfl))))))),?_⟩
  refine⟨_,rfl,⟨_,_,_,_,rfl,rfl,SqT.of h1,(atI_nat (j:=0) rfl),sa,xs,rfl,.inl (SqL.of h2.hs),_,rfl,by rw[p62]; omega,by rw[p62]; omega,fun D nD=>?_⟩⟩
  refine comp_range (lo:=0) (n:=(xs.length:Int).toNat) (fun i H4=>∃ srs:List SR,Same H H4∧Hc H4 ([(D,.lst (srefs srs))]::stC cs srs::[(p,.ins C dx [])]::M)∧srs.length=i∧∀ j r,srs[j]?=some r→Made W j r) ⟨[],Same.new nD,(hc.new nD (.lst [])).pad.swap,rfl,fun j r h=>by cases h⟩ ?_ ?_
  ·rintro i H4 m Wf hi ⟨srs,s4,hc4,l4,mk4⟩ nx
   rw[qD]
   refine⟨_,rfl,_,rfl,w,W,i,_,rfl,hw.same s4,ok,by omega,hc4,fun r H5 s5 hc5 mk=>?_⟩
   have g5:=hc5.get 1 0 rfl rfl
   refine⟨_,g5,small1000 (by unfold srefs; rw[zC]; omega),nx _ ⟨srs++[r],(s4.trans s5).upd nD,?_,by rw[zN,l4]; rfl,getAll_snoc mk4 (by rw[l4]; exact mk)⟩⟩
   have:=hc5.put 1 0 rfl rfl (.lst (srefs srs++[.ref r.x]))
   rw[show srefs (srs++[r])=srefs srs++[.ref r.x] from zJ,stC_snoc]
   exact(Hc.join (this.pick 2 rfl)).swap
  ·rintro H4 ⟨srs,s4,hc4,l4,mk4⟩
   refine⟨_,rfl,p,C,dx,[],rfl,hc4.get 2 0 rfl rfl,c.cl,c.n1,(by show 0 < 1000; decide),?_⟩
   have hcA:=hc4.put 2 0 rfl rfl (.ins C dx (putF "stations" (.ref D) []))
   have kA:Kp Pd p H (upd H4 p (.ins C dx (putF "stations" (.ref D) []))):=(Kp.sm (SmD.of s4)).trans Kp.put
   have hTA:DoorT Pd (upd H4 p (.ins C dx (putF "stations" (.ref D) []))):=(hT.same s4).updI (hc4.get 2 0 rfl rfl)
   have hlA:(putF "stations" (.ref D) []).length≤1:=put_len (zH 0)
   generalize hfA:(putF "stations" (.ref D) []:List (Str × V))=fA at hcA kA hTA hlA ⊢
   generalize (upd H4 p (.ins C dx fA))=HA at hcA kA hTA ⊢
   have hpA:=hcA.get 2 0 rfl rfl
   have h1A:=kA.tup hp h1
   have hbA:=kA.lst hp h2.hb
   refine⟨_,rfl,⟨_,_,_,_,rfl,rfl,SqT.of h1A,(atI_nat (j:=1) rfl),ba,rfl,⟨_,SqL.of hbA⟩,fun D2 nD2=>?_⟩⟩
   refine comp_list (a:=ba) (xs:=ys) (fun i H5=>Same HA H5∧H5 D2=some (.lst (((W.be.take i).map fun t=>t.2.2).map V.int))) ⟨Same.new nD2,upd_same⟩ (fun i H5 _ p=>SqL.of (p.1 _ _ hbA)) ?_ ?_
   ·rintro i x H5 m Wf hx ⟨s5,g5⟩ nx
    obtain⟨t,ht,a0,rfl,ha⟩:=h2.pb.gt hx
    refine⟨_,rfl,⟨_,_,_,_,rfl,rfl,SqT.of (s5 _ _ (kA.tup hp ha)),(atI_nat (j:=2) rfl),_,g5,small1000 (by rw[zC,zC,zU]; omega),nx _ ⟨s5.upd nD2,?_⟩⟩⟩
    rw[upd_same,take_1 ht,zJ,zJ]
    rfl
   ·rintro H5 ⟨s5,g5⟩
    rw[lb,zX] at g5
    replace g5:H5 D2=some (.lst (W.dels.map V.int)):=g5
    have hc5:=hcA.newS nD2 g5 s5
    refine⟨_,rfl,p,C,dx,fA,rfl,s5 _ _ hpA,c.cl,c.n2,(by omega),?_⟩
    have hcB:=hc5.put 3 0 rfl rfl (.ins C dx (putF "delays" (.ref D2) fA))
    have kB:Kp Pd p H (upd H5 p (.ins C dx (putF "delays" (.ref D2) fA))):=kA.trans ((Kp.sm (SmD.of s5)).trans Kp.put)
    have hTB:DoorT Pd (upd H5 p (.ins C dx (putF "delays" (.ref D2) fA))):=(hTA.same s5).updI (s5 _ _ hpA)
    have hlB:(putF "delays" (.ref D2) fA).length≤2:=put_len hlA
    generalize hfB:(putF "delays" (.ref D2) fA:List (Str × V))=fB at hcB kB hTB hlB ⊢
    generalize (upd H5 p (.ins C dx fB))=HB at hcB kB hTB ⊢
    have hpB:=hcB.get 3 0 rfl rfl
    have h1B:=kB.tup hp h1
    have nTB:NoT ([(D2,.lst (W.dels.map V.int))]::[(D,.lst (srefs srs))]::stC cs srs::[(p,.ins C dx fB)]::M):=((NoT.one (a:=p) (o:=.ins C dx fB) (fun _ z=>nomatch z) nT).cons (noT_st cs srs)).lst.lst
    refine⟨_,rfl,⟨_,_,_,_,rfl,rfl,SqT.of h1B,(atI_nat (j:=0) rfl),sa,xs,rfl,.inl (SqL.of (kB.lst hp h2.hs)),_,rfl,by rw[p62]; omega,by rw[p62]; omega,fun D3 nD3=>?_⟩⟩
    refine comp_range (lo:=0) (n:=(xs.length:Int).toNat) (fun i H6=>∃(da:List Addr) (dv:List (List V)),SmD Pd HB H6∧Hc H6 ([(D3,.lst (da.map V.ref))]::liC da dv::[(D2,.lst (W.dels.map V.int))]::[(D,.lst (srefs srs))]::stC cs srs::[(p,.ins C dx fB)]::M)∧da.length=i∧dv.length=i ∧
     Paired (fun us ts=>Paired (IsTri H6) us ts) dv ((List.range i).map fun(s:Nat)=>W.de (s:Int))∧DoorT Pd H6) ⟨[],[],SmD.of (Same.new nD3),(hcB.new nD3 (.lst [])).pad.swap,rfl,rfl,.nil,hTB.same (Same.new nD3)⟩ ?_ ?_
    ·rintro i H6 m Wf hi ⟨da,dv,s6,hc6,la,lv,pr,hT6⟩ nx
     rw[qD]
     refine⟨_,rfl,_,rfl,w,W,i,rfl,((hw.kp kB hp).sm s6),ok,hT6,fun pn rs H7 npn hpn prn sm7 hT7 l60=>?_⟩
     have nT6:NoT ([(D3,.lst (da.map V.ref))]::liC da dv::[(D2,.lst (W.dels.map V.int))]::[(D,.lst (srefs srs))]::stC cs srs::[(p,.ins C dx fB)]::M):=(nTB.cons noT_rows).lst
     have hc7:=hc6.newM nT6 npn hpn sm7
     have g7:=hc7.get 1 0 rfl rfl
     refine⟨_,g7,small1000 (by rw[zC]; omega),nx _ ⟨da++[pn],dv++[rs],(s6.trans sm7).upd nD3,?_,by rw[zN,la]; rfl,by rw[zN,lv]; rfl,?_,hT7.updL g7⟩⟩
     ·have:=hc7.put 1 0 rfl rfl (.lst (da.map V.ref++[.ref pn]))
      rw[zJ,liC_snoc (by omega)]
      exact(Hc.join (this.pick 2 rfl)).swap
     ·rw[jA,zJ]
      exact paired_app (pairs_keep g7 (pairs_sm sm7 pr)) (.cons (pairedMono (fun _ _ h=>h.keep g7) prn) .nil)
    ·rintro H6 ⟨da,dv,s6,hc6,la,lv,pr,hT6⟩
     have hp6:=hc6.get 5 0 rfl rfl
     refine⟨_,rfl,p,C,dx,fB,rfl,hp6,c.cl,c.n3,(by omega),?_⟩
     have hcC:=hc6.put 5 0 rfl rfl (.ins C dx (putF "doors" (.ref D3) fB))
     have kC:Kp Pd p H (upd H6 p (.ins C dx (putF "doors" (.ref D3) fB))):=kB.trans ((Kp.sm s6).trans Kp.put)
     have hTC:DoorT Pd (upd H6 p (.ins C dx (putF "doors" (.ref D3) fB))):=hT6.updI hp6
     have hlC:(putF "doors" (.ref D3) fB).length≤3:=put_len hlB
     have prC:=pairs_kp (Kp.put (Pd:=Pd) (o:=.ins C dx (putF "doors" (.ref D3) fB))) hp6 pr
     generalize hfC:(putF "doors" (.ref D3) fB:List (Str × V))=fC at hcC kC hTC hlC prC ⊢
     generalize (upd H6 p (.ins C dx fC))=HC at hcC kC hTC prC ⊢
     have hpC:=hcC.get 5 0 rfl rfl
     have hbC:=kC.lst hp h2.hb
     refine⟨_,rfl,⟨_,_,_,_,rfl,rfl,SqT.of (kC.tup hp h1),(atI_nat (j:=1) rfl),ba,rfl,⟨_,SqL.of hbC⟩,fun D4 nD4=>?_⟩⟩
     refine comp_list (a:=ba) (xs:=ys) (fun i H7=>∃ ra:List Addr,Same HC H7∧Hc H7 ([(D4,.lst (ra.map V.ref))]::liC ra (ra.map fun _=>[])::[(D3,.lst (da.map V.ref))]::liC da dv::[(D2,.lst (W.dels.map V.int))]::[(D,.lst (srefs srs))]::stC cs srs::[(p,.ins C dx fC)]::M)∧ra.length=i)
      ⟨[],Same.new nD4,(hcC.new nD4 (.lst [])).pad.swap,rfl⟩ (fun i H7 _ ⟨_,s7,_⟩=>SqL.of (s7 _ _ hbC)) ?_ ?_
     ·rintro i x H7 m Wf hx ⟨ra,s7,hc7,l7⟩ nx
      have hi:=(zD.mp hx).1
      refine⟨zW _,fun pn npn=>?_⟩
      have hc8:=hc7.new npn (.lst [])
      have g8:=hc8.get 1 0 rfl rfl
      refine⟨_,g8,small1000 (by rw[zC]; omega),nx _ ⟨ra++[pn],(s7.trans (Same.new npn)).upd nD4,?_,by rw[zN,l7]; rfl⟩⟩
      have:=hc8.put 1 0 rfl rfl (.lst (ra.map V.ref++[.ref pn]))
      rw[zJ,zJ]
      have e:=liC_snoc (ls:=ra) (vs:=ra.map fun _=>[]) (by rw[zC]) pn []
      show Hc _ (_::liC (ra++[pn]) ((ra.map fun _=>[])++[[]])::_)
      rw[e]
      exact(Hc.join (this.pick 2 rfl)).swap
     ·rintro H7 ⟨ra,s7,hc7,l7⟩
      have hp7:=s7 _ _ hpC
      refine⟨_,rfl,p,C,dx,fC,rfl,hp7,c.cl,c.n4,(by omega),?_⟩
      have hcD:=hc7.put 7 0 rfl rfl (.ins C dx (putF "rows" (.ref D4) fC))
      have kD:Kp Pd p H (upd H7 p (.ins C dx (putF "rows" (.ref D4) fC))):=kC.trans ((Kp.sm (SmD.of s7)).trans Kp.put)
      have hTD:DoorT Pd (upd H7 p (.ins C dx (putF "rows" (.ref D4) fC))):=(hTC.same s7).updI hp7
      have hlD:(putF "rows" (.ref D4) fC).length≤4:=put_len hlC
      have prD:=pairs_kp ((Kp.sm (SmD.of s7)).trans (Kp.put (Pd:=Pd) (o:=.ins C dx (putF "rows" (.ref D4) fC)))) hpC prC
      generalize hfD:(putF "rows" (.ref D4) fC:List (Str × V))=fD at hcD kD hTD hlD prD ⊢
      generalize (upd H7 p (.ins C dx fD))=HD at hcD kD hTD prD ⊢
      have hpD:=hcD.get 7 0 rfl rfl
      have hbD:=kD.lst hp h2.hb
      refine⟨_,rfl,⟨_,_,_,_,rfl,rfl,SqT.of (kD.tup hp h1),(atI_nat (j:=1) rfl),ba,rfl,⟨_,SqL.of hbD⟩,fun D5 nD5=>?_⟩⟩
      refine comp_list (a:=ba) (xs:=ys) (fun i H8=>Same HD H8∧H8 D5=some (.lst (((W.be.take i).map fun t=>some t.2.2).map pV))) ⟨Same.new nD5,upd_same⟩ (fun i H8 _ p=>SqL.of (p.1 _ _ hbD)) ?_ ?_
      ·rintro i x H8 m Wf hx ⟨s8',g8⟩ nx
       obtain⟨t,ht,a0,rfl,ha⟩:=h2.pb.gt hx
       refine⟨_,rfl,⟨_,_,_,_,rfl,rfl,SqT.of (s8' _ _ (kD.tup hp ha)),(atI_nat (j:=2) rfl),_,g8,small1000 (by rw[zC,zC,zU]; omega),nx _ ⟨s8'.upd nD5,?_⟩⟩⟩
       rw[upd_same,take_1 ht,zJ,zJ]
       rfl
      ·rintro H8 ⟨s8',g8⟩
       rw[lb,zX] at g8
       replace g8:H8 D5=some (.lst (W.prs.map pV)):=g8
       have hc8:=hcD.newS nD5 g8 s8'
       have hp8:=s8' _ _ hpD
       refine⟨_,rfl,p,C,dx,fD,rfl,hp8,c.cl,c.n5,(by omega),?_⟩
       have hcE:=hc8.put 8 0 rfl rfl (.ins C dx (putF "promises" (.ref D5) fD))
       have kE:Kp Pd p H (upd H8 p (.ins C dx (putF "promises" (.ref D5) fD))):=kD.trans ((Kp.sm (SmD.of s8')).trans Kp.put)
       have hTE:DoorT Pd (upd H8 p (.ins C dx (putF "promises" (.ref D5) fD))):=(hTD.same s8').updI hp8
       have hlE:(putF "promises" (.ref D5) fD).length≤5:=put_len hlD
       have prE:=pairs_kp ((Kp.sm (SmD.of s8')).trans (Kp.put (Pd:=Pd) (o:=.ins C dx (putF "promises" (.ref D5) fD)))) hpD prD
       generalize hfE:(putF "promises" (.ref D5) fD:List (Str × V))=fE at hcE kE hTE hlE prE ⊢
       generalize (upd H8 p (.ins C dx fE))=HE at hcE kE hTE prE ⊢
       have hpE:=hcE.get 8 0 rfl rfl
       have hsE:=kE.lst hp h2.hs
       refine⟨_,rfl,⟨_,_,_,_,rfl,rfl,SqT.of (kE.tup hp h1),(atI_nat (j:=0) rfl),sa,rfl,⟨_,SqL.of hsE⟩,fun D6 nD6=>?_⟩⟩
       refine comp_list (a:=sa) (xs:=xs) (fun i H9=>∃ ga:List Addr,Same HE H9∧Hc H9 ([(D6,.lst (ga.map V.ref))]::liC ga (ga.map fun _=>[])::[(D5,.lst (W.prs.map pV))]::[(D4,.lst (ra.map V.ref))]::liC ra (ra.map fun _=>[])::[(D3,.lst (da.map V.ref))]::liC da dv::[(D2,.lst (W.dels.map V.int))]::[(D,.lst (srefs srs))]::stC cs srs::[(p,.ins C dx fE)]::M)∧ga.length=i)
        ⟨[],Same.new nD6,(hcE.new nD6 (.lst [])).pad.swap,rfl⟩ (fun i H9 _ ⟨_,s9,_⟩=>SqL.of (s9 _ _ hsE)) ?_ ?_
       ·rintro i x H9 m Wf hx ⟨ga,s9,hc9,l9⟩ nx
        have hi:=(zD.mp hx).1
        refine⟨zW _,fun pn npn=>?_⟩
        have hc10:=hc9.new npn (.lst [])
        have g10:=hc10.get 1 0 rfl rfl
        refine⟨_,g10,small1000 (by rw[zC]; omega),nx _ ⟨ga++[pn],(s9.trans (Same.new npn)).upd nD6,?_,by rw[zN,l9]; rfl⟩⟩
        have:=hc10.put 1 0 rfl rfl (.lst (ga.map V.ref++[.ref pn]))
        rw[zJ,zJ]
        have e:=liC_snoc (ls:=ga) (vs:=ga.map fun _=>[]) (by rw[zC]) pn []
        show Hc _ (_::liC (ga++[pn]) ((ga.map fun _=>[])++[[]])::_)
        rw[e]
        exact(Hc.join (this.pick 2 rfl)).swap
       ·rintro H9 ⟨ga,s9,hc9,l9⟩
        have hp9:=s9 _ _ hpE
        refine⟨_,rfl,p,C,dx,fE,rfl,hp9,c.cl,c.n6,(by omega),?_⟩
        have hcF:=hc9.put 10 0 rfl rfl (.ins C dx (putF "logs" (.ref D6) fE))
        have kF:Kp Pd p H (upd H9 p (.ins C dx (putF "logs" (.ref D6) fE))):=kE.trans ((Kp.sm (SmD.of s9)).trans Kp.put)
        have hTF:DoorT Pd (upd H9 p (.ins C dx (putF "logs" (.ref D6) fE))):=(hTE.same s9).updI hp9
        have prF:=pairs_kp ((Kp.sm (SmD.of s9)).trans (Kp.put (Pd:=Pd) (o:=.ins C dx (putF "logs" (.ref D6) fE)))) hpE prE
        have hcG:=((((((((((hcF.pick 9 rfl).pick 2 rfl).pick 5 rfl).pick 7 rfl).pick 4 rfl).pick 5 rfl).pick 6 rfl).pick 7 rfl).pick 8 rfl).pick 9 rfl).pick 10 rfl
        have hcI:=((((((hcG.join).join).join).join).join).join)
        have lbl:W.dels.length=W.be.length:=zC _
        have lsr:srs.length=W.st.length:=by omega
        refine q ⟨p,dx,D,D2,D3,D4,D5,D6,srs,W.dels,da,ra,ga,dv,ra.map fun _=>[],ga.map fun _=>[],W.prs⟩ _ rfl ?_ kF hTF ⟨⟨?_,?_,?_,?_,?_,?_,?_,?_,?_,?_,?_⟩,mk4,?_,rfl,rfl⟩ ⟨?_,?_,?_⟩
        ·subst hfE hfD hfC hfB hfA
         exact hcI
        ·show da.length=srs.length; omega
        ·show dv.length=srs.length; omega
        ·show ra.length=W.dels.length; omega
        ·show(ra.map fun _=>([]:List V)).length=W.dels.length; rw[zC]; omega
        ·show W.prs.length=W.dels.length; unfold Wk.prs; rw[zC]; omega
        ·show ga.length=srs.length; omega
        ·show(ga.map fun _=>([]:List V)).length=srs.length; rw[zC]; omega
        ·show srs.length≤8; omega
        ·show W.dels.length≤12; omega
        ·intro r hr wv hwv
         obtain⟨j,hj⟩:=yR hr
         have mj:=mk4 j r hj
         rw[mj.ws] at hwv
         show _∨(_∧wv < (W.dels.length:Int))
         rw[lbl]
         exact Wk.wy_in hwv
        ·intro r hr wv hwv
         obtain⟨j,hj⟩:=yR hr
         have mj:=mk4 j r hj
         rw[mj.bs] at hwv
         show _∧wv < (W.dels.length:Int)
         rw[lbl]
         exact Wk.lv_in hwv
        ·show srs.length=W.st.length; omega
        ·show Paired _ dv W.des
         have e:((xs.length:Nat):Int).toNat=W.st.length:=by omega
         rw[e] at prF
         exact prF
        ·exact pairs_nil .nil (by omega)
        ·exact pairs_nil .nil (by omega)
end
end Oc
namespace Oc
open PySem L2
theorem SR.flds_ways (r:SR):r.flds.lookup ("ways":Str)=some (.ref r.p1):=by
 unfold SR.flds
 cases r.k with
 | relay n=>show(fR r.p1 r.p2 n).lookup ("ways":Str)=_; unfold fR; rw[lk_no (by decide +kernel)]; exact cX _ _
 | sorter=>exact cX _ _
 | thinner n=>show(fT r.p1 r.p2 n r.seen).lookup ("ways":Str)=_; unfold fT; rw[lk_no (by decide +kernel),lk_no (by decide +kernel)]; exact cX _ _
 | joiner=>exact iq _ _ _
 | sink=>exact cX _ _
theorem SR.flds_belts (r:SR):r.flds.lookup ("belts":Str)=some (.ref r.p2):=by
 unfold SR.flds
 cases r.k with
 | relay n=>exact fR_belts _ _ _
 | sorter=>exact fS_belts _ _
 | thinner n=>exact fT_belts _ _ _ _
 | joiner=>exact fJ_belts _ _ _
 | sink=>exact fS_belts _ _
theorem CsOk.st {K:PySem.W.Frag} {cs:Cs} (c:CsOk K cs):∀ k:Kd,StC K (cs.of k)
 | .relay _=>c.rl.st
 | .sorter=>c.so
 | .thinner _=>c.th.st
 | .joiner=>c.jn.st
 | .sink=>c.si
section
variable {H:Hp} {cs:Cs} {C:Addr} {o:OR} {M:List (List Cell)} {s:Nat} {us:List V}
theorem st_cell {r:SR} (hc:Hc H (ownCs cs C o++M)) (hr:o.srs[s]?=some r):∀ c ∈ srC cs r,H c.1=some c.2:=fun c h =>
 hc.2 c (List.mem_flatten.mpr ⟨stC cs o.srs,zG (i:=4) rfl,qU.mpr ⟨r,zG hr,h⟩⟩)
theorem st_x {r:SR} (hc:Hc H (ownCs cs C o++M)) (hr:o.srs[s]?=some r):H r.x=some (.ins (cs.of r.k) r.dx r.flds):=st_cell hc hr _ zL
theorem st_p1 {r:SR} (hc:Hc H (ownCs cs C o++M)) (hr:o.srs[s]?=some r):H r.p1=some (.tup (r.ws.map V.int)):=st_cell hc hr (r.p1,.tup (r.ws.map V.int)) (.tail _ (.head _))
theorem st_p2 {r:SR} (hc:Hc H (ownCs cs C o++M)) (hr:o.srs[s]?=some r):H r.p2=some (.tup (r.bs.map V.int)):=st_cell hc hr (r.p2,.tup (r.bs.map V.int)) (.tail _ (.tail _ (.head _)))
theorem srefs_at {srs:List SR} {r:SR} (h:srs[s]?=some r):(srefs srs)[s]?=some (.ref r.x):=by unfold srefs; rw[zE,h]; rfl
theorem get_like {α β:Type} {l:List α} {m:List β} (e:l.length=m.length) {i:Nat} {x:α} (h:l[i]?=some x):∃ y,m[i]?=some y:=by
 have:=(zD.mp h).1
 exact⟨m[i]'(by omega),zB _⟩
theorem li_cell {as:List Addr} {vs:List (List V)} {a:Addr} (h1:as[s]?=some a) (h2:vs[s]?=some us):(liC as vs)[s]?=some (a,.lst us):=rowsC_get h1 (by rw[zE,h2]; rfl)
theorem refs_at {as:List Addr} {a:Addr} (h:as[s]?=some a):(as.map V.ref)[s]?=some (.ref a):=by rw[zE,h]; rfl
theorem OOk.log (ok:OOk o) (hc:Hc H (ownCs cs C o++M)) (h:o.gv[s]?=some us):∃ a,o.ga[s]?=some a∧H a=some (.lst us):=by
 obtain⟨a,ha⟩:=get_like (ok.lgv.trans ok.lg.symm) h
 exact⟨a,ha,hc.get 3 s rfl (li_cell ha h)⟩
theorem OOk.belt (ok:OOk o) (hc:Hc H (ownCs cs C o++M)) (h:o.rv[s]?=some us):∃ a,o.ra[s]?=some a∧H a=some (.lst us):=by
 obtain⟨a,ha⟩:=get_like (ok.lrv.trans ok.lr.symm) h
 exact⟨a,ha,hc.get 2 s rfl (li_cell ha h)⟩
theorem OOk.door (ok:OOk o) (hc:Hc H (ownCs cs C o++M)) (h:o.dv[s]?=some us):∃ a,o.da[s]?=some a∧H a=some (.lst us):=by
 obtain⟨a,ha⟩:=get_like (ok.ldv.trans ok.ld.symm) h
 exact⟨a,ha,hc.get 1 s rfl (li_cell ha h)⟩
end
def OR.at (o:OR) (s:Nat) (w:Int):Option (List V):=if w=-1 then o.dv[s]? else o.rv[w.toNat]?
def OR.atA (o:OR) (s:Nat) (w:Int):Option Addr:=if w=-1 then o.da[s]? else o.ra[w.toNat]?
def OR.ear (o:OR) (w:Int):List Tri→Option Int
 | t::_=>some t.1
 | []=>if w=-1 then none else o.pr.getD w.toNat none
def evAt (de re:List (List Tri)) (s:Nat) (w:Int):List Tri:=if w=-1 then de.getD s [] else re.getD w.toNat []
def OR.clk (o:OR) (de re:List (List Tri)) (s:Nat) (r:SR):Option Int:=(r.ws.filterMap fun w=>o.ear w (evAt de re s w)).min?
theorem min_is {ns:List Int} {m:Int} (h1:m ∈ ns) (h2:∀ a ∈ ns,m≤a):ns.min?=some m:=jD.mpr ⟨h1,h2⟩
inductive spTaken (cs:Cs) (C:Addr) (vs:List V) (H:Hp) (Q:VK) (x_3:XK):Prop where
 | mk (o:OR) (M:List (List Cell)) (s:Nat) (us:List V) (h_0:vs=[.ref o.x,.int s]) (h_1:Hc H (ownCs cs C o++M)) (h_2:OOk o) (h_3:o.gv[s]?=some us) (h_4:∀ p,H p=none→Q (.ref p) (upd H p (.lst us))):spTaken cs C vs H Q x_3
inductive spWait (cs:Cs) (C:Addr) (vs:List V) (H:Hp) (Q:VK) (x_3:XK):Prop where
 | mk (o:OR) (M:List (List Cell)) (s:Nat) (us:List V) (h_0:vs=[.ref o.x,.int s]) (h_1:Hc H (ownCs cs C o++M)) (h_2:OOk o) (h_3:o.rv[s]?=some us) (h_4:∀ p,H p=none→Q (.ref p) (upd H p (.lst us))):spWait cs C vs H Q x_3
inductive spProm (cs:Cs) (C:Addr) (vs:List V) (H:Hp) (Q:VK) (x_3:XK):Prop where
 | mk (o:OR) (M:List (List Cell)) (s:Nat) (m:Option Int) (h_0:vs=[.ref o.x,.int s]) (h_1:Hc H (ownCs cs C o++M)) (h_2:OOk o) (h_3:o.pr[s]?=some m) (h_4:Q (pV m) H):spProm cs C vs H Q x_3
inductive spRow (cs:Cs) (C:Addr) (vs:List V) (H:Hp) (Q:VK) (x_3:XK):Prop where
 | mk (o:OR) (M:List (List Cell)) (s:Nat) (w:Int) (us:List V) (h_0:vs=[.ref o.x,.int s,.int w]) (h_1:Hc H (ownCs cs C o++M)) (h_2:OOk o) (h_3:(w=-1∨0≤w)) (h_4:o.at s w=some us) (h_5:∀ a,o.atA s w=some a→H a=some (.lst us)→Q (.ref a) H):spRow cs C vs H Q x_3
inductive spEar (cs:Cs) (C:Addr) (vs:List V) (H:Hp) (Q:VK) (x_3:XK):Prop where
 | mk (o:OR) (M:List (List Cell)) (s:Nat) (w:Int) (us:List V) (ts:List Tri) (h_0:vs=[.ref o.x,.int s,.int w]) (h_1:Hc H (ownCs cs C o++M)) (h_2:OOk o) (h_3:(w=-1∨0≤w)) (h_4:o.at s w=some us) (h_5:Paired (IsTri H) us ts) (h_6:Q (pV (o.ear w ts)) H):spEar cs C vs H Q x_3
inductive spClk (cs:Cs) (C:Addr) (vs:List V) (H:Hp) (Q:VK) (x_3:XK):Prop where
 | mk (o:OR) (M:List (List Cell)) (s:Nat) (r:SR) (de re ge:List (List Tri)) (h_0:vs=[.ref o.x,.int s]) (h_1:Hc H (ownCs cs C o++M)) (h_2:OOk o) (h_3:o.srs[s]?=some r) (h_4:r.ws.length≤100) (h_5:Evs H o de re ge) (h_6:∀ H',Same H H'→Q (pV (o.clk de re s r)) H'):spClk cs C vs H Q x_3
theorem at_ok {o:OR} (ok:OOk o) {s:Nat} {r:SR} (hr:o.srs[s]?=some r) {w:Int} (hw:w ∈ r.ws):(w=-1∨0≤w)∧∃ us,o.at s w=some us:=by
 have hs:=(zD.mp hr).1
 rcases ok.ways r (zG hr) w hw with e|⟨e1,e2⟩
 ·subst e
  refine⟨.inl rfl,?_⟩
  unfold OR.at
  rw[if_pos rfl]
  have:=ok.ldv
  exact⟨o.dv[s]'(by omega),zB _⟩
 ·refine⟨.inr e1,?_⟩
  unfold OR.at
  rw[if_neg (by omega)]
  have:=ok.lrv
  exact⟨o.rv[w.toNat]'(by omega),zB _⟩
theorem ev_of {H:Hp} {o:OR} {de re ge:List (List Tri)} (ev:Evs H o de re ge) {s:Nat} {w:Int} {us:List V} (h:o.at s w=some us):Paired (IsTri H) us (evAt de re s w):=by
 unfold OR.at at h
 unfold evAt
 split at h
 ·rename_i e
  obtain⟨ts,h1,h2⟩:=ev.d.gt h
  rw[if_pos e,zA,h1]
  exact h2
 ·rename_i e
  obtain⟨ts,h1,h2⟩:=ev.r.gt h
  rw[if_neg e,zA,h1]
  exact h2
section
variable {P:Program} {w:World} {K:PySem.W.Frag} {mg:Str→Option Value} {base:Heap} {cs:Cs} {C:Addr}
theorem sc_taken:FnScope ["self","station"] ["self","station"] (defScope (inClass (top 16) 1)):=⟨rfl,rfl,rfl,by decide +kernel,rfl,by decide +kernel,by decide +kernel⟩
theorem ok_taken {f:Addr} {fd:FuncData} (F:Fun K "taken" "Own.taken" (inClass (top 16) 1) f fd) (T:Txt K mg) (c:OwC K C):FnOk P w K mg base CX0 1 f fd ["self","station"] (spTaken cs C):=by
 have nd:=sc_taken.nd
 refine F.ok sc_taken (fun vs H Q E h=>?_) (fun cdv A outer s H vs Q E hr h=>?_)
 ·obtain⟨o,M,s,us,rfl,_⟩:=h
  rfl
 ·obtain⟨o,M,s,us,rfl,hc,ok,hs,q⟩:=h
  obtain⟨a,ha,hl⟩:=ok.log hc hs
  refine⟨_,(@pss_one _ _ _ (@ps_ret _ _ _ _ (pe_callTy (call_list_ofK (K:=K) rfl) (by rfl) T.n_list bt_list (@pa_cons _ _ _ _ _ (@pe_ix _ _ _ _ _ _ _ (ix_listK (K:=K) rfl) (pe_fldK (K:=K) rfl (pv 0) rfl) (pv 1) (fun _ _=>rfl)) pa_nil (by rfl))))),?_⟩
  exact⟨_,rfl,o.x,C,o.dx,o.flds,_,rfl,hc.get 0 0 rfl rfl,c.cl,c.n6,f_logs,_,rfl,⟨_,_,_,_,rfl,rfl,SqL.of (hc.get 0 6 rfl rfl),atI_nat (refs_at ha),a,us,rfl,.inl (SqL.of hl),fun l nl=>q l nl⟩⟩
theorem sc_wait:FnScope ["self","belt"] ["self","belt"] (defScope (inClass (top 16) 2)):=⟨rfl,rfl,rfl,by decide +kernel,rfl,by decide +kernel,by decide +kernel⟩
theorem ok_wait {f:Addr} {fd:FuncData} (F:Fun K "waiting" "Own.waiting" (inClass (top 16) 2) f fd) (T:Txt K mg) (c:OwC K C):FnOk P w K mg base CX0 1 f fd ["self","belt"] (spWait cs C):=by
 have nd:=sc_wait.nd
 refine F.ok sc_wait (fun vs H Q E h=>?_) (fun cdv A outer s H vs Q E hr h=>?_)
 ·obtain⟨o,M,s,us,rfl,_⟩:=h
  rfl
 ·obtain⟨o,M,s,us,rfl,hc,ok,hs,q⟩:=h
  obtain⟨a,ha,hl⟩:=ok.belt hc hs
  refine⟨_,(@pss_one _ _ _ (@ps_ret _ _ _ _ (pe_callTy (call_list_ofK (K:=K) rfl) (by rfl) T.n_list bt_list (@pa_cons _ _ _ _ _ (@pe_ix _ _ _ _ _ _ _ (ix_listK (K:=K) rfl) (pe_fldK (K:=K) rfl (pv 0) rfl) (pv 1) (fun _ _=>rfl)) pa_nil (by rfl))))),?_⟩
  exact⟨_,rfl,o.x,C,o.dx,o.flds,_,rfl,hc.get 0 0 rfl rfl,c.cl,c.n4,f_rows,_,rfl,⟨_,_,_,_,rfl,rfl,SqL.of (hc.get 0 4 rfl rfl),atI_nat (refs_at ha),a,us,rfl,.inl (SqL.of hl),fun l nl=>q l nl⟩⟩
theorem sc_prom:FnScope ["self","belt"] ["self","belt"] (defScope (inClass (top 16) 3)):=⟨rfl,rfl,rfl,by decide +kernel,rfl,by decide +kernel,by decide +kernel⟩
theorem ok_prom {f:Addr} {fd:FuncData} (F:Fun K "promise" "Own.promise" (inClass (top 16) 3) f fd) (c:OwC K C):FnOk P w K mg base CX0 1 f fd ["self","belt"] (spProm cs C):=by
 have nd:=sc_prom.nd
 refine F.ok sc_prom (fun vs H Q E h=>?_) (fun cdv A outer s H vs Q E hr h=>?_)
 ·obtain⟨o,M,s,us,rfl,_⟩:=h
  rfl
 ·obtain⟨o,M,s,m,rfl,hc,ok,hs,q⟩:=h
  refine⟨_,(@pss_one _ _ _ (@ps_ret _ _ _ _ (@pe_ix _ _ _ _ _ _ _ (ix_listK (K:=K) rfl) (pe_fldK (K:=K) rfl (pv 0) rfl) (pv 1) (fun _ _=>rfl)))),?_⟩
  exact⟨_,rfl,o.x,C,o.dx,o.flds,_,rfl,hc.get 0 0 rfl rfl,c.cl,c.n5,f_prom,_,rfl,⟨_,_,_,_,rfl,rfl,SqL.of (hc.get 0 5 rfl rfl),atI_nat (by rw[zE,hs]; rfl),q⟩⟩
theorem sc_orow:FnScope ["self","station","way"] ["self","station","way"] (defScope (inClass (top 16) 6)):=⟨rfl,rfl,rfl,by decide +kernel,rfl,by decide +kernel,by decide +kernel⟩
theorem ok_orow {f:Addr} {fd:FuncData} {tkD:Tok} (F:Fun K "row" "Own.row" (inClass (top 16) 6) f fd) (g_DOOR:mg "DOOR"=some (.int (-1) tkD)) (c:OwC K C):FnOk P w K mg base CX0 1 f fd ["self","station","way"] (spRow cs C):=by
 have nd:=sc_orow.nd
 refine F.ok sc_orow (fun vs H Q E h=>?_) (fun cdv A outer s H vs Q E hr h=>?_)
 ·obtain⟨o,M,s,w,us,rfl,_⟩:=h
  rfl
 ·obtain⟨o,M,s,wy,us,rfl,hc,ok,hw,hat,q⟩:=h
  refine⟨_,(@pss_one _ _ _ (@ps_ret _ _ _ _ (pe_ifExp (pt_cmpR op_eq (pv 2) (pe_glob (v:=.int (-1)) (by rfl) g_DOOR ⟨_,rfl⟩) (nomark _)) (@pe_ix _ _ _ _ _ _ _ (ix_listK (K:=K) rfl) (pe_fldK (K:=K) rfl (pv 0) rfl) (pv 1) (fun _ _=>rfl)) (@pe_ix _ _ _ _ _ _ _ (ix_listK (K:=K) rfl) (pe_fldK (K:=K) rfl (pv 0) rfl) (pv 2) (fun _ _=>rfl))))),?_⟩
  refine⟨_,rfl,rfl,_,rfl,?_⟩
  unfold OR.at at hat
  unfold OR.atA at q
  rw[dec_int]
  by_cases e:wy=-1
  ·rw[if_pos e] at hat
   obtain⟨a,ha,hl⟩:=ok.door hc hat
   rw[show(wy == -1)=true by simpa using e]
   refine iteT ⟨_,rfl,o.x,C,o.dx,o.flds,_,rfl,hc.get 0 0 rfl rfl,c.cl,c.n3,oB,_,rfl,⟨_,_,_,_,rfl,rfl,SqL.of (hc.get 0 3 rfl rfl),atI_nat (refs_at ha),q a (by rw[if_pos e]; exact ha) hl⟩⟩
  ·rw[if_neg e] at hat
   obtain⟨a,ha,hl⟩:=ok.belt hc hat
   have ew:wy=(wy.toNat:Int):=by omega
   rw[show(wy == -1)=false by simpa using e]
   refine iteF ⟨_,rfl,o.x,C,o.dx,o.flds,_,rfl,hc.get 0 0 rfl rfl,c.cl,c.n4,f_rows,_,rfl,⟨_,_,_,_,rfl,rfl,SqL.of (hc.get 0 4 rfl rfl),(by rw[ew]; exact atI_nat (refs_at ha)),q a (by rw[if_neg e]; exact ha) hl⟩⟩
theorem sc_ear:FnScope ["self","station","way","row"] ["self","station","way"] (defScope (inClass (top 16) 7)):=⟨rfl,rfl,rfl,by decide +kernel,rfl,by decide +kernel,by decide +kernel⟩
theorem ok_ear {f:Addr} {fd:FuncData} {tkD:Tok} (F:Fun K "earliest" "Own.earliest" (inClass (top 16) 7) f fd) (T:Txt K mg) (g_DOOR:mg "DOOR"=some (.int (-1) tkD)) (c:OwC K C) (G_row:MethAt P w K mg base 1 C "row" ["self","station","way"] (spRow cs C)):FnOk P w K mg base CX0 2 f fd ["self","station","way"] (spEar cs C):=by
 have nd:=sc_ear.nd
 refine F.ok sc_ear (fun vs H Q E h=>?_) (fun cdv A outer s H vs Q E hr h=>?_)
 ·obtain⟨o,M,s,w,us,ts,rfl,_⟩:=h
  rfl
 ·obtain⟨o,M,s,wy,us,ts,rfl,hc,ok,hw,hat,pr,q⟩:=h
  refine⟨_,(@pss_cons _ _ _ _ _ (ps_set (i:=3) nd rfl (by nofun) (pe_mth G_row (hr.mono (by decide)) (pv 0) (@pa_cons _ _ _ _ _ (pv 1) (@pa_cons _ _ _ _ _ (pv 2) pa_nil (by rfl)) (by rfl))))
   (@pss_cons _ _ _ _ _ (ps_if (pt_cmpR op_gt (pe_callB (call_len_seqK (K:=K) rfl) (by rfl) T.n_len bt_len (@pa_cons _ _ _ _ _ (pv 3) pa_nil (by rfl))) pe_int (nomark _)) (@pss_one _ _ _ (@ps_ret _ _ _ _ (@pe_ix _ _ _ _ _ _ _ (ix_tupK (K:=K) rfl) (@pe_ix _ _ _ _ _ _ _ (ix_listK (K:=K) rfl) (pv 3) pe_int (fun _ _=>rfl)) pe_int (fun _ _=>rfl)))) pss_nil)
   (@pss_one _ _ _ (@ps_ret _ _ _ _ (pe_ifExp (pt_cmpR op_eq (pv 2) (pe_glob (v:=.int (-1)) (by rfl) g_DOOR ⟨_,rfl⟩) (nomark _)) pe_non (@pe_ix _ _ _ _ _ _ _ (ix_listK (K:=K) rfl) (pe_fldK (K:=K) rfl (pv 0) rfl) (pv 2) (fun _ _=>rfl))))))),?_⟩
  refine⟨_,rfl,o.x,o.dx,o.flds,rfl,hc.get 0 0 rfl rfl,f_m (by decide +kernel),_,rfl,_,rfl,o,M,s,wy,us,rfl,hc,ok,hw,hat,fun a ha hl=>?_⟩
  refine⟨_,rfl,a,us,rfl,.inl (SqL.of hl),_,_,rfl,rfl,_,rfl,?_⟩
  cases pr with
  | nil =>
   refine iteF ⟨_,rfl,rfl,_,rfl,?_⟩
   rw[dec_int]
   by_cases e:wy=-1
   ·rw[show(wy == -1)=true by simpa using e]
    refine iteT ?_
    unfold OR.ear at q
    rw[if_pos e] at q
    exact q
   ·rw[show(wy == -1)=false by simpa using e]
    have ew:wy=(wy.toNat:Int):=by omega
    unfold OR.at at hat
    rw[if_neg e] at hat
    obtain⟨m,hm⟩:=get_like (ok.lrv.trans ok.lp.symm) hat
    unfold OR.ear at q
    rw[if_neg e,zA,hm] at q
    exact iteF ⟨_,rfl,o.x,C,o.dx,o.flds,_,rfl,hc.get 0 0 rfl rfl,c.cl,c.n5,f_prom,_,rfl,⟨_,_,_,_,rfl,rfl,SqL.of (hc.get 0 5 rfl rfl),(by rw[ew]; exact atI_nat (by rw[zE,hm]; rfl)),q⟩⟩
  | @cons x t us ts hx hr' =>
   obtain⟨pt,rfl,hpt⟩:=hx
   have e:decide ((0:Int) < ((V.ref pt::us).length:Int))=true:=decide_eq_true (by rw[zS]; omega)
   rw[e]
   exact iteT ⟨_,rfl,⟨_,_,_,_,rfl,rfl,SqL.of hl,atI_nat (j:=0) rfl,⟨_,_,_,_,rfl,rfl,SqT.of hpt,atI_nat (j:=0) rfl,q⟩⟩⟩
theorem sc_clk:FnScope ["self","station","times"] ["self","station"] (defScope (inClass (top 16) 4)):=⟨rfl,rfl,rfl,by decide +kernel,rfl,by decide +kernel,by decide +kernel⟩
theorem ok_clk {f:Addr} {fd:FuncData} (F:Fun K "clock" "Own.clock" (inClass (top 16) 4) f fd) (T:Txt K mg) (c:OwC K C) (cc:CsOk K cs) (G_earliest:MethAt P w K mg base 2 C "earliest" ["self","station","way"] (spEar cs C)):FnOk P w K mg base CX0 3 f fd ["self","station"] (spClk cs C):=by
 have nd:=sc_clk.nd
 refine F.ok sc_clk (fun vs H Q E h=>?_) (fun cdv A outer s H vs Q E hr h=>?_)
 ·obtain⟨o,M,s,r,de,re,ge,rfl,_⟩:=h
  rfl
 ·obtain⟨o,M,s,r,de,re,ge,rfl,hc,ok,hs,l100,ev,q⟩:=h
  have ct:=cc.st r.k
  refine⟨_,(@pss_cons _ _ _ _ _ (ps_setC (i:=2) nd rfl (Or.inl rfl) rfl (own:=["way"]) (fr:=["self","station"]) (js:=[0,1]) (by and_intros) (pi_tupK (K:=K) rfl (pe_fldK (K:=K) rfl (@pe_ix _ _ _ _ _ _ _ (ix_listK (K:=K) rfl) (pe_fldK (K:=K) rfl (pv 0) rfl) (pv 1) (fun _ _=>rfl)) rfl)) (fun _ _ _ _=>(pg_name (i:=0) (show List.Nodup (["way","self","station"]:List Str) from by decide +kernel) rfl (by nofun))) (fun _ _ _ _=>pts_nil) (fun _ _ _ _=>(pe_mth G_earliest (hr.mono (by decide)) (pv 1) (@pa_cons _ _ _ _ _ (pv 2) (@pa_cons _ _ _ _ _ (pv 0) pa_nil (by rfl)) (by rfl)))))
   (@pss_one _ _ _ (@ps_ret _ _ _ _ (pe_minD rfl (by rfl) T.n_min bt_min (pe_comp (own:=["time"]) (fr:=[]) (js:=[]) (by and_intros) (pi_listK (K:=K) rfl (pv 2)) (fun _ _ _ _=>(pg_name (i:=0) (show List.Nodup (["time"]:List Str) from by decide +kernel) rfl (by nofun))) (fun _ _ _ _=>(pts_one (pt_cmpR op_notN (pv 0) pe_non (nomark _)))) (fun _ _ _ _=>(pv 0))))))),?_⟩
  refine⟨_,rfl,o.x,C,o.dx,o.flds,_,rfl,hc.get 0 0 rfl rfl,c.cl,c.n1,f_stas,_,rfl,⟨_,_,_,_,rfl,rfl,SqL.of (hc.get 0 1 rfl rfl),atI_nat (srefs_at hs),r.x,cs.of r.k,r.dx,r.flds,_,rfl,st_x hc hs,ct.cl,ct.nW,r.flds_ways,r.p1,rfl,⟨_,SqT.of (st_p1 hc hs)⟩,fun D nD=>?_⟩⟩
  refine comp_tup (a:=r.p1) (xs:=r.ws.map V.int) (fun i H5=>Same H H5∧H5 D=some (.lst (((r.ws.take i).map fun w=>o.ear w (evAt de re s w)).map pV))) ⟨Same.new nD,upd_same⟩ (fun i H5 _ p=>SqT.of (p.1 _ _ (st_p1 hc hs))) ?_ ?_
  ·rintro i x H5 m Wf hx ⟨s5,g5⟩ nx
   obtain⟨wy,rfl,hwy⟩:=ints_get hx
   obtain⟨a1,us,a2⟩:=at_ok ok hs (zG hwy)
   have hi:=(zD.mp hwy).1
   refine⟨_,rfl,o.x,o.dx,o.flds,rfl,s5 _ _ (hc.get 0 0 rfl rfl),f_m (by decide +kernel),_,rfl,_,rfl,o,M,s,wy,us,_,rfl,hc.same s5,ok,a1,a2,pairedMono (fun _ _ h=>h.same s5) (ev_of ev a2),_,g5,small1000 (by rw[zC,zC,zU]; omega),nx _ ⟨s5.upd nD,?_⟩⟩
   rw[upd_same,take_1 hwy,zJ,zJ]
   rfl
  ·rintro H5 ⟨s5,g5⟩
   rw[zC,zX] at g5
   have hlen:(r.ws.map fun w=>o.ear w (evAt de re s w)).length≤100:=by rw[zC]; exact l100
   have hq:o.clk de re s r=((r.ws.map fun w=>o.ear w (evAt de re s w)).filterMap id).min?:=by
    unfold OR.clk
    rw[List.filterMap_map]
    rfl
   rw[hq] at q
   generalize (r.ws.map fun w=>o.ear w (evAt de re s w))=os at g5 hlen q
   refine⟨_,rfl,D,rfl,⟨_,SqL.of g5⟩,fun D2 nD2=>?_⟩
   refine comp_list (a:=D) (xs:=os.map pV) (fun i H6=>Same H5 H6∧H6 D2=some (.lst (((os.take i).filterMap id).map V.int))) ⟨Same.new nD2,upd_same⟩ (fun i H6 _ p=>SqL.of (p.1 _ _ g5)) ?_ ?_
   ·rintro i x H6 m Wf hx ⟨s6,g6⟩ nx
    rw[zE] at hx
    cases eo:os[i]? with
    | none=>rw[eo] at hx; cases hx
    | some t =>
     rw[eo] at hx
     cases hx
     have hle:(((os.take i).filterMap id).map V.int).length≤1000:=by
      rw[zC]
      have:=y4 (id:Option Int→Option Int) (os.take i)
      rw[zU] at this
      omega
     refine⟨_,rfl,rfl,_,rfl,?_⟩
     cases t with
     | none =>
      refine iteF (nx _ ⟨s6,?_⟩)
      rw[take_1 eo,yY]
      simpa using g6
     | some n =>
      refine iteT ⟨_,rfl,_,g6,small1000 hle,nx _ ⟨s6.upd nD2,?_⟩⟩
      rw[upd_same,take_1 eo,yY,zJ]
      rfl
   ·rintro H6 ⟨s6,g6⟩
    rw[zC,zX] at g6
    have S:=s5.trans s6
    refine⟨D2,os.filterMap id,rfl,SqL.of g6,fun e=>?_,fun m h1 h2=>?_⟩
    ·have:=q H6 S
     rw[e] at this
     exact this
    ·have:=q H6 S
     rw[min_is h1 h2] at this
     exact this
end
end Oc
namespace Oc
open PySem L2
set_option genInjectivity false in
set_option genSizeOf false in
structure SP where
 k:Kd
 ws:List Int
 bs:List Int
 seen:Int
 rows:List (List Int)
def SR.pu (r:SR):SP:=⟨r.k,r.ws,r.bs,r.seen,r.rows⟩
def SP.sr (p:SP):SR:=⟨0,0,0,0,0,p.k,p.ws,p.bs,[],p.seen,p.rows⟩
def SP.out (p:SP) (j:Nat) (z:Int):Option (Int × Int):=p.sr.out j z
def SP.nxt (p:SP) (j:Nat) (z:Int):SP:=(p.sr.nxt j z).pu
theorem SR.out_pu (r:SR) (j:Nat) (z:Int):r.out j z=r.pu.out j z:=rfl
theorem SR.nxt_pu (r:SR) (j:Nat) (z:Int):(r.nxt j z).pu=r.pu.nxt j z:=by
 obtain⟨x,dx,p1,p2,d,k,ws,bs,ls,seen,rows⟩:=r
 cases k <;> rfl
theorem SP.nxt_ws (p:SP) (j:Nat) (z:Int):(p.nxt j z).ws=p.ws:=(p.sr.nxt_x j z).2.2.1
theorem SP.nxt_bs (p:SP) (j:Nat) (z:Int):(p.nxt j z).bs=p.bs:=(p.sr.nxt_x j z).2.2.2
theorem head_mem {l:List Int} {y b v:Int} (h:(l.head?.map fun b=>(b,v))=some (b,y)):b ∈ l:=by
 cases l with
 | nil=>cases h
 | cons a r=>cases h; exact zL
theorem SP.out_in {p:SP} {j:Nat} {z b y:Int} (h:p.out j z=some (b,y)):b ∈ p.bs:=by
 unfold SP.out SR.out at h
 cases e:p.k with
 | relay n =>
  rw[show p.sr.k=p.k from rfl,e] at h
  exact head_mem h
 | sorter =>
  rw[show p.sr.k=p.k from rfl,e] at h
  dsimp only at h
  split at h
  ·cases h
  ·cases eb:p.sr.bs[(z % (p.sr.bs.length:Int)).toNat]? with
   | none=>rw[eb] at h; cases h
   | some b' =>
    rw[eb] at h
    cases h
    exact zG eb
 | thinner n =>
  rw[show p.sr.k=p.k from rfl,e] at h
  dsimp only at h
  split at h
  ·cases h
  ·exact head_mem h
 | joiner =>
  rw[show p.sr.k=p.k from rfl,e] at h
  dsimp only at h
  split at h
  ·cases h
  ·exact head_mem h
 | sink =>
  rw[show p.sr.k=p.k from rfl,e] at h
  cases h
theorem stC_cut (cs:Cs) (A B:List SR) (r:SR):stC cs (A++r::B)=stC cs A++(srC cs r++stC cs B):=by
 unfold stC
 rw[List.flatMap_append,List.flatMap_cons]
theorem st_take {cs:Cs} {A B:List SR} {r:SR} {H:Hp} {M:List (List Cell)} (hc:Hc H (stC cs (A++r::B)::M)):Hc H (srC cs r::(stC cs A++stC cs B)::M):=by
 rw[stC_cut] at hc
 have h1:=hc.split.swap.split
 exact((h1.pick 1 rfl).pick 2 rfl).join.swap
theorem st_back {cs:Cs} {A B:List SR} {r:SR} {H:Hp} {M:List (List Cell)} (hc:Hc H (srC cs r::(stC cs A++stC cs B)::M)):Hc H (stC cs (A++r::B)::M):=by
 rw[stC_cut]
 have h1:Hc H (stC cs A::stC cs B::srC cs r::M):=hc.swap.split
 have h2:Hc H (srC cs r::stC cs B::stC cs A::M):=(h1.pick 1 rfl).pick 2 rfl
 exact h2.join.swap.join
theorem liC_set {as:List Addr} {vs:List (List V)} {j:Nat} {a:Addr} {v:List V} (h:as[j]?=some a):(liC as vs).set j (a,.lst v)=liC as (vs.set j v):=by
 unfold liC
 rw[rowsC_set h,qG]
theorem paired_set {α β:Type} {F:α→β→Prop}:∀ {l:List α} {m:List β} {i:Nat} {x:α} {y:β},Paired F l m→F x y→Paired F (l.set i x) (m.set i y)
 | _,_,_,_,_,.nil,_=>.nil
 | _,_,0,_,_,.cons _ r,h=>.cons h r
 | _,_,i + 1,_,_,.cons p r,h=>.cons p (paired_set r h)
theorem all_set {α:Type} {p:α→Prop} {l:List α} {i:Nat} {x:α} (h:∀ y ∈ l,p y) (hx:p x):∀ y ∈ l.set i x,p y:=fun y hy=>by
 rcases jY hy with e|e
 ·exact h y e
 ·rw[e]; exact hx
end Oc
namespace Oc
open PySem L2
structure OA where
 srs:List SP
 dl:List Int
 pr:List (Option Int)
 de:List (List Tri)
 re:List (List Tri)
 ge:List (List Tri)
structure OIs (H:Hp) (o:OR) (A:OA):Prop where
 s:o.srs.map SR.pu=A.srs
 d:o.dels=A.dl
 p:o.pr=A.pr
 e:Evs H o A.de A.re A.ge
def tkey (t:Tri):Int × Int:=(t.1,t.2.1)
def OA.hds (A:OA) (s:Nat) (ws:List Int):List Tri:=ws.filterMap fun w=>(evAt A.de A.re s w).head?
def OA.upc (A:OA) (s:Nat) (ws:List Int):Option Tri:=(A.hds s ws)[bestK ((A.hds s ws).map tkey)]?
abbrev uq:Str:="Own.upcoming.<locals>.<lambda>"
abbrev UpT (P:Addr) (H:Hp):Prop:=LamT P uq 131 31 H
def EvV (H:Hp) (v:V):Option Tri→Prop
 | none=>v=.non
 | some t=>IsTri H v t
inductive spUpc (cs:Cs) (C Pu:Addr) (vs:List V) (H:Hp) (Q:VK) (x_3:XK):Prop where
 | mk (o:OR) (M:List (List Cell)) (s:Nat) (A:OA) (r:SR) (h_0:vs=[.ref o.x,.int s]) (h_1:Hc H (ownCs cs C o++M)) (h_2:OOk o) (h_3:OIs H o A) (h_4:o.srs[s]?=some r) (h_5:r.ws.length≤100) (h_6:UpT Pu H) (h_7:∀(v:V) (H':Hp),Keep [Pu] H H'→UpT Pu H'→EvV H' v (A.upc s r.ws)→Q v H'):spUpc cs C Pu vs H Q x_3
theorem _root_.L2.LamT.ne {P:Addr} {q:Str} {ln cl:Nat} {H:Hp} (h:LamT P q ln cl H) {b:Addr} {u:HO} (e:H b=some u) (hu:∀ ps,u ≠ HO.tbl ps):b ≠ P:=by
 rcases h with h|⟨c',h,_⟩
 ·exact ne_of e h (hu _)
 ·exact ne_of e h (hu _)
theorem Keep.tri {P:Addr} {q:Str} {ln cl:Nat} {H H':Hp} (k:Keep [P] H H') (h:LamT P q ln cl H) {x:V} {t:Tri} (ht:IsTri H x t):IsTri H' x t:=by
 obtain⟨p,e,hp⟩:=ht
 exact⟨p,e,k _ _ hp (by rw[zF]; exact h.ne hp fun _ z=>nomatch z)⟩
theorem nil_at {α:Type} {j:Nat} {a:α} {X:Prop} (h:([]:List α)[j]?=some a):X:=by simp at h
section
variable {P:Program} {w:World} {K:PySem.W.Frag} {mg:Str→Option Value} {base:Heap} {cs:Cs} {C:Addr}
theorem sc_upc:FnScope ["self","station","rows","firsts"] ["self","station"] (defScope (inClass (top 16) 8)):=⟨rfl,rfl,rfl,by decide +kernel,rfl,by decide +kernel,by decide +kernel⟩
theorem ok_upc {f c Pu:Addr} {fd:FuncData} (F:Fun K "upcoming" "Own.upcoming" (inClass (top 16) 8) f fd) (hcd:fd.code=.ref c) (tm:Tab K mg base c Pu) (T:Txt K mg) (oc:OwC K C) (cc:CsOk K cs) (G_row:MethAt P w K mg base 1 C "row" ["self","station","way"] (spRow cs C)):FnOk P w K mg base CX0 2 f fd ["self","station"] (spUpc cs C Pu):=by
 have nd:=sc_upc.nd
 refine F.okC hcd sc_upc (fun vs H Q E h=>?_) (fun A outer s H vs Q E hr h=>?_)
 ·obtain⟨o,M,s,A,r,rfl,_⟩:=h
  rfl
 ·obtain⟨o,M,s,A,r,rfl,hc,ok,is,hs,l100,hT,q⟩:=h
  have ct:=cc.st r.k
  refine⟨_,(@pss_cons _ _ _ _ _ (ps_setC (i:=2) nd rfl (Or.inl rfl) rfl (own:=["way"]) (fr:=["self","station"]) (js:=[0,1]) (by and_intros) (pi_tupK (K:=K) rfl (pe_fldK (K:=K) rfl (@pe_ix _ _ _ _ _ _ _ (ix_listK (K:=K) rfl) (pe_fldK (K:=K) rfl (pv 0) rfl) (pv 1) (fun _ _=>rfl)) rfl)) (fun _ _ _ _=>(pg_name (i:=0) (show List.Nodup (["way","self","station"]:List Str) from by decide +kernel) rfl (by nofun))) (fun _ _ _ _=>pts_nil) (fun _ _ _ _=>(pe_mth G_row (hr.mono (by decide)) (pv 1) (@pa_cons _ _ _ _ _ (pv 2) (@pa_cons _ _ _ _ _ (pv 0) pa_nil (by rfl)) (by rfl)))))
   (@pss_cons _ _ _ _ _ (ps_setC (i:=3) nd rfl (Or.inl rfl) rfl (own:=["row"]) (fr:=[]) (js:=[]) (by and_intros) (pi_listK (K:=K) rfl (pv 2)) (fun _ _ _ _=>(pg_name (i:=0) (show List.Nodup (["row"]:List Str) from by decide +kernel) rfl (by nofun))) (fun _ _ _ _=>(pts_one (pt_cmpR op_gt (pe_callB (call_len_seqK (K:=K) rfl) (by rfl) T.n_len bt_len (@pa_cons _ _ _ _ _ (pv 0) pa_nil (by rfl))) pe_int (nomark _)))) (fun _ _ _ _=>(@pe_ix _ _ _ _ _ _ _ (ix_listK (K:=K) rfl) (pv 0) pe_int (fun _ _=>rfl))))
   (@pss_one _ _ _ (@ps_ret _ _ _ _ (pe_minKD rfl hr (by rfl) T.n_min bt_min rfl (by rfl) tm.hd tm.bl (pv 3) (by decide) (fun _ _ _ _=>rfl) (by rfl) (by rfl)))))),?_⟩
  refine⟨_,rfl,o.x,C,o.dx,o.flds,_,rfl,hc.get 0 0 rfl rfl,oc.cl,oc.n1,f_stas,_,rfl,⟨_,_,_,_,rfl,rfl,SqL.of (hc.get 0 1 rfl rfl),atI_nat (srefs_at hs),r.x,cs.of r.k,r.dx,r.flds,_,rfl,st_x hc hs,ct.cl,ct.nW,r.flds_ways,r.p1,rfl,⟨_,SqT.of (st_p1 hc hs)⟩,fun D nD=>?_⟩⟩
  refine comp_tup (a:=r.p1) (xs:=r.ws.map V.int) (fun i H5=>Same H H5∧∃ as:List Addr,as.length=i∧H5 D=some (.lst (as.map V.ref))∧∀ j a wy,as[j]?=some a→r.ws[j]?=some wy→∃ us,o.at s wy=some us∧H a=some (.lst us)) ⟨Same.new nD,[],rfl,upd_same,fun j a wy h=>nil_at h⟩ (fun i H5 _ p=>SqT.of (p.1 _ _ (st_p1 hc hs))) ?_ ?_
  ·rintro i x H5 m Wf hx ⟨s5,as,la,g5,all⟩ nx
   obtain⟨wy,rfl,hwy⟩:=ints_get hx
   obtain⟨a1,us,a2⟩:=at_ok ok hs (zG hwy)
   have hi:=(zD.mp hwy).1
   refine⟨_,rfl,o.x,o.dx,o.flds,rfl,s5 _ _ (hc.get 0 0 rfl rfl),f_m (by decide +kernel),_,rfl,_,rfl,o,M,s,wy,us,rfl,hc.same s5,ok,a1,a2,fun a ha hl=>?_⟩
   have hl0:H a=some (.lst us):=by
    unfold OR.atA at ha
    unfold OR.at at a2
    split at ha
    ·rename_i e
     rw[if_pos e] at a2
     obtain⟨a',h1,h2⟩:=ok.door hc a2
     rw[ha] at h1; cases h1
     exact h2
    ·rename_i e
     rw[if_neg e] at a2
     obtain⟨a',h1,h2⟩:=ok.belt hc a2
     rw[ha] at h1; cases h1
     exact h2
   refine⟨_,g5,small1000 (by rw[zC]; omega),nx _ ⟨s5.upd nD,as++[a],by rw[zN,la]; rfl,by rw[upd_same,zJ]; rfl,fun j a' wy' hj hw=>?_⟩⟩
   rcases Nat.lt_trichotomy j as.length with z|z|z
   ·rw[yK z] at hj
    exact all j a' wy' hj hw
   ·rw[zZ (by omega),z,j4] at hj
    cases hj
    rw[z,la,hwy] at hw
    cases hw
    exact⟨us,a2,hl0⟩
   ·rw[zZ (by omega)] at hj
    have:([a]:List Addr)[j - as.length]?=none:=yF (by show 1≤_; omega)
    rw[this] at hj; cases hj
  ·rintro H5 ⟨s5,as,la,g5,all⟩
   rw[zC] at la
   refine⟨_,rfl,D,rfl,⟨_,SqL.of g5⟩,fun D2 nD2=>?_⟩
   refine comp_list (a:=D) (xs:=as.map V.ref) (fun i H6=>Same H5 H6∧∃ us2:List V,H6 D2=some (.lst us2)∧Paired (IsTri H) us2 (A.hds s (r.ws.take i))) ⟨Same.new nD2,[],upd_same,.nil⟩ (fun i H6 _ p=>SqL.of (p.1 _ _ g5)) ?_ ?_
   ·rintro i x H6 m Wf hx ⟨s6,us2,g6,p6⟩ nx
    rw[zE] at hx
    obtain⟨a,ha,rfl⟩:=yO.mp hx
    have hi:=(zD.mp ha).1
    obtain⟨wy,hwy⟩:∃ wy,r.ws[i]?=some wy:=⟨r.ws[i]'(by omega),zB _⟩
    obtain⟨us,hat,hl⟩:=all i a wy ha hwy
    have pe:=ev_of is.e hat
    have hl6:=s6 _ _ (s5 _ _ hl)
    have l6:=p6.length
    have lh:(A.hds s (r.ws.take i)).length≤100:=by
     unfold OA.hds
     refine z4 (y4 _ _) ?_
     rw[zU]; omega
    have eh:A.hds s (r.ws.take (i + 1))=A.hds s (r.ws.take i)++([wy].filterMap fun w=>(evAt A.de A.re s w).head?):=by
     unfold OA.hds
     rw[take_1 hwy,yY]
    refine⟨_,rfl,a,us,rfl,.inl (SqL.of hl6),_,_,rfl,rfl,_,rfl,?_⟩
    cases ee:evAt A.de A.re s wy with
    | nil =>
     rw[ee] at pe
     cases pe
     refine iteF (nx _ ⟨s6,us2,g6,?_⟩)
     rw[eh,yT,ee]
     simpa using p6
    | cons t ts =>
     rw[ee] at pe
     cases pe with
     | cons hx0 hr0 =>
      rename_i x0 us0
      have e:decide ((0:Int) < ((x0::us0).length:Int))=true:=decide_eq_true (by rw[zS]; omega)
      rw[e]
      refine iteT ⟨_,rfl,⟨_,_,_,_,rfl,rfl,SqL.of hl6,atI_nat (j:=0) rfl,_,g6,small1000 (by omega),nx _ ⟨s6.upd nD2,us2++[x0],upd_same,?_⟩⟩⟩
      rw[eh,yT,ee]
      exact paired_app p6 (.cons hx0 .nil)
   ·rintro H6 ⟨s6,us2,g6,p6⟩
    rw[zC,la,zX] at p6
    have S:=s5.trans s6
    have hT6:=hT.same S
    refine⟨_,rfl,D2,us2,(A.hds s r.ws).map tkey,rfl,SqL.of g6,(by rw[zC,p6.length]),fun j x k hx hk=>?_,hT6,fun H7 kp hT7=>?_⟩
    ·obtain⟨t,ht,p,rfl,hp⟩:=p6.gt hx
     rw[zE,ht] at hk
     cases hk
     exact⟨p,_,rfl,SqT.of (S _ _ hp),rfl,rfl⟩
    ·have KP:Keep [Pu] H H7:=fun b u e n=>kp b u (S b u e) n
     refine⟨fun e=>?_,fun x hx=>?_⟩
     ·rw[e] at p6
      refine q _ H7 KP hT7 ?_
      have e0:A.hds s r.ws=[]:=by
       generalize A.hds s r.ws=z at p6
       cases p6; rfl
      unfold OA.upc
      rw[e0]
      rfl
     ·obtain⟨t,ht,it⟩:=p6.gt hx
      refine q x H7 KP hT7 ?_
      unfold OA.upc
      rw[ht]
      exact Keep.tri KP hT it
end
end Oc
namespace Oc
open PySem L2
def OA.lets (A:OA) (t:Tri) (b:Nat):Bool:=if (A.re.getD b []).isEmpty=true then (match A.pr.getD b none with|none=>true|some g=>HT.lexLt [t.1,t.2.1] [g,(b:Int)]) else true
def OA.may (A:OA) (ws:List Int) (t:Tri):Bool:=(ws.filter fun w=>!(w == -1)).all fun w=>A.lets t w.toNat
inductive spLets (cs:Cs) (C:Addr) (vs:List V) (H:Hp) (Q:VK) (x_3:XK):Prop where
 | mk (o:OR) (M:List (List Cell)) (b:Nat) (A:OA) (v:V) (t:Tri) (h_0:vs=[.ref o.x,.int (b:Int),v]) (h_1:Hc H (ownCs cs C o++M)) (h_2:OOk o) (h_3:OIs H o A) (h_4:b < o.dels.length) (h_5:IsTri H v t) (h_6:∀ H',Same H H'→Q (.bl (A.lets t b)) H'):spLets cs C vs H Q x_3
inductive spMay (cs:Cs) (C:Addr) (vs:List V) (H:Hp) (Q:VK) (x_3:XK):Prop where
 | mk (o:OR) (M:List (List Cell)) (s:Nat) (A:OA) (v:V) (t:Tri) (r:SR) (h_0:vs=[.ref o.x,.int (s:Int),v]) (h_1:Hc H (ownCs cs C o++M)) (h_2:OOk o) (h_3:OIs H o A) (h_4:o.srs[s]?=some r) (h_5:r.ws.length≤100) (h_6:IsTri H v t) (h_7:∀ H',Same H H'→Q (.bl (A.may r.ws t)) H'):spMay cs C vs H Q x_3
theorem Evs.tk {H H':Hp} {o:OR} {de re ge:List (List Tri)} (k:Tk H H') (e:Evs H o de re ge):Evs H' o de re ge :=
 ⟨pairedMono (fun _ _ h=>pairedMono (fun _ _ h=>h.tk k) h) e.d,pairedMono (fun _ _ h=>pairedMono (fun _ _ h=>h.tk k) h) e.r,pairedMono (fun _ _ h=>pairedMono (fun _ _ h=>h.tk k) h) e.g⟩
theorem OIs.tk {H H':Hp} {o:OR} {A:OA} (k:Tk H H') (h:OIs H o A):OIs H' o A:=⟨h.s,h.d,h.p,h.e.tk k⟩
section
variable {P:Program} {w:World} {K:PySem.W.Frag} {mg:Str→Option Value} {base:Heap} {cs:Cs} {C:Addr}
theorem sc_lets:FnScope ["self","belt","event","given"] ["self","belt","event"] (defScope (inClass (top 16) 10)):=⟨rfl,rfl,rfl,by decide +kernel,rfl,by decide +kernel,by decide +kernel⟩
theorem ok_lets {f:Addr} {fd:FuncData} (F:Fun K "lets" "Own.lets" (inClass (top 16) 10) f fd) (T:Txt K mg) (oc:OwC K C):FnOk P w K mg base CX0 1 f fd ["self","belt","event"] (spLets cs C):=by
 have nd:=sc_lets.nd
 refine F.ok sc_lets (fun vs H Q E h=>?_) (fun cdv A outer s H vs Q E hr h=>?_)
 ·obtain⟨o,M,b,A,v,t,rfl,_⟩:=h
  rfl
 ·obtain⟨o,M,b,A,v,t,rfl,hc,ok,is,hb,ht,q⟩:=h
  have lrv:=ok.lrv
  have lp:=ok.lp
  obtain⟨us,hus⟩:∃ us,o.rv[b]?=some us:=⟨o.rv[b]'(by omega),zB _⟩
  obtain⟨a,ha,hl⟩:=ok.belt hc hus
  obtain⟨ts,hts,pt⟩:=is.e.r.gt hus
  obtain⟨g,hg⟩:∃ g,o.pr[b]?=some g:=⟨o.pr[b]'(by omega),zB _⟩
  obtain⟨p,rfl,hp⟩:=ht
  unfold OA.lets at q
  rw[zA,hts,← is.p,zA,hg] at q
  refine⟨_,(@pss_cons _ _ _ _ _ (ps_if (pt_cmpR op_gt (pe_callB (call_len_seqK (K:=K) rfl) (by rfl) T.n_len bt_len (@pa_cons _ _ _ _ _ (@pe_ix _ _ _ _ _ _ _ (ix_listK (K:=K) rfl) (pe_fldK (K:=K) rfl (pv 0) rfl) (pv 1) (fun _ _=>rfl)) pa_nil (by rfl))) pe_int (nomark _)) (@pss_one _ _ _ (@ps_ret _ _ _ _ pe_bl)) pss_nil)
   (@pss_cons _ _ _ _ _ (ps_set (i:=3) nd rfl (by nofun) (@pe_ix _ _ _ _ _ _ _ (ix_listK (K:=K) rfl) (pe_fldK (K:=K) rfl (pv 0) rfl) (pv 1) (fun _ _=>rfl)))
   (@pss_one _ _ _ (@ps_ret _ _ _ _ (pe_or (pe_cmpR op_isN (pv 3) pe_non (nomark _)) (pe_one (pe_cmpR (op_gtT (y7 (Nat.le_add_right _ _) hr.units)) (@pe_tup _ _ _ _ _ (@pa_cons _ _ _ _ _ (pv 3) (@pa_cons _ _ _ _ _ (pv 1) pa_nil (by rfl)) (by rfl))) (@pe_tup _ _ _ _ _ (@pa_cons _ _ _ _ _ (@pe_ix _ _ _ _ _ _ _ (ix_tupK (K:=K) rfl) (pv 2) pe_int (fun _ _=>rfl)) (@pa_cons _ _ _ _ _ (@pe_ix _ _ _ _ _ _ _ (ix_tupK (K:=K) rfl) (pv 2) pe_int (fun _ _=>rfl)) pa_nil (by rfl)) (by rfl))) (nomark _)))))))),?_⟩
  refine⟨_,rfl,o.x,C,o.dx,o.flds,_,rfl,hc.get 0 0 rfl rfl,oc.cl,oc.n4,f_rows,_,rfl,⟨_,_,_,_,rfl,rfl,SqL.of (hc.get 0 4 rfl rfl),atI_nat (refs_at ha),a,us,rfl,.inl (SqL.of hl),_,_,rfl,rfl,_,rfl,?_⟩⟩
  cases pt with
  | nil =>
   refine iteF ⟨_,rfl,o.x,C,o.dx,o.flds,_,rfl,hc.get 0 0 rfl rfl,oc.cl,oc.n5,f_prom,_,rfl,⟨_,_,_,_,rfl,rfl,SqL.of (hc.get 0 5 rfl rfl),atI_nat (by rw[zE,hg]; rfl),?_⟩⟩
   cases g with
   | none=>exact⟨_,rfl,rfl,⟨_,rfl,iteT (q H (Same.refl _))⟩⟩
   | some g =>
    refine⟨_,rfl,rfl,⟨_,rfl,iteF ?_⟩⟩
    refine⟨_,rfl,_,rfl,(by show 2≤sizeLine; decide),fun p1 n1=>?_⟩
    have s1:=Same.new (o:=.tup [pV (some g),.int (b:Int)]) n1
    have g1:=upd_same (H:=H) (a:=p1) (o:=.tup [pV (some g),.int (b:Int)])
    generalize upd H p1 (.tup [pV (some g),.int (b:Int)])=H1 at s1 g1 ⊢
    refine⟨_,rfl,⟨_,_,_,_,rfl,rfl,SqT.of (s1 _ _ hp),(atI_nat (j:=0) rfl),_,rfl,⟨_,_,_,_,rfl,rfl,SqT.of (s1 _ _ hp),(atI_nat (j:=1) rfl),(by show 2≤sizeLine; decide),fun p2 n2=>?_⟩⟩⟩
    have s2:=Same.new (o:=.tup [.int t.1,.int t.2.1]) n2
    have g2:=upd_same (H:=H1) (a:=p2) (o:=.tup [.int t.1,.int t.2.1])
    generalize upd H1 p2 (.tup [.int t.1,.int t.2.1])=H2 at s2 g2 ⊢
    exact⟨p1,p2,[g,(b:Int)],[t.1,t.2.1],rfl,rfl,SqT.of (s2 _ _ g1),SqT.of g2,q H2 (s1.trans s2)⟩
  | cons hx hr0 =>
   rename_i x0 t0 us0 ts0
   have e:decide ((0:Int) < ((x0::us0).length:Int))=true:=decide_eq_true (by rw[zS]; omega)
   rw[e]
   exact iteT (q H (Same.refl _))
theorem sc_may:FnScope ["self","station","event"] ["self","station","event"] (defScope (inClass (top 16) 9)):=⟨rfl,rfl,rfl,by decide +kernel,rfl,by decide +kernel,by decide +kernel⟩
theorem ok_may {f:Addr} {fd:FuncData} {tkD:Tok} (F:Fun K "may_take" "Own.may_take" (inClass (top 16) 9) f fd) (T:Txt K mg) (g_DOOR:mg "DOOR"=some (.int (-1) tkD)) (oc:OwC K C) (cc:CsOk K cs) (G_lets:MethAt P w K mg base 1 C "lets" ["self","belt","event"] (spLets cs C)):FnOk P w K mg base CX0 2 f fd ["self","station","event"] (spMay cs C):=by
 have nd:=sc_may.nd
 refine F.ok sc_may (fun vs H Q E h=>?_) (fun cdv A outer s H vs Q E hr h=>?_)
 ·obtain⟨o,M,s,A,v,t,r,rfl,_⟩:=h
  rfl
 ·obtain⟨o,M,s,A,v,t,r,rfl,hc,ok,is,hs,l100,ht,q⟩:=h
  have ct:=cc.st r.k
  refine⟨_,(@pss_one _ _ _ (@ps_ret _ _ _ _ (pe_callB (call_allB rfl) (by rfl) T.n_all bt_all (@pa_cons _ _ _ _ _ (pe_comp (own:=["belt"]) (fr:=["self","event"]) (js:=[0,2]) (by and_intros) (pi_tupK (K:=K) rfl (pe_fldK (K:=K) rfl (@pe_ix _ _ _ _ _ _ _ (ix_listK (K:=K) rfl) (pe_fldK (K:=K) rfl (pv 0) rfl) (pv 1) (fun _ _=>rfl)) rfl)) (fun _ _ _ _=>(pg_name (i:=0) (show List.Nodup (["belt","self","event"]:List Str) from by decide +kernel) rfl (by nofun))) (fun _ _ _ _=>(pts_one (pt_cmpR op_ne (pv 0) (pe_glob (v:=.int (-1)) (by rfl) (by exact g_DOOR) ⟨_,rfl⟩) (nomark _)))) (fun _ _ _ _=>(pe_mth G_lets (hr.mono (by decide)) (pv 1) (@pa_cons _ _ _ _ _ (pv 0) (@pa_cons _ _ _ _ _ (pv 2) pa_nil (by rfl)) (by rfl))))) pa_nil (by rfl))))),?_⟩
  refine⟨_,rfl,o.x,C,o.dx,o.flds,_,rfl,hc.get 0 0 rfl rfl,oc.cl,oc.n1,f_stas,_,rfl,⟨_,_,_,_,rfl,rfl,SqL.of (hc.get 0 1 rfl rfl),atI_nat (srefs_at hs),r.x,cs.of r.k,r.dx,r.flds,_,rfl,st_x hc hs,ct.cl,ct.nW,r.flds_ways,r.p1,rfl,⟨_,SqT.of (st_p1 hc hs)⟩,fun D nD=>?_⟩⟩
  refine comp_tup (a:=r.p1) (xs:=r.ws.map V.int) (fun i H5=>Same H H5∧H5 D=some (.lst ((((r.ws.take i).filter fun w=>!(w == -1)).map fun w=>A.lets t w.toNat).map V.bl))) ⟨Same.new nD,upd_same⟩ (fun i H5 _ p=>SqT.of (p.1 _ _ (st_p1 hc hs))) ?_ ?_
  ·rintro i x H5 m Wf hx ⟨s5,g5⟩ nx
   obtain⟨wy,rfl,hwy⟩:=ints_get hx
   have hi:=(zD.mp hwy).1
   have lf:((r.ws.take i).filter fun w=>!(w == -1)).length≤100:=by
    refine z4 (jF _ _) ?_
    rw[zU]; omega
   refine⟨_,rfl,rfl,_,rfl,?_⟩
   rw[dec_int]
   by_cases e:wy=-1
   ·rw[show(!(wy == -1))=false by simpa using e]
    refine iteF (nx _ ⟨s5,?_⟩)
    rw[take_1 hwy,jK,List.filter_cons_of_neg (by simpa using e),jU,yD]
    exact g5
   ·rw[show(!(wy == -1))=true by simpa using e]
    have hw:=ok.ways r (zG hs) wy (zG hwy)
    obtain⟨b,hb⟩:∃ b:Nat,wy=(b:Int):=⟨wy.toNat,by omega⟩
    subst hb
    refine iteT ⟨_,rfl,o.x,o.dx,o.flds,rfl,s5 _ _ (hc.get 0 0 rfl rfl),f_m (by decide +kernel),_,rfl,_,rfl,o,M,b,A,v,t,rfl,hc.same s5,ok,is.tk (Tk.of s5),(by omega),ht.same s5,fun H6 s6=>?_⟩
    refine⟨_,s6 _ _ g5,small1000 (by rw[zC,zC]; omega),nx _ ⟨(s5.trans s6).upd nD,?_⟩⟩
    rw[upd_same,take_1 hwy,jK,List.filter_cons_of_pos (by simpa using e),jU,zJ,zJ]
    rfl
  ·rintro H5 ⟨s5,g5⟩
   rw[zC,zX] at g5
   refine⟨D,_,rfl,SqL.of g5,?_⟩
   have:=q H5 s5
   unfold OA.may at this
   rw[List.all_map]
   exact this
end
end Oc
namespace Oc
open PySem L2
def OA.new (A:OA) (now:Option Int) (b:Nat):Option Int:=now.map fun n=>n + A.dl.getD b 0
def OA.stays (A:OA) (now:Option Int) (b:Nat):Bool:=match A.pr.getD b none with
 | none=>true
 | some p=>match A.new now b with
  | none=>false
  | some n=>decide (n≤p)
def OA.rp1 (A:OA) (now:Option Int) (b:Nat):OA × Bool:=if A.stays now b=true then (A,false) else ({ A with pr:=A.pr.set b (A.new now b) },true)
def OA.rps (A:OA) (now:Option Int) (bs:List Int):OA × Bool:=bs.foldl (fun p b=>((p.1.rp1 now b.toNat).1,p.2 || (p.1.rp1 now b.toNat).2)) (A,false)
def OA.ear (A:OA) (w:Int):List Tri→Option Int
 | t::_=>some t.1
 | []=>if w=-1 then none else A.pr.getD w.toNat none
def OA.clk (A:OA) (s:Nat) (ws:List Int):Option Int:=(ws.filterMap fun w=>A.ear w (evAt A.de A.re s w)).min?
theorem OIs.clk {H:Hp} {o:OR} {A:OA} (h:OIs H o A) (s:Nat) (r:SR):o.clk A.de A.re s r=A.clk s r.ws:=by
 unfold OR.clk OA.clk
 congr 1
 refine congrFun (congrArg _ (funext fun w=>?_)) _
 cases evAt A.de A.re s w with
 | nil=>unfold OR.ear OA.ear; rw[h.p]
 | cons t ts=>rfl
structure OTo (cs:Cs) (C:Addr) (M:List (List Cell)) (H H':Hp) (o o':OR) (A':OA):Prop where
 x:o'.x=o.x
 s:o'.srs=o.srs
 d:o'.dels=o.dels
 hc:Hc H' (ownCs cs C o'++M)
 ok:OOk o'
 is:OIs H' o' A'
 tk:Tk H H'
inductive spRp (cs:Cs) (C:Addr) (vs:List V) (H:Hp) (Q:VK) (x_3:XK):Prop where
 | mk (o:OR) (M:List (List Cell)) (b:Nat) (A:OA) (now:Option Int) (h_0:vs=[.ref o.x,.int (b:Int),pV now]) (h_1:Hc H (ownCs cs C o++M)) (h_2:OOk o) (h_3:OIs H o A) (h_4:b < o.dels.length) (h_5:∀(o':OR) (H':Hp),OTo cs C M H H' o o' (A.rp1 now b).1→Q (.bl (A.rp1 now b).2) H'):spRp cs C vs H Q x_3
inductive spRps (cs:Cs) (C:Addr) (vs:List V) (H:Hp) (Q:VK) (x_3:XK):Prop where
 | mk (o:OR) (M:List (List Cell)) (s:Nat) (A:OA) (r:SR) (h_0:vs=[.ref o.x,.int (s:Int)]) (h_1:Hc H (ownCs cs C o++M)) (h_2:OOk o) (h_3:OIs H o A) (h_4:o.srs[s]?=some r) (h_5:r.ws.length≤100) (h_6:∀(o':OR) (H':Hp),OTo cs C M H H' o o' (A.rps (A.clk s r.ws) r.bs).1→Q (.bl (A.rps (A.clk s r.ws) r.bs).2) H'):spRps cs C vs H Q x_3
theorem ixN_at {n i:Nat} (h:i < n):ixN n (i:Int)=some i:=by
 unfold ixN
 simp
 omega
theorem OOk.pr {o:OR} (ok:OOk o) (p:List (Option Int)) (h:p.length=o.pr.length):OOk { o with pr:=p }:=⟨ok.ld,ok.ldv,ok.lr,ok.lrv,h.trans ok.lp,ok.lg,ok.lgv,ok.s8,ok.b12,ok.ways,ok.belts⟩
theorem Evs.pr {H:Hp} {o:OR} {de re ge:List (List Tri)} (e:Evs H o de re ge) (p:List (Option Int)):Evs H { o with pr:=p } de re ge:=⟨e.d,e.r,e.g⟩
section
variable {P:Program} {w:World} {K:PySem.W.Frag} {mg:Str→Option Value} {base:Heap} {cs:Cs} {C:Addr}
theorem sc_rp:FnScope ["self","belt","now","old","new"] ["self","belt","now"] (defScope (inClass (top 16) 13)):=⟨rfl,rfl,rfl,by decide +kernel,rfl,by decide +kernel,by decide +kernel⟩
theorem ok_rp {f:Addr} {fd:FuncData} (F:Fun K "raise_promise" "Own.raise_promise" (inClass (top 16) 13) f fd) (oc:OwC K C):FnOk P w K mg base CX0 1 f fd ["self","belt","now"] (spRp cs C):=by
 have nd:=sc_rp.nd
 refine F.ok sc_rp (fun vs H Q E h=>?_) (fun cdv A outer s H vs Q E hr h=>?_)
 ·obtain⟨o,M,b,A,now,rfl,_⟩:=h
  rfl
 ·obtain⟨o,M,b,A,now,rfl,hc,ok,is,hb,q⟩:=h
  have lp:=ok.lp
  obtain⟨g,hg⟩:∃ g,o.pr[b]?=some g:=⟨o.pr[b]'(by omega),zB _⟩
  obtain⟨d,hd⟩:∃ d,o.dels[b]?=some d:=⟨o.dels[b]'(by omega),zB _⟩
  have eg:A.pr.getD b none=g:=by rw[← is.p,zA,hg]; rfl
  have ed:A.dl.getD b 0=d:=by rw[← is.d,zA,hd]; rfl
  have same:A.stays now b=true→Q (.bl false) H:=fun e=>by
   have h0:=q o H
   unfold OA.rp1 at h0
   rw[if_pos e] at h0
   exact h0 ⟨rfl,rfl,rfl,hc,ok,is,Tk.refl _⟩
  have go:A.stays now b=false→Q (.bl true) (upd H o.pl (.lst ((o.pr.map pV).set b (pV (A.new now b))))):=fun e=>by
   have h0:=q { o with pr:=o.pr.set b (A.new now b) } (upd H o.pl (.lst ((o.pr.map pV).set b (pV (A.new now b)))))
   unfold OA.rp1 at h0
   rw[if_neg (by rw[e]; decide)] at h0
   have hp:=hc.put 0 5 rfl rfl (.lst ((o.pr.map pV).set b (pV (A.new now b))))
   have tk:Tk H (upd H o.pl (.lst ((o.pr.map pV).set b (pV (A.new now b))))):=(Tk.refl H).put (hc.get 0 5 rfl rfl) (fun z=>z)
   refine h0 ⟨rfl,rfl,rfl,?_,ok.pr _ zT,⟨is.s,is.d,by show o.pr.set b _=A.pr.set b _; rw[is.p],(is.e.tk tk).pr _⟩,tk⟩
   rw[← qG] at hp ⊢
   exact hp
  unfold OA.stays OA.new at same
  unfold OA.stays at go
  rw[eg] at same go
  refine⟨_,(@pss_cons _ _ _ _ _ (ps_set (i:=3) nd rfl (by nofun) (@pe_ix _ _ _ _ _ _ _ (ix_listK (K:=K) rfl) (pe_fldK (K:=K) rfl (pv 0) rfl) (pv 1) (fun _ _=>rfl)))
   (@pss_cons _ _ _ _ _ (ps_set (i:=4) nd rfl (by nofun) (pe_ifExp (pt_cmpR op_isN (pv 2) pe_non (nomark _)) pe_non (pe_op op_add (pv 2) (@pe_ix _ _ _ _ _ _ _ (ix_listK (K:=K) rfl) (pe_fldK (K:=K) rfl (pv 0) rfl) (pv 1) (fun _ _=>rfl)))))
   (@pss_cons _ _ _ _ _ (ps_if ((pw_or (pt_cmpR op_isN (pv 3) pe_non (nomark _)) (pw_or1 ((pw_and (pt_cmpR op_notN (pv 4) pe_non (nomark _)) (pw_and1 (pt_cmpR op_le (pv 4) (pv 3) (nomark _))))).pt))).pt (@pss_one _ _ _ (@ps_ret _ _ _ _ pe_bl)) pss_nil)
   (@pss_cons _ _ _ _ _ (ps_asg (pv 4) (pg_sub (pe_fldK (K:=K) rfl (pv 0) rfl) (pv 1) set_list))
   (@pss_one _ _ _ (@ps_ret _ _ _ _ pe_bl)))))),?_⟩
  refine⟨_,rfl,o.x,C,o.dx,o.flds,_,rfl,hc.get 0 0 rfl rfl,oc.cl,oc.n5,f_prom,_,rfl,⟨_,_,_,_,rfl,rfl,SqL.of (hc.get 0 5 rfl rfl),atI_nat (by rw[zE,hg]; rfl),?_⟩⟩
  cases now with
  | none =>
   refine⟨_,rfl,rfl,_,rfl,iteT ?_⟩
   cases g with
   | none=>exact⟨_,rfl,rfl,_,rfl,iteT (iteT (same rfl))⟩
   | some p =>
    refine⟨_,rfl,rfl,_,rfl,iteF ⟨_,rfl,rfl,_,rfl,iteF (iteF ?_)⟩⟩
    exact⟨_,rfl,_,rfl,o.x,C,o.dx,o.flds,_,rfl,hc.get 0 0 rfl rfl,oc.cl,oc.n5,f_prom,_,rfl,o.pl,_,_,b,rfl,rfl,hc.get 0 5 rfl rfl,ixN_at (by rw[zC]; omega),go rfl⟩
  | some n =>
   refine⟨_,rfl,rfl,_,rfl,iteF ?_⟩
   refine⟨_,rfl,_,rfl,o.x,C,o.dx,o.flds,_,rfl,hc.get 0 0 rfl rfl,oc.cl,oc.n2,f_dels,_,rfl,⟨_,_,_,_,rfl,rfl,SqL.of (hc.get 0 2 rfl rfl),atI_nat (by rw[zE,hd]; rfl),_,_,rfl,rfl,?_⟩⟩
   have en:A.new (some n) b=some (n + d):=by unfold OA.new; rw[ed]; rfl
   cases g with
   | none=>exact⟨_,rfl,rfl,_,rfl,iteT (iteT (same rfl))⟩
   | some p =>
    refine⟨_,rfl,rfl,_,rfl,iteF ⟨_,rfl,rfl,_,rfl,iteT ⟨_,rfl,_,rfl,_,_,rfl,rfl,_,rfl,?_⟩⟩⟩
    rw[en] at go
    by_cases hle:n + d≤p
    ·rw[decide_eq_true hle]
     refine iteT (same ?_)
     rw[ed]
     exact decide_eq_true hle
    ·rw[decide_eq_false hle]
     refine iteF ?_
     exact⟨_,rfl,_,rfl,o.x,C,o.dx,o.flds,_,rfl,hc.get 0 0 rfl rfl,oc.cl,oc.n5,f_prom,_,rfl,o.pl,_,_,b,rfl,rfl,hc.get 0 5 rfl rfl,ixN_at (by rw[zC]; omega),go (decide_eq_false hle)⟩
theorem sc_rps:FnScope ["self","station","now","raised","belt"] ["self","station"] (defScope (inClass (top 16) 12)):=⟨rfl,rfl,rfl,by decide +kernel,rfl,by decide +kernel,by decide +kernel⟩
theorem ok_rps {f:Addr} {fd:FuncData} (F:Fun K "raise_promises" "Own.raise_promises" (inClass (top 16) 12) f fd) (oc:OwC K C) (cc:CsOk K cs) (G_clock:MethAt P w K mg base 3 C "clock" ["self","station"] (spClk cs C)) (G_raise_promise:MethAt P w K mg base 1 C "raise_promise" ["self","belt","now"] (spRp cs C)):FnOk P w K mg base CX0 4 f fd ["self","station"] (spRps cs C):=by
 have nd:=sc_rps.nd
 refine F.ok sc_rps (fun vs H Q E h=>?_) (fun cdv A outer s H vs Q E hr h=>?_)
 ·obtain⟨o,M,s,A,r,rfl,_⟩:=h
  rfl
 ·obtain⟨o,M,s,A,r,rfl,hc,ok,is,hs,l100,q⟩:=h
  have ct:=cc.st r.k
  refine⟨_,(@pss_cons _ _ _ _ _ (ps_set (i:=2) nd rfl (by nofun) (pe_mth G_clock (hr.mono (by decide)) (pv 0) (@pa_cons _ _ _ _ _ (pv 1) pa_nil (by rfl))))
   (@pss_cons _ _ _ _ _ (ps_set (i:=3) nd rfl (by nofun) pe_bl)
   (@pss_cons _ _ _ _ _ (ps_for PassesOwn.never rfl (pi_tupK (K:=K) rfl (pe_fldK (K:=K) rfl (@pe_ix _ _ _ _ _ _ _ (ix_listK (K:=K) rfl) (pe_fldK (K:=K) rfl (pv 0) rfl) (pv 1) (fun _ _=>rfl)) rfl)) (pg_name (i:=4) nd rfl (by nofun)) (@pss_one _ _ _ (ps_if (pt_val (pe_mth G_raise_promise (hr.mono (by decide)) (pv 0) (@pa_cons _ _ _ _ _ (pv 4) (@pa_cons _ _ _ _ _ (pv 2) pa_nil (by rfl)) (by rfl)))) (@pss_one _ _ _ (ps_set (i:=3) nd rfl (by nofun) pe_bl)) pss_nil)))
   (@pss_one _ _ _ (@ps_ret _ _ _ _ (pv 3)))))),?_⟩
  refine⟨_,rfl,o.x,o.dx,o.flds,rfl,hc.get 0 0 rfl rfl,f_m (by decide +kernel),_,rfl,o,M,s,r,A.de,A.re,A.ge,rfl,hc,ok,hs,l100,is.e,fun H1 s1=>?_⟩
  rw[is.clk]
  generalize A.clk s r.ws=now at q ⊢
  have hc1:=hc.same s1
  have is1:=is.tk (Tk.of s1)
  refine⟨_,rfl,o.x,C,o.dx,o.flds,_,rfl,hc1.get 0 0 rfl rfl,oc.cl,oc.n1,f_stas,_,rfl,⟨_,_,_,_,rfl,rfl,SqL.of (hc1.get 0 1 rfl rfl),atI_nat (srefs_at hs),r.x,cs.of r.k,r.dx,r.flds,_,rfl,st_x hc1 hs,ct.cl,ct.nB,r.flds_belts,r.p2,rfl,⟨_,SqT.of (st_p2 hc1 hs)⟩,?_⟩⟩
  refine for_tup (K:=K) (a:=r.p2) (xs:=r.bs.map V.int) (fun i σ H5=>∃(o':OR) (v4:Option V),σ=[some (.ref o.x),some (.int (s:Int)),some (pV now),some (.bl (A.rps now (r.bs.take i)).2),v4]∧OTo cs C M H H5 o o' (A.rps now (r.bs.take i)).1)
   ⟨o,none,rfl,rfl,rfl,rfl,hc1,ok,is1,Tk.of s1⟩ (fun i σ H5 _ ⟨o',_,_,t⟩=>SqT.of (st_p2 (o:=o') t.hc (by rw[t.s]; exact hs))) ?_ ?_
  ·rintro i x σ H5 hx ⟨o',v4,rfl,t⟩
   obtain⟨b,rfl,hb⟩:=ints_get hx
   obtain⟨b0,b1⟩:=ok.belts r (zG hs) b (zG hb)
   obtain⟨bn,rfl⟩:∃ bn:Nat,b=(bn:Int):=⟨b.toNat,by omega⟩
   have e1:A.rps now (r.bs.take (i + 1))=(((A.rps now (r.bs.take i)).1.rp1 now bn).1,(A.rps now (r.bs.take i)).2 || ((A.rps now (r.bs.take i)).1.rp1 now bn).2):=by
    unfold OA.rps
    rw[take_1 hb,jN]
    rfl
   have hgx:=t.hc.get 0 0 rfl rfl
   rw[t.x] at hgx
   refine⟨_,rfl,o.x,o'.dx,o'.flds,rfl,hgx,f_m (by decide +kernel),_,rfl,_,rfl,o',M,bn,(A.rps now (r.bs.take i)).1,now,(by rw[t.x]; rfl),t.hc,t.ok,t.is,(by rw[t.d]; omega),fun o2 H6 t2=>⟨_,rfl,?_⟩⟩
   have t3:OTo cs C M H H6 o o2 (A.rps now (r.bs.take (i + 1))).1:=by
    rw[e1]
    exact⟨t2.x.trans t.x,t2.s.trans t.s,t2.d.trans t.d,t2.hc,t2.ok,t2.is,t.tk.trans t2.tk⟩
   rw[e1] at t3
   cases eb:((A.rps now (r.bs.take i)).1.rp1 now bn).2 with
   | true =>
    refine iteT ⟨o2,some (.int (bn:Int)),?_,by rw[e1]; exact t3⟩
    rw[e1,eb,kG]
    rfl
   | false =>
    refine iteF ⟨o2,some (.int (bn:Int)),?_,by rw[e1]; exact t3⟩
    rw[e1,eb,j2]
    rfl
  ·rintro σ H5 ⟨o',v4,rfl,t⟩
   rw[zC,zX] at t ⊢
   exact⟨_,rfl,q o' H5 t⟩
end
end Oc
namespace Oc
open PySem L2
def OA.pop (A:OA) (s:Nat) (w:Int):OA:=if w=-1 then { A with de:=A.de.set s (A.de.getD s []).tail } else { A with re:=A.re.set w.toNat (A.re.getD w.toNat []).tail }
def OA.log (A:OA) (s:Nat) (t:Tri):OA:={ A with ge:=A.ge.set s (A.ge.getD s []++[t]) }
def OA.lay (A:OA) (b:Nat) (t:Tri):OA:={ A with re:=A.re.set b (A.re.getD b []++[t]) }
def OA.sta (A:OA) (s:Nat) (p:SP):OA:={ A with srs:=A.srs.set s p }
def OA.put (A:OA) (t:Tri):Option (Int × Int)→OA
 | none=>A
 | some p=>A.lay p.1.toNat (t.1 + A.dl.getD p.1.toNat 0,p.1,p.2)
def OA.take (A:OA) (s:Nat) (p:SP) (t:Tri):OA:=OA.put (((A.pop s t.2.1).log s t).sta s (p.nxt (p.ws.idxOf t.2.1) t.2.2)) t (p.out (p.ws.idxOf t.2.1) t.2.2)
structure OTs (cs:Cs) (C:Addr) (M:List (List Cell)) (H H':Hp) (o o':OR) (A':OA):Prop where
 x:o'.x=o.x
 d:o'.dels=o.dels
 hc:Hc H' (ownCs cs C o'++M)
 ok:OOk o'
 is:OIs H' o' A'
 tk:Tk H H'
theorem paired_tail {α β:Type} {F:α→β→Prop} {l:List α} {m:List β} (h:Paired F l m):Paired F (l.eraseIdx 0) m.tail:=by
 cases h with
 | nil=>exact .nil
 | cons _ r=>exact r
section
variable {cs:Cs} {C:Addr} {M:List (List Cell)} {H:Hp} {o:OR} {A:OA}
theorem OOk.dv (ok:OOk o) (p:List (List V)) (h:p.length=o.dv.length):OOk { o with dv:=p }:=⟨ok.ld,h.trans ok.ldv,ok.lr,ok.lrv,ok.lp,ok.lg,ok.lgv,ok.s8,ok.b12,ok.ways,ok.belts⟩
theorem OOk.rv (ok:OOk o) (p:List (List V)) (h:p.length=o.rv.length):OOk { o with rv:=p }:=⟨ok.ld,ok.ldv,ok.lr,h.trans ok.lrv,ok.lp,ok.lg,ok.lgv,ok.s8,ok.b12,ok.ways,ok.belts⟩
theorem OOk.gv (ok:OOk o) (p:List (List V)) (h:p.length=o.gv.length):OOk { o with gv:=p }:=⟨ok.ld,ok.ldv,ok.lr,ok.lrv,ok.lp,ok.lg,h.trans ok.lgv,ok.s8,ok.b12,ok.ways,ok.belts⟩
theorem pop_to (hc:Hc H (ownCs cs C o++M)) (ok:OOk o) (is:OIs H o A) {s:Nat} {w:Int} {us:List V} {a:Addr} (hat:o.at s w=some us) (ha:o.atA s w=some a):∃ o1,OTo cs C M H (upd H a (.lst (us.eraseIdx 0))) o o1 (A.pop s w):=by
 unfold OR.at at hat
 unfold OR.atA at ha
 unfold OA.pop
 by_cases e:w=-1
 ·rw[if_pos e] at hat ha ⊢
  have hput:=hc.put 1 s rfl (li_cell ha hat) (.lst (us.eraseIdx 0))
  have tk:Tk H (upd H a (.lst (us.eraseIdx 0))):=(Tk.refl H).put (hc.get 1 s rfl (li_cell ha hat)) (fun z=>z)
  rw[liC_set ha] at hput
  obtain⟨ts,hts,pt⟩:=is.e.d.gt hat
  have ev:=is.e.tk tk
  refine⟨{ o with dv:=o.dv.set s (us.eraseIdx 0) },rfl,rfl,rfl,hput,ok.dv _ zT,⟨is.s,is.d,is.p,?_,ev.r,ev.g⟩,tk⟩
  rw[zA,hts]
  exact paired_set ev.d (paired_tail (pairedMono (fun _ _ h=>h.tk tk) pt))
 ·rw[if_neg e] at hat ha ⊢
  have hput:=hc.put 2 w.toNat rfl (li_cell ha hat) (.lst (us.eraseIdx 0))
  have tk:Tk H (upd H a (.lst (us.eraseIdx 0))):=(Tk.refl H).put (hc.get 2 w.toNat rfl (li_cell ha hat)) (fun z=>z)
  rw[liC_set ha] at hput
  obtain⟨ts,hts,pt⟩:=is.e.r.gt hat
  have ev:=is.e.tk tk
  refine⟨{ o with rv:=o.rv.set w.toNat (us.eraseIdx 0) },rfl,rfl,rfl,hput,ok.rv _ zT,⟨is.s,is.d,is.p,ev.d,?_,ev.g⟩,tk⟩
  rw[zA,hts]
  exact paired_set ev.r (paired_tail (pairedMono (fun _ _ h=>h.tk tk) pt))
theorem log_to (hc:Hc H (ownCs cs C o++M)) (ok:OOk o) (is:OIs H o A) {s:Nat} {gs:List V} {a:Addr} {v:V} {t:Tri} (hg:o.gv[s]?=some gs) (ha:o.ga[s]?=some a) (ht:IsTri H v t):∃ o1,OTo cs C M H (upd H a (.lst (gs++[v]))) o o1 (A.log s t):=by
 have hput:=hc.put 3 s rfl (li_cell ha hg) (.lst (gs++[v]))
 have tk:Tk H (upd H a (.lst (gs++[v]))):=(Tk.refl H).put (hc.get 3 s rfl (li_cell ha hg)) (fun z=>z)
 rw[liC_set ha] at hput
 obtain⟨ts,hts,pt⟩:=is.e.g.gt hg
 have ev:=is.e.tk tk
 refine⟨{ o with gv:=o.gv.set s (gs++[v]) },rfl,rfl,rfl,hput,ok.gv _ zT,⟨is.s,is.d,is.p,ev.d,ev.r,?_⟩,tk⟩
 show Paired _ (o.gv.set s (gs++[v])) (A.ge.set s (A.ge.getD s []++[t]))
 rw[zA,hts]
 exact paired_set ev.g (paired_app (pairedMono (fun _ _ h=>h.tk tk) pt) (.cons (ht.tk tk) .nil))
theorem lay_to (hc:Hc H (ownCs cs C o++M)) (ok:OOk o) (is:OIs H o A) {b:Nat} {us:List V} {a:Addr} {v:V} {t:Tri} (hg:o.rv[b]?=some us) (ha:o.ra[b]?=some a) (ht:IsTri H v t):∃ o1,OTo cs C M H (upd H a (.lst (us++[v]))) o o1 (A.lay b t):=by
 have hput:=hc.put 2 b rfl (li_cell ha hg) (.lst (us++[v]))
 have tk:Tk H (upd H a (.lst (us++[v]))):=(Tk.refl H).put (hc.get 2 b rfl (li_cell ha hg)) (fun z=>z)
 rw[liC_set ha] at hput
 obtain⟨ts,hts,pt⟩:=is.e.r.gt hg
 have ev:=is.e.tk tk
 refine⟨{ o with rv:=o.rv.set b (us++[v]) },rfl,rfl,rfl,hput,ok.rv _ zT,⟨is.s,is.d,is.p,ev.d,?_,ev.g⟩,tk⟩
 show Paired _ (o.rv.set b (us++[v])) (A.re.set b (A.re.getD b []++[t]))
 rw[zA,hts]
 exact paired_set ev.r (paired_app (pairedMono (fun _ _ h=>h.tk tk) pt) (.cons (ht.tk tk) .nil))
theorem sta_to {H':Hp} {ft:List Cell} {s:Nat} {r r':SR} {X Y:List SR} (ok:OOk o) (is:OIs H o A) (hs:o.srs[s]?=some r) (eXY:o.srs=X++r::Y) (lX:X.length=s) (hx:r'.x=r.x) (hw:r'.ws=r.ws) (hb:r'.bs=r.bs)
  (hc:Hc H' (ft::srC cs r'::(stC cs X++stC cs Y)::hdC C o::liC o.da o.dv::liC o.ra o.rv::liC o.ga o.gv::M)) (tk:Tk H H'):OTs cs C (ft::M) H H' o { o with srs:=o.srs.set s r' } (A.sta s r'.pu):=by
 have eset:o.srs.set s r'=X++r'::Y:=by rw[eXY,← lX]; exact set_cut
 have erefs:srefs (o.srs.set s r')=srefs o.srs:=map_set_same hs (by rw[hx])
 refine⟨rfl,rfl,?_,⟨?_,?_,ok.lr,ok.lrv,ok.lp,?_,?_,?_,ok.b12,?_,?_⟩,⟨?_,is.d,is.p,(is.e.tk tk).d,(is.e.tk tk).r,(is.e.tk tk).g⟩,tk⟩
 ·have h1:Hc H' (srC cs r'::(stC cs X++stC cs Y)::hdC C o::liC o.da o.dv::liC o.ra o.rv::liC o.ga o.gv::ft::M):=by
   have h0:=hc.tl
   have h2:Hc H' (srC cs r'::(stC cs X++stC cs Y)::ft::hdC C o::liC o.da o.dv::liC o.ra o.rv::liC o.ga o.gv::M):=(hc.pick 2 rfl).pick 2 rfl
   have h3:Hc H' (liC o.ga o.gv::srC cs r'::(stC cs X++stC cs Y)::ft::hdC C o::liC o.da o.dv::liC o.ra o.rv::M):=h2.pick 6 rfl
   have h4:Hc H' (liC o.ra o.rv::liC o.ga o.gv::srC cs r'::(stC cs X++stC cs Y)::ft::hdC C o::liC o.da o.dv::M):=h3.pick 6 rfl
   have h5:Hc H' (liC o.da o.dv::liC o.ra o.rv::liC o.ga o.gv::srC cs r'::(stC cs X++stC cs Y)::ft::hdC C o::M):=h4.pick 6 rfl
   have h6:Hc H' (hdC C o::liC o.da o.dv::liC o.ra o.rv::liC o.ga o.gv::srC cs r'::(stC cs X++stC cs Y)::ft::M):=h5.pick 6 rfl
   exact(h6.pick 5 rfl).pick 5 rfl
  have h2:=st_back h1
  have eh:hdC C { o with srs:=o.srs.set s r' }=hdC C o:=by
   show [(_,_),(_,HO.lst (srefs (o.srs.set s r'))),_,_,_,_,_]=_
   rw[erefs]
   rfl
  show Hc H' (hdC C { o with srs:=o.srs.set s r' }::liC o.da o.dv::liC o.ra o.rv::liC o.ga o.gv::stC cs (o.srs.set s r')::ft::M)
  rw[eh,eset]
  have h3:Hc H' (liC o.ga o.gv::stC cs (X++r'::Y)::hdC C o::liC o.da o.dv::liC o.ra o.rv::ft::M):=h2.pick 4 rfl
  have h4:Hc H' (liC o.ra o.rv::liC o.ga o.gv::stC cs (X++r'::Y)::hdC C o::liC o.da o.dv::ft::M):=h3.pick 4 rfl
  have h5:Hc H' (liC o.da o.dv::liC o.ra o.rv::liC o.ga o.gv::stC cs (X++r'::Y)::hdC C o::ft::M):=h4.pick 4 rfl
  exact h5.pick 4 rfl
 ·show o.da.length=(o.srs.set s r').length; rw[zT]; exact ok.ld
 ·show o.dv.length=(o.srs.set s r').length; rw[zT]; exact ok.ldv
 ·show o.ga.length=(o.srs.set s r').length; rw[zT]; exact ok.lg
 ·show o.gv.length=(o.srs.set s r').length; rw[zT]; exact ok.lgv
 ·show(o.srs.set s r').length≤8; rw[zT]; exact ok.s8
 ·exact all_set ok.ways (by rw[hw]; exact ok.ways r (zG hs))
 ·exact all_set ok.belts (by rw[hb]; exact ok.belts r (zG hs))
 ·show(o.srs.set s r').map SR.pu=A.srs.set s r'.pu; rw[qG,is.s]
end
inductive spTE (cs:Cs) (C:Addr) (vs:List V) (H:Hp) (Q:VK) (x_3:XK):Prop where
 | mk (o:OR) (M:List (List Cell)) (s m:Nat) (A:OA) (v:V) (t:Tri) (r:SR) (h_0:vs=[.ref o.x,.int (s:Int),v]) (h_1:Hc H (ownCs cs C o++M)) (h_2:OOk o) (h_3:OIs H o A) (h_4:o.srs[s]?=some r) (h_5:(∀ q ∈ o.srs,SOk m q)) (h_6:m≤90000) (h_7:IsTri H v t) (h_8:t.2.1 ∈ r.ws) (h_9:evAt A.de A.re s t.2.1 ≠ []) (h_10:(∀ row ∈ A.re,row.length≤m)) (h_11:(∀ row ∈ A.ge,row.length≤m)) (h_12:∀(o':OR) (H':Hp),OTs cs C M H H' o o' (A.take s r.pu t)→(∀ q ∈ o'.srs,SOk (m + 1) q)→Q .non H'):spTE cs C vs H Q x_3
end Oc
namespace Oc
open PySem L2
theorem tl_nil {α:Type} {F:V→α→Prop} {us:List V} {ts:List α} (h:Paired F us ts) (n:ts ≠ []):∃ y,us[0]?=some y:=by
 cases h with
 | nil=>exact absurd rfl n
 | cons _ _=>exact⟨_,rfl⟩
section
variable {P:Program} {w:World} {K:PySem.W.Frag} {mg:Str→Option Value} {base:Heap} {cs:Cs} {C:Addr}
theorem sc_te:FnScope ["self","station","event","put","belt"] ["self","station","event"] (defScope (inClass (top 16) 11)):=⟨rfl,rfl,rfl,by decide +kernel,rfl,by decide +kernel,by decide +kernel⟩
theorem ok_te {f:Addr} {fd:FuncData} (F:Fun K "take_event" "Own.take_event" (inClass (top 16) 11) f fd) (T:Txt K mg) (oc:OwC K C) (cc:CsOk K cs) (G_row:MethAt P w K mg base 1 C "row" ["self","station","way"] (spRow cs C)) (G_take:∀ k,MethAt P w K mg base 2 (cs.of k) "take" ["self","way","piece"] (spTk cs k)):FnOk P w K mg base CX0 3 f fd ["self","station","event"] (spTE cs C):=by
 have nd:=sc_te.nd
 refine F.ok sc_te (fun vs H Q E h=>?_) (fun cdv A outer s H vs Q E hr h=>?_)
 ·obtain⟨o,M,s,m,A,v,t,r,rfl,_⟩:=h
  rfl
 ·obtain⟨o,M,s,m,A,v,t,r,rfl,hc,ok,is,hs,so,m9,ht,hw,hne,lr,lg,q⟩:=h
  obtain⟨p,rfl,hp⟩:=ht
  obtain⟨a1,us,hat⟩:=at_ok ok hs hw
  have pe:=ev_of is.e hat
  obtain⟨y,hy⟩:=tl_nil pe hne
  refine⟨_,(@pss_cons _ _ _ _ _ (ps_expr (pe_bm PySem.F.plainAttrs_list PySem.F.slot_list_pop PySem.F.type_list_pop mt_popAt (pe_mth G_row (hr.mono (by decide)) (pv 0) (@pa_cons _ _ _ _ _ (pv 1) (@pa_cons _ _ _ _ _ (@pe_ix _ _ _ _ _ _ _ (ix_tupK (K:=K) rfl) (pv 2) pe_int (fun _ _=>rfl)) pa_nil (by rfl)) (by rfl))) (@pa_cons _ _ _ _ _ pe_int pa_nil (by rfl))))
   (@pss_cons _ _ _ _ _ (ps_expr (pe_bm PySem.F.plainAttrs_list PySem.F.slot_list_append PySem.F.type_list_append mt_append (@pe_ix _ _ _ _ _ _ _ (ix_listK (K:=K) rfl) (pe_fldK (K:=K) rfl (pv 0) rfl) (pv 1) (fun _ _=>rfl)) (@pa_cons _ _ _ _ _ (pv 2) pa_nil (by rfl))))
   (@pss_cons _ _ _ _ _ (ps_set (i:=3) nd rfl (by nofun) (pe_mthU (cls:=cs.of) (sp:=spTk cs) G_take (hr.mono (by decide)) (@pe_ix _ _ _ _ _ _ _ (ix_listK (K:=K) rfl) (pe_fldK (K:=K) rfl (pv 0) rfl) (pv 1) (fun _ _=>rfl)) (@pa_cons _ _ _ _ _ (@pe_ix _ _ _ _ _ _ _ (ix_tupK (K:=K) rfl) (pv 2) pe_int (fun _ _=>rfl)) (@pa_cons _ _ _ _ _ (@pe_ix _ _ _ _ _ _ _ (ix_tupK (K:=K) rfl) (pv 2) pe_int (fun _ _=>rfl)) pa_nil (by rfl)) (by rfl))))
   (@pss_one _ _ _ (ps_if (pt_cmpR op_notN (pv 3) pe_non (nomark _)) (@pss_cons _ _ _ _ _ (ps_set (i:=4) nd rfl (by nofun) (@pe_ix _ _ _ _ _ _ _ (ix_tupK (K:=K) rfl) (pv 3) pe_int (fun _ _=>rfl)))
   (@pss_one _ _ _ (ps_expr (pe_bm PySem.F.plainAttrs_list PySem.F.slot_list_append PySem.F.type_list_append mt_append (@pe_ix _ _ _ _ _ _ _ (ix_listK (K:=K) rfl) (pe_fldK (K:=K) rfl (pv 0) rfl) (pv 4) (fun _ _=>rfl)) (@pa_cons _ _ _ _ _ (@pe_tup _ _ _ _ _ (@pa_cons _ _ _ _ _ (pe_op op_add (@pe_ix _ _ _ _ _ _ _ (ix_tupK (K:=K) rfl) (pv 2) pe_int (fun _ _=>rfl)) (@pe_ix _ _ _ _ _ _ _ (ix_listK (K:=K) rfl) (pe_fldK (K:=K) rfl (pv 0) rfl) (pv 4) (fun _ _=>rfl))) (@pa_cons _ _ _ _ _ (pv 4) (@pa_cons _ _ _ _ _ (@pe_ix _ _ _ _ _ _ _ (ix_tupK (K:=K) rfl) (pv 3) pe_int (fun _ _=>rfl)) pa_nil (by rfl)) (by rfl)) (by rfl))) pa_nil (by rfl)))))) pss_nil))))),?_⟩
  refine⟨_,rfl,o.x,o.dx,o.flds,rfl,hc.get 0 0 rfl rfl,f_m (by decide +kernel),_,rfl,_,rfl,⟨_,_,_,_,rfl,rfl,SqT.of hp,atI_nat (j:=1) rfl,o,M,s,t.2.1,us,rfl,hc,ok,a1,hat,fun a ha hl=>⟨tyL hl,a,us,0,0,y,rfl,rfl,hl,by decide,by decide,seqIndex_of (k:=0) (by decide) (by have:=(zD.mp hy).1; omega),hy,?_⟩⟩⟩
  obtain⟨o1,t1⟩:=pop_to hc ok is hat ha
  generalize upd H a (.lst (us.eraseIdx 0))=H1 at t1 ⊢
  have hx1:=t1.hc.get 0 0 rfl rfl
  rw[t1.x] at hx1
  have hp1:=t1.tk.tup hp
  have hs1:o1.srs[s]?=some r:=by rw[t1.s]; exact hs
  have hsl:=(zD.mp hs1).1
  have lgv:=t1.ok.lgv
  obtain⟨gs,hgs⟩:∃ gs,o1.gv[s]?=some gs:=⟨o1.gv[s]'(by omega),zB _⟩
  obtain⟨ga,hga,hgl⟩:=t1.ok.log t1.hc hgs
  obtain⟨tg,htg,ptg⟩:=t1.is.e.g.gt hgs
  have lgs:gs.length≤90000:=by
   rw[ptg.length]
   have e0:(A.pop s t.2.1).ge=A.ge:=by unfold OA.pop; split <;> rfl
   rw[e0] at htg
   exact z4 (lg _ (zG htg)) m9
  refine⟨_,rfl,o.x,C,o1.dx,o1.flds,_,rfl,hx1,oc.cl,oc.n6,f_logs,_,rfl,⟨_,_,_,_,rfl,rfl,SqL.of (t1.hc.get 0 6 rfl rfl),atI_nat (refs_at hga),tyL hgl,_,rfl,ga,gs,_,rfl,rfl,hgl,smallM (by omega),?_⟩⟩
  obtain⟨o2,t2⟩:=log_to t1.hc t1.ok t1.is hgs hga (v:=.ref p) (t:=t) ⟨p,rfl,hp1⟩
  generalize upd H1 ga (.lst (gs++[.ref p]))=H2 at t2 ⊢
  have ex2:o2.x=o.x:=t2.x.trans t1.x
  have hx2:=t2.hc.get 0 0 rfl rfl
  rw[ex2] at hx2
  have hs2:o2.srs[s]?=some r:=by rw[t2.s]; exact hs1
  have hp2:=t2.tk.tup hp1
  have T2:=t1.tk.trans t2.tk
  obtain⟨X,Y,eXY,lX⟩:=cut_at hs2
  have hcT:Hc H2 (srC cs r::(stC cs X++stC cs Y)::hdC C o2::liC o2.da o2.dv::liC o2.ra o2.rv::liC o2.ga o2.gv::M):=st_take (by rw[← eXY]; exact t2.hc.pick 4 rfl)
  have hjm:r.ws[r.ws.idxOf t.2.1]?=some t.2.1:=by
   have hlt:r.ws.idxOf t.2.1 < r.ws.length:=j0.mpr hw
   rw[zB hlt,List.getElem_idxOf]
  refine⟨_,rfl,o.x,C,o2.dx,o2.flds,_,rfl,hx2,oc.cl,oc.n1,f_stas,_,rfl,⟨_,_,_,_,rfl,rfl,SqL.of (t2.hc.get 0 1 rfl rfl),atI_nat (srefs_at hs2),r.x,r.k,r.dx,_,rfl,hcT.get 0 0 rfl rfl,r.flds_no (by decide +kernel) (by decide +kernel) (by decide +kernel) (by decide +kernel) (by decide +kernel) (by decide +kernel),_,rfl,⟨_,_,_,_,rfl,rfl,SqT.of hp2,atI_nat (j:=1) rfl,_,rfl,⟨_,_,_,_,rfl,rfl,SqT.of hp2,atI_nat (j:=2) rfl,?_⟩⟩⟩⟩
  refine⟨r,r.ws.idxOf t.2.1,m,t.2.1,t.2.2,_,rfl,rfl,hcT,so r (zG hs),m9,hjm,fun v ft H3 hput hc3 tk3=>?_⟩
  have nx:=r.nxt_x (r.ws.idxOf t.2.1) t.2.2
  have t3:=sta_to t2.ok t2.is hs2 eXY lX nx.1 nx.2.2.1 nx.2.2.2 hc3 tk3
  have npu:=r.nxt_pu (r.ws.idxOf t.2.1) t.2.2
  rw[npu] at t3
  have so3:∀ q ∈ o2.srs.set s (r.nxt (r.ws.idxOf t.2.1) t.2.2),SOk (m + 1) q:=all_set (fun q hq=>(so q (by rw[← t1.s,← t2.s]; exact hq)).le (yM m)) ((so r (zG hs)).nxt _ _)
  have T3:=T2.trans tk3
  have ew:(A.take s r.pu t)=OA.put (((A.pop s t.2.1).log s t).sta s (r.pu.nxt (r.ws.idxOf t.2.1) t.2.2)) t (r.pu.out (r.ws.idxOf t.2.1) t.2.2):=rfl
  have eo:=r.out_pu (r.ws.idxOf t.2.1) t.2.2
  rw[eo] at hput
  generalize ho:r.pu.out (r.ws.idxOf t.2.1) t.2.2=out at hput ew
  generalize hA3:((A.pop s t.2.1).log s t).sta s (r.pu.nxt (r.ws.idxOf t.2.1) t.2.2)=A3 at t3 ew
  have eA3:A3.dl=A.dl∧∀ row ∈ A3.re,row.length≤m:=by
   rw[← hA3]
   unfold OA.sta OA.log OA.pop
   split
   ·exact⟨rfl,lr⟩
   ·refine⟨rfl,all_set lr ?_⟩
    rw[qV,zA]
    cases e:A.re[t.2.1.toNat]? with
    | none=>exact zW _
    | some row=>have:=lr row (zG e); show row.length - 1≤m; omega
  rw[ew] at q
  obtain⟨o3,t3,so3⟩:∃ o3,OTs cs C (ft::M) H2 H3 o2 o3 A3∧∀ q ∈ o3.srs,SOk (m + 1) q:=⟨_,t3,so3⟩
  cases hput with
  | no =>
   refine⟨_,rfl,rfl,_,rfl,iteF ?_⟩
   exact q _ H3 ⟨t3.x.trans ex2,t3.d.trans (t2.d.trans t1.d),t3.hc.pick 5 rfl |>.tl,t3.ok,t3.is,T3⟩ so3
  | yes b y' pt =>
   have hpt:=t3.hc.get 5 0 rfl rfl
   have hb:=SP.out_in ho
   obtain⟨b0,b1⟩:=ok.belts r (zG hs) b hb
   obtain⟨bn,rfl⟩:∃ bn:Nat,b=(bn:Int):=⟨b.toNat,by omega⟩
   have hx3:=t3.hc.get 0 0 rfl rfl
   rw[t3.x,ex2] at hx3
   have ed3:=t3.d.trans (t2.d.trans t1.d)
   have hp3:=T3.tup hp
   refine⟨_,rfl,rfl,_,rfl,iteT ⟨_,rfl,⟨_,_,_,_,rfl,rfl,SqT.of hpt,atI_nat (j:=0) rfl,?_⟩⟩⟩
   have hcM:=(t3.hc.pick 5 rfl).tl
   have ok3:=t3.ok
   have is3:=t3.is
   have lrv:=ok3.lrv
   obtain⟨us3,hus3⟩:∃ us,o3.rv[bn]?=some us:=⟨o3.rv[bn]'(by omega),zB _⟩
   obtain⟨ra,hra,hrl⟩:=ok3.belt hcM hus3
   obtain⟨d,hd⟩:∃ d,o3.dels[bn]?=some d:=⟨o3.dels[bn]'(by omega),zB _⟩
   obtain⟨tr,htr,ptr⟩:=is3.e.r.gt hus3
   have lus:us3.length≤90000:=by
    rw[ptr.length]
    exact z4 (eA3.2 _ (zG htr)) m9
   have ed:A3.dl.getD bn 0=d:=by rw[← is3.d,zA,hd]; rfl
   refine⟨_,rfl,o.x,C,o3.dx,o3.flds,_,rfl,hx3,oc.cl,oc.n4,f_rows,_,rfl,⟨_,_,_,_,rfl,rfl,SqL.of (hcM.get 0 4 rfl rfl),atI_nat (refs_at hra),tyL hrl,_,rfl,⟨_,_,_,_,rfl,rfl,SqT.of hp3,atI_nat (j:=0) rfl,_,rfl,o.x,C,o3.dx,o3.flds,_,rfl,hx3,oc.cl,oc.n2,f_dels,_,rfl,⟨_,_,_,_,rfl,rfl,SqL.of (hcM.get 0 2 rfl rfl),atI_nat (by rw[zE,hd]; rfl),_,_,rfl,rfl,_,rfl,_,rfl,⟨_,_,_,_,rfl,rfl,SqT.of hpt,atI_nat (j:=1) rfl,(by show 3≤sizeLine; decide),fun pn nn=>?_⟩⟩⟩⟩⟩
   have s4:=Same.new (o:=.tup (triV (t.1 + d,(bn:Int),y'))) nn
   have g4:=upd_same (H:=H3) (a:=pn) (o:=.tup (triV (t.1 + d,(bn:Int),y')))
   change rAppend _ _ (upd H3 pn (.tup (triV (t.1 + d,(bn:Int),y')))) _
   generalize upd H3 pn (.tup (triV (t.1 + d,(bn:Int),y')))=H4 at s4 g4 ⊢
   refine⟨ra,us3,_,rfl,rfl,s4 _ _ hrl,smallM (by omega),?_⟩
   obtain⟨o5,t5⟩:=lay_to (hcM.same s4) ok3 (is3.tk (Tk.of s4)) hus3 hra (v:=.ref pn) (t:=(t.1 + d,(bn:Int),y')) ⟨pn,rfl,g4⟩
   generalize upd H4 ra (.lst (us3++[.ref pn]))=H5 at t5 ⊢
   have ep:OA.put A3 t (some ((bn:Int),y'))=A3.lay bn (t.1 + d,(bn:Int),y'):=by
    show A3.lay (Int.toNat (bn:Int)) _=_
    rw[z5,ed]
   rw[ep] at q
   exact q o5 H5 ⟨t5.x.trans (t3.x.trans ex2),t5.d.trans ed3,t5.hc,t5.ok,t5.is,T3.trans ((Tk.of s4).trans t5.tk)⟩ (by rw[t5.s]; exact so3)
end
end Oc
namespace Oc
open PySem L2
def OA.tkn (A:OA) (s:Nat) (p:SP):Option Tri:=match A.upc s p.ws with
 | none=>none
 | some t=>if A.may p.ws t=true then some t else none
def OA.aft (A:OA) (s:Nat) (p:SP):OA:=match A.tkn s p with
 | none=>A
 | some t=>A.take s p t
def OA.rsd (A:OA) (s:Nat) (p:SP):OA × Bool:=A.rps (A.clk s p.ws) p.bs
def OA.stp (A:OA) (s:Nat) (p:SP):OA × Str:=(((A.aft s p).rsd s p).1,if (A.tkn s p).isSome=true then "took" else if ((A.aft s p).rsd s p).2=true then "raised" else "none")
structure AOk (m:Nat) (A:OA):Prop where
 d:∀ row ∈ A.de,∀ t ∈ row,t.2.1=-1
 r:∀(j:Nat) row,A.re[j]?=some row→∀ t ∈ row,t.2.1=(j:Int)
 lr:∀ row ∈ A.re,row.length≤m
 lg:∀ row ∈ A.ge,row.length≤m
theorem AOk.le {m n:Nat} {A:OA} (h:AOk m A) (e:m≤n):AOk n A:=⟨h.d,h.r,fun row hr=>z4 (h.lr row hr) e,fun row hr=>z4 (h.lg row hr) e⟩
theorem getD_row {l:List (List Tri)} {i:Nat} {p:List Tri→Prop} (h0:p []) (h:∀ row ∈ l,p row):p (l.getD i []):=by
 rw[zA]
 cases e:l[i]? with
 | none=>exact h0
 | some r=>exact h r (zG e)
theorem AOk.pop {m:Nat} {A:OA} (h:AOk m A) (s:Nat) (w:Int):AOk m (A.pop s w):=by
 unfold OA.pop
 split
 ·refine⟨all_set h.d fun t ht=>?_,h.r,h.lr,h.lg⟩
  exact getD_row (p:=fun row=>∀ t ∈ row,t.2.1=-1) (fun _ z=>absurd z zK) h.d t (jH ht)
 ·refine⟨h.d,fun j row hj t ht=>?_,all_set h.lr ?_,h.lg⟩
  ·by_cases e:w.toNat=j
   ·by_cases hl:j < A.re.length
    ·rw[e,y8 hl] at hj
     cases hj
     rw[zA,zB hl] at ht
     exact h.r j _ (zB hl) t (jH ht)
    ·rw[yF (by rw[zT]; omega)] at hj
     cases hj
   ·rw[qI e] at hj
    exact h.r j row hj t ht
  ·have:=getD_row (i:=w.toNat) (p:=fun row=>row.length≤m) (zW _) h.lr
   rw[qV]
   omega
theorem AOk.log {m:Nat} {A:OA} (h:AOk m A) (s:Nat) (t:Tri):AOk (m + 1) (A.log s t):=by
 have h':=h.le (yM m)
 refine⟨h'.d,h'.r,h'.lr,all_set h'.lg ?_⟩
 have:=getD_row (i:=s) (p:=fun row=>row.length≤m) (zW _) h.lg
 rw[zN]
 show _ + 1≤_
 omega
theorem AOk.put {m:Nat} {A:OA} (hr:∀ row ∈ A.re,row.length≤m) (h:AOk (m + 1) A) (t:Tri) (o:Option (Int × Int)) (ho:∀ b y,o=some (b,y)→0≤b):AOk (m + 1) (A.put t o):=by
 cases o with
 | none=>exact h
 | some p =>
  obtain⟨b,y⟩:=p
  have b0:=ho b y rfl
  refine⟨h.d,fun j row hj u hu=>?_,all_set h.lr ?_,h.lg⟩
  ·replace hj:(A.re.set b.toNat (A.re.getD b.toNat []++[(t.1 + A.dl.getD b.toNat 0,b,y)]))[j]?=some row:=hj
   by_cases e:b.toNat=j
   ·by_cases hl:j < A.re.length
    ·rw[e,y8 hl] at hj
     cases hj
     rcases yA.mp hu with z|z
     ·rw[zA,zB hl] at z
      exact h.r j _ (zB hl) u z
     ·rw[zF.mp z]
      show b=(j:Int)
      omega
    ·rw[yF (by rw[zT]; omega)] at hj
     cases hj
   ·rw[qI e] at hj
    exact h.r j row hj u hu
  ·have:=getD_row (i:=b.toNat) (p:=fun row=>row.length≤m) (zW _) hr
   rw[zN]
   show _ + 1≤_
   omega
theorem AOk.take {m:Nat} {A:OA} (h:AOk m A) (s:Nat) (p:SP) (t:Tri) (hb:∀ b ∈ p.bs,0≤b):AOk (m + 1) (A.take s p t):=by
 have h1:=(h.pop s t.2.1)
 have h2:=h1.log s t
 refine AOk.put (A:=((A.pop s t.2.1).log s t).sta s _) h1.lr ⟨h2.d,h2.r,h2.lr,h2.lg⟩ t _ fun b y e=>hb b (SP.out_in e)
theorem rp1_like (A:OA) (now:Option Int) (b:Nat):(A.rp1 now b).1.de=A.de∧(A.rp1 now b).1.re=A.re∧(A.rp1 now b).1.ge=A.ge:=by
 unfold OA.rp1
 split <;> exact⟨rfl,rfl,rfl⟩
theorem rps_like (now:Option Int) (A:OA):∀(bs:List Int) (B:OA) (c:Bool),B.de=A.de∧B.re=A.re∧B.ge=A.ge→(bs.foldl (fun p b=>((p.1.rp1 now b.toNat).1,p.2 || (p.1.rp1 now b.toNat).2)) (B,c)).1.de=A.de∧(bs.foldl (fun p b=>((p.1.rp1 now b.toNat).1,p.2 || (p.1.rp1 now b.toNat).2)) (B,c)).1.re=A.re∧(bs.foldl (fun p b=>((p.1.rp1 now b.toNat).1,p.2 || (p.1.rp1 now b.toNat).2)) (B,c)).1.ge=A.ge
 | [],_,_,h=>h
 | b::bs,B,c,h=>rps_like now A bs _ _ ⟨(rp1_like B now b.toNat).1.trans h.1,(rp1_like B now b.toNat).2.1.trans h.2.1,(rp1_like B now b.toNat).2.2.trans h.2.2⟩
theorem AOk.rsd {m:Nat} {A:OA} (h:AOk m A) (s:Nat) (p:SP):AOk m (A.rsd s p).1:=by
 obtain⟨e1,e2,e3⟩:=rps_like (A.clk s p.ws) A p.bs A false ⟨rfl,rfl,rfl⟩
 exact⟨by show ∀ row ∈ (A.rps _ _).1.de,_; unfold OA.rps; rw[e1]; exact h.d,by show ∀ j row,(A.rps _ _).1.re[j]?=_→_; unfold OA.rps; rw[e2]; exact h.r,by show ∀ row ∈ (A.rps _ _).1.re,_; unfold OA.rps; rw[e2]; exact h.lr,by show ∀ row ∈ (A.rps _ _).1.ge,_; unfold OA.rps; rw[e3]; exact h.lg⟩
theorem upc_in {m:Nat} {A:OA} (h:AOk m A) {s:Nat} {ws:List Int} (hw:∀ w ∈ ws,w=-1∨0≤w) {t:Tri} (e:A.upc s ws=some t):t.2.1 ∈ ws∧evAt A.de A.re s t.2.1 ≠ []:=by
 have hm:=zG e
 unfold OA.hds at hm
 obtain⟨w,hw1,hh⟩:=yU.mp hm
 have hin:t ∈ evAt A.de A.re s w:=jE hh
 have ew:t.2.1=w:=by
  unfold evAt at hin
  split at hin
  ·rename_i z
   rw[z]
   exact getD_row (p:=fun row=>∀ t ∈ row,t.2.1=-1) (fun _ z=>absurd z zK) h.d t hin
  ·rename_i z
   have w0:=(hw w hw1).resolve_left z
   rw[zA] at hin
   cases er:A.re[w.toNat]? with
   | none=>rw[er] at hin; exact absurd hin zK
   | some row =>
    rw[er] at hin
    have:=h.r w.toNat row er t hin
    omega
 rw[ew]
 exact⟨hw1,List.ne_nil_of_mem hin⟩
def TkP (P:Addr) (H H':Hp):Prop:=∀ b u,H b=some u→ImmO u→b ≠ P→H' b=some u
theorem TkP.tk {P:Addr} {H H1 H2:Hp} (a:TkP P H H1) (b:Tk H1 H2):TkP P H H2:=fun c u e i n=>b c u (a c u e i n) i
theorem TkP.of {P:Addr} {H H1:Hp} (k:Keep [P] H H1):TkP P H H1:=fun b u e _ n=>k b u e (by rw[zF]; exact n)
theorem _root_.L2.LamT.tkm {P:Addr} {q:Str} {ln cl:Nat} {H H':Hp} (h:LamT P q ln cl H) (k:Tk H H'):LamT P q ln cl H':=by
 rcases h with h|⟨c',h1,h2⟩
 ·exact .inl (k _ _ h trivial)
 ·exact .inr ⟨c',k _ _ h1 trivial,k _ _ h2 trivial⟩
theorem noT_own {cs:Cs} {C:Addr} {o:OR} {M:List (List Cell)} (n:NoT M):NoT (ownCs cs C o++M):=by
 refine NoT.cons (fun x hx=>?_) (NoT.cons noT_rows (NoT.cons noT_rows (NoT.cons noT_rows (NoT.cons (noT_st cs o.srs) n))))
 simp only [hdC,zQ,zK,or_false] at hx
 rcases hx with e|e|e|e|e|e|e <;> rw[e] <;> exact fun _ z=>nomatch z
theorem _root_.L2.Hc.keepP {P:Addr} {q:Str} {ln cl:Nat} {H H':Hp} {Ms:List (List Cell)} (h:Hc H Ms) (n:NoT Ms) (hT:LamT P q ln cl H) (k:Keep [P] H H'):Hc H' Ms:=⟨h.1,fun c hc=>k _ _ (h.2 c hc) (by rw[zF]; exact hT.ne (h.2 c hc) (n c hc))⟩
theorem OIs.kp {P:Addr} {q:Str} {ln cl:Nat} {H H':Hp} {o:OR} {A:OA} (hT:LamT P q ln cl H) (k:Keep [P] H H') (h:OIs H o A):OIs H' o A :=
 ⟨h.s,h.d,h.p,pairedMono (fun _ _ h=>pairedMono (fun _ _ h=>Keep.tri k hT h) h) h.e.d,pairedMono (fun _ _ h=>pairedMono (fun _ _ h=>Keep.tri k hT h) h) h.e.r,pairedMono (fun _ _ h=>pairedMono (fun _ _ h=>Keep.tri k hT h) h) h.e.g⟩
structure OSt (cs:Cs) (C Pu:Addr) (M:List (List Cell)) (m:Nat) (H H':Hp) (o o':OR) (A':OA):Prop where
 x:o'.x=o.x
 d:o'.dels=o.dels
 l:o'.srs.length=o.srs.length
 hc:Hc H' (ownCs cs C o'++M)
 ok:OOk o'
 is:OIs H' o' A'
 so:∀ q ∈ o'.srs,SOk (m + 1) q
 ao:AOk (m + 1) A'
 up:UpT Pu H'
 tk:TkP Pu H H'
inductive spStep (cs:Cs) (C Pu:Addr) (vs:List V) (H:Hp) (Q:VK) (x_3:XK):Prop where
 | mk (o:OR) (M:List (List Cell)) (s m:Nat) (A:OA) (r:SR) (h_0:vs=[.ref o.x,.int (s:Int)]) (h_1:Hc H (ownCs cs C o++M)) (h_2:NoT M) (h_3:OOk o) (h_4:OIs H o A) (h_5:o.srs[s]?=some r) (h_6:(∀ q ∈ o.srs,SOk m q)) (h_7:m≤90000) (h_8:AOk m A) (h_9:UpT Pu H) (h_10:∀(o':OR) (H':Hp),OSt cs C Pu M m H H' o o' (A.stp s r.pu).1→Q (.str (A.stp s r.pu).2) H'):spStep cs C Pu vs H Q x_3
theorem take_len (A:OA) (s:Nat) (p:SP) (t:Tri):(A.take s p t).srs=A.srs.set s (p.nxt (p.ws.idxOf t.2.1) t.2.2):=by
 unfold OA.take
 have e:∀(B:OA) (o:Option (Int × Int)),(B.put t o).srs=B.srs:=fun B o=>by cases o <;> rfl
 rw[e]
 show(OA.pop A s t.2.1).srs.set s _=_
 have e2:(OA.pop A s t.2.1).srs=A.srs:=by unfold OA.pop; split <;> rfl
 rw[e2]
section
variable {P:Program} {w:World} {K:PySem.W.Frag} {mg:Str→Option Value} {base:Heap} {cs:Cs} {C:Addr}
theorem sc_step:FnScope ["self","station","event","took","raised"] ["self","station"] (defScope (inClass (top 16) 5)):=⟨rfl,rfl,rfl,by decide +kernel,rfl,by decide +kernel,by decide +kernel⟩
theorem ok_step {f Pu:Addr} {fd:FuncData} (F:Fun K "step" "Own.step" (inClass (top 16) 5) f fd) (G_upcoming:MethAt P w K mg base 2 C "upcoming" ["self","station"] (spUpc cs C Pu)) (G_may_take:MethAt P w K mg base 2 C "may_take" ["self","station","event"] (spMay cs C)) (G_take_event:MethAt P w K mg base 3 C "take_event" ["self","station","event"] (spTE cs C)) (G_raise_promises:MethAt P w K mg base 4 C "raise_promises" ["self","station"] (spRps cs C)):FnOk P w K mg base CX0 5 f fd ["self","station"] (spStep cs C Pu):=by
 have nd:=sc_step.nd
 refine F.ok sc_step (fun vs H Q E h=>?_) (fun cdv A outer s H vs Q E hr h=>?_)
 ·obtain⟨o,M,s,m,A,r,rfl,_⟩:=h
  rfl
 ·obtain⟨o,M,s,m,A,r,rfl,hc,nT,ok,is,hs,so,m9,ao,hT,q⟩:=h
  have l100:=(so r (zG hs)).l1
  have wok:∀ w ∈ r.ws,w=-1∨0≤w:=fun w hw=>(ok.ways r (zG hs) w hw).imp id And.left
  have bok:∀ b ∈ r.bs,0≤b:=fun b hb=>(ok.belts r (zG hs) b hb).1
  refine⟨_,(@pss_cons _ _ _ _ _ (ps_set (i:=2) nd rfl (by nofun) (pe_mth G_upcoming (hr.mono (by decide)) (pv 0) (@pa_cons _ _ _ _ _ (pv 1) pa_nil (by rfl))))
   (@pss_cons _ _ _ _ _ (ps_set (i:=3) nd rfl (by nofun) (pe_and (pe_cmpR op_notN (pv 2) pe_non (nomark _)) (pe_one (pe_mth G_may_take (hr.mono (by decide)) (pv 0) (@pa_cons _ _ _ _ _ (pv 1) (@pa_cons _ _ _ _ _ (pv 2) pa_nil (by rfl)) (by rfl))))))
   (@pss_cons _ _ _ _ _ (ps_if (pt_val (pv 3)) (@pss_one _ _ _ (ps_expr (pe_mth G_take_event (hr.mono (by decide)) (pv 0) (@pa_cons _ _ _ _ _ (pv 1) (@pa_cons _ _ _ _ _ (pv 2) pa_nil (by rfl)) (by rfl))))) pss_nil)
   (@pss_cons _ _ _ _ _ (ps_set (i:=4) nd rfl (by nofun) (pe_mth G_raise_promises (hr.mono (by decide)) (pv 0) (@pa_cons _ _ _ _ _ (pv 1) pa_nil (by rfl))))
   (@pss_cons _ _ _ _ _ (ps_if (pt_val (pv 3)) (@pss_one _ _ _ (@ps_ret _ _ _ _ pe_str)) pss_nil)
   (@pss_one _ _ _ (@ps_ret _ _ _ _ (pe_ifExp (pt_val (pv 4)) pe_str pe_str)))))))),?_⟩
  refine⟨_,rfl,o.x,o.dx,o.flds,rfl,hc.get 0 0 rfl rfl,f_m (by decide +kernel),_,rfl,o,M,s,A,r,rfl,hc,ok,is,hs,l100,hT,fun v H1 kp hT1 hv=>?_⟩
  have hc1:=hc.keepP (noT_own nT) hT kp
  have is1:=is.kp hT kp
  have k1:TkP Pu H H1:=TkP.of kp
  have hx1:=hc1.get 0 0 rfl rfl
  have fin0:A.tkn s r.pu=none→∀(o':OR) (H':Hp),OTo cs C M H1 H' o o' (A.rps (A.clk s r.ws) r.bs).1→Q (.str (if (A.rps (A.clk s r.ws) r.bs).2=true then "raised" else "none")) H':=fun e o' H' t=>by
   have ea:A.aft s r.pu=A:=by unfold OA.aft; rw[e]
   have h0:=q o' H'
   unfold OA.stp at h0
   rw[ea,e] at h0
   exact h0 ⟨t.x,t.d,by rw[t.s],t.hc,t.ok,t.is,by rw[t.s]; exact fun q hq=>(so q hq).le (yM m),(ao.rsd s r.pu).le (yM m),hT1.tkm t.tk,k1.tk t.tk⟩
  cases hu:A.upc s r.ws with
  | none =>
   rw[hu] at hv
   replace hv:v=.non:=hv
   subst hv
   have e0:A.tkn s r.pu=none:=by unfold OA.tkn; rw[show r.pu.ws=r.ws from rfl,hu]
   refine⟨_,rfl,rfl,⟨_,rfl,iteF ?_⟩⟩
   refine⟨_,rfl,_,rfl,iteF ?_⟩
   refine⟨_,rfl,o.x,o.dx,o.flds,rfl,hx1,f_m (by decide +kernel),_,rfl,o,M,s,A,r,rfl,hc1,ok,is1,hs,l100,fun o' H' t=>?_⟩
   refine⟨_,rfl,_,rfl,iteF ⟨_,rfl,_,rfl,?_⟩⟩
   have:=fin0 e0 o' H' t
   cases eb:(A.rps (A.clk s r.ws) r.bs).2 with
   | true=>rw[eb] at this; exact iteT this
   | false=>rw[eb] at this; exact iteF this
  | some t =>
   rw[hu] at hv
   replace hv:IsTri H1 v t:=hv
   obtain⟨hw,hne⟩:=upc_in ao wok hu
   obtain⟨p,rfl,hp⟩:=hv
   refine⟨_,rfl,rfl,⟨_,rfl,iteT ?_⟩⟩
   refine⟨_,rfl,o.x,o.dx,o.flds,rfl,hx1,f_m (by decide +kernel),_,rfl,_,rfl,o,M,s,A,.ref p,t,r,rfl,hc1,ok,is1,hs,l100,⟨p,rfl,hp⟩,fun H2 s2=>?_⟩
   have hc2:=hc1.same s2
   have is2:=is1.tk (Tk.of s2)
   have hx2:=hc2.get 0 0 rfl rfl
   cases hm:A.may r.ws t with
   | false =>
    have e0:A.tkn s r.pu=none:=by unfold OA.tkn; rw[show r.pu.ws=r.ws from rfl,hu]; show(if A.may r.ws t=true then _ else _)=_; rw[hm]; rfl
    refine⟨_,rfl,_,rfl,iteF ?_⟩
    refine⟨_,rfl,o.x,o.dx,o.flds,rfl,hx2,f_m (by decide +kernel),_,rfl,o,M,s,A,r,rfl,hc2,ok,is2,hs,l100,fun o' H' t=>?_⟩
    refine⟨_,rfl,_,rfl,iteF ⟨_,rfl,_,rfl,?_⟩⟩
    have:=fin0 e0 o' H' ⟨t.x,t.s,t.d,t.hc,t.ok,t.is,(Tk.of s2).trans t.tk⟩
    cases eb:(A.rps (A.clk s r.ws) r.bs).2 with
    | true=>rw[eb] at this; exact iteT this
    | false=>rw[eb] at this; exact iteF this
   | true =>
    have e0:A.tkn s r.pu=some t:=by unfold OA.tkn; rw[show r.pu.ws=r.ws from rfl,hu]; show(if A.may r.ws t=true then _ else _)=_; rw[hm]; rfl
    have ea:A.aft s r.pu=A.take s r.pu t:=by unfold OA.aft; rw[e0]
    refine⟨_,rfl,_,rfl,iteT ?_⟩
    refine⟨_,rfl,o.x,o.dx,o.flds,rfl,hx2,f_m (by decide +kernel),_,rfl,_,rfl,o,M,s,m,A,.ref p,t,r,rfl,hc2,ok,is2,hs,so,m9,⟨p,rfl,s2 _ _ hp⟩,hw,hne,ao.lr,ao.lg,fun o1 H3 t1 so1=>?_⟩
    have ls1:o1.srs.length=o.srs.length:=by
     have e1:=congrArg List.length t1.is.s
     have e2:=congrArg List.length is.s
     rw[zC] at e1 e2
     rw[e1,e2,take_len,zT]
    have hsl:=(zD.mp hs).1
    obtain⟨r1,hr1⟩:∃ r1,o1.srs[s]?=some r1:=⟨o1.srs[s]'(by omega),zB _⟩
    have er1:r1.pu=r.pu.nxt (r.pu.ws.idxOf t.2.1) t.2.2:=by
     have e1:(o1.srs.map SR.pu)[s]?=some r1.pu:=by rw[zE,hr1]; rfl
     rw[t1.is.s,take_len,y8 (by rw[← is.s,zC]; exact hsl)] at e1
     exact(Option.some.inj e1).symm
    have ew:r1.ws=r.ws:=by
     have:=congrArg SP.ws er1
     rw[SP.nxt_ws] at this
     exact this
    have eb1:r1.bs=r.bs:=by
     have:=congrArg SP.bs er1
     rw[SP.nxt_bs] at this
     exact this
    have hx3:=t1.hc.get 0 0 rfl rfl
    rw[t1.x] at hx3
    refine⟨_,rfl,o.x,o1.dx,o1.flds,rfl,hx3,f_m (by decide +kernel),_,rfl,o1,M,s,A.take s r.pu t,r1,(by rw[t1.x]; rfl),t1.hc,t1.ok,t1.is,hr1,(by rw[ew]; exact l100),fun o' H' t2=>?_⟩
    rw[ew,eb1] at t2
    refine⟨_,rfl,_,rfl,iteT ?_⟩
    have h0:=q o' H'
    unfold OA.stp at h0
    rw[ea,e0] at h0
    refine h0 ⟨t2.x.trans t1.x,t2.d.trans t1.d,by rw[t2.s]; exact ls1,t2.hc,t2.ok,t2.is,by rw[t2.s]; exact so1,((ao.take s r.pu t bok).rsd s r.pu),hT1.tkm ((Tk.of s2).trans (t1.tk.trans t2.tk)),k1.tk ((Tk.of s2).trans (t1.tk.trans t2.tk))⟩
end
end Oc
namespace Oc
open PySem L2
def oV:Option Int→PyData
 | none=>.none
 | some n=>.int n
theorem dt_pv {K:PySem.W.Frag} {H:Hp} (m:Option Int) (n:Nat):Dt K H n (pV m) (oV m):=by
 cases m with
 | none=>exact .non n
 | some i=>exact .int n i
theorem dt_tris {K:PySem.W.Frag} {H:Hp} {p:Addr} {us:List V} {ts:List Tri} (h:H p=some (.lst us)) (r:Paired (IsTri H) us ts):Dt K H 2 (.ref p) (.list (ts.map triD)):=.lst (SqL.of h) (DtAll.of (f:=triD) (P:=IsTri H) (fun _ _ h=>h.dt) r)
end Oc
namespace Oc
open PySem L2
def Sk (H H':Hp):Prop:=∀ b u,H b=some u→(∀ ps,u ≠ HO.tbl ps)→H' b=some u
def noTbl:HO→Bool
 | .tbl _=>false
 | _=>true
theorem LsAt.sk {H H':Hp} (k:Sk H H') {s b f:Addr} {W:Wk} {xs ys zs:List V} (h2:LsAt H s b f W xs ys zs):LsAt H' s b f W xs ys zs:=by
 refine⟨k _ _ h2.hs (fun _ z=>nomatch z),k _ _ h2.hb (fun _ z=>nomatch z),k _ _ h2.hf (fun _ z=>nomatch z),pairedMono (fun _ _ h=>?_) h2.ps,pairedMono (fun _ _ h=>?_) h2.pb,pairedMono (fun _ _ h=>?_) h2.pf⟩
 all_goals
  obtain⟨q,e,r⟩:=h
  exact⟨q,e,k _ _ r (fun _ z=>nomatch z)⟩
theorem script_in {K:PySem.W.Frag} {H:Hp} {a:Addr} {xs:List V} (h:SqL K H a xs):∃ cs:List Cell,(∀ c ∈ cs,H c.1=some c.2)∧(∀ c ∈ cs,noTbl c.2=true)∧∀ H':Hp,(∀ c ∈ cs,H' c.1=some c.2)→SqL K H' a xs:=by
 rcases h with (h|⟨o,h⟩)|h
 ·exact⟨[(a,.lst xs)],fun c hc=>by rw[zF.mp hc]; exact h,fun c hc=>by rw[zF.mp hc]; rfl,fun H' h'=>.inl (.inl (h' _ zL))⟩
 ·exact⟨[(a,.frz o (.lst xs))],fun c hc=>by rw[zF.mp hc]; exact h,fun c hc=>by rw[zF.mp hc]; rfl,fun H' h'=>.inl (.inr ⟨o,h' _ zL⟩)⟩
 ·exact⟨[],fun c hc=>(by cases hc),fun c hc=>(by cases hc),fun H' _=>.inr h⟩
theorem base_in {K:PySem.W.Frag} {H:Hp} {w a:Addr} {W:Wk} {vs:List V} (h1:WkAt H w W) (h2:SqL K H a vs):∃(M:List (List Cell)) (s b f:Addr) (xs ys zs:List V),Hc H M∧NoT M∧∀ H',Hc H' M→H' w=some (.tup [.ref s,.ref b,.ref f])∧LsAt H' s b f W xs ys zs∧SqL K H' a vs:=by
 obtain⟨c1,s,b,f,xs,ys,zs,k1,e1⟩:=h1.cells2
 obtain⟨c2,k2,n2,e2⟩:=script_in h2
 have k1':Hs H c1:=by have k:Hs H [c1].flatten:=k1; rw[y9] at k; exact k
 obtain⟨L,l1,l2⟩:=cells_dedup (H:=H) (L:=c1++c2) fun c hc=>by
  rcases yA.mp hc with q|q
  ·exact k1'.2 c q
  ·exact k2 c q
 refine⟨[L.filter fun c=>noTbl c.2],s,b,f,xs,ys,zs,?_,fun c hc ps e=>?_,fun H' hc=>?_⟩
 ·show Hs H [L.filter fun c=>noTbl c.2].flatten
  rw[y9]
  exact l1.sub List.filter_sublist
 ·rw[y9] at hc
  have:=(z6.mp hc).2
  rw[e] at this
  cases this
 ·have hc':Hs H' (L.filter fun c=>noTbl c.2):=by have k:Hs H' [L.filter fun c=>noTbl c.2].flatten:=hc; rw[y9] at k; exact k
  obtain⟨w1,w2⟩:=e1 (fun a=>if a ∈ L.map Prod.fst then H a else none) fun c hc1=>by
   have hm:=l2 c (y2 _ hc1)
   show(if c.1 ∈ L.map Prod.fst then H c.1 else none)=_
   rw[if_pos (List.mem_map_of_mem hm)]
   exact l1.2 c hm
  have sk:Sk (fun a=>if a ∈ L.map Prod.fst then H a else none) H':=fun b u e n=>by
   have e':(if b ∈ L.map Prod.fst then H b else none)=some u:=e
   split at e'
   ·rename_i hb
    obtain⟨d,hd,ed⟩:=yB.mp hb
    have hd2:=l1.2 d hd
    rw[ed,e'] at hd2
    have:d=(b,u):=Prod.ext ed (Option.some.inj hd2).symm
    subst this
    refine hc'.2 (b,u) (z6.mpr ⟨hd,?_⟩)
    show noTbl u=true
    cases u <;> first|rfl|exact absurd rfl (n _)
   ·cases e'
  exact⟨sk _ _ w1 (fun _ z=>nomatch z),w2.sk sk,e2 H' fun c hc2=>hc'.2 c (z6.mpr ⟨l2 c (zP _ hc2),n2 c hc2⟩)⟩
def Wk.sp (W:Wk) (s:Nat):SP:=⟨kdOf (W.st.getD s ("",none)),W.wy s,W.lv s,0,if kdOf (W.st.getD s ("",none))=.joiner then (W.wy s).map (fun _=>[]) else []⟩
theorem Made.pu {W:Wk} {s:Nat} {r:SR} (m:Made W s r):r.pu=W.sp s:=by
 obtain⟨st,h1,h2⟩:=m.k
 have e:W.st.getD s ("",none)=st:=by rw[zA,h1]; rfl
 unfold SR.pu Wk.sp
 rw[e,← h2,m.ws,m.bs,m.seen,m.rows]
theorem _root_.L2.Hc.perm {H:Hp} {M N:List (List Cell)} (h:Hc H M) (p:M.Perm N):Hc H N:=Hs.perm h p.flatten
def sp0:SP:=⟨.sink,[],[],0,[]⟩
def Wk.oa (W:Wk):OA:=⟨(List.range W.st.length).map W.sp,W.dels,W.prs,W.des,W.be.map fun _=>[],W.st.map fun _=>[]⟩
def OA.step (A:OA) (s:Nat):OA × Str:=A.stp s (A.srs.getD s sp0)
theorem new_is {H:Hp} {W:Wk} {o:OR} (n:ONew W o) (ev:Evs H o W.des (W.be.map fun _=>[]) (W.st.map fun _=>[])):OIs H o W.oa:=by
 refine⟨?_,n.dels,n.pr,ev⟩
 refine qR fun i=>?_
 show(o.srs.map SR.pu)[i]?=((List.range W.st.length).map W.sp)[i]?
 rw[zE,zE]
 cases e:o.srs[i]? with
 | none =>
  have hl:=jZ.mp e
  rw[yF (by rw[z9,← n.ns]; exact hl)]
  rfl
 | some r =>
  have hl:=(zD.mp e).1
  rw[qL (by rw[← n.ns]; exact hl)]
  show some r.pu=some (W.sp i)
  rw[(n.srs i r e).pu]
theorem new_so {W:Wk} {o:OR} (n:ONew W o):∀ q ∈ o.srs,SOk 0 q:=fun q hq=>by
 obtain⟨i,hi⟩:=yR hq
 exact(n.srs i q hi).ok
theorem new_ao (W:Wk):AOk 0 W.oa:=by
 refine⟨fun row hr t ht=>?_,fun j row hj t ht=>?_,fun row hr=>?_,fun row hr=>?_⟩
 ·obtain⟨s,_,rfl⟩:=yB.mp hr
  unfold Wk.de at ht
  obtain⟨p,_,rfl⟩:=yB.mp ht
  rfl
 ·obtain⟨_,_,rfl⟩:=yB.mp (zG hj)
  exact absurd ht zK
 ·obtain⟨_,_,rfl⟩:=yB.mp hr
  exact zH _
 ·obtain⟨_,_,rfl⟩:=yB.mp hr
  exact zH _
end Oc
namespace Oc
open PySem L2
structure OwnF (W:Wk) (m:Nat) (H:Hp) (o:OR) (A:OA):Prop where
 ok:OOk o
 is:OIs H o A
 so:∀ q ∈ o.srs,SOk m q
 ao:AOk m A
 ns:W.st.length=o.srs.length
 nb:W.be.length=o.dels.length
theorem IsTri.tkp {Pu:Addr} {H H':Hp} (k:TkP Pu H H') (hu:UpT Pu H) {x:V} {t:Tri} (h:IsTri H x t):IsTri H' x t:=by
 obtain⟨p,e,hp⟩:=h
 exact⟨p,e,k _ _ hp trivial (hu.ne hp fun _ z=>nomatch z)⟩
theorem OIs.via {H H':Hp} {o:OR} {A:OA} (f:∀ x t,IsTri H x t→IsTri H' x t) (h:OIs H o A):OIs H' o A :=
 ⟨h.s,h.d,h.p,pairedMono (fun _ _ h=>pairedMono (fun _ _ h=>f _ _ h) h) h.e.d,pairedMono (fun _ _ h=>pairedMono (fun _ _ h=>f _ _ h) h) h.e.r,pairedMono (fun _ _ h=>pairedMono (fun _ _ h=>f _ _ h) h) h.e.g⟩
theorem OwnF.via {W:Wk} {m n:Nat} {H H':Hp} {o:OR} {A:OA} (f:∀ x t,IsTri H x t→IsTri H' x t) (e:m≤n) (h:OwnF W m H o A):OwnF W n H' o A:=⟨h.ok,h.is.via f,fun q hq=>(h.so q hq).le e,h.ao.le e,h.ns,h.nb⟩
theorem LamT.kpd {P Pd p C dx:Addr} {fs:List (Str × V)} {q:Str} {ln cl:Nat} {H H':Hp} (h:LamT P q ln cl H) (k:Kp Pd p H H') (ne:P ≠ Pd) (hp:H p=some (.ins C dx fs)):LamT P q ln cl H':=by
 rcases h with h|⟨c',h1,h2⟩
 ·exact .inl (k _ _ h (.inr ne) (ne_of h hp fun z=>nomatch z))
 ·exact .inr ⟨c',k _ _ h1 (.inr ne) (ne_of h1 hp fun z=>nomatch z),k _ _ h2 (.inl fun _ z=>nomatch z) (ne_of h2 hp fun z=>nomatch z)⟩
theorem _root_.L2.Hc.drop {H:Hp} {A B:List (List Cell)} (h:Hc H (A++B)):Hc H B:=by
 refine Hs.sub h ?_
 rw[qE]
 exact jX _ _
theorem new_own {H:Hp} {W:Wk} {o:OR} (n:ONew W o) (ev:Evs H o W.des (W.be.map fun _=>[]) (W.st.map fun _=>[])):OwnF W 0 H o W.oa:=⟨n.ok,new_is n ev,new_so n,new_ao W,n.ns.symm,by rw[n.dels]; exact(zC _).symm⟩
end Oc
namespace Oc
open PySem L2
theorem kLt_iff (a b:Int × Int):kLt a b=true ↔ a.1 < b.1∨(a.1=b.1∧a.2 < b.2):=by
 unfold kLt
 simp only [HT.lexLt]
 split <;> simp_all <;> omega
theorem kLt_irrefl (k:Int × Int):kLt k k=false:=by
 cases e:kLt k k with
 | false=>rfl
 | true=>rw[kLt_iff] at e; omega
theorem kLt_trans {a b c:Int × Int} (h1:kLt a b=true) (h2:kLt b c=true):kLt a c=true:=by
 rw[kLt_iff] at *
 omega
theorem best_min (ks:List (Int × Int)) (n:Nat):∀ m,m≤n→kLt (ks.getD m (0,0)) (ks.getD (argBest (fun i j=>kLt (ks.getD i (0,0)) (ks.getD j (0,0))) n) (0,0))=false:=by
 induction n with
 | zero=>intro m h; rw[Nat.le_zero.mp h]; exact kLt_irrefl _
 | succ n ih =>
  intro m h
  simp only [argBest]
  by_cases e:kLt (ks.getD (n + 1) (0,0)) (ks.getD (argBest (fun i j=>kLt (ks.getD i (0,0)) (ks.getD j (0,0))) n) (0,0))=true
  ·rw[if_pos e]
   by_cases hm:m=n + 1
   ·rw[hm]; exact kLt_irrefl _
   ·cases q:kLt (ks.getD m (0,0)) (ks.getD (n + 1) (0,0)) with
    | false=>rfl
    | true =>
     have:=kLt_trans q e
     rw[ih m (by omega)] at this
     cases this
  ·rw[if_neg e]
   by_cases hm:m=n + 1
   ·rw[hm]; simpa using e
   ·exact ih m (by omega)
def oLe:Option Int→Option Int→Prop
 | _,none=>True
 | none,some _=>False
 | some a,some b=>a≤b
theorem oLe_none (a:Option Int):oLe a none:=by cases a <;> trivial
theorem oLe_refl (a:Option Int):oLe a a:=by
 cases a with
 | none=>trivial
 | some a=>exact qJ a
theorem oLe_trans {a b c:Option Int} (h:oLe a b) (k:oLe b c):oLe a c:=by
 cases c with
 | none=>exact oLe_none a
 | some c =>
  cases b with
  | none=>exact k.elim
  | some b =>
   cases a with
   | none=>exact h.elim
   | some a=>exact Int.le_trans (show a≤b from h) (show b≤c from k)
def oAdd (a:Option Int) (d:Int):Option Int:=a.map fun n=>n + d
theorem oAdd_le {a b:Option Int} {d:Int} (h:oLe a b):oLe (oAdd a d) (oAdd b d):=by
 cases b with
 | none=>exact oLe_none _
 | some b =>
  cases a with
  | none=>exact h.elim
  | some a=>exact Int.add_le_add_right (show a≤b from h) d
def OA.e (A:OA) (s:Nat) (w:Int):Option Int:=A.ear w (evAt A.de A.re s w)
theorem min_le {f:Int→Option Int} {ws:List Int} {w:Int} (h:w ∈ ws):oLe ((ws.filterMap f).min?) (f w):=by
 cases e:f w with
 | none=>exact oLe_none _
 | some a =>
  have ha:a ∈ ws.filterMap f:=yU.mpr ⟨w,h,e⟩
  cases m:(ws.filterMap f).min? with
  | none=>rw[List.min?_eq_none_iff] at m; rw[m] at ha; exact absurd ha zK
  | some b=>exact(jD.mp m).2 a ha
theorem le_min {f:Int→Option Int} {ws:List Int} {x:Option Int} (h:∀ w ∈ ws,oLe x (f w)):oLe x ((ws.filterMap f).min?):=by
 cases m:(ws.filterMap f).min? with
 | none=>exact oLe_none _
 | some b =>
  obtain⟨w,hw,e⟩:=yU.mp (jD.mp m).1
  have:=h w hw
  rwa [e] at this
theorem clk_le {A:OA} {s:Nat} {ws:List Int} {w:Int} (h:w ∈ ws):oLe (A.clk s ws) (A.e s w):=min_le (f:=A.e s) h
theorem clk_mono {A B:OA} {s:Nat} {ws:List Int} (h:∀ w ∈ ws,oLe (A.e s w) (B.e s w)):oLe (A.clk s ws) (B.clk s ws):=le_min (f:=B.e s) fun w hw=>oLe_trans (clk_le hw) (h w hw)
theorem getD_set' {α:Type} (l:List α) (i j:Nat) (x d:α):(l.set i x).getD j d=if i=j∧j < l.length then x else l.getD j d:=by
 rw[zA,zA,List.getElem?_set]
 by_cases h:i=j
 ·subst h
  by_cases k:i < l.length
  ·rw[if_pos rfl,if_pos k,if_pos ⟨rfl,k⟩]; rfl
  ·rw[if_pos rfl,if_neg k,if_neg (fun z=>k z.2),yF (by omega)]
 ·rw[if_neg h,if_neg (fun z=>h z.1)]
structure Tkn (A:OA) (s:Nat) (ws:List Int) (t:Tri):Prop where
 w:t.2.1 ∈ ws
 hd:(evAt A.de A.re s t.2.1).head?=some t
 min:∀ w ∈ ws,∀ u,(evAt A.de A.re s w).head?=some u→kLt (tkey u) (tkey t)=false
 may:∀ w ∈ ws,w ≠ -1→A.re.getD w.toNat []=[]→∀ g,A.pr.getD w.toNat none=some g→t.1 < g∨(t.1=g∧t.2.1 < (w.toNat:Int))
theorem tkn_is {m:Nat} {A:OA} (h:AOk m A) {s:Nat} {p:SP} (hw:∀ w ∈ p.ws,w=-1∨0≤w) {t:Tri} (e:A.tkn s p=some t):Tkn A s p.ws t:=by
 unfold OA.tkn at e
 cases eu:A.upc s p.ws with
 | none=>rw[eu] at e; cases e
 | some t' =>
  rw[eu] at e
  dsimp only at e
  split at e
  ·rename_i hm
   cases e
   have hx:=zG eu
   unfold OA.hds at hx
   obtain⟨w,hw1,hh⟩:=yU.mp hx
   have hin:t ∈ evAt A.de A.re s w:=jE hh
   have ew:t.2.1=w:=by
    unfold evAt at hin
    split at hin
    ·rename_i z
     rw[z]
     exact getD_row (p:=fun row=>∀ t ∈ row,t.2.1=-1) (fun _ z=>absurd z zK) h.d t hin
    ·rename_i z
     have w0:=(hw w hw1).resolve_left z
     rw[zA] at hin
     cases er:A.re[w.toNat]? with
     | none=>rw[er] at hin; exact absurd hin zK
     | some row =>
      rw[er] at hin
      have:=h.r w.toNat row er t hin
      omega
   refine⟨by rw[ew]; exact hw1,by rw[ew]; exact hh,fun w' hw' u hu=>?_,fun w' hw' n1 em g hg=>?_⟩
   ·have hu2:u ∈ A.hds s p.ws:=yU.mpr ⟨w',hw',hu⟩
    obtain⟨j,hj⟩:=yR hu2
    have lj:=(zD.mp hj).1
    have b:=best_min ((A.hds s p.ws).map tkey) (((A.hds s p.ws).map tkey).length - 1) j (by rw[zC]; omega)
    have e1:((A.hds s p.ws).map tkey).getD j (0,0)=tkey u:=by rw[zA,zE,hj]; rfl
    have e2:((A.hds s p.ws).map tkey).getD (bestK ((A.hds s p.ws).map tkey)) (0,0)=tkey t:=by
     rw[zA,zE]
     unfold OA.upc at eu
     rw[eu]; rfl
    unfold bestK at e2
    rw[e1,e2] at b
    exact b
   ·unfold OA.may at hm
    have:=jQ.mp hm w' (z6.mpr ⟨hw',by simp [n1]⟩)
    unfold OA.lets at this
    rw[em,if_pos (show([]:List Tri).isEmpty=true from rfl),hg] at this
    dsimp only at this
    have z:=(kLt_iff (t.1,t.2.1) (g,(w'.toNat:Int))).mp this
    exact z
  ·cases e
theorem Tkn.clk {A:OA} {s:Nat} {ws:List Int} {t:Tri} (h:Tkn A s ws t):A.clk s ws=some t.1:=by
 have h1:oLe (some t.1) (A.clk s ws):=by
  refine le_min (f:=A.e s) fun w hw=>?_
  unfold OA.e
  cases ev:evAt A.de A.re s w with
  | cons u r =>
   have:=h.min w hw u (by rw[ev]; rfl)
   have n:¬ (kLt (tkey u) (tkey t)=true):=by rw[this]; exact zV
   rw[kLt_iff] at n
   show t.1≤u.1
   unfold tkey at n
   omega
  | nil =>
   show oLe _ (if w=-1 then none else A.pr.getD w.toNat none)
   split
   ·exact oLe_none _
   ·rename_i n1
    cases eg:A.pr.getD w.toNat none with
    | none=>exact oLe_none _
    | some g =>
     have em:A.re.getD w.toNat []=[]:=by unfold evAt at ev; rw[if_neg n1] at ev; exact ev
     have:=h.may w hw n1 em g eg
     show t.1≤g
     omega
 have h2:oLe (A.clk s ws) (some t.1):=by
  have:=clk_le (A:=A) (s:=s) h.w
  unfold OA.e at this
  cases ev:evAt A.de A.re s t.2.1 with
  | nil=>have z:=h.hd; rw[ev] at z; cases z
  | cons u r =>
   have z:=h.hd
   rw[ev] at z this
   cases z
   exact this
 cases e:A.clk s ws with
 | none=>rw[e] at h2; exact h2.elim
 | some c =>
  rw[e] at h1 h2
  have a1:t.1≤c:=h1
  have a2:c≤t.1:=h2
  rw[Int.le_antisymm a2 a1]
def putR (A:OA) (b:Nat) (t:Tri):Option (Int × Int)→List Tri
 | none=>[]
 | some o=>if o.1.toNat=b∧b < A.re.length then [(t.1 + A.dl.getD b 0,o.1,o.2)] else []
theorem take_re (A:OA) (s:Nat) (p:SP) (t:Tri) (w0:t.2.1=-1∨0≤t.2.1) (b:Nat):(A.take s p t).re.getD b []=(if t.2.1=(b:Int) then (A.re.getD b []).tail else A.re.getD b [])++putR A b t (p.out (p.ws.idxOf t.2.1) t.2.2):=by
 have hp:(A.pop s t.2.1).re.getD b []=if t.2.1=(b:Int) then (A.re.getD b []).tail else A.re.getD b []:=by
  unfold OA.pop
  split
  ·rename_i e
   rw[if_neg (by omega)]
  ·rename_i n
   show(A.re.set _ _).getD b []=_
   rw[getD_set']
   by_cases hb:t.2.1=(b:Int)
   ·rw[if_pos hb]
    have e:t.2.1.toNat=b:=by omega
    rw[e]
    by_cases hl:b < A.re.length
    ·rw[if_pos ⟨rfl,hl⟩]
    ·rw[if_neg (fun z=>hl z.2),zA,yF (by omega)]; rfl
   ·rw[if_neg (fun z=>hb (by omega)),if_neg hb]
 have hl:(A.pop s t.2.1).re.length=A.re.length:=by unfold OA.pop; split <;> simp
 have hd:(A.pop s t.2.1).dl=A.dl:=by unfold OA.pop; split <;> rfl
 unfold OA.take
 cases p.out (p.ws.idxOf t.2.1) t.2.2 with
 | none =>
  show(A.pop s t.2.1).re.getD b []=_++[]
  rw[hp,yD]
 | some o =>
  show((A.pop s t.2.1).re.set o.1.toNat ((A.pop s t.2.1).re.getD o.1.toNat []++[(t.1 + (A.pop s t.2.1).dl.getD o.1.toNat 0,o.1,o.2)])).getD b []=_++(if o.1.toNat=b∧b < A.re.length then [(t.1 + A.dl.getD b 0,o.1,o.2)] else [])
  rw[getD_set',hl,hd]
  by_cases h:o.1.toNat=b∧b < A.re.length
  ·rw[if_pos h,if_pos h,h.1,hp]
  ·rw[if_neg h,if_neg h,hp,yD]
theorem put_same (B:OA) (t:Tri) (o:Option (Int × Int)):(B.put t o).de=B.de∧(B.put t o).pr=B.pr∧(B.put t o).dl=B.dl∧(B.put t o).ge=B.ge∧(B.put t o).re.length=B.re.length:=by
 cases o with
 | none=>exact⟨rfl,rfl,rfl,rfl,rfl⟩
 | some o=>exact⟨rfl,rfl,rfl,rfl,zT⟩
theorem take_same (A:OA) (s:Nat) (p:SP) (t:Tri):(A.take s p t).pr=A.pr∧(A.take s p t).dl=A.dl∧(A.take s p t).re.length=A.re.length∧(A.take s p t).ge=A.ge.set s (A.ge.getD s []++[t]):=by
 unfold OA.take
 obtain⟨e1,e2,e3,e4,e5⟩:=put_same (((A.pop s t.2.1).log s t).sta s (p.nxt (p.ws.idxOf t.2.1) t.2.2)) t (p.out (p.ws.idxOf t.2.1) t.2.2)
 rw[e2,e3,e4,e5]
 unfold OA.sta OA.log OA.pop
 split
 ·exact⟨rfl,rfl,rfl,rfl⟩
 ·exact⟨rfl,rfl,zT,rfl⟩
theorem take_de (A:OA) (s:Nat) (p:SP) (t:Tri) (j:Nat):(A.take s p t).de.getD j []=if t.2.1=-1∧s=j then (A.de.getD j []).tail else A.de.getD j []:=by
 unfold OA.take
 rw[(put_same _ _ _).1]
 show(A.pop s t.2.1).de.getD j []=_
 unfold OA.pop
 by_cases h:t.2.1=-1
 ·rw[if_pos h]
  show(A.de.set _ _).getD j []=_
  rw[getD_set']
  by_cases hj:s=j
  ·subst hj
   by_cases hl:s < A.de.length
   ·rw[if_pos ⟨rfl,hl⟩,if_pos ⟨h,rfl⟩]
   ·rw[if_neg (fun z=>hl z.2),if_pos ⟨h,rfl⟩,zA,yF (by omega)]; rfl
  ·rw[if_neg (fun z=>hj z.1),if_neg (fun z=>hj z.2)]
 ·rw[if_neg h,if_neg (fun z=>h z.1)]
theorem take_dl (A:OA) (s:Nat) (p:SP) (t:Tri):(A.take s p t).de.length=A.de.length:=by
 unfold OA.take
 rw[(put_same _ _ _).1]
 show(A.pop s t.2.1).de.length=_
 unfold OA.pop
 split
 ·exact zT
 ·rfl
end Oc
namespace Oc
open PySem L2
theorem idx_mem {α:Type} (f:α→Bool):∀(l:List α) (k:Nat) {w:Int},w ∈ idx f k l→∃(j:Nat) (t:α),l[j]?=some t∧f t=true∧w=((k + j:Nat):Int)
 | [],_,_,h=>absurd h zK
 | x::l,k,w,h=>by
  unfold idx at h
  split at h
  ·rename_i hx
   rcases zQ.mp h with e|e
   ·exact⟨0,x,rfl,hx,by rw[e]; rfl⟩
   ·obtain⟨j,t,h1,h2,h3⟩:=idx_mem f l (k + 1) e
    exact⟨j + 1,t,h1,h2,by omega⟩
  ·obtain⟨j,t,h1,h2,h3⟩:=idx_mem f l (k + 1) h
   exact⟨j + 1,t,h1,h2,by omega⟩
theorem idx_has {α:Type} (f:α→Bool):∀(l:List α) (k:Nat) {j:Nat} {t:α},l[j]?=some t→f t=true→((k + j:Nat):Int) ∈ idx f k l
 | [],_,_,_,h,_=>by simp at h
 | x::l,k,0,t,h,hf=>by
  cases h
  unfold idx
  rw[if_pos hf]
  exact zL
 | x::l,k,j + 1,t,h,hf=>by
  have:=idx_has f l (k + 1) (j:=j) h hf
  have e:((k + (j + 1):Nat):Int)=((k + 1 + j:Nat):Int):=by omega
  rw[e]
  unfold idx
  split
  ·exact zI _ this
  ·exact this
theorem Wk.lv_mem {W:Wk} {s w:Int} (h:w ∈ W.lv s):∃(j:Nat) (bt:Tri),W.be[j]?=some bt∧bt.1=s∧w=(j:Int):=by
 obtain⟨j,t,h1,h2,h3⟩:=idx_mem _ _ _ h
 exact⟨j,t,h1,by simpa using h2,by omega⟩
theorem Wk.wy_mem {W:Wk} {s w:Int} (h:w ∈ W.wy s):w=-1∨∃(j:Nat) (bt:Tri),W.be[j]?=some bt∧bt.2.1=s∧w=(j:Int):=by
 unfold Wk.wy at h
 rcases yA.mp h with e|e
 ·split at e
  ·exact .inl (zF.mp e)
  ·exact absurd e zK
 ·obtain⟨j,t,h1,h2,h3⟩:=idx_mem _ _ _ e
  exact .inr ⟨j,t,h1,by simpa using h2,by omega⟩
theorem Wk.wy_ok {W:Wk} {s w:Int} (h:w ∈ W.wy s):w=-1∨0≤w:=by
 rcases Wk.wy_mem h with e|⟨j,_,_,_,e⟩
 ·exact .inl e
 ·exact .inr (by omega)
theorem Wk.dl_at {W:Wk} {b:Nat} {bt:Tri} (h:W.be[b]?=some bt):W.dels.getD b 0=bt.2.2:=by
 unfold Wk.dels
 rw[zA,zE,h]; rfl
theorem Wk.dl_pos {W:Wk} (ok:W.Ok) (b:Nat):0≤W.dels.getD b 0:=by
 cases h:W.be[b]? with
 | none=>unfold Wk.dels; rw[zA,zE,h]; exact qJ 0
 | some bt =>
  rw[Wk.dl_at h]
  have:=(ok.bel bt (zG h)).2.2.2.2.1
  omega
structure Inv (W:Wk) (A:OA):Prop where
 st:A.srs.length=W.st.length
 sp:∀(s:Nat) p,A.srs[s]?=some p→p.ws=W.wy s∧p.bs=W.lv s
 dl:A.dl=W.dels
 lp:A.pr.length=W.be.length
 lr:A.re.length=W.be.length
 ld:A.de.length=W.st.length
 sd:∀ s,(A.de.getD s []).Pairwise fun a b=>a.1≤b.1
 sr:∀ b,(A.re.getD b []).Pairwise fun a b=>a.1≤b.1
 up:∀ b,∀ t ∈ A.re.getD b [],oLe (some t.1) (A.pr.getD b none)
 pc:∀(b:Nat) bt,W.be[b]?=some bt→oLe (A.pr.getD b none) (oAdd (A.clk bt.1.toNat (W.wy bt.1)) bt.2.2)
theorem ear_pr {A B:OA} (h:B.pr=A.pr) (w:Int) (l:List Tri):B.ear w l=A.ear w l:=by
 cases l with
 | nil=>unfold OA.ear; rw[h]
 | cons t r=>rfl
theorem take_mono {W:Wk} {A:OA} (ok:W.Ok) (I:Inv W A) {s:Nat} {p:SP} (hp:A.srs[s]?=some p) {t:Tri} (T:Tkn A s p.ws t) {j:Nat} {w:Int} (w0:w=-1∨0≤w):oLe (A.e j w) ((A.take s p t).e j w):=by
 obtain⟨e1,e2,e3,e4⟩:=take_same A s p t
 have t0:t.2.1=-1∨0≤t.2.1:=Wk.wy_ok (W:=W) (s:=s) (by rw[← (I.sp s p hp).1]; exact T.w)
 unfold OA.e
 rw[ear_pr e1]
 by_cases h:w=-1
 ·subst h
  unfold evAt
  rw[if_pos rfl,if_pos rfl,take_de]
  split
  ·rename_i z
   obtain⟨z1,rfl⟩:=z
   have hd:=T.hd
   unfold evAt at hd
   rw[if_pos z1] at hd
   have so:=I.sd s
   cases er:A.de.getD s [] with
   | nil=>rw[er] at hd; cases hd
   | cons u r =>
    rw[er] at hd so
    cases hd
    cases r with
    | nil=>exact oLe_none _
    | cons v r=>exact(yX.mp so).1 v zL
  ·exact oLe_refl _
 ·have wp:=w0.resolve_left h
  obtain⟨b,rfl⟩:∃ b:Nat,w=(b:Int):=⟨w.toNat,by omega⟩
  unfold evAt
  rw[if_neg h,if_neg h,z5,take_re A s p t t0]
  have hput:∀ e ∈ putR A b t (p.out (p.ws.idxOf t.2.1) t.2.2),e.1=t.1 + A.dl.getD b 0∧oLe (A.pr.getD b none) (some e.1):=fun e he=>by
   cases eo:p.out (p.ws.idxOf t.2.1) t.2.2 with
   | none=>rw[eo] at he; exact absurd he zK
   | some o =>
    rw[eo] at he
    unfold putR at he
    dsimp only at he
    split at he
    ·rename_i z
     rw[zF.mp he]
     refine⟨rfl,?_⟩
     have hb:o.1 ∈ W.lv s:=by rw[← (I.sp s p hp).2]; exact SP.out_in (y:=o.2) eo
     obtain⟨k,bt,g1,g2,g3⟩:=Wk.lv_mem hb
     have ek:k=b:=by omega
     subst ek
     have:=I.pc k bt g1
     rw[g2,z5,← (I.sp s p hp).1,T.clk] at this
     rw[I.dl,Wk.dl_at g1]
     exact this
    ·exact absurd he zK
  by_cases hb:t.2.1=(b:Int)
  ·rw[if_pos hb]
   have hd:=T.hd
   unfold evAt at hd
   rw[hb,if_neg h,z5] at hd
   have so:=I.sr b
   cases er:A.re.getD b [] with
   | nil=>rw[er] at hd; cases hd
   | cons u r =>
    rw[er] at hd so
    cases hd
    cases r with
    | cons v r=>exact(yX.mp so).1 v zL
    | nil =>
     show oLe (some t.1) (A.ear (b:Int) (putR A b t _))
     cases epr:putR A b t (p.out (p.ws.idxOf t.2.1) t.2.2) with
     | nil =>
      show oLe (some t.1) (if (b:Int)=-1 then none else A.pr.getD (b:Int).toNat none)
      rw[if_neg h,z5]
      exact I.up b t (by rw[er]; exact zL)
     | cons e r =>
      have:=(hput e (by rw[epr]; exact zL)).1
      have d0:=Wk.dl_pos ok b
      rw[← I.dl] at d0
      show t.1≤e.1
      omega
  ·rw[if_neg hb]
   cases er:A.re.getD b [] with
   | cons u r=>exact qJ _
   | nil =>
    rw[List.nil_append]
    cases epr:putR A b t (p.out (p.ws.idxOf t.2.1) t.2.2) with
    | nil=>exact oLe_refl _
    | cons e r =>
     have:=(hput e (by rw[epr]; exact zL)).2
     show oLe (if (b:Int)=-1 then none else A.pr.getD (b:Int).toNat none) (some e.1)
     rw[if_neg h,z5]
     exact this
structure Rsd (now:Option Int) (bs:List Int) (B C:OA):Prop where
 de:C.de=B.de
 re:C.re=B.re
 ge:C.ge=B.ge
 dl:C.dl=B.dl
 sp:C.srs=B.srs
 lp:C.pr.length=B.pr.length
 le:∀ j,oLe (B.pr.getD j none) (C.pr.getD j none)
 eq:∀ j,C.pr.getD j none=B.pr.getD j none∨((∃ b ∈ bs,b.toNat=j)∧C.pr.getD j none=B.new now j)
 ge2:∀ j,(∃ b ∈ bs,b.toNat=j)→j < B.pr.length→oLe (B.new now j) (C.pr.getD j none)
theorem rp1_is (now:Option Int) (B:OA) (b:Int):Rsd now [b] B (B.rp1 now b.toNat).1:=by
 unfold OA.rp1
 split
 ·rename_i h
  refine⟨rfl,rfl,rfl,rfl,rfl,rfl,fun j=>oLe_refl _,fun j=>.inl rfl,fun j hj hl=>?_⟩
  obtain⟨c,hc,rfl⟩:=hj
  rw[zF.mp hc]
  unfold OA.stays at h
  cases e:B.pr.getD b.toNat none with
  | none=>exact oLe_none _
  | some p =>
   rw[e] at h
   dsimp only at h
   cases e2:B.new now b.toNat with
   | none=>rw[e2] at h; cases h
   | some n=>rw[e2] at h; exact(of_decide_eq_true h:n≤p)
 ·rename_i h
  have key:oLe (B.pr.getD b.toNat none) (B.new now b.toNat):=by
   unfold OA.stays at h
   cases e:B.pr.getD b.toNat none with
   | none=>rw[e] at h; exact absurd rfl h
   | some p =>
    rw[e] at h
    cases e2:B.new now b.toNat with
    | none=>exact oLe_none _
    | some n =>
     rw[e2] at h
     have:¬ n≤p:=fun z=>h (decide_eq_true z)
     show p≤n
     omega
  refine⟨rfl,rfl,rfl,rfl,rfl,zT,fun j=>?_,fun j=>?_,fun j hj hl=>?_⟩
  ·show oLe _ ((B.pr.set _ _).getD j none)
   rw[getD_set']
   split
   ·rename_i z; rw[← z.1]; exact key
   ·exact oLe_refl _
  ·show(B.pr.set _ _).getD j none=_∨_∧(B.pr.set _ _).getD j none=_
   rw[getD_set']
   split
   ·rename_i z; exact .inr ⟨⟨b,zF.mpr rfl,z.1⟩,by rw[z.1]⟩
   ·exact .inl rfl
  ·obtain⟨c,hc,rfl⟩:=hj
   rw[zF.mp hc] at hl ⊢
   show oLe _ ((B.pr.set _ _).getD _ none)
   rw[getD_set',if_pos ⟨rfl,hl⟩]
   exact oLe_refl _
theorem Rsd.cons {now:Option Int} {b:Int} {bs:List Int} {B C D:OA} (h:Rsd now [b] B C) (k:Rsd now bs C D):Rsd now (b::bs) B D:=by
 have hn:∀ j,C.new now j=B.new now j:=fun j=>by unfold OA.new; rw[h.dl]
 refine⟨k.de.trans h.de,k.re.trans h.re,k.ge.trans h.ge,k.dl.trans h.dl,k.sp.trans h.sp,k.lp.trans h.lp,fun j=>oLe_trans (h.le j) (k.le j),fun j=>?_,fun j hj hl=>?_⟩
 ·rcases k.eq j with e|⟨⟨c,hc,e1⟩,e2⟩
  ·rcases h.eq j with g|⟨⟨c,hc,g1⟩,g2⟩
   ·exact .inl (e.trans g)
   ·exact .inr ⟨⟨c,zQ.mpr (.inl (zF.mp hc)),g1⟩,e.trans g2⟩
  ·exact .inr ⟨⟨c,zI _ hc,e1⟩,e2.trans (hn j)⟩
 ·obtain⟨c,hc,e⟩:=hj
  rcases zQ.mp hc with z|z
  ·exact oLe_trans (h.ge2 j ⟨c,zF.mpr z,e⟩ hl) (k.le j)
  ·rw[← hn]; exact k.ge2 j ⟨c,z,e⟩ (by rw[h.lp]; exact hl)
theorem rps_is (now:Option Int):∀(bs:List Int) (B:OA) (c:Bool),Rsd now bs B (bs.foldl (fun p b=>((p.1.rp1 now b.toNat).1,p.2 || (p.1.rp1 now b.toNat).2)) (B,c)).1
 | [],B,c=>⟨rfl,rfl,rfl,rfl,rfl,rfl,fun _=>oLe_refl _,fun _=>.inl rfl,fun _ h _=>by obtain⟨_,h,_⟩:=h; exact absurd h zK⟩
 | b::bs,B,c=>(rp1_is now B b).cons (rps_is now bs (B.rp1 now b.toNat).1 (c || (B.rp1 now b.toNat).2))
theorem rsd_is (B:OA) (s:Nat) (p:SP):Rsd (B.clk s p.ws) p.bs B (B.rsd s p).1:=rps_is _ p.bs B false
theorem Rsd.mono {now:Option Int} {bs:List Int} {B C:OA} (h:Rsd now bs B C) (j:Nat) (w:Int):oLe (B.e j w) (C.e j w):=by
 unfold OA.e
 rw[h.de,h.re]
 cases evAt B.de B.re j w with
 | cons t r=>exact qJ _
 | nil =>
  show oLe (if w=-1 then none else B.pr.getD w.toNat none) (if w=-1 then none else C.pr.getD w.toNat none)
  split
  ·exact oLe_none _
  ·exact h.le _
structure Belt (A C:OA) (s b:Nat) (bt:Tri):Prop where
 le:oLe (A.pr.getD b none) (C.pr.getD b none)
 row:∃ pop put:List Tri,C.re.getD b []=pop++put∧(pop=A.re.getD b []∨(pop=(A.re.getD b []).tail∧A.re.getD b [] ≠ []∧bt.2.1=(s:Int)))∧(put=[]∨∃ e,put=[e]∧e.2.1=(b:Int)∧(∃ g,A.pr.getD b none=some g∧g≤e.1)∧bt.1=(s:Int))
 oth:bt.1 ≠ (s:Int)→C.pr.getD b none=A.pr.getD b none
structure Stp (W:Wk) (A C:OA) (s:Nat):Prop where
 inv:Inv W C
 belt:∀(b:Nat) bt,W.be[b]?=some bt→Belt A C s b bt
 clk:∀ j:Nat,oLe (A.clk j (W.wy j)) (C.clk j (W.wy j))
theorem raise_stp {W:Wk} {A B C:OA} (ok:W.Ok) (I:Inv W A) {s:Nat} {p:SP} (hp:A.srs[s]?=some p) (R:Rsd (B.clk s p.ws) p.bs B C) (sp:B.srs.length=A.srs.length∧∀(j:Nat) q,B.srs[j]?=some q→q.ws=W.wy j∧q.bs=W.lv j) (pr:B.pr=A.pr) (dl:B.dl=A.dl) (lr:B.re.length=A.re.length) (ld:B.de.length=A.de.length)
  (sd:∀ j,(B.de.getD j []).Pairwise fun a b=>a.1≤b.1) (sr:∀ b,(B.re.getD b []).Pairwise fun a b=>a.1≤b.1) (mono:∀(j:Nat) (w:Int),(w=-1∨0≤w)→oLe (A.e j w) (B.e j w))
  (up:∀(b:Nat) bt,W.be[b]?=some bt→∀ t ∈ B.re.getD b [],t ∈ A.re.getD b []∨(bt.1=(s:Int)∧oLe (some t.1) (oAdd (B.clk s p.ws) bt.2.2)))
  (row:∀(b:Nat) bt,W.be[b]?=some bt→∃ pop put:List Tri,B.re.getD b []=pop++put∧(pop=A.re.getD b []∨(pop=(A.re.getD b []).tail∧A.re.getD b [] ≠ []∧bt.2.1=(s:Int)))∧(put=[]∨∃ e,put=[e]∧e.2.1=(b:Int)∧(∃ g,A.pr.getD b none=some g∧g≤e.1)∧bt.1=(s:Int))):Stp W A C s:=by
 have hws:=(I.sp s p hp).1
 have hbs:=(I.sp s p hp).2
 have mAB:∀ j:Nat,oLe (A.clk j (W.wy j)) (B.clk j (W.wy j)):=fun j=>clk_mono fun w hw=>mono j w (Wk.wy_ok hw)
 have mBC:∀ j:Nat,oLe (B.clk j (W.wy j)) (C.clk j (W.wy j)):=fun j=>clk_mono fun w hw=>R.mono j w
 have new_at:∀ {b:Nat} {bt:Tri},W.be[b]?=some bt→B.new (B.clk s p.ws) b=oAdd (B.clk s p.ws) bt.2.2:=fun {b bt} h=>by
  unfold OA.new oAdd
  rw[dl,I.dl,Wk.dl_at h]
 have in_bs:∀ {b:Nat} {bt:Tri},W.be[b]?=some bt→(∃ c ∈ p.bs,c.toNat=b)→bt.1=(s:Int):=fun {b bt} h hc=>by
  obtain⟨c,hc,e⟩:=hc
  rw[hbs] at hc
  obtain⟨k,bt',g1,g2,g3⟩:=Wk.lv_mem hc
  have:k=b:=by omega
  subst this
  rw[h] at g1
  cases g1
  exact g2
 have bs_in:∀ {b:Nat} {bt:Tri},W.be[b]?=some bt→bt.1=(s:Int)→∃ c ∈ p.bs,c.toNat=b:=fun {b bt} h e=>by
  refine⟨(b:Int),?_,z5 b⟩
  rw[hbs]
  have:=idx_has (fun(t:Tri)=>t.1 == (s:Int)) W.be 0 h (by simpa using e)
  rw[qY] at this
  exact this
 have pcC:∀(b:Nat) bt,W.be[b]?=some bt→oLe (C.pr.getD b none) (oAdd (C.clk bt.1.toNat (W.wy bt.1)) bt.2.2):=fun b bt h=>by
  have b0:=(ok.bel bt (zG h)).1
  have e0:bt.1=(bt.1.toNat:Int):=by omega
  rcases R.eq b with e|⟨hc,e⟩
  ·rw[e,pr]
   refine oLe_trans (I.pc b bt h) (oAdd_le ?_)
   rw[e0,z5]
   exact oLe_trans (mAB _) (mBC _)
  ·have hs:=in_bs h hc
   rw[e,new_at h,hs,z5,hws]
   exact oAdd_le (mBC s)
 refine⟨⟨by rw[R.sp,sp.1,I.st],by rw[R.sp]; exact sp.2,by rw[R.dl,dl,I.dl],by rw[R.lp,pr,I.lp],by rw[R.re,lr,I.lr],by rw[R.de,ld,I.ld],by rw[R.de]; exact sd,by rw[R.re]; exact sr,fun b t ht=>?_,pcC⟩,fun b bt h=>?_,fun j=>oLe_trans (mAB j) (mBC j)⟩
 ·rw[R.re] at ht
  cases h:W.be[b]? with
  | none =>
   have:B.re.getD b []=[]:=by
    rw[zA,yF]
    ·rfl
    ·rw[lr,I.lr]; exact jZ.mp h
   rw[this] at ht
   exact absurd ht zK
  | some bt =>
   rcases up b bt h t ht with g|⟨g1,g2⟩
   ·refine oLe_trans (I.up b t g) ?_
    rw[← pr]
    exact R.le b
   ·refine oLe_trans g2 ?_
    rw[← new_at h]
    exact R.ge2 b (bs_in h g1) (by rw[pr,I.lp]; exact(zD.mp h).1)
 ·refine⟨by rw[← pr]; exact R.le b,by rw[R.re]; exact row b bt h,fun n=>?_⟩
  rcases R.eq b with e|⟨hc,_⟩
  ·rw[e,pr]
  ·exact absurd (in_bs h hc) n
theorem step_stp {W:Wk} {A:OA} {m:Nat} (ok:W.Ok) (I:Inv W A) (ao:AOk m A) {s:Nat} (hs:s < W.st.length):Stp W A (A.step s).1 s:=by
 obtain⟨p,hp⟩:∃ p,A.srs[s]?=some p:=⟨A.srs[s]'(by rw[I.st]; exact hs),zB _⟩
 have ep:A.srs.getD s sp0=p:=by rw[zA,hp]; rfl
 have hws:=(I.sp s p hp).1
 have hbs:=(I.sp s p hp).2
 unfold OA.step OA.stp
 rw[ep]
 show Stp W A ((A.aft s p).rsd s p).1 s
 have R:=rsd_is (A.aft s p) s p
 cases e:A.tkn s p with
 | none =>
  have ea:A.aft s p=A:=by unfold OA.aft; rw[e]
  rw[ea] at R ⊢
  exact raise_stp ok I hp R ⟨rfl,I.sp⟩ rfl rfl rfl rfl I.sd I.sr (fun _ _ _=>oLe_refl _) (fun b bt h t ht=>.inl ht) fun b bt h=>⟨_,[],(yD _).symm,.inl rfl,.inl rfl⟩
 | some t =>
  have ea:A.aft s p=A.take s p t:=by unfold OA.aft; rw[e]
  rw[ea] at R ⊢
  have wok:∀ w ∈ p.ws,w=-1∨0≤w:=fun w hw=>by rw[hws] at hw; exact Wk.wy_ok hw
  have T:=tkn_is ao wok e
  have t0:=wok _ T.w
  have mono:∀(j:Nat) (w:Int),(w=-1∨0≤w)→oLe (A.e j w) ((A.take s p t).e j w):=fun j w hw=>take_mono ok I hp T hw
  have cl:oLe (some t.1) ((A.take s p t).clk s p.ws):=by
   rw[← T.clk]
   exact clk_mono fun w hw=>mono s w (wok w hw)
  obtain⟨e1,e2,e3,e4⟩:=take_same A s p t
  have hput:∀ {b:Nat} {e:Tri},e ∈ putR A b t (p.out (p.ws.idxOf t.2.1) t.2.2)→∃ bt,W.be[b]?=some bt∧bt.1=(s:Int)∧e.1=t.1 + bt.2.2∧e.2.1=(b:Int)∧oLe (A.pr.getD b none) (some e.1)∧putR A b t (p.out (p.ws.idxOf t.2.1) t.2.2)=[e]:=fun {b e} he=>by
   cases eo:p.out (p.ws.idxOf t.2.1) t.2.2 with
   | none=>rw[eo] at he; exact absurd he zK
   | some o =>
    rw[eo] at he
    unfold putR at he ⊢
    dsimp only at he ⊢
    split at he
    ·rename_i z
     have hb:o.1 ∈ W.lv s:=by rw[← hbs]; exact SP.out_in (y:=o.2) eo
     obtain⟨k,bt,g1,g2,g3⟩:=Wk.lv_mem hb
     have ek:k=b:=by omega
     subst ek
     have:=I.pc k bt g1
     rw[g2,z5,← hws,T.clk] at this
     rw[if_pos z]
     rw[zF.mp he,I.dl,Wk.dl_at g1]
     exact⟨bt,g1,g2,rfl,g3,this,rfl⟩
    ·exact absurd he zK
  refine raise_stp ok I hp R ⟨by rw[take_len,zT],fun j q hq=>?_⟩ e1 e2 e3 (take_dl A s p t) (fun j=>?_) (fun b=>?_) mono (fun b bt h u hu=>?_) fun b bt h=>?_
  ·rw[take_len,List.getElem?_set] at hq
   split at hq
   ·rename_i z
    subst z
    split at hq
    ·cases hq
     rw[SP.nxt_ws,SP.nxt_bs]
     exact⟨hws,hbs⟩
    ·cases hq
   ·exact I.sp j q hq
  ·rw[take_de]
   split
   ·exact(I.sd j).sublist (List.tail_sublist _)
   ·exact I.sd j
  ·rw[take_re A s p t t0]
   have s1:(if t.2.1=(b:Int) then (A.re.getD b []).tail else A.re.getD b []).Sublist (A.re.getD b []):=by
    split
    ·exact List.tail_sublist _
    ·exact List.Sublist.refl _
   refine List.pairwise_append.mpr ⟨(I.sr b).sublist s1,?_,fun u hu e he=>?_⟩
   ·cases ee:putR A b t (p.out (p.ws.idxOf t.2.1) t.2.2) with
    | nil=>exact .nil
    | cons e r =>
     obtain⟨_,_,_,_,_,_,g⟩:=hput (b:=b) (e:=e) (by rw[ee]; exact zL)
     rw[ee] at g
     rw[g]
     exact List.pairwise_singleton _ _
   ·obtain⟨bt,g1,g2,g3,g4,g5,g6⟩:=hput he
    have:=oLe_trans (I.up b u (s1.subset hu)) g5
    exact this
  ·rw[take_re A s p t t0] at hu
   rcases yA.mp hu with z|z
   ·refine .inl ?_
    split at z
    ·exact jH z
    ·exact z
   ·obtain⟨bt',g1,g2,g3,g4,g5,g6⟩:=hput z
    rw[h] at g1
    cases g1
    refine .inr ⟨g2,?_⟩
    rw[g3]
    exact oAdd_le cl
  ·refine⟨_,_,take_re A s p t t0 b,?_,?_⟩
   ·by_cases hb:t.2.1=(b:Int)
    ·rw[if_pos hb]
     have hw:=T.w
     rw[hws,hb] at hw
     have b1:(b:Int) ≠ -1:=by omega
     refine .inr ⟨rfl,fun z=>?_,?_⟩
     ·have hd:=T.hd
      unfold evAt at hd
      rw[hb,if_neg b1,z5,z] at hd
      cases hd
     ·rcases Wk.wy_mem hw with q|⟨k,bt',g1,g2,g3⟩
      ·exact absurd q b1
      ·have:k=b:=by omega
       subst this
       rw[h] at g1
       cases g1
       exact g2
    ·rw[if_neg hb]
     exact .inl rfl
   ·cases ee:putR A b t (p.out (p.ws.idxOf t.2.1) t.2.2) with
    | nil=>exact .inl rfl
    | cons e r =>
     obtain⟨bt',g1,g2,g3,g4,g5,g6⟩:=hput (b:=b) (e:=e) (by rw[ee]; exact zL)
     rw[ee] at g6
     rw[h] at g1
     cases g1
     refine .inr ⟨e,g6,g4,?_,g2⟩
     cases eg:A.pr.getD b none with
     | none=>rw[eg] at g5; exact g5.elim
     | some g=>rw[eg] at g5; exact⟨g,rfl,g5⟩
end Oc
namespace Oc
open PySem L2
section
variable {P:Program} {w:World} {K:PySem.W.Frag} {mg:Str→Option Value} {base:Heap}
theorem sc_inward:FnScope ["works","station","found"] ["works","station"] (defScope (top 21)):=⟨rfl,rfl,rfl,by decide +kernel,rfl,by decide +kernel,by decide +kernel⟩
theorem ok_inward {f:Addr} {fd:FuncData} (F:Fun K "_law_inward" "_law_inward" (top 21) f fd) (T:Txt K mg):FnOk P w K mg base CX0 1 f fd ["works","station"] spWays:=by
 have nd:=sc_inward.nd
 refine F.ok sc_inward (fun vs H Q E h=>?_) (fun cdv A outer s H vs Q E hr h=>?_)
 ·obtain⟨w,W,z,rfl,_⟩:=h
  rfl
 ·obtain⟨w,W,z,rfl,hw,ok,q⟩:=h
  refine⟨_,(@pss_cons _ _ _ _ _ (ps_set (i:=2) nd rfl (by nofun) (@pe_lst _ _ _ _ pa_nil))
   (@pss_cons _ _ _ _ _ (ps_if (pt_cmpR (op_neDK (K:=K) rfl hr.units) (pe_comp (own:=["feed"]) (fr:=["station"]) (js:=[1]) (by and_intros) (pi_listK (K:=K) rfl (@pe_ix _ _ _ _ _ _ _ (ix_tupK (K:=K) rfl) (pv 0) pe_int (fun _ _=>rfl))) (fun _ _ _ _=>(pg_name (i:=0) (show List.Nodup (["feed","station"]:List Str) from by decide +kernel) rfl (by nofun))) (fun _ _ _ _=>(pts_one (pt_cmpR op_eq (@pe_ix _ _ _ _ _ _ _ (ix_tupK (K:=K) rfl) (pv 0) pe_int (fun _ _=>rfl)) (pv 1) (nomark _)))) (fun _ _ _ _=>(pv 0))) (@pe_lst _ _ _ _ pa_nil) (nomark _)) (@pss_one _ _ _ (ps_set (i:=2) nd rfl (by nofun) (@pe_lst _ _ _ _ (@pa_cons _ _ _ _ _ (pe_un un_neg pe_int) pa_nil (by rfl))))) pss_nil)
   (@pss_one _ _ _ (@ps_ret _ _ _ _ (pe_op op_cat (pv 2) (pe_comp (own:=["k"]) (fr:=["works","station"]) (js:=[0,1]) (by and_intros) (pi_range1 rfl T.n_range (@pa_cons _ _ _ _ _ (pe_callB (call_len_seqK (K:=K) rfl) (by rfl) T.n_len bt_len (@pa_cons _ _ _ _ _ (@pe_ix _ _ _ _ _ _ _ (ix_tupK (K:=K) rfl) (pv 0) pe_int (fun _ _=>rfl)) pa_nil (by rfl))) pa_nil (by rfl))) (fun _ _ _ _=>(pg_name (i:=0) (show List.Nodup (["k","works","station"]:List Str) from by decide +kernel) rfl (by nofun))) (fun _ _ _ _=>(pts_one (pt_cmpR op_eq (@pe_ix _ _ _ _ _ _ _ (ix_tupK (K:=K) rfl) (@pe_ix _ _ _ _ _ _ _ (ix_listK (K:=K) rfl) (@pe_ix _ _ _ _ _ _ _ (ix_tupK (K:=K) rfl) (pv 1) pe_int (fun _ _=>rfl)) (pv 0) (fun _ _=>rfl)) pe_int (fun _ _=>rfl)) (pv 2) (nomark _)))) (fun _ _ _ _=>(pv 0)))))))),?_⟩
  obtain⟨sa,ba,fa,xs,ys,zs,h1,h2⟩:=hw.ex
  have lf:=h2.pf.length
  have lb:=h2.pb.length
  have b12:=ok.b12
  have f60:=ok.f60
  refine⟨zW _,fun aF nF=>?_⟩
  have sF:Same H (upd H aF (.lst [])):=Same.new nF
  have hF:(upd H aF (.lst [])) aF=some (.lst (([]:List Int).map V.int)):=upd_same
  generalize (upd H aF (.lst []))=H1 at sF hF ⊢
  refine⟨_,rfl,⟨_,_,_,_,rfl,rfl,SqT.of (sF _ _ h1),atI_nat (j:=2) rfl,fa,rfl,⟨_,SqL.of (sF _ _ h2.hf)⟩,fun D2 nD2=>?_⟩⟩
  refine comp_list (K:=K) (a:=fa) (xs:=zs) (fun i H5=>∃(vs:List V) (ts:List Tri),Same H1 H5∧H5 D2=some (.lst vs)∧Paired (IsTri H1) vs ts∧vs.length≤i∧(vs=[] ↔ (W.fe.take i).any (fun t=>t.1 == z)=false)) ⟨[],[],Same.new nD2,upd_same,.nil,zH _,by simp⟩ (fun i H5 _ ⟨_,_,h,_⟩=>SqL.of (h _ _ (sF _ _ h2.hf))) ?_ ?_
  ·rintro i' x' H5 m' Wf' hi' ⟨vs,ts,s5,h5,pv,lv,iv⟩ nx'
   obtain⟨t,ht,hp0⟩:=h2.pf.gt hi'
   obtain⟨a0,rfl,ha⟩:=hp0
   have hi2:=(zD.mp ht).1
   refine⟨_,rfl,⟨_,_,_,_,rfl,rfl,SqT.of (s5 _ _ (sF _ _ ha)),atI_nat (j:=0) rfl,_,rfl,rfl,_,rfl,?_⟩⟩
   have et:decide (V.int t.1=V.int z)=(t.1 == z):=dec_int
   have eA:(W.fe.take (i' + 1)).any (fun t=>t.1 == z)=((W.fe.take i').any (fun t=>t.1 == z) || (t.1 == z)):=by
    rw[yI,ht,List.any_append]
    simp
   refine iteB (fun hb=>?_) (fun hb=>?_)
   ·rw[et] at hb
    refine⟨_,rfl,_,h5,small1000 (by omega),nx' _ ⟨vs++[.ref a0],ts++[t],s5.upd nD2,upd_same,paired_app pv (.cons ⟨a0,rfl,sF _ _ ha⟩ .nil),by rw[zN]; show _ + 1≤_; omega,?_⟩⟩
    rw[eA,hb]
    simp
   ·rw[et] at hb
    refine nx' _ ⟨vs,ts,s5,h5,pv,by omega,?_⟩
    rw[eA,hb,j2]
    exact iv
  ·rintro H5 ⟨vs,ts,s5,h5,pv,lv,iv⟩
   rw[lf,zX] at iv
   refine⟨zW _,fun l nl=>?_⟩
   have s6:Same H5 (upd H5 l (.lst [])):=Same.new nl
   refine⟨.list (ts.map triD),.list [],2,.lst (SqL.of (s6 _ _ h5)) (DtAll.of (f:=triD) (P:=IsTri H1) (fun _ _ h=>(IsTri.same (s5.trans s6) h).dt) pv),.lst (SqL.of upd_same) (.nil _),by decide,_,rfl,?_⟩
   have lts:=pv.length
   have s06:Same H (upd H5 l (.lst [])):=sF.trans (s5.trans s6)
   have hF6:=s6 _ _ (s5 _ _ hF)
   generalize (upd H5 l (.lst []))=H6 at s06 hF6 ⊢
   have fin:∀(H7:Hp) (aG:Addr) (pre:List Int),Same H H7→H7 aG=some (.lst (pre.map V.int))→pre.length≤1→(pre++idx (fun(t:Tri)=>t.2.1 == z) 0 W.be=W.wy z) →
     tRet (tOp rCat (tVar 2) (tComp (iRng1 (tCons (tCB (fun xs H Q=>∃ p ys,xs=[V.ref p]∧(SqL K H p ys∨SqT K H p ys)∧Q (.int ys.length) H) (tCons (tOp (rIxT K) (tVar 0) (tC (.int 1))) tNil)) tNil)) ["k"] [0,1] (gName 0)
      (tTest (tOp rEq (tOp (rIxT K) (tOp (rIxL K) (tOp (rIxT K) (tVar 1) (tC (.int 1))) (tVar 0)) (tC (.int 1))) (tVar 2))) (tVar 0))) { nx:=fun _ H'=>Q .non H',rt:=Q } [some (.ref w),some (.int z),some (.ref aG)] H7:=fun H7 aG pre s7 hG lp ew=>by
    refine⟨_,rfl,_,rfl,⟨_,_,_,_,rfl,rfl,SqT.of (s7 _ _ h1),atI_nat (j:=1) rfl,ba,_,rfl,.inl (SqL.of (s7 _ _ h2.hb)),_,rfl,by rw[p62]; omega,by rw[p62]; omega,fun D3 nD3=>?_⟩⟩
    refine comp_range (lo:=0) (n:=((ys.length:Nat):Int).toNat) (fun i H8=>Same H7 H8∧H8 D3=some (.lst ((idx (fun(t:Tri)=>t.2.1 == z) 0 (W.be.take i)).map V.int))) ⟨Same.new nD3,upd_same⟩ ?_ ?_
    ·rintro j H8 m Wf hj ⟨s8,h8⟩ nx
     have ez:(0:Int) + (j:Int)=(j:Int):=qD _
     rw[ez]
     have hil:j < ys.length:=by omega
     obtain⟨t,ht,hp0⟩:=h2.pb.gt (zB hil)
     obtain⟨a0,ea0,ha0⟩:=hp0
     have hy:ys[j]?=some (.ref a0):=by rw[zB hil,ea0]
     have s78:=s7.trans s8
     refine⟨_,rfl,⟨_,_,_,_,rfl,rfl,SqT.of (s78 _ _ h1),(atI_nat (j:=1) rfl),_,rfl,⟨_,_,_,_,rfl,rfl,SqL.of (s78 _ _ h2.hb),(atI_nat hy),⟨_,_,_,_,rfl,rfl,SqT.of (s78 _ _ ha0),(atI_nat (j:=1) rfl),_,rfl,rfl,_,rfl,?_⟩⟩⟩⟩
     have et:decide (V.int t.2.1=V.int z)=(t.2.1 == z):=dec_int
     have eid:=idx_take (fun(t:Tri)=>t.2.1 == z) ht
     refine iteB (fun hb=>?_) (fun hb=>?_)
     ·rw[et] at hb
      refine⟨_,rfl,_,h8,small1000 (by rw[zC]; have:=idx_len (fun(t:Tri)=>t.2.1 == z) (W.be.take j) 0; rw[zU] at this; omega),nx _ ⟨s8.upd nD3,?_⟩⟩
      rw[upd_same,eid,hb,if_pos rfl,zJ]
      rfl
     ·rw[et] at hb
      refine nx _ ⟨s8,?_⟩
      rw[eid,hb,if_neg zV,yD]
      exact h8
    ·rintro H8 ⟨s8,h8⟩
     have e8:((ys.length:Nat):Int).toNat=W.be.length:=by omega
     rw[e8,zX] at h8
     have lix:=idx_len (fun(t:Tri)=>t.2.1 == z) W.be 0
     refine⟨aG,D3,_,_,rfl,rfl,s8 _ _ hG,h8,?_,fun c nc=>?_⟩
     ·rw[zC,zC]
      exact yQ (small1000 (by omega))
     ·refine q c _ ((s7.trans s8).free nc) ?_ ((s7.trans s8).trans (Same.new nc))
      rw[upd_same,← ew,zJ]
   cases ts with
   | nil =>
    have ev:vs=[]:=List.length_eq_zero_iff.mp lts
    have ea:=iv.mp ev
    have en:PyData.eqv (.list (([]:List Tri).map triD)) (.list [])=true:=by simp [PyData.eqv,PyData.eqvAll]
    rw[en]
    refine iteF (fin _ aF [] s06 hF6 (zW _) ?_)
    unfold Wk.wy
    rw[ea]
    rfl
   | cons t0 ts =>
    have ea:W.fe.any (fun t=>t.1 == z)=true:=by
     cases h:W.fe.any (fun t=>t.1 == z) with
     | true=>rfl
     | false =>
      have:=iv.mpr h
      rw[this] at lts
      cases lts
    have en:PyData.eqv (.list ((t0::ts).map triD)) (.list [])=false:=by simp [PyData.eqv,PyData.eqvAll]
    rw[en]
    refine iteT ⟨_,rfl,(by show 1≤sizeLine; decide),fun aG nG=>?_⟩
    refine fin _ aG [-1] (s06.trans (Same.new nG)) upd_same (zH _) ?_
    unfold Wk.wy
    rw[ea]
    rfl
end
end Oc
namespace Oc
open PySem L2
theorem pair_r {α β:Type} {F:α→β→Prop} {l₁:List α} {l₂:List β} (h:Paired F l₁ l₂) {i:Nat} {b:β} (e:l₂[i]?=some b):∃ a,l₁[i]?=some a∧F a b:=by
 have hl:=h.length
 have hi:=(zD.mp e).1
 have e1:l₁[i]?=some (l₁[i]'(by omega)):=zB _
 obtain⟨b',e',f⟩:=h.gt e1
 rw[e] at e'
 cases e'
 exact⟨_,e1,f⟩
def keyK (s w:Int):List Key:=[.inl s,.inl w]
def kvs (da ra:List Addr) (W:Wk):List (List Key × V):=((List.range W.st.length).map fun s:Nat=>(keyK (s:Int) (-1),V.ref (da.getD s 0)))++((List.range W.be.length).map fun b:Nat=>(keyK (W.be.getD b (0,0,0)).2.1 (b:Int),V.ref (ra.getD b 0)))
def hdH (W:Wk) (o:OR):List Cell:=[(o.x,.tup [.ref o.rl,.ref o.pl,.ref o.gl]),(o.rl,.dT (kvs o.da o.ra W)),(o.pl,.lst (o.pr.map pV)),(o.gl,.lst (o.ga.map V.ref))]
def heldCs (cs:Cs) (W:Wk) (o:OR):List (List Cell):=[hdH W o,liC o.da o.dv,liC o.ra o.rv,liC o.ga o.gv,stC cs o.srs]
structure HTo (cs:Cs) (W:Wk) (M:List (List Cell)) (H H':Hp) (o o':OR) (A':OA):Prop where
 x:o'.x=o.x
 s:o'.srs=o.srs
 d:o'.dels=o.dels
 hc:Hc H' (heldCs cs W o'++M)
 ok:OOk o'
 is:OIs H' o' A'
 tk:Tk H H'
structure HTs (cs:Cs) (W:Wk) (M:List (List Cell)) (H H':Hp) (o o':OR) (A':OA):Prop where
 x:o'.x=o.x
 d:o'.dels=o.dels
 hc:Hc H' (heldCs cs W o'++M)
 ok:OOk o'
 is:OIs H' o' A'
 tk:Tk H H'
 sr:srefs o'.srs=srefs o.srs
theorem find_map {α:Type} [DecidableEq α] {f:Nat→α} {g:Nat→V} (inj:∀ i j,f i=f j→i=j):∀(n k i:Nat),k≤i→i < k + n→((List.range' k n).map fun j=>(f j,g j)).find? (fun kv=>decide (kv.1=f i))=some (f i,g i)
 | 0,_,_,h1,h2=>absurd h2 (by omega)
 | n + 1,k,i,h1,h2=>by
  rw[List.range'_succ,yJ,qB]
  by_cases e:k=i
  ·subst e
   rw[decide_eq_true rfl]
  ·rw[decide_eq_false (fun z=>e (inj _ _ z))]
   exact find_map inj n (k + 1) i (by omega) (by omega)
theorem find_none {α:Type} [DecidableEq α] {l:List (α × V)} {x:α} (h:∀ p ∈ l,p.1 ≠ x):l.find? (fun kv=>decide (kv.1=x))=none:=List.find?_eq_none.mpr fun p hp z=>h p hp (of_decide_eq_true z)
section
variable {da ra:List Addr} {W:Wk}
theorem mS {s:Nat} (hs:s < W.st.length):valV (kvs da ra W) (keyK (s:Int) (-1))=some (.ref (da.getD s 0)):=by
 unfold valV kvs
 rw[List.find?_append,jG,find_map (f:=fun s:Nat=>keyK (s:Int) (-1)) (g:=fun s:Nat=>V.ref (da.getD s 0)) (fun i j h=>by
  unfold keyK at h
  injection h with h _
  injection h with h
  omega) W.st.length 0 s (by omega) (by omega)]
 rfl
theorem kvs_belt {b:Nat} {bt:Tri} (hb:W.be[b]?=some bt):valV (kvs da ra W) (keyK bt.2.1 (b:Int))=some (.ref (ra.getD b 0)):=by
 have hl:=(zD.mp hb).1
 have eb:(W.be.getD b (0,0,0)).2.1=bt.2.1:=by rw[zA,hb]; rfl
 unfold valV kvs
 rw[List.find?_append,find_none (fun p hp z=>by
  obtain⟨s,_,rfl⟩:=yB.mp hp
  unfold keyK at z
  injection z with _ z
  injection z with z _
  injection z with z
  omega),← eb,jG (n:=W.be.length),find_map (f:=fun b:Nat=>keyK (W.be.getD b (0,0,0)).2.1 (b:Int)) (g:=fun b:Nat=>V.ref (ra.getD b 0)) (fun i j h=>by
  unfold keyK at h
  injection h with _ h
  injection h with h _
  injection h with h
  omega) W.be.length 0 b (by omega) (by omega)]
 rfl
end
section
variable {cs:Cs} {W:Wk} {M:List (List Cell)} {H:Hp} {o:OR} {A:OA} {s m:Nat}
theorem hbelt (ok:OOk o) (hc:Hc H (heldCs cs W o++M)) {us:List V} (h:o.rv[s]?=some us):∃ a,o.ra[s]?=some a∧H a=some (.lst us):=by
 obtain⟨a,ha⟩:=get_like (ok.lrv.trans ok.lr.symm) h
 exact⟨a,ha,hc.get 2 s rfl (li_cell ha h)⟩
theorem hlog (ok:OOk o) (hc:Hc H (heldCs cs W o++M)) {us:List V} (h:o.gv[s]?=some us):∃ a,o.ga[s]?=some a∧H a=some (.lst us):=by
 obtain⟨a,ha⟩:=get_like (ok.lgv.trans ok.lg.symm) h
 exact⟨a,ha,hc.get 3 s rfl (li_cell ha h)⟩
theorem hdoor (ok:OOk o) (hc:Hc H (heldCs cs W o++M)) {us:List V} (h:o.dv[s]?=some us):∃ a,o.da[s]?=some a∧H a=some (.lst us):=by
 obtain⟨a,ha⟩:=get_like (ok.ldv.trans ok.ld.symm) h
 exact⟨a,ha,hc.get 1 s rfl (li_cell ha h)⟩
structure HRow (W:Wk) (H:Hp) (o:OR) (A:OA) (s:Nat) (w:Int) (us:List V) (a:Addr):Prop where
 w0:w=-1∨0≤w
 eu:o.at s w=some us
 ea:o.atA s w=some a
 hl:H a=some (.lst us)
 pe:Paired (IsTri H) us (evAt A.de A.re s w)
 kv:valV (kvs o.da o.ra W) (keyK (s:Int) w)=some (.ref a)
theorem hrow (hc:Hc H (heldCs cs W o++M)) (f:OwnF W m H o A) (hs:s < W.st.length) {w:Int} (hw:w ∈ W.wy (s:Int)):∃ us a,HRow W H o A s w us a:=by
 have ok:=f.ok
 have ldv:=ok.ldv
 have lrv:=ok.lrv
 have ns:=f.ns
 have nb:=f.nb
 rcases Wk.wy_mem hw with e|⟨j,bt,hj,eb,e⟩
 ·subst e
  have h:o.dv[s]?=some (o.dv[s]'(by omega)):=zB _
  obtain⟨a,ha,hl⟩:=hdoor ok hc h
  have e1:o.at s (-1)=some (o.dv[s]'(by omega)):=by unfold OR.at; rw[if_pos rfl]; exact h
  refine⟨_,a,.inl rfl,e1,by unfold OR.atA; rw[if_pos rfl]; exact ha,hl,ev_of f.is.e e1,?_⟩
  rw[mS hs,zA,ha]
  rfl
 ·subst e
  have hl':=(zD.mp hj).1
  have h:o.rv[j]?=some (o.rv[j]'(by omega)):=zB _
  obtain⟨a,ha,hl⟩:=hbelt ok hc h
  have e1:o.at s (j:Int)=some (o.rv[j]'(by omega)):=by unfold OR.at; rw[if_neg (by omega)]; exact h
  refine⟨_,a,.inr (by omega),e1,by unfold OR.atA; rw[if_neg (by omega)]; exact ha,hl,ev_of f.is.e e1,?_⟩
  rw[← eb,kvs_belt hj,zA,ha]
  rfl
theorem hget {H':Hp} {w:Int} {us:List V} {a b:Addr} (r:HRow W H o A s w us a) (hc:Hc H' (heldCs cs W o++M)) (hb:H' b=some (.tup [.int (s:Int),.int w])):DGet H' o.rl (.ref b) (some (.ref a)):=by
 have:=DGet.t (k:=keyK (s:Int) w) (hc.get 0 1 rfl rfl) hb
 rw[r.kv] at this
 exact this
theorem hpr_to (hc:Hc H (heldCs cs W o++M)) (ok:OOk o) (is:OIs H o A) (b:Nat) (x:Option Int):HTo cs W M H (upd H o.pl (.lst ((o.pr.map pV).set b (pV x)))) o { o with pr:=o.pr.set b x } { A with pr:=A.pr.set b x }:=by
 have hp:=hc.put 0 2 rfl rfl (.lst ((o.pr.map pV).set b (pV x)))
 have tk:Tk H (upd H o.pl (.lst ((o.pr.map pV).set b (pV x)))):=(Tk.refl H).put (hc.get 0 2 rfl rfl) (fun z=>z)
 refine⟨rfl,rfl,rfl,?_,ok.pr _ zT,⟨is.s,is.d,by show o.pr.set b _=A.pr.set b _; rw[is.p],(is.e.tk tk).pr _⟩,tk⟩
 rw[← qG] at hp ⊢
 exact hp
theorem hpop_to (hc:Hc H (heldCs cs W o++M)) (ok:OOk o) (is:OIs H o A) {s:Nat} {w:Int} {us:List V} {a:Addr} (hat:o.at s w=some us) (ha:o.atA s w=some a):∃ o1,HTo cs W M H (upd H a (.lst (us.eraseIdx 0))) o o1 (A.pop s w):=by
 unfold OR.at at hat
 unfold OR.atA at ha
 unfold OA.pop
 by_cases e:w=-1
 ·rw[if_pos e] at hat ha ⊢
  have hput:=hc.put 1 s rfl (li_cell ha hat) (.lst (us.eraseIdx 0))
  have tk:Tk H (upd H a (.lst (us.eraseIdx 0))):=(Tk.refl H).put (hc.get 1 s rfl (li_cell ha hat)) (fun z=>z)
  rw[liC_set ha] at hput
  obtain⟨ts,hts,pt⟩:=is.e.d.gt hat
  have ev:=is.e.tk tk
  refine⟨{ o with dv:=o.dv.set s (us.eraseIdx 0) },rfl,rfl,rfl,hput,ok.dv _ zT,⟨is.s,is.d,is.p,?_,ev.r,ev.g⟩,tk⟩
  rw[zA,hts]
  exact paired_set ev.d (paired_tail (pairedMono (fun _ _ h=>h.tk tk) pt))
 ·rw[if_neg e] at hat ha ⊢
  have hput:=hc.put 2 w.toNat rfl (li_cell ha hat) (.lst (us.eraseIdx 0))
  have tk:Tk H (upd H a (.lst (us.eraseIdx 0))):=(Tk.refl H).put (hc.get 2 w.toNat rfl (li_cell ha hat)) (fun z=>z)
  rw[liC_set ha] at hput
  obtain⟨ts,hts,pt⟩:=is.e.r.gt hat
  have ev:=is.e.tk tk
  refine⟨{ o with rv:=o.rv.set w.toNat (us.eraseIdx 0) },rfl,rfl,rfl,hput,ok.rv _ zT,⟨is.s,is.d,is.p,ev.d,?_,ev.g⟩,tk⟩
  rw[zA,hts]
  exact paired_set ev.r (paired_tail (pairedMono (fun _ _ h=>h.tk tk) pt))
theorem hlog_to (hc:Hc H (heldCs cs W o++M)) (ok:OOk o) (is:OIs H o A) {s:Nat} {gs:List V} {a:Addr} {v:V} {t:Tri} (hg:o.gv[s]?=some gs) (ha:o.ga[s]?=some a) (ht:IsTri H v t):∃ o1,HTo cs W M H (upd H a (.lst (gs++[v]))) o o1 (A.log s t):=by
 have hput:=hc.put 3 s rfl (li_cell ha hg) (.lst (gs++[v]))
 have tk:Tk H (upd H a (.lst (gs++[v]))):=(Tk.refl H).put (hc.get 3 s rfl (li_cell ha hg)) (fun z=>z)
 rw[liC_set ha] at hput
 obtain⟨ts,hts,pt⟩:=is.e.g.gt hg
 have ev:=is.e.tk tk
 refine⟨{ o with gv:=o.gv.set s (gs++[v]) },rfl,rfl,rfl,hput,ok.gv _ zT,⟨is.s,is.d,is.p,ev.d,ev.r,?_⟩,tk⟩
 show Paired _ (o.gv.set s (gs++[v])) (A.ge.set s (A.ge.getD s []++[t]))
 rw[zA,hts]
 exact paired_set ev.g (paired_app (pairedMono (fun _ _ h=>h.tk tk) pt) (.cons (ht.tk tk) .nil))
theorem hlay_to (hc:Hc H (heldCs cs W o++M)) (ok:OOk o) (is:OIs H o A) {b:Nat} {us:List V} {a:Addr} {v:V} {t:Tri} (hg:o.rv[b]?=some us) (ha:o.ra[b]?=some a) (ht:IsTri H v t):∃ o1,HTo cs W M H (upd H a (.lst (us++[v]))) o o1 (A.lay b t):=by
 have hput:=hc.put 2 b rfl (li_cell ha hg) (.lst (us++[v]))
 have tk:Tk H (upd H a (.lst (us++[v]))):=(Tk.refl H).put (hc.get 2 b rfl (li_cell ha hg)) (fun z=>z)
 rw[liC_set ha] at hput
 obtain⟨ts,hts,pt⟩:=is.e.r.gt hg
 have ev:=is.e.tk tk
 refine⟨{ o with rv:=o.rv.set b (us++[v]) },rfl,rfl,rfl,hput,ok.rv _ zT,⟨is.s,is.d,is.p,ev.d,?_,ev.g⟩,tk⟩
 show Paired _ (o.rv.set b (us++[v])) (A.re.set b (A.re.getD b []++[t]))
 rw[zA,hts]
 exact paired_set ev.r (paired_app (pairedMono (fun _ _ h=>h.tk tk) pt) (.cons (ht.tk tk) .nil))
theorem hsta_to {H':Hp} {ft:List Cell} {s:Nat} {r r':SR} {X Y:List SR} (ok:OOk o) (is:OIs H o A) (hs:o.srs[s]?=some r) (eXY:o.srs=X++r::Y) (lX:X.length=s) (hx:r'.x=r.x) (hw:r'.ws=r.ws) (hb:r'.bs=r.bs)
  (hc:Hc H' (ft::srC cs r'::(stC cs X++stC cs Y)::hdH W o::liC o.da o.dv::liC o.ra o.rv::liC o.ga o.gv::M)) (tk:Tk H H'):HTs cs W (ft::M) H H' o { o with srs:=o.srs.set s r' } (A.sta s r'.pu):=by
 have eset:o.srs.set s r'=X++r'::Y:=by rw[eXY,← lX]; exact set_cut
 have erefs:srefs (o.srs.set s r')=srefs o.srs:=map_set_same hs (by rw[hx])
 refine⟨rfl,rfl,?_,⟨?_,?_,ok.lr,ok.lrv,ok.lp,?_,?_,?_,ok.b12,?_,?_⟩,⟨?_,is.d,is.p,(is.e.tk tk).d,(is.e.tk tk).r,(is.e.tk tk).g⟩,tk,erefs⟩
 ·have h2:=(st_back (M:=ft::hdH W o::liC o.da o.dv::liC o.ra o.rv::liC o.ga o.gv::M) ((hc.pick 2 rfl).pick 2 rfl))
  show Hc H' (hdH W o::liC o.da o.dv::liC o.ra o.rv::liC o.ga o.gv::stC cs (o.srs.set s r')::ft::M)
  rw[eset]
  have h3:Hc H' (ft::stC cs (X++r'::Y)::hdH W o::liC o.da o.dv::liC o.ra o.rv::liC o.ga o.gv::M):=h2.swap
  have h4:=(h3.swap.pick 5 rfl).pick 5 rfl
  exact(h4.pick 5 rfl).pick 5 rfl
 ·show o.da.length=(o.srs.set s r').length; rw[zT]; exact ok.ld
 ·show o.dv.length=(o.srs.set s r').length; rw[zT]; exact ok.ldv
 ·show o.ga.length=(o.srs.set s r').length; rw[zT]; exact ok.lg
 ·show o.gv.length=(o.srs.set s r').length; rw[zT]; exact ok.lgv
 ·show(o.srs.set s r').length≤8; rw[zT]; exact ok.s8
 ·exact all_set ok.ways (by rw[hw]; exact ok.ways r (zG hs))
 ·exact all_set ok.belts (by rw[hb]; exact ok.belts r (zG hs))
 ·show(o.srs.set s r').map SR.pu=A.srs.set s r'.pu; rw[qG,is.s]
end
end Oc
namespace Oc
open PySem L2
theorem eqv_nil (ts:List Tri):PyData.eqv (.list (ts.map triD)) (.list [])=ts.isEmpty:=by cases ts <;> simp [PyData.eqv,PyData.eqvAll]
theorem dt_nil {K:PySem.W.Frag} {H:Hp} {l:Addr} (h:H l=some (.lst [])):Dt K H 2 (.ref l) (.list []):=.lst (SqL.of h) (.nil _)
theorem Wk.wy13 {W:Wk} (ok:W.Ok) (s:Int):(W.wy s).length≤13:=by
 have b12:=ok.b12
 have:=idx_len (fun(t:Tri)=>t.2.1 == s) W.be 0
 unfold Wk.wy
 rw[zN]
 split
 ·show 1 + _≤13; omega
 ·show 0 + _≤13; omega
theorem fm_take {f:Int→Option Int} {ws:List Int} {i:Nat} {w:Int} (h:ws[i]?=some w):(ws.take (i + 1)).filterMap f=(ws.take i).filterMap f++(f w).toList:=by
 rw[take_1 h,yY]
 congr 1
theorem fm_len {f:Int→Option Int} {ws:List Int} {i n:Nat} (h:ws.length≤n):((ws.take i).filterMap f).length≤n:=z4 (y4 _ _) (by rw[zU]; omega)
inductive spHClk (cs:Cs) (vs:List V) (H:Hp) (Q:VK) (x_3:XK):Prop where
 | mk (w:Addr) (W:Wk) (o:OR) (M:List (List Cell)) (s m:Nat) (A:OA) (h_0:vs=[.ref w,.ref o.x,.int (s:Int)]) (h_1:WkAt H w W) (h_2:W.Ok) (h_3:Hc H (heldCs cs W o++M)) (h_4:OwnF W m H o A) (h_5:s < W.st.length) (h_6:∀ H',Same H H'→Q (pV (A.clk s (W.wy s))) H'):spHClk cs vs H Q x_3
section
variable {P:Program} {w:World} {K:PySem.W.Frag} {mg:Str→Option Value} {base:Heap} {cs:Cs} {C:Addr}
theorem sc_hclk:FnScope ["works","held","station","found","way","row"] ["works","held","station"] (defScope (top 23)):=⟨rfl,rfl,rfl,by decide +kernel,rfl,by decide +kernel,by decide +kernel⟩
theorem ok_hclk {f:Addr} {fd:FuncData} (F:Fun K "_law_clock" "_law_clock" (top 23) f fd) (T:Txt K mg) (aq:FnAt P w K mg base 1 "_law_inward" ["works","station"] spWays):FnOk P w K mg base CX0 2 f fd ["works","held","station"] (spHClk cs):=by
 have nd:=sc_hclk.nd
 refine F.ok sc_hclk (fun vs H Q E h=>?_) (fun cdv A outer s H vs Q E hr h=>?_)
 ·obtain⟨w,W,o,M,s,m,A,rfl,_⟩:=h
  rfl
 ·obtain⟨w,W,o,M,s,m,A,rfl,hw,ok,hc,of,hs,q⟩:=h
  have hu:=hu_of hr
  have lw:=Wk.wy13 ok (s:Int)
  have nb:=of.nb
  have lp:=of.ok.lp
  refine⟨_,(@pss_cons _ _ _ _ _ (ps_set (i:=3) nd rfl (by nofun) (@pe_lst _ _ _ _ pa_nil))
   (@pss_cons _ _ _ _ _ (ps_for PassesOwn.never rfl (pi_listK (K:=K) rfl (pe_fn aq (hr.mono (by decide)) (by rfl) (@pa_cons _ _ _ _ _ (pv 0) (@pa_cons _ _ _ _ _ (pv 2) pa_nil (by rfl)) (by rfl)))) (pg_name (i:=4) nd rfl (by nofun)) (@pss_cons _ _ _ _ _ (ps_set (i:=5) nd rfl (by nofun) (pe_dget hu (@pe_ix _ _ _ _ _ _ _ (ix_tupK (K:=K) rfl) (pv 1) pe_int (fun _ _=>rfl)) (@pe_tup _ _ _ _ _ (@pa_cons _ _ _ _ _ (pv 2) (@pa_cons _ _ _ _ _ (pv 4) pa_nil (by rfl)) (by rfl))) (fun _ _=>rfl)))
   (@pss_one _ _ _ (ps_if (pt_cmpR (op_neDK (K:=K) rfl hr.units) (pv 5) (@pe_lst _ _ _ _ pa_nil) (nomark _)) (@pss_one _ _ _ (ps_expr (pe_bm PySem.F.plainAttrs_list PySem.F.slot_list_append PySem.F.type_list_append mt_append (pv 3) (@pa_cons _ _ _ _ _ (@pe_ix _ _ _ _ _ _ _ (ix_tupK (K:=K) rfl) (@pe_ix _ _ _ _ _ _ _ (ix_listK (K:=K) rfl) (pv 5) pe_int (fun _ _=>rfl)) pe_int (fun _ _=>rfl)) pa_nil (by rfl))))) (@pss_one _ _ _ (ps_if ((pw_and (pt_cmpR op_ge (pv 4) pe_int (nomark _)) (pw_and1 (pt_cmpR op_notN (@pe_ix _ _ _ _ _ _ _ (ix_listK (K:=K) rfl) (@pe_ix _ _ _ _ _ _ _ (ix_tupK (K:=K) rfl) (pv 1) pe_int (fun _ _=>rfl)) (pv 4) (fun _ _=>rfl)) pe_non (nomark _))))).pt (@pss_one _ _ _ (ps_expr (pe_bm PySem.F.plainAttrs_list PySem.F.slot_list_append PySem.F.type_list_append mt_append (pv 3) (@pa_cons _ _ _ _ _ (@pe_ix _ _ _ _ _ _ _ (ix_listK (K:=K) rfl) (@pe_ix _ _ _ _ _ _ _ (ix_tupK (K:=K) rfl) (pv 1) pe_int (fun _ _=>rfl)) (pv 4) (fun _ _=>rfl)) pa_nil (by rfl))))) pss_nil))))))
   (@pss_one _ _ _ (@ps_ret _ _ _ _ (pe_minD rfl (by rfl) T.n_min bt_min (pv 3)))))),?_⟩
  refine⟨zW _,fun aF nF=>?_⟩
  have sF:Same H (upd H aF (.lst [])):=Same.new nF
  have hF:(upd H aF (.lst [])) aF=some (.lst (([]:List Int).map V.int)):=upd_same
  generalize (upd H aF (.lst []))=H1 at sF hF ⊢
  refine⟨_,rfl,_,rfl,w,W,s,rfl,hw.same sF,ok,fun c H2 nc gc s2=>?_⟩
  have ncF:c ≠ aF:=fun e=>by rw[e,hF] at nc; cases nc
  refine⟨c,rfl,⟨_,SqL.of gc⟩,for_list (K:=K) (a:=c) (xs:=(W.wy s).map V.int) (fun i σ H5=>∃ v4 v5:Option V,σ=[some (.ref w),some (.ref o.x),some (.int (s:Int)),some (.ref aF),v4,v5]∧Same H H5∧H5 c=some (.lst ((W.wy s).map V.int))∧H5 aF=some (.lst ((((W.wy s).take i).filterMap (A.e s)).map V.int)))
   ⟨_,_,rfl,sF.trans s2,gc,s2 _ _ hF⟩ (fun i σ H5 _ ⟨_,_,_,_,g,_⟩=>SqL.of g) ?_ ?_⟩
  ·rintro i x σ H5 hx ⟨v4,v5,rfl,s5,gc5,g5⟩
   obtain⟨wy,rfl,hwy⟩:=ints_get hx
   obtain⟨us,a,r⟩:=hrow hc of hs (zG hwy)
   have l5:=fm_len (f:=A.e s) (i:=i) lw
   have et:=fm_take (f:=A.e s) hwy
   refine⟨_,rfl,⟨_,_,_,_,rfl,rfl,SqT.of ((hc.same s5).get 0 0 rfl rfl),atI_nat (j:=0) rfl,_,rfl,_,rfl,(by show 2≤sizeLine; decide),fun b nb=>?_⟩⟩
   have s6:Same H5 (upd H5 b (.tup [.int (s:Int),.int wy])):=Same.new nb
   have gb:(upd H5 b (.tup [.int (s:Int),.int wy])) b=some (.tup [.int (s:Int),.int wy]):=upd_same
   generalize (upd H5 b (.tup [.int (s:Int),.int wy]))=H6 at s6 gb ⊢
   refine⟨o.rl,_,rfl,hget r (hc.same (s5.trans s6)) gb,?_⟩
   refine⟨_,rfl,zW _,fun l nl=>?_⟩
   have s7:Same H6 (upd H6 l (.lst [])):=Same.new nl
   have gl:(upd H6 l (.lst [])) l=some (.lst []):=upd_same
   generalize (upd H6 l (.lst []))=H7 at s7 gl ⊢
   have S:=s5.trans (s6.trans s7)
   have g7:=s7 _ _ (s6 _ _ g5)
   have gc7:=s7 _ _ (s6 _ _ gc5)
   have e7:A.e s wy=A.ear wy (evAt A.de A.re s wy):=rfl
   refine⟨.list ((evAt A.de A.re s wy).map triD),.list [],2,dt_tris (S _ _ r.hl) (pairedMono (fun _ _ h=>IsTri.same S h) r.pe),dt_nil gl,by decide,_,rfl,?_⟩
   rw[eqv_nil]
   have pe:=r.pe
   have hl7:=S _ _ r.hl
   cases ee:evAt A.de A.re s wy with
   | nil =>
    rw[ee] at e7
    refine iteF ⟨_,rfl,_,_,rfl,rfl,_,rfl,?_⟩
    refine iteB (fun hb=>?_) (fun hb=>?_)
    ·have h0:=of_decide_eq_true hb
     obtain⟨j,rfl⟩:∃ j:Nat,wy=(j:Int):=⟨wy.toNat,by omega⟩
     have hj:j < W.be.length:=by
      rcases Wk.wy_in (zG hwy) with z|z <;> omega
     obtain⟨g,hg⟩:∃ g,o.pr[j]?=some g:=⟨o.pr[j]'(by omega),zB _⟩
     have e8:A.e s (j:Int)=g:=by
      rw[e7]
      unfold OA.ear
      rw[if_neg (by omega),← of.is.p,z5,zA,hg]
      rfl
     refine⟨_,rfl,⟨_,_,_,_,rfl,rfl,SqT.of ((hc.same S).get 0 0 rfl rfl),atI_nat (j:=1) rfl,_,rfl,⟨_,_,_,_,rfl,rfl,SqL.of ((hc.same S).get 0 2 rfl rfl),atI_nat (by rw[zE,hg]; rfl),rfl,_,rfl,?_⟩⟩⟩
     cases g with
     | none =>
      refine iteF ⟨_,_,rfl,S,gc7,?_⟩
      rw[et,e8]
      simpa using g7
     | some g =>
      refine iteT ⟨_,rfl,tyL g7,_,rfl,⟨_,_,_,_,rfl,rfl,SqT.of ((hc.same S).get 0 0 rfl rfl),atI_nat (j:=1) rfl,_,rfl,⟨_,_,_,_,rfl,rfl,SqL.of ((hc.same S).get 0 2 rfl rfl),atI_nat (by rw[zE,hg]; rfl),aF,_,_,rfl,rfl,g7,smallM (by rw[zC]; omega),?_⟩⟩⟩
      refine⟨_,_,rfl,S.upd nF,by rw[upd_ne ncF]; exact gc7,?_⟩
      rw[upd_same,et,e8,zJ]
      rfl
    ·have h0:=of_decide_eq_false hb
     have ew:wy=-1:=by
      rcases r.w0 with z|z
      ·exact z
      ·omega
     refine iteF ⟨_,_,rfl,S,gc7,?_⟩
     rw[et,e7]
     unfold OA.ear
     rw[if_pos ew]
     simpa using g7
   | cons t ts =>
    rw[ee] at e7 pe
    obtain⟨p,us',rfl,hp⟩:∃ p us',us=V.ref p::us'∧H p=some (.tup (triV t)):=by
     cases pe with
     | cons hx0 hr0 =>
      obtain⟨p,rfl,hp⟩:=hx0
      exact⟨p,_,rfl,hp⟩
    refine iteT ⟨_,rfl,tyL g7,_,rfl,⟨_,_,_,_,rfl,rfl,SqL.of hl7,atI_nat (j:=0) rfl,⟨_,_,_,_,rfl,rfl,SqT.of (S _ _ hp),atI_nat (j:=0) rfl,aF,_,_,rfl,rfl,g7,smallM (by rw[zC]; omega),?_⟩⟩⟩
    refine⟨_,_,rfl,S.upd nF,by rw[upd_ne ncF]; exact gc7,?_⟩
    rw[upd_same,et,e7,zJ]
    rfl
  ·rintro σ H5 ⟨v4,v5,rfl,s5,gc5,g5⟩
   rw[zC,zX] at g5
   have eq:A.clk s (W.wy s)=((W.wy s).filterMap (A.e s)).min?:=rfl
   rw[eq] at q
   refine⟨_,rfl,aF,_,rfl,SqL.of g5,fun e=>?_,fun M h1 h2=>?_⟩
   ·have:=q H5 s5
    rw[e] at this
    exact this
   ·have:=q H5 s5
    rw[min_is h1 h2] at this
    exact this
end
end Oc
namespace Oc
open PySem L2
theorem upc_hd {m:Nat} {A:OA} (h:AOk m A) {s:Nat} {ws:List Int} (hw:∀ w ∈ ws,w=-1∨0≤w) {t:Tri} (e:A.upc s ws=some t):t.2.1 ∈ ws∧(evAt A.de A.re s t.2.1).head?=some t:=by
 have hm:=zG e
 unfold OA.hds at hm
 obtain⟨w,hw1,hh⟩:=yU.mp hm
 have hin:t ∈ evAt A.de A.re s w:=jE hh
 have ew:t.2.1=w:=by
  unfold evAt at hin
  split at hin
  ·rename_i z
   rw[z]
   exact getD_row (p:=fun row=>∀ t ∈ row,t.2.1=-1) (fun _ z=>absurd z zK) h.d t hin
  ·rename_i z
   have w0:=(hw w hw1).resolve_left z
   rw[zA] at hin
   cases er:A.re[w.toNat]? with
   | none=>rw[er] at hin; exact absurd hin zK
   | some row =>
    rw[er] at hin
    have:=h.r w.toNat row er t hin
    omega
 rw[ew]
 exact⟨hw1,hh⟩
theorem tkn_no {A:OA} {s:Nat} {p:SP} (h:A.upc s p.ws=none):A.tkn s p=none:=by unfold OA.tkn; rw[h]
theorem tkn_may {A:OA} {s:Nat} {p:SP} {t:Tri} (h:A.upc s p.ws=some t) (k:∀ w ∈ p.ws,w ≠ -1→A.lets t w.toNat=true):A.tkn s p=some t:=by
 unfold OA.tkn
 rw[h]
 refine if_pos ?_
 unfold OA.may
 rw[jQ]
 intro w hw
 obtain⟨h1,h2⟩:=z6.mp hw
 exact k w h1 (by simpa using h2)
theorem tkn_not {A:OA} {s:Nat} {p:SP} {t:Tri} (h:A.upc s p.ws=some t) {w:Int} (hw:w ∈ p.ws) (n:w ≠ -1) (k:A.lets t w.toNat=false):A.tkn s p=none:=by
 unfold OA.tkn
 rw[h]
 refine if_neg fun z=>?_
 unfold OA.may at z
 rw[jQ] at z
 have:=z w (z6.mpr ⟨hw,by simpa using n⟩)
 rw[k] at this
 cases this
theorem lets_row {A:OA} {t:Tri} {b:Nat} (h:A.re.getD b [] ≠ []):A.lets t b=true:=by
 unfold OA.lets
 rw[if_neg (fun z=>h (List.isEmpty_iff.mp z))]
theorem lets_non {A:OA} {t:Tri} {b:Nat} (h:A.pr.getD b none=none):A.lets t b=true:=by
 unfold OA.lets
 rw[h]
 split <;> rfl
theorem lets_some {A:OA} {t:Tri} {b:Nat} {g:Int} (e:A.re.getD b []=[]) (h:A.pr.getD b none=some g):A.lets t b=kLt (tkey t) (g,(b:Int)):=by
 unfold OA.lets
 rw[h,e]
 rfl
inductive NxR (cs:Cs) (W:Wk) (M:List (List Cell)) (H:Hp) (o:OR) (A:OA) (s:Nat) (p:SP):V→OR→Hp→Prop where
 | no {H':Hp} (e:A.tkn s p=none) (k:Same H H'):NxR cs W M H o A s p .non o H'
 | yes {v:V} {o':OR} {H':Hp} {t:Tri} (e:A.tkn s p=some t) (h:HTo cs W M H H' o o' (A.pop s t.2.1)) (i:IsTri H' v t):NxR cs W M H o A s p v o' H'
inductive spNxt (cs:Cs) (vs:List V) (H:Hp) (Q:VK) (x_3:XK):Prop where
 | mk (w:Addr) (W:Wk) (o:OR) (M:List (List Cell)) (s m:Nat) (A:OA) (p:SP) (h_0:vs=[.ref w,.ref o.x,.int (s:Int)]) (h_1:WkAt H w W) (h_2:W.Ok) (h_3:Hc H (heldCs cs W o++M)) (h_4:OwnF W m H o A) (h_5:s < W.st.length) (h_6:p.ws=W.wy s) (h_7:∀(v:V) (o':OR) (H':Hp),NxR cs W M H o A s p v o' H'→Q v H'):spNxt cs vs H Q x_3
section
variable {P:Program} {w:World} {K:PySem.W.Frag} {mg:Str→Option Value} {base:Heap} {cs:Cs} {C:Addr}
theorem sc_nxt:FnScope ["works","held","station","inward","some","time","way","other"] ["works","held","station"] (defScope (top 24)):=⟨rfl,rfl,rfl,by decide +kernel,rfl,by decide +kernel,by decide +kernel⟩
theorem ok_nxt {f:Addr} {fd:FuncData} (F:Fun K "_law_next" "_law_next" (top 24) f fd) (T:Txt K mg) (aq:FnAt P w K mg base 1 "_law_inward" ["works","station"] spWays):FnOk P w K mg base CX0 2 f fd ["works","held","station"] (spNxt cs):=by
 have nd:=sc_nxt.nd
 refine F.ok sc_nxt (fun vs H Q E h=>?_) (fun cdv A outer s H vs Q E hr h=>?_)
 ·obtain⟨w,W,o,M,s,m,A,p,rfl,_⟩:=h
  rfl
 ·obtain⟨w,W,o,M,s,m,A,p,rfl,hw,ok,hc,of,hs,ep,q⟩:=h
  have q0:A.tkn s p=none→∀ H',Same H H'→Q .non H':=fun e H' k=>q _ _ _ (.no e k)
  have hu:=hu_of hr
  have lw:=Wk.wy13 ok (s:Int)
  have nb:=of.nb
  have lp:=of.ok.lp
  have w0:∀ w ∈ p.ws,w=-1∨0≤w:=fun w hw=>Wk.wy_ok (by rw[ep] at hw; exact hw)
  refine⟨_,(@pss_cons _ _ _ _ _ (ps_set (i:=3) nd rfl (by nofun) (pe_fn aq (hr.mono (by decide)) (by rfl) (@pa_cons _ _ _ _ _ (pv 0) (@pa_cons _ _ _ _ _ (pv 2) pa_nil (by rfl)) (by rfl))))
   (@pss_cons _ _ _ _ _ (ps_setC (i:=4) nd rfl (Or.inl rfl) rfl (own:=["way"]) (fr:=["held","station"]) (js:=[1,2]) (by and_intros) (pi_listK (K:=K) rfl (pv 3)) (fun _ _ _ _=>(pg_name (i:=0) (show List.Nodup (["way","held","station"]:List Str) from by decide +kernel) rfl (by nofun))) (fun _ _ _ _=>(pts_one (pt_cmpR (op_neDK (K:=K) rfl hr.units) (pe_dget hu (@pe_ix _ _ _ _ _ _ _ (ix_tupK (K:=K) rfl) (pv 1) pe_int (fun _ _=>rfl)) (@pe_tup _ _ _ _ _ (@pa_cons _ _ _ _ _ (pv 2) (@pa_cons _ _ _ _ _ (pv 0) pa_nil (by rfl)) (by rfl))) (fun _ _=>rfl)) (@pe_lst _ _ _ _ pa_nil) (nomark _)))) (fun _ _ _ _=>(@pe_ix _ _ _ _ _ _ _ (ix_listK (K:=K) rfl) (pe_dget hu (@pe_ix _ _ _ _ _ _ _ (ix_tupK (K:=K) rfl) (pv 1) pe_int (fun _ _=>rfl)) (@pe_tup _ _ _ _ _ (@pa_cons _ _ _ _ _ (pv 2) (@pa_cons _ _ _ _ _ (pv 0) pa_nil (by rfl)) (by rfl))) (fun _ _=>rfl)) pe_int (fun _ _=>rfl))))
   (@pss_cons _ _ _ _ _ (ps_if (pt_cmpR (op_eqDK (K:=K) rfl hr.units) (pv 4) (@pe_lst _ _ _ _ pa_nil) (nomark _)) (@pss_one _ _ _ (@ps_ret _ _ _ _ pe_non)) pss_nil)
   (@pss_cons _ _ _ _ _ (ps_asg (pe_callB (call_minT rfl hr.units) (by rfl) T.n_min bt_min (@pa_cons _ _ _ _ _ (pe_comp (own:=["event"]) (fr:=[]) (js:=[]) (by and_intros) (pi_listK (K:=K) rfl (pv 4)) (fun _ _ _ _=>(pg_name (i:=0) (show List.Nodup (["event"]:List Str) from by decide +kernel) rfl (by nofun))) (fun _ _ _ _=>pts_nil) (fun _ _ _ _=>(@pe_tup _ _ _ _ _ (@pa_cons _ _ _ _ _ (@pe_ix _ _ _ _ _ _ _ (ix_tupK (K:=K) rfl) (pv 0) pe_int (fun _ _=>rfl)) (@pa_cons _ _ _ _ _ (@pe_ix _ _ _ _ _ _ _ (ix_tupK (K:=K) rfl) (pv 0) pe_int (fun _ _=>rfl)) pa_nil (by rfl)) (by rfl))))) pa_nil (by rfl))) (pg_tup rfl (pgs_cons (pg_name (i:=5) nd rfl (by nofun)) (pgs_cons (pg_name (i:=6) nd rfl (by nofun)) pgs_nil))))
   (@pss_cons _ _ _ _ _ (ps_for PassesOwn.never rfl (pi_listK (K:=K) rfl (pv 3)) (pg_name (i:=7) nd rfl (by nofun)) (@pss_one _ _ _ (ps_if ((pw_and (pt_cmpR op_ge (pv 7) pe_int (nomark _)) (pw_and (pt_cmpR (op_eqDK (K:=K) rfl hr.units) (pe_dget hu (@pe_ix _ _ _ _ _ _ _ (ix_tupK (K:=K) rfl) (pv 1) pe_int (fun _ _=>rfl)) (@pe_tup _ _ _ _ _ (@pa_cons _ _ _ _ _ (pv 2) (@pa_cons _ _ _ _ _ (pv 7) pa_nil (by rfl)) (by rfl))) (fun _ _=>rfl)) (@pe_lst _ _ _ _ pa_nil) (nomark _)) (pw_and1 (pt_cmpR op_notN (@pe_ix _ _ _ _ _ _ _ (ix_listK (K:=K) rfl) (@pe_ix _ _ _ _ _ _ _ (ix_tupK (K:=K) rfl) (pv 1) pe_int (fun _ _=>rfl)) (pv 7) (fun _ _=>rfl)) pe_non (nomark _)))))).pt (@pss_one _ _ _ (ps_if ((pw_or (pt_cmpR op_lt (@pe_ix _ _ _ _ _ _ _ (ix_listK (K:=K) rfl) (@pe_ix _ _ _ _ _ _ _ (ix_tupK (K:=K) rfl) (pv 1) pe_int (fun _ _=>rfl)) (pv 7) (fun _ _=>rfl)) (pv 5) (nomark _)) (pw_or1 ((pw_and (pt_cmpR op_eq (@pe_ix _ _ _ _ _ _ _ (ix_listK (K:=K) rfl) (@pe_ix _ _ _ _ _ _ _ (ix_tupK (K:=K) rfl) (pv 1) pe_int (fun _ _=>rfl)) (pv 7) (fun _ _=>rfl)) (pv 5) (nomark _)) (pw_and1 (pt_cmpR op_lt (pv 7) (pv 6) (nomark _))))).pt))).pt (@pss_one _ _ _ (@ps_ret _ _ _ _ pe_non)) pss_nil)) pss_nil)))
   (@pss_one _ _ _ (@ps_ret _ _ _ _ (pe_bm PySem.F.plainAttrs_list PySem.F.slot_list_pop PySem.F.type_list_pop mt_popAt (pe_dget hu (@pe_ix _ _ _ _ _ _ _ (ix_tupK (K:=K) rfl) (pv 1) pe_int (fun _ _=>rfl)) (@pe_tup _ _ _ _ _ (@pa_cons _ _ _ _ _ (pv 2) (@pa_cons _ _ _ _ _ (pv 6) pa_nil (by rfl)) (by rfl))) (fun _ _=>rfl)) (@pa_cons _ _ _ _ _ pe_int pa_nil (by rfl)))))))))),?_⟩
  refine⟨_,rfl,_,rfl,w,W,s,rfl,hw,ok,fun c H1 nc gc s1=>?_⟩
  refine⟨_,rfl,c,rfl,⟨_,SqL.of gc⟩,fun D nD=>?_⟩
  refine comp_list (a:=c) (xs:=(W.wy s).map V.int) (fun i H5=>Same H1 H5∧∃ us2:List V,H5 D=some (.lst us2)∧Paired (IsTri H) us2 (A.hds s ((W.wy s).take i))) ⟨Same.new nD,[],upd_same,.nil⟩ (fun i H5 _ p=>SqL.of (p.1 _ _ gc)) ?_ ?_
  ·rintro i x H5 m' Wf hx ⟨s5,us2,g5,p5⟩ nx
   obtain⟨wy,rfl,hwy⟩:=ints_get hx
   obtain⟨us,a,r⟩:=hrow hc of hs (zG hwy)
   have l5:us2.length≤13:=by
    rw[p5.length]
    unfold OA.hds
    refine z4 (y4 _ _) ?_
    rw[zU]; omega
   have eh:A.hds s ((W.wy s).take (i + 1))=A.hds s ((W.wy s).take i)++([wy].filterMap fun w=>(evAt A.de A.re s w).head?):=by
    unfold OA.hds
    rw[take_1 hwy,yY]
   have S5:=s1.trans s5
   refine⟨_,rfl,⟨_,_,_,_,rfl,rfl,SqT.of ((hc.same S5).get 0 0 rfl rfl),atI_nat (j:=0) rfl,_,rfl,_,rfl,(by show 2≤sizeLine; decide),fun b nb=>?_⟩⟩
   have s6:Same H5 (upd H5 b (.tup [.int (s:Int),.int wy])):=Same.new nb
   have gb:(upd H5 b (.tup [.int (s:Int),.int wy])) b=some (.tup [.int (s:Int),.int wy]):=upd_same
   generalize (upd H5 b (.tup [.int (s:Int),.int wy]))=H6 at s6 gb ⊢
   refine⟨o.rl,_,rfl,hget r (hc.same (S5.trans s6)) gb,?_⟩
   refine⟨zW _,fun l nl=>?_⟩
   have s7:Same H6 (upd H6 l (.lst [])):=Same.new nl
   have gl:(upd H6 l (.lst [])) l=some (.lst []):=upd_same
   generalize (upd H6 l (.lst []))=H7 at s7 gl ⊢
   have s57:=s6.trans s7
   have S:=S5.trans s57
   have g7:=s57 _ _ g5
   refine⟨.list ((evAt A.de A.re s wy).map triD),.list [],2,dt_tris (S _ _ r.hl) (pairedMono (fun _ _ h=>IsTri.same S h) r.pe),dt_nil gl,by decide,_,rfl,?_⟩
   rw[eqv_nil]
   have pe:=r.pe
   cases ee:evAt A.de A.re s wy with
   | nil =>
    refine iteF (nx _ ⟨s5.trans s57,us2,g7,?_⟩)
    rw[eh,yT,ee]
    simpa using p5
   | cons t ts =>
    rw[ee] at pe
    obtain⟨x0,us',eu,hx0⟩:∃ x0 us',us=x0::us'∧IsTri H x0 t:=by
     cases pe with
     | cons hx0 hr0=>exact⟨_,_,rfl,hx0⟩
    refine iteT ⟨_,rfl,⟨_,_,_,_,rfl,rfl,SqT.of ((hc.same S).get 0 0 rfl rfl),atI_nat (j:=0) rfl,_,rfl,_,rfl,(by show 2≤sizeLine; decide),fun b2 nb2=>?_⟩⟩
    have s8:Same H7 (upd H7 b2 (.tup [.int (s:Int),.int wy])):=Same.new nb2
    have gb2:(upd H7 b2 (.tup [.int (s:Int),.int wy])) b2=some (.tup [.int (s:Int),.int wy]):=upd_same
    generalize (upd H7 b2 (.tup [.int (s:Int),.int wy]))=H8 at s8 gb2 ⊢
    have g8:=s8 _ _ g7
    refine⟨o.rl,_,rfl,hget r (hc.same (S.trans s8)) gb2,⟨_,_,_,_,rfl,rfl,SqL.of ((S.trans s8) _ _ r.hl),atI_nat (j:=0) (by rw[eu]; rfl),_,g8,small1000 (by omega),nx _ ⟨(s5.trans (s57.trans s8)).upd nD,us2++[x0],upd_same,?_⟩⟩⟩
    rw[eh,yT,ee]
    exact paired_app p5 (.cons hx0 .nil)
  ·rintro H5 ⟨s5,us2,g5,p5⟩
   rw[zC,zX] at p5
   have S5:=s1.trans s5
   have gc5:=s5 _ _ gc
   refine⟨_,rfl,zW _,fun l nl=>?_⟩
   have s6:Same H5 (upd H5 l (.lst [])):=Same.new nl
   have gl:(upd H5 l (.lst [])) l=some (.lst []):=upd_same
   generalize (upd H5 l (.lst []))=H6 at s6 gl ⊢
   have S6:=S5.trans s6
   have g6:=s6 _ _ g5
   have gc6:=s6 _ _ gc5
   refine⟨.list ((A.hds s (W.wy s)).map triD),.list [],2,dt_tris g6 (pairedMono (fun _ _ h=>IsTri.same S6 h) p5),dt_nil gl,by decide,_,rfl,?_⟩
   rw[eqv_nil]
   have lh:(A.hds s (W.wy s)).length≤13:=z4 (y4 _ _) lw
   have eu:A.upc s p.ws=(A.hds s (W.wy s))[bestK ((A.hds s (W.wy s)).map tkey)]?:=by rw[ep]; rfl
   generalize eL:A.hds s (W.wy s)=L at p5 eu lh ⊢
   cases L with
   | nil=>exact iteT (q0 (tkn_no eu) _ S6)
   | cons t0 L =>
    have lp5:=p5.length
    refine iteF ?_
    refine⟨_,rfl,D,rfl,⟨_,SqL.of g6⟩,fun D3 nD3=>?_⟩
    refine comp_list (a:=D) (xs:=us2) (fun i H7=>Same H6 H7∧∃ us3:List V,H7 D3=some (.lst us3)∧Paired (IsPr H7) us3 (((t0::L).take i).map tkey)) ⟨Same.new nD3,[],upd_same,.nil⟩ (fun i H7 _ p=>SqL.of (p.1 _ _ g6)) ?_ ?_
    ·rintro i x H7 m' Wf hx ⟨s7,us3,g7,p7⟩ nx
     obtain⟨t,ht,pa,rfl,hpa⟩:=p5.gt hx
     have hi:=(zD.mp ht).1
     have S7:=S6.trans s7
     have l7:=p7.length
     rw[zC,zU] at l7
     refine⟨_,rfl,⟨_,_,_,_,rfl,rfl,SqT.of (S7 _ _ hpa),atI_nat (j:=0) rfl,_,rfl,⟨_,_,_,_,rfl,rfl,SqT.of (S7 _ _ hpa),atI_nat (j:=1) rfl,(by show 2≤sizeLine; decide),fun pn nn=>?_⟩⟩⟩
     have s8:Same H7 (upd H7 pn (.tup [.int t.1,.int t.2.1])):=Same.new nn
     have g8:(upd H7 pn (.tup [.int t.1,.int t.2.1])) pn=some (.tup [.int t.1,.int t.2.1]):=upd_same
     change ∃ _,_
     generalize (upd H7 pn (.tup [.int t.1,.int t.2.1]))=H8 at s8 g8 ⊢
     refine⟨_,s8 _ _ g7,small1000 (by omega),nx _ ⟨(s7.trans s8).upd nD3,us3++[.ref pn],upd_same,?_⟩⟩
     rw[take_1 ht,zJ]
     exact paired_app (pairedMono (fun _ _ h=>(IsPr.same s8 h).keep (s8 _ _ g7)) p7) (.cons (IsPr.keep (s8 _ _ g7) ⟨pn,rfl,g8⟩) .nil)
    ·rintro H7 ⟨s7,us3,g7,p7⟩
     rw[lp5,zX] at p7
     have l7:=p7.length
     rw[zC] at l7
     have S7:=S6.trans s7
     have gc7:=s7 _ _ gc6
     refine⟨D3,us3,(t0::L).map tkey,rfl,SqL.of g7,by rw[zC]; exact l7.symm,by rw[l7]; exact Nat.succ_pos _,fun j x k hx hk=>?_,fun x hx=>?_⟩
     ·obtain⟨k',hk',pa,rfl,hpa⟩:=p7.gt hx
      rw[hk'] at hk
      cases hk
      exact⟨pa,rfl,hpa⟩
     ·obtain⟨k',hk',pa,rfl,hpa⟩:=p7.gt hx
      rw[zE] at hk'
      obtain⟨t,ht,rfl⟩:=yO.mp hk'
      rw[ht] at eu
      obtain⟨hmem,hhd⟩:=upc_hd of.ao w0 eu
      refine⟨pa,_,rfl,SqT.of hpa,rfl,⟨_,_,rfl,⟨_,_,rfl,rfl,?_⟩⟩⟩
      refine⟨_,rfl,c,rfl,⟨_,SqL.of gc7⟩,for_list (K:=K) (a:=c) (xs:=(W.wy s).map V.int) (fun i σ H8=>∃ v7:Option V,σ=[some (.ref w),some (.ref o.x),some (.int (s:Int)),some (.ref c),some (.ref D),some (.int t.1),some (.int t.2.1),v7]∧Same H7 H8∧∀ w ∈ (W.wy s).take i,w ≠ -1→A.lets t w.toNat=true)
       ⟨_,rfl,Same.refl _,fun w hw=>absurd hw zK⟩ (fun i σ H8 _ ⟨_,_,s8,_⟩=>SqL.of (s8 _ _ gc7)) ?_ ?_⟩
      ·rintro i x σ H8 hx ⟨v7,rfl,s8,all⟩
       obtain⟨wy,rfl,hwy⟩:=ints_get hx
       have hin:=zG hwy
       obtain⟨us,a,r⟩:=hrow hc of hs hin
       have go:(wy ≠ -1→A.lets t wy.toNat=true)→∀ w ∈ (W.wy s).take (i + 1),w ≠ -1→A.lets t w.toNat=true:=fun h w hw=>by
        rw[take_1 hwy] at hw
        rcases yA.mp hw with z|z
        ·exact all w z
        ·rw[zF.mp z]; exact h
       refine⟨_,rfl,_,_,rfl,rfl,_,rfl,?_⟩
       refine iteB (fun hb=>?_) (fun hb=>?_)
       ·have h0:=of_decide_eq_true hb
        obtain⟨j,rfl⟩:∃ j:Nat,wy=(j:Int):=⟨wy.toNat,by omega⟩
        have hj:j < W.be.length:=by
         rcases Wk.wy_in hin with z|z <;> omega
        have S8:=S7.trans s8
        refine⟨_,rfl,⟨_,_,_,_,rfl,rfl,SqT.of ((hc.same S8).get 0 0 rfl rfl),atI_nat (j:=0) rfl,_,rfl,_,rfl,(by show 2≤sizeLine; decide),fun b nb=>?_⟩⟩
        have s9:Same H8 (upd H8 b (.tup [.int (s:Int),.int (j:Int)])):=Same.new nb
        have gb:(upd H8 b (.tup [.int (s:Int),.int (j:Int)])) b=some (.tup [.int (s:Int),.int (j:Int)]):=upd_same
        generalize (upd H8 b (.tup [.int (s:Int),.int (j:Int)]))=H9 at s9 gb ⊢
        refine⟨o.rl,_,rfl,hget r (hc.same (S8.trans s9)) gb,?_⟩
        refine⟨zW _,fun l2 nl2=>?_⟩
        have s10:Same H9 (upd H9 l2 (.lst [])):=Same.new nl2
        have gl2:(upd H9 l2 (.lst [])) l2=some (.lst []):=upd_same
        generalize (upd H9 l2 (.lst []))=H10 at s10 gl2 ⊢
        have s810:=s8.trans (s9.trans s10)
        have S:=S7.trans s810
        refine⟨.list ((evAt A.de A.re s (j:Int)).map triD),.list [],2,dt_tris (S _ _ r.hl) (pairedMono (fun _ _ h=>IsTri.same S h) r.pe),dt_nil gl2,by decide,_,rfl,?_⟩
        rw[eqv_nil]
        have ev:evAt A.de A.re s (j:Int)=A.re.getD j []:=by unfold evAt; rw[if_neg (by omega),z5]
        rw[ev]
        obtain⟨g,hg⟩:∃ g,o.pr[j]?=some g:=⟨o.pr[j]'(by omega),zB _⟩
        have eg:A.pr.getD j none=g:=by rw[← of.is.p,zA,hg]; rfl
        cases er:A.re.getD j [] with
        | cons t1 l1=>exact iteF (iteF ⟨_,rfl,s810,go fun _=>lets_row (by rw[z5,er]; exact fun z=>nomatch z)⟩)
        | nil =>
         refine iteT ⟨_,rfl,⟨_,_,_,_,rfl,rfl,SqT.of ((hc.same S).get 0 0 rfl rfl),atI_nat (j:=1) rfl,_,rfl,⟨_,_,_,_,rfl,rfl,SqL.of ((hc.same S).get 0 2 rfl rfl),atI_nat (by rw[zE,hg]; rfl),rfl,_,rfl,?_⟩⟩⟩
         cases g with
         | none=>exact iteF ⟨_,rfl,s810,go fun _=>lets_non (by rw[z5]; exact eg)⟩
         | some g =>
          have el:A.lets t (Int.toNat (j:Int))=kLt (tkey t) (g,(j:Int)):=by
           rw[z5]
           exact lets_some er eg
          have nj:t.2.1 ≠ (j:Int):=fun z=>by
           rw[z,ev,er] at hhd
           cases hhd
          have no:(g < t.1∨(g=t.1∧(j:Int) < t.2.1))→Q .non H10:=fun z=>q0 (tkn_not eu (w:=(j:Int)) (by rw[ep]; exact hin) (by omega) (by
           rw[el]
           cases ek:kLt (tkey t) (g,(j:Int)) with
           | false=>rfl
           | true =>
            have:t.1 < g∨(t.1=g∧t.2.1 < (j:Int)):=(kLt_iff _ _).mp ek
            omega)) _ S
          have yes:¬ (g < t.1∨(g=t.1∧(j:Int) < t.2.1))→A.lets t (Int.toNat (j:Int))=true:=fun z=>by
           rw[el,kLt_iff]
           show t.1 < g∨(t.1=g∧t.2.1 < (j:Int))
           omega
          refine iteT ⟨_,rfl,⟨_,_,_,_,rfl,rfl,SqT.of ((hc.same S).get 0 0 rfl rfl),atI_nat (j:=1) rfl,_,rfl,⟨_,_,_,_,rfl,rfl,SqL.of ((hc.same S).get 0 2 rfl rfl),atI_nat (by rw[zE,hg]; rfl),_,rfl,_,_,rfl,rfl,_,rfl,?_⟩⟩⟩
          refine iteB (fun hb=>iteT (no (.inl (of_decide_eq_true hb)))) (fun hb1=>?_)
          have h1:=of_decide_eq_false hb1
          refine⟨_,rfl,⟨_,_,_,_,rfl,rfl,SqT.of ((hc.same S).get 0 0 rfl rfl),atI_nat (j:=1) rfl,_,rfl,⟨_,_,_,_,rfl,rfl,SqL.of ((hc.same S).get 0 2 rfl rfl),atI_nat (by rw[zE,hg]; rfl),_,rfl,rfl,_,rfl,?_⟩⟩⟩
          refine iteB (fun hb=>?_) (fun hb=>?_)
          ·have e2:g=t.1:=by
            have:=of_decide_eq_true hb
            injection this
           refine⟨_,rfl,_,rfl,_,_,rfl,rfl,_,rfl,?_⟩
           refine iteB (fun hb=>no (.inr ⟨e2,of_decide_eq_true hb⟩)) (fun hb=>?_)
           have h3:=of_decide_eq_false hb
           exact⟨_,rfl,s810,go fun _=>yes (by omega)⟩
          ·have e2:g ≠ t.1:=fun z=>of_decide_eq_false hb (by rw[z]; rfl)
           exact iteF ⟨_,rfl,s810,go fun _=>yes (by omega)⟩
       ·have h0:=of_decide_eq_false hb
        have ew:wy=-1:=by
         rcases r.w0 with z|z
         ·exact z
         ·omega
        exact iteF ⟨_,rfl,s8,go fun z=>absurd ew z⟩
      ·rintro σ H8 ⟨v7,rfl,s8,all⟩
       rw[zC,zX] at all
       have et:=tkn_may eu (by rw[ep]; exact all)
       have S8:=S7.trans s8
       obtain⟨us,a,r⟩:=hrow hc of hs (by rw[← ep]; exact hmem)
       refine⟨_,rfl,⟨_,_,_,_,rfl,rfl,SqT.of ((hc.same S8).get 0 0 rfl rfl),atI_nat (j:=0) rfl,_,rfl,_,rfl,(by show 2≤sizeLine; decide),fun b nb=>?_⟩⟩
       have s9:Same H8 (upd H8 b (.tup [.int (s:Int),.int t.2.1])):=Same.new nb
       have gb:(upd H8 b (.tup [.int (s:Int),.int t.2.1])) b=some (.tup [.int (s:Int),.int t.2.1]):=upd_same
       generalize (upd H8 b (.tup [.int (s:Int),.int t.2.1]))=H9 at s9 gb ⊢
       have S:=S8.trans s9
       have hcS:=hc.same S
       obtain⟨y,us',eus,hy⟩:∃ y us',us=y::us'∧IsTri H y t:=by
        have pe:=r.pe
        cases ee:evAt A.de A.re s t.2.1 with
        | nil=>rw[ee] at hhd; cases hhd
        | cons t1 l1 =>
         rw[ee] at hhd pe
         cases hhd
         cases pe with
         | cons h1 h2=>exact⟨_,_,rfl,h1⟩
       have hl:=S _ _ r.hl
       refine⟨o.rl,_,rfl,hget r hcS gb,tyL hl,a,us,0,0,y,rfl,rfl,hl,by decide,by decide,seqIndex_of (k:=0) (by decide) (by rw[eus,zS]; omega),by rw[eus]; rfl,?_⟩
       obtain⟨o1,t1⟩:=hpop_to hcS of.ok (of.is.tk (Tk.of S)) r.eu r.ea
       exact q y o1 _ (.yes et ⟨t1.x,t1.s,t1.d,t1.hc,t1.ok,t1.is,(Tk.of S).trans t1.tk⟩ ((hy.same S).tk t1.tk))
end
end Oc
namespace Oc
open PySem L2
def word (a b:Bool):Str:=if a=true then "took" else if b=true then "raised" else "none"
theorem word_t {a b:Bool} (h:word a b="none"):word a true="raised":=by
 cases a with
 | false=>rfl
 | true=>exact absurd (show("took":Str)="none" from h) (by decide +kernel)
theorem word_f {a b:Bool} (h:word a b ≠ "none"):word a b=word a true:=by
 cases a with
 | true=>rfl
 | false =>
  cases b with
  | true=>rfl
  | false=>exact absurd rfl h
theorem rps_snoc (A:OA) (now:Option Int) (bs:List Int) (b:Int):A.rps now (bs++[b])=(((A.rps now bs).1.rp1 now b.toNat).1,(A.rps now bs).2 || ((A.rps now bs).1.rp1 now b.toNat).2):=by
 unfold OA.rps
 rw[jN]
 rfl
structure HSt (cs:Cs) (W:Wk) (tl:Addr) (M:List (List Cell)) (m:Nat) (H H':Hp) (o o':OR) (A':OA):Prop where
 x:o'.x=o.x
 sr:srefs o'.srs=srefs o.srs
 d:o'.dels=o.dels
 hc:Hc H' (heldCs cs W o'++([(tl,.lst (srefs o'.srs))]::M))
 f:OwnF W m H' o' A'
 tk:Tk H H'
section
variable {cs:Cs} {W:Wk} {tl:Addr} {M:List (List Cell)} {m:Nat} {H H' H2:Hp} {o o':OR} {A A':OA}
theorem HSt.same (h:HSt cs W tl M m H H' o o' A') (s:Same H' H2):HSt cs W tl M m H H2 o o' A':=⟨h.x,h.sr,h.d,h.hc.same s,h.f.via (fun _ _=>IsTri.same s) (zH m),h.tk.trans (Tk.of s)⟩
theorem HSt.wk {w:Addr} (h:HSt cs W tl M m H H' o o' A') (k:∀ H',Hc H' M→WkAt H' w W):WkAt H' w W:=k _ (Hc.tl h.hc.drop)
theorem HSt.pr (h:HSt cs W tl M m H H' o o' A') (b:Nat) (x:Option Int):HSt cs W tl M m H (upd H' o'.pl (.lst ((o'.pr.map pV).set b (pV x)))) o { o' with pr:=o'.pr.set b x } { A' with pr:=A'.pr.set b x }:=by
 have t:=hpr_to h.hc h.f.ok h.f.is b x
 exact⟨h.x,h.sr,h.d,t.hc,⟨t.ok,t.is,h.f.so,⟨h.f.ao.d,h.f.ao.r,h.f.ao.lr,h.f.ao.lg⟩,h.f.ns,h.f.nb⟩,h.tk.trans t.tk⟩
end
inductive spHSt (cs:Cs) (vs:List V) (H:Hp) (Q:VK) (x_3:XK):Prop where
 | mk (w tl:Addr) (W:Wk) (o:OR) (M:List (List Cell)) (s m:Nat) (A:OA) (h_0:vs=[.ref w,.ref o.x,.ref tl,.int (s:Int)]) (h_1:(∀ H',Hc H' M→WkAt H' w W)) (h_2:W.Ok) (h_3:Hc H (heldCs cs W o++([(tl,.lst (srefs o.srs))]::M))) (h_4:OwnF W m H o A) (h_5:Inv W A) (h_6:m≤90000) (h_7:s < W.st.length) (h_8:∀(o':OR) (H':Hp),HSt cs W tl M (m + 1) H H' o o' (A.step s).1→Q (.str (A.step s).2) H'):spHSt cs vs H Q x_3
theorem if_tail {c:Bool} {tA tB:TS} {D:Ends} {σ:L2.St} {H:Hp} (R:L2.St→Hp→Prop) (hA:c=true→(∀ σ' H',R σ' H'→D.nx σ' H')→tA D σ H) (hB:c=false→(∀ σ' H',R σ' H'→D.nx σ' H')→tB D σ H) (f:∀ σ' H',R σ' H'→D.nx σ' H'):if c=true then tA D σ H else tB D σ H:=by
 cases c
 ·exact iteF (hB rfl f)
 ·exact iteT (hA rfl f)
section
variable {P:Program} {w:World} {K:PySem.W.Frag} {mg:Str→Option Value} {base:Heap} {cs:Cs} {C:Addr}
theorem sc_hst:FnScope ["works","held","things","station","told","event","put","belt","now","k","start","goal","delay"] ["works","held","things","station"] (defScope (top 25)):=⟨rfl,rfl,rfl,by decide +kernel,rfl,by decide +kernel,by decide +kernel⟩
theorem ok_hst {f:Addr} {fd:FuncData} (F:Fun K "_law_step" "_law_step" (top 25) f fd) (T:Txt K mg) (cc:CsOk K cs) (bp:FnAt P w K mg base 2 "_law_next" ["works","held","station"] (spNxt cs)) (ar:FnAt P w K mg base 2 "_law_clock" ["works","held","station"] (spHClk cs)) (G_take:∀ k,MethAt P w K mg base 2 (cs.of k) "take" ["self","way","piece"] (spTk cs k)):FnOk P w K mg base CX0 3 f fd ["works","held","things","station"] (spHSt cs):=by
 have nd:=sc_hst.nd
 refine F.ok sc_hst (fun vs H Q E h=>?_) (fun cdv A outer s H vs Q E hr h=>?_)
 ·obtain⟨w,tl,W,o,M,s,m,A,rfl,_⟩:=h
  rfl
 ·obtain⟨w,tl,W,o,M,s,m,A,rfl,wk,ok,hc,of,I,m9,hs,q⟩:=h
  have hu:=hu_of hr
  have b12:=ok.b12
  have hsl:s < A.srs.length:=by rw[I.st]; exact hs
  obtain⟨p,hp⟩:∃ p,A.srs[s]?=some p:=⟨A.srs[s],zB hsl⟩
  obtain⟨ep,eb⟩:=I.sp s p hp
  have est:A.step s=A.stp s p:=by unfold OA.step; rw[zA,hp]; rfl
  rw[est] at q
  have wH:WkAt H w W:=wk _ (Hc.tl hc.drop)
  refine⟨_,(@pss_cons _ _ _ _ _ (ps_set (i:=4) nd rfl (by nofun) pe_str)
   (@pss_cons _ _ _ _ _ (ps_set (i:=5) nd rfl (by nofun) (pe_fn bp (hr.mono (by decide)) (by rfl) (@pa_cons _ _ _ _ _ (pv 0) (@pa_cons _ _ _ _ _ (pv 1) (@pa_cons _ _ _ _ _ (pv 3) pa_nil (by rfl)) (by rfl)) (by rfl))))
   (@pss_cons _ _ _ _ _ (ps_if (pt_cmpR op_notN (pv 5) pe_non (nomark _)) (@pss_cons _ _ _ _ _ (ps_expr (pe_bm PySem.F.plainAttrs_list PySem.F.slot_list_append PySem.F.type_list_append mt_append (@pe_ix _ _ _ _ _ _ _ (ix_listK (K:=K) rfl) (@pe_ix _ _ _ _ _ _ _ (ix_tupK (K:=K) rfl) (pv 1) pe_int (fun _ _=>rfl)) (pv 3) (fun _ _=>rfl)) (@pa_cons _ _ _ _ _ (pv 5) pa_nil (by rfl))))
   (@pss_cons _ _ _ _ _ (ps_set (i:=4) nd rfl (by nofun) pe_str)
   (@pss_cons _ _ _ _ _ (ps_set (i:=6) nd rfl (by nofun) (pe_mthU (cls:=cs.of) (sp:=spTk cs) G_take (hr.mono (by decide)) (@pe_ix _ _ _ _ _ _ _ (ix_listK (K:=K) rfl) (pv 2) (pv 3) (fun _ _=>rfl)) (@pa_cons _ _ _ _ _ (@pe_ix _ _ _ _ _ _ _ (ix_tupK (K:=K) rfl) (pv 5) pe_int (fun _ _=>rfl)) (@pa_cons _ _ _ _ _ (@pe_ix _ _ _ _ _ _ _ (ix_tupK (K:=K) rfl) (pv 5) pe_int (fun _ _=>rfl)) pa_nil (by rfl)) (by rfl))))
   (@pss_one _ _ _ (ps_if (pt_cmpR op_notN (pv 6) pe_non (nomark _)) (@pss_cons _ _ _ _ _ (ps_set (i:=7) nd rfl (by nofun) (@pe_ix _ _ _ _ _ _ _ (ix_listK (K:=K) rfl) (@pe_ix _ _ _ _ _ _ _ (ix_tupK (K:=K) rfl) (pv 0) pe_int (fun _ _=>rfl)) (@pe_ix _ _ _ _ _ _ _ (ix_tupK (K:=K) rfl) (pv 6) pe_int (fun _ _=>rfl)) (fun _ _=>rfl)))
   (@pss_one _ _ _ (ps_expr (pe_bm PySem.F.plainAttrs_list PySem.F.slot_list_append PySem.F.type_list_append mt_append (pe_dget hu (@pe_ix _ _ _ _ _ _ _ (ix_tupK (K:=K) rfl) (pv 1) pe_int (fun _ _=>rfl)) (@pe_tup _ _ _ _ _ (@pa_cons _ _ _ _ _ (@pe_ix _ _ _ _ _ _ _ (ix_tupK (K:=K) rfl) (pv 7) pe_int (fun _ _=>rfl)) (@pa_cons _ _ _ _ _ (@pe_ix _ _ _ _ _ _ _ (ix_tupK (K:=K) rfl) (pv 6) pe_int (fun _ _=>rfl)) pa_nil (by rfl)) (by rfl))) (fun _ _=>rfl)) (@pa_cons _ _ _ _ _ (@pe_tup _ _ _ _ _ (@pa_cons _ _ _ _ _ (pe_op op_add (@pe_ix _ _ _ _ _ _ _ (ix_tupK (K:=K) rfl) (pv 5) pe_int (fun _ _=>rfl)) (@pe_ix _ _ _ _ _ _ _ (ix_tupK (K:=K) rfl) (pv 7) pe_int (fun _ _=>rfl))) (@pa_cons _ _ _ _ _ (@pe_ix _ _ _ _ _ _ _ (ix_tupK (K:=K) rfl) (pv 6) pe_int (fun _ _=>rfl)) (@pa_cons _ _ _ _ _ (@pe_ix _ _ _ _ _ _ _ (ix_tupK (K:=K) rfl) (pv 6) pe_int (fun _ _=>rfl)) pa_nil (by rfl)) (by rfl)) (by rfl))) pa_nil (by rfl)))))) pss_nil))))) pss_nil)
   (@pss_cons _ _ _ _ _ (ps_set (i:=8) nd rfl (by nofun) (pe_fn ar (hr.mono (by decide)) (by rfl) (@pa_cons _ _ _ _ _ (pv 0) (@pa_cons _ _ _ _ _ (pv 1) (@pa_cons _ _ _ _ _ (pv 3) pa_nil (by rfl)) (by rfl)) (by rfl))))
   (@pss_cons _ _ _ _ _ (ps_for PassesOwn.never rfl (pi_range1 rfl T.n_range (@pa_cons _ _ _ _ _ (pe_callB (call_len_seqK (K:=K) rfl) (by rfl) T.n_len bt_len (@pa_cons _ _ _ _ _ (@pe_ix _ _ _ _ _ _ _ (ix_tupK (K:=K) rfl) (pv 0) pe_int (fun _ _=>rfl)) pa_nil (by rfl))) pa_nil (by rfl))) (pg_name (i:=9) nd rfl (by nofun)) (@pss_cons _ _ _ _ _ (ps_asg (@pe_ix _ _ _ _ _ _ _ (ix_listK (K:=K) rfl) (@pe_ix _ _ _ _ _ _ _ (ix_tupK (K:=K) rfl) (pv 0) pe_int (fun _ _=>rfl)) (pv 9) (fun _ _=>rfl)) (pg_tup rfl (pgs_cons (pg_name (i:=10) nd rfl (by nofun)) (pgs_cons (pg_name (i:=11) nd rfl (by nofun)) (pgs_cons (pg_name (i:=12) nd rfl (by nofun)) pgs_nil)))))
   (@pss_one _ _ _ (ps_if ((pw_and (pt_cmpR op_eq (pv 10) (pv 3) (nomark _)) (pw_and (pt_cmpR op_notN (@pe_ix _ _ _ _ _ _ _ (ix_listK (K:=K) rfl) (@pe_ix _ _ _ _ _ _ _ (ix_tupK (K:=K) rfl) (pv 1) pe_int (fun _ _=>rfl)) (pv 9) (fun _ _=>rfl)) pe_non (nomark _)) (pw_and1 ((pw_or (pt_cmpR op_isN (pv 8) pe_non (nomark _)) (pw_or1 (pt_cmpR op_gt (pe_op op_add (pv 8) (pv 12)) (@pe_ix _ _ _ _ _ _ _ (ix_listK (K:=K) rfl) (@pe_ix _ _ _ _ _ _ _ (ix_tupK (K:=K) rfl) (pv 1) pe_int (fun _ _=>rfl)) (pv 9) (fun _ _=>rfl)) (nomark _))))).pt)))).pt (@pss_cons _ _ _ _ _ (ps_asg (pv 8) (pg_sub (@pe_ix _ _ _ _ _ _ _ (ix_tupK (K:=K) rfl) (pv 1) pe_int (fun _ _=>rfl)) (pv 9) set_list))
   (@pss_cons _ _ _ _ _ (ps_if (pt_cmpR op_notN (pv 8) pe_non (nomark _)) (@pss_one _ _ _ (ps_asg (pe_op op_add (pv 8) (pv 12)) (pg_sub (@pe_ix _ _ _ _ _ _ _ (ix_tupK (K:=K) rfl) (pv 1) pe_int (fun _ _=>rfl)) (pv 9) set_list))) pss_nil)
   (@pss_one _ _ _ (ps_if (pt_cmpR op_eq (pv 4) pe_str (nomark _)) (@pss_one _ _ _ (ps_set (i:=4) nd rfl (by nofun) pe_str)) pss_nil)))) pss_nil))))
   (@pss_one _ _ _ (@ps_ret _ _ _ _ (pv 4)))))))),?_⟩
  refine⟨_,rfl,_,rfl,_,rfl,w,W,o,_,s,m,A,p,rfl,wH,ok,hc,of,hs,ep,fun ev o1 H1 nx=>?_⟩
  refine⟨_,rfl,rfl,_,rfl,?_⟩
  refine if_tail (fun σ' H'=>∃(o':OR) (v5 v6 v7:Option V),σ'=[some (.ref w),some (.ref o.x),some (.ref tl),some (.int (s:Int)),some (.str (word (A.tkn s p).isSome false)),v5,v6,v7,none,none,none,none,none]∧HSt cs W tl M (m + 1) H H' o o' (A.aft s p)) (fun hb k=>?_) (fun hb k=>?_) ?_
  ·-- an event
   cases nx with
   | no e _=>cases hb
   | @yes v o' H' t e t1 iv =>
    obtain⟨pe,rfl,hpe⟩:=iv
    obtain⟨r,hr0⟩:∃ r,o.srs[s]?=some r:=⟨o.srs[s]'(by rw[← of.ns]; exact hs),zB _⟩
    have erp:r.pu=p:=by
     have:A.srs[s]?=some r.pu:=by rw[← of.is.s,zE,hr0]; rfl
     rw[hp] at this
     exact(Option.some.inj this).symm
    have erw:r.ws=p.ws:=by rw[← erp]; rfl
    have w0:∀ w ∈ p.ws,w=-1∨0≤w:=fun w hw=>Wk.wy_ok (by rw[ep] at hw; exact hw)
    have Tk0:=tkn_is of.ao w0 e
    have hs1:o1.srs[s]?=some r:=by rw[t1.s]; exact hr0
    have hsl1:=(zD.mp hs1).1
    have lgv:=t1.ok.lgv
    obtain⟨gs,hgs⟩:∃ gs,o1.gv[s]?=some gs:=⟨o1.gv[s]'(by omega),zB _⟩
    obtain⟨ga,hga,hgl⟩:=hlog t1.ok t1.hc hgs
    obtain⟨tg,htg,ptg⟩:=t1.is.e.g.gt hgs
    have lgs:gs.length≤90000:=by
     rw[ptg.length]
     have e0:(A.pop s t.2.1).ge=A.ge:=by unfold OA.pop; split <;> rfl
     rw[e0] at htg
     exact z4 (of.ao.lg _ (zG htg)) m9
    have hx1:=t1.hc.get 0 0 rfl rfl
    rw[t1.x] at hx1
    refine⟨_,rfl,⟨_,_,_,_,rfl,rfl,SqT.of hx1,atI_nat (j:=2) rfl,_,rfl,⟨_,_,_,_,rfl,rfl,SqL.of (t1.hc.get 0 3 rfl rfl),atI_nat (refs_at hga),tyL hgl,_,rfl,ga,gs,_,rfl,rfl,hgl,smallM (by omega),?_⟩⟩⟩
    obtain⟨o2,t2⟩:=hlog_to t1.hc t1.ok t1.is hgs hga (v:=.ref pe) (t:=t) ⟨pe,rfl,hpe⟩
    generalize upd H1 ga (.lst (gs++[.ref pe]))=H2 at t2 ⊢
    have ex2:o2.x=o.x:=t2.x.trans t1.x
    have hx2:=t2.hc.get 0 0 rfl rfl
    rw[ex2] at hx2
    have hs2:o2.srs[s]?=some r:=by rw[t2.s]; exact hs1
    have hp2:=t2.tk.tup hpe
    have T2:=t1.tk.trans t2.tk
    obtain⟨X,Y,eXY,lX⟩:=cut_at hs2
    have hcT:Hc H2 (srC cs r::(stC cs X++stC cs Y)::hdH W o2::liC o2.da o2.dv::liC o2.ra o2.rv::liC o2.ga o2.gv::[(tl,.lst (srefs o.srs))]::M):=st_take (by rw[← eXY]; exact t2.hc.pick 4 rfl)
    have hjm:r.ws[r.ws.idxOf t.2.1]?=some t.2.1:=by
     have hlt:r.ws.idxOf t.2.1 < r.ws.length:=j0.mpr (by rw[erw]; exact Tk0.w)
     rw[zB hlt,List.getElem_idxOf]
    refine⟨_,rfl,_,rfl,⟨_,_,_,_,rfl,rfl,SqL.of (hcT.get 6 0 rfl rfl),atI_nat (srefs_at hr0),r.x,r.k,r.dx,_,rfl,hcT.get 0 0 rfl rfl,r.flds_no (by decide +kernel) (by decide +kernel) (by decide +kernel) (by decide +kernel) (by decide +kernel) (by decide +kernel),_,rfl,⟨_,_,_,_,rfl,rfl,SqT.of hp2,atI_nat (j:=1) rfl,_,rfl,⟨_,_,_,_,rfl,rfl,SqT.of hp2,atI_nat (j:=2) rfl,?_⟩⟩⟩⟩
    refine⟨r,r.ws.idxOf t.2.1,m,t.2.1,t.2.2,_,rfl,rfl,hcT,of.so r (zG hr0),m9,hjm,fun v ft H3 hput hc3 tk3=>?_⟩
    have nx:=r.nxt_x (r.ws.idxOf t.2.1) t.2.2
    have t3:=hsta_to t2.ok t2.is hs2 eXY lX nx.1 nx.2.2.1 nx.2.2.2 hc3 tk3
    have npu:=r.nxt_pu (r.ws.idxOf t.2.1) t.2.2
    rw[npu] at t3
    have so3:∀ q ∈ o2.srs.set s (r.nxt (r.ws.idxOf t.2.1) t.2.2),SOk (m + 1) q:=all_set (fun q hq=>(of.so q (by rw[← t1.s,← t2.s]; exact hq)).le (yM m)) ((of.so r (zG hr0)).nxt _ _)
    have T3:=T2.trans tk3
    have ew:(A.take s p t)=OA.put (((A.pop s t.2.1).log s t).sta s (r.pu.nxt (r.ws.idxOf t.2.1) t.2.2)) t (r.pu.out (r.ws.idxOf t.2.1) t.2.2):=by rw[← erp]; rfl
    have eo:=r.out_pu (r.ws.idxOf t.2.1) t.2.2
    rw[eo] at hput
    have eaft:A.aft s p=A.take s p t:=by unfold OA.aft; rw[e]
    have bok:∀ b ∈ p.bs,0≤b:=fun b hb'=>by rw[eb] at hb'; exact(Wk.lv_in hb').1
    have aoT:=of.ao.take s p t bok
    generalize ho:r.pu.out (r.ws.idxOf t.2.1) t.2.2=out at hput ew
    generalize hA3:((A.pop s t.2.1).log s t).sta s (r.pu.nxt (r.ws.idxOf t.2.1) t.2.2)=A3 at t3 ew
    have eA3:A3.dl=A.dl∧∀ row ∈ A3.re,row.length≤m:=by
     rw[← hA3]
     unfold OA.sta OA.log OA.pop
     split
     ·exact⟨rfl,of.ao.lr⟩
     ·refine⟨rfl,all_set of.ao.lr ?_⟩
      rw[qV,zA]
      cases e:A.re[t.2.1.toNat]? with
      | none=>exact zW _
      | some row=>have:=of.ao.lr row (zG e); show row.length - 1≤m; omega
    obtain⟨o3,t3,so3⟩:∃ o3,HTs cs W (ft::[(tl,.lst (srefs o.srs))]::M) H2 H3 o2 o3 A3∧∀ q ∈ o3.srs,SOk (m + 1) q:=⟨_,t3,so3⟩
    have sr3:srefs o3.srs=srefs o.srs:=by rw[t3.sr,t2.s,t1.s]
    have ex3:=t3.x.trans ex2
    have ed3:=t3.d.trans (t2.d.trans t1.d)
    have ns3:W.st.length=o3.srs.length:=by
     have:=congrArg List.length sr3
     unfold srefs at this
     rw[zC,zC] at this
     rw[this]; exact of.ns
    have nb3:W.be.length=o3.dels.length:=by rw[ed3]; exact of.nb
    have hcM:Hc H3 (heldCs cs W o3++([(tl,.lst (srefs o3.srs))]::M)):=by
     rw[sr3]
     exact(t3.hc.pick 5 rfl).tl
    have eword:word (A.tkn s p).isSome false="took":=by rw[e]; rfl
    rw[eaft,ew,eword] at k
    rw[ew] at aoT
    cases hput with
    | no =>
     refine⟨_,rfl,rfl,_,rfl,iteF ?_⟩
     exact k _ _ ⟨o3,_,_,_,rfl,ex3,sr3,ed3,hcM,⟨t3.ok,t3.is,so3,aoT,ns3,nb3⟩,T3⟩
    | yes b y' pt =>
     have hpt:=t3.hc.get 5 0 rfl rfl
     have hb':=SP.out_in ho
     have hbl:b ∈ p.bs:=by rw[← erp]; exact hb'
     rw[eb] at hbl
     obtain⟨bn,bt,hbt,ebt,rfl⟩:=Wk.lv_mem hbl
     have hbn:=(zD.mp hbt).1
     have ok3:=t3.ok
     have is3:=t3.is
     have lrv:=ok3.lrv
     have hx3:=hcM.get 0 0 rfl rfl
     rw[ex3] at hx3
     have hp3':H3 pe=some (.tup (triV t)):=tk3.tup hp2
     obtain⟨us3,hus3⟩:∃ us,o3.rv[bn]?=some us:=⟨o3.rv[bn]'(by omega),zB _⟩
     obtain⟨ra,hra,hrl⟩:=hbelt ok3 hcM hus3
     obtain⟨tr,htr,ptr⟩:=is3.e.r.gt hus3
     have lus:us3.length≤90000:=by
      rw[ptr.length]
      exact z4 (eA3.2 _ (zG htr)) m9
     have ed:A3.dl.getD bn 0=bt.2.2:=by rw[eA3.1,I.dl]; exact Wk.dl_at hbt
     obtain⟨sa,ba,fa,xs,ys,zs,h1,h2⟩:=(wk _ (Hc.tl hcM.drop)).ex
     obtain⟨yb,hyb,a0,rfl,ha0⟩:∃ yb,ys[bn]?=some yb∧IsTri H3 yb bt:=pair_r h2.pb hbt
     refine⟨_,rfl,rfl,_,rfl,iteT ⟨_,rfl,⟨_,_,_,_,rfl,rfl,SqT.of h1,atI_nat (j:=1) rfl,_,rfl,⟨_,_,_,_,rfl,rfl,SqT.of hpt,atI_nat (j:=0) rfl,⟨_,_,_,_,rfl,rfl,SqL.of h2.hb,atI_nat hyb,?_⟩⟩⟩⟩⟩
     refine⟨_,rfl,⟨_,_,_,_,rfl,rfl,SqT.of hx3,atI_nat (j:=0) rfl,_,rfl,⟨_,_,_,_,rfl,rfl,SqT.of ha0,atI_nat (j:=1) rfl,_,rfl,⟨_,_,_,_,rfl,rfl,SqT.of hpt,atI_nat (j:=0) rfl,(by show 2≤sizeLine; decide),fun bq nbq=>?_⟩⟩⟩⟩
     have s4:Same H3 (upd H3 bq (.tup [.int bt.2.1,.int (bn:Int)])):=Same.new nbq
     have gbq:(upd H3 bq (.tup [.int bt.2.1,.int (bn:Int)])) bq=some (.tup [.int bt.2.1,.int (bn:Int)]):=upd_same
     change tDGet_ _ _ _ (upd H3 bq (.tup [.int bt.2.1,.int (bn:Int)]))
     generalize (upd H3 bq (.tup [.int bt.2.1,.int (bn:Int)]))=H4 at s4 gbq ⊢
     have dg:DGet H4 o3.rl (.ref bq) (some (.ref ra)):=by
      have:=DGet.t (k:=keyK bt.2.1 (bn:Int)) ((hcM.same s4).get 0 1 rfl rfl) gbq
      rw[kvs_belt hbt,zA,hra] at this
      exact this
     refine⟨o3.rl,_,rfl,dg,tyL (s4 _ _ hrl),_,rfl,⟨_,_,_,_,rfl,rfl,SqT.of (s4 _ _ hp3'),atI_nat (j:=0) rfl,_,rfl,⟨_,_,_,_,rfl,rfl,SqT.of (s4 _ _ ha0),atI_nat (j:=2) rfl,_,_,rfl,rfl,_,rfl,⟨_,_,_,_,rfl,rfl,SqT.of (s4 _ _ hpt),atI_nat (j:=0) rfl,_,rfl,⟨_,_,_,_,rfl,rfl,SqT.of (s4 _ _ hpt),atI_nat (j:=1) rfl,(by show 3≤sizeLine; decide),fun pn nn=>?_⟩⟩⟩⟩⟩
     have s5:=Same.new (o:=.tup (triV (t.1 + bt.2.2,(bn:Int),y'))) nn
     have g5:=upd_same (H:=H4) (a:=pn) (o:=.tup (triV (t.1 + bt.2.2,(bn:Int),y')))
     change rAppend _ _ (upd H4 pn (.tup (triV (t.1 + bt.2.2,(bn:Int),y')))) _
     generalize upd H4 pn (.tup (triV (t.1 + bt.2.2,(bn:Int),y')))=H5 at s5 g5 ⊢
     have s45:=s4.trans s5
     refine⟨ra,us3,_,rfl,rfl,s45 _ _ hrl,smallM (by omega),?_⟩
     obtain⟨o5,t5⟩:=hlay_to (hcM.same s45) ok3 (is3.tk (Tk.of s45)) hus3 hra (v:=.ref pn) (t:=(t.1 + bt.2.2,(bn:Int),y')) ⟨pn,rfl,g5⟩
     generalize upd H5 ra (.lst (us3++[.ref pn]))=H6 at t5 ⊢
     have epu:OA.put A3 t (some ((bn:Int),y'))=A3.lay bn (t.1 + bt.2.2,(bn:Int),y'):=by
      show A3.lay (Int.toNat (bn:Int)) _=_
      rw[z5,ed]
     rw[epu] at k aoT
     refine k _ _ ⟨o5,_,_,_,rfl,t5.x.trans ex3,by rw[t5.s]; exact sr3,t5.d.trans ed3,by rw[t5.s]; exact t5.hc,⟨t5.ok,t5.is,by rw[t5.s]; exact so3,aoT,by rw[t5.s]; exact ns3,by rw[t5.d]; exact nb3⟩,T3.trans ((Tk.of s45).trans t5.tk)⟩
  ·cases nx with
   | yes e t1 iv =>
    obtain⟨pe,rfl,_⟩:=iv
    cases hb
   | no e s1 =>
    have eaft:A.aft s p=A:=by unfold OA.aft; rw[e]
    rw[eaft,e] at k
    exact k _ _ ⟨o,_,_,_,rfl,rfl,rfl,rfl,hc.same s1,of.via (fun _ _=>IsTri.same s1) (yM m),Tk.of s1⟩
  ·rintro σ' H2 ⟨o1,v5,v6,v7,rfl,h1⟩
   have eq:A.stp s p=(((A.aft s p).rps ((A.aft s p).clk s (W.wy s)) (W.lv s)).1,word (A.tkn s p).isSome ((A.aft s p).rps ((A.aft s p).clk s (W.wy s)) (W.lv s)).2):=by
    unfold OA.stp OA.rsd
    rw[ep,eb]
    rfl
   rw[eq] at q
   generalize A.aft s p=B at h1 q
   generalize (A.tkn s p).isSome=took at q ⊢
   refine⟨_,rfl,_,rfl,_,rfl,w,W,o1,_,s,m + 1,B,(by rw[h1.x]; rfl),h1.wk wk,ok,h1.hc,h1.f,hs,fun H3 s3=>?_⟩
   generalize B.clk s (W.wy s)=now at q ⊢
   have h3:=h1.same s3
   obtain⟨sa,ba,fa,xs,ys,zs,k1,k2⟩:=(h3.wk wk).ex
   have lys:=k2.pb.length
   refine⟨_,rfl,⟨_,_,_,_,rfl,rfl,SqT.of k1,atI_nat (j:=1) rfl,ba,_,rfl,.inl (SqL.of k2.hb),_,rfl,by rw[p62]; omega,by rw[p62]; omega,for_range (n:=((ys.length:Nat):Int).toNat) (fun i σ H5=>∃(o2:OR) (v9 v10 v11 v12:Option V),σ=[some (.ref w),some (.ref o.x),some (.ref tl),some (.int (s:Int)),some (.str (word took (B.rps now (idx (fun(t:Tri)=>t.1 == (s:Int)) 0 (W.be.take i))).2)),v5,v6,v7,some (pV now),v9,v10,v11,v12]∧HSt cs W tl M (m + 1) H H5 o o2 (B.rps now (idx (fun(t:Tri)=>t.1 == (s:Int)) 0 (W.be.take i))).1)
    ⟨o1,_,_,_,_,rfl,h3⟩ ?_ ?_⟩⟩
   ·rintro i σ H5 hi ⟨o2,v9,v10,v11,v12,rfl,h5⟩
    have ez:(0:Int) + (i:Int)=(i:Int):=qD _
    rw[ez]
    have hil:i < W.be.length:=by omega
    obtain⟨bt,hbt⟩:∃ bt,W.be[i]?=some bt:=⟨W.be[i],zB hil⟩
    obtain⟨sa,ba,fa,xs,ys,zs,k1,k2⟩:=(h5.wk wk).ex
    obtain⟨yb,hyb,a0,rfl,ha0⟩:∃ yb,ys[i]?=some yb∧IsTri H5 yb bt:=pair_r k2.pb hbt
    have eid:=idx_take (fun(t:Tri)=>t.1 == (s:Int)) hbt
    refine⟨_,rfl,⟨_,_,_,_,rfl,rfl,SqT.of k1,atI_nat (j:=1) rfl,_,rfl,⟨_,_,_,_,rfl,rfl,SqL.of k2.hb,atI_nat hyb,a0,_,rfl,SqT.of ha0,rfl,⟨_,_,rfl,⟨_,_,rfl,⟨_,_,rfl,rfl,?_⟩⟩⟩⟩⟩⟩
    refine⟨_,rfl,_,rfl,rfl,_,rfl,?_⟩
    have et:decide (V.int bt.1=V.int (s:Int))=(bt.1 == (s:Int)):=dec_int
    refine iteB (fun hb=>?_) (fun hb=>?_)
    ·rw[et] at hb
     rw[hb,if_pos rfl] at eid
     have ers:=rps_snoc B now (idx (fun(t:Tri)=>t.1 == (s:Int)) 0 (W.be.take i)) (i:Int)
     rw[z5] at ers
     rw[← eid] at ers
     generalize B.rps now (idx (fun(t:Tri)=>t.1 == (s:Int)) 0 (W.be.take i))=R at h5 ers ⊢
     rw[ers]
     have lp:=h5.f.ok.lp
     have nb:=h5.f.nb
     obtain⟨g,hg⟩:∃ g,o2.pr[i]?=some g:=⟨o2.pr[i]'(by omega),zB _⟩
     have eg:R.1.pr.getD i none=g:=by rw[← h5.f.is.p,zA,hg]; rfl
     have edl:R.1.dl.getD i 0=bt.2.2:=by
      rw[← h5.f.is.d,h5.d,of.is.d,I.dl]
      exact Wk.dl_at hbt
     have hx5:=h5.hc.get 0 0 rfl rfl
     rw[h5.x] at hx5
     have hp5:=h5.hc.get 0 2 rfl rfl
     have hgi:(o2.pr.map pV)[i]?=some (pV g):=by rw[zE,hg]; rfl
     have stay:R.1.stays now i=true→(∃(o3:OR) (v9 v10 v11 v12:Option V),[some (.ref w),some (.ref o.x),some (.ref tl),some (.int (s:Int)),some (.str (word took R.2)),v5,v6,v7,some (pV now),some (.int (i:Int)),some (.int bt.1),some (.int bt.2.1),some (.int bt.2.2)]=[some (V.ref w),some (.ref o.x),some (.ref tl),some (.int (s:Int)),some (.str (word took (R.2 || (R.1.rp1 now i).2))),v5,v6,v7,some (pV now),v9,v10,v11,v12]∧HSt cs W tl M (m + 1) H H5 o o3 (R.1.rp1 now i).1):=fun e=>by
      have e1:R.1.rp1 now i=(R.1,false):=by unfold OA.rp1; rw[if_pos e]
      rw[e1,j2]
      exact⟨o2,_,_,_,_,rfl,h5⟩
     have e1:R.1.stays now i=false→R.1.rp1 now i=({ R.1 with pr:=R.1.pr.set i (R.1.new now i) },true):=fun e=>by unfold OA.rp1; rw[if_neg (by rw[e]; decide)]
     refine⟨_,rfl,⟨_,_,_,_,rfl,rfl,SqT.of hx5,atI_nat (j:=1) rfl,_,rfl,⟨_,_,_,_,rfl,rfl,SqL.of hp5,atI_nat hgi,rfl,_,rfl,?_⟩⟩⟩
     cases g with
     | none=>exact iteF (iteF (stay (by unfold OA.stays; rw[eg])))
     | some g =>
      refine iteT ⟨_,rfl,rfl,_,rfl,?_⟩
      cases now with
      | none =>
       have e2:=e1 (by unfold OA.stays; rw[eg]; rfl)
       have en:R.1.new none i=none:=rfl
       refine iteT (iteT ⟨_,rfl,_,rfl,⟨_,_,_,_,rfl,rfl,SqT.of hx5,atI_nat (j:=1) rfl,_,rfl,o2.pl,_,_,i,rfl,rfl,hp5,ixN_at (by rw[zC]; omega),?_⟩⟩)
       refine⟨_,rfl,rfl,_,rfl,iteF ⟨_,rfl,rfl,_,rfl,?_⟩⟩
       rw[e2,kG,en]
       have h6:=h5.pr i none
       refine iteB (fun hb=>?_) (fun hb=>?_)
       ·have:=of_decide_eq_true hb
        injection this with this
        rw[word_t this]
        exact⟨_,_,_,_,_,rfl,h6⟩
       ·have e9:word took R.2=word took true:=word_f fun z=>of_decide_eq_false hb (by rw[z])
        rw[e9]
        exact⟨_,_,_,_,_,rfl,h6⟩
      | some n =>
       have en:R.1.new (some n) i=some (n + bt.2.2):=by unfold OA.new; rw[edl]; rfl
       refine iteF ⟨_,rfl,_,rfl,_,_,rfl,rfl,_,rfl,⟨_,_,_,_,rfl,rfl,SqT.of hx5,atI_nat (j:=1) rfl,_,rfl,⟨_,_,_,_,rfl,rfl,SqL.of hp5,atI_nat hgi,_,_,rfl,rfl,_,rfl,?_⟩⟩⟩
       refine iteB (fun hb=>?_) (fun hb=>?_)
       ·have hgt:=of_decide_eq_true hb
        have e2:=e1 (by unfold OA.stays; rw[eg,en]; exact decide_eq_false (by omega))
        refine⟨_,rfl,_,rfl,⟨_,_,_,_,rfl,rfl,SqT.of hx5,atI_nat (j:=1) rfl,_,rfl,o2.pl,_,_,i,rfl,rfl,hp5,ixN_at (by rw[zC]; omega),?_⟩⟩
        have h6:=h5.pr i (some n)
        change _ at h6
        refine⟨_,rfl,rfl,_,rfl,iteT ⟨_,rfl,_,rfl,_,_,rfl,rfl,_,rfl,⟨_,_,_,_,rfl,rfl,SqT.of (h6.x ▸ h6.hc.get 0 0 rfl rfl),atI_nat (j:=1) rfl,_,rfl,o2.pl,_,_,i,rfl,rfl,h6.hc.get 0 2 rfl rfl,ixN_at (by rw[zC,zT]; omega),?_⟩⟩⟩
        refine⟨_,rfl,rfl,_,rfl,?_⟩
        rw[e2,kG,en]
        have h7:=h6.pr i (some (n + bt.2.2))
        have h8:HSt cs W tl M (m + 1) H (upd (upd H5 o2.pl (.lst ((o2.pr.map pV).set i (pV (some n))))) o2.pl (.lst (((o2.pr.set i (some n)).map pV).set i (pV (some (n + bt.2.2)))))) o { o2 with pr:=(o2.pr.set i (some n)).set i (some (n + bt.2.2)) } { R.1 with pr:=R.1.pr.set i (some (n + bt.2.2)) }:=by
         have:(R.1.pr.set i (some n)).set i (some (n + bt.2.2))=R.1.pr.set i (some (n + bt.2.2)):=List.set_set _
         rw[← this]
         exact h7
        refine iteB (fun hb=>?_) (fun hb=>?_)
        ·have:=of_decide_eq_true hb
         injection this with this
         rw[word_t this]
         exact⟨_,_,_,_,_,rfl,h8⟩
        ·have e9:word took R.2=word took true:=word_f fun z=>of_decide_eq_false hb (by rw[z])
         rw[e9]
         exact⟨_,_,_,_,_,rfl,h8⟩
       ·have hle:=of_decide_eq_false hb
        exact stay (by unfold OA.stays; rw[eg,en]; exact decide_eq_true (by omega))
    ·rw[et] at hb
     rw[hb,if_neg zV,yD] at eid
     rw[eid]
     exact iteF ⟨o2,_,_,_,_,rfl,h5⟩
   ·rintro σ H5 ⟨o2,v9,v10,v11,v12,rfl,h5⟩
    have e8:((ys.length:Nat):Int).toNat=W.be.length:=by omega
    rw[e8,zX] at h5 ⊢
    exact⟨_,rfl,q o2 H5 h5⟩
end
end Oc
namespace Oc
open PySem L2
theorem and_tl {c:Bool} {M:Prop} {tA tB:TS} {D:Ends} {σ:L2.St} {H:Hp} (R:L2.St→Hp→Prop) (hM:c=true→(∀ σ' H',R σ' H'→D.nx σ' H')→(∀(b:Bool) H1,(b=true→tA D σ H1)→(b=false→tB D σ H1)→if b=true then tA D σ H1 else tB D σ H1)→M) (hB:c=false→(∀ σ' H',R σ' H'→D.nx σ' H')→tB D σ H) (f:∀ σ' H',R σ' H'→D.nx σ' H'):if c=true then M else (if false=true then tA D σ H else tB D σ H):=by
 cases c
 ·exact iteF (iteF (hB rfl f))
 ·exact iteT (hM rfl f fun b H1 h1 h2=>by
   cases b
   ·exact iteF (h2 rfl)
   ·exact iteT (h1 rfl))
theorem dt_two {K:PySem.W.Frag} {H:Hp} {l p:Addr} {us:List V} {ts:List Tri} {x:Option Int} (h:H l=some (.lst [.ref p,pV x])) (hp:H p=some (.lst us)) (r:Paired (IsTri H) us ts):Dt K H 3 (.ref l) (.list [.list (ts.map triD),oV x]):=.lst (SqL.of h) (.cons (dt_tris hp r) (.cons (dt_pv x 2) (.nil _)))
structure Two (cs:Cs) (C:Addr) (W:Wk) (M:List (List Cell)) (m:Nat) (H:Hp) (o1 o2:OR) (A:OA):Prop where
 hc:Hc H (ownCs cs C o1++(heldCs cs W o2++M))
 f1:OwnF W m H o1 A
 f2:OwnF W m H o2 A
 i:Inv W A
theorem Two.same {cs:Cs} {C:Addr} {W:Wk} {M:List (List Cell)} {m:Nat} {H H':Hp} {o1 o2:OR} {A:OA} (h:Two cs C W M m H o1 o2 A) (s:Same H H'):Two cs C W M m H' o1 o2 A:=⟨h.hc.same s,h.f1.via (fun _ _=>IsTri.same s) (zH m),h.f2.via (fun _ _=>IsTri.same s) (zH m),h.i⟩
inductive spSts (K:PySem.W.Frag) (cs:Cs) (C:Addr) (vs:List V) (H:Hp) (Q:VK) (x_3:XK):Prop where
 | mk (w l:Addr) (W:Wk) (o1 o2:OR) (M:List (List Cell)) (m:Nat) (A:OA) (ss:List Int) (od:Int) (h_0:vs=[.ref o1.x,.ref w,.ref o2.x,.ref l,.int od]) (h_1:WkAt H w W) (h_2:W.Ok) (h_3:Two cs C W M m H o1 o2 A) (h_4:SqL K H l (ss.map V.int)) (h_5:(∀ z ∈ ss,0≤z∧z < (W.st.length:Int))) (h_6:∀ H',Same H H'→Q (.bl true) H'):spSts K cs C vs H Q x_3
section
variable {P:Program} {w:World} {K:PySem.W.Frag} {mg:Str→Option Value} {base:Heap} {cs:Cs} {C:Addr}
theorem sc_sts:FnScope ["own","works","held","stations","order","station","due","found"] ["own","works","held","stations","order"] (defScope (top 26)):=⟨rfl,rfl,rfl,by decide +kernel,rfl,by decide +kernel,by decide +kernel⟩
theorem ok_sts {f:Addr} {fd:FuncData} (F:Fun K "_law_stations_shown" "_law_stations_shown" (top 26) f fd) (T:Txt K mg) (ar:FnAt P w K mg base 2 "_law_clock" ["works","held","station"] (spHClk cs)) (G_clock:MethAt P w K mg base 3 C "clock" ["self","station"] (spClk cs C)) (G_taken:MethAt P w K mg base 1 C "taken" ["self","station"] (spTaken cs C)):FnOk P w K mg base CX0 4 f fd ["own","works","held","stations","order"] (spSts K cs C):=by
 have nd:=sc_sts.nd
 refine F.ok sc_sts (fun vs H Q E h=>?_) (fun cdv A outer s H vs Q E hr h=>?_)
 ·obtain⟨w,l,W,o1,o2,M,m,A,ss,od,rfl,_⟩:=h
  rfl
 ·obtain⟨w,l,W,o1,o2,M,m,A,ss,od,rfl,hw,ok,t0,hl,hss,q⟩:=h
  refine⟨_,(@pss_cons _ _ _ _ _ (ps_for PassesOwn.never rfl (pi_listK (K:=K) rfl (pv 3)) (pg_name (i:=5) nd rfl (by nofun)) (@pss_cons _ _ _ _ _ (ps_set (i:=6) nd rfl (by nofun) (@pe_lst _ _ _ _ (@pa_cons _ _ _ _ _ (@pe_ix _ _ _ _ _ _ _ (ix_listK (K:=K) rfl) (@pe_ix _ _ _ _ _ _ _ (ix_tupK (K:=K) rfl) (pv 2) pe_int (fun _ _=>rfl)) (pv 5) (fun _ _=>rfl)) (@pa_cons _ _ _ _ _ (pe_fn ar (hr.mono (by decide)) (by rfl) (@pa_cons _ _ _ _ _ (pv 1) (@pa_cons _ _ _ _ _ (pv 2) (@pa_cons _ _ _ _ _ (pv 5) pa_nil (by rfl)) (by rfl)) (by rfl))) pa_nil (by rfl)) (by rfl))))
   (@pss_cons _ _ _ _ _ (ps_if (pt_cmpR op_eq (pe_op op_mod (pe_op op_fdiv (pv 4) pe_int) pe_int) pe_int (nomark _)) (@pss_one _ _ _ (ps_set (i:=7) nd rfl (by nofun) (@pe_lst _ _ _ _ (@pa_cons _ _ _ _ _ (pe_mth G_taken (hr.mono (by decide)) (pv 0) (@pa_cons _ _ _ _ _ (pv 5) pa_nil (by rfl))) (@pa_cons _ _ _ _ _ (pe_mth G_clock (hr.mono (by decide)) (pv 0) (@pa_cons _ _ _ _ _ (pv 5) pa_nil (by rfl))) pa_nil (by rfl)) (by rfl))))) (@pss_one _ _ _ (@ps_set _ _ 7 _ _ _ _ nd rfl (by nofun) (pe_rev2K (K:=K) rfl (@pe_lst _ _ _ _ (@pa_cons _ _ _ _ _ (pe_mth G_clock (hr.mono (by decide)) (pv 0) (@pa_cons _ _ _ _ _ (pv 5) pa_nil (by rfl))) (@pa_cons _ _ _ _ _ (pe_mth G_taken (hr.mono (by decide)) (pv 0) (@pa_cons _ _ _ _ _ (pv 5) pa_nil (by rfl))) pa_nil (by rfl)) (by rfl))) po_none po_none (po_some (pe_un un_neg pe_int))) sw_sub (by first|exact .inl rfl|exact .inr rfl|assumption))))
   (@pss_one _ _ _ (ps_if (pt_cmpR (op_neDK (K:=K) rfl hr.units) (pv 7) (pv 6) (nomark _)) (@pss_one _ _ _ (@ps_ret _ _ _ _ pe_bl)) pss_nil)))))
   (@pss_one _ _ _ (@ps_ret _ _ _ _ pe_bl))),?_⟩
  refine⟨_,rfl,l,rfl,⟨_,hl⟩,for_list (K:=K) (a:=l) (xs:=ss.map V.int) (fun i σ H5=>∃ v5 v6 v7:Option V,σ=[some (.ref o1.x),some (.ref w),some (.ref o2.x),some (.ref l),some (.int od),v5,v6,v7]∧Same H H5) ⟨_,_,_,rfl,Same.refl _⟩ (fun i σ H5 _ ⟨_,_,_,_,s5⟩=>s5.seq hl) ?_ ?_⟩
  ·rintro i x σ H5 hx ⟨v5,v6,v7,rfl,s5⟩
   obtain⟨z,rfl,hz⟩:=ints_get hx
   obtain⟨z0,z1⟩:=hss z (zG hz)
   obtain⟨s,rfl⟩:∃ s:Nat,z=(s:Int):=⟨z.toNat,by omega⟩
   have hs:s < W.st.length:=by omega
   have t5:=t0.same s5
   have hH:=t5.hc.drop
   have lgv:=t5.f2.ok.lgv
   have ns2:=t5.f2.ns
   have lgv1:=t5.f1.ok.lgv
   have ns1:=t5.f1.ns
   obtain⟨gs,hgs⟩:∃ gs,o2.gv[s]?=some gs:=⟨o2.gv[s]'(by omega),zB _⟩
   obtain⟨ga,hga,hgl⟩:=hlog t5.f2.ok hH hgs
   obtain⟨tg,htg,ptg⟩:=t5.f2.is.e.g.gt hgs
   obtain⟨gs1,hgs1⟩:∃ gs,o1.gv[s]?=some gs:=⟨o1.gv[s]'(by omega),zB _⟩
   obtain⟨tg1,htg1,ptg1⟩:=t5.f1.is.e.g.gt hgs1
   rw[htg] at htg1
   cases htg1
   obtain⟨r,hr1⟩:∃ r,o1.srs[s]?=some r:=⟨o1.srs[s]'(by omega),zB _⟩
   have er:r.ws=W.wy s:=by
    have:A.srs[s]?=some r.pu:=by rw[← t5.f1.is.s,zE,hr1]; rfl
    exact(t5.i.sp s r.pu this).1
   refine⟨_,rfl,⟨_,_,_,_,rfl,rfl,SqT.of (hH.get 0 0 rfl rfl),atI_nat (j:=2) rfl,_,rfl,⟨_,_,_,_,rfl,rfl,SqL.of (hH.get 0 3 rfl rfl),atI_nat (refs_at hga),_,rfl,_,rfl,_,rfl,w,W,o2,M,s,m,A,rfl,hw.same s5,ok,hH,t5.f2,hs,fun H6 s6=>⟨(by show 2≤sizeLine; decide),fun l1 n1=>?_⟩⟩⟩⟩
   have s7:Same H6 (upd H6 l1 (.lst [.ref ga,pV (A.clk s (W.wy s))])):=Same.new n1
   have g7:(upd H6 l1 (.lst [.ref ga,pV (A.clk s (W.wy s))])) l1=some (.lst [.ref ga,pV (A.clk s (W.wy s))]):=upd_same
   generalize (upd H6 l1 (.lst [.ref ga,pV (A.clk s (W.wy s))]))=H7 at s7 g7 ⊢
   have s57:=s6.trans s7
   have S7:=s5.trans s57
   have t7:=t5.same s57
   have eck:∀ {H':Hp},Two cs C W M m H' o1 o2 A→o1.clk A.de A.re s r=A.clk s (W.wy s):=fun t=>by rw[t.f1.is.clk,er]
   have l100:r.ws.length≤100:=(t5.f1.so r (zG hr1)).l1
   refine⟨_,rfl,_,_,rfl,rfl,⟨by decide,by decide⟩,_,_,rfl,rfl,by decide,rfl,_,rfl,?_⟩
   refine if_tail (fun σ' H'=>∃(l2 p2:Addr),σ'=[some (.ref o1.x),some (.ref w),some (.ref o2.x),some (.ref l),some (.int od),some (.int (s:Int)),some (.ref l1),some (.ref l2)]∧Same H7 H'∧H' l2=some (.lst [.ref p2,pV (A.clk s (W.wy s))])∧H' p2=some (.lst gs1)) (fun hb k=>?_) (fun hb k=>?_) ?_
   ·refine⟨_,rfl,o1.x,o1.dx,o1.flds,rfl,t7.hc.get 0 0 rfl rfl,f_m (by decide +kernel),_,rfl,o1,_,s,gs1,rfl,t7.hc,t7.f1.ok,hgs1,fun p2 np2=>?_⟩
    have s8:Same H7 (upd H7 p2 (.lst gs1)):=Same.new np2
    have g8:(upd H7 p2 (.lst gs1)) p2=some (.lst gs1):=upd_same
    generalize (upd H7 p2 (.lst gs1))=H8 at s8 g8 ⊢
    have t8:=t7.same s8
    refine⟨_,rfl,o1.x,o1.dx,o1.flds,rfl,t8.hc.get 0 0 rfl rfl,f_m (by decide +kernel),_,rfl,o1,_,s,r,A.de,A.re,A.ge,rfl,t8.hc,t8.f1.ok,hr1,l100,t8.f1.is.e,fun H9 s9=>⟨(by show 2≤sizeLine; decide),fun l2 n2=>?_⟩⟩
    rw[eck t8]
    have s10:=Same.new (o:=.lst [.ref p2,pV (A.clk s (W.wy s))]) n2
    exact k _ _ ⟨l2,p2,rfl,(s8.trans s9).trans s10,upd_same,s10 _ _ (s9 _ _ g8)⟩
   ·refine⟨_,rfl,o1.x,o1.dx,o1.flds,rfl,t7.hc.get 0 0 rfl rfl,f_m (by decide +kernel),_,rfl,o1,_,s,r,A.de,A.re,A.ge,rfl,t7.hc,t7.f1.ok,hr1,l100,t7.f1.is.e,fun H8 s8=>?_⟩
    rw[eck t7]
    have t8:=t7.same s8
    refine⟨_,rfl,o1.x,o1.dx,o1.flds,rfl,t8.hc.get 0 0 rfl rfl,f_m (by decide +kernel),_,rfl,o1,_,s,gs1,rfl,t8.hc,t8.f1.ok,hgs1,fun p2 np2=>⟨(by show 2≤sizeLine; decide),fun l3 n3=>?_⟩⟩
    have s9:Same H8 (upd H8 p2 (.lst gs1)):=Same.new np2
    have g9:(upd H8 p2 (.lst gs1)) p2=some (.lst gs1):=upd_same
    generalize (upd H8 p2 (.lst gs1))=H9 at s9 g9 n3 ⊢
    have s10:=Same.new (o:=.lst [pV (A.clk s (W.wy s)),.ref p2]) n3
    have g10:(upd H9 l3 (.lst [pV (A.clk s (W.wy s)),.ref p2])) l3=some (.lst [pV (A.clk s (W.wy s)),.ref p2]):=upd_same
    generalize (upd H9 l3 (.lst [pV (A.clk s (W.wy s)),.ref p2]))=H10 at s10 g10 ⊢
    refine⟨_,rfl,_,rfl,l3,_,_,rfl,SqL.of g10,rfl,rfl,rfl,fun l2 n2=>?_⟩
    have s11:=Same.new (o:=.lst [.ref p2,pV (A.clk s (W.wy s))]) n2
    exact k _ _ ⟨l2,p2,rfl,((s8.trans s9).trans s10).trans s11,upd_same,s11 _ _ (s10 _ _ g9)⟩
   ·rintro σ' H8 ⟨l2,p2,rfl,s8,g2,gp⟩
    have S8:=s57.trans s8
    have d1:Dt K H8 3 (.ref l2) (.list [.list (tg.map triD),oV (A.clk s (W.wy s))]):=dt_two g2 gp (pairedMono (fun _ _ h=>IsTri.same S8 h) ptg1)
    have d2:Dt K H8 3 (.ref l1) (.list [.list (tg.map triD),oV (A.clk s (W.wy s))]):=dt_two (s8 _ _ g7) (S8 _ _ hgl) (pairedMono (fun _ _ h=>IsTri.same S8 h) ptg)
    refine⟨_,rfl,_,rfl,_,_,3,d1,d2,by decide,_,rfl,?_⟩
    rw[SeqAt.eqv_refl _ d1.can]
    exact iteF ⟨_,_,_,rfl,s5.trans S8⟩
  ·rintro σ H5 ⟨v5,v6,v7,rfl,s5⟩
   exact q _ s5
theorem sc_shw:FnScope ["own","works","held","stations","order","belt","due","found"] ["own","works","held","stations","order"] (defScope (top 27)):=⟨rfl,rfl,rfl,by decide +kernel,rfl,by decide +kernel,by decide +kernel⟩
theorem ok_shw {f:Addr} {fd:FuncData} (F:Fun K "_law_shown" "_law_shown" (top 27) f fd) (T:Txt K mg) (al:FnAt P w K mg base 4 "_law_stations_shown" ["own","works","held","stations","order"] (spSts K cs C)) (G_waiting:MethAt P w K mg base 1 C "waiting" ["self","belt"] (spWait cs C)) (G_promise:MethAt P w K mg base 1 C "promise" ["self","belt"] (spProm cs C)):FnOk P w K mg base CX0 5 f fd ["own","works","held","stations","order"] (spSts K cs C):=by
 have nd:=sc_shw.nd
 refine F.ok sc_shw (fun vs H Q E h=>?_) (fun cdv A outer s H vs Q E hr h=>?_)
 ·obtain⟨w,l,W,o1,o2,M,m,A,ss,od,rfl,_⟩:=h
  rfl
 ·obtain⟨w,l,W,o1,o2,M,m,A,ss,od,rfl,hw,ok,t0,hl,hss,q⟩:=h
  have hu:=hu_of hr
  have b12:=ok.b12
  refine⟨_,(@pss_cons _ _ _ _ _ (ps_if ((pw_and (pt_cmpR op_eq (pe_op op_mod (pv 4) pe_int) pe_int (nomark _)) (pw_and1 (pt_not (pt_val (pe_fn al (hr.mono (by decide)) (by rfl) (@pa_cons _ _ _ _ _ (pv 0) (@pa_cons _ _ _ _ _ (pv 1) (@pa_cons _ _ _ _ _ (pv 2) (@pa_cons _ _ _ _ _ (pv 3) (@pa_cons _ _ _ _ _ (pv 4) pa_nil (by rfl)) (by rfl)) (by rfl)) (by rfl)) (by rfl)))))))).pt (@pss_one _ _ _ (@ps_ret _ _ _ _ pe_bl)) pss_nil)
   (@pss_cons _ _ _ _ _ (ps_for PassesOwn.never rfl (pi_range1 rfl T.n_range (@pa_cons _ _ _ _ _ (pe_callB (call_len_seqK (K:=K) rfl) (by rfl) T.n_len bt_len (@pa_cons _ _ _ _ _ (@pe_ix _ _ _ _ _ _ _ (ix_tupK (K:=K) rfl) (pv 1) pe_int (fun _ _=>rfl)) pa_nil (by rfl))) pa_nil (by rfl))) (pg_name (i:=5) nd rfl (by nofun)) (@pss_cons _ _ _ _ _ (ps_set (i:=6) nd rfl (by nofun) (@pe_lst _ _ _ _ (@pa_cons _ _ _ _ _ (pe_dget hu (@pe_ix _ _ _ _ _ _ _ (ix_tupK (K:=K) rfl) (pv 2) pe_int (fun _ _=>rfl)) (@pe_tup _ _ _ _ _ (@pa_cons _ _ _ _ _ (@pe_ix _ _ _ _ _ _ _ (ix_tupK (K:=K) rfl) (@pe_ix _ _ _ _ _ _ _ (ix_listK (K:=K) rfl) (@pe_ix _ _ _ _ _ _ _ (ix_tupK (K:=K) rfl) (pv 1) pe_int (fun _ _=>rfl)) (pv 5) (fun _ _=>rfl)) pe_int (fun _ _=>rfl)) (@pa_cons _ _ _ _ _ (pv 5) pa_nil (by rfl)) (by rfl))) (fun _ _=>rfl)) (@pa_cons _ _ _ _ _ (@pe_ix _ _ _ _ _ _ _ (ix_listK (K:=K) rfl) (@pe_ix _ _ _ _ _ _ _ (ix_tupK (K:=K) rfl) (pv 2) pe_int (fun _ _=>rfl)) (pv 5) (fun _ _=>rfl)) pa_nil (by rfl)) (by rfl))))
   (@pss_cons _ _ _ _ _ (ps_if (pt_cmpR op_eq (pe_op op_mod (pe_op op_fdiv (pv 4) pe_int) pe_int) pe_int (nomark _)) (@pss_one _ _ _ (ps_set (i:=7) nd rfl (by nofun) (@pe_lst _ _ _ _ (@pa_cons _ _ _ _ _ (pe_mth G_waiting (hr.mono (by decide)) (pv 0) (@pa_cons _ _ _ _ _ (pv 5) pa_nil (by rfl))) (@pa_cons _ _ _ _ _ (pe_mth G_promise (hr.mono (by decide)) (pv 0) (@pa_cons _ _ _ _ _ (pv 5) pa_nil (by rfl))) pa_nil (by rfl)) (by rfl))))) (@pss_one _ _ _ (@ps_set _ _ 7 _ _ _ _ nd rfl (by nofun) (pe_rev2K (K:=K) rfl (@pe_lst _ _ _ _ (@pa_cons _ _ _ _ _ (pe_mth G_promise (hr.mono (by decide)) (pv 0) (@pa_cons _ _ _ _ _ (pv 5) pa_nil (by rfl))) (@pa_cons _ _ _ _ _ (pe_mth G_waiting (hr.mono (by decide)) (pv 0) (@pa_cons _ _ _ _ _ (pv 5) pa_nil (by rfl))) pa_nil (by rfl)) (by rfl))) po_none po_none (po_some (pe_un un_neg pe_int))) sw_sub (by first|exact .inl rfl|exact .inr rfl|assumption))))
   (@pss_one _ _ _ (ps_if (pt_cmpR (op_neDK (K:=K) rfl hr.units) (pv 7) (pv 6) (nomark _)) (@pss_one _ _ _ (@ps_ret _ _ _ _ pe_bl)) pss_nil)))))
   (@pss_one _ _ _ (@ps_ret _ _ _ _ (pe_or (pe_cmpR op_eq (pe_op op_mod (pv 4) pe_int) pe_int (nomark _)) (pe_one (pe_fn al (hr.mono (by decide)) (by rfl) (@pa_cons _ _ _ _ _ (pv 0) (@pa_cons _ _ _ _ _ (pv 1) (@pa_cons _ _ _ _ _ (pv 2) (@pa_cons _ _ _ _ _ (pv 3) (@pa_cons _ _ _ _ _ (pv 4) pa_nil (by rfl)) (by rfl)) (by rfl)) (by rfl)) (by rfl))))))))),?_⟩
  refine⟨_,rfl,_,_,rfl,rfl,by decide,rfl,_,rfl,?_⟩
  refine and_tl (fun σ' H'=>σ'=[some (.ref o1.x),some (.ref w),some (.ref o2.x),some (.ref l),some (.int od),none,none,none]∧Same H H') (fun hb k w'=>?_) (fun hb k=>k _ _ ⟨rfl,Same.refl _⟩) ?_
  ·refine⟨_,rfl,_,rfl,_,rfl,_,rfl,_,rfl,w,l,W,o1,o2,M,m,A,ss,od,rfl,hw,ok,t0,hl,hss,fun H1 s1=>⟨_,rfl,?_⟩⟩
   exact w' _ _ (fun h=>by cases h) (fun _=>k _ _ ⟨rfl,s1⟩)
  ·rintro σ' H1 ⟨rfl,s1⟩
   obtain⟨sa,ba,fa,xs,ys,zs,k1,k2⟩:=hw.ex
   have lys:=k2.pb.length
   refine⟨_,rfl,⟨_,_,_,_,rfl,rfl,SqT.of (s1 _ _ k1),atI_nat (j:=1) rfl,ba,_,rfl,.inl (SqL.of (s1 _ _ k2.hb)),_,rfl,by rw[p62]; omega,by rw[p62]; omega,for_range (n:=((ys.length:Nat):Int).toNat) (fun i σ H5=>∃ v5 v6 v7:Option V,σ=[some (.ref o1.x),some (.ref w),some (.ref o2.x),some (.ref l),some (.int od),v5,v6,v7]∧Same H H5) ⟨_,_,_,rfl,s1⟩ ?_ ?_⟩⟩
   ·rintro i σ H5 hi ⟨v5,v6,v7,rfl,s5⟩
    have ez:(0:Int) + (i:Int)=(i:Int):=qD _
    rw[ez]
    have hil:i < W.be.length:=by omega
    obtain⟨bt,hbt⟩:∃ bt,W.be[i]?=some bt:=⟨W.be[i],zB hil⟩
    obtain⟨yb,hyb,a0,rfl,ha0⟩:∃ yb,ys[i]?=some yb∧IsTri H yb bt:=pair_r k2.pb hbt
    have t5:=t0.same s5
    have hH:=t5.hc.drop
    have nb1:=t5.f1.nb
    have nb2:=t5.f2.nb
    have lr1:=t5.f1.ok.lrv
    have lr2:=t5.f2.ok.lrv
    have lp1:=t5.f1.ok.lp
    have lp2:=t5.f2.ok.lp
    obtain⟨us,hus⟩:∃ us,o2.rv[i]?=some us:=⟨o2.rv[i]'(by omega),zB _⟩
    obtain⟨ra,hra,hrl⟩:=hbelt t5.f2.ok hH hus
    obtain⟨tr,htr,ptr⟩:=t5.f2.is.e.r.gt hus
    obtain⟨us1,hus1⟩:∃ us,o1.rv[i]?=some us:=⟨o1.rv[i]'(by omega),zB _⟩
    obtain⟨tr1,htr1,ptr1⟩:=t5.f1.is.e.r.gt hus1
    rw[htr] at htr1
    cases htr1
    obtain⟨g,hg⟩:∃ g,o2.pr[i]?=some g:=⟨o2.pr[i]'(by omega),zB _⟩
    have hg1:o1.pr[i]?=some g:=by rw[t5.f1.is.p,← t5.f2.is.p]; exact hg
    refine⟨_,rfl,⟨_,_,_,_,rfl,rfl,SqT.of (hH.get 0 0 rfl rfl),atI_nat (j:=0) rfl,_,rfl,⟨_,_,_,_,rfl,rfl,SqT.of (s5 _ _ k1),atI_nat (j:=1) rfl,_,rfl,⟨_,_,_,_,rfl,rfl,SqL.of (s5 _ _ k2.hb),atI_nat hyb,⟨_,_,_,_,rfl,rfl,SqT.of (s5 _ _ ha0),atI_nat (j:=1) rfl,_,rfl,(by show 2≤sizeLine; decide),fun bq nbq=>?_⟩⟩⟩⟩⟩
    have s6:Same H5 (upd H5 bq (.tup [.int bt.2.1,.int (i:Int)])):=Same.new nbq
    have gbq:(upd H5 bq (.tup [.int bt.2.1,.int (i:Int)])) bq=some (.tup [.int bt.2.1,.int (i:Int)]):=upd_same
    change tDGet_ _ _ _ (upd H5 bq (.tup [.int bt.2.1,.int (i:Int)]))
    generalize (upd H5 bq (.tup [.int bt.2.1,.int (i:Int)]))=H6 at s6 gbq ⊢
    have hH6:=hH.same s6
    have dg:DGet H6 o2.rl (.ref bq) (some (.ref ra)):=by
     have:=DGet.t (k:=keyK bt.2.1 (i:Int)) (hH6.get 0 1 rfl rfl) gbq
     rw[kvs_belt hbt,zA,hra] at this
     exact this
    refine⟨o2.rl,_,rfl,dg,_,rfl,⟨_,_,_,_,rfl,rfl,SqT.of (hH6.get 0 0 rfl rfl),atI_nat (j:=1) rfl,_,rfl,⟨_,_,_,_,rfl,rfl,SqL.of (hH6.get 0 2 rfl rfl),atI_nat (by rw[zE,hg]; rfl),(by show 2≤sizeLine; decide),fun l1 n1=>?_⟩⟩⟩
    have s7:Same H6 (upd H6 l1 (.lst [.ref ra,pV g])):=Same.new n1
    have g7:(upd H6 l1 (.lst [.ref ra,pV g])) l1=some (.lst [.ref ra,pV g]):=upd_same
    generalize (upd H6 l1 (.lst [.ref ra,pV g]))=H7 at s7 g7 ⊢
    have s57:=s6.trans s7
    have t7:=t5.same s57
    refine⟨_,rfl,_,_,rfl,rfl,⟨by decide,by decide⟩,_,_,rfl,rfl,by decide,rfl,_,rfl,?_⟩
    refine if_tail (fun σ' H'=>∃(l2 p2:Addr),σ'=[some (.ref o1.x),some (.ref w),some (.ref o2.x),some (.ref l),some (.int od),some (.int (i:Int)),some (.ref l1),some (.ref l2)]∧Same H7 H'∧H' l2=some (.lst [.ref p2,pV g])∧H' p2=some (.lst us1)) (fun hb k=>?_) (fun hb k=>?_) ?_
    ·refine⟨_,rfl,o1.x,o1.dx,o1.flds,rfl,t7.hc.get 0 0 rfl rfl,f_m (by decide +kernel),_,rfl,o1,_,i,us1,rfl,t7.hc,t7.f1.ok,hus1,fun p2 np2=>?_⟩
     have s8:Same H7 (upd H7 p2 (.lst us1)):=Same.new np2
     have g8:(upd H7 p2 (.lst us1)) p2=some (.lst us1):=upd_same
     generalize (upd H7 p2 (.lst us1))=H8 at s8 g8 ⊢
     have t8:=t7.same s8
     refine⟨_,rfl,o1.x,o1.dx,o1.flds,rfl,t8.hc.get 0 0 rfl rfl,f_m (by decide +kernel),_,rfl,o1,_,i,g,rfl,t8.hc,t8.f1.ok,hg1,(by show 2≤sizeLine; decide),fun l2 n2=>?_⟩
     have s10:=Same.new (o:=.lst [.ref p2,pV g]) n2
     exact k _ _ ⟨l2,p2,rfl,s8.trans s10,upd_same,s10 _ _ g8⟩
    ·refine⟨_,rfl,o1.x,o1.dx,o1.flds,rfl,t7.hc.get 0 0 rfl rfl,f_m (by decide +kernel),_,rfl,o1,_,i,g,rfl,t7.hc,t7.f1.ok,hg1,?_⟩
     refine⟨_,rfl,o1.x,o1.dx,o1.flds,rfl,t7.hc.get 0 0 rfl rfl,f_m (by decide +kernel),_,rfl,o1,_,i,us1,rfl,t7.hc,t7.f1.ok,hus1,fun p2 np2=>⟨(by show 2≤sizeLine; decide),fun l3 n3=>?_⟩⟩
     have s9:Same H7 (upd H7 p2 (.lst us1)):=Same.new np2
     have g9:(upd H7 p2 (.lst us1)) p2=some (.lst us1):=upd_same
     generalize (upd H7 p2 (.lst us1))=H9 at s9 g9 n3 ⊢
     have s10:=Same.new (o:=.lst [pV g,.ref p2]) n3
     have g10:(upd H9 l3 (.lst [pV g,.ref p2])) l3=some (.lst [pV g,.ref p2]):=upd_same
     generalize (upd H9 l3 (.lst [pV g,.ref p2]))=H10 at s10 g10 ⊢
     refine⟨_,rfl,_,rfl,l3,_,_,rfl,SqL.of g10,rfl,rfl,rfl,fun l2 n2=>?_⟩
     have s11:=Same.new (o:=.lst [.ref p2,pV g]) n2
     exact k _ _ ⟨l2,p2,rfl,(s9.trans s10).trans s11,upd_same,s11 _ _ (s10 _ _ g9)⟩
    ·rintro σ' H8 ⟨l2,p2,rfl,s8,g2,gp⟩
     have S8:=s57.trans s8
     have d1:Dt K H8 3 (.ref l2) (.list [.list (tr.map triD),oV g]):=dt_two g2 gp (pairedMono (fun _ _ h=>IsTri.same S8 h) ptr1)
     have d2:Dt K H8 3 (.ref l1) (.list [.list (tr.map triD),oV g]):=dt_two (s8 _ _ g7) (S8 _ _ hrl) (pairedMono (fun _ _ h=>IsTri.same S8 h) ptr)
     refine⟨_,rfl,_,rfl,_,_,3,d1,d2,by decide,_,rfl,?_⟩
     rw[SeqAt.eqv_refl _ d1.can]
     exact iteF ⟨_,_,_,rfl,s5.trans S8⟩
   ·rintro σ H5 ⟨v5,v6,v7,rfl,s5⟩
    have t5:=t0.same s5
    refine⟨_,rfl,_,_,rfl,rfl,by decide,rfl,_,rfl,?_⟩
    refine iteB (fun hb=>q _ s5) (fun hb=>?_)
    exact⟨_,rfl,_,rfl,_,rfl,_,rfl,_,rfl,w,l,W,o1,o2,M,m,A,ss,od,rfl,hw.same s5,ok,t5,s5.seq hl,hss,fun H6 s6=>q _ (s5.trans s6)⟩
end
end Oc
namespace Oc
open PySem L2
def Wk.fps (W:Wk) (s:Int):List (Int × Int):=W.fe.zipIdx.filterMap fun p=>if p.1.1=s then some (p.1.2.1,(p.2:Int)) else none
def kOf (W:Wk) (p:Int × Int):Tri:=(p.1,-1,(W.fe.getD p.2.toNat (0,0,0)).2.2)
theorem fps_take {W:Wk} {s:Int} {i:Nat} {t:Tri} (h:W.fe[i]?=some t):(W.fe.zipIdx.take (i + 1)).filterMap (fun p=>if p.1.1=s then some (p.1.2.1,(p.2:Int)) else none)=(W.fe.zipIdx.take i).filterMap (fun p=>if p.1.1=s then some (p.1.2.1,(p.2:Int)) else none)++(if t.1=s then [(t.2.1,(i:Int))] else []):=by
 have h2:W.fe.zipIdx[i]?=some (t,i):=by rw[List.getElem?_zipIdx,h]; simp
 rw[take_1 h2,yY]
 congr 1
 by_cases e:t.1=s
 ·simp [e]
 ·simp [e]
theorem fm_fil {α β:Type} (g:α→Bool) (h:α→β):∀ l:List α,(l.filterMap fun x=>if g x=true then some (h x) else none)=(l.filter g).map h
 | []=>rfl
 | x::l=>by
  rw[yT,qX]
  cases e:g x with
  | true=>simp [fm_fil g h l]
  | false=>simp [fm_fil g h l]
def Wk.fzs (W:Wk) (s:Int):List (Tri × Nat):=W.fe.zipIdx.filter fun p=>p.1.1 == s
theorem fps_is (W:Wk) (s:Int):W.fps s=(W.fzs s).map fun p=>(p.1.2.1,(p.2:Int)):=by
 unfold Wk.fps Wk.fzs
 rw[← fm_fil]
 congr 1
 funext p
 by_cases e:p.1.1=s
 ·simp [e]
 ·simp [e]
theorem fzs_fst (W:Wk) (s:Int):(W.fzs s).map Prod.fst=W.fe.filter fun f=>f.1 == s:=by
 unfold Wk.fzs
 have:∀(l:List Tri) (n:Nat),((l.zipIdx n).filter fun p=>p.1.1 == s).map Prod.fst=l.filter fun f=>f.1 == s:=by
  intro l
  induction l with
  | nil=>intro n; rfl
  | cons x l ih =>
   intro n
   rw[List.zipIdx_cons,qX,qX]
   cases e:x.1 == s with
   | true =>
    rw[if_pos rfl,if_pos rfl,yJ,ih (n + 1)]
   | false =>
    rw[if_neg (by decide),if_neg (by decide),ih (n + 1)]
 exact this W.fe 0
theorem fzs_inc (W:Wk) (s:Int):(W.fzs s).Pairwise fun p q=>p.2 < q.2:=by
 unfold Wk.fzs
 refine List.Pairwise.filter _ ?_
 have:∀(l:List Tri) (n:Nat),((l.zipIdx n).Pairwise fun p q=>p.2 < q.2)∧∀ p ∈ l.zipIdx n,n≤p.2:=by
  intro l
  induction l with
  | nil=>intro n; exact⟨.nil,fun p hp=>absurd hp zK⟩
  | cons x l ih =>
   intro n
   rw[List.zipIdx_cons]
   obtain⟨h1,h2⟩:=ih (n + 1)
   refine⟨yX.mpr ⟨fun p hp=>?_,h1⟩,fun p hp=>?_⟩
   ·have:=h2 p hp
    show n < p.2
    omega
   ·rcases zQ.mp hp with z|z
    ·rw[z]; exact zH _
    ·have:=h2 p z
     omega
 exact(this W.fe 0).1
theorem fzs_at {W:Wk} {s:Int} {p:Tri × Nat} (h:p ∈ W.fzs s):W.fe[p.2]?=some p.1:=by
 have:=(z6.mp h).1
 have:=List.mem_zipIdx_iff_getElem?.mp this
 exact this
theorem begun_de {W:Wk} (ok:W.Ok) {s:Int} {is:List Nat} (hp:is.Perm (List.range (W.fps s).length)) (hw:is.Pairwise fun i j=>rankOf (W.fps s) i < rankOf (W.fps s) j∨(rankOf (W.fps s) i=rankOf (W.fps s) j∧i < j)):(is.map fun i=>(W.fps s).getD i (0,0)).map (kOf W)=W.de s:=by
 have el:(W.fps s).length=(W.fe.filter fun f=>f.1 == s).length:=by rw[fps_is,zC,← fzs_fst,zC]
 have lz:(W.fps s).length=(W.fzs s).length:=by rw[fps_is,zC]
 have hlt:∀ i ∈ is,i < (W.fzs s).length:=fun i hi=>by
  have:=hp.mem_iff.mp hi
  rw[yC,lz] at this
  exact this
 have gf:∀ i,i < (W.fzs s).length→∃ p,(W.fzs s)[i]?=some p∧(W.fps s).getD i (0,0)=(p.1.2.1,(p.2:Int))∧(W.fe.filter fun f=>f.1 == s).getD i (0,0,0)=p.1:=fun i hi=>by
  refine⟨(W.fzs s)[i],zB hi,?_,?_⟩
  ·rw[fps_is,zA,zE,zB hi]; rfl
  ·rw[← fzs_fst,zA,zE,zB hi]; rfl
 have hw2:is.Pairwise (fun i j=>((W.fe.filter fun f=>f.1 == s).map fun(f:Tri)=>f.2.1).getD i 0 < ((W.fe.filter fun f=>f.1 == s).map fun(f:Tri)=>f.2.1).getD j 0∨(((W.fe.filter fun f=>f.1 == s).map fun(f:Tri)=>f.2.1).getD i 0=((W.fe.filter fun f=>f.1 == s).map fun(f:Tri)=>f.2.1).getD j 0∧i < j)):=by
  refine List.Pairwise.imp_of_mem (fun {i j} hi hj h=>?_) hw
  have li:=hlt i hi
  have lj:=hlt j hj
  obtain⟨p,ep,e1,e2⟩:=gf i li
  obtain⟨q,eq,e3,e4⟩:=gf j lj
  have gk:∀ k r,(W.fe.filter fun f=>f.1 == s).getD k (0,0,0)=r→k < (W.fzs s).length→((W.fe.filter fun f=>f.1 == s).map fun(f:Tri)=>f.2.1).getD k 0=r.2.1:=fun k r e hk=>by
   rw[zA,zE]
   rw[zA] at e
   have hk2:k < (W.fe.filter fun f=>f.1 == s).length:=by omega
   rw[zB hk2] at e ⊢
   rw[← e]; rfl
  rw[gk i _ e2 li,gk j _ e4 lj]
  have inc:=fzs_inc W s
  have ii:(p.2 < q.2→i < j):=fun hlt'=>by
   rcases Nat.lt_trichotomy i j with z|z|z
   ·exact z
   ·subst z; rw[ep] at eq; cases eq; omega
   ·have:=qO.mp inc j i lj li z
    rw[zB li] at ep
    rw[zB lj] at eq
    cases ep; cases eq
    omega
  rcases h with h|⟨h,hij⟩
  ·have lr:=rank_lt (ps:=W.fps s) (i:=i) (j:=j) (by omega)
   rw[decide_eq_true h,e1,e3] at lr
   have:=(pLt_iff _ _).mp lr.symm
   dsimp only at this
   rcases this with z|⟨z,y⟩
   ·exact .inl z
   ·exact .inr ⟨z,ii (by omega)⟩
  ·have lr:=rank_lt (ps:=W.fps s) (i:=i) (j:=j) (by omega)
   have lr2:=rank_lt (ps:=W.fps s) (i:=j) (j:=i) (by omega)
   rw[decide_eq_false (by omega),e1,e3] at lr
   rw[decide_eq_false (by omega),e1,e3] at lr2
   have n1:¬ _:=fun z=>by have:=(pLt_iff (p.1.2.1,(p.2:Int)) (q.1.2.1,(q.2:Int))).mpr z; rw[← lr] at this; cases this
   have n2:¬ _:=fun z=>by have:=(pLt_iff (q.1.2.1,(q.2:Int)) (p.1.2.1,(p.2:Int))).mpr z; rw[← lr2] at this; cases this
   dsimp only at n1 n2
   exact .inr ⟨by omega,hij⟩
 have hd:=drs_of ok (s:=s) (by rw[← el]; exact hp) hw2
 unfold Wk.de Wk.dr
 rw[← hd,qM,qM,qM]
 refine jJ fun i hi=>?_
 obtain⟨p,ep,e1,e2⟩:=gf i (hlt i hi)
 have hm:=fzs_at (zG ep)
 show kOf W ((W.fps s).getD i (0,0))=((prOf ((W.fe.filter fun f=>f.1 == s).getD i (0,0,0))).1,-1,(prOf ((W.fe.filter fun f=>f.1 == s).getD i (0,0,0))).2)
 rw[e1,e2]
 unfold kOf prOf
 rw[z5,zA,hm]
 rfl
end Oc
namespace Oc
open PySem L2
open Classical in
theorem hc_cnt {H:Hp} {A B:List (List Cell)} (h:Hc H A) (p:∀ c,A.flatten.count c=B.flatten.count c):Hc H B:=Hs.perm h (List.perm_iff_count.mpr p)
theorem IsTri.keepD {H:Hp} {rd:Addr} {kv:List (List Key × V)} {o:HO} (e:H rd=some (.dT kv)) {x:V} {t:Tri} (h:IsTri H x t):IsTri (upd H rd o) x t:=by
 obtain⟨p,rfl,q⟩:=h
 exact⟨p,rfl,by rw[upd_ne (ne_of q e (by intro z; cases z))]; exact q⟩
def dKvs (da:List Addr) (n:Nat):List (List Key × V):=(List.range n).map fun s:Nat=>(keyK (s:Int) (-1),V.ref (da.getD s 0))
def bKvs (W:Wk) (ra:List Addr) (n:Nat):List (List Key × V):=(List.range n).map fun b:Nat=>(keyK (W.be.getD b (0,0,0)).2.1 (b:Int),V.ref (ra.getD b 0))
theorem getD_snoc {l:List Addr} {a:Addr} {i:Nat} (h:i < l.length):(l++[a]).getD i 0=l.getD i 0:=by rw[zA,yK h,← zA]
theorem getD_last {l:List Addr} {a:Addr}:(l++[a]).getD l.length 0=a:=by rw[zA,zZ (zH _),j4]; rfl
theorem dKvs_snoc {da:List Addr} {a:Addr}:dKvs (da++[a]) (da.length + 1)=dKvs da da.length++[(keyK (da.length:Int) (-1),V.ref a)]:=by
 unfold dKvs
 rw[jA,zJ]
 congr 1
 ·refine jJ fun s hs=>?_
  rw[getD_snoc (yC.mp hs)]
 ·show [(_,V.ref ((da++[a]).getD da.length 0))]=_
  rw[getD_last]
theorem bKvs_snoc {W:Wk} {ra:List Addr} {a:Addr}:bKvs W (ra++[a]) (ra.length + 1)=bKvs W ra ra.length++[(keyK (W.be.getD ra.length (0,0,0)).2.1 (ra.length:Int),V.ref a)]:=by
 unfold bKvs
 rw[jA,zJ]
 congr 1
 ·refine jJ fun s hs=>?_
  rw[getD_snoc (yC.mp hs)]
 ·show [(_,V.ref ((ra++[a]).getD ra.length 0))]=_
  rw[getD_last]
theorem val_none {κ:Type} [DecidableEq κ] {l:List (κ × V)} {x:κ} (h:∀ p ∈ l,p.1 ≠ x):valV l x=none:=by
 unfold valV
 rw[List.find?_eq_none.mpr fun p hp z=>h p hp (of_decide_eq_true z)]
 rfl
theorem dKvs_ne {da:List Addr} {n m:Nat} (h:n≤m):∀ p ∈ dKvs da n,p.1 ≠ keyK (m:Int) (-1):=fun p hp z=>by
 obtain⟨s,hs,rfl⟩:=yB.mp hp
 unfold keyK at z
 injection z with z _
 injection z with z
 have:=yC.mp hs
 omega
theorem dKvs_ne2 {da:List Addr} {n m:Nat} {x:Int}:∀ p ∈ dKvs da n,p.1 ≠ keyK x (m:Int):=fun p hp z=>by
 obtain⟨s,hs,rfl⟩:=yB.mp hp
 unfold keyK at z
 injection z with _ z
 injection z with z _
 injection z with z
 omega
theorem bKvs_ne {W:Wk} {ra:List Addr} {n m:Nat} {x:Int} (h:n≤m):∀ p ∈ bKvs W ra n,p.1 ≠ keyK x (m:Int):=fun p hp z=>by
 obtain⟨s,hs,rfl⟩:=yB.mp hp
 unfold keyK at z
 injection z with _ z
 injection z with z _
 injection z with z
 have:=yC.mp hs
 omega
structure BegF (W:Wk) (H:Hp) (o:OR):Prop where
 ld:o.da.length=W.st.length
 ldv:o.dv.length=W.st.length
 lr:o.ra.length=W.be.length
 lrv:o.rv.length=W.be.length
 lg:o.ga.length=W.st.length
 lgv:o.gv.length=W.st.length
 pr:o.pr=W.prs
 ev:Evs H o W.des (W.be.map fun _=>[]) (W.st.map fun _=>[])
inductive DoorP (W:Wk) (D:Addr) (H:Hp) (a:Addr) (s:Nat):Prop where
 | mk (us:List V) (ps:List (Int × Int)) (h_0:a ≠ D) (h_1:us.length≤60) (h_2:H a=some (.lst us)) (h_3:Paired (IsPr H) us ps) (h_4:ps.map (kOf W)=W.de (s:Int)) (h_5:∀ p ∈ ps,∃ k:Nat,p.2=(k:Int)∧k < W.fe.length):DoorP W D H a s
theorem DoorP.same {W:Wk} {D:Addr} {H H':Hp} {a:Addr} {s:Nat} (h:DoorP W D H a s) (k:Same H H'):DoorP W D H' a s:=by
 obtain⟨us,ps,n,l,e,r,x,y⟩:=h
 exact⟨us,ps,n,l,k _ _ e,pairedMono (fun _ _ h=>IsPr.same k h) r,x,y⟩
theorem DoorP.put {W:Wk} {D:Addr} {H:Hp} {a:Addr} {s:Nat} {xs ys:List V} (h:DoorP W D H a s) (e:H D=some (.lst xs)):DoorP W D (upd H D (.lst ys)) a s:=by
 obtain⟨us,ps,n,l,e',r,x,y⟩:=h
 exact⟨us,ps,n,l,by rw[upd_ne n]; exact e',pairedMono (fun _ _ h=>IsPr.keep e h) r,x,y⟩
inductive spBeg (vs:List V) (H:Hp) (Q:VK) (x_3:XK):Prop where
 | mk (w:Addr) (W:Wk) (M:List (List Cell)) (h_0:vs=[.ref w]) (h_1:WkAt H w W) (h_2:W.Ok) (h_3:Hc H M) (h_4:∀(o:OR) (H':Hp),Same H H'→Hc H' (hdH W o::liC o.da o.dv::liC o.ra o.rv::liC o.ga o.gv::M)→BegF W H' o→Q (.ref o.x) H'):spBeg vs H Q x_3
section
variable {P:Program} {w:World} {K:PySem.W.Frag} {mg:Str→Option Value} {base:Heap} {cs:Cs} {C:Addr}
theorem sc_beg:FnScope ["works","many","doors","rows","station","belt"] ["works"] (defScope (top 22)):=⟨rfl,rfl,rfl,by decide +kernel,rfl,by decide +kernel,by decide +kernel⟩
theorem ok_beg {f:Addr} {fd:FuncData} (F:Fun K "_law_begun" "_law_begun" (top 22) f fd) (T:Txt K mg):FnOk P w K mg base CX0 1 f fd ["works"] spBeg:=by
 have nd:=sc_beg.nd
 refine F.ok sc_beg (fun vs H Q E h=>?_) (fun cdv A outer s H vs Q E hr h=>?_)
 ·obtain⟨w,W,M,rfl,_⟩:=h
  rfl
 ·obtain⟨w,W,M,rfl,hw,ok,hc,q⟩:=h
  have hu:=hu_of hr
  have b12:=ok.b12
  have s8:=ok.s8
  have f60:=ok.f60
  obtain⟨sa,ba,fa,xs,ys,zs,h1,h2⟩:=hw.ex
  have ls:=h2.ps.length
  have lb:=h2.pb.length
  have lf:=h2.pf.length
  refine⟨_,(@pss_cons _ _ _ _ _ (ps_set (i:=1) nd rfl (by nofun) (pe_callTy (call_list_rng rfl) (by rfl) T.n_list bt_list (@pa_cons _ _ _ _ _ (pe_range1 (by rfl) T.n_range (@pa_cons _ _ _ _ _ (pe_callB (call_len_seqK (K:=K) rfl) (by rfl) T.n_len bt_len (@pa_cons _ _ _ _ _ (@pe_ix _ _ _ _ _ _ _ (ix_tupK (K:=K) rfl) (pv 0) pe_int (fun _ _=>rfl)) pa_nil (by rfl))) pa_nil (by rfl))) pa_nil (by rfl))))
   (@pss_cons _ _ _ _ _ (ps_setCV (i:=2) nd rfl (Or.inl rfl) rfl (x0:="station") (own:=["station"]) (fr:=["works"]) (js:=[0]) ⟨rfl,rfl,fun _=>rfl,fun _=>rfl,by decide +kernel,by repeat (first|exact Each.nil|refine Each.cons rfl ?_),rfl,by repeat (first|exact Each.nil|refine Each.cons rfl ?_),by repeat (first|exact Paired.nil|refine Paired.cons ⟨⟨rfl,by first|exact Or.inl rfl|exact Or.inr rfl,by first|exact Or.inl rfl|exact Or.inr rfl⟩,rfl⟩ ?_),rfl⟩ (pi_listK (K:=K) rfl (pv 1)) (fun _ _ _ _ _=>(pg_name (i:=0) (show List.Nodup (["station","works"]:List Str) from by decide +kernel) rfl (by nofun))) (fun _ _ _ _ _=>pts_nil) (fun _ _ _ _ _=>(by exact(pe_callB (call_srtPK (K:=K) rfl) (by rfl) T.n_sorted bt_sorted (@pa_cons _ _ _ _ _ (by exact(pe_comp (own:=["k","feed"]) (fr:=["station"]) (js:=[0]) (by and_intros) (pi_enumK (K:=K) rfl rfl T.n_enumerate (@pa_cons _ _ _ _ _ (@pe_ix _ _ _ _ _ _ _ (ix_tupK (K:=K) rfl) (pv 1) pe_int (fun _ _=>rfl)) pa_nil (by rfl))) (fun _ _ _ _=>(pg_tupK (K:=K) (n:=2) rfl rfl (pgs_cons (pg_name (i:=0) (show List.Nodup (["k","feed","station"]:List Str) from by decide +kernel) rfl (by nofun)) (pgs_cons (pg_name (i:=1) (show List.Nodup (["k","feed","station"]:List Str) from by decide +kernel) rfl (by nofun)) pgs_nil)))) (fun _ _ _ _=>(pts_one (pt_cmpR op_eq (@pe_ix _ _ _ _ _ _ _ (ix_tupK (K:=K) rfl) (pv 1) pe_int (fun _ _=>rfl)) (pv 2) (nomark _)))) (fun _ _ _ _=>(@pe_tup _ _ _ _ _ (@pa_cons _ _ _ _ _ (@pe_ix _ _ _ _ _ _ _ (ix_tupK (K:=K) rfl) (pv 1) pe_int (fun _ _=>rfl)) (@pa_cons _ _ _ _ _ (pv 0) pa_nil (by rfl)) (by rfl)))))) pa_nil (by rfl))))))
   (@pss_cons _ _ _ _ _ (ps_set (i:=3) nd rfl (by nofun) pe_dnewT)
   (@pss_cons _ _ _ _ _ (ps_for PassesOwn.never rfl (pi_listK (K:=K) rfl (pv 1)) (pg_name (i:=4) nd rfl (by nofun)) (@pss_one _ _ _ (ps_dput hu (pv 3) (@pe_tup _ _ _ _ _ (@pa_cons _ _ _ _ _ (pv 4) (@pa_cons _ _ _ _ _ (pe_un un_neg pe_int) pa_nil (by rfl)) (by rfl))) (pe_comp (own:=["time","k"]) (fr:=["works"]) (js:=[0]) (by and_intros) (pi_listK (K:=K) rfl (@pe_ix _ _ _ _ _ _ _ (ix_listK (K:=K) rfl) (pv 2) (pv 4) (fun _ _=>rfl))) (fun _ _ _ _=>(pg_tupK (K:=K) (n:=2) rfl rfl (pgs_cons (pg_name (i:=0) (show List.Nodup (["time","k","works"]:List Str) from by decide +kernel) rfl (by nofun)) (pgs_cons (pg_name (i:=1) (show List.Nodup (["time","k","works"]:List Str) from by decide +kernel) rfl (by nofun)) pgs_nil)))) (fun _ _ _ _=>pts_nil) (fun _ _ _ _=>(@pe_tup _ _ _ _ _ (@pa_cons _ _ _ _ _ (pv 0) (@pa_cons _ _ _ _ _ (pe_un un_neg pe_int) (@pa_cons _ _ _ _ _ (@pe_ix _ _ _ _ _ _ _ (ix_tupK (K:=K) rfl) (@pe_ix _ _ _ _ _ _ _ (ix_listK (K:=K) rfl) (@pe_ix _ _ _ _ _ _ _ (ix_tupK (K:=K) rfl) (pv 2) pe_int (fun _ _=>rfl)) (pv 1) (fun _ _=>rfl)) pe_int (fun _ _=>rfl)) pa_nil (by rfl)) (by rfl)) (by rfl))))) rfl)))
   (@pss_cons _ _ _ _ _ (ps_for PassesOwn.never rfl (pi_range1 rfl T.n_range (@pa_cons _ _ _ _ _ (pe_callB (call_len_seqK (K:=K) rfl) (by rfl) T.n_len bt_len (@pa_cons _ _ _ _ _ (@pe_ix _ _ _ _ _ _ _ (ix_tupK (K:=K) rfl) (pv 0) pe_int (fun _ _=>rfl)) pa_nil (by rfl))) pa_nil (by rfl))) (pg_name (i:=5) nd rfl (by nofun)) (@pss_one _ _ _ (ps_dput hu (pv 3) (@pe_tup _ _ _ _ _ (@pa_cons _ _ _ _ _ (@pe_ix _ _ _ _ _ _ _ (ix_tupK (K:=K) rfl) (@pe_ix _ _ _ _ _ _ _ (ix_listK (K:=K) rfl) (@pe_ix _ _ _ _ _ _ _ (ix_tupK (K:=K) rfl) (pv 0) pe_int (fun _ _=>rfl)) (pv 5) (fun _ _=>rfl)) pe_int (fun _ _=>rfl)) (@pa_cons _ _ _ _ _ (pv 5) pa_nil (by rfl)) (by rfl))) (@pe_lst _ _ _ _ pa_nil) rfl)))
   (@pss_one _ _ _ (@ps_ret _ _ _ _ (@pe_tup _ _ _ _ _ (@pa_cons _ _ _ _ _ (pv 3) (@pa_cons _ _ _ _ _ (pe_comp (own:=["belt"]) (fr:=[]) (js:=[]) (by and_intros) (pi_listK (K:=K) rfl (@pe_ix _ _ _ _ _ _ _ (ix_tupK (K:=K) rfl) (pv 0) pe_int (fun _ _=>rfl))) (fun _ _ _ _=>(pg_name (i:=0) (show List.Nodup (["belt"]:List Str) from by decide +kernel) rfl (by nofun))) (fun _ _ _ _=>pts_nil) (fun _ _ _ _=>(@pe_ix _ _ _ _ _ _ _ (ix_tupK (K:=K) rfl) (pv 0) pe_int (fun _ _=>rfl)))) (@pa_cons _ _ _ _ _ (pe_comp (own:=["station"]) (fr:=[]) (js:=[]) (by and_intros) (pi_listK (K:=K) rfl (pv 1)) (fun _ _ _ _=>(pg_name (i:=0) (show List.Nodup (["station"]:List Str) from by decide +kernel) rfl (by nofun))) (fun _ _ _ _=>pts_nil) (fun _ _ _ _=>(@pe_lst _ _ _ _ pa_nil))) pa_nil (by rfl)) (by rfl)) (by rfl)))))))))),?_⟩
  refine⟨_,rfl,⟨_,_,_,_,rfl,rfl,SqT.of h1,atI_nat (j:=0) rfl,sa,_,rfl,.inl (SqL.of h2.hs),_,rfl,fun rg nrg=>⟨rg,xs.length,rfl,upd_same,by omega,fun mn nmn=>?_⟩⟩⟩
  have s1:Same H (upd (upd H rg (.rng 0 ((xs.length:Nat):Int))) mn (.lst ((List.range xs.length).map fun(i:Nat)=>V.int (i:Int)))):=(Same.new nrg).trans (Same.new nmn)
  have gm:(upd (upd H rg (.rng 0 ((xs.length:Nat):Int))) mn (.lst ((List.range xs.length).map fun(i:Nat)=>V.int (i:Int)))) mn=some (.lst ((List.range xs.length).map fun(i:Nat)=>V.int (i:Int))):=upd_same
  generalize (upd (upd H rg (.rng 0 ((xs.length:Nat):Int))) mn (.lst ((List.range xs.length).map fun(i:Nat)=>V.int (i:Int))))=H2 at s1 gm ⊢
  rw[ls] at gm
  refine⟨_,rfl,mn,rfl,⟨_,SqL.of gm⟩,fun D nD=>?_⟩
  refine comp_list (a:=mn) (xs:=(List.range W.st.length).map fun(i:Nat)=>V.int (i:Int)) (fun i H5=>Same H2 H5∧∃ ds:List Addr,H5 D=some (.lst (ds.map V.ref))∧ds.length=i∧∀ j a,ds[j]?=some a→DoorP W D H5 a j) ⟨Same.new nD,[],upd_same,rfl,fun j a h=>nil_at h⟩ (fun i H5 _ p=>SqL.of (p.1 _ _ gm)) ?_ ?_
  ·rintro i x H5 m' Wf hx ⟨s5,ds,g5,l5,all⟩ nx
   rw[zE] at hx
   obtain⟨i',hi',rfl⟩:=yO.mp hx
   have hi:=(zD.mp hi').1
   rw[z9] at hi
   rw[qL hi] at hi'
   cases hi'
   have S5:=s1.trans s5
   refine⟨_,rfl,⟨_,_,_,_,rfl,rfl,SqT.of (S5 _ _ h1),atI_nat (j:=2) rfl,fa,rfl,⟨_,SqL.of (S5 _ _ h2.hf)⟩,fun D2 nD2=>?_⟩⟩
   refine comp_enum (a:=fa) (xs:=zs) (fun i' H7=>Same H5 H7∧∃ us:List V,H7 D2=some (.lst us)∧us.length≤i'∧Paired (IsPr H7) us ((W.fe.zipIdx.take i').filterMap fun p=>if p.1.1=(i:Int) then some (p.1.2.1,(p.2:Int)) else none)) ⟨Same.new nD2,[],upd_same,zH _,.nil⟩ (fun i' H7 _ p=>SqL.of (p.1 _ _ (S5 _ _ h2.hf))) ?_ ?_
   ·rintro i' x' H7 m2 Wf2 hx' ⟨s7,us,g7,l7,p7⟩ nx' pp np
    obtain⟨t,ht,a0,rfl,ha⟩:=h2.pf.gt hx'
    have hi2:=(zD.mp ht).1
    have s8':Same H7 (upd H7 pp (.tup [.int i',.ref a0])):=Same.new np
    have g8':(upd H7 pp (.tup [.int i',.ref a0])) pp=some (.tup [.int i',.ref a0]):=upd_same
    generalize (upd H7 pp (.tup [.int i',.ref a0]))=H8 at s8' g8' ⊢
    have S8:=S5.trans (s7.trans s8')
    refine⟨pp,_,rfl,SqT.of g8',rfl,_,_,rfl,_,_,rfl,rfl,?_⟩
    refine⟨_,rfl,⟨_,_,_,_,rfl,rfl,SqT.of (S8 _ _ ha),(atI_nat (j:=0) rfl),_,rfl,rfl,_,rfl,?_⟩⟩
    have ef:=fps_take (s:=(i:Int)) ht
    have et:decide (V.int t.1=V.int (i:Int))=(t.1 == (i:Int)):=dec_int
    refine iteB (fun hb=>?_) (fun hb=>?_)
    ·rw[et] at hb
     have ei:t.1=(i:Int):=by simpa using hb
     rw[if_pos ei] at ef
     refine⟨_,rfl,⟨_,_,_,_,rfl,rfl,SqT.of (S8 _ _ ha),(atI_nat (j:=1) rfl),_,rfl,(by show 2≤sizeLine; decide),fun pn nn=>?_⟩⟩
     have s9:Same H8 (upd H8 pn (.tup [.int t.2.1,.int (i':Int)])):=Same.new nn
     have g9:(upd H8 pn (.tup [.int t.2.1,.int (i':Int)])) pn=some (.tup [.int t.2.1,.int (i':Int)]):=upd_same
     have gD2:(upd H8 pn (.tup [.int t.2.1,.int (i':Int)])) D2=some (.lst us):=s9 _ _ (s8' _ _ g7)
     refine⟨_,gD2,small1000 (by omega),nx' _ ⟨(s7.trans (s8'.trans s9)).upd nD2,us++[.ref pn],upd_same,by rw[zN]; show _ + 1≤_; omega,?_⟩⟩
     rw[ef]
     exact paired_app (pairedMono (fun _ _ h=>(IsPr.same (s8'.trans s9) h).keep gD2) p7) (.cons (IsPr.keep gD2 ⟨pn,rfl,g9⟩) .nil)
    ·rw[et] at hb
     have ei:¬ t.1=(i:Int):=by simpa using hb
     rw[if_neg ei,yD] at ef
     refine nx' _ ⟨s7.trans s8',us,s8' _ _ g7,by omega,?_⟩
     rw[ef]
     exact pairedMono (fun _ _ h=>IsPr.same s8' h) p7
   ·rintro H7 ⟨s7,us,g7,l7,p7⟩
    have ez:W.fe.zipIdx.take zs.length=W.fe.zipIdx:=q5 (by rw[List.length_zipIdx]; omega)
    rw[ez] at p7
    replace p7:Paired (IsPr H7) us (W.fps (i:Int)):=p7
    have lp7:=p7.length
    refine⟨D2,us,W.fps (i:Int),rfl,SqL.of g7,lp7,fun j v hv=>?_,by omega,fun l out nl rk=>?_⟩
    ·obtain⟨p,hp,pa,rfl,hpa⟩:=p7.gt hv
     refine⟨pa,rfl,?_⟩
     rw[zA,hp]
     exact hpa
    ·have s8':Same H7 (upd H7 l (.lst out)):=Same.new nl
     have g8':(upd H7 l (.lst out)) l=some (.lst out):=upd_same
     have gD8:(upd H7 l (.lst out)) D=some (.lst (ds.map V.ref)):=s8' _ _ (s7 _ _ g5)
     have nlD:l ≠ D:=fun e=>by rw[e,s7 _ _ g5] at nl; cases nl
     obtain⟨is,hp,eo,hpw⟩:=rk
     have lt:∀ i ∈ is,i < us.length:=fun i hi=>yC.mp (hp.mem_iff.mp hi)
     have pk:=paired_pick (0,0) p7 is lt
     rw[← eo] at pk
     rw[lp7] at hp
     have lo60:out.length≤60:=by
      rw[eo,zC,hp.length_eq,z9]
      omega
     have dp:DoorP W D (upd H7 l (.lst out)) l i:=by
      refine⟨out,is.map fun j=>(W.fps (i:Int)).getD j (0,0),nlD,lo60,g8',?_,begun_de ok hp hpw,fun p hp'=>?_⟩
      ·exact pairedMono (fun _ _ h=>IsPr.same s8' h) pk
      ·obtain⟨j,hj,rfl⟩:=yB.mp hp'
       have hj2:=lt j hj
       have lz:(W.fps (i:Int)).length=(W.fzs (i:Int)).length:=by rw[fps_is,zC]
       have hj3:j < (W.fzs (i:Int)).length:=by omega
       refine⟨((W.fzs (i:Int))[j]).2,?_,?_⟩
       ·rw[fps_is,zA,zE,zB hj3]; rfl
       ·exact(zD.mp (fzs_at (qW hj3))).1
     refine⟨_,gD8,small1000 (by rw[zC]; omega),nx _ ⟨(s5.trans (s7.trans s8')).upd nD,ds++[l],by rw[upd_same,zJ]; rfl,by rw[zN,l5]; rfl,?_⟩⟩
     refine getAll_snoc (fun j a h=>((all j a h).same (s7.trans s8')).put gD8) ?_
     rw[l5]
     exact dp.put gD8
  ·rintro H5 ⟨s5,ds,g5,l5,all⟩
   rw[zC,z9] at l5
   have S5:=s1.trans s5
   have gm5:=s5 _ _ gm
   refine fun rd nrd=>?_
   refine⟨_,rfl,mn,rfl,⟨_,SqL.of (Same.new nrd _ _ gm5)⟩,for_list (K:=K) (a:=mn) (xs:=(List.range W.st.length).map fun(i:Nat)=>V.int (i:Int)) (fun i σ H6=>∃(v4:Option V) (da:List Addr) (dv:List (List V)),σ=[some (.ref w),some (.ref mn),some (.ref D),some (.ref rd),v4,none]∧Same H5 H6∧Hc H6 ([(rd,.dT (dKvs da i))]::liC da dv::M)∧da.length=i∧dv.length=i∧Paired (fun us ts=>Paired (IsTri H6) us ts) dv ((List.range i).map fun(s:Nat)=>W.de (s:Int)))
    ⟨_,[],[],rfl,Same.new nrd,((hc.same S5).new nrd (.dT [])).pad.swap,rfl,rfl,.nil⟩ (fun i σ H6 _ ⟨_,_,_,_,s6,_⟩=>SqL.of (s6 _ _ gm5)) ?_ ?_⟩
   ·rintro i x σ H6 hx ⟨v4,da,dv,rfl,s6,hc6,la,lv,pr⟩
    rw[zE] at hx
    obtain⟨i',hi',rfl⟩:=yO.mp hx
    have hi:=(zD.mp hi').1
    rw[z9] at hi
    rw[qL hi] at hi'
    cases hi'
    have S6:=S5.trans s6
    obtain⟨dj,hdj⟩:∃ dj,ds[i]?=some dj:=⟨ds[i]'(by omega),zB _⟩
    obtain⟨us,ps,ndj,lu60,gdj,pps,eps,vps⟩:=all i dj hdj
    have lps:=pps.length
    have l60:ps.length≤60:=by omega
    refine⟨_,rfl,_,rfl,⟨_,_,_,_,rfl,rfl,SqL.of (s6 _ _ g5),atI_nat (refs_at hdj),dj,rfl,⟨_,SqL.of (s6 _ _ gdj)⟩,fun D3 nD3=>?_⟩⟩
    refine comp_list (a:=dj) (xs:=us) (fun i' H7=>Same H6 H7∧∃ vs:List V,H7 D3=some (.lst vs)∧Paired (IsTri H7) vs ((ps.take i').map (kOf W))) ⟨Same.new nD3,[],upd_same,.nil⟩ (fun i' H7 _ p=>SqL.of (p.1 _ _ (s6 _ _ gdj))) ?_ ?_
    ·rintro i' x' H7 m2 Wf2 hx' ⟨s7,vs,g7,p7⟩ nx'
     obtain⟨p,hp,pa,rfl,hpa⟩:=pps.gt hx'
     have hi2:=(zD.mp hp).1
     have l7:=p7.length
     rw[zC,zU] at l7
     obtain⟨kn,ekn,hkn⟩:=vps p (zG hp)
     obtain⟨t,ht⟩:∃ t,W.fe[kn]?=some t:=⟨W.fe[kn],zB hkn⟩
     obtain⟨yb,hyb,a0,rfl,ha0⟩:=pair_r h2.pf ht
     have S7:=S6.trans s7
     have ek:kOf W p=(p.1,-1,t.2.2):=by unfold kOf; rw[ekn,z5,zA,ht]; rfl
     refine⟨pa,_,rfl,SqT.of (s7 _ _ (s6 _ _ hpa)),rfl,_,_,rfl,_,_,rfl,rfl,?_⟩
     refine⟨_,rfl,_,rfl,⟨_,rfl,⟨_,_,_,_,rfl,rfl,SqT.of (S7 _ _ h1),atI_nat (j:=2) rfl,_,rfl,⟨_,_,_,_,rfl,rfl,SqL.of (S7 _ _ h2.hf),(by rw[ekn]; exact atI_nat hyb),⟨_,_,_,_,rfl,rfl,SqT.of (S7 _ _ ha0),atI_nat (j:=2) rfl,(by show 3≤sizeLine; decide),fun pn nn=>?_⟩⟩⟩⟩⟩
     have s8':Same H7 (upd H7 pn (.tup (triV (p.1,-1,t.2.2)))):=Same.new nn
     have g8':(upd H7 pn (.tup (triV (p.1,-1,t.2.2)))) pn=some (.tup (triV (p.1,-1,t.2.2))):=upd_same
     have gD3:(upd H7 pn (.tup (triV (p.1,-1,t.2.2)))) D3=some (.lst vs):=s8' _ _ g7
     refine⟨_,gD3,small1000 (by omega),nx' _ ⟨(s7.trans s8').upd nD3,vs++[.ref pn],upd_same,?_⟩⟩
     rw[take_1 hp,zJ,yJ,jM,ek]
     exact paired_app (pairedMono (fun _ _ h=>(IsTri.same s8' h).keep gD3) p7) (.cons (IsTri.keep gD3 ⟨pn,rfl,g8'⟩) .nil)
    ·rintro H7 ⟨s7,vs,g7,p7⟩
     rw[lps,zX,eps] at p7
     have hc7:=hc6.newS nD3 g7 s7
     refine⟨_,rfl,_,rfl,_,rfl,(by show 2≤sizeLine; decide),fun b nb=>?_⟩
     have s8':Same H7 (upd H7 b (.tup [.int (i:Int),.int (-1)])):=Same.new nb
     have g8':(upd H7 b (.tup [.int (i:Int),.int (-1)])) b=some (.tup [.int (i:Int),.int (-1)]):=upd_same
     have hc8:=hc7.same s8'
     change sDPut_ _ _ _ _ _ (upd H7 b (.tup [.int (i:Int),.int (-1)]))
     generalize (upd H7 b (.tup [.int (i:Int),.int (-1)]))=H8 at s8' g8' hc8 ⊢
     have grd:=hc8.get 1 0 rfl rfl
     refine⟨rd,_,rfl,DPut.t (k:=keyK (i:Int) (-1)) grd g8' (small1000 (by unfold dKvs; rw[zC,z9]; omega)),?_⟩
     have e1:putK (dKvs da i) (keyK (i:Int) (-1)) (V.ref D3)=dKvs (da++[D3]) (i + 1):=by
      rw[putK_new _ (val_none (dKvs_ne (zH i))),← la,dKvs_snoc]
     rw[e1]
     have hc9:=hc8.put 1 0 rfl rfl (.dT (dKvs (da++[D3]) (i + 1)))
     have nrd5:H5 rd=none:=nrd
     refine⟨_,da++[D3],dv++[vs],rfl,(s6.trans (s7.trans s8')).upd nrd5,?_,by rw[zN,la]; rfl,by rw[zN,lv]; rfl,?_⟩
     ·rw[liC_snoc (by omega)]
      exact(Hc.join (hc9.pick 2 rfl)).swap
     ·rw[jA,zJ]
      have f78:∀ x t,IsTri H7 x t→IsTri (upd H8 rd (.dT (dKvs (da++[D3]) (i + 1)))) x t:=fun x t h=>(IsTri.same s8' h).keepD grd
      exact paired_app (pairedMono (fun _ _ h=>pairedMono (fun _ _ h=>f78 _ _ (IsTri.same s7 h)) h) pr) (.cons (pairedMono (fun _ _ h=>f78 _ _ h) p7) .nil)
   ·rintro σ H6 ⟨v4,da,dv,rfl,s6,hc6,la,lv,pr⟩
    rw[zC,z9] at hc6 la lv pr
    have S6:=S5.trans s6
    refine⟨_,rfl,⟨_,_,_,_,rfl,rfl,SqT.of (S6 _ _ h1),atI_nat (j:=1) rfl,ba,_,rfl,.inl (SqL.of (S6 _ _ h2.hb)),_,rfl,by rw[p62]; omega,by rw[p62]; omega,for_range (n:=((ys.length:Nat):Int).toNat) (fun i σ H7=>∃(v5:Option V) (ra:List Addr),σ=[some (.ref w),some (.ref mn),some (.ref D),some (.ref rd),v4,v5]∧Same H5 H7∧Hc H7 ([(rd,.dT (dKvs da W.st.length++bKvs W ra i))]::liC ra (ra.map fun _=>[])::liC da dv::M)∧ra.length=i∧Paired (fun us ts=>Paired (IsTri H7) us ts) dv ((List.range W.st.length).map fun(s:Nat)=>W.de (s:Int)))
     ⟨_,[],rfl,s6,(by
      have e:dKvs da W.st.length++bKvs W [] 0=dKvs da W.st.length:=yD _
      rw[e]
      exact hc6.pad.swap),rfl,pr⟩ ?_ ?_⟩⟩
    ·rintro i σ H7 hi ⟨v5,ra,rfl,s7,hc7,lra,pr7⟩
     have ez:(0:Int) + (i:Int)=(i:Int):=qD _
     rw[ez]
     have hil:i < W.be.length:=by omega
     obtain⟨bt,hbt⟩:∃ bt,W.be[i]?=some bt:=⟨W.be[i],zB hil⟩
     obtain⟨yb,hyb,a0,rfl,ha0⟩:=pair_r h2.pb hbt
     have S7:=S5.trans s7
     refine⟨zW _,fun pn npn=>?_⟩
     have t8:Same H7 (upd H7 pn (.lst [])):=Same.new npn
     have hc8:=hc7.new npn (.lst [])
     generalize (upd H7 pn (.lst []))=H8 at t8 hc8 ⊢
     have S8:=S7.trans t8
     refine⟨_,rfl,_,rfl,⟨_,_,_,_,rfl,rfl,SqT.of (S8 _ _ h1),atI_nat (j:=1) rfl,_,rfl,⟨_,_,_,_,rfl,rfl,SqL.of (S8 _ _ h2.hb),atI_nat hyb,⟨_,_,_,_,rfl,rfl,SqT.of (S8 _ _ ha0),atI_nat (j:=1) rfl,_,rfl,(by show 2≤sizeLine; decide),fun b nb=>?_⟩⟩⟩⟩
     have s9:Same H8 (upd H8 b (.tup [.int bt.2.1,.int (i:Int)])):=Same.new nb
     have g9:(upd H8 b (.tup [.int bt.2.1,.int (i:Int)])) b=some (.tup [.int bt.2.1,.int (i:Int)]):=upd_same
     have hc9:=hc8.same s9
     change sDPut_ _ _ _ _ _ (upd H8 b (.tup [.int bt.2.1,.int (i:Int)]))
     generalize (upd H8 b (.tup [.int bt.2.1,.int (i:Int)]))=H9 at s9 g9 hc9 ⊢
     have grd:=hc9.get 1 0 rfl rfl
     refine⟨rd,_,rfl,DPut.t (k:=keyK bt.2.1 (i:Int)) grd g9 (small1000 (by unfold dKvs bKvs; rw[zN,zC,z9,zC,z9]; omega)),?_⟩
     have ebt:(W.be.getD i (0,0,0)).2.1=bt.2.1:=by rw[zA,hbt]; rfl
     have e1:putK (dKvs da W.st.length++bKvs W ra i) (keyK bt.2.1 (i:Int)) (V.ref pn)=dKvs da W.st.length++bKvs W (ra++[pn]) (i + 1):=by
      rw[putK_new _ (val_none fun p hp=>by
       rcases yA.mp hp with z|z
       ·exact dKvs_ne2 p z
       ·exact bKvs_ne (zH i) p z),← lra,bKvs_snoc,lra,ebt,yL]
     rw[e1]
     have hc10:=hc9.put 1 0 rfl rfl (.dT (dKvs da W.st.length++bKvs W (ra++[pn]) (i + 1)))
     refine⟨_,ra++[pn],rfl,(s7.trans (t8.trans s9)).upd nrd,?_,by rw[zN,lra]; rfl,pairedMono (fun _ _ h=>pairedMono (fun _ _ h=>(IsTri.same (t8.trans s9) h).keepD grd) h) pr7⟩
     rw[zJ]
     have e:=liC_snoc (ls:=ra) (vs:=ra.map fun _=>[]) (by rw[zC]) pn []
     show Hc _ (_::liC (ra++[pn]) ((ra.map fun _=>[])++[[]])::_)
     rw[e]
     exact(Hc.join (hc10.pick 2 rfl)).swap
    ·rintro σ H7 ⟨v5,ra,rfl,s7,hc7,lra,pr7⟩
     have e8:((ys.length:Nat):Int).toNat=W.be.length:=by omega
     rw[e8] at hc7 lra
     have S7:=S5.trans s7
     refine⟨_,rfl,_,rfl,⟨_,_,_,_,rfl,rfl,SqT.of (S7 _ _ h1),atI_nat (j:=1) rfl,ba,rfl,⟨_,SqL.of (S7 _ _ h2.hb)⟩,fun D4 nD4=>?_⟩⟩
     refine comp_list (a:=ba) (xs:=ys) (fun i H8=>Same H7 H8∧H8 D4=some (.lst (((W.be.take i).map fun t=>some t.2.2).map pV))) ⟨Same.new nD4,upd_same⟩ (fun i H8 _ p=>SqL.of (p.1 _ _ (S7 _ _ h2.hb))) ?_ ?_
     ·rintro i x H8 m Wf hx ⟨s8',g8⟩ nx
      obtain⟨t,ht,a0,rfl,ha⟩:=h2.pb.gt hx
      refine⟨_,rfl,⟨_,_,_,_,rfl,rfl,SqT.of (s8' _ _ (S7 _ _ ha)),(atI_nat (j:=2) rfl),_,g8,small1000 (by rw[zC,zC,zU]; omega),nx _ ⟨s8'.upd nD4,?_⟩⟩⟩
      rw[upd_same,take_1 ht,zJ,zJ]
      rfl
     ·rintro H8 ⟨s8',g8⟩
      rw[lb,zX] at g8
      replace g8:H8 D4=some (.lst (W.prs.map pV)):=g8
      have hc8:=hc7.newS nD4 g8 s8'
      have gm8:=s8' _ _ (s7 _ _ gm5)
      refine⟨_,rfl,mn,rfl,⟨_,SqL.of gm8⟩,fun D6 nD6=>?_⟩
      refine comp_list (a:=mn) (xs:=(List.range W.st.length).map fun(i:Nat)=>V.int (i:Int)) (fun i H9=>∃ ga:List Addr,Same H8 H9∧Hc H9 ([(D6,.lst (ga.map V.ref))]::liC ga (ga.map fun _=>[])::[(D4,.lst (W.prs.map pV))]::[(rd,.dT (dKvs da W.st.length++bKvs W ra W.be.length))]::liC ra (ra.map fun _=>[])::liC da dv::M)∧ga.length=i)
       ⟨[],Same.new nD6,(hc8.new nD6 (.lst [])).pad.swap,rfl⟩ (fun i H9 _ ⟨_,s9,_⟩=>SqL.of (s9 _ _ gm8)) ?_ ?_
      ·rintro i x H9 m Wf hx ⟨ga,s9,hc9,l9⟩ nx
       have hi:=(zD.mp hx).1
       rw[zC,z9] at hi
       refine⟨zW _,fun pn npn=>?_⟩
       have hc10:=hc9.new npn (.lst [])
       have g10:=hc10.get 1 0 rfl rfl
       refine⟨_,g10,small1000 (by rw[zC]; omega),nx _ ⟨ga++[pn],(s9.trans (Same.new npn)).upd nD6,?_,by rw[zN,l9]; rfl⟩⟩
       have:=hc10.put 1 0 rfl rfl (.lst (ga.map V.ref++[.ref pn]))
       rw[zJ,zJ]
       have e:=liC_snoc (ls:=ga) (vs:=ga.map fun _=>[]) (by rw[zC]) pn []
       show Hc _ (_::liC (ga++[pn]) ((ga.map fun _=>[])++[[]])::_)
       rw[e]
       exact(Hc.join (this.pick 2 rfl)).swap
      ·rintro H9 ⟨ga,s9,hc9,l9⟩
       rw[zC,z9] at l9
       refine⟨(by show 3≤sizeLine; decide),fun xx nxx=>?_⟩
       have hc10:=hc9.new nxx (.tup [.ref rd,.ref D4,.ref D6])
       have s10:Same H9 (upd H9 xx (.tup [.ref rd,.ref D4,.ref D6])):=Same.new nxx
       have S:=(S7.trans (s8'.trans s9)).trans s10
       have s79:=(s8'.trans s9).trans s10
       refine q ⟨xx,0,0,0,0,rd,D4,D6,[],W.dels,da,ra,ga,dv,ra.map fun _=>[],ga.map fun _=>[],W.prs⟩ _ S (hc_cnt hc10 fun c=>?_) ⟨la,lv,lra,by show(ra.map _).length=_; rw[zC]; exact lra,l9,by show(ga.map _).length=_; rw[zC]; exact l9,rfl,?_⟩
       ·simp only [hdH,kvs,dKvs,bKvs,z7,qH,List.count_cons,List.count_nil]
        omega
       ·exact⟨pairedMono (fun _ _ h=>pairedMono (fun _ _ h=>IsTri.same s79 h) h) pr7,pairs_nil .nil lra,pairs_nil .nil l9⟩
end
end Oc
namespace Oc
open PySem L2
end Oc
namespace Oc
open PySem L2
theorem drs_sorted (W:Wk) (s:Int):(W.drs s).Pairwise fun a b=>a.2.1≤b.2.1:=by
 unfold Wk.drs
 refine kH.mpr ⟨fun t _=>?_,?_⟩
 ·refine List.pairwise_iff_forall_sublist.mpr fun {a b} h=>?_
  have ha:=(z6.mp (h.subset zL)).2
  have hb:=(z6.mp (h.subset (zI _ zL))).2
  rw[jR,beq_iff_eq,beq_iff_eq] at ha hb
  omega
 ·refine List.Pairwise.imp_of_mem (fun {i j} _ _ hij a ha b hb=>?_) q8
  have ha:=(z6.mp ha).2
  have hb:=(z6.mp hb).2
  rw[jR,beq_iff_eq,beq_iff_eq] at ha hb
  omega
theorem de_sorted (W:Wk) (s:Int):(W.de s).Pairwise fun a b=>a.1≤b.1:=by
 unfold Wk.de Wk.dr
 rw[qM]
 exact List.pairwise_map.mpr (drs_sorted W s)
theorem getD_nils {α:Type} (l:List α) (j:Nat):(l.map fun _=>([]:List Tri)).getD j []=[]:=by
 rw[zA,zE]
 cases l[j]? <;> rfl
theorem de_nn {W:Wk} (ok:W.Ok) (s:Int):∀ t ∈ W.de s,0≤t.1:=fun t ht=>by
 unfold Wk.de Wk.dr at ht
 rw[qM] at ht
 obtain⟨f,hf,rfl⟩:=yB.mp ht
 have:=(ok.fee f (Wk.drs_mem hf).1).2.2.1
 exact this
theorem des_at {W:Wk} (j:Nat):W.des.getD j []=[]∨W.des.getD j []=W.de (j:Int):=by
 unfold Wk.des
 rw[zA,zE]
 cases h:(List.range W.st.length)[j]? with
 | none=>exact .inl rfl
 | some k =>
  have:=zD.mp h
  obtain⟨_,e⟩:=this
  rw[List.getElem_range] at e
  subst e
  exact .inr rfl
theorem new_inv {W:Wk} (ok:W.Ok):Inv W W.oa:=by
 refine⟨by show((List.range _).map _).length=_; rw[zC,z9],fun s p hp=>?_,rfl,zC _,zC _,by show((List.range _).map _).length=_; rw[zC,z9],fun s=>?_,fun b=>?_,fun b t ht=>?_,fun b bt hb=>?_⟩
 ·have:((List.range W.st.length).map W.sp)[s]?=some p:=hp
  rw[zE] at this
  obtain⟨k,hk,e⟩:=yO.mp this
  have e2:=(zD.mp hk).2
  rw[List.getElem_range] at e2
  rw[← e,← e2]
  exact⟨rfl,rfl⟩
 ·show(W.des.getD s []).Pairwise _
  rcases des_at (W:=W) s with e|e
  ·rw[e]; exact .nil
  ·rw[e]; exact de_sorted W s
 ·show((W.be.map fun _=>([]:List Tri)).getD b []).Pairwise _
  rw[getD_nils]; exact .nil
 ·replace ht:t ∈ (W.be.map fun _=>([]:List Tri)).getD b []:=ht
  rw[getD_nils] at ht
  exact absurd ht zK
 ·have e1:W.oa.pr.getD b none=some bt.2.2:=by
   show(W.be.map fun t=>some t.2.2).getD b none=_
   rw[zA,zE,hb]; rfl
  rw[e1]
  have key:oLe (some 0) (W.oa.clk bt.1.toNat (W.wy bt.1)):=by
   refine le_min (f:=W.oa.e bt.1.toNat) fun w hw=>?_
   unfold OA.e
   cases ev:evAt W.oa.de W.oa.re bt.1.toNat w with
   | cons u r =>
    show(0:Int)≤u.1
    unfold evAt at ev
    split at ev
    ·replace ev:W.des.getD bt.1.toNat []=u::r:=ev
     rcases des_at (W:=W) bt.1.toNat with e|e
     ·rw[e] at ev; cases ev
     ·rw[e] at ev
      exact de_nn ok _ u (by rw[ev]; exact zL)
    ·replace ev:(W.be.map fun _=>([]:List Tri)).getD w.toNat []=u::r:=ev
     rw[getD_nils] at ev
     cases ev
   | nil =>
    show oLe (some 0) (if w=-1 then none else W.oa.pr.getD w.toNat none)
    split
    ·exact oLe_none _
    ·show oLe (some 0) ((W.be.map fun t=>some t.2.2).getD w.toNat none)
     rw[zA,zE]
     cases h:W.be[w.toNat]? with
     | none=>exact oLe_none _
     | some c =>
      have:=(ok.bel c (zG h)).2.2.2.2.1
      show(0:Int)≤c.2.2
      omega
  have:=oAdd_le (d:=bt.2.2) key
  have e0:oAdd (some 0) bt.2.2=some bt.2.2:=by show some (0 + bt.2.2)=_; rw[qD]
  rw[e0] at this
  exact this
end Oc
namespace Oc
open PySem L2
theorem noT_held {cs:Cs} {W:Wk} {o:OR} {M:List (List Cell)} (n:NoT M):NoT (heldCs cs W o++M):=by
 refine NoT.cons (fun x hx=>?_) (NoT.cons noT_rows (NoT.cons noT_rows (NoT.cons noT_rows (NoT.cons (noT_st cs o.srs) n))))
 simp only [hdH,zQ,zK,or_false] at hx
 rcases hx with e|e|e|e <;> rw[e] <;> exact fun _ z=>nomatch z
theorem OwnF.stp {W:Wk} {m:Nat} {H:Hp} {o:OR} {A:OA} (f:OwnF W m H o A) {s:Nat} {r:SR} (hr:o.srs[s]?=some r):A.stp s r.pu=A.step s:=by
 unfold OA.step
 rw[← f.is.s,zA,zE,hr]
 rfl
theorem OwnF.nxt {cs:Cs} {C Pu:Addr} {M:List (List Cell)} {W:Wk} {m:Nat} {H H':Hp} {o o':OR} {A:OA} (f:OwnF W m H o A) {s:Nat} {r:SR} (hr:o.srs[s]?=some r) (st:OSt cs C Pu M m H H' o o' (A.stp s r.pu).1):OwnF W (m + 1) H' o' (A.step s).1:=by
 rw[f.stp hr] at st
 exact⟨st.ok,st.is,st.so,st.ao,by rw[st.l]; exact f.ns,by rw[st.d]; exact f.nb⟩
theorem mod_nat (x:Int) {M:Nat} (h:0 < M):∃ s:Nat,x % (M:Int)=(s:Int)∧s < M:=by
 have a1:=yN x (show(M:Int) ≠ 0 by omega)
 have a2:=yE x (show 0 < (M:Int) by omega)
 exact⟨(x % (M:Int)).toNat,by omega,by omega⟩
theorem times_at (y z:Int):∃ n:Nat,atI [V.int 1,V.int 1,V.int 1,V.int (2 + y % 3)] (z % 4)=some (.int (n:Int))∧n≤4:=by
 have a1:=yN z (show(4:Int) ≠ 0 by decide)
 have a2:=yE z (show(0:Int) < 4 by decide)
 have b1:=yN y (show(3:Int) ≠ 0 by decide)
 have b2:=yE y (show(0:Int) < 3 by decide)
 rcases(show z % 4=0∨z % 4=1∨z % 4=2∨z % 4=3 by omega) with e|e|e|e <;> rw[e]
 ·exact⟨1,rfl,by decide⟩
 ·exact⟨1,rfl,by decide⟩
 ·exact⟨1,rfl,by decide⟩
 ·refine⟨(2 + y % 3).toNat,?_,by omega⟩
  have e2:(((2 + y % 3).toNat:Nat):Int)=2 + y % 3:=by omega
  rw[e2]
  exact atI_nat (j:=3) rfl
structure T22 (cs:Cs) (C Pu:Addr) (W:Wk) (tl:Addr) (N:List (List Cell)) (H:Hp) (o1 o2:OR) (A:OA) (m:Nat):Prop where
 two:Two cs C W ([(tl,.lst (srefs o2.srs))]::N) m H o1 o2 A
 up:UpT Pu H
section
variable {cs:Cs} {C Pu:Addr} {W:Wk} {tl:Addr} {N:List (List Cell)} {H H':Hp} {o1 o2:OR} {A:OA} {m:Nat}
theorem T22.same (L:T22 cs C Pu W tl N H o1 o2 A m) (s:Same H H'):T22 cs C Pu W tl N H' o1 o2 A m:=⟨L.two.same s,L.up.same s⟩
theorem T22.hN (L:T22 cs C Pu W tl N H o1 o2 A m):Hc H N:=L.two.hc.drop.drop.tl
end
inductive spLaw (Pd Pu:Addr) (K:PySem.W.Frag) (vs:List V) (H:Hp) (Q:VK) (x_3:XK):Prop where
 | mk (a:Addr) (ns:List Int) (h_0:vs=[.ref a]) (h_1:SqL K H a (ns.map V.int)) (h_2:ns.length≤63) (h_3:DoorT Pd H) (h_4:UpT Pu H) (h_5:Pd ≠ Pu) (h_6:∀ H',Q (.bl true) H'):spLaw Pd Pu K vs H Q x_3
section
variable {P:Program} {w:World} {K:PySem.W.Frag} {mg:Str→Option Value} {base:Heap} {cs:Cs} {C Pd Pu:Addr}
theorem sc_law:FnScope ["script","works","own","held","things","cell","station","j","found"] ["script"] (defScope (top 28)):=⟨rfl,rfl,rfl,by decide +kernel,rfl,by decide +kernel,by decide +kernel⟩
theorem ok_law {f:Addr} {fd:FuncData} (F:Fun K "law" "law" (top 28) f fd) (T:Txt K mg) (ss_:PySem.W.kitOne K (.type "str") (.type "str")=some true) (aW:FnAt P w K mg base 2 "_law_works" ["script"] (spWks K)) (M_Own:MkAt P w K mg base 5 "Own" C ["self","works"] (spOwI K cs C Pd)) (G_step:MethAt P w K mg base 5 C "step" ["self","station"] (spStep cs C Pu)) (aX:FnAt P w K mg base 1 "_law_begun" ["works"] spBeg) (aY:FnAt P w K mg base 4 "station_of" ["works","station"] (spSo cs)) (bC:FnAt P w K mg base 3 "_law_step" ["works","held","things","station"] (spHSt cs)) (aJ:FnAt P w K mg base 5 "_law_shown" ["own","works","held","stations","order"] (spSts K cs C)) (ag:FnAt P w K mg base 1 "_law_draw" ["script","k"] (spDraw K)):FnOk P w K mg base CX0 7 f fd ["script"] (spLaw Pd Pu K):=by
 have nd:=sc_law.nd
 refine F.ok sc_law (fun vs H Q E h=>?_) (fun cdv A outer s H vs Q E hr h=>?_)
 ·obtain⟨a,ns,rfl,_⟩:=h
  rfl
 ·obtain⟨a,ns,rfl,hS,hl,hT,hU,nePP,q⟩:=h
  refine⟨_,(@pss_cons _ _ _ _ _ (ps_set (i:=1) nd rfl (by nofun) (pe_fn aW (hr.mono (by decide)) (by rfl) (@pa_cons _ _ _ _ _ (pv 0) pa_nil (by rfl))))
   (@pss_cons _ _ _ _ _ (ps_set (i:=2) nd rfl (by nofun) (pe_mk M_Own (hr.mono (by decide)) (by rfl) (@pa_cons _ _ _ _ _ (@pe_tup _ _ _ _ _ (@pa_cons _ _ _ _ _ (pe_callTy (call_list_ofK (K:=K) rfl) (by rfl) T.n_list bt_list (@pa_cons _ _ _ _ _ (@pe_ix _ _ _ _ _ _ _ (ix_tupK (K:=K) rfl) (pv 1) pe_int (fun _ _=>rfl)) pa_nil (by rfl))) (@pa_cons _ _ _ _ _ (pe_callTy (call_list_ofK (K:=K) rfl) (by rfl) T.n_list bt_list (@pa_cons _ _ _ _ _ (@pe_ix _ _ _ _ _ _ _ (ix_tupK (K:=K) rfl) (pv 1) pe_int (fun _ _=>rfl)) pa_nil (by rfl))) (@pa_cons _ _ _ _ _ (pe_callTy (call_list_ofK (K:=K) rfl) (by rfl) T.n_list bt_list (@pa_cons _ _ _ _ _ (@pe_ix _ _ _ _ _ _ _ (ix_tupK (K:=K) rfl) (pv 1) pe_int (fun _ _=>rfl)) pa_nil (by rfl))) pa_nil (by rfl)) (by rfl)) (by rfl))) pa_nil (by rfl))))
   (@pss_cons _ _ _ _ _ (ps_set (i:=3) nd rfl (by nofun) (pe_fn aX (hr.mono (by decide)) (by rfl) (@pa_cons _ _ _ _ _ (pv 1) pa_nil (by rfl))))
   (@pss_cons _ _ _ _ _ (ps_setC (i:=4) nd rfl (Or.inl rfl) rfl (own:=["station"]) (fr:=["works"]) (js:=[1]) (by and_intros) (pi_range1 rfl T.n_range (@pa_cons _ _ _ _ _ (pe_callB (call_len_seqK (K:=K) rfl) (by rfl) T.n_len bt_len (@pa_cons _ _ _ _ _ (@pe_ix _ _ _ _ _ _ _ (ix_tupK (K:=K) rfl) (pv 1) pe_int (fun _ _=>rfl)) pa_nil (by rfl))) pa_nil (by rfl))) (fun _ _ _ _=>(pg_name (i:=0) (show List.Nodup (["station","works"]:List Str) from by decide +kernel) rfl (by nofun))) (fun _ _ _ _=>pts_nil) (fun _ _ _ _=>(pe_fn aY (hr.mono (by decide)) (by rfl) (@pa_cons _ _ _ _ _ (pv 1) (@pa_cons _ _ _ _ _ (pv 0) pa_nil (by rfl)) (by rfl)))))
   (@pss_cons _ _ _ _ _ (ps_for PassesOwn.never rfl (pi_listK (K:=K) rfl (pe_slice sl_list (pv 0) po_none (po_some pe_int))) (pg_name (i:=5) nd rfl (by nofun)) (@pss_cons _ _ _ _ _ (ps_set (i:=6) nd rfl (by nofun) (pe_op op_mod (pe_op op_fdiv (pv 5) pe_int) (pe_callB (call_len_seqK (K:=K) rfl) (by rfl) T.n_len bt_len (@pa_cons _ _ _ _ _ (@pe_ix _ _ _ _ _ _ _ (ix_tupK (K:=K) rfl) (pv 1) pe_int (fun _ _=>rfl)) pa_nil (by rfl)))))
   (@pss_cons _ _ _ _ _ (ps_for PassesOwn.never rfl (pi_range1 rfl T.n_range (@pa_cons _ _ _ _ _ (@pe_ix _ _ _ _ _ _ _ (ix_listK (K:=K) rfl) (@pe_lst _ _ _ _ (@pa_cint _ _ _ _ _ _ (@pa_cint _ _ _ _ _ _ (@pa_cint _ _ _ _ _ _ (@pa_cons _ _ _ _ _ (pe_op op_add pe_int (pe_op op_mod (pe_op op_fdiv (pv 5) pe_int) pe_int)) pa_nil (by rfl)))))) (pe_op op_mod (pv 5) pe_int) (fun _ _=>rfl)) pa_nil (by rfl))) (pg_name (i:=7) nd rfl (by nofun)) (@pss_cons _ _ _ _ _ (ps_set (i:=8) nd rfl (by nofun) (pe_mth G_step (hr.mono (by decide)) (pv 2) (@pa_cons _ _ _ _ _ (pv 6) pa_nil (by rfl))))
   (@pss_one _ _ _ (ps_if ((pw_or (pt_not (pt_val (pe_callB (call_isiTK (K:=K) rfl) (by rfl) T.n_isinstance bt_isinstance (@pa_cons _ _ _ _ _ (pv 8) (@pa_cons _ _ _ _ _ (pe_bltn (v:=.ty _) (by rfl) T.n_str bt_str rfl) pa_nil (by rfl)) (by rfl))))) (pw_or1 (pt_cmpR op_ne (pv 8) (pe_fn bC (hr.mono (by decide)) (by rfl) (@pa_cons _ _ _ _ _ (pv 1) (@pa_cons _ _ _ _ _ (pv 3) (@pa_cons _ _ _ _ _ (pv 4) (@pa_cons _ _ _ _ _ (pv 6) pa_nil (by rfl)) (by rfl)) (by rfl)) (by rfl))) (nomark _))))).pt (@pss_one _ _ _ (@ps_ret _ _ _ _ pe_bl)) pss_nil))))
   (@pss_one _ _ _ (ps_if (pt_not (pt_val (pe_fn aJ (hr.mono (by decide)) (by rfl) (@pa_cons _ _ _ _ _ (pv 2) (@pa_cons _ _ _ _ _ (pv 1) (@pa_cons _ _ _ _ _ (pv 3) (@pa_cons _ _ _ _ _ (@pe_lst _ _ _ _ (@pa_cons _ _ _ _ _ (pv 6) pa_nil (by rfl))) (@pa_cons _ _ _ _ _ (pe_op op_fdiv (pv 5) pe_int) pa_nil (by rfl)) (by rfl)) (by rfl)) (by rfl)) (by rfl))))) (@pss_one _ _ _ (@ps_ret _ _ _ _ pe_bl)) pss_nil)))))
   (@pss_one _ _ _ (@ps_ret _ _ _ _ (pe_fn aJ (hr.mono (by decide)) (by rfl) (@pa_cons _ _ _ _ _ (pv 2) (@pa_cons _ _ _ _ _ (pv 1) (@pa_cons _ _ _ _ _ (pv 3) (@pa_cons _ _ _ _ _ (pe_callTy (call_list_rng rfl) (by rfl) T.n_list bt_list (@pa_cons _ _ _ _ _ (pe_range1 (by rfl) T.n_range (@pa_cons _ _ _ _ _ (pe_callB (call_len_seqK (K:=K) rfl) (by rfl) T.n_len bt_len (@pa_cons _ _ _ _ _ (@pe_ix _ _ _ _ _ _ _ (ix_tupK (K:=K) rfl) (pv 1) pe_int (fun _ _=>rfl)) pa_nil (by rfl))) pa_nil (by rfl))) pa_nil (by rfl))) (@pa_cons _ _ _ _ _ (pe_fn ag (hr.mono (by decide)) (by rfl) (@pa_cons _ _ _ _ _ (pv 0) (@pa_cons _ _ _ _ _ pe_int pa_nil (by rfl)) (by rfl))) pa_nil (by rfl)) (by rfl)) (by rfl)) (by rfl)) (by rfl)))))))))),?_⟩
  refine⟨_,rfl,a,ns,rfl,hS,hl,fun wa W H3 hW ok s1=>?_⟩
  have hT3:=hT.same s1
  have hU3:=hU.same s1
  obtain⟨M0,sa,ba,fa,xs,ys,zs,k3,nM0,back⟩:=base_in hW (s1.seq hS)
  obtain⟨h1,h3,hS1⟩:=back H3 k3
  have ls:=h3.ps.length
  have lb:=h3.pb.length
  have s8:=ok.s8
  have s1p:=ok.s1
  have b12:=ok.b12
  refine⟨_,rfl,⟨_,_,_,_,rfl,rfl,SqT.of h1,(atI_nat (j:=0) rfl),sa,_,rfl,.inl (SqL.of h3.hs),fun c0 n0=>?_⟩⟩
  have t0:Same H3 (upd H3 c0 (.lst xs)):=Same.new n0
  have k6:=k3.new n0 (.lst xs)
  refine⟨_,rfl,⟨_,_,_,_,rfl,rfl,SqT.of (t0 _ _ h1),(atI_nat (j:=1) rfl),ba,_,rfl,.inl (SqL.of (t0 _ _ h3.hb)),fun c1 n1=>?_⟩⟩
  have t01:=t0.trans (Same.new (o:=.lst ys) n1)
  have k7:=k6.new n1 (.lst ys)
  refine⟨_,rfl,⟨_,_,_,_,rfl,rfl,SqT.of (t01 _ _ h1),(atI_nat (j:=2) rfl),fa,_,rfl,.inl (SqL.of (t01 _ _ h3.hf)),fun c2 n2=>?_⟩⟩
  have t02:=t01.trans (Same.new (o:=.lst zs) n2)
  have k8:=k7.new n2 (.lst zs)
  refine⟨(by show 3≤sizeLine; decide),fun ha nha=>?_⟩
  have t03:=t02.trans (Same.new (o:=.tup [.ref c0,.ref c1,.ref c2]) nha)
  have k9:=k8.new nha (.tup [.ref c0,.ref c1,.ref c2])
  generalize (upd (upd (upd (upd H3 c0 (.lst xs)) c1 (.lst ys)) c2 (.lst zs)) ha (.tup [.ref c0,.ref c1,.ref c2]))=H6 at t03 k9 ⊢
  have hT6:=hT3.same t03
  have hU6:=hU3.same t03
  have n9:NoT ([(ha,.tup [.ref c0,.ref c1,.ref c2])]::[(c2,.lst zs)]::[(c1,.lst ys)]::[(c0,.lst xs)]::M0):=(nM0.lst.lst.lst).one fun _ z=>nomatch z
  refine fun x dx nx' ndx nex=>?_
  have kF:=(k9.same (Same.new (o:=.own x) ndx)).new (p:=x) (by rw[upd_ne (Ne.symm nex)]; exact nx') (.ins C dx [])
  have tF:Same H6 (upd (upd H6 dx (.own x)) x (.ins C dx [])):=(Same.new ndx).upd nx'
  have hTF:=hT6.same tF
  have hUF:=hU6.same tF
  generalize (upd (upd H6 dx (.own x)) x (.ins C dx []))=HF at kF hTF hUF tF ⊢
  have wF:WkAt HF ha W:=by
   obtain⟨_,e2,_⟩:=back HF kF.tl.tl.tl.tl.tl
   exact⟨c0,c1,c2,xs,ys,zs,kF.get 1 0 rfl rfl,⟨kF.get 4 0 rfl rfl,kF.get 3 0 rfl rfl,kF.get 2 0 rfl rfl,e2.ps,e2.pb,e2.pf⟩⟩
  refine⟨x,ha,dx,W,_,rfl,kF,n9,wF,ok,hTF,fun o1 H7 ex1 hc7 kp7 hT7 new7 ev7=>⟨rfl,?_⟩⟩
  subst ex1
  have hU7:=LamT.kpd hUF kp7 (Ne.symm nePP) (kF.get 0 0 rfl rfl)
  have k10:Hc H7 (ownCs cs C o1++M0):=(hc7.perm (List.perm_append_comm_assoc (ownCs cs C o1) [[(ha,.tup [.ref c0,.ref c1,.ref c2])],[(c2,.lst zs)],[(c1,.lst ys)],[(c0,.lst xs)]] M0)).drop
  have f1:=new_own new7 ev7
  clear kF tF hTF hUF hT6 hU6 kp7 hT7 new7 ev7 n9 k9 k8 k7 k6 hc7 wF h1 h3 hS1 t0 t01 t02 t03 hT3 hU3 k3
  obtain⟨w7,l7,_⟩:=back H7 k10.drop
  refine⟨_,rfl,wa,W,_,rfl,⟨sa,ba,fa,xs,ys,zs,w7,l7⟩,ok,k10,fun ob H8 s8' hc8 bf=>?_⟩
  obtain⟨w8,l8,_⟩:=back H8 (Hc.drop (A:=ownCs cs C o1) hc8.tl.tl.tl.tl)
  have hU8:=hU7.same s8'
  have f18:=f1.via (fun _ _=>IsTri.same s8') (zH _)
  refine⟨_,rfl,⟨_,_,_,_,rfl,rfl,SqT.of w8,(atI_nat (j:=0) rfl),sa,xs,rfl,.inl (SqL.of l8.hs),_,rfl,by rw[p62]; omega,by rw[p62]; omega,fun D nD=>?_⟩⟩
  refine comp_range (lo:=0) (n:=(xs.length:Int).toNat) (fun i H4=>∃ srs:List SR,Same H8 H4∧Hc H4 ([(D,.lst (srefs srs))]::stC cs srs::hdH W ob::liC ob.da ob.dv::liC ob.ra ob.rv::liC ob.ga ob.gv::(ownCs cs C o1++M0))∧srs.length=i∧∀ j r,srs[j]?=some r→Made W j r) ⟨[],Same.new nD,(hc8.new nD (.lst [])).pad.swap,rfl,fun j r h=>by cases h⟩ ?_ ?_
  ·rintro i H4 m Wf hi ⟨srs,s4,hc4,l4,mk4⟩ nx
   rw[qD]
   refine⟨_,rfl,_,rfl,wa,W,i,_,rfl,WkAt.same s4 ⟨sa,ba,fa,xs,ys,zs,w8,l8⟩,ok,by omega,hc4,fun r H5 s5 hc5 mk=>?_⟩
   have g5:=hc5.get 1 0 rfl rfl
   refine⟨_,g5,small1000 (by unfold srefs; rw[zC]; omega),nx _ ⟨srs++[r],(s4.trans s5).upd nD,?_,by rw[zN,l4]; rfl,getAll_snoc mk4 (by rw[l4]; exact mk)⟩⟩
   have:=hc5.put 1 0 rfl rfl (.lst (srefs srs++[.ref r.x]))
   rw[show srefs (srs++[r])=srefs srs++[.ref r.x] from zJ,stC_snoc]
   exact(Hc.join (this.pick 2 rfl)).swap
  ·rintro H4 ⟨srs,s4,hc4,l4,mk4⟩
   have l4':srs.length=W.st.length:=by omega
   have hU4:=hU8.same s4
   have f14:=f18.via (fun _ _=>IsTri.same s4) (zH _)
   have evb:=bf.ev
   have ev4:Evs H4 ob W.des (W.be.map fun _=>[]) (W.st.map fun _=>[]):=evb.tk (Tk.of s4)
   have on:ONew W { ob with srs:=srs,dels:=W.dels }:=by
    have e1:W.dels.length=W.be.length:=zC _
    refine⟨⟨bf.ld.trans l4'.symm,bf.ldv.trans l4'.symm,bf.lr.trans e1.symm,bf.lrv.trans e1.symm,?_,bf.lg.trans l4'.symm,bf.lgv.trans l4'.symm,?_,?_,?_,?_⟩,mk4,l4',rfl,bf.pr⟩
    ·show ob.pr.length=W.dels.length
     rw[bf.pr,e1]
     exact zC _
    ·show srs.length≤8; omega
    ·show W.dels.length≤12; omega
    ·intro r hr0 w0 hw0
     obtain⟨j,hj⟩:=yR hr0
     have:=(mk4 j r hj).ws
     rw[this] at hw0
     show _∨(_∧w0 < (W.dels.length:Int))
     rw[e1]
     exact Wk.wy_in hw0
    ·intro r hr0 w0 hw0
     obtain⟨j,hj⟩:=yR hr0
     have:=(mk4 j r hj).bs
     rw[this] at hw0
     show _∧w0 < (W.dels.length:Int)
     rw[e1]
     exact Wk.lv_in hw0
   have f2:OwnF W 0 H4 { ob with srs:=srs,dels:=W.dels } W.oa:=new_own on ⟨ev4.d,ev4.r,ev4.g⟩
   have hx2:ob.x=({ ob with srs:=srs,dels:=W.dels }:OR).x:=rfl
   rw[hx2]
   have eH:heldCs cs W { ob with srs:=srs,dels:=W.dels }=[hdH W ob,liC ob.da ob.dv,liC ob.ra ob.rv,liC ob.ga ob.gv,stC cs srs]:=rfl
   have L0:T22 cs C Pu W D M0 H4 o1 { ob with srs:=srs,dels:=W.dels } W.oa 0:=⟨⟨hc_cnt hc4 fun c=>by
    rw[eH]
    simp only [qE,z7,List.flatten_nil,qH,yD,List.count_nil]
    omega,f14,f2,new_inv ok⟩,hU4⟩
   generalize ({ ob with srs:=srs,dels:=W.dels }:OR)=o2 at L0 ⊢
   clear eH f2 on ev4 evb f14 hU4 hc4 f18 hU8 l8 w8 f1 hc8 bf w7 l7 k10 hU7 mk4 s4 hx2
   obtain⟨w9,l9,hS9⟩:=back H4 L0.hN
   refine⟨_,rfl,_,rfl,a,_,rfl,hS9,fun b nb=>?_⟩
   obtain⟨mm,em,lm⟩:∃ mm:List Int,cutV (ns.map V.int) none (some 63)=mm.map V.int∧mm.length≤63:=by
    refine⟨_,by unfold cutV; rw[← List.map_drop,← List.map_take],?_⟩
    rw[zU,List.length_drop]
    omega
   rw[em]
   have L1:T22 cs C Pu W D ([(b,.lst (mm.map V.int))]::M0) (upd H4 b (.lst (mm.map V.int))) o1 o2 W.oa 0:=by
    have L':=L0.same (Same.new (o:=.lst (mm.map V.int)) nb)
    refine⟨⟨hc_cnt (L0.two.hc.new nb (.lst (mm.map V.int))) fun c=>?_,L'.two.f1,L'.two.f2,L'.two.i⟩,L'.up⟩
    simp only [qE,z7,qH]
    omega
   generalize (upd H4 b (.lst (mm.map V.int)))=H5 at L1 ⊢
   have nN:NoT ([(b,.lst (mm.map V.int))]::M0):=nM0.lst
   have backN:∀ H',Hc H' ([(b,.lst (mm.map V.int))]::M0)→H' b=some (.lst (mm.map V.int))∧H' wa=some (.tup [.ref sa,.ref ba,.ref fa])∧LsAt H' sa ba fa W xs ys zs∧SqL K H' a (ns.map V.int):=fun H' k=>by
    obtain⟨e1,e2,e3⟩:=back H' k.tl
    exact⟨k.get 0 0 rfl rfl,e1,e2,e3⟩
   clear L0 hS9 w9 l9
   generalize ([(b,HO.lst (mm.map V.int))]::M0)=N at L1 nN backN
   generalize ex1:o1.x=x1
   generalize ex2:o2.x=x2
   refine⟨b,rfl,⟨_,SqL.of (backN _ L1.hN).1⟩,for_list (K:=K) (a:=b) (xs:=mm.map V.int) (fun i σ H5=>∃(v5 v6 v7 v8:Option V) (o1 o2:OR) (A:OA) (m:Nat),σ=[some (.ref a),some (.ref wa),some (.ref x1),some (.ref x2),some (.ref D),v5,v6,v7,v8]∧o1.x=x1∧o2.x=x2∧T22 cs C Pu W D N H5 o1 o2 A m∧m≤4 * i) ⟨_,_,_,_,o1,o2,W.oa,0,rfl,ex1,ex2,L1,zH _⟩ (fun i σ H5 _ ⟨_,_,_,_,_,_,_,_,_,_,_,L,_⟩=>SqL.of (backN _ L.hN).1) ?_ ?_⟩
   ·clear L1 ex1 ex2
    rintro i cv σ H5 hi ⟨v5,v6,v7,v8,o1,o2,A,m,rfl,ex1,ex2,L,lm4⟩
    obtain⟨ce,rfl,hce⟩:=ints_get hi
    have hi63:=(zD.mp hce).1
    obtain⟨_,w5,l5,_⟩:=backN H5 L.hN
    refine⟨_,rfl,_,_,rfl,rfl,⟨by decide,by decide⟩,_,rfl,⟨_,_,_,_,rfl,rfl,SqT.of w5,(atI_nat (j:=0) rfl),sa,_,rfl,.inl (SqL.of l5.hs),_,_,rfl,rfl,(by omega),?_⟩⟩
    obtain⟨sn,hsn,hsn1⟩:=mod_nat (ce / 4) (M:=xs.length) (by omega)
    rw[hsn]
    have hs:sn < W.st.length:=by omega
    obtain⟨n,en,n4⟩:=times_at (ce / 64) ce
    refine⟨_,rfl,_,_,rfl,rfl,⟨by decide,by decide⟩,_,_,rfl,rfl,by decide,_,_,rfl,rfl,(by show 4≤sizeLine; decide),fun l0 nl0=>?_⟩
    have L5:=L.same (Same.new (o:=.lst [.int 1,.int 1,.int 1,.int (2 + ce / 64 % 3)]) nl0)
    have gl0:(upd H5 l0 (.lst [.int 1,.int 1,.int 1,.int (2 + ce / 64 % 3)])) l0=some (.lst [.int 1,.int 1,.int 1,.int (2 + ce / 64 % 3)]):=upd_same
    generalize (upd H5 l0 (.lst [.int 1,.int 1,.int 1,.int (2 + ce / 64 % 3)]))=H6 at L5 gl0 ⊢
    refine⟨_,rfl,_,_,rfl,rfl,by decide,⟨_,_,_,_,rfl,rfl,SqL.of gl0,en,_,rfl,by rw[p62]; omega,by rw[p62]; omega,for_range (n:=((n:Nat):Int).toNat) (fun j σ H7=>∃(v7 v8:Option V) (o1 o2:OR) (A:OA),σ=[some (.ref a),some (.ref wa),some (.ref x1),some (.ref x2),some (.ref D),some (.int ce),some (.int (sn:Int)),v7,v8]∧o1.x=x1∧o2.x=x2∧T22 cs C Pu W D N H7 o1 o2 A (m + j)) ⟨_,_,o1,o2,A,rfl,ex1,ex2,L5⟩ ?_ ?_⟩⟩
    ·clear L L5 w5 l5 gl0 ex1 ex2
     rintro j σ H7 hj ⟨v7,v8,o1,o2,A,rfl,ex1,ex2,L⟩
     have hj4:j < 4:=by omega
     obtain⟨r,hr1⟩:∃ r,o1.srs[sn]?=some r:=⟨o1.srs[sn]'(by rw[← L.two.f1.ns]; exact hs),zB _⟩
     refine⟨_,rfl,o1.x,o1.dx,o1.flds,(by rw[ex1]),L.two.hc.get 0 0 rfl rfl,f_m (by decide +kernel),_,rfl,o1,_,sn,m + j,A,r,(by rw[ex1]; rfl),L.two.hc,noT_held (nN.one fun _ z=>nomatch z),L.two.f1.ok,L.two.f1.is,hr1,L.two.f1.so,(by omega),L.two.f1.ao,L.up,fun o1' H8 st=>?_⟩
     have f1':=L.two.f1.nxt hr1 st
     rw[L.two.f1.stp hr1] at st ⊢
     have tr:∀ x t,IsTri H7 x t→IsTri H8 x t:=fun x t h=>IsTri.tkp st.tk L.up h
     have f2':=L.two.f2.via tr (zH _)
     have hcH:Hc H8 (heldCs cs W o2++([(D,.lst (srefs o2.srs))]::(ownCs cs C o1'++N))):=hc_cnt st.hc fun c=>by
      simp only [qE,z7,qH]
      omega
     refine⟨_,rfl,_,"str",_,true,rfl,.str _,ss_,_,rfl,iteF ?_⟩
     refine⟨_,rfl,_,rfl,_,rfl,_,rfl,_,rfl,wa,D,W,o2,ownCs cs C o1'++N,sn,m + j,A,(by rw[ex2]; rfl),fun H' k=>?_,ok,hcH,f2',L.two.i,(by omega),hs,fun o2' H9 hst=>?_⟩
     ·obtain⟨_,e1,e2,_⟩:=backN H' k.drop
      exact⟨sa,ba,fa,xs,ys,zs,e1,e2⟩
     ·refine⟨rfl,_,rfl,?_⟩
      have edd:decide (V.str (A.step sn).2=V.str (A.step sn).2)=true:=decide_eq_true rfl
      rw[edd]
      refine iteF ?_
      refine⟨_,_,o1',o2',(A.step sn).1,rfl,st.x.trans ex1,hst.x.trans ex2,⟨⟨hc_cnt hst.hc fun c=>?_,f1'.via (fun _ _=>IsTri.tk hst.tk) (zH _),hst.f,(step_stp ok L.two.i L.two.f1.ao hs).inv⟩,LamT.tkm st.up hst.tk⟩⟩
      simp only [qE,z7,qH]
      omega
    ·clear L L5 w5 l5 gl0 ex1 ex2
     rintro σ H7 ⟨v7,v8,o1,o2,A,rfl,ex1,ex2,L⟩
     have hn:((n:Nat):Int).toNat=n:=by omega
     rw[hn] at L
     obtain⟨_,w7,l7,_⟩:=backN H7 L.hN
     refine⟨_,rfl,_,rfl,_,rfl,_,rfl,(by show 1≤sizeLine; decide),fun l1 nl1=>?_⟩
     have s8:Same H7 (upd H7 l1 (.lst [.int (sn:Int)])):=Same.new nl1
     have g8:(upd H7 l1 (.lst [.int (sn:Int)])) l1=some (.lst (([(sn:Int)]).map V.int)):=upd_same
     have L8:=L.same s8
     generalize (upd H7 l1 (.lst [.int (sn:Int)]))=H8 at s8 g8 L8 ⊢
     refine⟨_,rfl,_,_,rfl,rfl,⟨by decide,by decide⟩,wa,l1,W,o1,o2,_,m + n,A,[(sn:Int)],ce / 512,(by rw[ex1,ex2]; rfl),WkAt.same s8 ⟨sa,ba,fa,xs,ys,zs,w7,l7⟩,ok,L8.two,SqL.of g8,fun z hz=>?_,fun H9 s9=>⟨_,rfl,iteF ?_⟩⟩
     ·rw[zF.mp hz]
      omega
     ·exact⟨_,_,_,_,o1,o2,A,m + n,rfl,ex1,ex2,L8.same s9,by omega⟩
   ·clear L1 ex1 ex2
    rintro σ H5 ⟨v5,v6,v7,v8,o1,o2,A,m,rfl,ex1,ex2,L,lm4⟩
    obtain⟨_,w5,l5,hS5⟩:=backN H5 L.hN
    refine⟨_,rfl,_,rfl,_,rfl,_,rfl,⟨_,_,_,_,rfl,rfl,SqT.of w5,atI_nat (j:=0) rfl,sa,_,rfl,.inl (SqL.of l5.hs),_,rfl,fun rg nrg=>⟨rg,xs.length,rfl,upd_same,by omega,fun mn nmn=>?_⟩⟩⟩
    have t6:Same H5 (upd (upd H5 rg (.rng 0 ((xs.length:Nat):Int))) mn (.lst ((List.range xs.length).map fun(i:Nat)=>V.int (i:Int)))):=(Same.new nrg).trans (Same.new nmn)
    have gm:(upd (upd H5 rg (.rng 0 ((xs.length:Nat):Int))) mn (.lst ((List.range xs.length).map fun(i:Nat)=>V.int (i:Int)))) mn=some (.lst (((List.range xs.length).map fun(i:Nat)=>(i:Int)).map V.int)):=by rw[upd_same,qM]; rfl
    generalize (upd (upd H5 rg (.rng 0 ((xs.length:Nat):Int))) mn (.lst ((List.range xs.length).map fun(i:Nat)=>V.int (i:Int))))=H6 at t6 gm ⊢
    refine⟨_,rfl,a,ns,4,rfl,t6.seq hS5,hl,by decide,by decide,fun H7 s7=>?_⟩
    have L7:=L.same (t6.trans s7)
    refine⟨wa,mn,W,o1,o2,_,m,A,(List.range xs.length).map fun(i:Nat)=>(i:Int),drawF ns 4,(by rw[ex1,ex2]; rfl),WkAt.same (t6.trans s7) ⟨sa,ba,fa,xs,ys,zs,w5,l5⟩,ok,L7.two,SqL.of (s7 _ _ gm),fun z hz=>?_,fun H8 _=>q H8⟩
    obtain⟨i,hi,rfl⟩:=yB.mp hz
    have:=yC.mp hi
    omega
end
end Oc
namespace Oc
open PySem L2
inductive FnF (K:PySem.W.Frag) (s:Stmt) (m q:Str) (f:Addr) (cd:Value):Prop where
 | mk {oc:Value} {od an:Option Addr} {sl:Array (Option Value)} {kV dc pm ct:Value} (l:K.lookup f=some ⟨oc,od,.func (PySem.W.fnOf m q (defArgs s) (defBody s) (defScope s) .none kV dc pm an cd ct),sl⟩) (c:PySem.W.codeIn K cd q=true) (k:PySem.W.keepIn K (.ref f)=true):FnF K s m q f cd
theorem FnF.fn {K:PySem.W.Frag} {s:Stmt} {m q:Str} {f:Addr} {cd:Value} (h:FnF K s m q f cd):∃ fd,Fun K m q s f fd∧PySem.W.keepIn K (.ref f)=true∧fd.code=cd:=by
 obtain⟨l,c,k⟩:=h
 exact⟨_,fun_mk l c k,k,rfl⟩
def MtF (K:PySem.W.Frag) (C:Addr) (m:Str) (f:Addr):Prop:=PySem.W.findIn K (.ref C) m=some (some (.ref f))∧PySem.W.isFn K (.ref f)=true
set_option hygiene false in
local macro_rules | `(tactic| injections) => `(tactic| (intro _ _ _ _ _ _ us hl; first | (obtain ⟨_, rfl⟩ := len1 hl; rfl) | (obtain ⟨_, _, rfl⟩ := len2 hl; rfl) | (obtain ⟨_, _, _, rfl⟩ := len3 hl; rfl) | (obtain ⟨_, _, _, _, rfl⟩ := len4 hl; rfl) | (obtain ⟨_, _, _, _, _, rfl⟩ := len5 hl; rfl)))
theorem all_mk {l:PySem.W.OpenLaw} {w:World} {K:PySem.W.Frag} {h:Heap} {mg:Str→Option Value} {fa ah ae ad aa ab af C_Own mZ hJ lL ak aL ai aS cH bW aO bz aP cg cW mP bX bE dJ cj b_ hV bv dB bD fG bw aI aD aT fw dG bH cM ci c6 cZ dH dz aC cT f_law:Addr} (X:K.In h) (G:h.Ns mainGlobals mg) (hfa:mg "law"=some (.ref fa))
  {od_law an_law:Option Addr} {sl_law:Array (Option Value)} {o4 kP mW bO dP bL cQ gL eI bM dN cB eB fV lR d4 dO iK eR eY lE dW iu a6 i6 dS bG a9 cP jz iH dU gQ fy gu gA iA iB aZ gP oc_law kV_law dc_law pm_law cd_law ct_law cn:Value} {tkD:Tok} {cD PD cU PU:Addr}
  (kJ:PySem.W.nsIn K mainGlobals "Station"=some (some (.ref ah)))
  (nA:PySem.W.nsIn K mainGlobals "Relay"=some (some (.ref ae)))
  (ml:PySem.W.nsIn K mainGlobals "Sorter"=some (some (.ref ad)))
  (kO:PySem.W.nsIn K mainGlobals "Thinner"=some (some (.ref aa)))
  (mq:PySem.W.nsIn K mainGlobals "Joiner"=some (some (.ref ab)))
  (oU:PySem.W.nsIn K mainGlobals "Sink"=some (some (.ref af)))
  (pU:PySem.W.nsIn K mainGlobals "Own"=some (some (.ref C_Own)))
  (pZ:PySem.W.nsIn K mainGlobals "ways"=some (some (.ref mZ)))
  (p9:FnF K (top 2) "ways" "ways" mZ o4)
  (mC:PySem.W.nsIn K mainGlobals "leaving"=some (some (.ref hJ)))
  (mz:FnF K (top 5) "leaving" "leaving" hJ kP)
  (o0:PySem.W.nsIn K mainGlobals "sides"=some (some (.ref lL)))
  (oX:FnF K (top 6) "sides" "sides" lL mW)
  (cC:MtF K ah "__init__" ak)
  (cw:FnF K (inClass (top 8) 0) "__init__" "Station.__init__" ak bO)
  (eX:MtF K ah "take" aL)
  (fM:FnF K (inClass (top 8) 1) "take" "Station.take" aL dP)
  (cA:MtF K ah "on_first" ai)
  (ck:FnF K (inClass (top 8) 2) "on_first" "Station.on_first" ai bL)
  (c7:MtF K ae "__init__" aS)
  (c9:FnF K (inClass (top 9) 0) "__init__" "Relay.__init__" aS cQ)
  (iT:MtF K ae "take" cH)
  (il:FnF K (inClass (top 9) 1) "take" "Relay.take" cH gL)
  (fX:MtF K ad "take" bW)
  (gN:FnF K (inClass (top 10) 0) "take" "Sorter.take" bW eI)
  (cx:MtF K aa "__init__" aO)
  (cm:FnF K (inClass (top 11) 0) "__init__" "Thinner.__init__" aO bM)
  (eW:MtF K aa "take" bz)
  (d7:FnF K (inClass (top 11) 1) "take" "Thinner.take" bz dN)
  (cR:MtF K ab "__init__" aP)
  (cK:FnF K (inClass (top 12) 0) "__init__" "Joiner.__init__" aP cB)
  (fU:MtF K ab "take" cg)
  (gM:FnF K (inClass (top 12) 1) "take" "Joiner.take" cg eB)
  (iL:PySem.W.nsIn K mainGlobals "station_of"=some (some (.ref cW)))
  (iP:FnF K (top 14) "station_of" "station_of" cW fV)
  (pY:PySem.W.nsIn K mainGlobals "door"=some (some (.ref mP)))
  (p_:FnF K (top 3) "door" "door" mP lR)
  (gJ:PySem.W.nsIn K mainGlobals "door_events"=some (some (.ref bX)))
  (fZ:FnF K (top 4) "door_events" "door_events" bX d4)
  (d_:MtF K C_Own "__init__" bE)
  (d9:FnF K (inClass (top 16) 0) "__init__" "Own.__init__" bE dO)
  (j_:MtF K C_Own "taken" dJ)
  (jt:FnF K (inClass (top 16) 1) "taken" "Own.taken" dJ iK)
  (gB:MtF K C_Own "waiting" cj)
  (gK:FnF K (inClass (top 16) 2) "waiting" "Own.waiting" cj eR)
  (gW:MtF K C_Own "promise" b_)
  (fW:FnF K (inClass (top 16) 3) "promise" "Own.promise" b_ eY)
  (lU:MtF K C_Own "row" hV)
  (lV:FnF K (inClass (top 16) 6) "row" "Own.row" hV lE)
  (fu:MtF K C_Own "earliest" bv)
  (eG:FnF K (inClass (top 16) 7) "earliest" "Own.earliest" bv dW)
  (i5:MtF K C_Own "clock" dB)
  (kc:FnF K (inClass (top 16) 4) "clock" "Own.clock" dB iu)
  (fh:MtF K C_Own "upcoming" bD)
  (fk:FnF K (inClass (top 16) 8) "upcoming" "Own.upcoming" bD a6)
  (lB:MtF K C_Own "lets" fG)
  (kN:FnF K (inClass (top 16) 10) "lets" "Own.lets" fG i6)
  (eU:MtF K C_Own "may_take" bw)
  (fv:FnF K (inClass (top 16) 9) "may_take" "Own.may_take" bw dS)
  (bK:MtF K C_Own "raise_promise" aI)
  (bJ:FnF K (inClass (top 16) 13) "raise_promise" "Own.raise_promise" aI bG)
  (bg:MtF K C_Own "raise_promises" aD)
  (bI:FnF K (inClass (top 16) 12) "raise_promises" "Own.raise_promises" aD a9)
  (dh:MtF K C_Own "take_event" aT)
  (du:FnF K (inClass (top 16) 11) "take_event" "Own.take_event" aT cP)
  (kL:MtF K C_Own "step" fw)
  (lJ:FnF K (inClass (top 16) 5) "step" "Own.step" fw jz)
  (ka:PySem.W.nsIn K mainGlobals "_law_draw"=some (some (.ref dG)))
  (jc:FnF K (top 18) "_law_draw" "_law_draw" dG iH)
  (fF:PySem.W.nsIn K mainGlobals "_law_station"=some (some (.ref bH)))
  (ff:FnF K (top 19) "_law_station" "_law_station" bH dU)
  (iS:PySem.W.nsIn K mainGlobals "_law_works"=some (some (.ref cM)))
  (iQ:FnF K (top 20) "_law_works" "_law_works" cM gQ)
  (f6:PySem.W.nsIn K mainGlobals "_law_inward"=some (some (.ref ci)))
  (gq:FnF K (top 21) "_law_inward" "_law_inward" ci fy)
  (iI:PySem.W.nsIn K mainGlobals "_law_begun"=some (some (.ref c6)))
  (ib:FnF K (top 22) "_law_begun" "_law_begun" c6 gu)
  (io:PySem.W.nsIn K mainGlobals "_law_clock"=some (some (.ref cZ)))
  (iJ:FnF K (top 23) "_law_clock" "_law_clock" cZ gA)
  (i8:PySem.W.nsIn K mainGlobals "_law_next"=some (some (.ref dH)))
  (je:FnF K (top 24) "_law_next" "_law_next" dH iA)
  (i_:PySem.W.nsIn K mainGlobals "_law_step"=some (some (.ref dz)))
  (jq:FnF K (top 25) "_law_step" "_law_step" dz iB)
  (a_:PySem.W.nsIn K mainGlobals "_law_stations_shown"=some (some (.ref aC)))
  (bc:FnF K (top 26) "_law_stations_shown" "_law_stations_shown" aC aZ)
  (iz:PySem.W.nsIn K mainGlobals "_law_shown"=some (some (.ref cT)))
  (ip:FnF K (top 27) "_law_shown" "_law_shown" cT gP)
  (a_law:PySem.W.nsIn K mainGlobals "law"=some (some (.ref f_law)))
  (l_law:K.lookup f_law=some ⟨oc_law,od_law,.func (PySem.W.fnOf "law" "law" (defArgs (top 28)) (defBody (top 28)) (defScope (top 28)) .none kV_law dc_law pm_law an_law cd_law ct_law),sl_law⟩)
  (c_law:PySem.W.codeIn K cd_law "law"=true)
  (k_law:PySem.W.keepIn K (.ref f_law)=true)
  (c_:PySem.W.findIn K (.ref ae) "on_first"=some (some (.ref ai)))
  (cr:PySem.W.findIn K (.ref aa) "on_first"=some (some (.ref ai)))
  (c3:PySem.W.findIn K (.ref ab) "on_first"=some (some (.ref ai)))
  (cG:PySem.W.findIn K (.ref ad) "__init__"=some (some (.ref ak)))
  (dM:PySem.W.findIn K (.ref af) "__init__"=some (some (.ref ak)))
  (iZ:PySem.W.findIn K (.ref af) "take"=some (some (.ref aL)))
  (ky:PySem.W.specialIn K (.ref ah) "__getattribute__"=some (some (.builtin "type.__getattribute__")))
  (pF:PySem.W.typeIn K (.ref ah)=some cn)
  (kM:PySem.W.readsIn K ah cn=true)
  (bN:PySem.W.findCls K (.ref ah) cn "__init__"=some (.val (.ref ak)))
  (kh:PySem.W.plainGet K ah Str.empty=true)
  (kl:PySem.W.hasDictIn K ah=true)
  (kX:PySem.W.plainOver K ah=true)
  (k4:PySem.W.findIn K (.ref ah) "__setattr__"=some (some (.builtin "object.__setattr__")))
  (pM:PySem.W.makesIn K ah=true)
  (qa:PySem.W.keepIn K (.ref ah)=true)
  (mY:PySem.W.findIn K (.ref ah) "ways"=some none)
  (mO:PySem.W.findIn K (.ref ah) "belts"=some none)
  (nR:PySem.W.plainGet K ae Str.empty=true)
  (nr:PySem.W.hasDictIn K ae=true)
  (nu:PySem.W.plainOver K ae=true)
  (m7:PySem.W.findIn K (.ref ae) "__setattr__"=some (some (.builtin "object.__setattr__")))
  (nS:PySem.W.makesIn K ae=true)
  (nh:PySem.W.keepIn K (.ref ae)=true)
  (ix:PySem.W.findIn K (.ref ae) "ways"=some none)
  (gx:PySem.W.findIn K (.ref ae) "belts"=some none)
  (iG:PySem.W.findIn K (.ref ae) "more"=some none)
  (mt:PySem.W.plainGet K ad Str.empty=true)
  (mH:PySem.W.hasDictIn K ad=true)
  (mN:PySem.W.plainOver K ad=true)
  (mE:PySem.W.findIn K (.ref ad) "__setattr__"=some (some (.builtin "object.__setattr__")))
  (mF:PySem.W.makesIn K ad=true)
  (ma:PySem.W.keepIn K (.ref ad)=true)
  (gZ:PySem.W.findIn K (.ref ad) "ways"=some none)
  (dX:PySem.W.findIn K (.ref ad) "belts"=some none)
  (ku:PySem.W.plainGet K aa Str.empty=true)
  (lG:PySem.W.hasDictIn K aa=true)
  (k_:PySem.W.plainOver K aa=true)
  (lA:PySem.W.findIn K (.ref aa) "__setattr__"=some (some (.builtin "object.__setattr__")))
  (kj:PySem.W.makesIn K aa=true)
  (lD:PySem.W.keepIn K (.ref aa)=true)
  (dZ:PySem.W.findIn K (.ref aa) "ways"=some none)
  (dR:PySem.W.findIn K (.ref aa) "belts"=some none)
  (dQ:PySem.W.findIn K (.ref aa) "every"=some none)
  (eV:PySem.W.findIn K (.ref aa) "seen"=some none)
  (lY:PySem.W.plainGet K ab Str.empty=true)
  (mJ:PySem.W.hasDictIn K ab=true)
  (mG:PySem.W.plainOver K ab=true)
  (me:PySem.W.findIn K (.ref ab) "__setattr__"=some (some (.builtin "object.__setattr__")))
  (l_:PySem.W.makesIn K ab=true)
  (lW:PySem.W.keepIn K (.ref ab)=true)
  (fY:PySem.W.findIn K (.ref ab) "ways"=some none)
  (eS:PySem.W.findIn K (.ref ab) "belts"=some none)
  (f9:PySem.W.findIn K (.ref ab) "kept"=some none)
  (oW:PySem.W.plainGet K af Str.empty=true)
  (ox:PySem.W.hasDictIn K af=true)
  (oN:PySem.W.plainOver K af=true)
  (ou:PySem.W.findIn K (.ref af) "__setattr__"=some (some (.builtin "object.__setattr__")))
  (o6:PySem.W.makesIn K af=true)
  (oS:PySem.W.keepIn K (.ref af)=true)
  (jj:PySem.W.findIn K (.ref af) "ways"=some none)
  (iN:PySem.W.findIn K (.ref af) "belts"=some none)
  (pP:PySem.W.plainGet K C_Own Str.empty=true)
  (p0:PySem.W.hasDictIn K C_Own=true)
  (pN:PySem.W.plainOver K C_Own=true)
  (pH:PySem.W.findIn K (.ref C_Own) "__setattr__"=some (some (.builtin "object.__setattr__")))
  (pT:PySem.W.makesIn K C_Own=true)
  (pG:PySem.W.keepIn K (.ref C_Own)=true)
  (d3:PySem.W.findIn K (.ref C_Own) "stations"=some none)
  (im:PySem.W.findIn K (.ref C_Own) "delays"=some none)
  (i7:PySem.W.findIn K (.ref C_Own) "doors"=some none)
  (lF:PySem.W.findIn K (.ref C_Own) "rows"=some none)
  (fb:PySem.W.findIn K (.ref C_Own) "promises"=some none)
  (lq:PySem.W.findIn K (.ref C_Own) "logs"=some none)
  (aD_:PySem.W.nsIn K mainGlobals "DOOR"=some (some (.int (-1) tkD)))
  (cd_is:lR=.ref cD)
  (cu_is:a6=.ref cU)
  (ss_:PySem.W.kitOne K (.type "str") (.type "str")=some true)
  (z_tuple:PySem.W.nsIn K mainGlobals "tuple"=some none)
  (z_len:PySem.W.nsIn K mainGlobals "len"=some none)
  (z_range:PySem.W.nsIn K mainGlobals "range"=some none)
  (z_list:PySem.W.nsIn K mainGlobals "list"=some none)
  (z_isinstance:PySem.W.nsIn K mainGlobals "isinstance"=some none)
  (z_bool:PySem.W.nsIn K mainGlobals "bool"=some none)
  (z_int:PySem.W.nsIn K mainGlobals "int"=some none)
  (z_any:PySem.W.nsIn K mainGlobals "any"=some none)
  (z_min:PySem.W.nsIn K mainGlobals "min"=some none)
  (z_enumerate:PySem.W.nsIn K mainGlobals "enumerate"=some none)
  (z_sorted:PySem.W.nsIn K mainGlobals "sorted"=some none)
  (z_sum:PySem.W.nsIn K mainGlobals "sum"=some none)
  (z_all:PySem.W.nsIn K mainGlobals "all"=some none)
  (z_str:PySem.W.nsIn K mainGlobals "str"=some none) :
  ∃ fd:FuncData,(∀(s:Shared) (v:Value),BindsTo s fd ⟨[v],[]⟩ [("script",v)])∧∀ base:Heap,K.In base→base.Ns mainGlobals mg→Tab K mg base cD PD→Tab K mg base cU PU→FnOk l.prog w K mg base CX0 7 fa fd ["script"] (spLaw PD PU K):=by
 have e:=hfa.symm.trans (PySem.W.mg_of X G a_law)
 cases e
 have T:Txt K mg:=⟨PySem.W.mg_none_of X G z_tuple,PySem.W.mg_none_of X G z_len,PySem.W.mg_none_of X G z_range,PySem.W.mg_none_of X G z_list,PySem.W.mg_none_of X G z_isinstance,PySem.W.mg_none_of X G z_bool,PySem.W.mg_none_of X G z_int,PySem.W.mg_none_of X G z_any,PySem.W.mg_none_of X G z_min,PySem.W.mg_none_of X G z_enumerate,PySem.W.mg_none_of X G z_sorted,PySem.W.mg_none_of X G z_sum,PySem.W.mg_none_of X G z_all,PySem.W.mg_none_of X G z_str⟩
 obtain⟨qj,mR,pI,qi⟩:=p9.fn
 have pC:=mR.binds (ps:=["works","station"]) (by injections)
 have pO:=PySem.W.mg_of X G pZ
 obtain⟨qd,g_,mi,qb⟩:=mz.fn
 have mf:=g_.binds (ps:=["works","station"]) (by injections)
 have mB:=PySem.W.mg_of X G mC
 obtain⟨qf,lN,oQ,qg⟩:=oX.fn
 have oR:=lN.binds (ps:=["works","station"]) (by injections)
 have oY:=PySem.W.mg_of X G o0
 obtain⟨kW,ap,cz,kQ⟩:=cw.fn
 obtain⟨kq,aN⟩:=cC
 have aw:=ap.binds (ps:=["self","ways","belts"]) (by injections)
 obtain⟨nO,bi,fq,m_⟩:=fM.fn
 obtain⟨mU,eZ⟩:=eX
 have eJ:=bi.binds (ps:=["self","way","piece"]) (by injections)
 obtain⟨kZ,am,av,kr⟩:=ck.fn
 obtain⟨ko,ay⟩:=cA
 have ax:=am.binds (ps:=["self","piece"]) (by injections)
 obtain⟨mw,aV,mM,mD⟩:=c9.fn
 obtain⟨df,dk⟩:=c7
 have dy:=aV.binds (ps:=["self","ways","belts","more"]) (by injections)
 obtain⟨oE,c5,iR,oK⟩:=il.fn
 obtain⟨ic,h9⟩:=iT
 have iO:=c5.binds (ps:=["self","way","piece"]) (by injections)
 obtain⟨nZ,bU,gO,nV⟩:=gN.fn
 obtain⟨gE,gX⟩:=fX
 have f7:=bU.binds (ps:=["self","way","piece"]) (by injections)
 obtain⟨kY,aK,kx,kU⟩:=cm.fn
 obtain⟨cq,cy⟩:=cx
 have cp:=aK.binds (ps:=["self","ways","belts","every"]) (by injections)
 obtain⟨mT,bB,eP,nU⟩:=d7.fn
 obtain⟨eQ,d6⟩:=eW
 have fQ:=bB.binds (ps:=["self","way","piece"]) (by injections)
 obtain⟨lQ,aQ,lK,lP⟩:=cK.fn
 obtain⟨cF,cE⟩:=cR
 have cN:=aQ.binds (ps:=["self","ways","belts"]) (by injections)
 obtain⟨nY,bZ,gU,oh⟩:=gM.fn
 obtain⟨gr,gT⟩:=fU
 have gd:=bZ.binds (ps:=["self","way","piece"]) (by injections)
 obtain⟨oJ,cY,ig,oO⟩:=iP.fn
 have iw:=cY.binds (ps:=["works","station"]) (by injections)
 have ij:=PySem.W.mg_of X G iL
 obtain⟨qh,nL,pB,pR⟩:=p_.fn
 replace cd_is:=pR.trans cd_is
 have pX:=nL.binds (ps:=["works","station"]) (by injections)
 have pL:=PySem.W.mg_of X G pY
 obtain⟨oj,b9,f8,om⟩:=fZ.fn
 have f_:=b9.binds (ps:=["works","station"]) (by injections)
 have gG:=PySem.W.mg_of X G gJ
 obtain⟨nq,bd,m5,ny⟩:=d9.fn
 obtain⟨d5,fz⟩:=d_
 have fK:=bd.binds (ps:=["self","works"]) (by injections)
 obtain⟨pq,dA,ji,pj⟩:=jt.fn
 obtain⟨jo,jf⟩:=j_
 have jw:=dA.binds (ps:=["self","station"]) (by injections)
 obtain⟨og,bT,gD,n8⟩:=gK.fn
 obtain⟨gF,gC⟩:=gB
 have gz:=bT.binds (ps:=["self","belt"]) (by injections)
 obtain⟨oi,bV,gn,oe⟩:=fW.fn
 obtain⟨gR,gh⟩:=gW
 have gH:=bV.binds (ps:=["self","belt"]) (by injections)
 obtain⟨qc,hZ,mo,qe⟩:=lV.fn
 obtain⟨mK,mI⟩:=lU
 have lZ:=hZ.binds (ps:=["self","station","way"]) (by injections)
 obtain⟨nJ,bA,d8,m8⟩:=eG.fn
 obtain⟨eM,dY⟩:=fu
 have fI:=bA.binds (ps:=["self","station","way"]) (by injections)
 obtain⟨pi,dD,jp,ph⟩:=kc.fn
 obtain⟨jx,i9⟩:=i5
 have ja:=dD.binds (ps:=["self","station"]) (by injections)
 obtain⟨mQ,bh,fP,fg⟩:=fk.fn
 obtain⟨eD,eT⟩:=fh
 replace cu_is:=fg.trans cu_is
 have fN:=bh.binds (ps:=["self","station"]) (by injections)
 obtain⟨pD,fc,kR,pA⟩:=kN.fn
 obtain⟨km,lH⟩:=lB
 have lC:=fc.binds (ps:=["self","belt","event"]) (by injections)
 obtain⟨ng,bu,e_,m6⟩:=fv.fn
 obtain⟨fL,fm⟩:=eU
 have fj:=bu.binds (ps:=["self","station","event"]) (by injections)
 obtain⟨kg,aH,bQ,ke⟩:=bJ.fn
 obtain⟨bR,bP⟩:=bK
 have bS:=aH.binds (ps:=["self","belt","now"]) (by injections)
 obtain⟨ju,aE,bj,iX⟩:=bI.fn
 obtain⟨bx,bo⟩:=bg
 have br:=aE.binds (ps:=["self","station"]) (by injections)
 obtain⟨mh,aU,dn,mL⟩:=du.fn
 obtain⟨dm,di⟩:=dh
 have c8:=aU.binds (ps:=["self","station","event"]) (by injections)
 obtain⟨pQ,fH,kT,pE⟩:=lJ.fn
 obtain⟨lI,ly⟩:=kL
 have kK:=fH.binds (ps:=["self","station"]) (by injections)
 obtain⟨pw,dF,jg,o9⟩:=jc.fn
 have jm:=dF.binds (ps:=["script","k"]) (by injections)
 have jl:=PySem.W.mg_of X G ka
 obtain⟨nQ,bF,fx,nI⟩:=ff.fn
 have eK:=bF.binds (ps:=["number"]) (by injections)
 have eF:=PySem.W.mg_of X G fF
 obtain⟨oq,cV,ie,oH⟩:=iQ.fn
 have h_:=cV.binds (ps:=["script"]) (by injections)
 have iM:=PySem.W.mg_of X G iS
 obtain⟨n_,bY,gY,oo⟩:=gq.fn
 have gw:=bY.binds (ps:=["works","station"]) (by injections)
 have gy:=PySem.W.mg_of X G f6
 obtain⟨ot,cI,iC,oz⟩:=ib.fn
 have iD:=cI.binds (ps:=["works"]) (by injections)
 have iU:=PySem.W.mg_of X G iI
 obtain⟨oF,c4,ia,ow⟩:=iJ.fn
 have ir:=c4.binds (ps:=["works","held","station"]) (by injections)
 have iF:=PySem.W.mg_of X G io
 obtain⟨o_,dL,jy,px⟩:=je.fn
 have jh:=dL.binds (ps:=["works","held","station"]) (by injections)
 have iY:=PySem.W.mg_of X G i8
 obtain⟨o7,dI,jb,o8⟩:=jq.fn
 have jv:=dI.binds (ps:=["works","held","things","station"]) (by injections)
 have jr:=PySem.W.mg_of X G i_
 obtain⟨iW,aA,a7,iV⟩:=bc.fn
 have a8:=aA.binds (ps:=["own","works","held","stations","order"]) (by injections)
 have bb:=PySem.W.mg_of X G a_
 obtain⟨oT,cJ,iy,oM⟩:=ip.fn
 have iE:=cJ.binds (ps:=["own","works","held","stations","order"]) (by injections)
 have ik:=PySem.W.mg_of X G iz
 have F_law:=fun_mk (st:=(top 28)) l_law c_law k_law
 have b_law:=F_law.binds (ps:=["script"]) (by injections)
 have m_law:=PySem.W.mg_of X G a_law
 have au:=PySem.W.mg_of X G kJ
 have pz:Cls K ah:=⟨kh,kl,kX,k4⟩
 have oG:=PySem.W.mg_of X G nA
 have eE:Cls K ae:=⟨nR,nr,nu,m7⟩
 have ni:=PySem.W.mg_of X G ml
 have hE:Cls K ad:=⟨mt,mH,mN,mE⟩
 have lT:=PySem.W.mg_of X G kO
 have cu:Cls K aa:=⟨ku,lG,k_,lA⟩
 have nv:=PySem.W.mg_of X G mq
 have dw:Cls K ab:=⟨lY,mJ,mG,me⟩
 have pS:=PySem.W.mg_of X G oU
 have lM:Cls K af:=⟨oW,ox,oN,ou⟩
 have g_Own:=PySem.W.mg_of X G pU
 have az:Cls K C_Own:=⟨pP,p0,pN,pH⟩
 refine⟨PySem.W.fnOf "law" "law" (defArgs (top 28)) (defBody (top 28)) (defScope (top 28)) .none kV_law dc_law pm_law an_law cd_law ct_law,fun s v=>.of_eq rfl,fun base _ _ tb tu=>?_⟩
 have g_DOOR:=PySem.W.mg_of X G aD_
 have c:CsOk K ⟨ae,ad,aa,ab,af⟩:=⟨⟨⟨eE,ix,gx⟩,iG⟩,⟨hE,gZ,dX⟩,⟨⟨cu,dZ,dR⟩,dQ,eV⟩,⟨⟨dw,fY,eS⟩,f9⟩,⟨lM,jj,iN⟩⟩
 have L1:ClsAt l.prog w K mg base 1 ah "__init__" ["self","ways","belts"] (spStI K):=⟨⟨_,_,ok_stI ap T,⟨ky,⟨_,kM,bN⟩,cz⟩,aw⟩⟩
 have O1:MethAt l.prog w K mg base 1 ae "on_first" ["self","piece"] (spOne K):=⟨⟨_,_,ok_one am T,⟨c_,ay,av⟩,ax⟩,eE⟩
 have O3:MethAt l.prog w K mg base 1 aa "on_first" ["self","piece"] (spOne K):=⟨⟨_,_,ok_one am T,⟨cr,ay,av⟩,ax⟩,cu⟩
 have O4:MethAt l.prog w K mg base 1 ab "on_first" ["self","piece"] (spOne K):=⟨⟨_,_,ok_one am T,⟨c3,ay,av⟩,ax⟩,dw⟩
 have K1:MethAt l.prog w K mg base 2 ae "take" ["self","way","piece"] (spRlT ae):=⟨⟨_,_,ok_rlT c5 c.rl O1,⟨ic,h9,iR⟩,iO⟩,eE⟩
 have K2:MethAt l.prog w K mg base 1 ad "take" ["self","way","piece"] (spSrT ad):=⟨⟨_,_,ok_srT bU T c.so,⟨gE,gX,gO⟩,f7⟩,hE⟩
 have K3:MethAt l.prog w K mg base 2 aa "take" ["self","way","piece"] (spThT aa):=⟨⟨_,_,ok_thT bB c.th O3,⟨eQ,d6,eP⟩,fQ⟩,cu⟩
 have K4:MethAt l.prog w K mg base 2 ab "take" ["self","way","piece"] (spJnT ab):=⟨⟨_,_,ok_jnT bZ T c.jn O4,⟨gr,gT,gU⟩,gd⟩,dw⟩
 have K5:MethAt l.prog w K mg base 1 af "take" ["self","way","piece"] spNon:=⟨⟨_,_,ok_stT bi,⟨iZ,eZ,fq⟩,eJ⟩,lM⟩
 have TK:=take_all (cs:=⟨ae,ad,aa,ab,af⟩) K1 K2 K3 K4 K5
 have M1:MkAt l.prog w K mg base 2 "Relay" ae ["self","ways","belts","more"] (spRlI K):=⟨⟨_,_,ok_rlI aV au L1,⟨nS,df,dk,nh⟩,dy⟩,oG⟩
 have M2:MkAt l.prog w K mg base 1 "Sorter" ad ["self","ways","belts"] (spStI K):=⟨⟨_,_,ok_stI ap T,⟨mF,cG,aN,ma⟩,aw⟩,ni⟩
 have M3:MkAt l.prog w K mg base 2 "Thinner" aa ["self","ways","belts","every"] (spThI K):=⟨⟨_,_,ok_thI aK au L1,⟨kj,cq,cy,lD⟩,cp⟩,lT⟩
 have M4:MkAt l.prog w K mg base 2 "Joiner" ab ["self","ways","belts"] (spJnI K):=⟨⟨_,_,ok_jnI aQ au L1,⟨l_,cF,cE,lW⟩,cN⟩,nv⟩
 have M5:MkAt l.prog w K mg base 1 "Sink" af ["self","ways","belts"] (spStI K):=⟨⟨_,_,ok_stI ap T,⟨o6,dM,aN,oS⟩,aw⟩,pS⟩
 have GW:FnAt l.prog w K mg base 1 "ways" ["works","station"] spWays:=⟨⟨_,_,oZ mR T g_DOOR,pO,pI,pC⟩⟩
 have GL:FnAt l.prog w K mg base 1 "leaving" ["works","station"] spLeav:=⟨⟨_,_,ok_leav g_ T,mB,mi,mf⟩⟩
 have GS:FnAt l.prog w K mg base 2 "sides" ["works","station"] spSides:=⟨⟨_,_,nC lN GW GL,oY,oQ,oR⟩⟩
 have GO:FnAt l.prog w K mg base 4 "station_of" ["works","station"] (spSo ⟨ae,ad,aa,ab,af⟩):=⟨⟨_,_,ok_so cY c GS M1 M2 M3 M4 M5,ij,ig,iw⟩⟩
 have cO:OwC K C_Own:=⟨az,d3,im,i7,lF,fb,lq⟩
 have lu:FnAt l.prog w K mg base 1 "door" ["works","station"] (spDoor PD):=⟨⟨_,_,oy nL cd_is tb T,pL,pB,pX⟩⟩
 have aR:FnAt l.prog w K mg base 2 "door_events" ["works","station"] (spDE PD):=⟨⟨_,_,ok_de b9 g_DOOR lu,gG,f8,f_⟩⟩
 have MO:MkAt l.prog w K mg base 5 "Own" C_Own ["self","works"] (spOwI K ⟨ae,ad,aa,ab,af⟩ C_Own PD):=⟨⟨_,_,ok_owI bd T cO GO aR,⟨pT,d5,fz,pG⟩,fK⟩,g_Own⟩
 have O_taken:MethAt l.prog w K mg base 1 C_Own "taken" ["self","station"] (spTaken ⟨ae,ad,aa,ab,af⟩ C_Own):=⟨⟨_,_,ok_taken dA T cO,⟨jo,jf,ji⟩,jw⟩,az⟩
 have O_waiting:MethAt l.prog w K mg base 1 C_Own "waiting" ["self","belt"] (spWait ⟨ae,ad,aa,ab,af⟩ C_Own):=⟨⟨_,_,ok_wait bT T cO,⟨gF,gC,gD⟩,gz⟩,az⟩
 have O_promise:MethAt l.prog w K mg base 1 C_Own "promise" ["self","belt"] (spProm ⟨ae,ad,aa,ab,af⟩ C_Own):=⟨⟨_,_,ok_prom bV cO,⟨gR,gh,gn⟩,gH⟩,az⟩
 have O_row:MethAt l.prog w K mg base 1 C_Own "row" ["self","station","way"] (spRow ⟨ae,ad,aa,ab,af⟩ C_Own):=⟨⟨_,_,ok_orow hZ g_DOOR cO,⟨mK,mI,mo⟩,lZ⟩,az⟩
 have O_earliest:MethAt l.prog w K mg base 2 C_Own "earliest" ["self","station","way"] (spEar ⟨ae,ad,aa,ab,af⟩ C_Own):=⟨⟨_,_,ok_ear bA T g_DOOR cO O_row,⟨eM,dY,d8⟩,fI⟩,az⟩
 have O_clock:MethAt l.prog w K mg base 3 C_Own "clock" ["self","station"] (spClk ⟨ae,ad,aa,ab,af⟩ C_Own):=⟨⟨_,_,ok_clk dD T cO c O_earliest,⟨jx,i9,jp⟩,ja⟩,az⟩
 have O_upcoming:MethAt l.prog w K mg base 2 C_Own "upcoming" ["self","station"] (spUpc ⟨ae,ad,aa,ab,af⟩ C_Own PU):=⟨⟨_,_,ok_upc bh cu_is tu T cO c O_row,⟨eD,eT,fP⟩,fN⟩,az⟩
 have O_lets:MethAt l.prog w K mg base 1 C_Own "lets" ["self","belt","event"] (spLets ⟨ae,ad,aa,ab,af⟩ C_Own):=⟨⟨_,_,ok_lets fc T cO,⟨km,lH,kR⟩,lC⟩,az⟩
 have O_may_take:MethAt l.prog w K mg base 2 C_Own "may_take" ["self","station","event"] (spMay ⟨ae,ad,aa,ab,af⟩ C_Own):=⟨⟨_,_,ok_may bu T g_DOOR cO c O_lets,⟨fL,fm,e_⟩,fj⟩,az⟩
 have O_raise_promise:MethAt l.prog w K mg base 1 C_Own "raise_promise" ["self","belt","now"] (spRp ⟨ae,ad,aa,ab,af⟩ C_Own):=⟨⟨_,_,ok_rp aH cO,⟨bR,bP,bQ⟩,bS⟩,az⟩
 have O_raise_promises:MethAt l.prog w K mg base 4 C_Own "raise_promises" ["self","station"] (spRps ⟨ae,ad,aa,ab,af⟩ C_Own):=⟨⟨_,_,ok_rps aE cO c O_clock O_raise_promise,⟨bx,bo,bj⟩,br⟩,az⟩
 have O_take_event:MethAt l.prog w K mg base 3 C_Own "take_event" ["self","station","event"] (spTE ⟨ae,ad,aa,ab,af⟩ C_Own):=⟨⟨_,_,ok_te aU T cO c O_row TK,⟨dm,di,dn⟩,c8⟩,az⟩
 have O_step:MethAt l.prog w K mg base 5 C_Own "step" ["self","station"] (spStep ⟨ae,ad,aa,ab,af⟩ C_Own PU):=⟨⟨_,_,ok_step fH O_upcoming O_may_take O_take_event O_raise_promises,⟨lI,ly,kT⟩,kK⟩,az⟩
 have ag:FnAt l.prog w K mg base 1 "_law_draw" ["script","k"] (spDraw K):=⟨⟨_,_,ok_draw dF T,jl,jg,jm⟩⟩
 have aM:FnAt l.prog w K mg base 1 "_law_station" ["number"] (spSta):=⟨⟨_,_,ok_sta bF,eF,fx,eK⟩⟩
 have aW:FnAt l.prog w K mg base 2 "_law_works" ["script"] (spWks K):=⟨⟨_,_,ok_wks cV T ag aM,iM,ie,h_⟩⟩
 have aq:FnAt l.prog w K mg base 1 "_law_inward" ["works","station"] (spWays):=⟨⟨_,_,ok_inward bY T,gy,gY,gw⟩⟩
 have aX:FnAt l.prog w K mg base 1 "_law_begun" ["works"] (spBeg):=⟨⟨_,_,ok_beg cI T,iU,iC,iD⟩⟩
 have ar:FnAt l.prog w K mg base 2 "_law_clock" ["works","held","station"] (spHClk ⟨ae,ad,aa,ab,af⟩):=⟨⟨_,_,ok_hclk c4 T aq,iF,ia,ir⟩⟩
 have bp:FnAt l.prog w K mg base 2 "_law_next" ["works","held","station"] (spNxt ⟨ae,ad,aa,ab,af⟩):=⟨⟨_,_,ok_nxt dL T aq,iY,jy,jh⟩⟩
 have bC:FnAt l.prog w K mg base 3 "_law_step" ["works","held","things","station"] (spHSt ⟨ae,ad,aa,ab,af⟩):=⟨⟨_,_,ok_hst dI T c bp ar TK,jr,jb,jv⟩⟩
 have al:FnAt l.prog w K mg base 4 "_law_stations_shown" ["own","works","held","stations","order"] (spSts K ⟨ae,ad,aa,ab,af⟩ C_Own):=⟨⟨_,_,ok_sts aA T ar O_clock O_taken,bb,a7,a8⟩⟩
 have aJ:FnAt l.prog w K mg base 5 "_law_shown" ["own","works","held","stations","order"] (spSts K ⟨ae,ad,aa,ab,af⟩ C_Own):=⟨⟨_,_,ok_shw cJ T al O_waiting O_promise,ik,iy,iE⟩⟩
 exact ok_law F_law T ss_ aW MO O_step aX GO bC aJ ag
def CodeIn (_:PySem.W.Frag) (_ _:Str) (_ _:Addr):Prop:=True
theorem codeIn_of {K:PySem.W.Frag} {y x:Str} {C f c P:Addr} {oc oc':Value} {od od':Option Addr} {fd:FuncData} {vs:Array Value} {sl sl':Array (Option Value)} (_:PySem.W.nsIn K mainGlobals y=some (some (.ref C))) (_:PySem.W.findIn K (.ref C) x=some (some (.ref f))) (_:K.lookup f=some ⟨oc,od,.func fd,sl⟩) (_:fd.code=.ref c)
  (_:K.lookup c=some ⟨oc',od',.fields vs,sl'⟩) (_:vs[11]?=some (.ref P)):CodeIn K y x c P:=trivial
theorem walk {l:PySem.W.OpenLaw} {q:Program} {loose:List Str} {XP:(Str→Option Value)→Heap→Prop} {YP:World→Heap→Prop} {d:DefRec} {K:Params→PySem.W.Frag} {ts:List Addr} {cD PD cU PU:Addr} (hn:l.most=some 63) (hdf:d.params.defaults=[])
  (hY:∀(w:World) (h:Heap),YP w h→(K w.params).In h) (hYt:∀(w:World) (h:Heap),YP w h→∀ P ∈ ts,h.get? P=some (PySem.W.tabObj #[]))
  (_:∀ w:World,PySem.W.tabIn (K w.params) "door"=some (cD,PD)) (_:∀ w:World,CodeIn (K w.params) "Own" "upcoming" cU PU)
  (hN1:PD ∈ ts∧∀ w:World,PySem.W.codeHdIn (K w.params) cD PD=true∧(K w.params).lookup PD=none) (hN2:PU ∈ ts∧∀ w:World,PySem.W.codeHdIn (K w.params) cU PU=true∧(K w.params).lookup PU=none) (ne:PD ≠ PU)
  (F:∀(w:World) (mg:Str→Option Value) (fa:Addr) (h:Heap),(K w.params).In h→h.Ns mainGlobals mg→mg d.name=some (.ref fa) →
   ∃ fd:FuncData,(∀(s:Shared) (u:Value),BindsTo s fd ⟨[u],[]⟩ [("script",u)])∧∀ base:Heap,(K w.params).In base→base.Ns mainGlobals mg→Tab (K w.params) mg base cD PD→Tab (K w.params) mg base cU PU→FnOk l.prog w (K w.params) mg base CX0 7 fa fd ["script"] (spLaw PD PU (K w.params))) :
  PySem.W.WalkO q loose XP YP l.row.toRowW d [] (fun f vs=>PySem.call f vs):=by
 refine Att.attach_call hn hdf fun w s₀ s₁ mg mb fa o pm cd doc a vs ns G Y ho hd hcd hmg hobj hints hlen hg=>?_
 have KX:=hY w _ Y
 obtain⟨fd,hb,hF⟩:=F w mg fa _ KX G.T.g hmg
 have mk:∀ {c P:Addr},P ∈ ts→PySem.W.codeHdIn (K w.params) c P=true→(K w.params).lookup P=none→Tab (K w.params) mg s₁.heap c P∧s₁.heap.get? P=some (PySem.W.tabObj #[])∧(K w.params).lookup P=none:=fun {c P} h1 h2 h3=>by
  have hP:=hYt w _ Y P h1
  obtain⟨bm,ob,b1,b2,b3,b4,b5,b6⟩:=G.T.bmain
  have hbP:bm ≠ P:=fun q=>by rw[q,hP] at b3; cases b3; cases b4
  have hbG:bm ≠ mainGlobals:=fun q=>by
   obtain⟨o,es,ep,e,hd,_⟩:=G.T.g
   rw[q,e] at b3; cases b3; rw[hd] at b6; cases b6
  exact⟨⟨PySem.W.codeHd_of_K KX h2,⟨bm,ob,b1,b2,hbG,hbP,b3,b4,b5,b6⟩⟩,hP,h3⟩
 refine L2.law_callT (k:=7) (x:="script") (CX:=CX0) (sp:=spLaw PD PU (K w.params)) (tabs:=[(cD,PD),(cU,PU)]) KX G.T.g G.T.b G.T.builtins G.T.nolimit hg hobj hints (z4 hlen (by decide)) ⟨rfl,by decide,by decide⟩ (fun t ht=>?_) (fun base kb nb hTb=>hF base kb nb (hTb _ zL) (hTb _ (zI _ zL))) hb (fun H hO hS=>?_) fun H e s' z=>z
 ·rcases zQ.mp ht with e|e
  ·rw[e]; exact mk hN1.1 (hN1.2 w).1 (hN1.2 w).2
  ·rw[zF.mp e]; exact mk hN2.1 (hN2.2 w).1 (hN2.2 w).2
 ·have tb:∀ P ∈ [PD,PU],H P=some (.tbl #[]):=fun P hP=>by
   rcases hO P with ⟨_,h⟩|⟨h,_⟩
   ·exact h
   ·exact absurd hP h
  exact⟨a,ns,rfl,hS,hlen,.inl (tb PD zL),.inl (tb PU (zI _ zL)),ne,fun _=>rfl⟩
end Oc
namespace Oc
open PySem PySem.W PyProof.Rows PySem.Calls
abbrev pW:Program:=PySem.Challenge.pw_ownclocks_k22_steps_walked
noncomputable def hEnv:Env:={ scope:=pW.main.scope,locals:=mainNs,globals:=mainNs,cells:=[],code:=.ref 13,frame:=some 14 }
noncomputable def hB:List Stmt:=behindTheImports pW
noncomputable def hC:Code:=.body hB hEnv
noncomputable def hF:List Frame:=[topFrame ⟨0,0,0,0⟩]
noncomputable def o11:Obj:=⟨.type "tuple",none,.seq #[] 0,#[]⟩
noncomputable def o12:Obj:=⟨.none,none,.fields #[],#[]⟩
noncomputable def o13:Obj:=⟨.type "code",none,.fields #[.str "<module>" 182,.str "<module>" 183,.str "/claim/cut.py" 184,.int 1 0,.int 0 0,.int 0 0,.int 0 0,.int 0 0,.ref 11,.bool false,.int 181 0,.ref 12,.none,.none,.none,.none,.int 185 0,.int 1 0,.str "/claim/cut.py" 186],#[]⟩
noncomputable def o14:Obj:=⟨.type "frame",none,.plain,#[some (.ref 13),some (.ref 3),some (.ref 3),none,some (.str "__main__" 164),none,some (.ref 0)]⟩
noncomputable def hT (P:Params):BT:=(.node (boot_o_0 P) (.node (boot_o_1 P) (.node (boot_o_3 P) (.node (boot_o_7 P) .nil .nil) (.node o11 .nil .nil)) (.node (boot_o_5 P) (.node (boot_o_9 P) .nil .nil) (.node o13 .nil .nil))) (.node (boot_o_2 P) (.node (boot_o_4 P) (.node (boot_o_8 P) .nil .nil) (.node o12 .nil .nil)) (.node (boot_o_6 P) (.node (boot_o_10 P) .nil .nil) (.node o14 .nil .nil))))
noncomputable def hS (w:World) (os:OsState):SharedT:=⟨hT w.params,15,(boot_heap w.params).life,#[],boot_drawn,187,os⟩
theorem h_fin (w:World) (s:SharedT) (q:Pos):topRun treeTable pW w 11 (some (.ref 6)) 2 s.abs ⟨doneF .next,hC,q,hF⟩=some s.abs:=rfl
theorem h_block (w:World) (os:OsState):segRunT treeTable pW w 11 (some (.ref 6)) 1 1 (hS w os) (blockOf hB hEnv hC ⟨0,0,0,0⟩ hF)=some (.next,hS w os,hC,⟨0,0,0,0⟩):=by
 kernel_rfl
theorem h_pre (w:World) (os:OsState):topGo treeTable pW w 11 (some (.ref 6)) 12 ⟨boot_heap w.params,#[],boot_drawn,boot_toks,os⟩ (topStub pW)=some ((hS w os).abs,⟨denote treeTable hC,hC,⟨0,0,0,0⟩,hF⟩):=by
 kernel_rfl
noncomputable def dE (P:Params) (k:Str) (t:Nat) (v:Value):DictEntry:=⟨PyData.keyHash P k,.str k t,v⟩
noncomputable def cO (nm ql:Str) (t ln ac fl:Nat) (tp:Addr) (b:Bool) (tb:Addr) (x y z:Value) (T:Nat):Obj:=⟨.type "code",none,.fields #[.str nm t,.str ql (t + 1),.str "/claim/cut.py" (t + 2),.int ln 0,.int ac 0,.int 0 0,.int 0 0,.int fl 0,.ref tp,.bool b,.int 181 0,.ref tb,.none,x,y,z,.int T 0,.int ln 0,.str "/claim/cut.py" (T + 1)],#[]⟩
noncomputable def fO (s:Stmt) (nm ql:Str) (pm cd:Value):Obj:=⟨.type "function",none,.func (fnOf nm ql (L2.defArgs s) (L2.defBody s) (L2.defScope s) .none .none .none pm none cd .none),#[]⟩
noncomputable def cL (nm:Str) (bs mr:List Value) (ns:Addr) (ql:Str) (hd:Bool) (sub:List Value):ClassData:={ name:=nm,bases:=bs,mro:=mr,ns:=ns,qualname:=ql,hasDict:=hd,subclasses:=sub }
noncomputable def hK:Params→Frag:=fun P=>(nat_lit 2,⟨.none,none,.dict #[] 0,#[]⟩) ::
 (nat_lit 3,⟨.type "dict",none,.dict #[dE P "__name__" 165 (.str "law_ownclocks_k22_steps_walked" 581),dE P "__doc__" 166 (.none),dE P "__package__" 167 (.none),dE P "__loader__" 168 (.builtin "__main__.__loader__#opaque"),dE P "__spec__" 169 (.none),dE P "__annotations__" 170 (.ref 6),dE P "__builtins__" 171 (.ref 4),dE P "__file__" 173 (.str "/claim/cut.py" 172),dE P "__cached__" 174 (.none),dE P "DOOR" 191 (.int (-1) 190),dE P "ways" 197 (.ref 19),dE P "door" 203 (.ref 24),dE P "door_events" 209 (.ref 29),dE P "leaving" 215 (.ref 34),dE P "sides" 223 (.ref 41),dE P "Station" 273 (.ref 72),dE P "Relay" 309 (.ref 100),dE P "Sorter" 334 (.ref 119),dE P "Thinner" 371 (.ref 145),dE P "Joiner" 404 (.ref 169),dE P "Sink" 420 (.ref 181),dE P "station_of" 431 (.ref 190),dE P "Own" 580 (.ref 290),dE P "_law_draw" 593 (.ref 301),dE P "_law_station" 601 (.ref 308),dE P "_law_works" 607 (.ref 313),dE P "_law_inward" 613 (.ref 318),dE P "_law_begun" 619 (.ref 323),dE P "_law_clock" 631 (.ref 330),dE P "_law_next" 637 (.ref 335),dE P "_law_step" 656 (.ref 342),dE P "_law_stations_shown" 670 (.ref 349),dE P "_law_shown" 684 (.ref 356),dE P "law" 690 (.ref 361)] 34,#[]⟩) ::
 (nat_lit 13,cO "<module>" "<module>" 182 1 0 0 11 false 12 (.none) (.none) (.none) 185) ::
 (nat_lit 18,cO "ways" "ways" 192 3 2 3 15 true 16 (.none) (.none) (.ref 17) 195) ::
 (nat_lit 19,fO (top 2) "ways" "ways" (.str "ownclocks.works" 187) (.ref 18)) ::
 (nat_lit 23,cO "door" "door" 198 7 2 3 20 true 21 (.none) (.none) (.ref 22) 201) ::
 (nat_lit 24,fO (top 3) "door" "door" (.str "ownclocks.works" 187) (.ref 23)) ::
 (nat_lit 28,cO "door_events" "door_events" 204 10 2 3 25 true 26 (.none) (.none) (.ref 27) 207) ::
 (nat_lit 29,fO (top 4) "door_events" "door_events" (.str "ownclocks.works" 187) (.ref 28)) ::
 (nat_lit 33,cO "leaving" "leaving" 210 12 2 3 30 true 31 (.none) (.none) (.ref 32) 213) ::
 (nat_lit 34,fO (top 5) "leaving" "leaving" (.str "ownclocks.works" 187) (.ref 33)) ::
 (nat_lit 40,cO "sides" "sides" 216 14 2 3 35 true 36 (.ref 37) (.ref 38) (.ref 39) 221) ::
 (nat_lit 41,fO (top 6) "sides" "sides" (.str "ownclocks.works" 187) (.ref 40)) ::
 (nat_lit 47,cO "Station" "Station" 228 17 0 0 45 false 46 (.none) (.none) (.none) 231) ::
 (nat_lit 54,cO "__init__" "Station.__init__" 238 19 3 3 49 true 50 (.ref 51) (.ref 52) (.ref 53) 244) ::
 (nat_lit 55,fO (L2.inClass (top 8) 0) "__init__" "Station.__init__" (.str "ownclocks.kinds" 224) (.ref 54)) ::
 (nat_lit 61,cO "take" "Station.take" 247 23 3 3 56 true 57 (.ref 58) (.ref 59) (.ref 60) 253) ::
 (nat_lit 62,fO (L2.inClass (top 8) 1) "take" "Station.take" (.str "ownclocks.kinds" 224) (.ref 61)) ::
 (nat_lit 68,cO "on_first" "Station.on_first" 256 26 2 3 63 true 64 (.ref 65) (.ref 66) (.ref 67) 261) ::
 (nat_lit 69,fO (L2.inClass (top 8) 2) "on_first" "Station.on_first" (.str "ownclocks.kinds" 224) (.ref 68)) ::
 (nat_lit 71,⟨.type "dict",none,.dict #[dE P "__module__" 233 (.str "ownclocks.kinds" 224),dE P "__firstlineno__" 237 (.int 17 236),dE P "__init__" 246 (.ref 55),dE P "take" 255 (.ref 62),dE P "on_first" 263 (.ref 69),dE P "__static_attributes__" 266 (.ref 70),dE P "__dict__" 268 (.ref 73),dE P "__weakref__" 270 (.ref 74),dE P "__doc__" 271 (.none)] 4,#[]⟩) ::
 (nat_lit 72,⟨.type "type",none,.cls (cL "Station" [.type "object"] [.ref 72,.type "object"] 71 "Station" true [.ref 100,.ref 119,.ref 145,.ref 169,.ref 181]),#[none,none,some (.str "Station" 226),some (.str "Station" 234),some (.builtin "object.__new__"),some (.bool true)]⟩) ::
 (nat_lit 73,⟨.type "getset_descriptor",none,.fields #[.str "__dict__" 267,.ref 72,.builtin "function.__dict__",.builtin "function.__dict__#set"],#[]⟩) ::
 (nat_lit 74,⟨.type "getset_descriptor",none,.fields #[.str "__weakref__" 269,.ref 72,.builtin "ExceptionGroup.__weakref__",.none],#[]⟩) ::
 (nat_lit 77,⟨.type "tuple",none,.seq #[.ref 72] 0,#[]⟩) ::
 (nat_lit 82,cO "Relay" "Relay" 276 28 0 0 80 false 81 (.none) (.none) (.none) 279) ::
 (nat_lit 89,cO "__init__" "Relay.__init__" 286 30 4 3 84 true 85 (.ref 86) (.ref 87) (.ref 88) 293) ::
 (nat_lit 90,fO (L2.inClass (top 9) 0) "__init__" "Relay.__init__" (.str "ownclocks.kinds" 224) (.ref 89)) ::
 (nat_lit 96,cO "take" "Relay.take" 296 34 3 3 91 true 92 (.ref 93) (.ref 94) (.ref 95) 302) ::
 (nat_lit 97,fO (L2.inClass (top 9) 1) "take" "Relay.take" (.str "ownclocks.kinds" 224) (.ref 96)) ::
 (nat_lit 99,⟨.type "dict",none,.dict #[dE P "__module__" 281 (.str "ownclocks.kinds" 224),dE P "__firstlineno__" 285 (.int 28 284),dE P "__init__" 295 (.ref 90),dE P "take" 304 (.ref 97),dE P "__static_attributes__" 306 (.ref 98),dE P "__doc__" 307 (.none)] 2,#[]⟩) ::
 (nat_lit 100,⟨.type "type",none,.cls (cL "Relay" [.ref 72] [.ref 100,.ref 72,.type "object"] 99 "Relay" true []),#[some (.ref 77),none,some (.str "Relay" 274),some (.str "Relay" 282),some (.builtin "object.__new__"),some (.bool true)]⟩) ::
 (nat_lit 103,⟨.type "tuple",none,.seq #[.ref 72] 0,#[]⟩) ::
 (nat_lit 108,cO "Sorter" "Sorter" 312 36 0 0 106 false 107 (.none) (.none) (.none) 315) ::
 (nat_lit 115,cO "take" "Sorter.take" 322 38 3 3 110 true 111 (.ref 112) (.ref 113) (.ref 114) 328) ::
 (nat_lit 116,fO (L2.inClass (top 10) 0) "take" "Sorter.take" (.str "ownclocks.kinds" 224) (.ref 115)) ::
 (nat_lit 118,⟨.type "dict",none,.dict #[dE P "__module__" 317 (.str "ownclocks.kinds" 224),dE P "__firstlineno__" 321 (.int 36 320),dE P "take" 330 (.ref 116),dE P "__static_attributes__" 331 (.ref 117),dE P "__doc__" 332 (.none)] 2,#[]⟩) ::
 (nat_lit 119,⟨.type "type",none,.cls (cL "Sorter" [.ref 72] [.ref 119,.ref 72,.type "object"] 118 "Sorter" true []),#[some (.ref 103),none,some (.str "Sorter" 310),some (.str "Sorter" 318),some (.builtin "object.__new__"),some (.bool true)]⟩) ::
 (nat_lit 122,⟨.type "tuple",none,.seq #[.ref 72] 0,#[]⟩) ::
 (nat_lit 127,cO "Thinner" "Thinner" 337 42 0 0 125 false 126 (.none) (.none) (.none) 340) ::
 (nat_lit 134,cO "__init__" "Thinner.__init__" 347 44 4 3 129 true 130 (.ref 131) (.ref 132) (.ref 133) 354) ::
 (nat_lit 135,fO (L2.inClass (top 11) 0) "__init__" "Thinner.__init__" (.str "ownclocks.kinds" 224) (.ref 134)) ::
 (nat_lit 141,cO "take" "Thinner.take" 357 49 3 3 136 true 137 (.ref 138) (.ref 139) (.ref 140) 363) ::
 (nat_lit 142,fO (L2.inClass (top 11) 1) "take" "Thinner.take" (.str "ownclocks.kinds" 224) (.ref 141)) ::
 (nat_lit 144,⟨.type "dict",none,.dict #[dE P "__module__" 342 (.str "ownclocks.kinds" 224),dE P "__firstlineno__" 346 (.int 42 345),dE P "__init__" 356 (.ref 135),dE P "take" 365 (.ref 142),dE P "__static_attributes__" 368 (.ref 143),dE P "__doc__" 369 (.none)] 2,#[]⟩) ::
 (nat_lit 145,⟨.type "type",none,.cls (cL "Thinner" [.ref 72] [.ref 145,.ref 72,.type "object"] 144 "Thinner" true []),#[some (.ref 122),none,some (.str "Thinner" 335),some (.str "Thinner" 343),some (.builtin "object.__new__"),some (.bool true)]⟩) ::
 (nat_lit 148,⟨.type "tuple",none,.seq #[.ref 72] 0,#[]⟩) ::
 (nat_lit 153,cO "Joiner" "Joiner" 374 54 0 0 151 false 152 (.none) (.none) (.none) 377) ::
 (nat_lit 160,cO "__init__" "Joiner.__init__" 384 56 3 3 155 true 156 (.ref 157) (.ref 158) (.ref 159) 391) ::
 (nat_lit 161,fO (L2.inClass (top 12) 0) "__init__" "Joiner.__init__" (.str "ownclocks.kinds" 224) (.ref 160)) ::
 (nat_lit 165,cO "take" "Joiner.take" 394 62 3 3 162 true 163 (.none) (.none) (.ref 164) 397) ::
 (nat_lit 166,fO (L2.inClass (top 12) 1) "take" "Joiner.take" (.str "ownclocks.kinds" 224) (.ref 165)) ::
 (nat_lit 168,⟨.type "dict",none,.dict #[dE P "__module__" 379 (.str "ownclocks.kinds" 224),dE P "__firstlineno__" 383 (.int 54 382),dE P "__init__" 393 (.ref 161),dE P "take" 399 (.ref 166),dE P "__static_attributes__" 401 (.ref 167),dE P "__doc__" 402 (.none)] 2,#[]⟩) ::
 (nat_lit 169,⟨.type "type",none,.cls (cL "Joiner" [.ref 72] [.ref 169,.ref 72,.type "object"] 168 "Joiner" true []),#[some (.ref 148),none,some (.str "Joiner" 372),some (.str "Joiner" 380),some (.builtin "object.__new__"),some (.bool true)]⟩) ::
 (nat_lit 172,⟨.type "tuple",none,.seq #[.ref 72] 0,#[]⟩) ::
 (nat_lit 177,cO "Sink" "Sink" 407 70 0 0 175 false 176 (.none) (.none) (.none) 410) ::
 (nat_lit 180,⟨.type "dict",none,.dict #[dE P "__module__" 412 (.str "ownclocks.kinds" 224),dE P "__firstlineno__" 416 (.int 70 415),dE P "__static_attributes__" 417 (.ref 179),dE P "__doc__" 418 (.none)] 2,#[]⟩) ::
 (nat_lit 181,⟨.type "type",none,.cls (cL "Sink" [.ref 72] [.ref 181,.ref 72,.type "object"] 180 "Sink" true []),#[some (.ref 172),none,some (.str "Sink" 405),some (.str "Sink" 413),some (.builtin "object.__new__"),some (.bool true)]⟩) ::
 (nat_lit 189,cO "station_of" "station_of" 421 72 2 3 184 true 185 (.ref 186) (.ref 187) (.ref 188) 429) ::
 (nat_lit 190,fO (top 14) "station_of" "station_of" (.str "ownclocks.kinds" 224) (.ref 189)) ::
 (nat_lit 196,cO "Own" "Own" 436 86 0 0 194 false 195 (.none) (.none) (.none) 439) ::
 (nat_lit 201,cO "__init__" "Own.__init__" 446 88 2 3 198 true 199 (.none) (.none) (.ref 200) 449) ::
 (nat_lit 202,fO (L2.inClass (top 16) 0) "__init__" "Own.__init__" (.str "ownclocks.own" 432) (.ref 201)) ::
 (nat_lit 208,cO "taken" "Own.taken" 452 96 2 3 203 true 204 (.ref 205) (.ref 206) (.ref 207) 457) ::
 (nat_lit 209,fO (L2.inClass (top 16) 1) "taken" "Own.taken" (.str "ownclocks.own" 432) (.ref 208)) ::
 (nat_lit 215,cO "waiting" "Own.waiting" 460 99 2 3 210 true 211 (.ref 212) (.ref 213) (.ref 214) 465) ::
 (nat_lit 216,fO (L2.inClass (top 16) 2) "waiting" "Own.waiting" (.str "ownclocks.own" 432) (.ref 215)) ::
 (nat_lit 222,cO "promise" "Own.promise" 468 102 2 3 217 true 218 (.ref 219) (.ref 220) (.ref 221) 473) ::
 (nat_lit 223,fO (L2.inClass (top 16) 3) "promise" "Own.promise" (.str "ownclocks.own" 432) (.ref 222)) ::
 (nat_lit 227,cO "clock" "Own.clock" 476 105 2 3 224 true 225 (.none) (.none) (.ref 226) 479) ::
 (nat_lit 228,fO (L2.inClass (top 16) 4) "clock" "Own.clock" (.str "ownclocks.own" 432) (.ref 227)) ::
 (nat_lit 234,cO "step" "Own.step" 482 109 2 3 229 true 230 (.ref 231) (.ref 232) (.ref 233) 490) ::
 (nat_lit 235,fO (L2.inClass (top 16) 5) "step" "Own.step" (.str "ownclocks.own" 432) (.ref 234)) ::
 (nat_lit 241,cO "row" "Own.row" 493 119 3 3 236 true 237 (.ref 238) (.ref 239) (.ref 240) 499) ::
 (nat_lit 242,fO (L2.inClass (top 16) 6) "row" "Own.row" (.str "ownclocks.own" 432) (.ref 241)) ::
 (nat_lit 248,cO "earliest" "Own.earliest" 502 122 3 3 243 true 244 (.ref 245) (.ref 246) (.ref 247) 509) ::
 (nat_lit 249,fO (L2.inClass (top 16) 7) "earliest" "Own.earliest" (.str "ownclocks.own" 432) (.ref 248)) ::
 (nat_lit 253,cO "upcoming" "Own.upcoming" 512 128 2 3 250 true 251 (.none) (.none) (.ref 252) 515) ::
 (nat_lit 254,fO (L2.inClass (top 16) 8) "upcoming" "Own.upcoming" (.str "ownclocks.own" 432) (.ref 253)) ::
 (nat_lit 258,cO "may_take" "Own.may_take" 518 133 3 3 255 true 256 (.none) (.none) (.ref 257) 521) ::
 (nat_lit 259,fO (L2.inClass (top 16) 9) "may_take" "Own.may_take" (.str "ownclocks.own" 432) (.ref 258)) ::
 (nat_lit 265,cO "lets" "Own.lets" 524 136 3 3 260 true 261 (.ref 262) (.ref 263) (.ref 264) 531) ::
 (nat_lit 266,fO (L2.inClass (top 16) 10) "lets" "Own.lets" (.str "ownclocks.own" 432) (.ref 265)) ::
 (nat_lit 272,cO "take_event" "Own.take_event" 534 142 3 3 267 true 268 (.ref 269) (.ref 270) (.ref 271) 542) ::
 (nat_lit 273,fO (L2.inClass (top 16) 11) "take_event" "Own.take_event" (.str "ownclocks.own" 432) (.ref 272)) ::
 (nat_lit 279,cO "raise_promises" "Own.raise_promises" 545 150 2 3 274 true 275 (.ref 276) (.ref 277) (.ref 278) 553) ::
 (nat_lit 280,fO (L2.inClass (top 16) 12) "raise_promises" "Own.raise_promises" (.str "ownclocks.own" 432) (.ref 279)) ::
 (nat_lit 286,cO "raise_promise" "Own.raise_promise" 556 158 3 3 281 true 282 (.ref 283) (.ref 284) (.ref 285) 564) ::
 (nat_lit 287,fO (L2.inClass (top 16) 13) "raise_promise" "Own.raise_promise" (.str "ownclocks.own" 432) (.ref 286)) ::
 (nat_lit 289,⟨.type "dict",none,.dict #[dE P "__module__" 441 (.str "ownclocks.own" 432),dE P "__firstlineno__" 445 (.int 86 444),dE P "__init__" 451 (.ref 202),dE P "taken" 459 (.ref 209),dE P "waiting" 467 (.ref 216),dE P "promise" 475 (.ref 223),dE P "clock" 481 (.ref 228),dE P "step" 492 (.ref 235),dE P "row" 501 (.ref 242),dE P "earliest" 511 (.ref 249),dE P "upcoming" 517 (.ref 254),dE P "may_take" 523 (.ref 259),dE P "lets" 533 (.ref 266),dE P "take_event" 544 (.ref 273),dE P "raise_promises" 555 (.ref 280),dE P "raise_promise" 566 (.ref 287),dE P "__static_attributes__" 573 (.ref 288),dE P "__dict__" 575 (.ref 291),dE P "__weakref__" 577 (.ref 292),dE P "__doc__" 578 (.none)] 4,#[]⟩) ::
 (nat_lit 290,⟨.type "type",none,.cls (cL "Own" [.type "object"] [.ref 290,.type "object"] 289 "Own" true []),#[none,none,some (.str "Own" 434),some (.str "Own" 442),some (.builtin "object.__new__"),some (.bool true)]⟩) ::
 (nat_lit 291,⟨.type "getset_descriptor",none,.fields #[.str "__dict__" 574,.ref 290,.builtin "function.__dict__",.builtin "function.__dict__#set"],#[]⟩) ::
 (nat_lit 292,⟨.type "getset_descriptor",none,.fields #[.str "__weakref__" 576,.ref 290,.builtin "ExceptionGroup.__weakref__",.none],#[]⟩) ::
 (nat_lit 300,cO "_law_draw" "_law_draw" 583 166 2 3 295 true 296 (.ref 297) (.ref 298) (.ref 299) 591) ::
 (nat_lit 301,fO (top 18) "_law_draw" "_law_draw" (.str "law_ownclocks_k22_steps_walked" 581) (.ref 300)) ::
 (nat_lit 307,cO "_law_station" "_law_station" 594 172 1 3 302 true 303 (.ref 304) (.ref 305) (.ref 306) 599) ::
 (nat_lit 308,fO (top 19) "_law_station" "_law_station" (.str "law_ownclocks_k22_steps_walked" 581) (.ref 307)) ::
 (nat_lit 312,cO "_law_works" "_law_works" 602 179 1 3 309 true 310 (.none) (.none) (.ref 311) 605) ::
 (nat_lit 313,fO (top 20) "_law_works" "_law_works" (.str "law_ownclocks_k22_steps_walked" 581) (.ref 312)) ::
 (nat_lit 317,cO "_law_inward" "_law_inward" 608 196 2 3 314 true 315 (.none) (.none) (.ref 316) 611) ::
 (nat_lit 318,fO (top 21) "_law_inward" "_law_inward" (.str "law_ownclocks_k22_steps_walked" 581) (.ref 317)) ::
 (nat_lit 322,cO "_law_begun" "_law_begun" 614 201 1 3 319 true 320 (.none) (.none) (.ref 321) 617) ::
 (nat_lit 323,fO (top 22) "_law_begun" "_law_begun" (.str "law_ownclocks_k22_steps_walked" 581) (.ref 322)) ::
 (nat_lit 329,cO "_law_clock" "_law_clock" 620 210 3 3 324 true 325 (.ref 326) (.ref 327) (.ref 328) 629) ::
 (nat_lit 330,fO (top 23) "_law_clock" "_law_clock" (.str "law_ownclocks_k22_steps_walked" 581) (.ref 329)) ::
 (nat_lit 334,cO "_law_next" "_law_next" 632 219 3 3 331 true 332 (.none) (.none) (.ref 333) 635) ::
 (nat_lit 335,fO (top 24) "_law_next" "_law_next" (.str "law_ownclocks_k22_steps_walked" 581) (.ref 334)) ::
 (nat_lit 341,cO "_law_step" "_law_step" 638 230 4 3 336 true 337 (.ref 338) (.ref 339) (.ref 340) 654) ::
 (nat_lit 342,fO (top 25) "_law_step" "_law_step" (.str "law_ownclocks_k22_steps_walked" 581) (.ref 341)) ::
 (nat_lit 348,cO "_law_stations_shown" "_law_stations_shown" 657 250 5 3 343 true 344 (.ref 345) (.ref 346) (.ref 347) 668) ::
 (nat_lit 349,fO (top 26) "_law_stations_shown" "_law_stations_shown" (.str "law_ownclocks_k22_steps_walked" 581) (.ref 348)) ::
 (nat_lit 355,cO "_law_shown" "_law_shown" 671 260 5 3 350 true 351 (.ref 352) (.ref 353) (.ref 354) 682) ::
 (nat_lit 356,fO (top 27) "_law_shown" "_law_shown" (.str "law_ownclocks_k22_steps_walked" 581) (.ref 355)) ::
 (nat_lit 360,cO "law" "law" 685 272 1 3 357 true 358 (.none) (.none) (.ref 359) 688) ::
 (nat_lit 361,fO (top 28) "law" "law" (.str "law_ownclocks_k22_steps_walked" 581) (.ref 360))::[]
noncomputable def hA:List Addr:=[2,3,13,18,19,23,24,28,29,33,34,40,41,47,54,55,61,62,68,69,71,72,73,74,77,82,89,90,96,97,99,100,103,108,115,116,118,119,122,127,134,135,141,142,144,145,148,153,160,161,165,166,168,169,172,177,180,181,189,190,196,201,202,208,209,215,216,222,223,227,228,234,235,241,242,248,249,253,254,258,259,265,266,272,273,279,280,286,287,289,290,291,292,300,301,307,308,312,313,317,318,322,323,329,330,334,335,341,342,348,349,355,356,360,361]
noncomputable def hTs:List Addr:=[21,251]
noncomputable def hL:List Str:=["DOOR","ways","door","door_events","leaving","sides","Station","Relay","Sorter","Thinner","Joiner","Sink","station_of","Own","_law_draw","_law_station","_law_works","_law_inward","_law_begun","_law_clock","_law_next","_law_step","_law_stations_shown","_law_shown"]
noncomputable def hQ:Program:={ pW with main:={ pW.main with body:=[top 28] } }
noncomputable def hX (s:Shared):Bool:=recOk [] s
noncomputable def hYf (s:Shared):List (Option Obj) × List (Option Obj):=(hA.map s.heap.get?,hTs.map s.heap.get?)
noncomputable def hYa (w:World):List (Option Obj) × List (Option Obj):=((hK w.params).map fun p=>some p.2,hTs.map fun _=>some (tabObj #[]))
noncomputable def hLook (w:World) (s:Shared):=(staticsOk (importedModules pW.main.body) (boot_heap w.params) s.heap && namesBound pW s.heap && gensDone s && laidKept (boot_heap w.params) s.heap,openSeen hQ hL (importedModules pW.main.body) hX true s,hYf s)
theorem h_run (w:World) (os:OsState):(segRunT treeTable pW w 11 (some (.ref 6)) 1 2785 (hS w os) (piecesOf hB hEnv hC ⟨0,0,0,0⟩ hF)).map (fun r=>(r.1,r.2.2.1,r.2.2.2,hLook w r.2.1.abs))=some (.next,hC,⟨272,0,285,89⟩,true,openGood hQ hL,hYa w):=by
 unfold hLook
 rw[Fast.te10110043849684766642,Fast.te14364793385576792824,Fast.te4187177175401517315,Fast.te5923862056798008813]
 kernel_rfl
theorem left_run {p q:Program} {loose:List Str} {Xt:Shared→Bool} {α:Type} {Yf:Shared→α} {Ya:World→α} {N:Nat} {g0:Bool} {H₀:Params→Heap} {gs₀:Array GenState} {d₀:Drawn} {k₀ m₀:Nat} {ann:Option Value} {M:Nat}
  (open_:∀ w:World,(fencedOpening treeTable p w N).map (fun s=>(s.heap,s.gens,s.drawn,s.toks))=some (H₀ w.params,gs₀,d₀,k₀))
  (size:∀ w:World,((H₀ w.params).isNs mainGlobals && gs₀.size == 0,(H₀ w.params).objs.size,(H₀ w.params).nsMap mainGlobals "__annotations__")=(true,m₀,ann)) (le:Nat.ble M N=true)
  (run:∀(w:World) (os:OsState),∃ s₁,topRun treeTable p w m₀ ann M ⟨H₀ w.params,gs₀,d₀,k₀,os⟩ (topStub p)=some s₁ ∧
   (staticsOk (importedModules p.main.body) (H₀ w.params) s₁.heap && namesBound p s₁.heap && gensDone s₁ && laidKept (H₀ w.params) s₁.heap)=true∧openSeen q loose (importedModules p.main.body) Xt g0 s₁=openGood q loose∧Yf s₁=Ya w):LeftO p q loose Xt Yf Ya N g0:=fun w=>by
 obtain⟨⟨h,gs,d,k,os⟩,e,e'⟩:=yO.mp (open_ w)
 obtain⟨rfl,rfl,rfl,rfl⟩:h=H₀ w.params∧gs=gs₀∧d=d₀∧k=k₀:=by simpa using e'
 obtain⟨z1,z2,z3⟩:_∧_∧_:=by simpa only [Prod.mk.injEq] using size w
 obtain⟨s₁,hr,l1,l2,l3⟩:=run w os
 have r:=topRun_mono (N - M) _ _ _ _ hr
 rw[show M + (N - M)=N by have:=Nat.le_of_ble_eq_true le; omega] at r
 have t:topFrom treeTable p w N ⟨H₀ w.params,gs,d,k,os⟩=some s₁:=by
  unfold topFrom
  dsimp only
  rw[z1,z2,z3,r]
  show(match staticsOk (importedModules p.main.body) (H₀ w.params) s₁.heap && namesBound p s₁.heap && gensDone s₁ && laidKept (H₀ w.params) s₁.heap with|true=>_|false=>_)=_
  rw[l1]
 unfold openEnds
 rw[e]
 show(topFrom treeTable p w N _).map _=_
 rw[t]
 exact congrArg some (Prod.ext l2 l3)
theorem h_left:LeftO pW hQ hL hX hYf hYa 5694:=by
 refine left_run (M:=12 + (1 + (2785 + 2))) (boot_open (by kernel_rfl) rfl (fun s=>rfl)) (m₀:=11) (ann:=some (.ref 6)) (fun w=>by kernel_rfl) rfl fun w os=>?_
 obtain⟨⟨f,s',c,q⟩,e,e'⟩:=yO.mp (h_run w os)
 simp only [Prod.mk.injEq] at e'
 obtain⟨rfl,rfl,rfl,l⟩:=e'
 have k:=piece_app (rest:=[]) (segRun_of e) (piece_nil (h_fin w s' _))
 rw[yD] at k
 have k2:=go_top (h_pre w os) (piece_block (segRun_of (h_block w os)) k)
 unfold hLook at l
 simp only [Prod.mk.injEq] at l
 exact⟨_,k2,l.1,l.2.1,l.2.2⟩
theorem walkX_H {q:Program} {loose:List Str} {XP:(Str→Option Value)→Heap→Prop} {r:RowW} {d:DefRec} {kwd:List (Str × PySem.Expr)} {run:Value→List Value→Sem Value} {K:Params→Frag} {as ts:List Addr} (e:∀ P,as=(K P).map (·.1))
  (h:WalkO q loose XP (fun w h=>InK K w h∧∀ P ∈ ts,h.get? P=some (tabObj #[])) r d kwd run):WalkX q loose XP (fun s=>(as.map s.heap.get?,ts.map s.heap.get?)) (fun w=>((K w.params).map fun p=>some p.2,ts.map fun _=>some (tabObj #[]))) r d kwd run:=by
 intro w s₀ s₁ mg mb G y fa o pm cd doc dV kV ho hd hcd hD hmg hg args vals as' L hpre hlay hrd hwl hlo
 exact h w s₀ s₁ mg mb G ⟨InK.keeps w _ _ (InK.of e w s₀ (congrArg Prod.fst y)) L.keeps,fun P hP=>L.keeps _ _ (List.map_inj_left.mp (congrArg Prod.snd y) P hP)⟩ fa o pm cd doc dV kV ho hd hcd hD hmg hg args vals as' hpre hlay hrd hwl hlo
end Oc
open PySem PySem.W PySem.W.X PyProof.Rows
set_option maxRecDepth 100000 in
set_option maxHeartbeats 0 in
theorem PySem.Challenge.cw_ownclocks_k22_steps_walked_holds : PySem.Challenge.rw_ownclocks_k22_steps_walked.Holds := by
 refine holds_law (by kernel_rfl) fun said=>?_
 refine holds_openX (q:=Oc.hQ) (loose:=Oc.hL) (Xt:=Oc.hX) (XP:=fun _ _=>True) (Yf:=Oc.hYf) (Ya:=Oc.hYa) (N:=5694) Oc.h_left (fun _ _=>trivial) (fun _ _ _ h _=>h) (by rfl) (by rfl) (by rfl) (fun s e=>recFacts_of e) (by rfl) said (by decide +kernel) ⟨rfl,rfl,rfl,rfl,rfl,by decide +kernel⟩ ?hw ?hc
 case hw=>w_witness2
 refine Oc.walkX_H (K:=Oc.hK) (as:=Oc.hA) (ts:=Oc.hTs) (fun _=>rfl) ?_
 k_fill
 refine' Oc.walk (l:=PySem.Challenge.rw_ownclocks_k22_steps_walked) rfl rfl (fun w h Y=>Y.1) (fun w h Y=>Y.2) ?U1 ?U2 ?N1 ?N2 ?N3 ?F
 case U1 =>
  intro w
  refine' L2.tabIn_of ?e1 ?e2 ?e3 ?e4 ?e5
  (case e1=>first|k_is|kit_is)
  (case e2=>first|k_is|kit_is)
  (case e3=>exact rfl)
  (case e4=>first|k_is|kit_is)
  (case e5=>exact rfl)
 case U2 =>
  intro w
  refine' Oc.codeIn_of ?e0 ?e1 ?e2 ?e3 ?e4 ?e5
  (case e0=>first|k_is|kit_is)
  (case e1=>first|k_is|kit_is)
  (case e2=>first|k_is|kit_is)
  (case e3=>exact rfl)
  (case e4=>first|k_is|kit_is)
  (case e5=>exact rfl)
 case N1=>exact⟨by decide,fun w=>⟨by kernel_rfl,by kernel_rfl⟩⟩
 case N2=>exact⟨by decide,fun w=>⟨by kernel_rfl,by kernel_rfl⟩⟩
 case N3=>decide
 case F =>
  intro w mg fa h KX G hmg
  refine' Oc.all_mk KX G hmg ?_ ?_ ?_ ?_ ?_ ?_ ?_ ?_ ?_ ?_ ?_ ?_ ?_ ?_ ?_ ?_ ?_ ?_ ?_ ?_ ?_ ?_ ?_ ?_ ?_ ?_ ?_ ?_ ?_ ?_ ?_ ?_ ?_ ?_ ?_ ?_ ?_ ?_ ?_ ?_ ?_ ?_ ?_ ?_ ?_ ?_ ?_ ?_ ?_ ?_ ?_ ?_ ?_ ?_ ?_ ?_ ?_ ?_ ?_ ?_ ?_ ?_ ?_ ?_ ?_ ?_ ?_ ?_ ?_ ?_ ?_ ?_ ?_ ?_ ?_ ?_ ?_ ?_ ?_ ?_ ?_ ?_ ?_ ?_ ?_ ?_ ?_ ?_ ?_ ?_ ?_ ?_ ?_ ?_ ?_ ?_ ?_ ?_ ?_ ?_ ?_ ?_ ?_ ?_ ?_ ?_ ?_ ?_ ?_ ?_ ?_ ?_ ?_ ?_ ?_ ?_ ?_ ?_ ?_ ?_ ?_ ?_ ?_ ?_ ?_ ?_ ?_ ?_ ?_ ?_ ?_ ?_ ?_ ?_ ?_ ?_ ?_ ?_ ?_ ?_ ?_ ?_ ?_ ?_ ?_ ?_ ?_ ?_ ?_ ?_ ?_ ?_ ?_ ?_ ?_ ?_ ?_ ?_ ?_ ?_ ?_ ?_ ?_ ?_ ?_ ?_ ?_ ?_ ?_ ?_ ?_ ?_ ?_ ?_ ?_ ?_ ?_ ?_ ?_ ?_ ?_ ?_ ?_
  all_goals (try first|k_is|kit_is|exact rfl|(refine⟨?_,?_⟩ <;> k_is))
  all_goals (try first|k_is|kit_is|exact rfl|(refine' Oc.FnF.mk ?l ?c ?k; (case l=>k_is); (case c=>k_is); (case k=>k_is)))
  all_goals first|k_is|kit_is|exact rfl|(refine' Oc.FnF.mk ?l ?c ?k; (case l=>k_is); (case c=>k_is); (case k=>k_is))
#print axioms PySem.Challenge.cw_ownclocks_k22_steps_walked_holds
