import PyProof.Rows.All
import Wide.All
import OpenK.AllK
import Wide.FinOn
import Lean
import PyProof.EqAt
import PyProof.EqKinds
import PyProof.TupleCall
import PyProof.NeData
import PyProof.P3Eq
import PySem.Challenge.RW_ownclocks_k33_whole_any_weaving
set_option Elab.async false
set_option linter.all false
set_option maxRecDepth 100000
set_option maxHeartbeats 4000000
local macro_rules | `(tactic| omega) => `(tactic| lia)
set_option hygiene false in
local macro_rules | `(tactic| and_intros) => `(tactic| exact ⟨rfl, rfl, by decide +kernel, by decide +kernel, by repeat (first | exact Each.nil | refine Each.cons rfl ?_), by repeat (first | exact Each.nil | refine Each.cons rfl ?_), by repeat (first | exact Paired.nil | refine Paired.cons ⟨rfl, by first | exact Or.inl rfl | exact Or.inr rfl, by first | exact Or.inl rfl | exact Or.inr rfl⟩ ?_), rfl⟩)
set_option hygiene false in
local macro_rules | `(tactic| nofun) => `(tactic| first | exact Or.inl rfl | exact Or.inr rfl)
set_option hygiene false in
local macro_rules | `(tactic| ac_rfl) => `(tactic| (first | (refine tvC rfl ?_) | (refine tvO rfl ?_) | (refine tvK rfl ?_) | (refine tv rfl ?_) | (refine ⟨_, rfl, ?_⟩)))
set_option hygiene false in
local macro_rules | `(tactic| infer_instance) => `(tactic| repeat (first | (refine ⟨_, rfl, ?_⟩) | (refine ⟨_, _, rfl, rfl, ⟨by decide, by decide⟩, ?_⟩) | (refine ⟨_, _, rfl, rfl, .inl ⟨by decide, by decide⟩, ?_⟩) | (refine ⟨_, _, rfl, rfl, .inr ⟨by decide, by decide⟩, ?_⟩) | (refine ⟨_, _, rfl, rfl, (show (0 : Int) < _ from by decide), ?_⟩) | (refine ⟨_, _, rfl, rfl, ?_⟩) | (refine ⟨rfl, ?_⟩)))
set_option Elab.async false
set_option linter.all false
set_option maxRecDepth 100000
abbrev zA:=@List.getD_eq_getElem?_getD
abbrev zB:=@List.getElem?_eq_getElem
abbrev zC:=@List.getElem?_eq_some_iff
abbrev zD:=@List.length_map
abbrev zE:=@List.mem_of_getElem?
abbrev zF:=@List.getElem?_map
abbrev zG:=@List.mem_singleton
abbrev zH:=@List.mem_cons_self
abbrev zI:=@Nat.le_refl
abbrev zJ:=@List.mem_cons_of_mem
abbrev zK:=@List.not_mem_nil
abbrev zL:=@List.map_append
abbrev zM:=@List.length_append
abbrev zN:=@List.filter_append
abbrev zO:=@List.size_toArray
abbrev zP:=@List.append_nil
abbrev zQ:=@List.getElem?_append_right
abbrev zR:=@List.mem_append_right
abbrev zS:=@List.mem_cons
abbrev zT:=@Int.toNat_natCast
abbrev zU:=@Nat.lt_of_lt_of_le
abbrev zV:=@List.mem_filter
abbrev zW:=@List.mem_append
abbrev zX:=@List.length_cons
abbrev zY:=@Nat.ne_of_lt
abbrev zZ:=@Bool.false_ne_true
abbrev z4:=@List.length_set
abbrev z5:=@Nat.zero_le
abbrev z6:=@List.filter_cons_of_pos
abbrev z7:=@List.append_assoc
abbrev z9:=@Nat.le_trans
abbrev yA:=@List.length_take
abbrev yB:=@List.filter_cons_of_neg
abbrev yC:=@List.mem_map
abbrev yD:=@List.take_length
abbrev yE:=@List.getElem?_eq_none
abbrev yF:=@List.filter_eq_nil_iff
abbrev yG:=@List.map_cons
abbrev yH:=@List.flatten_cons
abbrev yI:=@List.getElem?_append_left
abbrev yJ:=@Bool.false_eq_true
abbrev yK:=@Bool.and_eq_true
abbrev yL:=@List.filter_nil
abbrev yM:=@List.pairwise_append
abbrev yN:=@List.getElem?_of_mem
abbrev yO:=@List.pairwise_cons
abbrev yP:=@List.mem_filterMap
abbrev yQ:=@Option.map_eq_some_iff
abbrev yR:=@List.getElem?_set_self
abbrev yS:=@List.take_add_one
abbrev yT:=@List.mem_singleton_self
abbrev yU:=@List.mem_range
abbrev yV:=@List.mem_append_left
abbrev yW:=@Int.emod_lt_of_pos
abbrev yX:=@List.getElem?_range
abbrev yY:=@List.getElem?_set_ne
abbrev yZ:=@List.length_range
abbrev y3:=@Nat.le_succ
abbrev y4:=@Int.emod_nonneg
abbrev y6:=@Nat.lt_of_le_of_lt
abbrev y7:=@List.sum_cons
abbrev y8:=@Nat.lt_succ_of_lt
abbrev y9:=@List.range_succ
abbrev qA:=@List.nodup_cons
abbrev qB:=@Nat.le_of_lt
abbrev qC:=@List.flatten_singleton
abbrev qD:=@Int.zero_add
abbrev qE:=@List.min?_eq_some_iff
abbrev qF:=@List.length_filter_le
abbrev qG:=@Array.getElem?_toList
abbrev qH:=@Nat.not_lt_zero
abbrev qI:=@Nat.sub_self
abbrev qJ:=@List.flatten_append
abbrev qK:=@List.flatMap_append
abbrev qL:=@List.filter_eq_self
abbrev qM:=@Array.length_toList
abbrev qN:=@List.mem_flatten
abbrev qO:=@Nat.zero_add
abbrev qP:=@Int.lt_of_lt_of_le
abbrev qQ:=@Array.getElem?_eq_none
abbrev qR:=@List.length_nil
abbrev qS:=@Nat.lt_irrefl
abbrev qT:=@List.ext_getElem?
abbrev qU:=@List.mem_of_mem_tail
abbrev qV:=@Int.le_refl
abbrev qW:=@List.mem_flatMap
abbrev qX:=@List.map_nil
abbrev qY:=@List.getElem?_eq_none_iff
abbrev qZ:=@List.filterMap_cons
abbrev q8:=@Array.swapIfInBounds_def
abbrev q9:=@List.of_mem_zip
abbrev jA:=@List.find?_cons
abbrev jB:=@List.pairwise_singleton
abbrev jC:=@List.pairwise_lt_range
abbrev jD:=@List.countP_cons
abbrev jE:=@List.map_set
abbrev jF:=@List.zip_cons_cons
abbrev jG:=@List.filter_filter
abbrev jH:=@Nat.le_of_lt_succ
abbrev jI:=@List.foldl_append
abbrev jJ:=@List.filter_congr
abbrev jK:=@List.count_append
abbrev jL:=@Option.isSome_iff_exists
abbrev jM:=@List.any_cons
abbrev jN:=@Nat.succ_ne_self
abbrev jO:=@Nat.lt_succ_self
abbrev jP:=@List.eraseIdx_cons_succ
abbrev jQ:=@List.cons_append
abbrev jR:=@List.flatMap_singleton
abbrev jS:=@List.nil_append
abbrev jT:=@Bool.eq_iff_iff
abbrev jU:=@List.perm_append_comm
abbrev jV:=@List.pairwise_flatMap
abbrev jW:=@List.mem_of_mem_head?
abbrev jX:=@List.filterMap_append
abbrev jY:=@List.mem_map_of_mem
abbrev jZ:=@List.map_eq_nil_iff
abbrev j0:=@List.length_pos_iff
abbrev j2:=@List.prefix_append
abbrev j3:=@List.getElem_range
abbrev j4:=@Nat.le_succ_of_le
abbrev j5:=@Nat.le_of_eq
abbrev j6:=@List.map_map
abbrev j7:=@Int.le_trans
abbrev j8:=@List.eraseIdxIfInBounds_toArray
abbrev j9:=@Nat.succ_le_succ
abbrev kG:=@List.map_flatMap
abbrev kH:=@List.length_tail
abbrev kI:=@List.eq_nil_of_length_eq_zero
abbrev kJ:=@Nat.min_eq_left
abbrev kK:=@List.zip_append
abbrev kL:=@Int.not_lt
abbrev kM:=@Array.perm_iff_toList_perm
abbrev kN:=@List.sublist_append_right
abbrev kO:=@List.mem_or_eq_of_mem_set
abbrev kP:=@List.getElem?_zip_eq_some
abbrev kQ:=@Array.getElem?_eq_getElem
abbrev kR:=@List.length_filterMap_le
abbrev kT:=@List.idxOf_lt_length_iff
abbrev kU:=@List.getElem?_take_of_lt
abbrev kW:=@Bool.and_comm
abbrev kX:=@Nat.ne_of_gt
abbrev kY:=@Nat.min_self
abbrev kZ:=@Nat.lt_trans
abbrev vA:=@List.take_of_length_le
abbrev vB:=@List.range_succ_eq_map
abbrev vC:=@List.any_map
abbrev vD:=@List.countP_mono_left
abbrev vE:=@List.countP_le_length
abbrev vF:=@Nat.one_mul
abbrev vG:=@Nat.add_mul
namespace L2
open PySem PySem.Spec PyProof.Rows
abbrev Key:=Sum Int Str
def keyIs:Key→Value→Bool
 | .inl k,v=>Value.isInt k v
 | .inr x,v=>Value.isStrOf x v
def keyH (w:World):Key→Int
 | .inl k=>hashInt k
 | .inr x=>hashStr w x
theorem keyIs_shape:∀ {k:Key} {v:Value},keyIs k v=true→(∃ i t,k=Sum.inl i∧v=Value.int i t)∨(∃ x t,k=Sum.inr x∧v=Value.str x t)
 | .inl i,v,h=>by
  obtain⟨t,e⟩:=Value.isInt_shape (k:=i) (v:=v) h
  exact .inl ⟨i,t,rfl,e⟩
 | .inr x,v,h=>by
  obtain⟨t,e⟩:=Value.isStrOf_shape (x:=x) (v:=v) h
  exact .inr ⟨x,t,rfl,e⟩
theorem keyIs_int (i:Int) (t:Tok):keyIs (.inl i) (.int i t)=true:=by simp [keyIs,Value.isInt]
theorem keyIs_str (x:Str) (t:Tok):keyIs (.inr x) (.str x t)=true:=by simp [keyIs,Value.isStrOf]
theorem key_ll (a b:Int):decide ((Sum.inl a:Key)=Sum.inl b)=(a == b):=by
 by_cases e:a=b
 ·subst e; simp
 ·have h:¬ (Sum.inl a:Key)=Sum.inl b:=fun q=>e (Sum.inl.inj q)
  rw[decide_eq_false h]
  exact(beq_eq_false_iff_ne.mpr e).symm
theorem key_rr (a b:Str):decide ((Sum.inr a:Key)=Sum.inr b)=decide (a=b):=by
 by_cases e:a=b
 ·subst e; simp
 ·have h:¬ (Sum.inr a:Key)=Sum.inr b:=fun q=>e (Sum.inr.inj q)
  rw[decide_eq_false h,decide_eq_false e]
theorem key_lr (a:Int) (b:Str):decide ((Sum.inl a:Key)=Sum.inr b)=false:=decide_eq_false (fun q=>nomatch q)
theorem key_rl (a:Str) (b:Int):decide ((Sum.inr a:Key)=Sum.inl b)=false:=decide_eq_false (fun q=>nomatch q)
def mixKind (prog:Program) (w:World):PySem.KeyKind prog w Key where
 is:=keyIs
 hash:=keyH w
 inj:=fun v a b ha hb=>by
  rcases keyIs_shape ha with ⟨i,t,rfl,rfl⟩|⟨x,t,rfl,rfl⟩
  ·rcases keyIs_shape hb with ⟨j,u,rfl,e⟩|⟨y,u,rfl,e⟩
   ·injection e with e1 _; rw[e1]
   ·exact nomatch e
  ·rcases keyIs_shape hb with ⟨j,u,rfl,e⟩|⟨y,u,rfl,e⟩
   ·exact nomatch e
   ·injection e with e1 _; rw[e1]
 byValue:=fun k v h=>by
  rcases keyIs_shape h with ⟨i,t,rfl,rfl⟩|⟨x,t,rfl,rfl⟩ <;> rfl
 pyHash:=fun hv h=>by
  rcases keyIs_shape hv with ⟨i,t,rfl,rfl⟩|⟨x,t,rfl,rfl⟩
  ·exact wpAny_pyHash_int h
  ·exact wpAny_pyHash_str h
 eqBool:=fun hu hv h=>by
  rcases keyIs_shape hu with ⟨i,t,rfl,rfl⟩|⟨x,t,rfl,rfl⟩
  ·rcases keyIs_shape hv with ⟨j,u,rfl,rfl⟩|⟨y,u,rfl,rfl⟩
   ·rw[key_ll] at h; exact wpAny_eqBool_int h
   ·rw[key_lr] at h; exact SeqAt.EqAt.int_str i t y u _ _ _ _ h
  ·rcases keyIs_shape hv with ⟨j,u,rfl,rfl⟩|⟨y,u,rfl,rfl⟩
   ·rw[key_rl] at h; exact SeqAt.EqAt.str_int x t j u _ _ _ _ h
   ·rw[key_rr] at h; exact wpAny_eqBool_str h
 «strs»:=fun k x t v h=>by
  rcases keyIs_shape h with ⟨i,u,rfl,e⟩|⟨y,u,rfl,e⟩
  ·exact nomatch e
  ·injection e with e1 _
   subst e1
   cases v <;> rfl
theorem mixKind_int (prog:Program) (w:World) (i:Int) (t:Tok):(mixKind prog w).is (.inl i) (.int i t)=true:=keyIs_int i t
theorem mixKind_str (prog:Program) (w:World) (x:Str) (t:Tok):(mixKind prog w).is (.inr x) (.str x t)=true:=keyIs_str x t
end L2
namespace L2
open PySem PySem.Spec PyProof.Rows
inductive V where
 | non|bl (b:Bool)|int (i:Int)|str (x:Str)|byt (b:Array UInt8)|flt (b:UInt64)|ref (a:Addr)|ty (n:String)
 deriving DecidableEq
def RelV:V→Value→Prop
 | .non,u=>u=Value.none
 | .bl b,u=>u=Value.bool b
 | .int i,u=>∃ t,u=Value.int i t
 | .str x,u=>∃ t,u=Value.str x t
 | .byt b,u=>∃ t,u=Value.bytes b t
 | .flt b,u=>∃ t,u=Value.float b t
 | .ref a,u=>u=Value.ref a
 | .ty n,u=>u=Value.type n
abbrev Vals:List V→List Value→Prop:=Paired RelV
theorem Vals.length {xs:List V} {us:List Value} (r:Vals xs us):xs.length=us.length:=Paired.length r
theorem Vals.get:∀ {xs:List V} {us:List Value} {i:Nat} {x:V},Vals xs us→xs[i]?=some x→∃ u,us[i]?=some u∧RelV x u
 | _,_,_,_,.nil,e=>by simp at e
 | _,_,0,_,.cons r _,e=>by simp at e; subst e; exact⟨_,rfl,r⟩
 | _,_,i + 1,x,.cons _ t,e=>by
  obtain⟨u,h1,h2⟩:=Vals.get (i:=i) (x:=x) t (by simpa using e)
  exact⟨u,by simpa using h1,h2⟩
theorem Vals.set {x:V} {u:Value} (r:RelV x u):∀ {xs:List V} {us:List Value} (i:Nat),Vals xs us→Vals (xs.set i x) (us.set i u)
 | _,_,_,.nil=>.nil
 | _,_,0,.cons _ t=>.cons r t
 | _,_,i + 1,.cons q t=>.cons q (Vals.set r i t)
theorem Vals.append:∀ {xs ys:List V} {us ws:List Value},Vals xs us→Vals ys ws→Vals (xs++ys) (us++ws)
 | _,_,_,_,.nil,s=>s
 | _,_,_,_,.cons r t,s=>.cons r (Vals.append t s)
def RelO:Option V→Option Value→Prop
 | some v,some u=>RelV v u
 | none,none=>True
 | _,_=>False
def KV {κ:Type}:List (κ × V)→List (κ × Value)→Prop:=Paired fun(p:κ × V) (q:κ × Value)=>p.1=q.1∧RelV p.2 q.2
def kV:Key→V
 | .inl i=>.int i
 | .inr x=>.str x
inductive HO where
  | lst (xs:List V)
  | tup (xs:List V)
  | dK (kvs:List (Key × V))|dT (kvs:List (List Key × V))
  | set (S:Int→Bool) (n:Nat)
  | ins (C dx:Addr) (fs:List (Str × V))
  | own (x:Addr)
  | xd (fs:List (Str × V))
  | met (f x:Addr)
  | rng (lo hi:Int)
  | frz (o:Obj) (u:HO)
  | tbl (ps:Array Value)
  | ext (φ:Heap→Prop)
abbrev Hp:=Addr→Option HO
def upd (H:Hp) (a:Addr) (o:HO):Hp:=fun b=>if b=a then some o else H b
theorem upd_same {H:Hp} {a:Addr} {o:HO}:upd H a o a=some o:=by unfold upd; rw[if_pos rfl]
theorem upd_ne {H:Hp} {a b:Addr} {o:HO} (h:b ≠ a):upd H a o b=H b:=by unfold upd; rw[if_neg h]
theorem ne_of {H:Hp} {a b:Addr} {o u:HO} (h:H a=some o) (h':H b=some u) (d:o ≠ u):a ≠ b:=by
 intro e; subst e; rw[h] at h'; exact d (Option.some.inj h')
theorem ne_of_none {H:Hp} {a b:Addr} {o:HO} (h:H a=some o) (h':H b=none):a ≠ b:=by
 intro e; subst e; rw[h] at h'; cases h'
section
variable (P:Program) (w:World)
def ObjOk (H:Hp) (h:Heap) (a:Addr):HO→Prop
 | .lst xs=>xs.length≤sizeLine∧∃(its:List Value) (n:Nat),Vals xs its∧h.get? a=some { cls:=.type "list",data:=.seq its.toArray n }
 | .tup xs=>xs.length≤sizeLine∧∃ its:List Value,Vals xs its∧IsTup h a its.toArray
 | .dK kvs=>kvs.length≤sizeLine∧(a == sysModules)=false∧∃ vs,KV kvs vs∧h.DictOf (mixKind P w) a vs
 | .dT kvs=>kvs.length≤sizeLine∧(a == sysModules)=false∧∃ xs:List (List Key × Addr × Value),
   Paired (fun(p:List Key × V) (q:List Key × Addr × Value)=>p.1=q.1∧H q.2.1=some (.tup (p.1.map kV))∧RelV p.2 q.2.2) kvs xs ∧
   ∃ o es ep,h.get? a=some o∧o.ExactDict∧o.data=.dict es ep∧es.toList=xs.map (entryOfKey (tupleKind (mixKind P w)))∧(xs.map (·.1)).Nodup
 | .set S n=>h.SetOf (intKind P w) a S n
 | .ins C dx fs=>H dx=some (.own a)∧fs.length≤1000∧dx ≠ a∧h.get? a=some (PySem.W.instObj C dx) ∧
   ∃ mA,h.Ns1 dx mA∧(∀ f,RelO (fs.lookup f) (mA f))∧PySem.Within mA (fs.map (·.1))
 | .own _=>∃ o,h.get? a=some o
 | .xd fs=>∃ mA,h.Ns1 a mA∧∀ f,RelO (fs.lookup f) (mA f)
 | .rng lo hi=>∃ t u v,h.get? a=some { cls:=.type "range",data:=.fields #[.int lo t,.int hi u,.int 1 v] }
 | .frz o u=>h.get? a=some o∧ObjOk H h a u
 | .tbl ps=>h.get? a=some { cls:=.none,data:=.fields ps }
 | .met f x=>h.get? a=some (PySem.W.methodObj (.ref f) (.ref x))
 | .ext φ=>φ h∧(∃ o,h.get? a=some o)∧∀ h1 h2:Heap,φ h1→(∀ o,h1.get? a=some o→h2.get? a=some o)→φ h2
def HOk (H:Hp) (h:Heap):Prop:=∀ a o,H a=some o→ObjOk P w H h a o
end
section
variable {P:Program} {w:World} {H H':Hp} {h h':Heap} {a:Addr} {o:HO}
theorem ObjOk.lt (x:ObjOk P w H h a o):a < h.objs.size:=by
 cases o with
 | lst xs=>obtain⟨_,_,_,_,e⟩:=x; exact Heap.lt_size e
 | tup xs=>obtain⟨_,_,_,p⟩:=x; exact p.lt
 | dK kvs=>obtain⟨_,_,_,_,o,_,_,e,_⟩:=x; exact Heap.lt_size e
 | dT kvs=>obtain⟨_,_,_,_,o,_,_,e,_⟩:=x; exact Heap.lt_size e
 | set S n=>obtain⟨o,_,_,_,e,_⟩:=x; exact Heap.lt_size e
 | ins C dx fs=>obtain⟨_,_,_,e,_⟩:=x; exact Heap.lt_size e
 | own y=>obtain⟨_,e⟩:=x; exact Heap.lt_size e
 | xd fs=>obtain⟨_,⟨_,_,_,e,_⟩,_⟩:=x; exact Heap.lt_size e
 | rng lo hi=>obtain⟨_,_,_,e⟩:=x; exact Heap.lt_size e
 | frz ob u=>obtain⟨e,_⟩:=x; exact Heap.lt_size e
 | tbl ps=>exact Heap.lt_size (show h.get? a=some _ from x)
 | met f y=>exact Heap.lt_size (show h.get? a=some _ from x)
 | ext φ=>obtain⟨_,⟨_,e⟩,_⟩:=x; exact Heap.lt_size e
theorem Paired.mapP {α β:Type} {F G:α→β→Prop}:∀ {l₁:List α} {l₂:List β},Paired F l₁ l₂→(∀ a b,F a b→G a b)→Paired G l₁ l₂
 | _,_,.nil,_=>.nil
 | _,_,.cons r t,f=>.cons (f _ _ r) (Paired.mapP t f)
theorem ObjOk.stay (x:ObjOk P w H h a o) (k:∀ b u,(b=a∨H b=some (.own a))→h.get? b=some u→h'.get? b=some u)
  (ho:∀ b,H b=some (.own a)→H' b=some (.own a)) (ht:∀ b xs,H b=some (.tup xs)→H' b=some (.tup xs)):ObjOk P w H' h' a o:=by
 induction o with
 | lst xs=>obtain⟨z,its,n,r,e⟩:=x; exact⟨z,its,n,r,k _ _ (.inl rfl) e⟩
 | tup xs=>obtain⟨z,its,r,ob,e,c⟩:=x; exact⟨z,its,r,ob,k _ _ (.inl rfl) e,c⟩
 | dK kvs=>obtain⟨z,y,vs,r,ob,es,ep,e,c⟩:=x; exact⟨z,y,vs,r,ob,es,ep,k _ _ (.inl rfl) e,c⟩
 | dT kvs =>
  obtain⟨z,y,xs,r,ob,es,ep,e,c⟩:=x
  exact⟨z,y,xs,Paired.mapP r fun p q z=>⟨z.1,ht _ _ z.2.1,z.2.2⟩,ob,es,ep,k _ _ (.inl rfl) e,c⟩
 | set S n=>obtain⟨ob,es,ep,t,e,c⟩:=x; exact⟨ob,es,ep,t,k _ _ (.inl rfl) e,c⟩
 | ins C dx fs =>
  obtain⟨d,z,ne,e,mA,⟨od,es,ep,e2,c⟩,r⟩:=x
  exact⟨ho _ d,z,ne,k _ _ (.inl rfl) e,mA,⟨od,es,ep,k _ _ (.inr d) e2,c⟩,r⟩
 | own y=>obtain⟨ob,e⟩:=x; exact⟨ob,k _ _ (.inl rfl) e⟩
 | xd fs=>obtain⟨mA,⟨od,es,ep,e,c⟩,r⟩:=x; exact⟨mA,⟨od,es,ep,k _ _ (.inl rfl) e,c⟩,r⟩
 | rng lo hi=>obtain⟨t,u,v,e⟩:=x; exact⟨t,u,v,k _ _ (.inl rfl) e⟩
 | frz ob u ih=>obtain⟨e,q⟩:=x; exact⟨k _ _ (.inl rfl) e,ih q⟩
 | tbl ps =>
  have e:h.get? a=some { cls:=.none,data:=.fields ps }:=x
  show h'.get? a=some { cls:=.none,data:=.fields ps }
  exact k a _ (.inl rfl) e
 | met f y =>
  have e:h.get? a=some (PySem.W.methodObj (.ref f) (.ref y)):=x
  show h'.get? a=some (PySem.W.methodObj (.ref f) (.ref y))
  exact k a _ (.inl rfl) e
 | ext φ=>obtain⟨p,⟨o,e⟩,st⟩:=x; exact⟨st _ _ p fun o q=>k _ _ (.inl rfl) q,⟨o,k _ _ (.inl rfl) e⟩,st⟩
theorem HOk.lt (x:HOk P w H h) (e:H a=some o):a < h.objs.size:=(x a o e).lt
theorem HOk.fresh (x:HOk P w H h) (e:h.objs.size≤a):H a=none:=by
 cases q:H a with
 | none=>rfl
 | some u=>exact absurd (zU (x.lt q) e) (qS _)
theorem HOk.kept (x:HOk P w H h) (k:∀ b u,h.get? b=some u→h'.get? b=some u):HOk P w H h':=fun a o e =>
 (x a o e).stay (fun b u _ q=>k b u q) (fun _ q=>q) fun _ _ q=>q
theorem HOk.laid (x:HOk P w H h) (k:∀ b u,h.get? b=some u→h'.get? b=some u) (hp:h.objs.size≤a) (new:ObjOk P w (upd H a o) h' a o):HOk P w (upd H a o) h':=fun b u e=>by
 have hn:=x.fresh hp
 by_cases hb:b=a
 ·subst hb; rw[upd_same] at e; cases e; exact new
 ·rw[upd_ne hb] at e
  exact(x b u e).stay (fun c v _ q=>k c v q) (fun c q=>by rw[upd_ne (ne_of_none q hn)]; exact q) fun c xs q=>by rw[upd_ne (ne_of_none q hn)]; exact q
end
def Rd (H:Hp) (a:Addr) (u:HO):Prop:=H a=some u∨∃ o,H a=some (.frz o u)
theorem Rd.ok {P:Program} {w:World} {H:Hp} {h:Heap} {a:Addr} {u:HO} (r:Rd H a u) (x:HOk P w H h):ObjOk P w H h a u:=by
 rcases r with r|⟨o,r⟩
 ·exact x a u r
 ·obtain⟨_,q⟩:=x a _ r
  exact q
def Mut:Option HO→Prop
 | some (.lst _)=>True
 | some (.dK _)=>True
 | some (.dT _)=>True
 | some (.set _ _)=>True
 | some (.ins _ _ _)=>True
 | some (.ext _)=>True
 | _=>False
section
variable {P:Program} {w:World} {H:Hp} {h h':Heap} {x e:Addr} {o':HO}
theorem HOk.write (ok:HOk P w H h) (mu:Mut (H x)) (he:e=x∨H e=some (.own x)) (k:∀ b u,b ≠ e→h.get? b=some u→h'.get? b=some u) (heo:∃ u,h'.get? e=some u)
  (new:ObjOk P w (upd H x o') h' x o'):HOk P w (upd H x o') h':=fun b u q=>by
 have nown:∀ c y,H c=some (.own y)→c ≠ x:=fun c y r z=>by subst z; rw[r] at mu; exact mu
 have ntup:∀ c xs,H c=some (.tup xs)→c ≠ x:=fun c xs r z=>by subst z; rw[r] at mu; exact mu
 by_cases hb:b=x
 ·subst hb; rw[upd_same] at q; cases q; exact new
 ·rw[upd_ne hb] at q
  by_cases hbe:b=e
  ·have q':H b=some (.own x):=by
    rcases he with z|z
    ·exact absurd (hbe.trans z) hb
    ·rw[hbe]; exact z
   rw[q] at q'; cases q'
   obtain⟨v,hv⟩:=heo
   exact⟨v,by rw[hbe]; exact hv⟩
  ·refine(ok b u q).stay (fun c v hc r=>k c v ?_ r) (fun c r=>by rw[upd_ne (nown c b r)]; exact r) fun c xs r=>by rw[upd_ne (ntup c xs r)]; exact r
   rcases hc with rfl|hc
   ·exact hbe
   ·rintro rfl
    rcases he with z|z
    ·exact nown c b hc z
    ·rw[hc] at z; cases z; exact hb rfl
end
structure Un (fs ex:List Addr) (H H':Hp) (h h':Heap):Prop where
 keep:∀ b o,h.get? b=some o→H b=none→b ∉ fs→b ∉ ex→h'.get? b=some o
 slot:∀ b o,h.get? b=some o→H b=none→b ∈ fs→b ∉ ex→∃ sl,h'.get? b=some { o with slots:=sl }
 free:∀ b o,h.get? b=some o→H b=none→b ∉ ex→H' b=none
 there:∀ b o,h.get? b=some o→b ∉ ex→∃ o',h'.get? b=some o'
 tups:∀ b xs,H b=some (.tup xs)→H' b=some (.tup xs)
 frzs:∀ b o u,H b=some (.frz o u)→H' b=some (.frz o u)
 tbls:∀ b ps,H b=some (.tbl ps)→∃ more,H' b=some (.tbl (ps++more))
section
variable {fs fs' ex ex':List Addr} {H H1 H2:Hp} {h h1 h2 h':Heap} {a x e:Addr} {o:HO}
theorem Un.any (u:Un fs ex H H1 h h1) {b:Addr} {ob:Obj} (q:h.get? b=some ob) (n:H b=none) (hx:b ∉ ex):∃ sl,h1.get? b=some { ob with slots:=sl }:=by
 by_cases hb:b ∈ fs
 ·exact u.slot b ob q n hb hx
 ·exact⟨ob.slots,u.keep b ob q n hb hx⟩
theorem Un.kept (k:∀ b u,h.get? b=some u→h'.get? b=some u):Un fs ex H H h h' :=
 ⟨fun b ob q _ _ _=>k b ob q,fun b ob q _ _ _=>⟨ob.slots,k b ob q⟩,fun _ _ _ n _=>n,fun b ob q _=>⟨ob,k b ob q⟩,fun _ _ q=>q,fun _ _ _ q=>q,fun _ ps q=>⟨#[],by rw[q]; simp⟩⟩
theorem Un.refl:Un fs ex H H h h:=Un.kept fun _ _ q=>q
theorem Un.laid (k:∀ b u,h.get? b=some u→h'.get? b=some u) (hp:h.objs.size≤a) (hn:H a=none):Un fs ex H (upd H a o) h h' where
 keep:=fun b u q _ _ _=>k b u q
 slot:=fun b u q _ _ _=>⟨u.slots,k b u q⟩
 free:=fun b u q n _=>by rw[upd_ne (zY (zU (Heap.lt_size q) hp))]; exact n
 there:=fun b u q _=>⟨u,k b u q⟩
 tups:=fun b xs q=>by rw[upd_ne (ne_of_none q hn)]; exact q
 frzs:=fun b u xs q=>by rw[upd_ne (ne_of_none q hn)]; exact q
 tbls:=fun b ps q=>⟨#[],by rw[upd_ne (ne_of_none q hn),q]; simp⟩
theorem Un.write (mu:Mut (H x)) (he:e=x∨H e=some (.own x)) (k:∀ b u,b ≠ e→h.get? b=some u→h'.get? b=some u) (heo:∃ u,h'.get? e=some u):Un fs ex H (upd H x o) h h':=by
 have hx:∀ b,H b=none→b ≠ x:=fun b n z=>by subst z; rw[n] at mu; exact mu
 have hb:∀ b,H b=none→b ≠ e:=fun b n z=>by
  subst z
  rcases he with r|r
  ·exact hx b n r
  ·rw[n] at r; cases r
 have hm:∀ b u,H b=some u→¬ Mut (some u)→b ≠ x:=fun b u q nm z=>by subst z; rw[q] at mu; exact nm mu
 refine⟨fun b u q n _ _=>k b u (hb b n) q,fun b u q n _ _=>⟨u.slots,k b u (hb b n) q⟩,fun b u q n _=>by rw[upd_ne (hx b n)]; exact n,fun b u q _=>?_,
  fun b xs q=>by rw[upd_ne (hm b _ q fun z=>z)]; exact q,fun b u xs q=>by rw[upd_ne (hm b _ q fun z=>z)]; exact q,fun b ps q=>⟨#[],by rw[upd_ne (hm b _ q fun z=>z),q]; simp⟩⟩
 by_cases hbe:b=e
 ·subst hbe; exact heo
 ·exact⟨u,k b u hbe q⟩
end
def trk (h:Heap) (H:Hp):List Addr:=(List.range h.objs.size).filter fun a=>(H a).isSome
def hidT (h:Heap) (H:Hp):Heap:=PySem.W.hideAll h (trk h H)
theorem hidT_size (h:Heap) (H:Hp):(hidT h H).objs.size=h.objs.size:=PySem.W.hideAll_size _ _
theorem hidT_get {h:Heap} {H:Hp} {b:Addr} {o:Obj} (e:h.get? b=some o) (n:H b=none):(hidT h H).get? b=some o :=
 PySem.W.hideAll_get _ e fun hm=>by
  have q:(H b).isSome=true:=(zV.mp hm).2
  rw[n] at q; simp at q
theorem of_hidT {h:Heap} {H:Hp} {b:Addr} {o:Obj} (e:(hidT h H).get? b=some o):h.get? b=some o∧H b=none:=by
 have e':h.get? b=some o:=PySem.W.of_hideAll (trk h H) e
 refine⟨e',?_⟩
 cases q:H b with
 | none=>rfl
 | some x =>
  have hm:b ∈ trk h H:=zV.mpr ⟨yU.mpr (Heap.lt_size e'),by simp [q]⟩
  have z:(hidT h H).get? b=none:=PySem.W.hideAll_none (trk h H) hm
  rw[z] at e; cases e
end L2
namespace L2
open PySem PySem.Spec PyProof.Rows
structure Mod (K:PySem.W.Frag) (mg:Str→Option Value) (base:Heap):Prop where
 kin:K.In base
 glob:base.Ns mainGlobals mg
 blt:∃ mb,base.Ns builtinsNs mb∧∀ x:Str,x ≠ "__name__"→mb x=bootBuiltins x
 nolimit:base.NoLimit
set_option genInjectivity false in
set_option genSizeOf false in
structure Cx where
 prog:Program
 w:World
 K:PySem.W.Frag
 mg:Str→Option Value
 base:Heap
 A:Around
 N:List Str
 s₀:Shared
 H₀:Hp
 env:Env
 outer:List Env
 stack:List Env
 ex:List Addr
 fn:Str→Bool
 calm:Bool
 pn:List (Addr × Obj)
 xe:Value→Shared→Prop
def frs (l:List Env):List Addr:=l.filterMap (·.frame)
abbrev Cx.fs (X:Cx):List Addr:=frs X.outer
def Vis (sc:Scope) (x:Str):Prop:=sc.names.lookup x=some .local∨sc.names.lookup x=some .cell∨sc.names.lookup x=some .free
def Loc (sc:Scope) (x:Str):Prop:=sc.names.lookup x=some .local∨sc.names.lookup x=some .cell
def Look (env:Env) (h:Heap) (m:Str→Option Value) (x:Str) (u:Value):Prop :=
 (env.kindOf x=some .local∧m x=some u)∨((env.kindOf x=some .cell∨env.kindOf x=some .free)∧∃ c,env.cells.lookup x=some c∧h.IsCell c (some u))
structure Cx.Ok (X:Cx):Prop where
 mod:Mod X.K X.mg X.base
 kind:X.env.scope.kind=.function
 glob:X.env.globals=mainGlobals
 blt:X.env.builtins=builtinsNs
 above:X.s₀.heap.objs.size≤X.env.locals
 inj:∀ x y c,X.env.cells.lookup x=some c→X.env.cells.lookup y=some c→x=y
 has:∀ x,(X.env.kindOf x=some .cell∨X.env.kindOf x=some .free)→∃ c,X.env.cells.lookup x=some c
 cab:∀ x c,X.fn x=true→X.env.cells.lookup x=some c→X.s₀.heap.objs.size≤c
 hd:X.calm=true→X.A.handled=none
 frames:X.A.frames=some X.stack
 stk:X.stack=X.outer∨(X.stack=X.env::X.outer∧X.env.frame=some X.env.locals)
 exf:∀ b ∈ X.ex,b ≠ X.env.locals∧∀ x c,X.env.cells.lookup x=some c→c ≠ b
 bs:∀ b o,X.base.get? b=some o→X.s₀.heap.get? b=some o∧X.H₀ b=none
 bsz:X.base.objs.size≤X.s₀.heap.objs.size
 noex:∀ b o,X.base.get? b=some o→b ∉ X.ex
 exfs:∀ b ∈ X.ex,b ∉ X.fs
 funs:X.s₀.heap.FunFrames X.base X.outer
 frf:∀ b ∈ X.fs,X.H₀ b=none
structure Inv (X:Cx) (pins:List (Addr × Obj)) (σ:List (Option V)) (H:Hp) (s:Shared):Prop where
 ok:X.Ok
 os:s.os=X.s₀.os
 bare:AllBare s.gens
 base:Un X.fs X.ex X.H₀ H X.s₀.heap s.heap
 loc:∃ m,s.heap.Ns X.env.locals m∧∀(i:Nat) (x:Str) (v:V),X.N[i]?=some x→σ[i]?=some (some v)→Vis X.env.scope x→∃ u,RelV v u∧Look X.env s.heap m x u
 cell:∀ x c,X.env.cells.lookup x=some c→∃ v,s.heap.IsCell c v
 free:H X.env.locals=none
 freeC:∀ x c,X.env.cells.lookup x=some c→H c=none
 pin:∀ p ∈ X.pn++pins,s.heap.get? p.1=some p.2∧H p.1=none∧p.1 ≠ X.env.locals∧p.1 ∉ X.fs∧∀ v,p.2.data ≠ .cell v
 hok:HOk X.prog X.w H s.heap
 len:σ.length=X.N.length
section
variable {X:Cx} {pins:List (Addr × Obj)} {σ:List (Option V)} {H H':Hp} {s:Shared} {h':Heap}
theorem Cx.Ok.nofr (ok:X.Ok) {b:Addr} {o:Obj} (e:X.base.get? b=some o):b ∉ X.fs:=fun hb=>by
 have:=(ok.funs.mem hb).1
 rw[e] at this; cases this
theorem Inv.bs (I:Inv X pins σ H s):∀ b o,X.base.get? b=some o→s.heap.get? b=some o∧H b=none:=fun b o e =>
 ⟨I.base.keep b o (I.ok.bs b o e).1 (I.ok.bs b o e).2 (I.ok.nofr e) (I.ok.noex b o e),I.base.free b o (I.ok.bs b o e).1 (I.ok.bs b o e).2 (I.ok.noex b o e)⟩
theorem Inv.bk (I:Inv X pins σ H s):∀ b o,X.base.get? b=some o→s.heap.get? b=some o:=fun b o e=>(I.bs b o e).1
theorem Inv.mod (I:Inv X pins σ H s):Mod X.K X.mg X.base:=I.ok.mod
theorem Inv.kIn (I:Inv X pins σ H s):X.K.In s.heap:=I.ok.mod.kin.keeps I.bk
theorem Inv.nolimit (I:Inv X pins σ H s):s.heap.NoLimit:=I.ok.mod.nolimit.keeps I.bk
theorem Inv.lt (I:Inv X pins σ H s):X.env.locals < s.heap.objs.size:=let ⟨_,hn,_⟩:=I.loc; hn.lt
theorem Inv.sz (I:Inv X pins σ H s):X.s₀.heap.objs.size≤s.heap.objs.size:=z9 I.ok.above (qB I.lt)
theorem Inv.nofs (I:Inv X pins σ H s) {a:Addr} (h:s.heap.objs.size≤a):a ∉ X.fs:=fun hb=>by
 obtain⟨_,o,ho,_⟩:=I.ok.funs.mem hb
 exact absurd (zU (Heap.lt_size ho) (z9 I.sz h)) (qS _)
theorem Inv.cne (I:Inv X pins σ H s):∀ x c,X.env.cells.lookup x=some c→c ≠ X.env.locals:=fun x c e z=>by
 obtain⟨v,o,ho,hd⟩:=I.cell x c e
 obtain⟨m,⟨o',es,ep,ho',hd',_⟩,_⟩:=I.loc
 rw[z,ho'] at ho; cases ho; rw[hd'] at hd; cases hd
theorem Inv.funs (I:Inv X pins σ H s):s.heap.FunFrames X.base X.outer:=by
 have all:∀(l:List Env),(∀ b ∈ frs l,b ∈ X.fs)→X.s₀.heap.FunFrames X.base l→s.heap.FunFrames X.base l:=by
  intro l
  induction l with
  | nil=>intro _ _; trivial
  | cons env r ih =>
   intro hs hl
   obtain⟨hk,⟨L,o,hf,hn,ho,hd⟩,hr⟩:=hl
   have hL:L ∈ X.fs:=hs L (by unfold frs; rw[qZ,hf]; exact zH)
   obtain⟨sl,e⟩:=I.base.slot L o ho (I.ok.frf L hL) hL fun z=>I.ok.exfs L z hL
   exact⟨hk,⟨L,_,hf,hn,e,hd⟩,ih (fun b hb=>hs b (by unfold frs; rw[qZ,hf]; exact zJ _ hb)) hr⟩
 exact all X.outer (fun _ hb=>hb) I.ok.funs
theorem Inv.stack (I:Inv X pins σ H s):s.heap.FunFrames X.base X.stack:=by
 rcases I.ok.stk with e|⟨e,hf⟩
 ·rw[e]; exact I.funs
 ·rw[e]
  obtain⟨m,hn,_⟩:=I.loc
  refine .cons (by rw[I.ok.kind]; decide) hf hn ?_ I.funs
  exact Heap.get?_none_of_le (z9 I.ok.bsz I.ok.above)
theorem Inv.stkSub (I:Inv X pins σ H s):∀ b ∈ frs X.stack,b ∈ X.env.locals::X.fs:=fun b hb=>by
 rcases I.ok.stk with e|⟨e,hf⟩
 ·rw[e] at hb; exact zJ _ hb
 ·rw[e] at hb
  unfold frs at hb
  rw[qZ,hf] at hb
  exact hb
theorem Inv.stkFree (I:Inv X pins σ H s):∀ b ∈ frs X.stack,H b=none:=fun b hb=>by
 rcases zS.mp (I.stkSub b hb) with e|hb
 ·rw[e]; exact I.free
 ·obtain⟨_,o,ho,_⟩:=I.ok.funs.mem hb
  exact I.base.free b o ho (I.ok.frf b hb) fun z=>I.ok.exfs b z hb
theorem Inv.step {g':Array GenState} {t':Nat} {d':Drawn} {ch:List Addr} (I:Inv X pins σ H s)
  (hch:∀ b ∈ ch,(b ∈ X.ex∨X.s₀.heap.objs.size≤b)∧b ≠ X.env.locals∧(∀ x c,X.env.cells.lookup x=some c→c ≠ b)∧∀ p ∈ X.pn++pins,p.1 ≠ b)
  (keep:∀ b o,b ≠ X.env.locals→b ∉ X.fs→b ∉ ch→s.heap.get? b=some o→H b=none→h'.get? b=some o)
  (slot:∀ b o,b ≠ X.env.locals→b ∈ X.fs→b ∉ ch→s.heap.get? b=some o→H b=none→∃ sl,h'.get? b=some { o with slots:=sl }) (free:∀ b o,b ∉ ch→s.heap.get? b=some o→H b=none→H' b=none)
  (there:∀ b o,b ∉ ch→s.heap.get? b=some o→∃ o',h'.get? b=some o')
  (tups:∀ b xs,H b=some (.tup xs)→H' b=some (.tup xs)) (frzs:∀ b o u,H b=some (.frz o u)→H' b=some (.frz o u)) (tbls:∀ b ps,H b=some (.tbl ps)→∃ more,H' b=some (.tbl (ps++more)))
  (ns:∀ m,s.heap.Ns X.env.locals m→h'.Ns X.env.locals m) (hok:HOk X.prog X.w H' h') (hg:AllBare g') :
  Inv X pins σ H' { s with heap:=h',gens:=g',drawn:=d',toks:=t' }:=by
 have neL:∀ b o,X.s₀.heap.get? b=some o→b ≠ X.env.locals:=fun b o e=>zY (zU (Heap.lt_size e) I.ok.above)
 have neC:∀ b o,X.s₀.heap.get? b=some o→b ∉ X.ex→b ∉ ch:=fun b o e hx hb=>by
  rcases(hch b hb).1 with z|z
  ·exact hx z
  ·exact absurd (zU (Heap.lt_size e) z) (qS _)
 have cellK:∀ x c,X.env.cells.lookup x=some c→∀ v,s.heap.IsCell c v→h'.IsCell c v:=fun x c e v ⟨o,ho,hd⟩=>by
  have nch:c ∉ ch:=fun z=>(hch c z).2.2.1 x c e rfl
  by_cases hc:c ∈ X.fs
  ·obtain⟨sl,q⟩:=slot c o (I.cne x c e) hc nch ho (I.freeC x c e)
   exact⟨_,q,hd⟩
  ·exact⟨o,keep c o (I.cne x c e) hc nch ho (I.freeC x c e),hd⟩
 refine⟨I.ok,I.os,hg,⟨fun b o e n hb hx=>?_,fun b o e n hb hx=>?_,fun b o e n hx=>?_,fun b o e hx=>?_,fun b xs e=>tups b xs (I.base.tups b xs e),fun b o xs e=>frzs b o xs (I.base.frzs b o xs e),fun b ps e=>?_⟩,?_,fun x c e=>?_,?_,fun x c e=>?_,fun p hp=>?_,hok,I.len⟩
 ·exact keep b o (neL b o e) hb (neC b o e hx) (I.base.keep b o e n hb hx) (I.base.free b o e n hx)
 ·obtain⟨sl,e1⟩:=I.base.slot b o e n hb hx
  obtain⟨sl',e2⟩:=slot b _ (neL b o e) hb (neC b o e hx) e1 (I.base.free b o e n hx)
  exact⟨sl',e2⟩
 ·obtain⟨o',e1⟩:=I.base.there b o e hx
  exact free b o' (neC b o e hx) e1 (I.base.free b o e n hx)
 ·obtain⟨o',e1⟩:=I.base.there b o e hx
  exact there b o' (neC b o e hx) e1
 ·obtain⟨m1,e1⟩:=I.base.tbls b ps e
  obtain⟨m2,e2⟩:=tbls b _ e1
  exact⟨m1++m2,by rw[e2,Array.append_assoc]⟩
 ·obtain⟨m,hn,hl⟩:=I.loc
  refine⟨m,ns m hn,fun i x v e1 e2 e3=>?_⟩
  obtain⟨u,r,l⟩:=hl i x v e1 e2 e3
  refine⟨u,r,?_⟩
  rcases l with l|⟨k,c,e,z⟩
  ·exact .inl l
  ·exact .inr ⟨k,c,e,cellK x c e _ z⟩
 ·obtain⟨v,z⟩:=I.cell x c e
  exact⟨v,cellK x c e v z⟩
 ·obtain⟨m,⟨o,_,_,ho,_⟩,_⟩:=I.loc
  exact free _ o (fun z=>(hch _ z).2.1 rfl) ho I.free
 ·obtain⟨v,o,ho,hd⟩:=I.cell x c e
  exact free c o (fun z=>(hch c z).2.2.1 x c e rfl) ho (I.freeC x c e)
 ·obtain⟨e,n,ne,nf,d⟩:=I.pin p hp
  have nch:p.1 ∉ ch:=fun z=>(hch p.1 z).2.2.2 p hp rfl
  exact⟨keep p.1 p.2 ne nf nch e n,free p.1 p.2 nch e n,ne,nf,d⟩
theorem Inv.un {t':Nat} (I:Inv X pins σ H s) (u:Un X.fs [] H H' s.heap h') (hok:HOk X.prog X.w H' h'):Inv X pins σ H' { s with heap:=h',toks:=t' }:=by
 obtain⟨m,⟨o,es,ep,ho,r⟩,_⟩:=id I.loc
 obtain⟨sl,hL⟩:=u.any ho I.free (by simp)
 exact I.step (g':=s.gens) (d':=s.drawn) (ch:=[]) (fun _ z=>nomatch z) (fun b o _ hb _ e n=>u.keep b o e n hb (by simp)) (fun b o _ hb _ e n=>u.slot b o e n hb (by simp)) (fun b o _ e n=>u.free b o e n (by simp)) (fun b o _ e=>u.there b o e (by simp)) u.tups u.frzs u.tbls (fun m' hm=>by
  obtain⟨o',es',ep',ho',r'⟩:=hm
  rw[ho] at ho'; cases ho'
  exact⟨_,es',ep',hL,r'⟩) hok I.bare
theorem Inv.call {g':Array GenState} {t':Nat} {d':Drawn} {ch:List Addr} (I:Inv X pins σ H s) (u:Un (frs X.stack) ch H H' s.heap h') (hok:HOk X.prog X.w H' h') (hg:AllBare g')
  (hch:∀ b ∈ ch,(b ∈ X.ex∨X.s₀.heap.objs.size≤b)∧b ≠ X.env.locals∧(∀ x c,X.env.cells.lookup x=some c→c ≠ b)∧∀ p ∈ X.pn++pins,p.1 ≠ b) :
  Inv X pins σ H' { s with heap:=h',gens:=g',drawn:=d',toks:=t' }:=by
 obtain⟨m,⟨o,es,ep,ho,r⟩,_⟩:=id I.loc
 obtain⟨sl,hL⟩:=u.any ho I.free fun z=>(hch _ z).2.1 rfl
 exact I.step (ch:=ch) hch (fun b o hL hb hc e n=>u.keep b o e n (fun z=>(zS.mp (I.stkSub b z)).elim hL hb) hc) (fun b o _ _ hc e n=>u.any e n hc) (fun b o hc e n=>u.free b o e n hc) (fun b o hc e=>u.there b o e hc) u.tups u.frzs u.tbls (fun m' hm=>by
  obtain⟨o',es',ep',ho',r'⟩:=hm
  rw[ho] at ho'; cases ho'
  exact⟨_,es',ep',hL,r'⟩) hok hg
theorem Inv.turned {t':Nat} {it:Addr} (I:Inv X pins σ H s) (k:∀ b o,b ≠ it→s.heap.get? b=some o→h'.get? b=some o) (hn:H it=none) (hL:it ≠ X.env.locals)
  (h1:it ∈ X.ex∨X.s₀.heap.objs.size≤it) (h2:∀ x c,X.env.cells.lookup x=some c→c ≠ it) (h3:∀ p ∈ X.pn++pins,p.1 ≠ it):Inv X pins σ H { s with heap:=h',toks:=t' }:=by
 have nit:∀ b u,H b=some u→b ≠ it:=fun b u e z=>by rw[z,hn] at e; cases e
 refine I.step (g':=s.gens) (d':=s.drawn) (ch:=[it]) (fun b hb=>?_) (fun b o _ _ hc e _=>k b o (fun z=>hc (by simp [z])) e) (fun b o _ _ hc e _=>⟨o.slots,k b o (fun z=>hc (by simp [z])) e⟩) (fun _ _ _ _ n=>n)
  (fun b o hc e=>⟨o,k b o (fun z=>hc (by simp [z])) e⟩) (fun _ _ e=>e) (fun _ _ _ e=>e) (fun b ps e=>⟨#[],by rw[e]; simp⟩) (fun m hm=>?_) (fun b u e=>?_) I.bare
 ·have e:b=it:=by simpa using hb
  subst e
  exact⟨h1,hL,h2,h3⟩
 ·obtain⟨o,es,ep,ho,r⟩:=hm
  exact⟨o,es,ep,k _ o (Ne.symm hL) ho,r⟩
 ·refine(I.hok b u e).stay (fun c v hc q=>k c v ?_ q) (fun _ q=>q) fun _ _ q=>q
  rcases hc with z|z
  ·rw[z]; exact nit b u e
  ·exact nit c _ z
theorem Inv.tok (I:Inv X pins σ H s) (t:Nat):Inv X pins σ H { s with toks:=t }:=I.un (h':=s.heap) (t':=t) Un.refl I.hok
theorem Inv.kept {t':Nat} (I:Inv X pins σ H s) (k:∀ b u,s.heap.get? b=some u→h'.get? b=some u):Inv X pins σ H { s with heap:=h',toks:=t' }:=I.un (Un.kept k) (I.hok.kept k)
theorem Inv.laid {a:Addr} {o:HO} {t':Nat} (I:Inv X pins σ H s) (k:∀ b u,s.heap.get? b=some u→h'.get? b=some u) (hp:s.heap.objs.size≤a) (new:ObjOk X.prog X.w (upd H a o) h' a o) :
  Inv X pins σ (upd H a o) { s with heap:=h',toks:=t' }:=I.un (Un.laid k hp (I.hok.fresh hp)) (I.hok.laid k hp new)
theorem Inv.write {x e:Addr} {o:HO} {t':Nat} (I:Inv X pins σ H s) (mu:Mut (H x)) (he:e=x∨H e=some (.own x)) (k:∀ b u,b ≠ e→s.heap.get? b=some u→h'.get? b=some u) (heo:∃ u,h'.get? e=some u)
  (new:ObjOk X.prog X.w (upd H x o) h' x o):Inv X pins σ (upd H x o) { s with heap:=h',toks:=t' }:=I.un (Un.write mu he k heo) (I.hok.write mu he k heo new)
theorem Inv.pins_of {pins':List (Addr × Obj)} (I:Inv X pins σ H s) (h:∀ p ∈ pins',s.heap.get? p.1=some p.2∧H p.1=none∧p.1 ≠ X.env.locals∧p.1 ∉ X.fs∧∀ v,p.2.data ≠ .cell v):Inv X pins' σ H s :=
 ⟨I.ok,I.os,I.bare,I.base,I.loc,I.cell,I.free,I.freeC,fun p hp=>(zW.mp hp).elim (fun z=>I.pin p (yV _ z)) (h p),I.hok,I.len⟩
theorem nodup_ix {N:List Str} (hN:N.Nodup) {i j:Nat} {x:Str} (a:N[i]?=some x) (b:N[j]?=some x):i=j:=by
 obtain⟨h1,e1⟩:=zC.mp a
 obtain⟨h2,e2⟩:=zC.mp b
 exact(List.getElem_inj hN).mp (e1.trans e2.symm)
theorem store_ok2 {M:Model} {A:Around} {E:Value→Shared→Prop} {i:Nat} {x:Str} {v:V} {u:Value} {Q:Unit→Shared→Prop} (I:Inv X pins σ H s) (hN:X.N.Nodup) (hi:X.N[i]?=some x) (hx:Loc X.env.scope x) (r:RelV v u)
  (h:∀ s',Inv X pins (σ.set i (some v)) H s'→(∃ a,Heap.SameBut a s.heap s'.heap∧(a=X.env.locals∨X.env.cells.lookup x=some a))→Q () s') (hf:X.fn x=true∨X.env.scope.names.lookup x=some .local:=by first|exact .inl rfl|exact .inr rfl|assumption):wpAny M A (storeName X.env x u) Q E s:=by
 obtain⟨m,hn,hl⟩:=id I.loc
 have hcls:(X.env.scope.kind == .class || (X.env.scope.kind == .module && X.env.locals != X.env.globals))=false:=by rw[I.ok.kind]; rfl
 have hiσ:i < σ.length:=by rw[I.len]; exact(zC.mp hi).1
 have cne:=I.cne
 have tracked:∀ {a:Addr} {h':Heap},(∃ o,s.heap.get? a=some o∧H a=none)→Heap.SameBut a s.heap h'→HOk X.prog X.w H h':=fun {a h'} ha hs b ob e=>by
  obtain⟨_,_,hfree⟩:=ha
  refine(I.hok b ob e).stay (fun c w' hc q=>(hs.2 c ?_).trans q) (fun _ q=>q) fun _ _ q=>q
  rintro rfl
  rcases hc with rfl|hc
  ·rw[hfree] at e; cases e
  ·rw[hfree] at hc; cases hc
 rcases hx with hk|hk
 ·refine wpAny_storeName_local hk hn (fun h' hn' hs=>?_) hcls
  obtain⟨oL,_,_,hoL,_⟩:=id hn
  refine h _ ⟨I.ok,I.os,I.bare,⟨fun b o e n hb hx=>?_,fun b o e n hb hx=>?_,I.base.free,fun b o e hx=>?_,I.base.tups,I.base.frzs,I.base.tbls⟩,⟨_,hn',fun j y v' e1 e2 e3=>?_⟩,fun y c e=>?_,I.free,I.freeC,fun p hp=>?_,tracked ⟨oL,hoL,I.free⟩ hs,by simpa using I.len⟩ ⟨_,hs,.inl rfl⟩
  ·exact(hs.2 b (zY (zU (Heap.lt_size e) I.ok.above))).trans (I.base.keep b o e n hb hx)
  ·obtain⟨sl,e1⟩:=I.base.slot b o e n hb hx
   exact⟨sl,(hs.2 b (zY (zU (Heap.lt_size e) I.ok.above))).trans e1⟩
  ·obtain⟨o',e1⟩:=I.base.there b o e hx
   exact⟨o',(hs.2 b (zY (zU (Heap.lt_size e) I.ok.above))).trans e1⟩
  ·by_cases hj:j=i
   ·subst hj
    rw[hi] at e1; cases e1
    rw[yR hiσ] at e2
    cases e2
    exact⟨u,r,.inl ⟨hk,by simp⟩⟩
   ·rw[yY (Ne.symm hj)] at e2
    obtain⟨u',r',q⟩:=hl j y v' e1 e2 e3
    refine⟨u',r',?_⟩
    rcases q with ⟨k,e⟩|⟨k,c,e,z⟩
    ·refine .inl ⟨k,?_⟩
     have:y ≠ x:=fun e=>hj (nodup_ix hN e1 (e ▸ hi))
     simp [this,e]
    ·exact .inr ⟨k,c,e,z.sameBut hs (cne y c e)⟩
  ·obtain⟨w',z⟩:=I.cell y c e
   exact⟨w',z.sameBut hs (cne y c e)⟩
  ·obtain⟨e,n,ne,nf,d⟩:=I.pin p hp
   exact⟨(hs.2 p.1 ne).trans e,n,ne,nf,d⟩
 ·have hfn:X.fn x=true:=by
   rcases hf with z|z
   ·exact z
   ·rw[z] at hk; cases hk
  obtain⟨c,hc⟩:=I.ok.has x (.inl hk)
  obtain⟨w',z⟩:=I.cell x c hc
  refine wpAny_storeName_cell I.ok.kind hk hc z (fun h' hc' hs=>?_)
  obtain⟨oc,hoc,hocd⟩:=id z
  refine h { s with heap:=h' } ⟨I.ok,I.os,I.bare,⟨fun b o e n hb hx=>?_,fun b o e n hb hx=>?_,I.base.free,fun b o e hx=>?_,I.base.tups,I.base.frzs,I.base.tbls⟩,⟨m,hn.sameBut hs (Ne.symm (cne x c hc)),fun j y v' e1 e2 e3=>?_⟩,fun y c' e=>?_,I.free,I.freeC,fun p hp=>?_,tracked ⟨oc,hoc,I.freeC x c hc⟩ hs,by simpa using I.len⟩ ⟨c,hs,.inr hc⟩
  ·exact(hs.2 b (zY (zU (Heap.lt_size e) (I.ok.cab x c hfn hc)))).trans (I.base.keep b o e n hb hx)
  ·obtain⟨sl,e1⟩:=I.base.slot b o e n hb hx
   exact⟨sl,(hs.2 b (zY (zU (Heap.lt_size e) (I.ok.cab x c hfn hc)))).trans e1⟩
  ·obtain⟨o',e1⟩:=I.base.there b o e hx
   exact⟨o',(hs.2 b (zY (zU (Heap.lt_size e) (I.ok.cab x c hfn hc)))).trans e1⟩
  ·by_cases hj:j=i
   ·subst hj
    rw[hi] at e1; cases e1
    rw[yR hiσ] at e2
    cases e2
    exact⟨u,r,.inr ⟨.inl hk,c,hc,hc'⟩⟩
   ·rw[yY (Ne.symm hj)] at e2
    obtain⟨u',r',q⟩:=hl j y v' e1 e2 e3
    refine⟨u',r',?_⟩
    rcases q with q|⟨k,c',e,z'⟩
    ·exact .inl q
    ·refine .inr ⟨k,c',e,z'.sameBut hs ?_⟩
     rintro rfl
     exact hj (nodup_ix hN e1 (I.ok.inj _ _ _ e hc ▸ hi))
  ·by_cases hcc:c'=c
   ·subst hcc; exact⟨_,hc'⟩
   ·obtain⟨w2,z2⟩:=I.cell y c' e
    exact⟨w2,z2.sameBut hs hcc⟩
  ·obtain⟨e,n,ne,nf,d⟩:=I.pin p hp
   refine⟨(hs.2 p.1 ?_).trans e,n,ne,nf,d⟩
   intro q
   rw[q,hoc] at e
   have q':oc=p.2:=Option.some.inj e
   exact d w' (by rw[← q']; exact hocd)
theorem store_ok {M:Model} {A:Around} {E:Value→Shared→Prop} {i:Nat} {x:Str} {v:V} {u:Value} {Q:Unit→Shared→Prop} (I:Inv X pins σ H s) (hN:X.N.Nodup) (hi:X.N[i]?=some x) (hx:Loc X.env.scope x) (r:RelV v u)
  (h:∀ s',Inv X pins (σ.set i (some v)) H s'→Q () s') (hf:X.fn x=true∨X.env.scope.names.lookup x=some .local:=by first|exact .inl rfl|exact .inr rfl|assumption):wpAny M A (storeName X.env x u) Q E s :=
 store_ok2 I hN hi hx r (fun s' I' _=>h s' I') hf
theorem Inv.call' {s':Shared} {ch:List Addr} (I:Inv X pins σ H s) (ho:s'.os=s.os) (u:Un (frs X.stack) ch H H' s.heap s'.heap) (hok:HOk X.prog X.w H' s'.heap) (hg:AllBare s'.gens)
  (hch:∀ b ∈ ch,(b ∈ X.ex∨X.s₀.heap.objs.size≤b)∧b ≠ X.env.locals∧(∀ x c,X.env.cells.lookup x=some c→c ≠ b)∧∀ p ∈ X.pn++pins,p.1 ≠ b):Inv X pins σ H' s':=by
 obtain⟨h',g',d',t',o'⟩:=s'
 have e:o'=s.os:=ho
 subst e
 exact I.call (g':=g') (t':=t') (d':=d') u hok hg hch
end
abbrev XK:=Value→Option Addr→Hp→Prop
abbrev St:=List (Option V)
abbrev VK:=V→Hp→Prop
abbrev TE:=St→Hp→VK→Prop
abbrev TT:=St→Hp→(Bool→Hp→Prop)→Prop
abbrev TA:=St→Hp→(List V→Hp→Prop)→Prop
set_option genInjectivity false in
set_option genSizeOf false in
structure Ends where
 nx:St→Hp→Prop
 rt:VK
 bk:St→Hp→Prop:=fun _ _=>False
 ct:St→Hp→Prop:=fun _ _=>False
abbrev TS:=Ends→St→Hp→Prop
inductive EP (X:Cx) (pins:List (Addr × Obj)) (σ:St) (Q:VK) (u:Value) (s':Shared):Prop where
 | mk (v H':_) (h_0:Inv X pins σ H' s') (h_1:RelV v u) (h_2:Q v H'):EP X pins σ Q u s'
inductive TP (X:Cx) (pins:List (Addr × Obj)) (σ:St) (Q:Bool→Hp→Prop) (b:Bool) (s':Shared):Prop where
 | mk (H':_) (h_0:Inv X pins σ H' s') (h_1:Q b H'):TP X pins σ Q b s'
inductive AP (X:Cx) (pins:List (Addr × Obj)) (σ:St) (Q:List V→Hp→Prop) (us:List Value) (s':Shared):Prop where
 | mk (vs H':_) (h_0:Inv X pins σ H' s') (h_1:Vals vs us) (h_2:Q vs H'):AP X pins σ Q us s'
def SP (X:Cx) (pins:List (Addr × Obj)) (D:Ends) (f:Flow) (s':Shared):Prop :=
 match f with
 | .next=>∃ σ' H',Inv X pins σ' H' s'∧D.nx σ' H'
 | .brk=>∃ σ' H',Inv X pins σ' H' s'∧D.bk σ' H'
 | .cont=>∃ σ' H',Inv X pins σ' H' s'∧D.ct σ' H'
 | .ret u=>∃ v σ' H',Inv X pins σ' H' s'∧RelV v u∧D.rt v H'
def PE (X:Cx) (e:Expr) (t:TE):Prop :=
 ∀(pins:List (Addr × Obj)) (s:Shared) (σ:St) (H:Hp) (Q:VK),Inv X pins σ H s→t σ H Q→wpAny (model X.prog X.w) X.A (eval e X.env) (EP X pins σ Q) X.xe s
def PT (X:Cx) (e:Expr) (t:TT):Prop :=
 ∀(pins:List (Addr × Obj)) (s:Shared) (σ:St) (H:Hp) (Q:Bool→Hp→Prop),Inv X pins σ H s→t σ H Q→wpAny (model X.prog X.w) X.A (isTrue e X.env (eval e X.env)) (TP X pins σ Q) X.xe s
def PW (X:Cx) (e:Expr) (t:TT):Prop :=
 ∀(whole:Sem Value) (pins:List (Addr × Obj)) (s:Shared) (σ:St) (H:Hp) (Q:Bool→Hp→Prop),Inv X pins σ H s→t σ H Q→wpAny (model X.prog X.w) X.A (isTrue e X.env whole) (TP X pins σ Q) X.xe s
theorem PW.pt {X:Cx} {e:Expr} {t:TT} (h:PW X e t):PT X e t:=h _
def PA (X:Cx) (es:List Expr) (t:TA):Prop :=
 ∀(pos:Pos) (pins:List (Addr × Obj)) (s:Shared) (σ:St) (H:Hp) (Q:List V→Hp→Prop),Inv X pins σ H s→t σ H Q→wpAny (model X.prog X.w) X.A (spliced (backTo pos (starEach es X.env))) (AP X pins σ Q) X.xe s
def PS (X:Cx) (st:Stmt) (t:TS):Prop :=
 ∀(pins:List (Addr × Obj)) (s:Shared) (σ:St) (H:Hp) (D:Ends),Inv X pins σ H s→t D σ H→wpAny (model X.prog X.w) X.A (exec st X.env) (SP X pins D) X.xe s
def PSs (X:Cx) (st:List Stmt) (t:TS):Prop :=
 ∀(pins:List (Addr × Obj)) (s:Shared) (σ:St) (H:Hp) (D:Ends),Inv X pins σ H s→t D σ H→wpAny (model X.prog X.w) X.A (execs st X.env) (SP X pins D) X.xe s
theorem thn {α:Type} {t:Sem α} {Q Q':α→Shared→Prop} {M:Model} {A:Around} {E:Value→Shared→Prop} {s:Shared} (h:wpAny M A t Q E s) (hQ:∀ a s,Q a s→Q' a s):wpAny M A t Q' E s:=wpAny_mono h hQ fun _ _ x=>x
end L2
namespace L2
open PySem PySem.Spec PyProof.Rows
section
variable {X:Cx}
inductive tVar (i:Nat) (σ:St) (H:Hp) (Q:VK):Prop where
 | mk (v:_) (h_0:σ[i]?=some (some v)) (h_1:Q v H):tVar i σ H Q
def tC (v:V):TE:=fun _ H Q=>Q v H
theorem pe_var {i:Nat} {x:Str} {pos:Pos} (hN:X.N[i]?=some x) (hv:Vis X.env.scope x) (hd:(x == ("__debug__":Str))=false:=by decide) (hcd:(x == ("__classdict__":Str))=false:=by decide):PE X (.Name x pos) (tVar i):=by
 intro pins s σ H Q I h
 obtain⟨v,e,h⟩:=h
 obtain⟨m,hn,hl⟩:=I.loc
 obtain⟨u,r,l⟩:=hl i x v hN e hv
 have fin:EP X pins σ Q u s:=⟨v,H,I,r,h⟩
 rcases l with ⟨hk,hm⟩|⟨hk,c,hc,hcell⟩
 ·exact wpAny_Name (wpAny_loadName_local I.ok.kind hk hn hm fin) hd
 ·rcases hk with hk|hk
  ·exact wpAny_Name (wpAny_loadName_cell I.ok.kind hk hc hcell fin) hd
  ·exact wpAny_Name (wpAny_loadName_free I.ok.kind hk hc hcell fin hcd) hd
theorem pe_int {i j pos}:PE X (.Constant (.int i) j pos) (tC (.int i)):=fun _ _ _ H _ I h=>wpAny_Constant_int ⟨.int i,H,I.tok _,⟨_,rfl⟩,h⟩
theorem pe_bl {b j pos}:PE X (.Constant (.bool b) j pos) (tC (.bl b)):=fun _ _ _ H _ I h=>Constant_bool ⟨.bl b,H,I,rfl,h⟩
theorem pe_non {j pos}:PE X (.Constant .none j pos) (tC .non):=fun _ _ _ H _ I h=>Constant_none ⟨.non,H,I,rfl,h⟩
theorem pe_str {x j pos}:PE X (.Constant (.str x) j pos) (tC (.str x)):=fun _ _ _ H _ I h=>Calls.Constant_str ⟨.str x,H,I.tok _,⟨_,rfl⟩,h⟩
def Gl (X:Cx) (x:Str):Prop:=X.env.kindOf x=some .globalImplicit
theorem ld_glob {E:Value→Shared→Prop} {pins:List (Addr × Obj)} {s:Shared} {σ:St} {H:Hp} {x:Str} {u:Value} {pos:Pos} {Q:Value→Shared→Prop} (I:Inv X pins σ H s) (hg:Gl X x) (hm:X.mg x=some u) (h:Q u s)
  (hd:(x == ("__debug__":Str))=false:=by decide):wpAny (model X.prog X.w) X.A (eval (.Name x pos) X.env) Q E s :=
 Calls.Name_function_global I.ok.kind hg (Calls.loadGlobal_global (by rw[I.ok.glob]; exact I.mod.glob.keeps I.bk) hm h) hd
theorem ld_blt {E:Value→Shared→Prop} {pins:List (Addr × Obj)} {s:Shared} {σ:St} {H:Hp} {x:Str} {u:Value} {pos:Pos} {Q:Value→Shared→Prop} (I:Inv X pins σ H s) (hg:Gl X x) (hm:X.mg x=none) (hv:bootBuiltins x=some u) (h:Q u s)
  (hn:x ≠ "__name__":=by decide) (hd:(x == ("__debug__":Str))=false:=by decide):wpAny (model X.prog X.w) X.A (eval (.Name x pos) X.env) Q E s:=by
 obtain⟨mb,h1,h2⟩:=I.mod.blt
 exact Calls.Name_function_global I.ok.kind hg (Calls.loadGlobal_builtin (by rw[I.ok.glob]; exact I.mod.glob.keeps I.bk) hm (by rw[I.ok.blt]; exact h1.keeps I.bk) ((h2 x hn).trans hv) h) hd
theorem pe_glob {x:Str} {v:V} {u:Value} {pos:Pos} (hg:Gl X x) (hm:X.mg x=some u) (r:RelV v u) (hd:(x == ("__debug__":Str))=false:=by decide):PE X (.Name x pos) (tC v) :=
 fun _ _ _ H _ I h=>ld_glob I hg hm ⟨v,H,I,r,h⟩ hd
theorem pe_bltn {x:Str} {v:V} {u:Value} {pos:Pos} (hg:Gl X x) (hm:X.mg x=none) (hv:bootBuiltins x=some u) (r:RelV v u) (hn:x ≠ "__name__":=by decide) (hd:(x == ("__debug__":Str))=false:=by decide):PE X (.Name x pos) (tC v) :=
 fun _ _ _ H _ I h=>ld_blt I hg hm hv ⟨v,H,I,r,h⟩ hn hd
variable {a b:Expr} {ta tb:TE} {pos:Pos}
inductive tB_ (Q:Bool→Hp→Prop) (x:V) (H1:Hp):Prop where
 | mk (c:_) (h_0:x=.bl c) (h_1:Q c H1):tB_ Q x H1
def tB (t:TE):TT:=fun σ H Q=>t σ H fun x H1=>tB_ Q x H1
theorem pt_val {e:Expr} {t:TE} (h:PE X e t) (he:∀ whole,isTrue e X.env whole=(do let v ← whole; standAt e.pos; holding [v] (truthy v)):=by intro _; rfl):PT X e (tB t):=by
 intro pins s σ H Q I hw
 refine isTrue_plain (thn (h pins s σ H _ I hw) fun v s1 ⟨x,H1,I1,r1,q1⟩=>?_) (he _)
 obtain⟨d,rfl,q⟩:=q1
 cases r1
 exact wpAny_truthy_bool ⟨H1,I1,q⟩
variable {tA tB':TT} {rest:List Expr}
def tAnd (t u:TT):TT:=fun σ H Q=>t σ H fun c H1=>if c=true then u σ H1 Q else Q false H1
def tOr (t u:TT):TT:=fun σ H Q=>t σ H fun c H1=>if c=true then Q true H1 else u σ H1 Q
def tNot (t:TT):TT:=fun σ H Q=>t σ H fun c H1=>Q (!c) H1
theorem pw_and1 (ha:PT X a tA):PW X (.BoolOp .And [a] pos) tA:=by
 intro wh pins s σ H Q I h
 refine isTrue_and (thn (ha pins s σ H Q I h) fun c s1 e=>?_)
 cases c with
 | true=>exact isTrue_and_nil e
 | false=>exact e
theorem pw_or1 (ha:PT X a tA):PW X (.BoolOp .Or [a] pos) tA:=by
 intro wh pins s σ H Q I h
 refine isTrue_or (thn (ha pins s σ H Q I h) fun c s1 e=>?_)
 cases c with
 | false=>exact isTrue_or_nil e
 | true=>exact e
theorem pw_and (ha:PT X a tA) (hb:PW X (.BoolOp .And (b::rest) pos) tB'):PW X (.BoolOp .And (a::b::rest) pos) (tAnd tA tB'):=by
 intro wh pins s σ H Q I h
 refine isTrue_and (thn (ha pins s σ H _ I h) fun c s1 ⟨H1,I1,q1⟩=>?_)
 cases c with
 | true=>exact hb wh pins s1 σ H1 Q I1 q1
 | false=>exact⟨H1,I1,q1⟩
theorem pw_or (ha:PT X a tA) (hb:PW X (.BoolOp .Or (b::rest) pos) tB'):PW X (.BoolOp .Or (a::b::rest) pos) (tOr tA tB'):=by
 intro wh pins s σ H Q I h
 refine isTrue_or (thn (ha pins s σ H _ I h) fun c s1 ⟨H1,I1,q1⟩=>?_)
 cases c with
 | true=>exact⟨H1,I1,q1⟩
 | false=>exact hb wh pins s1 σ H1 Q I1 q1
theorem pt_not (ha:PT X a tA):PT X (.UnaryOp .Not a pos) (tNot tA):=by
 intro pins s σ H Q I h
 exact isTrue_not (thn (ha pins s σ H (fun c H1=>Q (!c) H1) I h) fun c s' ⟨H',I',q'⟩=>⟨H',I',q'⟩)
inductive tAndV_ (tb:TE) (σ:St) (Q:VK) (x:V) (H1:Hp):Prop where
 | mk (c:_) (h_0:x=.bl c) (h_1:if c=true then tb σ H1 Q else Q (.bl false) H1):tAndV_ tb σ Q x H1
def tAndV (ta tb:TE):TE:=fun σ H Q=>ta σ H fun x H1=>tAndV_ tb σ Q x H1
inductive tOrV_ (tb:TE) (σ:St) (Q:VK) (x:V) (H1:Hp):Prop where
 | mk (c:_) (h_0:x=.bl c) (h_1:if c=true then Q (.bl true) H1 else tb σ H1 Q):tOrV_ tb σ Q x H1
def tOrV (ta tb:TE):TE:=fun σ H Q=>ta σ H fun x H1=>tOrV_ tb σ Q x H1
theorem pe_one {op} {t:TE} (h:PE X a t):PE X (.BoolOp op [a] pos) t:=fun pins s σ H Q I hw=>BoolOp_one (h pins s σ H Q I hw)
theorem pe_and (ha:PE X a ta) (hb:PE X (.BoolOp .And (b::rest) pos) tb):PE X (.BoolOp .And (a::b::rest) pos) (tAndV ta tb):=by
 intro pins s σ H Q I h
 refine BoolOp_and (thn (ha pins s σ H _ I h) fun v s1 ⟨x,H1,I1,r1,q1⟩=>?_)
 obtain⟨c,rfl,q1⟩:=q1
 cases r1
 refine wpAny_truthy_bool ?_
 cases c with
 | true=>exact hb pins s1 σ H1 Q I1 q1
 | false=>exact⟨.bl false,H1,I1,rfl,q1⟩
theorem pe_or (ha:PE X a ta) (hb:PE X (.BoolOp .Or (b::rest) pos) tb):PE X (.BoolOp .Or (a::b::rest) pos) (tOrV ta tb):=by
 intro pins s σ H Q I h
 refine BoolOp_or (thn (ha pins s σ H _ I h) fun v s1 ⟨x,H1,I1,r1,q1⟩=>?_)
 obtain⟨c,rfl,q1⟩:=q1
 cases r1
 refine wpAny_truthy_bool ?_
 cases c with
 | false=>exact hb pins s1 σ H1 Q I1 q1
 | true=>exact⟨.bl true,H1,I1,rfl,q1⟩
def tIf (t:TT) (ta tb:TE):TE:=fun σ H Q=>t σ H fun c H1=>if c=true then ta σ H1 Q else tb σ H1 Q
theorem pe_ifExp {c:Expr} (hc:PT X c tA) (ha:PE X a ta) (hb:PE X b tb):PE X (.IfExp c a b pos) (tIf tA ta tb):=by
 intro pins s σ H Q I h
 refine wpAny_IfExp (thn (hc pins s σ H _ I h) fun d s1 ⟨H1,I1,q1⟩=>?_)
 cases d with
 | true=>exact ha pins s1 σ H1 Q I1 q1
 | false=>exact hb pins s1 σ H1 Q I1 q1
end
end L2
namespace L2
open PySem PySem.Spec PyProof.Rows
def SqL (K:PySem.W.Frag) (H:Hp) (a:Addr) (xs:List V):Prop :=
 Rd H a (.lst xs) ∨
  ∃(o:Obj) (its:Array Value) (n:Nat),K.lookup a=some o∧o.cls=.type "list"∧o.dict=none∧o.data=.seq its n∧its.size≤sizeLine∧Vals xs its.toList
def SqT (K:PySem.W.Frag) (H:Hp) (a:Addr) (xs:List V):Prop :=
 Rd H a (.tup xs) ∨
  ∃(o:Obj) (its:Array Value) (n:Nat),K.lookup a=some o∧o.cls=.type "tuple"∧o.data=.seq its n∧its.size≤sizeLine∧Vals xs its.toList
def absV:Value→Option V
 | .none=>some .non
 | .bool b=>some (.bl b)
 | .int i _=>some (.int i)
 | .str x _=>some (.str x)
 | .bytes b _=>some (.byt b)
 | .float b _=>some (.flt b)
 | .ref a=>some (.ref a)
 | .type n=>some (.ty n)
 | _=>none
theorem RelV.abs {x:V} {u:Value} (r:RelV x u):absV u=some x:=by
 cases x with
 | non=>cases r; rfl
 | bl _=>cases r; rfl
 | int _=>obtain⟨t,rfl⟩:=r; rfl
 | str _=>obtain⟨t,rfl⟩:=r; rfl
 | byt _=>obtain⟨t,rfl⟩:=r; rfl
 | flt _=>obtain⟨t,rfl⟩:=r; rfl
 | ref _=>cases r; rfl
 | ty _=>cases r; rfl
theorem RelV.inj {x y:V} {u:Value} (r:RelV x u) (q:RelV y u):x=y:=Option.some.inj (r.abs.symm.trans q.abs)
theorem Vals.inj:∀ {xs ys:List V} {us:List Value},Vals xs us→Vals ys us→xs=ys
 | _,_,_,.nil,.nil=>rfl
 | _,_,_,.cons r t,.cons r' t'=>by rw[r.inj r',Vals.inj t t']
section
variable {X:Cx} {pins:List (Addr × Obj)} {σ:St} {H:Hp} {s:Shared} {a:Addr} {xs ys:List V}
theorem SqL.of {K:PySem.W.Frag} (h:H a=some (.lst xs)):SqL K H a xs:=.inl (.inl h)
theorem SqT.of {K:PySem.W.Frag} (h:H a=some (.tup xs)):SqT K H a xs:=.inl (.inl h)
theorem Inv.list (I:Inv X pins σ H s) (h:SqL X.K H a xs):∃ its:List Value,Vals xs its∧PlainL s.heap a its.toArray∧xs.length≤sizeLine:=by
 rcases h with h|⟨o,its,n,hk,hc,hd,hs,hz,r⟩
 ·obtain⟨z,its,n,r,e⟩:=h.ok I.hok
  exact⟨its,r,⟨_,n,e,rfl,rfl,rfl⟩,z⟩
 ·refine⟨its.toList,r,⟨o,n,I.kIn a o hk,hc,hd,by simpa using hs⟩,?_⟩
  have e:=r.length
  simp only [qM] at e
  omega
theorem Inv.tuple (I:Inv X pins σ H s) (h:SqT X.K H a xs):∃ its:List Value,Vals xs its∧IsTup s.heap a its.toArray∧xs.length≤sizeLine:=by
 rcases h with h|⟨o,its,n,hk,hc,hs,hz,r⟩
 ·obtain⟨z,its,r,p⟩:=h.ok I.hok
  exact⟨its,r,p,z⟩
 ·refine⟨its.toList,r,⟨o,I.kIn a o hk,hc,n,by simpa using hs⟩,?_⟩
  have e:=r.length
  simp only [qM] at e
  omega
theorem Inv.list_inj (I:Inv X pins σ H s) (h:SqL X.K H a xs) (h':SqL X.K H a ys):xs=ys:=by
 obtain⟨its,r,⟨o,n,e,_,_,d⟩,_⟩:=I.list h
 obtain⟨its',r',⟨o',n',e',_,_,d'⟩,_⟩:=I.list h'
 rw[e] at e'; cases e'
 rw[d] at d'
 injection d' with d1 _
 have:its=its':=by simpa using congrArg Array.toList d1
 subst this
 exact r.inj r'
theorem Inv.tuple_inj (I:Inv X pins σ H s) (h:SqT X.K H a xs) (h':SqT X.K H a ys):xs=ys:=by
 obtain⟨its,r,⟨o,e,_,n,d⟩,_⟩:=I.tuple h
 obtain⟨its',r',⟨o',e',_,n',d'⟩,_⟩:=I.tuple h'
 rw[e] at e'; cases e'
 rw[d] at d'
 injection d' with d1 _
 have:its=its':=by simpa using congrArg Array.toList d1
 subst this
 exact r.inj r'
end
abbrev Cx.wish (X:Cx) (E:Value→Shared→Prop):Cx:={ X with xe:=E }
abbrev Cx.nox (X:Cx):Cx:=X.wish fun _ _=>False
theorem Cx.Ok.wish {X:Cx} (ok:X.Ok) (E:Value→Shared→Prop):(X.wish E).Ok :=
 ⟨ok.mod,ok.kind,ok.glob,ok.blt,ok.above,ok.inj,ok.has,ok.cab,ok.hd,ok.frames,ok.stk,ok.exf,ok.bs,ok.bsz,ok.noex,ok.exfs,ok.funs,ok.frf⟩
theorem Cx.Ok.unwish {X:Cx} {E:Value→Shared→Prop} (ok:(X.wish E).Ok):X.Ok :=
 ⟨ok.mod,ok.kind,ok.glob,ok.blt,ok.above,ok.inj,ok.has,ok.cab,ok.hd,ok.frames,ok.stk,ok.exf,ok.bs,ok.bsz,ok.noex,ok.exfs,ok.funs,ok.frf⟩
section
variable {X:Cx} {pins:List (Addr × Obj)} {σ:St} {H:Hp} {s:Shared} {E:Value→Shared→Prop}
theorem Inv.wish (I:Inv X pins σ H s) (E:Value→Shared→Prop):Inv (X.wish E) pins σ H s:=⟨I.ok.wish E,I.os,I.bare,I.base,I.loc,I.cell,I.free,I.freeC,I.pin,I.hok,I.len⟩
theorem Inv.unwish (I:Inv (X.wish E) pins σ H s):Inv X pins σ H s:=⟨I.ok.unwish,I.os,I.bare,I.base,I.loc,I.cell,I.free,I.freeC,I.pin,I.hok,I.len⟩
theorem SP.unwish {D:Ends} {f:Flow} {s':Shared} (h:SP (X.wish E) pins D f s'):SP X pins D f s':=by
 cases f with
 | next=>obtain⟨σ',H',I,q⟩:=h; exact⟨σ',H',I.unwish,q⟩
 | brk=>obtain⟨σ',H',I,q⟩:=h; exact⟨σ',H',I.unwish,q⟩
 | cont=>obtain⟨σ',H',I,q⟩:=h; exact⟨σ',H',I.unwish,q⟩
 | ret u=>obtain⟨v,σ',H',I,r,q⟩:=h; exact⟨v,σ',H',I.unwish,r,q⟩
theorem PSs.nox {st:List Stmt} {t:TS} (h:PSs X.nox st t):PSs X st t:=fun pins s σ H D I hw =>
 wpAny_mono (h pins s σ H D (I.wish _) hw) (fun _ _ q=>q.unwish) fun _ _ z=>False.elim z
end
section
variable {X:Cx} {st:Stmt} {rest:List Stmt} {t u:TS} {e:Expr} {te:TE} {pos:Pos}
def tNext:TS:=fun D σ H=>D.nx σ H
def tSeq (t u:TS):TS:=fun D σ H=>t { D with nx:=u D } σ H
theorem pss_nil:PSs X [] tNext:=fun _ _ σ H _ I h=>wpAny_execs_nil ⟨σ,H,I,h⟩
theorem pss_cons (h1:PS X st t) (h2:PSs X rest u):PSs X (st::rest) (tSeq t u):=by
 intro pins s σ H D I h
 refine wpAny_execs_cons (thn (h1 pins s σ H { D with nx:=u D } I h) fun f s1 q=>?_)
 cases f with
 | next =>
  obtain⟨σ',H',I',q⟩:=q
  exact h2 pins s1 σ' H' D I' q
 | ret v=>exact q
 | brk=>exact q
 | cont=>exact q
theorem pss_one (h1:PS X st t):PSs X [st] t:=by
 intro pins s σ H D I h
 refine wpAny_execs_cons (thn (h1 pins s σ H D I h) fun f s1 q=>?_)
 cases f with
 | next=>exact wpAny_execs_nil q
 | ret v=>exact q
 | brk=>exact q
 | cont=>exact q
def tBreak:TS:=fun D σ H=>D.bk σ H
theorem ps_break:PS X (.Break pos) tBreak:=fun _ _ σ H _ I h=>wpAny_Break ⟨σ,H,I,h⟩
theorem Inv.quiet {pins:List (Addr × Obj)} {σ:St} {H:Hp} {s:Shared} (I:Inv X pins σ H s):interactive X.env=false:=by simp [interactive,I.ok.kind]
def tDrop (te:TE):TS:=fun D σ H=>te σ H fun _ H1=>D.nx σ H1
theorem ps_expr (he:PE X e te) (hs:swapsWith e none pos.line X.env=pure false:=by rfl):PS X (.Expr e pos) (tDrop te):=by
 intro pins s σ H D I h
 exact wpAny_Expr_any (thn (he pins s σ H _ I h) fun v s1 ⟨x,H1,I1,r1,q1⟩=>⟨σ,H1,I1,q1⟩) I.quiet hs
def tRet (te:TE):TS:=fun D σ H=>te σ H D.rt
theorem ps_ret (he:PE X e te):PS X (.Return (some e) pos) (tRet te):=by
 intro pins s σ H D I h
 exact wpAny_Return_some (thn (he pins s σ H _ I h) fun v s1 ⟨x,H1,I1,r1,q1⟩=>⟨x,σ,H1,I1,r1,q1⟩)
def tIfS (c:TT) (t u:TS):TS:=fun D σ H=>c σ H fun b H1=>if b=true then t D σ H1 else u D σ H1
theorem ps_if {c:Expr} {a b:List Stmt} {tc:TT} (hc:PT X c tc) (ha:PSs X a t) (hb:PSs X b u):PS X (.If c a b pos) (tIfS tc t u):=by
 intro pins s σ H D I h
 refine wpAny_If (thn (hc pins s σ H _ I h) fun d s1 ⟨H1,I1,q1⟩=>?_)
 cases d with
 | true=>exact ha pins s1 σ H1 D I1 q1
 | false=>exact hb pins s1 σ H1 D I1 q1
end
abbrev TG:=V→St→Hp→(St→Hp→Prop)→Prop
abbrev TGs:=List V→St→Hp→(St→Hp→Prop)→Prop
def PG (X:Cx) (target:Expr) (t:TG):Prop :=
 ∀(pins:List (Addr × Obj)) (s:Shared) (σ:St) (H:Hp) (v:V) (u:Value) (Q:St→Hp→Prop),Inv X pins σ H s→RelV v u→t v σ H Q →
  wpAny (model X.prog X.w) X.A (assign target X.env u) (fun _ s'=>∃ σ' H',Inv X pins σ' H' s'∧Q σ' H') X.xe s
def PGs (X:Cx) (ts:List Expr) (t:TGs):Prop :=
 ∀(pins:List (Addr × Obj)) (s:Shared) (σ:St) (H:Hp) (vs:List V) (us:List Value) (Q:St→Hp→Prop),Inv X pins σ H s→Vals vs us→t vs σ H Q →
  wpAny (model X.prog X.w) X.A (assignInOrder ((assignEach ts X.env).map (·.2)) us) (fun _ s'=>∃ σ' H',Inv X pins σ' H' s'∧Q σ' H') X.xe s
abbrev TSet:=V→V→V→Hp→(Hp→Prop)→Prop
def PSet (X:Cx) (t:TSet):Prop :=
 ∀(pins:List (Addr × Obj)) (s:Shared) (σ:St) (H:Hp) (o i v:V) (ov iv u:Value) (Q:Hp→Prop),Inv X pins σ H s→RelV o ov→RelV i iv→RelV v u→t o i v H Q →
  wpAny (model X.prog X.w) X.A (setItem ov iv u) (fun _ s'=>∃ H',Inv X pins σ H' s'∧Q H') X.xe s
section
variable {X:Cx} {pos:Pos}
def gName (i:Nat):TG:=fun v σ H Q=>Q (σ.set i (some v)) H
theorem pg_name {i:Nat} {x:Str} (hN:X.N.Nodup) (hi:X.N[i]?=some x) (hx:Loc X.env.scope x) (hf:X.fn x=true∨X.env.scope.names.lookup x=some .local:=by first|exact .inl rfl|exact .inr rfl|assumption):PG X (.Name x pos) (gName i):=by
 intro pins s σ H v u Q I r h
 exact wpAny_assign_Name (store_ok I hN hi hx r (fun s' I'=>⟨_,H,I',h⟩) hf)
def gNil:TGs:=fun vs σ H Q=>vs=[]∧Q σ H
inductive gCons (t:TG) (u:TGs) (vs:List V) (σ:St) (H:Hp) (Q:St→Hp→Prop):Prop where
 | mk (v r:_) (h_0:vs=v::r) (h_1:t v σ H fun σ' H'=>u r σ' H' Q):gCons t u vs σ H Q
theorem pgs_nil:PGs X [] gNil:=by
 intro pins s σ H vs us Q I r h
 obtain⟨e,h⟩:=h
 subst e
 cases r
 exact assignInOrder_nil ⟨σ,H,I,h⟩
theorem pgs_cons {e:Expr} {es:List Expr} {t:TG} {u:TGs} (h1:PG X e t) (h2:PGs X es u)
  (hs:(assignEach (e::es) X.env).map (·.2)=assign e X.env::(assignEach es X.env).map (·.2):=by rfl):PGs X (e::es) (gCons t u):=by
 intro pins s σ H vs us Q I r h
 obtain⟨v,vr,e1,h⟩:=h
 subst e1
 cases r with
 | cons r rr =>
  rw[hs]
  refine assignInOrder_cons (thn (h1 pins s σ H _ _ _ I r h) fun _ s1 ⟨σ1,H1,I1,q1⟩=>?_)
  exact h2 pins s1 σ1 H1 _ _ Q I1 rr q1
inductive gTup (K:PySem.W.Frag) (n:Nat) (t:TGs) (v:V) (σ:St) (H:Hp) (Q:St→Hp→Prop):Prop where
 | mk (a xs:_) (h_0:v=.ref a) (h_1:SqT K H a xs) (h_2:xs.length=n) (h_3:t xs σ H Q):gTup K n t v σ H Q
theorem pg_tup {es:List Expr} {k:Nat} {t:TGs} {n:Nat} (hc:X.calm=true) (h:PGs X es t)
  (hn:(assignEach es X.env).length=n:=by rfl) (hst:(assignEach es X.env).findIdx? (·.1)=none:=by rfl):PG X (.Tuple es k pos) (gTup X.K n t):=by
 intro pins s σ H v u Q I r hw
 obtain⟨a,xs,e1,hq,hl,hw⟩:=hw
 subst e1
 cases r
 obtain⟨its,rv,ht,hz⟩:=I.tuple hq
 refine assign_Tuple_tuple (I.ok.hd hc) ht (by simp [hn,← hl,rv.length]) hst fun h' hx=>?_
 have I1:Inv X pins σ H { s with heap:=h' }:=I.kept (t':=s.toks) fun b o e=>hx b o (zY (Heap.lt_size e)) e
 exact h pins _ σ H xs _ Q I1 (by simpa using rv) hw
def gSub (to ti:TE) (t:TSet):TG:=fun v σ H Q=>to σ H fun o H1=>ti σ H1 fun i H2=>t o i v H2 fun H3=>Q σ H3
theorem pg_sub {o i:Expr} {to ti:TE} {t:TSet} (ho:PE X o to) (hi:PE X i ti) (hs:PSet X t)
  (ha:∀ v,assign (.Subscript o i pos) X.env v=(do
   let ov ← holding [v] (eval o X.env)
   let iv ← holding [v,ov] (eval i X.env)
   standAt pos
   holding [v,ov,iv] (setItem ov iv v)
   release [v,ov,iv] []):=by intro _; rfl):PG X (.Subscript o i pos) (gSub to ti t):=by
 intro pins s σ H v u Q I r h
 rw[ha]
 refine wpAny_bind (wpAny_holding (thn (ho pins s σ H _ I h) fun ov s1 ⟨x,H1,I1,r1,q1⟩=>?_))
 refine wpAny_bind (wpAny_holding (thn (hi pins s1 σ H1 _ I1 q1) fun iv s2 ⟨y,H2,I2,r2,q2⟩=>?_))
 refine wpAny_bind (wpAny_standAt (wpAny_bind (wpAny_holding (thn (hs pins s2 σ H2 x y v ov iv u _ I2 r1 r2 r q2) fun _ s3 ⟨H3,I3,q3⟩=>?_))))
 exact wpAny_release ⟨σ,H3,I3,q3⟩
def tAsg (te:TE) (g:TG):TS:=fun D σ H=>te σ H fun x H1=>g x σ H1 D.nx
theorem ps_asg {tg e:Expr} {te:TE} {g:TG} (he:PE X e te) (hg:PG X tg g) (hs:swapsWithSole [tg] e pos.line X.env=pure false:=by rfl) (hw:swappedStores [tg] e X.env=pure none:=by rfl)
  (h1:(assignEach [tg] X.env).map (·.2)=[assign tg X.env]:=by rfl):PS X (.Assign [tg] e pos) (tAsg te g):=by
 intro pins s σ H D I h
 refine wpAny_Assign_stores (thn (he pins s σ H _ I h) fun v s1 ⟨x,H1,I1,r1,q1⟩=>?_) hs hw
 rw[h1]
 exact thn (hg pins s1 σ H1 x v _ I1 r1 q1) fun _ s2 q=>q
theorem ps_set {i:Nat} {x:Str} {e:Expr} {te:TE} {pos':Pos} (hN:X.N.Nodup) (hi:X.N[i]?=some x) (hx:Loc X.env.scope x) (he:PE X e te) (hs:swapsWith e (some (.Name x pos')) pos.line X.env=pure false:=by rfl) (hf:X.fn x=true∨X.env.scope.names.lookup x=some .local:=by first|exact .inl rfl|exact .inr rfl|assumption) :
  PS X (.Assign [.Name x pos'] e pos) (tAsg te (gName i)):=by
 intro pins s σ H D I h
 refine wpAny_Assign_Name (thn (he pins s σ H _ I h) fun v s1 ⟨y,H1,I1,r1,q1⟩=>?_) hs
 exact store_ok I1 hN hi hx r1 (fun s2 I2=>⟨_,H1,I2,q1⟩) hf
end
section
variable {X:Cx} {pos:Pos}
def tWhile (c:TT) (tb:TS):TS:=fun D σ H=>∃ W:Nat→St→Hp→Prop,(∃ m,W m σ H)∧∀ m σ H,W m σ H →
 c σ H fun b H1=>if b=true then ∃ N:St→Hp→Prop,(∀ σ' H',N σ' H'→∃ m',m' < m∧W m' σ' H')∧tb { D with nx:=N,ct:=N,bk:=D.nx } σ H1 else D.nx σ H1
theorem ps_while {c:Expr} {body:List Stmt} {tc:TT} {tb:TS} (hp:PassesOwn (model X.prog X.w) X.A X.env X.xe) (hc:PT X c tc) (hb:PSs X body tb):PS X (.While c body [] pos) (tWhile tc tb):=by
 intro pins s σ H D I h
 obtain⟨W,⟨m0,w0⟩,turn⟩:=h
 refine wpAny_While (codeAny_whileLoop (fun n s'=>∃ σ' H',Inv X pins σ' H' s'∧W n σ' H') ?_ m0 ⟨σ,H,I,w0⟩)
 rintro n s1 ⟨σ1,H1,I1,w1⟩
 refine wpAny_passesOwn hp (thn (hc pins s1 σ1 H1 _ I1 (turn n σ1 H1 w1)) fun b s2 ⟨H2,I2,q2⟩=>?_)
 cases b with
 | true =>
  obtain⟨N,hN,q2⟩:=q2
  rw[if_pos rfl]
  refine wpAny_passesOwn hp (thn (hb pins s2 σ1 H2 _ I2 q2) fun f s3 q3=>?_)
  cases f with
  | next =>
   obtain⟨σ3,H3,I3,n3⟩:=q3
   obtain⟨m',hm,w3⟩:=hN σ3 H3 n3
   exact⟨m',hm,σ3,H3,I3,w3⟩
  | cont =>
   obtain⟨σ3,H3,I3,n3⟩:=q3
   obtain⟨m',hm,w3⟩:=hN σ3 H3 n3
   exact⟨m',hm,σ3,H3,I3,w3⟩
  | brk=>exact q3
  | ret v=>exact q3
 | false =>
  rw[if_neg zZ]
  exact wpAny_execs_nil ⟨σ1,H2,I2,q2⟩
end
structure It where
 go:Nat→Hp→Prop
 yld:Nat→Hp→V→Hp→Prop
 stop:Nat→Hp→Prop
def FpOk (X:Cx) (pins:List (Addr × Obj)) (H:Hp) (b:Addr):Prop :=
 H b=none∧b ≠ X.env.locals∧b ∉ X.fs∧(b ∈ X.ex∨X.s₀.heap.objs.size≤b)∧(∀ x c,X.env.cells.lookup x=some c→c ≠ b)∧∀ p ∈ X.pn++pins,p.1 ≠ b
theorem Inv.fpOk {X:Cx} {pins:List (Addr × Obj)} {σ:St} {H H':Hp} {s:Shared} {b:Addr} (I:Inv X pins σ H s) (hb:s.heap.objs.size≤b) (hn:H' b=none):FpOk X pins H' b:=by
 refine⟨hn,kX (zU I.lt hb),I.nofs hb,.inr (z9 I.sz hb),fun x c e z=>?_,fun p hp z=>?_⟩
 ·obtain⟨v,q⟩:=I.cell x c e
  exact absurd (zU q.lt (by rw[z]; exact hb)) (qS _)
 ·exact absurd (zU (Heap.lt_size (I.pin p hp).1) (by rw[z]; exact hb)) (qS _)
structure Turn (P:Program) (w:World) (K:PySem.W.Frag) (tg:Expr) (J:It) (fp:List Addr) (it:Addr) (tn:Nat→Heap→Prop):Prop where
 mem:it ∈ fp
 obj:∀ i h,tn i h→∀ b ∈ fp,∃ o,h.get? b=some o∧∀ v,o.data ≠ .cell v
 keep:∀ i h h',tn i h→(∀ b ∈ fp,∀ o,h.get? b=some o→h'.get? b=some o)→tn i h'
 item:∀(X:Cx),X.prog=P→X.w=w→X.K=K→X.calm=true→∀(i:Nat) (pins:List (Addr × Obj)) (s:Shared) (σ:St) (H:Hp) (E:Value→Shared→Prop),Inv X pins σ H s→(∀ b ∈ fp,FpOk X pins H b)→tn i s.heap→J.go i H →
  wpAny (model P w) X.A (pyNext (.ref it)) (fun r s1=>∃ u,r=some u ∧
   wpAny (model P w) X.A (letOwnedTupleGo tg (.ref it) u) (fun _ s2=>∃ x H',Inv X pins σ H' s2∧RelV x u∧J.yld i H x H'∧tn (i + 1) s2.heap∧∀ b ∈ fp,H' b=none) E s1) E s
 done:∀(X:Cx),X.prog=P→X.w=w→X.K=K→X.calm=true→∀(i:Nat) (pins:List (Addr × Obj)) (s:Shared) (σ:St) (H:Hp) (E:Value→Shared→Prop),Inv X pins σ H s→(∀ b ∈ fp,FpOk X pins H b)→tn i s.heap→J.stop i H →
  wpAny (model P w) X.A (pyNext (.ref it)) (fun r s1=>r=none∧Inv X pins σ H s1) E s
 self:∀(A:Around) (i:Nat) (s:Shared) (Q:Value→Shared→Prop) (E:Value→Shared→Prop),tn i s.heap→Q (.ref it) s→wpAny (model P w) A (pyIter (.ref it)) Q E s
abbrev TI:=St→Hp→(It→Hp→Prop)→Prop
def PIE (X:Cx) (pins:List (Addr × Obj)) (σ:St) (tg:Expr) (R:It→Hp→Prop) (itv:Value) (s2:Shared):Prop :=
 ∃(it:Addr) (fp:List Addr) (tn:Nat→Heap→Prop) (J:It) (H':Hp),itv=.ref it∧Inv X pins σ H' s2∧Turn X.prog X.w X.K tg J fp it tn∧tn 0 s2.heap∧(∀ b ∈ fp,FpOk X pins H' b)∧R J H'
def PI (X:Cx) (tg iter:Expr) (wi:TI):Prop :=
 ∀(pins:List (Addr × Obj)) (s:Shared) (σ:St) (H:Hp) (R:It→Hp→Prop),Inv X pins σ H s→wi σ H R →
  wpAny (model X.prog X.w) X.A (eval iter X.env) (fun v s1=>wpAny (model X.prog X.w) X.A (pyIter v) (PIE X pins σ tg R) X.xe s1) X.xe s
theorem go_of {M:Model} {A:Around} {E:Value→Shared→Prop} {s:Shared} {tg:Expr} {it:Addr} {u:Value} {o:Obj} {n:String} {vs:Array Value} {Q:Unit→Shared→Prop} (ho:s.heap.get? it=some o) (hc:o.cls=.type n) (hd:o.data=.fields vs)
  (hn:["enumerate","zip","dict_itemiterator","dict_reverseitemiterator","odict_iterator","itertools.zip_longest","itertools.pairwise"].contains n=false) (hQ:Q () s):wpAny M A (letOwnedTupleGo tg (.ref it) u) Q E s:=by
 unfold letOwnedTupleGo
 cases tg <;> first
  | exact wpAny_pure hQ
  | (cases u <;> first
    | exact wpAny_pure hQ
    | (refine wpAny_bind (wpAny_load ho ?_)
       rw[hc,hd]
       show wpAny M A (if (["enumerate","zip","dict_itemiterator","dict_reverseitemiterator","odict_iterator","itertools.zip_longest","itertools.pairwise"].contains n && vs[0]? == some (rawInt _))=true then _ else _) Q E s
       rw[if_neg (by intro h; rw[hn,Bool.false_and] at h; cases h)]
       exact wpAny_pure hQ))
def Itl (K:PySem.W.Frag) (a:Addr):It :=
 ⟨fun i H=>∃ xs x,SqL K H a xs∧xs[i]?=some x,fun i H x H'=>H'=H∧∀ xs,SqL K H a xs→xs[i]?=some x,fun i H=>∃ xs,SqL K H a xs∧xs.length≤i⟩
def Itt (K:PySem.W.Frag) (a:Addr):It :=
 ⟨fun i H=>∃ xs x,SqT K H a xs∧xs[i]?=some x,fun i H x H'=>H'=H∧∀ xs,SqT K H a xs→xs[i]?=some x,fun i H=>∃ xs,SqT K H a xs∧xs.length≤i⟩
def Itr (lo:Int) (n:Nat):It:=⟨fun i _=>i < n,fun i H x H'=>H'=H∧x=.int (lo + i),fun i _=>n≤i⟩
theorem turn_list {P:Program} {w:World} {K:PySem.W.Frag} {tg:Expr} (a it:Addr):Turn P w K tg (Itl K a) [it] it (fun i h=>h.IsListIter it a i) where
 mem:=by simp
 obj:=fun i h st b hb=>by
  have e:b=it:=by simpa using hb
  subst e
  obtain⟨o,e,c,d⟩:=st
  exact⟨o,e,fun v z=>by rw[d] at z; cases z⟩
 keep:=fun i h h' st k=>st.at fun o e=>k it (by simp) o e
 item:=by
  intro X hP hw hK hc i pins s σ H E I hf st hg
  subst hP hw hK
  obtain⟨xs,x,hq,hx⟩:=hg
  obtain⟨its,rv,p,hz⟩:=I.list hq
  obtain⟨u,hu,ru⟩:=rv.get hx
  obtain⟨f0,f1,f2,f3,f4,f5⟩:=hf it (by simp)
  refine wpAny_pyNext_list_item st p.isList (x:=u) (by simpa using hu) fun h' st' sb=>?_
  have I1:Inv X pins σ H { s with heap:=h' }:=I.turned (t':=s.toks) (fun b o hb e=>(sb.2 b hb).trans e) f0 f1 f3 f4 f5
  obtain⟨o,e,c,d⟩:=id st'
  exact⟨u,rfl,go_of (s:={ s with heap:=h' }) e c d (by decide) ⟨x,H,I1,ru,⟨rfl,fun ys hy=>by rw[I.list_inj hy hq]; exact hx⟩,st',fun b hb=>(hf b hb).1⟩⟩
 done:=by
  intro X hP hw hK hc i pins s σ H E I hf st hg
  subst hP hw hK
  obtain⟨xs,hq,hx⟩:=hg
  obtain⟨its,rv,p,hz⟩:=I.list hq
  obtain⟨f0,f1,f2,f3,f4,f5⟩:=hf it (by simp)
  have hl:=rv.length
  exact wpAny_pyNext_list_end (I.ok.hd hc) st p.isList (by simp; omega) fun h' eb=>⟨rfl,I.turned (t':=s.toks) (fun b o hb e=>eb b o hb e) f0 f1 f3 f4 f5⟩
 self:=fun _ _ _ _ _ st h=>wpAny_pyIter_listiter st h
theorem turn_tuple {P:Program} {w:World} {K:PySem.W.Frag} {tg:Expr} (a it:Addr):Turn P w K tg (Itt K a) [it] it (fun i h=>h.IsTupleIter it a i) where
 mem:=by simp
 obj:=fun i h st b hb=>by
  have e:b=it:=by simpa using hb
  subst e
  obtain⟨o,e,c,d⟩:=st
  exact⟨o,e,fun v z=>by rw[d] at z; cases z⟩
 keep:=fun i h h' st k=>st.at fun o e=>k it (by simp) o e
 item:=by
  intro X hP hw hK hc i pins s σ H E I hf st hg
  subst hP hw hK
  obtain⟨xs,x,hq,hx⟩:=hg
  obtain⟨its,rv,p,hz⟩:=I.tuple hq
  obtain⟨u,hu,ru⟩:=rv.get hx
  obtain⟨f0,f1,f2,f3,f4,f5⟩:=hf it (by simp)
  refine wpAny_pyNext_tuple_item st (show s.heap.IsTuple a its.toArray from p) (x:=u) (by simpa using hu) fun h' st' sb=>?_
  have I1:Inv X pins σ H { s with heap:=h' }:=I.turned (t':=s.toks) (fun b o hb e=>(sb.2 b hb).trans e) f0 f1 f3 f4 f5
  obtain⟨o,e,c,d⟩:=id st'
  exact⟨u,rfl,go_of (s:={ s with heap:=h' }) e c d (by decide) ⟨x,H,I1,ru,⟨rfl,fun ys hy=>by rw[I.tuple_inj hy hq]; exact hx⟩,st',fun b hb=>(hf b hb).1⟩⟩
 done:=by
  intro X hP hw hK hc i pins s σ H E I hf st hg
  subst hP hw hK
  obtain⟨xs,hq,hx⟩:=hg
  obtain⟨its,rv,p,hz⟩:=I.tuple hq
  obtain⟨f0,f1,f2,f3,f4,f5⟩:=hf it (by simp)
  have hl:=rv.length
  exact wpAny_pyNext_tuple_end (I.ok.hd hc) st (show s.heap.IsTuple a its.toArray from p) (by simp; omega) fun h' eb=>⟨rfl,I.turned (t':=s.toks) (fun b o hb e=>eb b o hb e) f0 f1 f3 f4 f5⟩
 self:=fun _ _ _ _ _ st h=>wpAny_pyIter_tupleiter st h
theorem turn_range {P:Program} {w:World} {K:PySem.W.Frag} {tg:Expr} (it:Addr) (lo:Int) (n:Nat):Turn P w K tg (Itr lo n) [it] it (fun i h=>IsRangeIter h it (lo + (i:Nat) * 1) ((n:Int) - (i:Nat)) 1) where
 mem:=by simp
 obj:=fun i h st b hb=>by
  have e:b=it:=by simpa using hb
  subst e
  exact⟨_,st,fun v z=>by
   have z':Data.fields _=Data.cell v:=z
   cases z'⟩
 keep:=fun i h h' st k=>k it (by simp) _ st
 item:=by
  intro X hP hw hK hc i pins s σ H E I hf st hg
  subst hP hw hK
  obtain⟨f0,f1,f2,f3,f4,f5⟩:=hf it (by simp)
  have W:=Walks.range (prog:=X.prog) (w:=X.w) (I.ok.hd hc) it lo 1 n
  refine W.item i s _ _ hg st fun v h' tk hv st' kk=>?_
  obtain⟨t,rfl⟩:=hv
  have I1:Inv X pins σ H { s with heap:=h',toks:=tk }:=I.turned (fun b o hb e=>kk b o (by simpa using hb) e) f0 f1 f3 f4 f5
  refine⟨_,rfl,go_of (s:={ s with heap:=h',toks:=tk }) (n:="range_iterator") st' rfl rfl (by decide) ⟨.int (lo + i),H,I1,⟨t,?_⟩,⟨rfl,rfl⟩,st',fun b hb=>(hf b hb).1⟩⟩
  rw[Int.mul_one]
 done:=by
  intro X hP hw hK hc i pins s σ H E I hf st hg
  subst hP hw hK
  obtain⟨f0,f1,f2,f3,f4,f5⟩:=hf it (by simp)
  exact wpAny_pyNext_range_end (I.ok.hd hc) st (by have:n≤i:=hg; omega) fun h' eb=>⟨rfl,I.turned (t':=s.toks) (fun b o hb e=>eb b o hb e) f0 f1 f3 f4 f5⟩
 self:=fun _ _ _ _ _ st h=>wpAny_pyIter_rangeiter st h
end L2
namespace L2
open PySem PySem.Spec PyProof.Rows
section
variable {X:Cx} {tg:Expr}
inductive iList_ (K:PySem.W.Frag) (R:It→Hp→Prop) (x:V) (H1:Hp):Prop where
 | mk (a:_) (h_0:x=.ref a) (h_1:(∃ xs,SqL K H1 a xs)) (h_2:R (Itl K a) H1):iList_ K R x H1
def iList (K:PySem.W.Frag) (tl:TE):TI:=fun σ H R=>tl σ H fun x H1=>iList_ K R x H1
inductive iTup_ (K:PySem.W.Frag) (R:It→Hp→Prop) (x:V) (H1:Hp):Prop where
 | mk (a:_) (h_0:x=.ref a) (h_1:(∃ xs,SqT K H1 a xs)) (h_2:R (Itt K a) H1):iTup_ K R x H1
def iTup (K:PySem.W.Frag) (tl:TE):TI:=fun σ H R=>tl σ H fun x H1=>iTup_ K R x H1
theorem pi_list {l:Expr} {tl:TE} (hl:PE X l tl):PI X tg l (iList X.K tl):=by
 intro pins s σ H R I h
 refine thn (hl pins s σ H _ I h) fun v s1 ⟨x,H1,I1,r1,q1⟩=>?_
 obtain⟨a,e,⟨xs,hq⟩,q⟩:=q1
 subst e
 cases r1
 obtain⟨its,rv,p,hz⟩:=I1.list hq
 refine wpAny_pyIter_list p.isList ?_
 refine⟨s1.heap.objs.size,[s1.heap.objs.size],_,_,H1,rfl,I1.kept (t':=s1.toks) fun b o e=>Heap.get?_push_of_some _ e,turn_list a _,⟨_,Heap.get?_push_size _ rfl,rfl,rfl⟩,fun b hb=>?_,q⟩
 have e:b=s1.heap.objs.size:=by simpa using hb
 subst e
 exact I1.fpOk (zI _) (I1.hok.fresh (zI _))
theorem pi_tup {l:Expr} {tl:TE} (hl:PE X l tl):PI X tg l (iTup X.K tl):=by
 intro pins s σ H R I h
 refine thn (hl pins s σ H _ I h) fun v s1 ⟨x,H1,I1,r1,q1⟩=>?_
 obtain⟨a,e,⟨xs,hq⟩,q⟩:=q1
 subst e
 cases r1
 obtain⟨its,rv,p,hz⟩:=I1.tuple hq
 refine wpAny_pyIter_tuple (show s1.heap.IsTuple a its.toArray from p) ?_
 refine⟨s1.heap.objs.size,[s1.heap.objs.size],_,_,H1,rfl,I1.kept (t':=s1.toks) fun b o e=>Heap.get?_push_of_some _ e,turn_tuple a _,⟨_,Heap.get?_push_size _ rfl,rfl,rfl⟩,fun b hb=>?_,q⟩
 have e:b=s1.heap.objs.size:=by simpa using hb
 subst e
 exact I1.fpOk (zI _) (I1.hok.fresh (zI _))
theorem range_it {pins:List (Addr × Obj)} {σ:St} {H:Hp} {s:Shared} {R:It→Hp→Prop} {E:Value→Shared→Prop} {lo hi:Int} {t u v:Tok} {tk:Nat} (I:Inv X pins σ H s) (h1:-(2 ^ 62)≤lo) (h2:lo < 2 ^ 62) (h3:-(2 ^ 62)≤hi) (h4:hi < 2 ^ 62)
  (q:R (Itr lo (hi - lo).toNat) H):wpAny (model X.prog X.w) X.A (pyIter (.ref s.heap.objs.size)) (PIE X pins σ tg R) E { s with heap:=s.heap.push { cls:=.type "range",data:=.fields #[.int lo t,.int hi u,.int 1 v] },toks:=tk }:=by
 refine wpAny_pyIter_range (IsRange.new ..) (small_one h1 h2 h3 h4) ?_
 have I1:Inv X pins σ H { s with heap:=s.heap.push { cls:=.type "range",data:=.fields #[.int lo t,.int hi u,.int 1 v] },toks:=tk }:=I.kept fun b o e=>Heap.get?_push_of_some _ e
 refine⟨(s.heap.push { cls:=.type "range",data:=.fields #[.int lo t,.int hi u,.int 1 v] }).objs.size,[(s.heap.push { cls:=.type "range",data:=.fields #[.int lo t,.int hi u,.int 1 v] }).objs.size],_,_,H,rfl,
  I1.kept (t':=tk) fun b o e=>Heap.get?_push_of_some _ e,turn_range _ lo (hi - lo).toNat,?_,fun b hb=>?_,q⟩
 ·have e1:lo + ((0:Nat):Int) * 1=lo:=by simp
  have e2:(((hi - lo).toNat:Nat):Int) - ((0:Nat):Int)=Builtin.Range.rangeSize lo hi 1:=by rw[rangeSize_one]; split <;> omega
  show IsRangeIter _ _ (lo + ((0:Nat):Int) * 1) ((((hi - lo).toNat:Nat):Int) - ((0:Nat):Int)) 1
  rw[e1,e2]
  exact Heap.get?_push_size _ rfl
 ·have e:b=(s.heap.push { cls:=.type "range",data:=.fields #[.int lo t,.int hi u,.int 1 v] }).objs.size:=by simpa using hb
  subst e
  exact I1.fpOk (zI _) (I1.hok.fresh (zI _))
inductive iRng1_ (R:It→Hp→Prop) (vs:List V) (H1:Hp):Prop where
 | mk (j:Int) (h_0:vs=[.int j]) (h_1:-(2 ^ 62)≤j) (h_2:j < 2 ^ 62) (h_3:R (Itr 0 j.toNat) H1):iRng1_ R vs H1
def iRng1 (ta:TA):TI:=fun σ H R=>ta σ H fun vs H1=>iRng1_ R vs H1
theorem pi_range1 {a:Expr} {ta:TA} {p pos:Pos} (hg:Gl X "range") (hm:X.mg "range"=none) (ha:PA X [a] ta) (hs:starEach [a] X.env=[(false,eval a X.env)]:=by rfl):PI X tg (.Call (.Name "range" p) [a] [] pos) (iRng1 ta):=by
 intro pins s σ H R I h
 refine Call_ (ld_blt I hg hm boot_range (PyProof.Rows.callWith_type1 (thn (ha pos pins s σ H _ I h) fun us s1 ⟨vs,H1,I1,r1,q1⟩=>?_) hs rfl))
 obtain⟨j,e,q1,q2,q⟩:=q1
 subst e
 cases r1 with
 | cons r rr =>
  cases rr
  obtain⟨t,rfl⟩:=r
  exact call_range_1 (range_it I1 (by omega) (by omega) q1 q2 (by simpa using q))
def tFor (wi:TI) (g:TG) (tb:TS):TS:=fun D σ H=>wi σ H fun J H1=>∃ W:Nat→Nat→St→Hp→Prop,(∃ m,W 0 m σ H1)∧∀ i m σ H,W i m σ H →
 (J.stop i H∧D.nx σ H)∨(J.go i H∧∃ N:St→Hp→Prop,(∀ σ' H',N σ' H'→∃ m',m' < m∧W (i + 1) m' σ' H')∧∀ x H',J.yld i H x H'→g x σ H' fun σ2 H2=>tb { D with nx:=N,ct:=N,bk:=D.nx } σ2 H2)
def pinsAt (fp:List Addr) (h:Heap):List (Addr × Obj):=fp.filterMap fun b=>(h.get? b).map fun o=>(b,o)
theorem mem_pinsAt {fp:List Addr} {h:Heap} {b:Addr} {o:Obj} (hb:b ∈ fp) (e:h.get? b=some o):(b,o) ∈ pinsAt fp h:=yP.mpr ⟨b,hb,by rw[e]; rfl⟩
theorem of_pinsAt {fp:List Addr} {h:Heap} {p:Addr × Obj} (hp:p ∈ pinsAt fp h):p.1 ∈ fp∧h.get? p.1=some p.2:=by
 obtain⟨b,hb,e⟩:=yP.mp hp
 cases q:h.get? b with
 | none=>rw[q] at e; cases e
 | some o =>
  rw[q] at e
  have e':(b,o)=p:=Option.some.inj e
  subst e'
  exact⟨hb,q⟩
theorem Inv.pinned {pins:List (Addr × Obj)} {σ:St} {H:Hp} {s:Shared} {fp:List Addr} (I:Inv X pins σ H s) (hf:∀ b ∈ fp,FpOk X pins H b) (ho:∀ b ∈ fp,∃ o,s.heap.get? b=some o∧∀ v,o.data ≠ .cell v):Inv X (pins++pinsAt fp s.heap) σ H s :=
 I.pins_of fun p hp=>(zW.mp hp).elim (fun z=>I.pin p (zR _ z)) fun z=>by
  obtain⟨hb,e⟩:=of_pinsAt z
  obtain⟨f0,f1,f2,_⟩:=hf p.1 hb
  obtain⟨o,e',d⟩:=ho p.1 hb
  rw[e] at e'; cases e'
  exact⟨e,f0,f1,f2,d⟩
theorem Inv.unpinned {pins pl:List (Addr × Obj)} {σ:St} {H:Hp} {s:Shared} (I:Inv X (pins++pl) σ H s):Inv X pins σ H s:=I.pins_of fun p hp=>I.pin p (zR _ (yV _ hp))
theorem ps_for {iter:Expr} {body:List Stmt} {wi:TI} {g:TG} {tb:TS} {pos:Pos} (hp:PassesOwn (model X.prog X.w) X.A X.env X.xe) (hc:X.calm=true) (hi:PI X tg iter wi) (hg:PG X tg g) (hb:PSs X body tb)
  (hs:∀ x,foldedSetIterable iter X.env x=pure x:=by intro _; rfl):PS X (.For tg iter body [] pos) (tFor wi g tb):=by
 intro pins s σ H D I h
 refine wpAny_For (thn (hi pins s σ H _ I h) fun v s1 h1=>thn h1 fun itv s2 h2=>?_) hs
 obtain⟨it,fp,tn,J,H2,e,I2,T,st2,f2,W,⟨m0,w0⟩,turn⟩:=h2
 subst e
 have stat:∀ {H':Hp},(∀ b ∈ fp,H' b=none)→∀ b ∈ fp,FpOk X pins H' b:=fun hn b hb=>⟨hn b hb,(f2 b hb).2⟩
 refine codeAny_forLoop_any (fun n s'=>∃ i σ' H',Inv X pins σ' H' s'∧tn i s'.heap∧(∀ b ∈ fp,H' b=none)∧W i n σ' H') ?_ m0 ⟨0,σ,H2,I2,st2,fun b hb=>(f2 b hb).1,w0⟩
 rintro n s3 ⟨i,σ3,H3,I3,st3,fr3,w3⟩
 rcases turn i n σ3 H3 w3 with ⟨stop,qn⟩|⟨go,N,hN,step⟩
 ·refine wpAny_passesOwn hp (thn (T.done X rfl rfl rfl hc i pins s3 σ3 H3 X.xe I3 (stat fr3) st3 stop) fun r s4 ⟨hr,I4⟩=>?_)
  subst hr
  exact wpAny_execs_nil ⟨σ3,H3,I4,qn⟩
 ·refine wpAny_passesOwn hp (thn (T.item X rfl rfl rfl hc i pins s3 σ3 H3 X.xe I3 (stat fr3) st3 go) fun r s4 ⟨u,hr,h4⟩=>?_)
  subst hr
  refine wpAny_passesOwn hp (thn h4 fun _ s5 ⟨x,H5,I5,r5,y5,st5,fr5⟩=>?_)
  have I5':=I5.pinned (stat fr5) (T.obj _ _ st5)
  refine wpAny_passesOwn hp (thn (hg _ s5 σ3 H5 x u _ I5' r5 (step x H5 y5)) fun _ s6 ⟨σ6,H6,I6,q6⟩=>?_)
  refine wpAny_passesOwn hp (thn (hb _ s6 σ6 H6 _ I6 q6) fun f s7 q7=>?_)
  have again:∀ {σ7:St} {H7:Hp},Inv X (pins++pinsAt fp s5.heap) σ7 H7 s7→N σ7 H7→∃ m,m < n∧∃ i σ' H',Inv X pins σ' H' s7∧tn i s7.heap∧(∀ b ∈ fp,H' b=none)∧W i m σ' H':=fun {σ7 H7} I7 n7=>by
   obtain⟨m',hm,w7⟩:=hN σ7 H7 n7
   refine⟨m',hm,i + 1,σ7,H7,I7.unpinned,T.keep _ _ _ st5 fun b hb o e=>(I7.pin (b,o) (zR _ (zR _ (mem_pinsAt hb e)))).1,fun b hb=>?_,w7⟩
   obtain⟨o,e,d⟩:=T.obj _ _ st5 b hb
   exact(I7.pin (b,o) (zR _ (zR _ (mem_pinsAt hb e)))).2.1
  cases f with
  | next=>obtain⟨σ7,H7,I7,n7⟩:=q7; exact again I7 n7
  | cont=>obtain⟨σ7,H7,I7,n7⟩:=q7; exact again I7 n7
  | brk=>obtain⟨σ7,H7,I7,q7⟩:=q7; exact⟨σ7,H7,I7.unpinned,q7⟩
  | ret v=>obtain⟨x7,σ7,H7,I7,r7,q7⟩:=q7; exact⟨x7,σ7,H7,I7.unpinned,r7,q7⟩
end
theorem for_list {K:PySem.W.Frag} {a:Addr} {xs:List V} {g:TG} {tb:TS} {D:Ends} {σ:St} {H:Hp} (Pv:Nat→St→Hp→Prop) (h0:Pv 0 σ H) (hl:∀ i σ H,i≤xs.length→Pv i σ H→SqL K H a xs)
  (hs:∀ i x σ H,xs[i]?=some x→Pv i σ H→g x σ H fun σ2 H2=>tb { D with nx:=Pv (i + 1),ct:=Pv (i + 1),bk:=D.nx } σ2 H2) (hd:∀ σ H,Pv xs.length σ H→D.nx σ H) :
  ∃ W:Nat→Nat→St→Hp→Prop,(∃ m,W 0 m σ H)∧∀ i m σ H,W i m σ H →
   ((Itl K a).stop i H∧D.nx σ H)∨((Itl K a).go i H∧∃ N:St→Hp→Prop,(∀ σ' H',N σ' H'→∃ m',m' < m∧W (i + 1) m' σ' H')∧∀ x H',(Itl K a).yld i H x H'→g x σ H' fun σ2 H2=>tb { D with nx:=N,ct:=N,bk:=D.nx } σ2 H2):=by
 refine⟨fun i m σ H=>m=xs.length - i∧i≤xs.length∧Pv i σ H,⟨xs.length,by simp,z5 _,h0⟩,?_⟩
 rintro i m σ H ⟨rfl,hi,p⟩
 have q:=hl i σ H hi p
 by_cases hlt:i < xs.length
 ·refine .inr ⟨⟨xs,xs[i],q,by simp [hlt]⟩,Pv (i + 1),fun σ' H' p'=>⟨xs.length - (i + 1),by omega,rfl,hlt,p'⟩,fun x H' y=>?_⟩
  obtain⟨e,y⟩:=y
  subst e
  exact hs i x σ _ (y xs q) p
 ·have e:i=xs.length:=by omega
  subst e
  exact .inl ⟨⟨xs,q,zI _⟩,hd σ H p⟩
theorem for_tup {K:PySem.W.Frag} {a:Addr} {xs:List V} {g:TG} {tb:TS} {D:Ends} {σ:St} {H:Hp} (Pv:Nat→St→Hp→Prop) (h0:Pv 0 σ H) (hl:∀ i σ H,i≤xs.length→Pv i σ H→SqT K H a xs)
  (hs:∀ i x σ H,xs[i]?=some x→Pv i σ H→g x σ H fun σ2 H2=>tb { D with nx:=Pv (i + 1),ct:=Pv (i + 1),bk:=D.nx } σ2 H2) (hd:∀ σ H,Pv xs.length σ H→D.nx σ H) :
  ∃ W:Nat→Nat→St→Hp→Prop,(∃ m,W 0 m σ H)∧∀ i m σ H,W i m σ H →
   ((Itt K a).stop i H∧D.nx σ H)∨((Itt K a).go i H∧∃ N:St→Hp→Prop,(∀ σ' H',N σ' H'→∃ m',m' < m∧W (i + 1) m' σ' H')∧∀ x H',(Itt K a).yld i H x H'→g x σ H' fun σ2 H2=>tb { D with nx:=N,ct:=N,bk:=D.nx } σ2 H2):=by
 refine⟨fun i m σ H=>m=xs.length - i∧i≤xs.length∧Pv i σ H,⟨xs.length,by simp,z5 _,h0⟩,?_⟩
 rintro i m σ H ⟨rfl,hi,p⟩
 have q:=hl i σ H hi p
 by_cases hlt:i < xs.length
 ·refine .inr ⟨⟨xs,xs[i],q,by simp [hlt]⟩,Pv (i + 1),fun σ' H' p'=>⟨xs.length - (i + 1),by omega,rfl,hlt,p'⟩,fun x H' y=>?_⟩
  obtain⟨e,y⟩:=y
  subst e
  exact hs i x σ _ (y xs q) p
 ·have e:i=xs.length:=by omega
  subst e
  exact .inl ⟨⟨xs,q,zI _⟩,hd σ H p⟩
theorem for_range {lo:Int} {n:Nat} {g:TG} {tb:TS} {D:Ends} {σ:St} {H:Hp} (Pv:Nat→St→Hp→Prop) (h0:Pv 0 σ H)
  (hs:∀ i σ H,i < n→Pv i σ H→g (.int (lo + i)) σ H fun σ2 H2=>tb { D with nx:=Pv (i + 1),ct:=Pv (i + 1),bk:=D.nx } σ2 H2) (hd:∀ σ H,Pv n σ H→D.nx σ H) :
  ∃ W:Nat→Nat→St→Hp→Prop,(∃ m,W 0 m σ H)∧∀ i m σ H,W i m σ H →
   ((Itr lo n).stop i H∧D.nx σ H)∨((Itr lo n).go i H∧∃ N:St→Hp→Prop,(∀ σ' H',N σ' H'→∃ m',m' < m∧W (i + 1) m' σ' H')∧∀ x H',(Itr lo n).yld i H x H'→g x σ H' fun σ2 H2=>tb { D with nx:=N,ct:=N,bk:=D.nx } σ2 H2):=by
 refine⟨fun i m σ H=>m=n - i∧i≤n∧Pv i σ H,⟨n,by simp,z5 _,h0⟩,?_⟩
 rintro i m σ H ⟨rfl,hi,p⟩
 by_cases hlt:i < n
 ·refine .inr ⟨hlt,Pv (i + 1),fun σ' H' p'=>⟨n - (i + 1),by omega,rfl,hlt,p'⟩,fun x H' y=>?_⟩
  obtain⟨e,y⟩:=y
  subst e y
  exact hs i σ _ hlt p
 ·have e:i=n:=by omega
  subst e
  exact .inl ⟨zI _,hd σ H p⟩
end L2
namespace L2
open PySem PySem.Spec PyProof.Rows
abbrev R2:=V→V→Hp→VK→Prop
def OpR (X:Cx) (f:Value→Value→Sem Value) (r:R2):Prop :=
 ∀(pins:List (Addr × Obj)) (s:Shared) (σ:St) (H:Hp) (x y:V) (v u:Value) (Q:VK),Inv X pins σ H s→RelV x v→RelV y u→r x y H Q →
  wpAny (model X.prog X.w) X.A (f v u) (EP X pins σ Q) X.xe s
def CallR (X:Cx) (f:Value) (r:List V→Hp→VK→Prop):Prop :=
 ∀(pins:List (Addr × Obj)) (s:Shared) (σ:St) (H:Hp) (xs:List V) (us:List Value) (Q:VK),Inv X pins σ H s→Vals xs us→r xs H Q →
  wpAny (model X.prog X.w) X.A (call f us) (EP X pins σ Q) X.xe s
def tOp (r:R2) (ta tb:TE):TE:=fun σ H Q=>ta σ H fun x H1=>tb σ H1 fun y H2=>r x y H2 Q
inductive rI (C:Int→Int→Prop) (g:Int→Int→V) (x:V) (y:V) (H:Hp) (Q:VK):Prop where
 | mk (i j:_) (h_0:x=.int i) (h_1:y=.int j) (h_2:C i j) (h_3:Q (g i j) H):rI C g x y H Q
inductive rI0 (g:Int→Int→V) (x:V) (y:V) (H:Hp) (Q:VK):Prop where
 | mk (i j:_) (h_0:x=.int i) (h_1:y=.int j) (h_2:Q (g i j) H):rI0 g x y H Q
section
variable {X:Cx} {a b c:Expr} {ta tb tc:TE} {pos:Pos}
theorem binT (ha:PE X a ta) (hb:PE X b tb) {pins:List (Addr × Obj)} {s:Shared} {σ:St} {H:Hp} {R:V→V→Hp→Prop} (I:Inv X pins σ H s)
  (h:ta σ H fun x H1=>tb σ H1 fun y H2=>R x y H2) {Q:Value→Shared→Prop} {f:Value→Value→Sem Value}
  (hf:∀ v u s2 x y H2,Inv X pins σ H2 s2→RelV x v→RelV y u→R x y H2→wpAny (model X.prog X.w) X.A (f v u) Q X.xe s2) :
  wpAny (model X.prog X.w) X.A (eval a X.env) (fun v s₁=>wpAny (model X.prog X.w) X.A (eval b X.env) (fun u s₂=>wpAny (model X.prog X.w) X.A (f v u) Q X.xe s₂) X.xe s₁) X.xe s:=by
 refine thn (ha pins s σ H _ I h) fun v s1 ⟨x,H1,I1,r1,q1⟩=>?_
 refine thn (hb pins s1 σ H1 _ I1 q1) fun u s2 ⟨y,H2,I2,r2,q2⟩=>?_
 exact hf v u s2 x y H2 I2 r1 r2 q2
theorem pe_op {op:Operator} {r:R2} (ho:OpR X (binaryOp op) r) (ha:PE X a ta) (hb:PE X b tb):PE X (.BinOp a op b pos) (tOp r ta tb):=by
 intro pins s σ H Q I h
 exact wpAny_BinOp (binT ha hb I h fun v u s2 x y H2 I2 rx ry q=>ho pins s2 σ H2 x y v u Q I2 rx ry q)
theorem opI {f:Value→Value→Sem Value} {C:Int→Int→Prop} {g:Int→Int→Int}
  (rule:∀(i j:Int) (t u:Tok) (s:Shared) (Q:Value→Shared→Prop) (E:Value→Shared→Prop),C i j→Q (.int (g i j) s.toks) { s with toks:=s.toks + 1 }→wpAny (model X.prog X.w) X.A (f (.int i t) (.int j u)) Q E s) :
  OpR X f (rI C fun i j=>.int (g i j)):=by
 intro pins s σ H x y v u Q I rx ry h
 obtain⟨i,j,rfl,rfl,hc,q⟩:=h
 obtain⟨t,rfl⟩:=rx
 obtain⟨t',rfl⟩:=ry
 exact rule i j t t' s _ _ hc ⟨.int (g i j),H,I.tok _,⟨_,rfl⟩,q⟩
theorem opI0 {f:Value→Value→Sem Value} {g:Int→Int→Int}
  (rule:∀(i j:Int) (t u:Tok) (s:Shared) (Q:Value→Shared→Prop) (E:Value→Shared→Prop),Q (.int (g i j) s.toks) { s with toks:=s.toks + 1 }→wpAny (model X.prog X.w) X.A (f (.int i t) (.int j u)) Q E s) :
  OpR X f (rI0 fun i j=>.int (g i j)):=by
 intro pins s σ H x y v u Q I rx ry h
 obtain⟨i,j,rfl,rfl,q⟩:=h
 obtain⟨t,rfl⟩:=rx
 obtain⟨t',rfl⟩:=ry
 exact rule i j t t' s _ _ ⟨.int (g i j),H,I.tok _,⟨_,rfl⟩,q⟩
theorem opB0 {f:Value→Value→Sem Value} {g:Int→Int→Bool}
  (rule:∀(i j:Int) (t u:Tok) (s:Shared) (Q:Value→Shared→Prop) (E:Value→Shared→Prop),Q (.bool (g i j)) s→wpAny (model X.prog X.w) X.A (f (.int i t) (.int j u)) Q E s) :
  OpR X f (rI0 fun i j=>.bl (g i j)):=by
 intro pins s σ H x y v u Q I rx ry h
 obtain⟨i,j,rfl,rfl,q⟩:=h
 obtain⟨t,rfl⟩:=rx
 obtain⟨t',rfl⟩:=ry
 exact rule i j t t' s _ _ ⟨.bl (g i j),H,I,rfl,q⟩
def CDiv (i j:Int):Prop:=0 < j∧j < 1073741824
def CPow (i j:Int):Prop:=0≤j∧j≤1000000∧i.natAbs < 2 ^ 64
def CMul (i j:Int):Prop:=(-(2 ^ 64) < i∧i < 2 ^ 64)∨(-(2 ^ 64) < j∧j < 2 ^ 64)
theorem CMul.ok {i j:Int} (h:CMul i j):IntMulOk i j:=by
 rcases h with ⟨h1,h2⟩|⟨h1,h2⟩
 ·exact .of_left (intBits_le_64 h1 h2)
 ·exact .of_right (intBits_le_64 h1 h2)
theorem op_add:OpR X (binaryOp .Add) (rI0 fun i j=>.int (i + j)):=opI0 fun _ _ _ _ _ _ _ q=>add_int q
theorem op_sub:OpR X (binaryOp .Sub) (rI0 fun i j=>.int (i - j)):=opI0 fun _ _ _ _ _ _ _ q=>sub_int q
theorem op_mul:OpR X (binaryOp .Mult) (rI CMul fun i j=>.int (i * j)):=opI fun _ _ _ _ _ _ _ hc q=>mul_int q hc.ok
theorem op_fdiv:OpR X (binaryOp .FloorDiv) (rI CDiv fun i j=>.int (i / j)):=opI fun i j _ _ _ _ _ hc q=>by
 have h1:(0:Int) < j:=hc.1
 have h2:j < 1073741824:=hc.2
 exact floordiv_int (by omega) (by rw[Int.fdiv_eq_ediv_of_nonneg i (by omega)]; exact q) (.inl (PyProof.noPylong_small (by omega)))
theorem op_mod:OpR X (binaryOp .Mod) (rI (fun _ j=>0 < j) fun i j=>.int (i % j)):=opI fun i j _ _ _ _ _ hc q=>by
 have h1:(0:Int) < j:=hc
 exact mod_int' (by omega) (by rw[Int.fmod_eq_emod_of_nonneg i (by omega)]; exact q)
theorem op_pow:OpR X (binaryOp .Pow) (rI CPow fun i j=>.int (i ^ j.toNat)):=opI fun _ _ _ _ _ _ _ hc q=>pow_int_small hc.1 hc.2.1 hc.2.2 q
end
def scal:V→V→Bool
 | .non,.non=>true|.non,.int _=>true|.int _,.non=>true|.non,.bl _=>true|.bl _,.non=>true|.non,.str _=>true|.str _,.non=>true
 | .int _,.int _=>true|.bl _,.bl _=>true|.str _,.str _=>true|.byt _,.byt _=>true
 | .int _,.str _=>true|.str _,.int _=>true|.bl _,.str _=>true|.str _,.bl _=>true
 | _,_=>false
def rEq:R2:=fun x y H Q=>scal x y=true∧Q (.bl (decide (x=y))) H
def rNe:R2:=fun x y H Q=>scal x y=true∧Q (.bl (!decide (x=y))) H
theorem dec_int {i j:Int}:decide (V.int i=V.int j)=(i == j):=by
 rw[jT]
 simp
theorem dec_bl {i j:Bool}:decide (V.bl i=V.bl j)=(i == j):=by
 rw[jT]
 simp
theorem dec_str {i j:Str}:decide (V.str i=V.str j)=(i == j):=by
 rw[jT]
 simp
theorem dec_byt {i j:Array UInt8}:decide (V.byt i=V.byt j)=(i.toList == j.toList):=by
 rw[jT]
 cases i
 cases j
 simp
section
variable {X:Cx} {a b c:Expr} {ta tb tc:TE} {pos:Pos}
theorem fin_bl {pins:List (Addr × Obj)} {σ:St} {H:Hp} {s:Shared} {Q:VK} {k k':Bool} (I:Inv X pins σ H s) (q:Q (.bl k) H) (e:k=k'):EP X pins σ Q (.bool k') s:=by
 subst e
 exact⟨.bl k,H,I,rfl,q⟩
theorem op_eq:OpR X (compareOp .Eq) rEq:=by
 intro pins s σ H x y v u Q I rx ry h
 obtain⟨hs,q⟩:=h
 cases x with
 | non =>
  cases rx
  cases y with
  | non=>cases ry; exact PySem.EqNone.eq_none_none (fin_bl I q (by simp))
  | bl j=>cases ry; exact PySem.EqNone.eq_none_bool (fin_bl I q (by simp))
  | int j=>obtain⟨t',rfl⟩:=ry; exact PySem.EqNone.eq_none_int (fin_bl I q (by simp))
  | str j=>obtain⟨t',rfl⟩:=ry; exact PySem.EqNone.eq_none_str (fin_bl I q (by simp))
  | _=>exact absurd (show false=true from hs) zZ
 | bl i =>
  cases rx
  cases y with
  | non=>cases ry; exact PySem.EqNone.eq_bool_none (fin_bl I q (by simp))
  | bl j=>cases ry; exact eq_bool (fin_bl I q dec_bl)
  | str j=>obtain⟨t',rfl⟩:=ry; exact PySem.EqMixed.eq_bool_str (fin_bl I q (by simp))
  | _=>exact absurd (show false=true from hs) zZ
 | int i =>
  obtain⟨t,rfl⟩:=rx
  cases y with
  | non=>cases ry; exact PySem.EqNone.eq_int_none (fin_bl I q (by simp))
  | int j=>obtain⟨t',rfl⟩:=ry; exact eq_int (fin_bl I q dec_int)
  | str j=>obtain⟨t',rfl⟩:=ry; exact PySem.EqMixed.eq_int_str (fin_bl I q (by simp))
  | _=>exact absurd (show false=true from hs) zZ
 | str i =>
  obtain⟨t,rfl⟩:=rx
  cases y with
  | non=>cases ry; exact PySem.EqNone.eq_str_none (fin_bl I q (by simp))
  | bl j=>cases ry; exact PySem.EqMixed.eq_str_bool (fin_bl I q (by simp))
  | int j=>obtain⟨t',rfl⟩:=ry; exact PySem.EqMixed.eq_str_int (fin_bl I q (by simp))
  | str j=>obtain⟨t',rfl⟩:=ry; exact eq_str (fin_bl I q dec_str)
  | _=>exact absurd (show false=true from hs) zZ
 | byt i =>
  obtain⟨t,rfl⟩:=rx
  cases y with
  | byt j=>obtain⟨t',rfl⟩:=ry; exact PySem.W.eq_bytes (fin_bl I q dec_byt)
  | _=>exact absurd (show false=true from hs) zZ
 | _=>cases y <;> exact absurd (show false=true from hs) zZ
theorem op_ne:OpR X (compareOp .NotEq) rNe:=by
 intro pins s σ H x y v u Q I rx ry h
 obtain⟨hs,q⟩:=h
 cases x with
 | non =>
  cases rx
  cases y with
  | non=>cases ry; exact PySem.EqNone.ne_none_none (fin_bl I q (by simp))
  | bl j=>cases ry; exact PySem.EqNone.ne_none_bool (fin_bl I q (by simp))
  | int j=>obtain⟨t',rfl⟩:=ry; exact PySem.EqNone.ne_none_int (fin_bl I q (by simp))
  | str j=>obtain⟨t',rfl⟩:=ry; exact PySem.EqNone.ne_none_str (fin_bl I q (by simp))
  | _=>exact absurd (show false=true from hs) zZ
 | bl i =>
  cases rx
  cases y with
  | non=>cases ry; exact PySem.EqNone.ne_bool_none (fin_bl I q (by simp))
  | bl j=>cases ry; exact ne_bool (fin_bl I q (congrArg not dec_bl))
  | str j=>obtain⟨t',rfl⟩:=ry; exact PySem.EqMixed.ne_bool_str (fin_bl I q (by simp))
  | _=>exact absurd (show false=true from hs) zZ
 | int i =>
  obtain⟨t,rfl⟩:=rx
  cases y with
  | non=>cases ry; exact PySem.EqNone.ne_int_none (fin_bl I q (by simp))
  | int j=>obtain⟨t',rfl⟩:=ry; exact ne_int (fin_bl I q (congrArg not dec_int))
  | str j=>obtain⟨t',rfl⟩:=ry; exact PySem.EqMixed.ne_int_str (fin_bl I q (by simp))
  | _=>exact absurd (show false=true from hs) zZ
 | str i =>
  obtain⟨t,rfl⟩:=rx
  cases y with
  | non=>cases ry; exact PySem.EqNone.ne_str_none (fin_bl I q (by simp))
  | bl j=>cases ry; exact PySem.EqMixed.ne_str_bool (fin_bl I q (by simp))
  | int j=>obtain⟨t',rfl⟩:=ry; exact PySem.EqMixed.ne_str_int (fin_bl I q (by simp))
  | str j=>obtain⟨t',rfl⟩:=ry; exact ne_str (fin_bl I q (congrArg not dec_str))
  | _=>exact absurd (show false=true from hs) zZ
 | byt i =>
  obtain⟨t,rfl⟩:=rx
  cases y with
  | byt j=>obtain⟨t',rfl⟩:=ry; exact PySem.W.ne_bytes (fin_bl I q (congrArg not dec_byt))
  | _=>exact absurd (show false=true from hs) zZ
 | _=>cases y <;> exact absurd (show false=true from hs) zZ
theorem op_lt:OpR X (compareOp .Lt) (rI0 fun i j=>.bl (decide (i < j))):=opB0 fun _ _ _ _ _ _ _ q=>lt_int q
theorem op_le:OpR X (compareOp .LtE) (rI0 fun i j=>.bl (decide (i≤j))):=opB0 fun _ _ _ _ _ _ _ q=>le_int q
theorem op_gt:OpR X (compareOp .Gt) (rI0 fun i j=>.bl (decide (j < i))):=opB0 fun _ _ _ _ _ _ _ q=>gt_int q
theorem op_ge:OpR X (compareOp .GtE) (rI0 fun i j=>.bl (decide (j≤i))):=opB0 fun _ _ _ _ _ _ _ q=>ge_int q
theorem op_isN:OpR X (compareOp .Is) (fun x y H Q=>y=.non∧Q (.bl (decide (x=.non))) H):=by
 intro pins s σ H x y v u Q I rx ry h
 obtain⟨rfl,q⟩:=h
 cases ry
 refine is_none_gen (fin_bl I q ?_)
 cases x <;> first
  | (cases rx; rfl)
  | (obtain⟨t,rfl⟩:=rx; rfl)
theorem op_notN:OpR X (compareOp .IsNot) (fun x y H Q=>y=.non∧Q (.bl (!decide (x=.non))) H):=by
 intro pins s σ H x y v u Q I rx ry h
 obtain⟨rfl,q⟩:=h
 cases ry
 refine isnot_none_gen (fin_bl I q ?_)
 cases x <;> first
  | (cases rx; rfl)
  | (obtain⟨t,rfl⟩:=rx; rfl)
theorem nomark (b:Expr) {op:CmpOp} (h:op ≠ .In:=by decide) (h2:op ≠ .NotIn:=by decide):behindInMarks op b=false:=by
 have e1:(op == CmpOp.In)=false:=by cases op <;> first|rfl|exact absurd rfl h
 have e2:(op == CmpOp.NotIn)=false:=by cases op <;> first|rfl|exact absurd rfl h2
 cases b <;> simp [behindInMarks,e1,e2]
theorem pe_cmpR {op:CmpOp} {r:R2} (ho:OpR X (compareOp op) r) (ha:PE X a ta) (hb:PE X b tb) (hm:behindInMarks op b=false):PE X (.Compare a [op] [b] pos) (tOp r ta tb):=by
 intro pins s σ H Q I h
 exact wpAny_Compare1 (binT ha hb I h fun v u s2 x y H2 I2 rx ry q=>ho pins s2 σ H2 x y v u Q I2 rx ry q) hm
inductive tTest_ (Q:Bool→Hp→Prop) (x:V) (H':Hp):Prop where
 | mk (k:_) (h_0:x=.bl k) (h_1:Q k H'):tTest_ Q x H'
def tTest (t:TE):TT:=fun σ H Q=>t σ H fun x H'=>tTest_ Q x H'
theorem pt_cmpR {op:CmpOp} {r:R2} (ho:OpR X (compareOp op) r) (ha:PE X a ta) (hb:PE X b tb) (hm:behindInMarks op b=false):PT X (.Compare a [op] [b] pos) (tTest (tOp r ta tb)):=by
 intro pins s σ H Q I h
 refine wpAny_isTrue_Compare1 (thn (ha pins s σ H _ I h) fun v s1 ⟨x,H1,I1,r1,q1⟩=>thn (hb pins s1 σ H1 _ I1 q1) fun u s2 ⟨y,H2,I2,r2,q2⟩ =>
  thn (ho pins s2 σ H2 x y v u _ I2 r1 r2 q2) fun c s3 ⟨z,H3,I3,r3,k,e,q3⟩=>?_) hm
 subst e
 cases r3
 exact wpAny_truthy_bool ⟨H3,I3,q3⟩
inductive tChain_ (r':R2) (tc:TE) (σ:St) (Q:VK) (y:V) (z:V) (H3:Hp):Prop where
 | mk (k:_) (h_0:z=.bl k) (h_1:(if k=true then tc σ H3 fun w' H4=>r' y w' H4 Q else Q (.bl false) H3)):tChain_ r' tc σ Q y z H3
def tChain (r r':R2) (ta tb tc:TE):TE:=fun σ H Q=>ta σ H fun x H1=>tb σ H1 fun y H2=>r x y H2 fun z H3=>tChain_ r' tc σ Q y z H3
theorem pe_chain {op op':CmpOp} {r r':R2} (ho:OpR X (compareOp op) r) (ho':OpR X (compareOp op') r') (ha:PE X a ta) (hb:PE X b tb) (hc:PE X c tc)
  (hm:lastMarks [op,op'] [b,c]=false:=by with_unfolding_all rfl):PE X (.Compare a [op,op'] [b,c] pos) (tChain r r' ta tb tc):=by
 intro pins s σ H Q I h
 refine Compare_chain (thn (ha pins s σ H _ I h) fun v s1 ⟨x,H1,I1,r1,q1⟩=>chain_link (thn (hb pins s1 σ H1 _ I1 q1) fun u s2 ⟨y,H2,I2,r2,q2⟩ =>
  thn (ho pins s2 σ H2 x y v u _ I2 r1 r2 q2) fun d s3 ⟨z,H3,I3,r3,k,e,q3⟩=>?_)) hm
 subst e
 cases r3
 refine wpAny_truthy_bool ?_
 cases k with
 | false=>exact ite_ff ⟨.bl false,H3,I3,rfl,q3⟩
 | true=>exact ite_tt (chain_last (thn (hc pins s3 σ H3 _ I3 q3) fun w' s4 ⟨z',H4,I4,r4,q4⟩=>ho' pins s4 σ H4 y z' u w' Q I4 r2 r4 q4))
theorem line63:(sizeLine:Nat) < 2 ^ 63:=by rw[sizeLine_eq]; decide
theorem vals1 {x:V} {us:List Value} (r:Vals [x] us):∃ u,us=[u]∧RelV x u:=by
 cases r with
 | cons r1 r2=>cases r2; exact⟨_,rfl,r1⟩
theorem vals2 {x y:V} {us:List Value} (r:Vals [x,y] us):∃ u w',us=[u,w']∧RelV x u∧RelV y w':=by
 cases r with
 | cons r1 r2 =>
  cases r2 with
  | cons r3 r4=>cases r4; exact⟨_,_,rfl,r1,r3⟩
theorem call_min2 (hc:X.calm=true):CallR X (.builtin "min") (fun xs H Q=>∃ i j,xs=[.int i,.int j]∧Q (.int (if j < i then j else i)) H):=by
 intro pins s σ H xs us Q I r h
 obtain⟨i,j,rfl,q⟩:=h
 obtain⟨u,w',rfl,⟨t,rfl⟩,⟨t',rfl⟩⟩:=vals2 r
 refine min_two_ints (I.ok.hd hc) fun h' tk k=>⟨_,H,I.kept k,?_,q⟩
 by_cases hj:j < i
 ·rw[if_pos hj,if_pos hj]; exact⟨_,rfl⟩
 ·rw[if_neg hj,if_neg hj]; exact⟨_,rfl⟩
end
end L2
namespace L2
open PySem PySem.Spec PyProof.Rows
structure ObjM (h:Heap) (x dx C:Addr) (mA:Str→Option Value):Prop where
 obj:h.get? x=some (PySem.W.instObj C dx)
 ns:h.Ns1 dx mA
 ne:dx ≠ x
theorem lookIn_ns {h:Heap} {dx:Addr} {mA:Str→Option Value} (n:h.Ns1 dx mA):∃ od,h.get? dx=some od∧∀ name,PySem.W.lookIn name od=some (mA name):=by
 obtain⟨o,es,ep,ho,hd,hk,_,hm⟩:=n
 refine⟨o,ho,fun name=>?_⟩
 have e:=hm name
 unfold nsFind findBy at e
 rw[← Array.find?_toList] at e
 unfold PySem.W.lookIn
 rw[hd]
 dsimp only
 split
 ·rename_i y q
  rw[q] at e
  exact congrArg some e
 ·rename_i q
  rw[q] at e
  have a:es.toList.any (·.refKey)=false:=by
   rw[List.any_eq_false]
   intro y hy
   obtain⟨z,t,hkey⟩:=hk y (Array.mem_toList_iff.mp hy)
   simp [DictEntry.refKey,hkey]
  have a':¬ es.toList.any (·.refKey)=true:=by rw[a]; exact zZ
  rw[if_neg a']
  exact congrArg some e
theorem ObjM.look {h:Heap} {x dx C:Addr} {mA:Str→Option Value} (I:ObjM h x dx C mA):∃ od,PySem.W.InstAt h x (PySem.W.instObj C dx) C (some od)∧∀ name,PySem.W.lookIn name od=some (mA name) :=
 let ⟨od,ho,hl⟩:=lookIn_ns I.ns
 ⟨od,⟨I.obj,rfl,rfl,ho⟩,hl⟩
section
variable {prog:Program} {w:World} {A:Around} {E:Value→Shared→Prop} {s:Shared} {K:PySem.W.Frag} {x dx C f:Addr} {mA:Str→Option Value} {name:Str} {v:Value}
theorem get_map {expr:Bool} {Q:Value→Shared→Prop} (X:K.In s.heap) (I:ObjM s.heap x dx C mA) (hg:PySem.W.plainGet K C name=true) (hh:PySem.W.hasDictIn K C=true)
  (ha:PySem.W.findIn K (.ref C) name=some none) (hv:mA name=some v) (hv':PySem.W.handedIn v=true) (h:Q v { s with toks:=s.toks + 1 }) :
  wpAny (model prog w) A (getAttr (.ref x) name expr) Q E s:=by
 obtain⟨od,J,hl⟩:=I.look
 exact PySem.W.get_value X J (PySem.W.plainGet_of hg).1 (PySem.W.findObj_own hh ha rfl (by rw[hl,hv])) hv' h
theorem get_meth {pl:Sem Bool} {Q:Value × List Value→Shared→Prop} (X:K.In s.heap) (I:ObjM s.heap x dx C mA) (hg:PySem.W.plainGet K C name=true)
  (hf:PySem.W.findIn K (.ref C) name=some (some (.ref f))) (ht:PySem.W.isFn K (.ref f)=true) (hv:mA name=none) (h:Q (.ref f,[.ref x]) s) :
  wpAny (model prog w) A (getMethod (.ref x) name pl) Q E s:=by
 obtain⟨od,J,hl⟩:=I.look
 exact PySem.W.method_fn X J (PySem.W.plainGet_of hg).1 (PySem.W.plainGet_of hg).2 hf (beq_iff_eq.mp ht) (by show(PySem.W.lookIn name od).map (·.isSome)=some false; rw[hl,hv]; rfl) h
theorem set_map {ns:List Str} {Q:Unit→Shared→Prop} (X:K.In s.heap) (I:ObjM s.heap x dx C mA)
  (hs:PySem.W.findIn K (.ref C) "__setattr__"=some (some (.builtin "object.__setattr__"))) (hp:PySem.W.plainOver K C=true) (ht:PySem.W.takerIn K C name=some none) (hh:PySem.W.hasDictIn K C=true)
  (hw:PySem.Within mA ns) (hsz:ns.length≤sizeLine)
  (h:∀ h',ObjM h' x dx C (fun y=>if y=name then some v else mA y)→Heap.SameBut dx s.heap h'→Q () { s with heap:=h',toks:=s.toks + 2 }) :
  wpAny (model prog w) A (setAttr (.ref x) name v) Q E s:=by
 obtain⟨od,J,hl⟩:=I.look
 refine PySem.W.set_plain X J hs (PySem.W.osa_open (s:={ s with toks:=s.toks + 1 }) (r:=none) X J hp ht fun b=>?_)
 obtain⟨cd,hc,hd'⟩:=PySem.W.any_some hh
 have hx:s.heap.get? x=some ⟨.ref C,some dx,.plain,#[]⟩:=I.obj
 refine wpAny_bind (wpAny_pure (wpAny_bind (wpAny_bind (wpAny_loadPart hx (wpAny_bind (PySem.W.Looks.here (s:={ s with toks:=s.toks + 1 }) (PySem.W.looks_clsIn X hc) ?_))))))
 rw[hd']
 refine wpAny_pure (a:=some dx) (wpAny_bind (wpAny_pure (wpAny_bind ?_)))
 refine wpAny_nsSet1 (s:={ s with toks:=s.toks + 1 }) I.ns fun h' hn2 hs2=>?_
 obtain⟨oD,esD,epD,hoD,hdD,hcD⟩:=hn2.count (PySem.Within.cons name v hw)
 refine wpAny_bind (wpAny_lookBehind hoD (by rw[hdD]; exact pastItsLine_dict (z9 hcD (by rw[zX]; omega))) ?_)
 exact wpAny_pure (h _ ⟨(hs2.2 _ (Ne.symm I.ne)).trans I.obj,hn2,I.ne⟩ hs2)
theorem make_map {R:Result→Shared→Prop} {vs:List Value} {kw:List (Str × Value)} (X:K.In s.heap) (hm:PySem.W.makesIn K C=true)
  (hi:PySem.W.findIn K (.ref C) "__init__"=some (some (.ref f))) (hf:PySem.W.typeIn K (.ref f)=some (.type "function"))
  (h:codeAny (model prog w) (A.under (.builtin "type.__call__" ⟨.ref C::vs,kw⟩)) (.call (.ref f) ⟨.ref (s.heap.objs.size + 1)::vs,kw⟩) (PySem.W.InitBack (s.heap.objs.size + 1) R)
   { s with heap:=(s.heap.push PySem.W.emptyDict).push (PySem.W.instObj C s.heap.objs.size) }) :
  codeAny (model prog w) A (.call (.ref C) ⟨vs,kw⟩) R s:=by
 obtain⟨hh,g,d,t,os⟩:=s
 exact PySem.W.make_core (PySem.W.makes_of X hm) (PySem.W.looks_findIn X hi) (fun self=>PySem.W.bind_fn X self hf) (.inl rfl) h
end
def putF (f:Str) (v:V):List (Str × V)→List (Str × V)
 | []=>[(f,v)]
 | (g,x)::r=>if g=f then (g,v)::r else (g,x)::putF f v r
theorem lookup_putF (f g:Str) (v:V):∀ fs:List (Str × V),(putF f v fs).lookup g=if g=f then some v else fs.lookup g
 | []=>by
  show List.lookup g [(f,v)]=_
  by_cases h:g=f
  ·have hb:(g == f)=true:=beq_iff_eq.mpr h
   simp only [List.lookup,hb,if_pos h]
  ·have hb:(g == f)=false:=beq_eq_false_iff_ne.mpr h
   simp only [List.lookup,hb,if_neg h]
 | (k,x)::r=>by
  have ih:=lookup_putF f g v r
  rw[show putF f v ((k,x)::r)=(if k=f then (k,v)::r else (k,x)::putF f v r) from rfl]
  by_cases hk:k=f
  ·rw[if_pos hk]
   by_cases h:g=k
   ·have hb:(g == k)=true:=beq_iff_eq.mpr h
    simp only [List.lookup,hb,if_pos (h.trans hk)]
   ·have hb:(g == k)=false:=beq_eq_false_iff_ne.mpr h
    simp only [List.lookup,hb,if_neg (fun e:g=f=>h (e.trans hk.symm))]
  ·rw[if_neg hk]
   by_cases h:g=k
   ·have hb:(g == k)=true:=beq_iff_eq.mpr h
    simp only [List.lookup,hb,if_neg (fun e:g=f=>hk (h.symm.trans e))]
   ·have hb:(g == k)=false:=beq_eq_false_iff_ne.mpr h
    simp only [List.lookup,hb]
    exact ih
theorem keys_putF (f:Str) (v:V):∀ fs:List (Str × V),f ∈ (putF f v fs).map (·.1)∧∀ g,g ∈ fs.map (·.1)→g ∈ (putF f v fs).map (·.1)
 | []=>⟨by simp [putF],fun g h=>by simp at h⟩
 | (k,x)::r=>by
  obtain⟨i1,i2⟩:=keys_putF f v r
  rw[show putF f v ((k,x)::r)=(if k=f then (k,v)::r else (k,x)::putF f v r) from rfl]
  by_cases hk:k=f
  ·rw[if_pos hk]
   subst hk
   exact⟨by simp,fun g h=>by simpa using h⟩
  ·rw[if_neg hk]
   refine⟨?_,fun g h=>?_⟩
   ·rw[yG]
    exact zJ _ i1
   ·rw[yG] at h ⊢
    rcases zS.mp h with e|e
    ·exact zS.mpr (.inl e)
    ·exact zJ _ (i2 g e)
theorem length_putF (f:Str) (v:V):∀ fs:List (Str × V),(putF f v fs).length≤fs.length + 1
 | []=>by simp [putF]
 | (k,x)::r=>by
  have ih:=length_putF f v r
  rw[show putF f v ((k,x)::r)=(if k=f then (k,v)::r else (k,x)::putF f v r) from rfl]
  by_cases hk:k=f
  ·rw[if_pos hk,zX,zX]; omega
  ·rw[if_neg hk,zX,zX]; omega
theorem RelO.some_of {v:V} {o:Option Value} (r:RelO (some v) o):∃ u,o=some u∧RelV v u:=by
 cases o with
 | none=>exact(show False from r).elim
 | some u=>exact⟨u,rfl,r⟩
theorem RelO.none_of {o:Option Value} (r:RelO none o):o=none:=by
 cases o with
 | none=>rfl
 | some u=>exact(show False from r).elim
theorem handed_of {v:V} {u:Value} (r:RelV v u):PySem.W.handedIn u=true:=by
 cases v with
 | non=>cases (show u=Value.none from r); rfl
 | bl b=>cases (show u=Value.bool b from r); rfl
 | int i=>obtain⟨t,e⟩:=(show ∃ t,u=Value.int i t from r); cases e; rfl
 | str x=>obtain⟨t,e⟩:=(show ∃ t,u=Value.str x t from r); cases e; rfl
 | byt b=>obtain⟨t,e⟩:=(show ∃ t,u=Value.bytes b t from r); cases e; rfl
 | flt b=>obtain⟨t,e⟩:=(show ∃ t,u=Value.float b t from r); cases e; rfl
 | ref a=>cases (show u=Value.ref a from r); rfl
 | ty n=>cases (show u=Value.type n from r); rfl
section
variable {P:Program} {w:World} {H H':Hp} {h h':Heap} {a C dx:Addr} {fs fs':List (Str × V)}
theorem ins_get (hok:HOk P w H h) (e:H a=some (.ins C dx fs)):∃ mA,ObjM h a dx C mA∧(∀ f,RelO (fs.lookup f) (mA f))∧PySem.Within mA (fs.map (·.1))∧fs.length≤1000∧H dx=some (.own a):=by
 obtain⟨d,z,ne,ob,mA,n,r,q⟩:=(show ObjOk P w H h a (.ins C dx fs) from hok a _ e)
 exact⟨mA,⟨ob,n,ne⟩,r,q,z,d⟩
end
structure Cls (K:PySem.W.Frag) (C:Addr):Prop where
 pg:PySem.W.plainGet K C Str.empty=true
 hd:PySem.W.hasDictIn K C=true
 po:PySem.W.plainOver K C=true
 sa:PySem.W.findIn K (.ref C) "__setattr__"=some (some (.builtin "object.__setattr__"))
theorem Cls.get {K:PySem.W.Frag} {C:Addr} (c:Cls K C) (f:Str):PySem.W.plainGet K C f=true:=c.pg
def NoAttr (K:PySem.W.Frag) (C:Addr) (f:Str):Prop:=PySem.W.findIn K (.ref C) f=some none
theorem NoAttr.taker {K:PySem.W.Frag} {C:Addr} {f:Str} (n:NoAttr K C f):PySem.W.takerIn K C f=some none:=by
 unfold PySem.W.takerIn
 rw[show PySem.W.findIn K (.ref C) f=some none from n]
 rfl
structure Meth (K:PySem.W.Frag) (C:Addr) (m:Str) (f:Addr):Prop where
 at_:PySem.W.findIn K (.ref C) m=some (some (.ref f))
 fn:PySem.W.isFn K (.ref f)=true
 kp:PySem.W.keepIn K (.ref f)=true
section
variable {X:Cx} {pins:List (Addr × Obj)} {σ:St} {H:Hp} {s:Shared} {a C dx:Addr} {fs:List (Str × V)} {f:Str} {v:V} {A:Around} {E:Value→Shared→Prop}
theorem getattr_ok {b:Bool} {Q:Value→Shared→Prop} (I:Inv X pins σ H s) (e:H a=some (.ins C dx fs)) (c:Cls X.K C) (n:NoAttr X.K C f) (l:fs.lookup f=some v)
  (h:∀ u s',Inv X pins σ H s'→RelV v u→Q u s'):wpAny (model X.prog X.w) A (getAttr (.ref a) f b) Q E s:=by
 obtain⟨mA,O,r,_,_,_⟩:=ins_get I.hok e
 obtain⟨u,hu,ru⟩:=RelO.some_of (v:=v) (o:=mA f) (by rw[← l]; exact r f)
 exact get_map I.kIn O (c.get f) c.hd n hu (handed_of ru) (h u _ (I.tok _) ru)
theorem getmeth_ok {m:Str} {g:Addr} {pl:Sem Bool} {Q:Value × List Value→Shared→Prop} (I:Inv X pins σ H s) (e:H a=some (.ins C dx fs)) (c:Cls X.K C) (k:Meth X.K C m g) (l:fs.lookup m=none)
  (h:Q (.ref g,[.ref a]) s):wpAny (model X.prog X.w) A (getMethod (.ref a) m pl) Q E s:=by
 obtain⟨mA,O,r,_,_,_⟩:=ins_get I.hok e
 have hn:mA m=none:=RelO.none_of (by rw[← l]; exact r m)
 exact get_meth I.kIn O (c.get m) k.at_ k.fn hn h
theorem setattr_ok {y:V} {u:Value} {Q:Unit→Shared→Prop} (I:Inv X pins σ H s) (e:H a=some (.ins C dx fs)) (c:Cls X.K C) (n:NoAttr X.K C f) (hl:fs.length < 1000) (ry:RelV y u)
  (h:∀ s',Inv X pins σ (upd H a (.ins C dx (putF f y fs))) s'→Q () s'):wpAny (model X.prog X.w) A (setAttr (.ref a) f u) Q E s:=by
 obtain⟨mA,O,r,wi,_,ho⟩:=ins_get I.hok e
 have hz:(fs.map (·.1)).length≤sizeLine:=by rw[zD,sizeLine_eq]; omega
 refine set_map I.kIn O c.sa c.po n.taker c.hd wi hz fun h' O' sb=>h _ ?_
 have hd:∃ o,h'.get? dx=some o:=let ⟨o,_,_,e',_⟩:=O'.ns; ⟨o,e'⟩
 refine I.write (x:=a) (e:=dx) (by rw[e]; exact True.intro) (.inr ho) (fun b q hb z=>(sb.2 b hb).trans z) hd ?_
 refine⟨by rw[upd_ne O.ne]; exact ho,?_,O.ne,O'.obj,_,O'.ns,fun g=>?_,fun g hg=>?_⟩
 ·have:=length_putF f y fs; omega
 ·show RelO ((putF f y fs).lookup g) (if g=f then some u else mA g)
  rw[lookup_putF]
  by_cases q:g=f
  ·rw[if_pos q,if_pos q]; exact ry
  ·rw[if_neg q,if_neg q]; exact r g
 ·by_cases q:g=f
  ·rw[q]; exact(keys_putF f y fs).1
  ·refine(keys_putF f y fs).2 g (wi g fun z=>hg ?_)
   show(if g=f then some u else mA g)=none
   rw[if_neg q]; exact z
theorem Inv.made (I:Inv X pins σ H s):Inv X pins σ (upd (upd H s.heap.objs.size (.own (s.heap.objs.size + 1))) (s.heap.objs.size + 1) (.ins C s.heap.objs.size []))
  { s with heap:=(s.heap.push PySem.W.emptyDict).push (PySem.W.instObj C s.heap.objs.size) }:=by
 have e1:(s.heap.push PySem.W.emptyDict).get? s.heap.objs.size=some PySem.W.emptyDict:=Heap.get?_push_size s.heap rfl
 have e2:((s.heap.push PySem.W.emptyDict).push (PySem.W.instObj C s.heap.objs.size)).get? (s.heap.objs.size + 1)=some (PySem.W.instObj C s.heap.objs.size):=by
  have:=Heap.get?_push_size (s.heap.push PySem.W.emptyDict) (o:=PySem.W.instObj C s.heap.objs.size) rfl
  rwa [Heap.size_push] at this
 have e3:(s.heap.push PySem.W.emptyDict).Ns s.heap.objs.size (fun _=>none):=⟨PySem.W.emptyDict,#[],_,e1,rfl,(fun e he=>absurd he (by simp)),fun _=>rfl⟩
 have I1:=I.laid (a:=s.heap.objs.size) (o:=.own (s.heap.objs.size + 1)) (h':=s.heap.push PySem.W.emptyDict) (t':=s.toks) (fun b u q=>Heap.get?_push_of_some _ q) (zI _) ⟨_,e1⟩
 refine I1.laid (a:=s.heap.objs.size + 1) (o:=.ins C s.heap.objs.size []) (t':=s.toks) (fun b u q=>Heap.get?_push_of_some _ q) (j5 (Heap.size_push _ _)) ?_
 have ne:s.heap.objs.size ≠ s.heap.objs.size + 1:=zY (jO _)
 refine⟨by rw[upd_ne ne,upd_same],z5 _,ne,e2,fun _=>none,(Heap.Ns1.of_empty e3).at fun o q=>Heap.get?_push_of_some _ q,fun _=>True.intro,fun y hy=>absurd rfl hy⟩
theorem attr_of {prog:Program} {w:World} {env:Env} {e:Expr} {f:Str} {pos:Pos} {s:Shared} {Q:Value→Shared→Prop} (hb:attributeBase e f env (eval e env)=eval e env)
  (h:wpAny (model prog w) A (eval e env) (fun o s₁=>wpAny (model prog w) A (getAttr o f true) Q E s₁) E s):wpAny (model prog w) A (eval (.Attribute e f pos) env) Q E s :=
 Attribute_any_ h (by rw[arm_eval_Attribute,hb])
end
inductive tFld_ (K:PySem.W.Frag) (f:Str) (Q:VK) (x:V) (H1:Hp):Prop where
 | mk (a C dx fs v:_) (h_0:x=.ref a) (h_1:H1 a=some (.ins C dx fs)) (h_2:Cls K C) (h_3:NoAttr K C f) (h_4:fs.lookup f=some v) (h_5:Q v H1):tFld_ K f Q x H1
def tFld (K:PySem.W.Frag) (ta:TE) (f:Str):TE:=fun σ H Q=>ta σ H fun x H1=>tFld_ K f Q x H1
inductive sFld_ (K:PySem.W.Frag) (f:Str) (D:Ends) (σ:St) (y:V) (x:V) (H2:Hp):Prop where
 | mk (a C dx fs:_) (h_0:x=.ref a) (h_1:H2 a=some (.ins C dx fs)) (h_2:Cls K C) (h_3:NoAttr K C f) (h_4:fs.length < 1000) (h_5:D.nx σ (upd H2 a (.ins C dx (putF f y fs)))):sFld_ K f D σ y x H2
def sFld (K:PySem.W.Frag) (ta tv:TE) (f:Str):TS:=fun D σ H=>tv σ H fun y H1=>ta σ H1 fun x H2=>sFld_ K f D σ y x H2
section
variable {X:Cx} {o e value:Expr} {f:Str} {pos pos' tpos:Pos} {ta tv:TE}
theorem pe_fld (he:PE X e ta) (hb:attributeBase e f X.env (eval e X.env)=eval e X.env):PE X (.Attribute e f pos) (tFld X.K ta f):=by
 intro pins s σ H Q I h
 refine attr_of hb (thn (he pins s σ H _ I h) fun u s1 ⟨x,H1,I1,rx,a,C,dx,fs,v,ex,ea,c,n,l,q⟩=>?_)
 subst ex
 obtain rfl:u=Value.ref a:=rx
 exact getattr_ok I1 ea c n l fun u' s2 I2 ru=>⟨v,H1,I2,ru,q⟩
theorem ps_fld (ha:PE X o ta) (hv:PE X value tv) (hs:swapsWith value (some (.Attribute o f pos')) pos.line X.env=pure false):PS X (.Assign [.Attribute o f pos'] value pos) (sFld X.K ta tv f):=by
 intro pins s σ H D I h
 refine plainObj_wpAny_Assign_Attribute (thn (hv pins s σ H _ I h) fun u s1 ⟨y,H1,I1,ry,q⟩=>thn (ha pins s1 σ H1 _ I1 q) fun ov s2 ⟨x,H2,I2,rx,a,C,dx,fs,ex,ea,c,n,l,q2⟩=>?_) hs
 subst ex
 obtain rfl:ov=Value.ref a:=rx
 exact setattr_ok I2 ea c n l ry fun s3 I3=>⟨σ,_,I3,q2⟩
end
section
variable {X:Cx} {pins:List (Addr × Obj)} {σ:St} {H:Hp} {s:Shared} {A:Around} {E:Value→Shared→Prop} {Q:Value→Shared→Prop} {c:Value} {b:Bool}
inductive TyOf (K:PySem.W.Frag) (H:Hp):V→Value→Prop where
 | non:TyOf K H .non (.type "NoneType")
 | bl (x:Bool):TyOf K H (.bl x) (.type "bool")
 | int (i:Int):TyOf K H (.int i) (.type "int")
 | str (x:Str):TyOf K H (.str x) (.type "str")
 | flt (x:UInt64):TyOf K H (.flt x) (.type "float")
 | lst {a:Addr} {xs:List V} (e:H a=some (.lst xs)):TyOf K H (.ref a) (.type "list")
 | frz {a:Addr} {o:Obj} {xs:List V} (e:H a=some (.frz o (.lst xs))):TyOf K H (.ref a) (.type "list")
 | tup {a:Addr} {xs:List V} (e:H a=some (.tup xs)):TyOf K H (.ref a) (.type "tuple")
 | dK {a:Addr} {kvs:List (Key × V)} (e:H a=some (.dK kvs)):TyOf K H (.ref a) (.type "dict")
 | dT {a:Addr} {kvs:List (List Key × V)} (e:H a=some (.dT kvs)):TyOf K H (.ref a) (.type "dict")
 | ins {a C dx:Addr} {fs:List (Str × V)} (e:H a=some (.ins C dx fs)) (cl:Cls K C) (ha:PySem.W.findIn K (.ref C) "__class__"=some (some (.builtin "object.__class__")))
   (hn:PySem.W.specialIn K (.builtin "object.__class__") "__get__"=some (some (.builtin "getset_descriptor.__get__"))) (htk:PySem.W.takesIn K (.builtin "object.__class__")=some true)
   (hm:PySem.W.mroIn K C (.type "object")=some true):TyOf K H (.ref a) (.ref C)
theorem isinst_ok {x:V} {u t:Value} (I:Inv X pins σ H s) (rx:RelV x u) (ty:TyOf X.K H x t) (e:PySem.W.kitOne X.K t c=some b) (h:∀ tk,Q (.bool b) { s with toks:=tk }) :
  wpAny (model X.prog X.w) A (call (.builtin "isinstance") [u,c]) Q E s:=by
 cases ty with
 | non=>cases (show u=Value.none from rx); exact PySem.W.kia_one PySem.W.kitx_none I.kIn True.intro e (fun z=>nomatch z) h
 | bl y=>cases (show u=Value.bool y from rx); exact PySem.W.kia_one PySem.W.kitx_bool I.kIn True.intro e (fun z=>nomatch z) h
 | int i=>obtain⟨t,q⟩:=(show ∃ t,u=Value.int i t from rx); cases q; exact PySem.W.kia_one PySem.W.kitx_int I.kIn True.intro e (fun z=>nomatch z) h
 | str y=>obtain⟨t,q⟩:=(show ∃ t,u=Value.str y t from rx); cases q; exact PySem.W.kia_one PySem.W.kitx_str I.kIn True.intro e (fun z=>nomatch z) h
 | flt y=>obtain⟨t,q⟩:=(show ∃ t,u=Value.float y t from rx); cases q; exact PySem.W.kia_one PySem.W.kitx_float I.kIn True.intro e (fun z=>nomatch z) h
 | @lst a xs ea =>
  cases (show u=Value.ref a from rx)
  obtain⟨_,_,n,_,h1⟩:=(show ObjOk X.prog X.w H s.heap a (.lst xs) from I.hok a _ ea)
  exact PySem.W.kia_one PySem.W.kitx_list I.kIn ⟨_,h1,rfl⟩ e (fun z=>nomatch z) h
 | @frz a ob xs ea =>
  cases (show u=Value.ref a from rx)
  obtain⟨_,_,_,n,_,h1⟩:=(show ObjOk X.prog X.w H s.heap a (.frz ob (.lst xs)) from I.hok a _ ea)
  exact PySem.W.kia_one PySem.W.kitx_list I.kIn ⟨_,h1,rfl⟩ e (fun z=>nomatch z) h
 | @tup a xs ea =>
  cases (show u=Value.ref a from rx)
  obtain⟨_,_,_,p⟩:=(show ObjOk X.prog X.w H s.heap a (.tup xs) from I.hok a _ ea)
  obtain⟨o,h1,h2,_⟩:=p
  exact PySem.W.kia_one PySem.W.kitx_tuple I.kIn ⟨o,h1,h2⟩ e (fun z=>nomatch z) h
 | @dK a kvs ea =>
  cases (show u=Value.ref a from rx)
  obtain⟨_,_,vs,_,p⟩:=(show ObjOk X.prog X.w H s.heap a (.dK kvs) from I.hok a _ ea)
  obtain⟨o,es,ep,h1,h2,_⟩:=p
  exact PySem.W.kia_one PySem.W.kitx_dict I.kIn ⟨o,h1,h2.1⟩ e (fun z=>nomatch z) h
 | @dT a kvs ea =>
  cases (show u=Value.ref a from rx)
  obtain⟨_,_,xs,_,o,es,ep,h1,h2,_⟩:=(show ObjOk X.prog X.w H s.heap a (.dT kvs) from I.hok a _ ea)
  exact PySem.W.kia_one PySem.W.kitx_dict I.kIn ⟨o,h1,h2.1⟩ e (fun z=>nomatch z) h
 | @ins a C dx fs ea cl ha hn htk hm =>
  cases (show u=Value.ref a from rx)
  obtain⟨mA,O,_⟩:=ins_get I.hok ea
  obtain⟨od,J,_⟩:=O.look
  exact PySem.W.kia_one (PySem.W.kitx_own (cl.get _) cl.hd ha hn htk hm) I.kIn J e (fun z=>nomatch z) h
end
end L2
namespace L2
open PySem PySem.Spec PyProof.Rows
structure Room (k:Nat) (A:Around):Prop where
 hd:A.handled=none
 dp:A.depth + 3 * k + 5 < recursionLimit
 un:A.units + 16 * k + 200 < cLine
theorem Room.mono {j k:Nat} {A:Around} (r:Room k A) (h:j≤k):Room j A:=⟨r.hd,by have:=r.dp; omega,by have:=r.un; omega⟩
theorem Room.deeper {k:Nat} {A:Around} (r:Room (k + 1) A) (env:Env):Room k (A.deeper env) :=
 ⟨r.hd,by have:=r.dp; show A.depth + 1 + 3 * k + 5 < _; omega,by have:=r.un; show A.units + 3 + 16 * k + 200 < _; omega⟩
theorem make_depth {A:Around} {C:Addr} {us:List Value} {kw:List (Str × Value)}:(A.under (.builtin "type.__call__" ⟨.ref C::us,kw⟩)).depth=A.depth + 1:=by
 first|rfl|simp [Around.under,Code.weight,Code.isCreation,Code.isGuard,Code.isCaller,Code.frames,Code.isFrame,guardIds]
theorem make_units {A:Around} {C:Addr} {us:List Value} {kw:List (Str × Value)}:(A.under (.builtin "type.__call__" ⟨.ref C::us,kw⟩)).units=A.units + 1:=by
 first|rfl|simp [Around.under,Code.cUnits,Code.frames,Code.isFrame]
theorem Room.make {k:Nat} {A:Around} (r:Room (k + 1) A) (C:Addr) (us:List Value) (kw:List (Str × Value)):Room k (A.under (.builtin "type.__call__" ⟨.ref C::us,kw⟩)) :=
 ⟨r.hd,by have:=r.dp; rw[make_depth]; omega,by have:=r.un; rw[make_units]; omega⟩
theorem Room.depth {k:Nat} {A:Around} (r:Room k A):A.depth < recursionLimit:=by have:=r.dp; omega
theorem Room.units {k:Nat} {A:Around} (r:Room k A):A.units + 64 < cLine:=by have:=r.un; omega
def tNil:TA:=fun _ H Q=>Q [] H
def tCons (ta:TE) (tr:TA):TA:=fun σ H Q=>ta σ H fun x H1=>tr σ H1 fun xs H2=>Q (x::xs) H2
section
variable {X:Cx} {e:Expr} {es:List Expr} {te:TE} {t:TA} {pos:Pos}
theorem pa_nil:PA X [] tNil:=fun _ _ _ _ H Q I h=>Calls.spliced_nil ⟨[],H,I,.nil,h⟩
theorem pa_cons (ha:PE X e te) (hr:PA X es t) (hs:starEach (e::es) X.env=(false,eval e X.env)::starEach es X.env:=by rfl):PA X (e::es) (tCons te t):=by
 intro pos pins s σ H Q I h
 rw[hs]
 show wpAny _ _ (spliced ((false,eval e X.env)::backTo pos (starEach es X.env))) _ _ s
 refine Calls.spliced_cons (thn (ha pins s σ H _ I h) fun u s1 ⟨x,H1,I1,r1,q1⟩=>?_)
 exact thn (hr pos pins s1 σ H1 _ I1 q1) fun us s2 ⟨xs,H2,I2,r2,q2⟩=>⟨x::xs,H2,I2,.cons r1 r2,q2⟩
def tTup (t:TA):TE:=fun σ H Q=>t σ H fun xs H1=>xs.length≤sizeLine∧∀ p,H1 p=none→Q (.ref p) (upd H1 p (.tup xs))
def tLst (t:TA):TE:=fun σ H Q=>t σ H fun xs H1=>xs.length≤sizeLine∧∀ p,H1 p=none→Q (.ref p) (upd H1 p (.lst xs))
theorem pe_tup {x1} (h:PA X es t):PE X (.Tuple es x1 pos) (tTup t):=by
 intro pins s σ H Q I hq
 refine wpAny_Tuple_spliced (thn (h pos pins s σ H _ I hq) fun us s1 ⟨xs,H1,I1,r,z,q⟩=>⟨by rw[← r.length]; exact z,?_⟩)
 have hf:H1 s1.heap.objs.size=none:=I1.hok.fresh (zI _)
 refine⟨.ref s1.heap.objs.size,upd H1 s1.heap.objs.size (.tup xs),I1.laid (t':=s1.toks) (fun b u e=>Heap.get?_push_of_some _ e) (zI _) ?_,rfl,q _ hf⟩
 exact⟨z,us,r,⟨_,Heap.get?_push_size _ rfl,rfl,_,rfl⟩⟩
theorem pe_lst (h:PA X es t):PE X (.List es pos) (tLst t):=by
 intro pins s σ H Q I hq
 refine wpAny_List_spliced (thn (h pos pins s σ H _ I hq) fun us s1 ⟨xs,H1,I1,r,z,q⟩=>⟨by rw[← r.length]; exact z,?_⟩)
 have hf:H1 s1.heap.objs.size=none:=I1.hok.fresh (zI _)
 refine⟨.ref s1.heap.objs.size,upd H1 s1.heap.objs.size (.lst xs),I1.laid (t':=s1.toks) (fun b u e=>Heap.get?_push_of_some _ e) (zI _) ?_,rfl,q _ hf⟩
 exact⟨z,us,0,r,Heap.get?_push_size _ rfl⟩
end
abbrev Sp:=List V→Hp→VK→XK→Prop
abbrev CXT:=List Env→Hp→Shared→XK→Value→Shared→Prop
structure Env0 (P:Program) (w:World) (K:PySem.W.Frag) (mg:Str→Option Value) (base:Heap) (A:Around) (outer:List Env) (s:Shared) (H:Hp):Prop where
 frames:A.frames=some outer
 mod:Mod K mg base
 bs:∀ b o,base.get? b=some o→s.heap.get? b=some o∧H b=none
 bsz:base.objs.size≤s.heap.objs.size
 funs:s.heap.FunFrames base outer
 frf:∀ b ∈ frs outer,H b=none
 hok:HOk P w H s.heap
 bare:AllBare s.gens
def CE (outer:List Env) (P:Program) (w:World) (H:Hp) (s:Shared) (Q:VK) (u:Value) (s':Shared):Prop :=
 ∃ v H',s'.os=s.os∧AllBare s'.gens∧Un (frs outer) [] H H' s.heap s'.heap∧HOk P w H' s'.heap∧RelV v u∧Q v H'
def CR (CX:CXT) (outer:List Env) (P:Program) (w:World) (H:Hp) (s:Shared) (Q:VK) (E:XK) (r:Result) (s':Shared):Prop :=
 match r with
 | .ok (.ret u)=>CE outer P w H s Q u s'
 | .ok _=>False
 | .error e=>CX outer H s E e s'
structure FnOk (P:Program) (w:World) (K:PySem.W.Frag) (mg:Str→Option Value) (base:Heap) (CX:CXT) (k:Nat) (f:Addr) (fd:FuncData) (ps:List Str) (sp:Sp):Prop where
 len:∀ vs H Q E,sp vs H Q E→vs.length=ps.length
 run:∀(A:Around) (outer:List Env) (s:Shared) (H:Hp) (args:Args) (us:List Value) (vs:List V) (Q:VK) (E:XK),Room k A→Env0 P w K mg base A outer s H→BindsTo s fd args (ps.zip us)→Vals vs us→sp vs H Q E →
  codeAny (model P w) A (.call (.ref f) args) (CR CX outer P w H s Q E) s
theorem FnOk.mono {P:Program} {w:World} {K:PySem.W.Frag} {mg:Str→Option Value} {base:Heap} {CX:CXT} {j k:Nat} {f:Addr} {fd:FuncData} {ps:List Str} {sp:Sp} (F:FnOk P w K mg base CX j f fd ps sp) (h:j≤k) :
  FnOk P w K mg base CX k f fd ps sp:=⟨F.len,fun A outer s H args us vs Q E hr=>F.run A outer s H args us vs Q E (hr.mono h)⟩
theorem FnOk.imp {P:Program} {w:World} {K:PySem.W.Frag} {mg:Str→Option Value} {base:Heap} {CX:CXT} {k:Nat} {f:Addr} {fd:FuncData} {ps:List Str} {sp sp':Sp} (F:FnOk P w K mg base CX k f fd ps sp)
  (h:∀ vs H Q E,sp' vs H Q E→sp vs H Q E):FnOk P w K mg base CX k f fd ps sp' :=
 ⟨fun vs H Q E q=>F.len vs H Q E (h _ _ _ _ q),fun A outer s H args us vs Q E hr he hb hv hs=>F.run A outer s H args us vs Q E hr he hb hv (h _ _ _ _ hs)⟩
theorem Env0.make {P:Program} {w:World} {K:PySem.W.Frag} {mg:Str→Option Value} {base:Heap} {A:Around} {outer:List Env} {s:Shared} {H:Hp} (e:Env0 P w K mg base A outer s H) (C:Addr) (us:List Value) (kw:List (Str × Value)) :
  Env0 P w K mg base (A.under (.builtin "type.__call__" ⟨.ref C::us,kw⟩)) outer s H:=⟨by first|exact e.frames|(simpa [Around.under,Code.envs,Code.isFrame,pushEnvs] using e.frames),e.mod,e.bs,e.bsz,e.funs,e.frf,e.hok,e.bare⟩
section
variable {X:Cx} {pins:List (Addr × Obj)} {σ:St} {H:Hp} {s s':Shared}
theorem Inv.env0 (I:Inv X pins σ H s):Env0 X.prog X.w X.K X.mg X.base X.A X.stack s H :=
 ⟨I.ok.frames,I.ok.mod,I.bs,z9 I.ok.bsz I.sz,I.stack,I.stkFree,I.hok,I.bare⟩
theorem Inv.after {Q:VK} {u:Value} (I:Inv X pins σ H s) (h:CE X.stack X.prog X.w H s Q u s'):EP X pins σ Q u s':=by
 obtain⟨v,H',os,bare,un,hok,r,q⟩:=h
 obtain⟨hh,g,d,t,os'⟩:=s'
 obtain rfl:os'=s.os:=os
 exact⟨v,H',I.call (h':=hh) (g':=g) (d':=d) (t':=t) (ch:=[]) un hok bare (fun b z=>absurd z (by simp)),r,q⟩
end
def tCall (sp:Sp) (dvs:List V) (E:XK) (t:TA):TE:=fun σ H Q=>t σ H fun vs H1=>sp (vs++dvs) H1 Q E
inductive tMeth_ (C:Addr) (m:Str) (sp:Sp) (dvs:List V) (E:XK) (t:TA) (σ:St) (Q:VK) (x:V) (H1:Hp):Prop where
 | mk (a dx fs:_) (h_0:x=.ref a) (h_1:H1 a=some (.ins C dx fs)) (h_2:fs.lookup m=none) (h_3:t σ H1 fun vs H2=>sp (x::(vs++dvs)) H2 Q E):tMeth_ C m sp dvs E t σ Q x H1
def tMeth (C:Addr) (m:Str) (sp:Sp) (dvs:List V) (E:XK) (ta:TE) (t:TA):TE:=fun σ H Q=>ta σ H fun x H1=>tMeth_ C m sp dvs E t σ Q x H1
def tMake (C:Addr) (sp:Sp) (dvs:List V) (E:XK) (t:TA):TE:=fun σ H Q=>t σ H fun vs H1=>∀ x dx,H1 x=none→H1 dx=none→dx ≠ x →
 sp (.ref x::(vs++dvs)) (upd (upd H1 dx (.own x)) x (.ins C dx [])) (fun v H2=>v=.non∧Q (.ref x) H2) E
def Binds (K:PySem.W.Frag) (fd:FuncData) (ps:List Str) (ds:List Value):Prop :=
 ∀(s:Shared) (us:List Value),K.In s.heap→(us++ds).length=ps.length→BindsTo s fd ⟨us,[]⟩ (ps.zip (us++ds))
theorem Binds.all {K:PySem.W.Frag} {fd:FuncData} {ps:List Str} (h:∀ us:List Value,us.length=ps.length→bindArgs fd ⟨us,[]⟩=pure (ps.zip us)):Binds K fd ps []:=fun s us _ hl=>by
 rw[zP] at hl ⊢
 exact .of_eq (h us hl)
def Passes (CX:CXT) (X:Cx) (E:XK):Prop:=∀(pins:List (Addr × Obj)) (σ:St) (H:Hp) (s:Shared) (e:Value) (s':Shared),Inv X pins σ H s→CX X.stack H s E e s'→X.xe e s'
section
variable {X:Cx} {CX:CXT} {k:Nat} {f C:Addr} {fd:FuncData} {ps:List Str} {sp:Sp} {dvs:List V} {ds:List Value} {E:XK} {x m:Str} {p pos apos:Pos} {e o:Expr} {es:List Expr} {ta:TE} {t:TA}
theorem run_fn {pins:List (Addr × Obj)} {σ:St} {H:Hp} {s:Shared} {Q:VK} {us:List Value} {vs:List V} (F:FnOk X.prog X.w X.K X.mg X.base CX k f fd ps sp) (hr:Room k X.A) (hb:Binds X.K fd ps ds) (hd:Vals dvs ds) (hx:Passes CX X E)
  (I:Inv X pins σ H s) (r:Vals vs us) (h:sp (vs++dvs) H Q E):wpAny (model X.prog X.w) X.A (call (.ref f) us) (EP X pins σ Q) X.xe s:=by
 have r2:Vals (vs++dvs) (us++ds):=r.append hd
 have hl:(us++ds).length=ps.length:=by rw[← r2.length]; exact F.len _ _ _ _ h
 refine wpAny_call (codeAny_mono (F.run X.A X.stack s H ⟨us,[]⟩ (us++ds) (vs++dvs) Q E hr I.env0 (hb s us I.kIn hl) r2 h) fun r s' hq=>?_)
 cases r with
 | error e=>exact hx pins σ H s e s' I hq
 | ok fl =>
  cases fl with
  | ret u=>exact I.after hq
  | next=>exact False.elim hq
  | brk=>exact False.elim hq
  | cont=>exact False.elim hq
theorem pe_call (F:FnOk X.prog X.w X.K X.mg X.base CX k f fd ps sp) (hr:Room k X.A) (hg:Gl X x) (hm:X.mg x=some (.ref f)) (hk:PySem.W.keepIn X.K (.ref f)=true) (hb:Binds X.K fd ps ds) (hd:Vals dvs ds) (hx:Passes CX X E)
  (ha:PA X (e::es) t) (hdb:(x == ("__debug__":Str))=false:=by decide) (he:starEach (e::es) X.env=(false,eval e X.env)::starEach es X.env:=by rfl) (hpl:(backTo pos (starEach es X.env)).any (·.1)=false:=by rfl) :
  PE X (.Call (.Name x p) (e::es) [] pos) (tCall sp dvs E t):=by
 intro pins s σ H Q I h
 refine wpAny_Call_Name_kw (ld_glob I hg hm ?_ hdb)
 refine PySem.W.callWith_K (h₀:=X.base) I.ok.mod.kin hk (thn (ha pos pins s σ H _ I h) fun us s1 ⟨vs,H1,I1,r,q⟩=>⟨I1.kIn,?_⟩) he hpl
 exact run_fn F hr hb hd hx I1 r q
theorem pe_meth {pl:Sem Bool} (he:PE X o ta) (c:Cls X.K C) (hm:Meth X.K C m f) (F:FnOk X.prog X.w X.K X.mg X.base CX k f fd ps sp) (hr:Room k X.A) (hb:Binds X.K fd ps ds) (hd:Vals dvs ds) (hx:Passes CX X E) (ha:PA X (e::es) t)
  (hst:starEach (e::es) X.env=(false,eval e X.env)::starEach es X.env:=by rfl) (hpl:(backTo pos (starEach es X.env)).any (·.1)=false:=by rfl)
  (ht:eval (.Call (.Attribute o m apos) (e::es) [] pos) X.env=(do
   let ov ← eval o X.env
   standAt apos.atName
   let (f,first) ← holding [ov] (getMethod ov m pl)
   callWith pos f first (backTo pos (starEach (e::es) X.env)) (backToKw pos (keywordEach [] X.env))):=by rfl) :
  PE X (.Call (.Attribute o m apos) (e::es) [] pos) (tMeth C m sp dvs E ta t):=by
 intro pins s σ H Q I h
 refine PySem.W.methodCall_KW (pl:=pl) (thn (he pins s σ H _ I h) fun u s1 ⟨x,H1,I1,rx,a,dx,fs,ex,ea,l,q⟩=>?_) ht
 subst ex
 obtain rfl:u=Value.ref a:=rx
 refine getmeth_ok I1 ea c hm l ?_
 refine PySem.W.callWith_K (first:=[.ref a]) (h₀:=X.base) I.ok.mod.kin hm.kp (thn (ha pos pins s1 σ H1 _ I1 q) fun us s2 ⟨vs,H2,I2,r,q2⟩=>⟨I2.kIn,?_⟩) hst hpl
 exact run_fn (us:=.ref a::us) (vs:=.ref a::vs) F hr hb hd hx I2 (.cons rfl r) q2
structure Mk (K:PySem.W.Frag) (C f:Addr):Prop where
 makes:PySem.W.makesIn K C=true
 init:PySem.W.findIn K (.ref C) "__init__"=some (some (.ref f))
 fn:PySem.W.isFn K (.ref f)=true
 kp:PySem.W.keepIn K (.ref C)=true
theorem run_make {pins:List (Addr × Obj)} {σ:St} {H:Hp} {s:Shared} {Q:VK} {us:List Value} {vs:List V} (M:Mk X.K C f) (F:FnOk X.prog X.w X.K X.mg X.base CX k f fd ps sp) (hr:Room (k + 1) X.A) (hb:Binds X.K fd ps ds) (hd:Vals dvs ds)
  (hx:Passes CX X E) (I:Inv X pins σ H s) (r:Vals vs us)
  (h:∀ x dx,H x=none→H dx=none→dx ≠ x→sp (.ref x::(vs++dvs)) (upd (upd H dx (.own x)) x (.ins C dx [])) (fun v H2=>v=.non∧Q (.ref x) H2) E) :
  wpAny (model X.prog X.w) X.A (call (.ref C) us) (EP X pins σ Q) X.xe s:=by
 have hq:=h (s.heap.objs.size + 1) s.heap.objs.size (I.hok.fresh (y3 _)) (I.hok.fresh (zI _)) (zY (jO _))
 have I2:=Inv.made (C:=C) I
 have r2:Vals (V.ref (s.heap.objs.size + 1)::(vs++dvs)) (Value.ref (s.heap.objs.size + 1)::(us++ds)):=.cons rfl (r.append hd)
 have hl:(Value.ref (s.heap.objs.size + 1)::us++ds).length=ps.length:=by
  have e:=r2.length
  rw[F.len _ _ _ _ hq] at e
  exact e.symm
 refine wpAny_call (make_map (f:=f) I.kIn M.makes M.init (beq_iff_eq.mp M.fn) (codeAny_mono (F.run _ X.stack _ _ ⟨Value.ref (s.heap.objs.size + 1)::us,[]⟩ (Value.ref (s.heap.objs.size + 1)::(us++ds)) _ _ E (hr.make C us [])
  (I2.env0.make C us []) (hb _ (Value.ref (s.heap.objs.size + 1)::us) I2.kIn hl) r2 hq) fun r s' hq'=>?_))
 cases r with
 | error e=>exact hx pins σ _ _ e s' I2 hq'
 | ok fl =>
  cases fl with
  | ret u =>
   obtain⟨v,H',I3,rv,ev,q3⟩:=I2.after hq'
   subst ev
   exact⟨rv,⟨V.ref (s.heap.objs.size + 1),H',I3,rfl,q3⟩⟩
  | next=>exact False.elim hq'
  | brk=>exact False.elim hq'
  | cont=>exact False.elim hq'
theorem pe_make (M:Mk X.K C f) (F:FnOk X.prog X.w X.K X.mg X.base CX k f fd ps sp) (hr:Room (k + 1) X.A) (hg:Gl X x) (hm:X.mg x=some (.ref C)) (hb:Binds X.K fd ps ds) (hd:Vals dvs ds) (hx:Passes CX X E)
  (ha:PA X (e::es) t) (hdb:(x == ("__debug__":Str))=false:=by decide) (he:starEach (e::es) X.env=(false,eval e X.env)::starEach es X.env:=by rfl) (hpl:(backTo pos (starEach es X.env)).any (·.1)=false:=by rfl) :
  PE X (.Call (.Name x p) (e::es) [] pos) (tMake C sp dvs E t):=by
 intro pins s σ H Q I h
 refine wpAny_Call_Name_kw (ld_glob I hg hm ?_ hdb)
 refine PySem.W.callWith_K (h₀:=X.base) I.ok.mod.kin M.kp (thn (ha pos pins s σ H _ I h) fun us s1 ⟨vs,H1,I1,r,q⟩=>⟨I1.kIn,?_⟩) he hpl
 exact run_make M F hr hb hd hx I1 r q
end
section
variable {X:Cx} {CX:CXT} {k:Nat} {f C:Addr} {fd:FuncData} {ps ks:List Str} {sp:Sp} {E:XK} {x m:Str} {p pos apos kpos:Pos} {e o:Expr} {es:List Expr} {kws:List Keyword} {te ta:TE} {t tk:TA} {nm:Option Str}
variable {g:List Value→List Value→List Value} {gV:List V→List V→List V}
end
structure FnScope (N P:List Str) (sc:Scope):Prop where
 kind:sc.kind=.function
 co:sc.isCoroutine=false
 gen:sc.isGenerator=false
 nd:N.Nodup
 pre:N.take P.length=P
 par:∀ x ∈ P,sc.names.lookup x=some .local∨sc.names.lookup x=some .cell
 nofree:∀ y ∈ sc.names,y.2 ≠ .free
theorem bindL_out {kindOf:Str→Option NameKind} {x:Str}:∀ {binds:List (Str × Value)} {m:Str→Option Value},(∀ v,(x,v) ∉ binds)→bindL kindOf binds m x=m x
 | [],_,_=>rfl
 | (n,v)::r,m,h=>by
  unfold bindL
  rw[bindL_out fun w hw=>h w (zJ _ hw)]
  split
  ·have:x ≠ n:=by rintro rfl; exact h v zH
   simp [this]
  ·rfl
theorem bindC_out {kindOf:Str→Option NameKind} {x:Str}:∀ {binds:List (Str × Value)} {m:Str→Option Value},(∀ v,(x,v) ∉ binds)→bindC kindOf binds m x=m x
 | [],_,_=>rfl
 | (n,v)::r,m,h=>by
  unfold bindC
  rw[bindC_out fun w hw=>h w (zJ _ hw)]
  split
  ·rfl
  ·have:x ≠ n:=by rintro rfl; exact h v zH
   simp [this]
theorem bindL_get {kindOf:Str→Option NameKind} {x:Str} {v:Value}:∀ {P:List Str} {vs:List Value} {i:Nat} {m:Str→Option Value},P.Nodup→P[i]?=some x→vs[i]?=some v→kindOf x=some .local →
  bindL kindOf (P.zip vs) m x=some v
 | [],_,_,_,_,h,_,_=>by simp at h
 | _::_,[],_,_,_,_,h,_=>by simp at h
 | p::P,w::vs,0,m,nd,h1,h2,hk=>by
  simp at h1 h2; subst h1; subst h2
  show bindL kindOf ((p,w)::P.zip vs) m p=_
  unfold bindL
  rw[bindL_out fun v hv=>(qA.mp nd).1 (q9 hv).1,if_pos hk]
  simp
 | p::P,w::vs,i + 1,m,nd,h1,h2,hk=>by
  show bindL kindOf ((p,w)::P.zip vs) m x=_
  unfold bindL
  exact bindL_get (i:=i) (qA.mp nd).2 (by simpa using h1) (by simpa using h2) hk
theorem bindC_get {kindOf:Str→Option NameKind} {x:Str} {v:Value}:∀ {P:List Str} {vs:List Value} {i:Nat} {m:Str→Option Value},P.Nodup→P[i]?=some x→vs[i]?=some v→kindOf x ≠ some .local →
  bindC kindOf (P.zip vs) m x=some v
 | [],_,_,_,_,h,_,_=>by simp at h
 | _::_,[],_,_,_,_,h,_=>by simp at h
 | p::P,w::vs,0,m,nd,h1,h2,hk=>by
  simp at h1 h2; subst h1; subst h2
  show bindC kindOf ((p,w)::P.zip vs) m p=_
  unfold bindC
  rw[bindC_out fun v hv=>(qA.mp nd).1 (q9 hv).1,if_neg hk]
  simp
 | p::P,w::vs,i + 1,m,nd,h1,h2,hk=>by
  show bindC kindOf ((p,w)::P.zip vs) m x=_
  unfold bindC
  exact bindC_get (i:=i) (qA.mp nd).2 (by simpa using h1) (by simpa using h2) hk
def start (N:List Str) (vs:List V):St:=vs.map some++List.replicate (N.length - vs.length) none
def cxOf (CX:CXT) (P:Program) (w:World) (K:PySem.W.Frag) (mg:Str→Option Value) (base:Heap) (N:List Str) (qual:Str) (scope:Scope) (f:Addr) (cd:Value) (A:Around) (outer:List Env) (s:Shared) (H:Hp) (E:XK):Cx where
 prog:=P
 w:=w
 K:=K
 mg:=mg
 base:=base
 A:=A.deeper (envOfC qual scope s.heap.objs.size f cd)
 N:=N
 s₀:=s
 H₀:=H
 env:=envOfC qual scope s.heap.objs.size f cd
 outer:=outer
 stack:=envOfC qual scope s.heap.objs.size f cd::outer
 ex:=[]
 calm:=true
 fn:=fun _=>true
 pn:=[]
 xe:=fun e s'=>wpAny (model P w) (A.deeper (envOfC qual scope s.heap.objs.size f cd)) (leaving (envOfC qual scope s.heap.objs.size f cd) e) (fun _ s''=>CX outer H s E e s'') (fun e' s''=>CX outer H s E e' s'') s'
theorem cell_has {sc:Scope} {n:Nat} {x:Str} (h:sc.names.lookup x=some .cell):∃ c,(cellsFrom n sc.names []).lookup x=some c:=by
 have q:=PySem.W.cellsFrom_some sc.names n [] (.inl h)
 exact jL.mp q
theorem inv_start {CX:CXT} {P:Program} {w:World} {K:PySem.W.Frag} {mg:Str→Option Value} {base:Heap} {N ps:List Str} {qual:Str} {scope:Scope} {f:Addr} {cd:Value} {A:Around} {outer:List Env} {s s1:Shared} {H:Hp} {E:XK} {us:List Value} {vs:List V}
  (S:FnScope N ps scope) (hd:A.handled=none) (e0:Env0 P w K mg base A outer s H) (hl:vs.length=ps.length) (r:Vals vs us)
  (x:InCallC s s.heap.objs.size (bindL (envOfC qual scope s.heap.objs.size f cd).kindOf (ps.zip us) fun _=>none) (cellsFrom (s.heap.objs.size + 1) scope.names []) (bindC (envOfC qual scope s.heap.objs.size f cd).kindOf (ps.zip us) fun _=>none) s1) :
  Inv (cxOf CX P w K mg base N qual scope f cd A outer s H E) [] (start N vs) H s1:=by
 have hpl:ps.length≤N.length:=by have:=congrArg List.length S.pre; rw[yA] at this; omega
 obtain⟨h1,tk,rfl,hk⟩:=x.done
 have noA:∀ b:Addr,b ∉ (cxOf CX P w K mg base N qual scope f cd A outer s H E).ex:=fun b z=>absurd (show b ∈ ([]:List Addr) from z) (by simp)
 refine⟨⟨e0.mod,S.kind,rfl,rfl,zI _,fun y z c h1 h2=>?_,fun y hy=>?_,fun y c _ h=>?_,fun _=>hd,Around.frames_deeper e0.frames,.inr ⟨rfl,rfl⟩,fun b z=>absurd z (noA b),e0.bs,e0.bsz,fun b _ _=>noA b,fun b z=>absurd z (noA b),e0.funs,e0.frf⟩,
  rfl,e0.bare,Un.kept hk,⟨_,x.toInCall.ns,fun i y v h1 h2 h3=>?_⟩,fun y c h=>⟨_,x.cell y c h⟩,e0.hok.fresh (zI _),fun y c h=>?_,fun p hp=>absurd (show p ∈ ([]:List (Addr × Obj)) from hp) (by simp),e0.hok.kept hk,?_⟩
 ·exact name_of_addr x.apart (PySem.mem_of_lookup h1) (PySem.mem_of_lookup h2)
 ·have hy:scope.names.lookup y=some .cell∨scope.names.lookup y=some .free:=hy
  rcases hy with hy|hy
  ·exact cell_has hy
  ·exact absurd rfl (S.nofree _ (PySem.mem_of_lookup hy))
 ·exact qB (x.above y c (PySem.mem_of_lookup h))
 ·have hi:i < vs.length:=by
   unfold start at h2
   by_cases hi:i < vs.length
   ·exact hi
   ·rw[zQ (by simpa using hi)] at h2
    rw[List.getElem?_replicate] at h2
    split at h2 <;> cases h2
  have ha:vs[i]?=some v:=by
   unfold start at h2
   rw[yI (by simpa using hi),zF] at h2
   cases e:vs[i]? with
   | none=>rw[e] at h2; cases h2
   | some a=>rw[e] at h2; cases h2; rfl
  obtain⟨u,hu,rv⟩:=r.get ha
  have hp:ps[i]?=some y:=by
   rw[← S.pre,kU (by omega)]; exact h1
  have ndP:ps.Nodup:=by rw[← S.pre]; exact S.nd.sublist (List.take_sublist _ _)
  refine⟨u,rv,?_⟩
  rcases S.par y (zE hp) with k|k
  ·exact .inl ⟨k,bindL_get ndP hp hu k⟩
  ·obtain⟨c,e⟩:=cell_has (n:=s.heap.objs.size + 1) k
   refine .inr ⟨.inl k,c,e,?_⟩
   have q:=x.cell y c e
   rw[bindC_get ndP hp hu (by show scope.names.lookup y ≠ _; rw[k]; decide)] at q
   exact q
 ·exact e0.hok.fresh (qB (x.above y c (PySem.mem_of_lookup h)))
 ·unfold start
  show _=N.length
  rw[zM,zD,List.length_replicate]
  omega
theorem fn_of {CX:CXT} {P:Program} {w:World} {K:PySem.W.Frag} {mg:Str→Option Value} {base:Heap} {k:Nat} {f:Addr} {name qual:Str} {params:Arguments} {body:List Stmt} {scope:Scope} {dV kV doc pm cdv ct oc:Value} {an od:Option Addr}
  {osl:Array (Option Value)} {N ps:List Str} {sp:Sp} (lk:K.lookup f=some ⟨oc,od,.func (PySem.W.fnOf name qual params body scope dV kV doc pm an cdv ct),osl⟩) (hcd:PySem.W.codeIn K cdv qual=true) (S:FnScope N ps scope)
  (len:∀ vs H Q E,sp vs H Q E→vs.length=ps.length)
  (hbody:∀(A:Around) (outer:List Env) (s:Shared) (H:Hp) (vs:List V) (Q:VK) (E:XK),Room k (A.deeper (envOfC qual scope s.heap.objs.size f cdv))→sp vs H Q E →
   ∃ t,PSs (cxOf CX P w K mg base N qual scope f cdv A outer s H E) body t∧t { nx:=fun _ H'=>Q .non H',rt:=Q } (start N vs) H) :
  FnOk P w K mg base CX (k + 1) f (PySem.W.fnOf name qual params body scope dV kV doc pm an cdv ct) ps sp:=by
 refine⟨len,fun A outer s H args us vs Q E hr e0 hb r hsp=>?_⟩
 have hl:=len _ _ _ _ hsp
 have KX:K.In s.heap:=e0.mod.kin.keeps fun b o e=>(e0.bs b o e).1
 have lim:s.heap.NoLimit:=e0.mod.nolimit.keeps fun b o e=>(e0.bs b o e).1
 have hkind:∀ y ∈ ps.zip us,scope.names.lookup y.1=some .local∨(scope.names.lookup y.1=some .cell∧((cellsFrom (s.heap.objs.size + 1) scope.names []).lookup y.1).isSome=true):=fun⟨n,v⟩ hy=>by
  rcases S.par n (q9 hy).1 with q|q
  ·exact .inl q
  ·exact .inr ⟨q,PySem.W.cellsFrom_some _ _ _ (.inl q)⟩
 refine codeAny_call_function hr.depth (KX _ _ lk) rfl S.co S.gen rfl (PySem.W.codeRec_of KX hcd) (hb _ _ _ _ ?_)
 refine wpAny_newFunctionEnv_cells S.kind hkind fun env he s1 x=>?_
 subst he
 refine⟨lim.keeps x.toInCall.keep,codeAny_func ?_⟩
 obtain⟨t,ht,hq⟩:=hbody A outer s H vs Q E (hr.deeper _) hsp
 have I:Inv (cxOf CX P w K mg base N qual scope f cdv A outer s H E) [] (start N vs) H s1:=inv_start S hr.hd e0 hl r x
 refine wpAny_mono (ht [] s1 (start N vs) H _ I hq) (fun fl s' hs=>?_) fun e s' hs=>hs
 have fin:∀ {σ':St} {H':Hp} {v:V} {u:Value},Inv (cxOf CX P w K mg base N qual scope f cdv A outer s H E) [] σ' H' s'→RelV v u→Q v H'→CE outer P w H s Q u s' :=
  fun {σ' H' v u} J rv q=>⟨v,H',J.os,J.bare,J.base,J.hok,rv,q⟩
 cases fl with
 | ret u =>
  obtain⟨v,σ',H',J,rv,q⟩:=hs
  exact fin J rv q
 | next =>
  obtain⟨σ',H',J,q⟩:=hs
  exact fin (v:=V.non) (u:=Value.none) J rfl q
 | brk =>
  obtain⟨_,_,_,q⟩:=hs
  exact False.elim q
 | cont =>
  obtain⟨_,_,_,q⟩:=hs
  exact False.elim q
end L2
namespace L2
open PySem PySem.Spec PyProof.Rows
section
variable {X:Cx} {x:Str} {p pos:Pos} {e:Expr} {es:List Expr} {t:TA} {id T:String} {r:List V→Hp→VK→Prop}
def tCB (r:List V→Hp→VK→Prop) (t:TA):TE:=fun σ H Q=>t σ H fun vs H1=>r vs H1 Q
theorem pe_callB (hc:CallR X (.builtin id) r) (hg:Gl X x) (hm:X.mg x=none) (hv:bootBuiltins x=some (.builtin id)) (ha:PA X (e::es) t) (hn:x ≠ "__name__":=by decide) (hdb:(x == ("__debug__":Str))=false:=by decide)
  (he:starEach (e::es) X.env=(false,eval e X.env)::starEach es X.env:=by rfl) (hpl:(backTo pos (starEach es X.env)).any (·.1)=false:=by rfl):PE X (.Call (.Name x p) (e::es) [] pos) (tCB r t):=by
 intro pins s σ H Q I h
 refine wpAny_Call_Name_kw (ld_blt I hg hm hv ?_ hn hdb)
 exact PyProof.Rows.callWith_builtin1 (thn (ha pos pins s σ H _ I h) fun us s1 ⟨vs,H1,I1,r1,q1⟩=>hc pins s1 σ H1 vs us Q I1 r1 q1) he hpl
theorem pe_callTy (hc:CallR X (.type T) r) (hg:Gl X x) (hm:X.mg x=none) (hv:bootBuiltins x=some (.type T)) (ha:PA X (e::es) t) (hn:x ≠ "__name__":=by decide) (hdb:(x == ("__debug__":Str))=false:=by decide)
  (he:starEach (e::es) X.env=(false,eval e X.env)::starEach es X.env:=by rfl) (hpl:(backTo pos (starEach es X.env)).any (·.1)=false:=by rfl):PE X (.Call (.Name x p) (e::es) [] pos) (tCB r t):=by
 intro pins s σ H Q I h
 refine wpAny_Call_Name_kw (ld_blt I hg hm hv ?_ hn hdb)
 exact PyProof.Rows.callWith_type1 (thn (ha pos pins s σ H _ I h) fun us s1 ⟨vs,H1,I1,r1,q1⟩=>hc pins s1 σ H1 vs us Q I1 r1 q1) he hpl
end
end L2
namespace L2
open PySem PySem.Spec PyProof.Rows
section
variable {κ:Type} [DecidableEq κ]
def valV (kvs:List (κ × V)) (k:κ):Option V:=(kvs.find? fun kv=>decide (kv.1=k)).map (·.2)
def putK (kvs:List (κ × V)) (k:κ) (v:V):List (κ × V) :=
 if (kvs.any fun kv=>decide (kv.1=k))=true then kvs.map (fun kv=>if kv.1=k then (kv.1,v) else kv) else kvs++[(k,v)]
theorem valV_pos {p:κ × V} {r:List (κ × V)} {k:κ} (e:p.1=k):valV (p::r) k=some p.2:=by simp [valV,jA,e]
theorem valV_neg {p:κ × V} {r:List (κ × V)} {k:κ} (e:¬ p.1=k):valV (p::r) k=valV r k:=by simp [valV,jA,e]
theorem valV_any (k:κ):∀ kvs:List (κ × V),(kvs.any fun kv=>decide (kv.1=k))=(valV kvs k).isSome
 | []=>rfl
 | p::r=>by
  rw[jM]
  by_cases e:p.1=k
  ·simp only [valV_pos e,decide_eq_true e,Bool.true_or,Option.isSome_some]
  ·rw[valV_neg e,decide_eq_false e,Bool.false_or]; exact valV_any k r
theorem length_putK (kvs:List (κ × V)) (k:κ) (v:V):(putK kvs k v).length≤kvs.length + 1:=by
 unfold putK
 split
 ·rw[zD]; omega
 ·rw[zM,zX,qR]; omega
theorem putK_new {kvs:List (κ × V)} {k:κ} (v:V) (h:valV kvs k=none):putK kvs k v=kvs++[(k,v)]:=by
 unfold putK
 rw[valV_any,h]
 exact if_neg (by decide)
theorem RelO.isSome_eq {o:Option V} {u:Option Value} (r:RelO o u):o.isSome=u.isSome:=by
 cases o with
 | none=>cases u with
  | none=>rfl
  | some _=>exact(show False from r).elim
 | some _=>cases u with
  | none=>exact(show False from r).elim
  | some _=>rfl
theorem KV.val {kvs:List (κ × V)} {vs:List (κ × Value)} (r:KV kvs vs) (k:κ):RelO (valV kvs k) (valueAt vs k):=by
 unfold KV at r
 induction r with
 | nil=>exact True.intro
 | @cons p q ps qs h t ih =>
  obtain⟨h1,h2⟩:=h
  by_cases e:p.1=k
  ·have e':q.1=k:=h1.symm.trans e
   have b:valueAt (q::qs) k=some q.2:=by simp [valueAt,jA,e']
   rw[valV_pos e,b]; exact h2
  ·have e':¬ q.1=k:=fun z=>e (h1.trans z)
   have b:valueAt (q::qs) k=valueAt qs k:=by simp [valueAt,jA,e']
   rw[valV_neg e,b]; exact ih
theorem KV.any {kvs:List (κ × V)} {vs:List (κ × Value)} (r:KV kvs vs) (k:κ):(kvs.any fun kv=>decide (kv.1=k))=vs.any fun kv=>decide (kv.1=k):=by
 unfold KV at r
 induction r with
 | nil=>rfl
 | cons h t ih=>rw[jM,jM,ih,h.1]
theorem KV.repl {kvs:List (κ × V)} {vs:List (κ × Value)} (r:KV kvs vs) (k:κ) {y:V} {u:Value} (ry:RelV y u) :
  KV (kvs.map fun kv=>if kv.1=k then (kv.1,y) else kv) (vs.map fun kv=>if kv.1=k then (kv.1,u) else kv):=by
 unfold KV at r ⊢
 induction r with
 | nil=>exact .nil
 | @cons p q ps qs h t ih =>
  rw[yG,yG]
  refine .cons ?_ ih
  obtain⟨h1,h2⟩:=h
  by_cases e:p.1=k
  ·rw[if_pos e,if_pos (h1.symm.trans e)]; exact⟨h1,ry⟩
  ·rw[if_neg e,if_neg (fun z=>e (h1.trans z))]; exact⟨h1,h2⟩
theorem KV.put {kvs:List (κ × V)} {vs:List (κ × Value)} (r:KV kvs vs) (k:κ) {y:V} {u:Value} (ry:RelV y u):KV (putK kvs k y) (stored vs k u):=by
 unfold putK stored
 rw[r.any k]
 by_cases e:(vs.any fun kv=>decide (kv.1=k))=true
 ·rw[if_pos e,if_pos e]; exact r.repl k ry
 ·rw[if_neg e,if_neg e]; exact Paired.snoc r ⟨rfl,ry⟩
theorem KV.length {kvs:List (κ × V)} {vs:List (κ × Value)} (r:KV kvs vs):kvs.length=vs.length:=Paired.length r
end
theorem kV_is {P:Program} {w:World} {k:Key} {u:Value} (r:RelV (kV k) u):(mixKind P w).is k u=true:=by
 cases k with
 | inl i=>obtain⟨t,e⟩:=(show ∃ t,u=Value.int i t from r); subst e; exact mixKind_int P w i t
 | inr x=>obtain⟨t,e⟩:=(show ∃ t,u=Value.str x t from r); subst e; exact mixKind_str P w x t
theorem items_are {P:Program} {w:World}:∀ {ks:List Key} {us:List Value},Vals (ks.map kV) us→ItemsAre (mixKind P w) ks us
 | [],_,r=>by rw[qX] at r; cases r; exact .nil
 | k::ks,_,r=>by
  rw[yG] at r
  cases r with
  | cons h t=>exact .cons (kV_is h) (items_are t)
abbrev KT (H:Hp):List (List Key × V)→List (List Key × Addr × Value)→Prop:=Paired fun p q=>p.1=q.1∧H q.2.1=some (.tup (p.1.map kV))∧RelV p.2 q.2.2
theorem KT.val {H:Hp} {kvs:List (List Key × V)} {xs:List (List Key × Addr × Value)} (r:KT H kvs xs) (k:List Key):RelO (valV kvs k) ((atKey xs k).map (·.2)):=by
 induction r with
 | nil=>exact True.intro
 | @cons p q ps qs h t ih =>
  obtain⟨h1,_,h2⟩:=h
  by_cases e:p.1=k
  ·have e':q.1=k:=h1.symm.trans e
   have b:atKey (q::qs) k=some q.2:=by simp [atKey,jA,e']
   rw[valV_pos e,b]; exact h2
  ·have e':¬ q.1=k:=fun z=>e (h1.trans z)
   have b:atKey (q::qs) k=atKey qs k:=by simp [atKey,jA,e']
   rw[valV_neg e,b]; exact ih
theorem KT.repl {H:Hp} {kvs:List (List Key × V)} {xs:List (List Key × Addr × Value)} (r:KT H kvs xs) (k:List Key) {y:V} {u:Value} (ry:RelV y u) :
  KT H (kvs.map fun kv=>if kv.1=k then (kv.1,y) else kv) (xs.map (putAt k u)):=by
 induction r with
 | nil=>exact .nil
 | @cons p q ps qs h t ih =>
  rw[yG,yG]
  refine .cons ?_ ih
  obtain⟨h1,h2,h3⟩:=h
  unfold putAt
  by_cases e:p.1=k
  ·rw[if_pos e,if_pos (h1.symm.trans e)]; exact⟨h1,h2,ry⟩
  ·rw[if_neg e,if_neg (fun z=>e (h1.trans z))]; exact⟨h1,h2,h3⟩
theorem KT.put {H:Hp} {kvs:List (List Key × V)} {xs:List (List Key × Addr × Value)} (r:KT H kvs xs) (k:List Key) {b:Addr} {y:V} {u:Value} (hb:H b=some (.tup (k.map kV))) (ry:RelV y u) :
  KT H (putK kvs k y) (storedH xs k b u):=by
 have e:(kvs.any fun kv=>decide (kv.1=k))=(atKey xs k).isSome:=by
  rw[valV_any,(r.val k).isSome_eq,Option.isSome_map]
 unfold putK storedH
 rw[e]
 by_cases q:(atKey xs k).isSome=true
 ·rw[if_pos q,if_pos q]; exact r.repl k ry
 ·rw[if_neg q,if_neg q]; exact Paired.snoc r ⟨rfl,hb,ry⟩
theorem KT.keeps {H H':Hp} {kvs:List (List Key × V)} {xs:List (List Key × Addr × Value)} (r:KT H kvs xs) (ht:∀ b ys,H b=some (.tup ys)→H' b=some (.tup ys)):KT H' kvs xs :=
 Paired.mapP r fun _ _ z=>⟨z.1,ht _ _ z.2.1,z.2.2⟩
section
variable {P:Program} {w:World} {H:Hp} {h:Heap} {a:Addr}
theorem rd_of {u:HO} (ok:HOk P w H h) (e:Rd H a u):ObjOk P w H h a u:=e.ok ok
theorem dk_rd {kvs:List (Key × V)} (ok:HOk P w H h) (e:Rd H a (.dK kvs)):kvs.length≤sizeLine∧(a == sysModules)=false∧∃ vs,KV kvs vs∧h.DictOf (mixKind P w) a vs :=
 show ObjOk P w H h a (.dK kvs) from rd_of ok e
theorem dk_of {kvs:List (Key × V)} (ok:HOk P w H h) (e:H a=some (.dK kvs)):kvs.length≤sizeLine∧(a == sysModules)=false∧∃ vs,KV kvs vs∧h.DictOf (mixKind P w) a vs:=dk_rd ok (.inl e)
theorem key_of {ks:List Key} (ok:HOk P w H h) (e:H a=some (.tup (ks.map kV))):(tupleKind (mixKind P w)).is h ks a:=by
 obtain⟨_,its,r,o,h1,h2,n,h3⟩:=(show ObjOk P w H h a (.tup (ks.map kV)) from ok a _ e)
 exact⟨o,its.toArray,n,h1,h2,h3,by simpa using items_are r⟩
theorem dt_rd {kvs:List (List Key × V)} (ok:HOk P w H h) (e:Rd H a (.dT kvs)):kvs.length≤sizeLine∧(a == sysModules)=false ∧
  ∃ xs,KT H kvs xs∧h.DictOfH (tupleKind (mixKind P w)) a xs:=by
 obtain⟨z,y,xs,r,o,es,ep,h1,h2,h3,h4,h5⟩:=(show ObjOk P w H h a (.dT kvs) from rd_of ok e)
 refine⟨z,y,xs,r,o,es,ep,h1,h2,h3,h4,fun x hx=>?_,h5⟩
 have all:∀ {l:List (List Key × V)} {m:List (List Key × Addr × Value)},KT H l m→∀ x ∈ m,(tupleKind (mixKind P w)).is h x.1 x.2.1:=by
  intro l m q
  induction q with
  | nil=>intro x hx; exact nomatch hx
  | @cons p q ps qs hq t ih =>
   intro x hx
   rcases zS.mp hx with e|hx
   ·subst e
    exact key_of ok (by rw[← hq.1]; exact hq.2.1)
   ·exact ih x hx
 exact all r x hx
theorem dt_of {kvs:List (List Key × V)} (ok:HOk P w H h) (e:H a=some (.dT kvs)):kvs.length≤sizeLine∧(a == sysModules)=false ∧
  ∃ xs,KT H kvs xs∧h.DictOfH (tupleKind (mixKind P w)) a xs:=dt_rd ok (.inl e)
end
def DGet (H:Hp) (a:Addr) (y:V) (r:Option V):Prop :=
 (∃ kvs k,Rd H a (.dK kvs)∧y=kV k∧r=valV kvs k)∨∃ kvs k b,Rd H a (.dT kvs)∧y=.ref b∧H b=some (.tup (k.map kV))∧r=valV kvs k
def DPut (H:Hp) (a:Addr) (y v:V) (H':Hp):Prop :=
 (∃ kvs k,H a=some (.dK kvs)∧y=kV k∧kvs.length < sizeLine∧H'=upd H a (.dK (putK kvs k v))) ∨
 ∃ kvs k b,H a=some (.dT kvs)∧y=.ref b∧H b=some (.tup (k.map kV))∧kvs.length < sizeLine∧H'=upd H a (.dT (putK kvs k v))
theorem DGet.k {H:Hp} {a:Addr} {kvs:List (Key × V)} {k:Key} (e:H a=some (.dK kvs)):DGet H a (kV k) (valV kvs k):=.inl ⟨kvs,k,.inl e,rfl,rfl⟩
theorem DPut.k {H:Hp} {a:Addr} {kvs:List (Key × V)} {k:Key} {v:V} (e:H a=some (.dK kvs)) (hl:kvs.length < sizeLine):DPut H a (kV k) v (upd H a (.dK (putK kvs k v))):=.inl ⟨kvs,k,e,rfl,hl,rfl⟩
section
variable {X:Cx} {pins:List (Addr × Obj)} {σ:St} {H:Hp} {s:Shared} {a:Addr} {y v:V} {u r:Value} {o:Option V} {A:Around} {E:Value→Shared→Prop}
theorem Inv.big (I:Inv X pins σ H s):sysModules < s.heap.objs.size:=by
 have h:mainGlobals < s.heap.objs.size:=(I.mod.glob.keeps I.bk).lt
 exact kZ (by decide) h
theorem d_getItem {Q:Value→Shared→Prop} (hu:A.units + 1 < cLine) (I:Inv X pins σ H s) (g:DGet H a y (some v)) (ry:RelV y u) (h:∀ w' s',Inv X pins σ H s'→RelV v w'→Q w' s') :
  wpAny (model X.prog X.w) A (getItem (.ref a) u) Q E s:=by
 rcases g with ⟨kvs,k,e,ey,l⟩|⟨kvs,k,b,e,ey,eb,l⟩
 ·subst ey
  obtain⟨z,hd,vs,rel,dd⟩:=dk_rd I.hok e
  obtain⟨w',hw,rw'⟩:=RelO.some_of (v:=v) (o:=valueAt vs k) (by rw[l]; exact rel.val k)
  exact wpAny_getItem_of (kV_is ry) dd.mapOf hw (h w' _ (I.tok _) rw')
 ·subst ey
  cases (show u=Value.ref b from ry)
  obtain⟨z,hd,xs,rel,dd⟩:=dt_rd I.hok e
  obtain⟨w',hw,rw'⟩:=RelO.some_of (v:=v) (o:=(atKey xs k).map (·.2)) (by rw[l]; exact rel.val k)
  obtain⟨p,hp,hp2⟩:=yQ.mp hw
  refine wpAny_getItem_heap (tupleKind_room_in1 hu) (key_of I.hok eb) dd hp ?_
  rw[hp2]
  exact h w' _ (I.tok _) rw'
theorem d_write {h':Heap} {t':Nat} {ob:HO} (I:Inv X pins σ H s) (mu:Mut (H a)) (hs:Heap.SameBut a s.heap h') (he:∃ q,h'.get? a=some q) (new:ObjOk X.prog X.w (upd H a ob) h' a ob) :
  Inv X pins σ (upd H a ob) { s with heap:=h',toks:=t' } :=
 I.write (x:=a) (e:=a) mu (.inl rfl) (fun b q hb z=>(hs.2 b hb).trans z) he new
theorem dk_new {P:Program} {w:World} {H':Hp} {h':Heap} {kvs:List (Key × V)} {vs:List (Key × Value)} (z:kvs.length≤sizeLine) (hd:(a == sysModules)=false) (rel:KV kvs vs) (dd:h'.DictOf (mixKind P w) a vs) :
  ObjOk P w H' h' a (.dK kvs):=⟨z,hd,vs,rel,dd⟩
theorem d_setItem {H':Hp} {Q:Unit→Shared→Prop} (hu:A.units + 1 < cLine) (I:Inv X pins σ H s) (g:DPut H a y v H') (ry:RelV y u) (rv:RelV v r) (h:∀ s',Inv X pins σ H' s'→Q () s') :
  wpAny (model X.prog X.w) A (setItem (.ref a) u r) Q E s:=by
 rcases g with ⟨kvs,k,e,ey,l,eH⟩|⟨kvs,k,b,e,ey,eb,l,eH⟩
 ·subst ey eH
  obtain⟨z,hd,vs,rel,dd⟩:=dk_of I.hok e
  have hz:vs.length≤sizeLine:=by rw[← rel.length]; exact z
  have hl:(putK kvs k v).length≤sizeLine:=by have:=length_putK kvs k v; omega
  refine wpAny_setItem_pairs (hsz:=hz) (kV_is ry) dd fun h' dd' hs=>h _ ?_
  have he:∃ q,h'.get? a=some q:=let ⟨q,_,_,hq,_⟩:=dd'; ⟨q,hq⟩
  exact d_write I (by rw[e]; exact True.intro) hs he (dk_new hl hd (rel.put k rv) dd')
 ·subst ey eH
  cases (show u=Value.ref b from ry)
  obtain⟨z,hd,xs,rel,dd⟩:=dt_of I.hok e
  have hz:xs.length≤sizeLine:=by rw[← Paired.length rel]; exact z
  have hl:(putK kvs k v).length≤sizeLine:=by have:=length_putK kvs k v; omega
  refine wpAny_setItem_heap (hsz:=hz) (tupleKind_room_in1 hu) (key_of I.hok eb) dd fun h' dd' hs=>h _ ?_
  obtain⟨q,es,ep,hq,h2,h3,h4,_,h5⟩:=dd'
  refine d_write I (by rw[e]; exact True.intro) hs ⟨q,hq⟩ ⟨hl,hd,_,(rel.put k eb rv).keeps fun c ys ec=>?_,q,es,ep,hq,h2,h3,h4,h5⟩
  rw[upd_ne (ne_of ec e (fun z=>nomatch z))]
  exact ec
end
section
variable {X:Cx} {pins:List (Addr × Obj)} {σ:St} {H:Hp} {s:Shared} {a:Addr} {kvs:List (Key × V)} {k:Key} {u:Value} {A:Around} {E:Value→Shared→Prop}
end
def NoSl (i:Expr):Prop:=∀ ov iv,subscripted i false ov iv=operate [ov,iv] (getItem ov iv)
theorem subD_of {prog:Program} {w:World} {A:Around} {E:Value→Shared→Prop} {s:Shared} {env:Env} {value slice:Expr} {pos:Pos} {T id:String} {Q:Value→Shared→Prop}
  (hl:typeLookup (.type T) "__getitem__"=pure (some (.builtin id))) (hs:NoSl slice)
  (h:wpAny (model prog w) A (eval value env) (fun o s₁=>wpAny (model prog w) A (eval slice env) (fun i s₂=>s₂.TypeIs o T∧wpAny (model prog w) A (getItem o i) Q E s₂) E s₁) E s) :
  wpAny (model prog w) A (eval (.Subscript value slice pos) env) Q E s:=by
 refine Subscript_ (wpAny_mono h (fun o s₁ h₁=>wpAny_mono h₁ (fun i s₂ h₂=>?_) fun _ _ x=>x) fun _ _ x=>x)
 obtain⟨hT,h₂⟩:=h₂
 unfold subscriptTail
 refine wpAny_bind ?_
 rw[getitemInPython_of_ne hT.not_modules]
 refine wpAny_bind (wpAny_specialOf hT hl ?_)
 have fin:wpAny (model prog w) A (subscripted slice false o i) (fun r s₃=>wpAny (model prog w) A (letTemporaryGo value o r >>= fun _=>pure r) Q E s₃) E s₂:=by
  rw[hs o i]
  exact wpAny_operating (wpAny_mono h₂ (fun r s₃ h₃=>wpAny_bind (wpAny_letTemporaryGo (wpAny_pure h₃))) fun _ _ x=>x)
 first
  | exact wpAny_pure (wpAny_bind fin)
  | exact wpAny_bind (wpAny_pure (wpAny_bind fin))
  | exact wpAny_bind fin
theorem dict_typeIs {X:Cx} {pins:List (Addr × Obj)} {σ:St} {H:Hp} {s:Shared} {a:Addr} {y:V} {o:Option V} (I:Inv X pins σ H s) (g:DGet H a y o):s.TypeIs (.ref a) "dict":=by
 rcases g with ⟨kvs,k,e,_,_⟩|⟨kvs,k,b,e,_,_,_⟩
 ·obtain⟨_,_,vs,_,dd⟩:=dk_rd I.hok e
  exact dd.typeIs
 ·obtain⟨_,_,xs,_,dd⟩:=dt_rd I.hok e
  exact dd.typeIs
inductive tDGet_ (Q:VK) (x:V) (y:V) (H2:Hp):Prop where
 | mk (a v:_) (h_0:x=.ref a) (h_1:DGet H2 a y (some v)) (h_2:Q v H2):tDGet_ Q x y H2
def tDGet (td ty:TE):TE:=fun σ H Q=>td σ H fun x H1=>ty σ H1 fun y H2=>tDGet_ Q x y H2
inductive sDPut_ (D:Ends) (σ:St) (v:V) (x:V) (y:V) (H3:Hp):Prop where
 | mk (a H4:_) (h_0:x=.ref a) (h_1:DPut H3 a y v H4) (h_2:D.nx σ H4):sDPut_ D σ v x y H3
def sDPut (td ty tv:TE):TS:=fun D σ H=>tv σ H fun v H1=>td σ H1 fun x H2=>ty σ H2 fun y H3=>sDPut_ D σ v x y H3
section
variable {X:Cx} {o i e value:Expr} {pos pos' tpos:Pos} {td ty tv:TE}
theorem pe_dget (hu:X.A.units + 1 < cLine) (ho:PE X o td) (hi:PE X i ty) (hs:NoSl i):PE X (.Subscript o i pos) (tDGet td ty):=by
 intro pins s σ H Q I h
 refine subD_of PySem.F.slot_dict_getitem.lookup hs (thn (ho pins s σ H _ I h) fun u s1 ⟨x,H1,I1,rx,q1⟩=>thn (hi pins s1 σ H1 _ I1 q1) fun iv s2 ⟨y,H2,I2,ry,a,v,ex,g,q2⟩=>?_)
 subst ex
 obtain rfl:u=Value.ref a:=rx
 exact⟨dict_typeIs I2 g,d_getItem hu I2 g ry fun w' s3 I3 rw'=>⟨v,H2,I3,rw',q2⟩⟩
theorem ps_dput (hu:X.A.units + 1 < cLine) (ho:PE X o td) (hi:PE X i ty) (hv:PE X value tv) (hs:swapsWith value (some (.Subscript o i pos')) pos.line X.env=pure false) :
  PS X (.Assign [.Subscript o i pos'] value pos) (sDPut td ty tv):=by
 intro pins s σ H D I h
 refine wpAny_Assign_Subscript (thn (hv pins s σ H _ I h) fun r s1 ⟨v,H1,I1,rv,q1⟩=>thn (ho pins s1 σ H1 _ I1 q1) fun u s2 ⟨x,H2,I2,rx,q2⟩=>thn (hi pins s2 σ H2 _ I2 q2) fun iv s3 ⟨y,H3,I3,ry,a,H4,ex,g,q3⟩=>?_) hs
 subst ex
 obtain rfl:u=Value.ref a:=rx
 exact d_setItem hu I3 g ry rv fun s4 I4=>⟨σ,H4,I4,q3⟩
end
theorem dk_empty {P:Program} {w:World} {H:Hp} (h:Heap) (hb:sysModules < h.objs.size):ObjOk P w H (h.push { cls:=.type "dict",data:=.dict #[] }) h.objs.size (.dK []) :=
 ⟨z5 _,beq_eq_false_iff_ne.mpr (Ne.symm (zY hb)),[],.nil,Heap.DictOf.new h⟩
def tDNewK:TE:=fun _ H Q=>∀ p,H p=none→Q (.ref p) (upd H p (.dK []))
section
variable {X:Cx} {pos:Pos}
theorem pe_dnewK:PE X (.Dict [] [] pos) tDNewK:=fun pins s σ H Q I h =>
 wpAny_Dict_empty ⟨.ref s.heap.objs.size,_,I.laid (a:=s.heap.objs.size) (o:=.dK []) (t':=s.toks) (fun _ _ q=>Heap.get?_push_of_some _ q) (zI _) (dk_empty s.heap I.big),rfl,h _ (I.hok.fresh (zI _))⟩
end
section
variable {X:Cx} {pins:List (Addr × Obj)} {σ:St} {H:Hp} {s:Shared} {a:Addr} {y d:V} {u r:Value} {o:Option V} {A:Around} {E:Value→Shared→Prop}
end
section
variable {X:Cx} {o e f:Expr} {apos cpos:Pos} {td ty tx:TE}
end
section
variable {X:Cx} {pins:List (Addr × Obj)} {σ:St} {H:Hp} {s:Shared} {a:Addr} {kvs:List (Key × V)} {A:Around} {E:Value→Shared→Prop}
end
section
variable {X:Cx} {pins:List (Addr × Obj)} {σ:St} {H:Hp} {s:Shared} {a:Addr} {y:V} {u:Value} {A:Around} {E:Value→Shared→Prop}
end
end L2
namespace HT
open PySem PyProof.Rows
def lexLt:List Int→List Int→Bool
 | [],[]=>false
 | [],_::_=>true
 | _::_,[]=>false
 | x::xs,y::ys=>if x=y then lexLt xs ys else decide (x < y)
theorem lexLt_cons (x y:Int) (xs ys:List Int):lexLt (x::xs) (y::ys)=if x=y then lexLt xs ys else decide (x < y):=rfl
theorem lexLt_nil_nil:lexLt [] []=false:=rfl
theorem lexLt_nil_cons (y:Int) (ys:List Int):lexLt [] (y::ys)=true:=rfl
theorem lexLt_cons_nil (x:Int) (xs:List Int):lexLt (x::xs) []=false:=rfl
theorem eqAt_int (A:Around) (s:Shared) (a:Int) (t:Tok) (c:Int) (u:Tok):∃ e,SeqAt.EqAt A s (.int a t) (.int c u) e∧(e=true ↔ a=c) :=
 ⟨(a == c),SeqAt.EqAt.int_int a t c u,by simp⟩
theorem rcLt_int (A:Around) (s:Shared) (a:Int) (t:Tok) (c:Int) (u:Tok) (prog:Program) (w:World) (E:Value→Shared→Prop) (Q:Value→Shared→Prop) (h:Q (.bool (decide (a < c))) s) :
  wpAny (model prog w) A (richCompare .Lt (.int a t) (.int c u)) Q E s :=
 (PyProof.Rows.lt_int h:wpAny (model prog w) A (compareOp .Lt (.int a t) (.int c u)) Q E s)
section
open PySem.SeqAt
open PySem.AutoSeq1 (wpAny_loadPart')
open PySem.MeetsSeq PySem.MeetsSeq2 PySem.MeetsSeq3
theorem tuple_lt_ints (l b:Addr) (items items2:Array Value) (n n2:Nat) (dd dd2:Option Addr) (sl sl2:Array (Option Value)) (ns ms:List Int) (hi:IntsAre items.toList ns) (hj:IntsAre items2.toList ms) :
  Meets (Builtin.«tuple.__lt__» ⟨[.ref l,.ref b],[]⟩)
   (fun _ R s=>s.heap.get? l=some { cls:=.type "tuple",dict:=dd,data:=.seq items n,slots:=sl }∧s.heap.get? b=some { cls:=.type "tuple",dict:=dd2,data:=.seq items2 n2,slots:=sl2 } ∧
    R (.ok (.ret (.bool (lexLt ns ms)))) s) :=
 .of_wp fun prog w A R s h=>by
  obtain⟨hp,g,d,tk,os⟩:=s; obtain⟨hl,hb,h⟩:=h
  have f2:=AutoSeq1.sub_tuple_tuple
  have z1:items.size=ns.length:=by rw[← hi.length]; simp
  have z2:items2.size=ms.length:=by rw[← hj.length]; simp
  wp_walk using wpAny_loadPart' hl,wpAny_loadPart' hb,wpAny_forIn_list _ (fun rest b s'=>b.1=none∧s'=⟨hp,g,d,tk,os⟩∧∃(vs ws:List Value) (ns' ms':List Int),rest=vs.zip ws ∧
   IntsAre vs ns'∧IntsAre ws ms'∧ns'.length + items2.size=ms'.length + items.size∧R (.ok (.ret (.bool (lexLt ns' ms')))) ⟨hp,g,d,tk,os⟩) _
  case turn =>
   rintro⟨y,x⟩ rest b s' ⟨hb',rfl,vs,ws,ns',ms',hz,hvi,hwi,hlen,hR⟩
   cases hvi with
   | nil=>rw[List.zip_nil_left] at hz; cases hz
   | cons a t hvi' =>
    cases hwi with
    | nil=>rw[List.zip_nil_right] at hz; cases hz
    | cons c u hwi' =>
     rw[jF] at hz
     injection hz with hyx hrest
     injection hyx with hy hx
     subst hy hx
     rw[lexLt_cons] at hR
     simp only [zX] at hlen
     obtain⟨e,he,hiff⟩:=eqAt_int A.in1 ⟨hp,g,d,tk,os⟩ a t c u
     refine wpAny_bind (he prog w _ _ ?_)
     cases e with
     | true =>
      rw[if_pos (hiff.mp rfl)] at hR
      wp_walk
      exact⟨rfl,rfl,_,_,_,_,hrest,hvi',hwi',by omega,hR⟩
     | false =>
      rw[if_neg (fun q=>absurd (hiff.mpr q) zZ)] at hR
      have hri:=rcLt_int A.in1 ⟨hp,g,d,tk,os⟩ a t c u prog w
      wp_walk using hri
      exact⟨_,rfl,by simpa using hR⟩
  case fin =>
   rintro⟨b1,b2⟩ s' ⟨hb',rfl,vs,ws,ns',ms',hz,hvi,hwi,hlen,hR⟩
   simp only at hb'
   subst hb'
   have hv:lexLt ns' ms'=decide (items.size < items2.size):=by
    cases hvi with
    | nil =>
     cases hwi with
     | nil =>
      simp only [qR] at hlen
      rw[lexLt_nil_nil]
      exact(decide_eq_false (by omega)).symm
     | cons c u hw =>
      simp only [qR,zX] at hlen
      rw[lexLt_nil_cons]
      exact(decide_eq_true (by omega)).symm
    | cons a t hv =>
     cases hwi with
     | nil =>
      simp only [qR,zX] at hlen
      rw[lexLt_cons_nil]
      exact(decide_eq_false (by omega)).symm
     | cons c u hw =>
      rw[jF] at hz
      cases hz
   rw[hv] at hR
   wp_walk
   exact⟨_,rfl,by simpa [Builtin.Tuple.tupleCompareSizes] using hR⟩
  case h =>
   exact⟨rfl,rfl,items.toList,items2.toList,ns,ms,rfl,hi,hj,by omega,h⟩
end
section
variable {prog:Program} {w:World} {A:Around} {E:Value→Shared→Prop} {s:Shared}
theorem lt_tupInts {l b:Addr} {items items2:Array Value} {ns ms:List Int} {Q:Value→Shared→Prop} (hl:IsTup s.heap l items) (hb:IsTup s.heap b items2) (hi:IntsAre items.toList ns) (hj:IntsAre items2.toList ms)
  (hu:A.units < cLine) (h:Q (.bool (lexLt ns ms)) s):wpAny (model prog w) A (compareOp .Lt (.ref l) (.ref b)) Q E s:=by
 obtain⟨⟨cls,dd,data,sl⟩,ho,hc,n,hd⟩:=id hl
 obtain⟨⟨cls2,dd2,data2,sl2⟩,ho2,hc2,n2,hd2⟩:=id hb
 simp only at hc hd hc2 hd2
 subst hc hd hc2 hd2
 exact richCompare_meets_room (op:=.Lt) ⟨_,ho,rfl⟩ ⟨_,ho2,rfl⟩ PySem.F.slot_tuple_lt PySem.F.entry_tuple_lt (PySem.F.args_tuple_lt_2 _ _) (tuple_lt_ints l b items items2 n n2 dd dd2 sl sl2 ns ms hi hj)
  ⟨ho,ho2,show Value.bool (lexLt ns ms) ≠ Value.notImplemented∧Q (.bool (lexLt ns ms)) s from⟨(fun x=>nomatch x),h⟩⟩ hu
end
end HT
namespace L2
open PySem PySem.Spec PyProof.Rows
theorem intsAre_of {ns:List Int}:∀ {us:List Value},Vals (ns.map V.int) us→IntsAre us ns:=by
 induction ns with
 | nil=>intro us r; rw[qX] at r; cases r; exact .nil
 | cons n ns ih =>
  intro us r
  rw[yG] at r
  cases r with
  | cons r1 r2 =>
   obtain⟨t,e⟩:=r1
   subst e
   exact .cons n t (ih r2)
section
variable {X:Cx} {e:Expr} {te:TE} {lo hi:Option Expr} {tl th:TO} {pos p2:Pos}
end
end L2
namespace L2
open PySem PySem.Spec PyProof.Rows
def ixN (n:Nat) (i:Int):Option Nat:=if 0≤i then (if i < n then some i.toNat else none) else if -(n:Int)≤i then some (i + n).toNat else none
def atI {α:Type} (xs:List α) (i:Int):Option α:=(ixN xs.length i).bind fun j=>xs[j]?
theorem ixN_seq {n:Nat} {i:Int} {j:Nat} (h:ixN n i=some j):seqIndex? i n=some j∧j < n∧-(n:Int)≤i∧i < n:=by
 unfold ixN at h
 by_cases h0:0≤i
 ·rw[if_pos h0] at h
  by_cases h1:i < n
  ·rw[if_pos h1] at h
   have e:i.toNat=j:=Option.some.inj h
   exact⟨by rw[seqIndex_of h0 h1,e],by omega,by omega,h1⟩
  ·rw[if_neg h1] at h; cases h
 ·rw[if_neg h0] at h
  by_cases h1:-(n:Int)≤i
  ·rw[if_pos h1] at h
   have e:(i + n).toNat=j:=Option.some.inj h
   exact⟨by rw[seqIndex_neg (by omega) h1,e],by omega,h1,by omega⟩
  ·rw[if_neg h1] at h; cases h
theorem atI_get {α:Type} {xs:List α} {i:Int} {v:α} (h:atI xs i=some v):∃ j,seqIndex? i xs.length=some j∧xs[j]?=some v∧j < xs.length∧-(xs.length:Int)≤i∧i < xs.length:=by
 unfold atI at h
 cases e:ixN xs.length i with
 | none=>rw[e] at h; cases h
 | some j =>
  rw[e] at h
  obtain⟨h1,h2,h3,h4⟩:=ixN_seq e
  exact⟨j,h1,h,h2,h3,h4⟩
theorem atI_nat {α:Type} {xs:List α} {j:Nat} {v:α} (h:xs[j]?=some v):atI xs (j:Int)=some v:=by
 have hj:j < xs.length:=(zC.mp h).1
 have e:ixN xs.length (j:Int)=some j:=by
  unfold ixN
  rw[if_pos (by omega),if_pos (by omega)]; simp
 unfold atI; rw[e]; exact h
def PlainIx (b:Expr):Prop:=∀ o i,subscripted b false o i=operate [o,i] (getItem o i)
def IxR (X:Cx) (r:R2):Prop :=
 ∀(value slice:Expr) (pins:List (Addr × Obj)) (s:Shared) (σ:St) (H:Hp) (x y:V) (v u:Value) (Q:VK),Inv X pins σ H s→RelV x v→RelV y u→r x y H Q →
  subscripted slice false v u=operate [v,u] (getItem v u)→wpAny (model X.prog X.w) X.A (subscriptTail value slice v u) (EP X pins σ Q) X.xe s
def MtR (X:Cx) (id:String) (r:V→List V→Hp→VK→Prop):Prop :=
 ∀(pins:List (Addr × Obj)) (s:Shared) (σ:St) (H:Hp) (x:V) (xs:List V) (v:Value) (us:List Value) (Q:VK),Inv X pins σ H s→RelV x v→Vals xs us→r x xs H Q →
  wpAny (model X.prog X.w) X.A (call (.builtin id) (v::us)) (EP X pins σ Q) X.xe s
section
variable {X:Cx} {a b:Expr} {ta tb:TE} {pos:Pos}
theorem pe_ix {r:R2} (hr:IxR X r) (ha:PE X a ta) (hb:PE X b tb) (hs:PlainIx b):PE X (.Subscript a b pos) (tOp r ta tb):=by
 intro pins s σ H Q I h
 exact Subscript_ (binT ha hb I h fun v u s2 x y H2 I2 rx ry q=>hr a b pins s2 σ H2 x y v u Q I2 rx ry q (hs _ _))
inductive rIxL (K:PySem.W.Frag) (x:V) (y:V) (H:Hp) (Q:VK):Prop where
 | mk (p xs i v:_) (h_0:x=.ref p) (h_1:y=.int i) (h_2:SqL K H p xs) (h_3:atI xs i=some v) (h_4:Q v H):rIxL K x y H Q
inductive rIxT (K:PySem.W.Frag) (x:V) (y:V) (H:Hp) (Q:VK):Prop where
 | mk (p xs i v:_) (h_0:x=.ref p) (h_1:y=.int i) (h_2:SqT K H p xs) (h_3:atI xs i=some v) (h_4:Q v H):rIxT K x y H Q
theorem ix_list:IxR X (rIxL X.K):=by
 intro value slice pins s σ H x y v u Q I rx ry h hs
 obtain⟨p,xs,i,z,rfl,rfl,hq,he,q⟩:=h
 cases rx
 obtain⟨t,rfl⟩:=ry
 obtain⟨its,r,pl,hz⟩:=I.list hq
 obtain⟨j,h1,h2,h3,h4,h5⟩:=atI_get he
 obtain⟨w,ew,rw'⟩:=r.get h2
 have hl:=r.length
 have hn:=line63
 have fin:EP X pins σ Q w s:=⟨z,H,I,rw',q⟩
 by_cases h0:0≤i
 ·have hj:i.toNat=j:=by
   rw[seqIndex_of h0 h5] at h1
   exact Option.some.inj h1
  exact item_listR pl.isList h0 (by omega) (by rw[hj]; simpa using ew) fin hs
 ·have hj:(i + (its.toArray.size:Int)).toNat=j:=by
   rw[seqIndex_neg (by omega) h4] at h1
   rw[zO,← hl]
   exact Option.some.inj h1
  exact subscriptTail_builtinR (x:=w) pl.isList.typeIs slot_list_getitem.lookup
   (wpAny_getItem_list_neg (Q:=fun r s'=>r=w∧EP X pins σ Q r s') pl.isList (by omega) (by rw[zO] <;> omega) (by omega) (by rw[hj]; simpa using ew) ⟨rfl,fin⟩) hs
theorem ix_tup:IxR X (rIxT X.K):=by
 intro value slice pins s σ H x y v u Q I rx ry h hs
 obtain⟨p,xs,i,z,rfl,rfl,hq,he,q⟩:=h
 cases rx
 obtain⟨t,rfl⟩:=ry
 obtain⟨its,r,pl,hz⟩:=I.tuple hq
 obtain⟨j,h1,h2,h3,h4,h5⟩:=atI_get he
 obtain⟨w,ew,rw'⟩:=r.get h2
 have hl:=r.length
 have hn:=line63
 have fin:EP X pins σ Q w s:=⟨z,H,I,rw',q⟩
 exact subscriptTail_builtinR (x:=w) pl.typeIs slot_tuple_getitem.lookup
  (getItem_tuple (j:=j) (Q:=fun r s'=>r=w∧EP X pins σ Q r s') pl (by omega) (by omega) (by rw[zO,← hl]; exact h1) (by simpa using ew) ⟨rfl,fin⟩) hs
theorem mapSeq_set (its:List Value) (n j:Nat) (u:Value):Obj.mapSeq (·.setIfInBounds j u) { cls:=.type "list",data:=.seq its.toArray n }={ cls:=.type "list",data:=.seq (its.set j u).toArray n }:=by
 simp [Obj.mapSeq]
theorem Inv.lst {pins:List (Addr × Obj)} {σ:St} {H:Hp} {s:Shared} {p:Addr} {xs:List V} (I:Inv X pins σ H s) (h:H p=some (.lst xs)) :
  ∃(its:List Value) (n:Nat),Vals xs its∧s.heap.get? p=some { cls:=.type "list",data:=.seq its.toArray n }∧xs.length≤sizeLine:=by
 obtain⟨z,its,n,r,e⟩:=I.hok p _ h
 exact⟨its,n,r,e,z⟩
theorem Inv.lstUpd {pins:List (Addr × Obj)} {σ:St} {H:Hp} {s:Shared} {p:Addr} {xs ys:List V} {its its':List Value} {n n':Nat} {f:Obj→Obj} (I:Inv X pins σ H s) (h:H p=some (.lst xs))
  (ho:s.heap.get? p=some { cls:=.type "list",data:=.seq its.toArray n }) (hf:f { cls:=.type "list",data:=.seq its.toArray n }={ cls:=.type "list",data:=.seq its'.toArray n' }) (r:Vals ys its') (hz:ys.length≤sizeLine) (t:Nat) :
  Inv X pins σ (upd H p (.lst ys)) { s with heap:=s.heap.update p f,toks:=t }:=by
 have e:(s.heap.update p f).get? p=some { cls:=.type "list",data:=.seq its'.toArray n' }:=by
  rw[Heap.get?_update_self f ho (by rw[hf] <;> rfl),hf]
 refine I.write (x:=p) (e:=p) (by rw[h]; trivial) (.inl rfl) (fun b u hb q=>(Heap.get?_update_other _ _ (Ne.symm hb)).trans q) ⟨_,e⟩ ?_
 exact⟨hz,its',n',r,e⟩
inductive rSetL (o:V) (i:V) (v:V) (H:Hp) (Q:Hp→Prop):Prop where
 | mk (p xs k j:_) (h_0:o=.ref p) (h_1:i=.int k) (h_2:H p=some (.lst xs)) (h_3:ixN xs.length k=some j) (h_4:Q (upd H p (.lst (xs.set j v)))):rSetL o i v H Q
theorem set_list:PSet X rSetL:=by
 intro pins s σ H o i v ov iv u Q I ro ri rv h
 obtain⟨p,xs,k,j,rfl,rfl,hp,hj,q⟩:=h
 cases ro
 obtain⟨t,rfl⟩:=ri
 obtain⟨its,n,r,ho,hz⟩:=I.lst hp
 obtain⟨h1,h2,h3,h4⟩:=ixN_seq hj
 have hl:=r.length
 have hn:=line63
 have I':Inv X pins σ (upd H p (.lst (xs.set j v))) { s with heap:=s.heap.update p (Obj.mapSeq (·.setIfInBounds j u)) } :=
  I.lstUpd hp ho (mapSeq_set its n j u) (r.set rv j) (by rw[z4]; exact hz) s.toks
 by_cases h0:0≤k
 ·have hk:k.toNat=j:=by
   rw[seqIndex_of h0 h4] at h1
   exact Option.some.inj h1
  exact PySem.W.ki_setAt ho h0 (by omega) (by rw[zO,← hl]; exact h4) (by rw[hk]; exact⟨_,I',q⟩)
 ·have hk:(k + (its.toArray.size:Int)).toNat=j:=by
   rw[seqIndex_neg (by omega) h3] at h1
   rw[zO,← hl]
   exact Option.some.inj h1
  exact PySem.W.ki_setBack ho (by omega) (by rw[zO,← hl]; exact h3) (by omega) (by rw[hk]; exact⟨_,I',q⟩)
theorem call_len_seq:CallR X (.builtin "len") (fun xs H Q=>∃ p ys,xs=[.ref p]∧(SqL X.K H p ys∨SqT X.K H p ys)∧Q (.int ys.length) H):=by
 intro pins s σ H xs us Q I r h
 obtain⟨p,ys,rfl,hq,q⟩:=h
 obtain⟨u,rfl,rx⟩:=vals1 r
 cases rx
 have hn:=line63
 rcases hq with hq|hq
 ·obtain⟨its,r',pl,hz⟩:=I.list hq
  have hlen:=r'.length
  exact Calls.call_len_list pl.isList (by simp only [zO] <;> omega) ⟨.int ys.length,H,I.tok _,⟨s.toks + 1,by rw[zO,hlen]⟩,q⟩
 ·obtain⟨its,r',pl,hz⟩:=I.tuple hq
  have hlen:=r'.length
  exact len_tuple pl (by simp only [zO] <;> omega) ⟨.int ys.length,H,I.tok _,⟨s.toks + 1,by rw[zO,hlen]⟩,q⟩
theorem call_list_of:CallR X (.type "list") (fun xs H Q=>∃ p ys,xs=[.ref p]∧(SqL X.K H p ys∨SqT X.K H p ys)∧∀ l,H l=none→Q (.ref l) (upd H l (.lst ys))):=by
 intro pins s σ H xs us Q I r h
 obtain⟨p,ys,rfl,hq,q⟩:=h
 obtain⟨u,rfl,rx⟩:=vals1 r
 cases rx
 have fin:∀(its:List Value),Vals ys its→ys.length≤sizeLine→∀(h':Heap) (c':Nat),(∀ b o',s.heap.get? b=some o'→h'.get? b=some o') →
   h'.get? s.heap.objs.size=some { cls:=.type "list",dict:=none,data:=.seq its.toArray c',slots:=#[] }→EP X pins σ Q (.ref s.heap.objs.size) { s with heap:=h' }:=fun its r' hz h' c' kp e =>
  ⟨.ref s.heap.objs.size,_,I.laid (t':=s.toks) kp (zI _) (show ObjOk X.prog X.w _ h' _ (.lst ys) from⟨hz,its,c',r',e⟩),rfl,q _ (I.hok.fresh (zI _))⟩
 rcases hq with hq|hq
 ·obtain⟨its,r',pl,hz⟩:=I.list hq
  have hlen:=r'.length
  obtain⟨o,ho,hc,n,hd⟩:=pl.isList
  exact call_list_seq p (.inl rfl) ho hc hd (fun h' c' kp e=>fin its r' hz h' c' kp e) (by simp only [zO] <;> omega)
 ·obtain⟨its,r',pl,hz⟩:=I.tuple hq
  have hlen:=r'.length
  obtain⟨o,ho,hc,n,hd⟩:=pl
  exact call_list_seq p (.inr rfl) ho hc hd (fun h' c' kp e=>fin its r' hz h' c' kp e) (by simp only [zO] <;> omega)
theorem call_tuple_of:CallR X (.type "tuple") (fun xs H Q=>∃ p ys,xs=[.ref p]∧((SqL X.K H p ys∧∀ l,H l=none→Q (.ref l) (upd H l (.tup ys)))∨(SqT X.K H p ys∧Q (.ref p) H))):=by
 intro pins s σ H xs us Q I r h
 obtain⟨p,ys,rfl,h⟩:=h
 obtain⟨u,rfl,rx⟩:=vals1 r
 cases rx
 rcases h with ⟨hq,q⟩|⟨hq,q⟩
 ·obtain⟨its,r',pl,hz⟩:=I.list hq
  have hlen:=r'.length
  refine call_tuple_list pl.isList (fun h' kp=>?_) (by simp only [zO] <;> omega)
  have I1:Inv X pins σ H { s with heap:=h' }:=I.kept (t':=s.toks) kp
  have I2:Inv X pins σ (upd H h'.objs.size (.tup ys)) { s with heap:=h'.push { cls:=.type "tuple",data:=.seq its.toArray } } :=
   I1.laid (t':=s.toks) (fun b o e=>Heap.get?_push_of_some _ e) (zI _) (show ObjOk X.prog X.w _ _ _ (.tup ys) from⟨hz,its,r',IsTup.new _ _⟩)
  exact⟨.ref h'.objs.size,_,I2,rfl,q _ (I1.hok.fresh (zI _))⟩
 ·obtain⟨its,r',pl,hz⟩:=I.tuple hq
  exact call_tuple_same pl ⟨.ref p,H,I,rfl,q⟩
def tyV (K:PySem.W.Frag) (T:String) (x:V) (H:Hp):Prop:=match x with
 | .str _=>T="str"
 | .int _=>T="int"
 | .ref p=>(T="list"∧∃ xs,SqL K H p xs)∨(T="tuple"∧∃ o,K.lookup p=some o∧o.cls=.type "tuple"∧o.dict=none) ∨
   (T="dict"∧((∃ kvs,H p=some (.dK kvs))∨∃ kvs,H p=some (.dT kvs)))∨(T="set"∧∃ S n,H p=some (.set S n))
 | _=>False
theorem tyV_is {pins:List (Addr × Obj)} {σ:St} {H:Hp} {s:Shared} {T:String} {x:V} {v:Value} (I:Inv X pins σ H s) (r:RelV x v) (ty:tyV X.K T x H) :
  s.TypeIs v T∧∀ a,v=.ref a→∃ ob,s.heap.get? a=some ob∧ob.dict=none:=by
 cases x with
 | str z =>
  obtain⟨t,rfl⟩:=r
  cases (show T="str" from ty)
  exact⟨typeIs_str s z t,fun _ e=>nomatch e⟩
 | int i =>
  obtain⟨t,rfl⟩:=r
  cases (show T="int" from ty)
  exact⟨typeIs_int s i t,fun _ e=>nomatch e⟩
 | ref p =>
  cases r
  rcases ty with ⟨rfl,xs,hq⟩|⟨rfl,o,hk,hc,hd⟩|⟨rfl,hk⟩|⟨rfl,S,n,hk⟩
  ·obtain⟨its,_,pl,_⟩:=I.list hq
   refine⟨pl.isList.typeIs,fun a e=>?_⟩
   cases e
   obtain⟨o,n,e,c,hd,_⟩:=pl
   exact⟨o,e,hd⟩
  ·refine⟨⟨o,I.kIn p o hk,hc⟩,fun a e=>?_⟩
   cases e
   exact⟨o,I.kIn _ o hk,hd⟩
  ·have z:∃ o,s.heap.get? p=some o∧o.ExactDict:=by
    rcases hk with ⟨kvs,hk⟩|⟨kvs,hk⟩
    ·obtain⟨_,_,_,_,o,_,_,e,ex,_⟩:=I.hok p _ hk
     exact⟨o,e,ex⟩
    ·obtain⟨_,_,_,_,o,_,_,e,ex,_⟩:=I.hok p _ hk
     exact⟨o,e,ex⟩
   obtain⟨o,e,ex⟩:=z
   refine⟨⟨o,e,ex.1⟩,fun a e2=>?_⟩
   cases e2
   exact⟨o,e,ex.2.1⟩
  ·obtain⟨o,_,_,_,e,ex,_⟩:=I.hok p _ hk
   refine⟨⟨o,e,ex.1⟩,fun a e2=>?_⟩
   cases e2
   exact⟨o,e,ex.2.1⟩
 | _=>exact False.elim ty
def tBM (K:PySem.W.Frag) (T:String) (r:V→List V→Hp→VK→Prop) (to:TE) (t:TA):TE:=fun σ H Q=>to σ H fun x H1=>tyV K T x H1∧t σ H1 fun xs H2=>r x xs H2 Q
variable {o e:Expr} {es:List Expr} {to:TE} {t:TA} {name:Str} {apos cpos:Pos} {T id:String} {r:V→List V→Hp→VK→Prop}
theorem pe_bm (pa:PlainAttrs T) (slot:Slot T name id) (hty:typeOf (.builtin id)=pure (.type "method_descriptor")) (hm:MtR X id r) (ho:PE X o to) (ha:PA X (e::es) t)
  (hbase:attributeBase o name X.env (eval o X.env)=eval o X.env:=by rfl)
  (hfew:((backTo cpos (starEach (e::es) X.env)).all (fun x=>!x.1) && (backToKw cpos (keywordEach [] X.env)).all (fun x=>x.1.isSome)
   && decide ((e::es).length + ([]:List Keyword).length + (if ([]:List Keyword).isEmpty then 0 else 1) < 30))=true:=by rfl)
  (hline:(apos.endLine == cpos.line)=true:=by rfl) (hs:starEach (e::es) X.env=(false,eval e X.env)::starEach es X.env:=by rfl) (hplain:(backTo cpos (starEach es X.env)).any (·.1)=false:=by rfl) :
  PE X (.Call (.Attribute o name apos) (e::es) [] cpos) (tBM X.K T r to t):=by
 intro pins s σ H Q I h
 refine wpAny_Call_method_late hbase hfew hline rfl (thn (ho pins s σ H _ I h) fun v s1 ⟨x,H1,I1,r1,ty,q1⟩=>?_)
 obtain⟨h1,h2⟩:=tyV_is I1 r1 ty
 refine⟨T,id,pa,slot,hty,h1,h2,?_⟩
 have hA:=ha cpos pins s1 σ H1 _ I1 q1
 rw[hs] at hA ⊢
 refine Calls.callWith_builtin (by show(false || (backTo cpos (starEach es X.env)).any (·.1))=false; rw[hplain] <;> rfl) (Calls.evalArgs_plain ?_)
 exact thn hA fun us s2 ⟨vs,H2,I2,r2,q2⟩=>hm pins s2 σ H2 x vs v us Q I2 r1 r2 q2
/- xs.append(e),list.index on a module's tuple .. are MtR facts of 06m -/
end
end L2
namespace L2
open PySem PySem.Spec PyProof.Rows
def MtM (X:Cx) (id:String) (r:V→List V→Hp→VK→Prop):Prop :=
 ∀(pins:List (Addr × Obj)) (s:Shared) (σ:St) (H:Hp) (x:V) (xs:List V) (v:Value) (us:List Value) (Q:VK),Inv X pins σ H s→RelV x v→Vals xs us→r x xs H Q →
  wpAny (model X.prog X.w) X.A (call (.builtin id) (v::us)) (EP X pins σ Q) X.xe s
theorem pairedUn {α β:Type} {F:α→β→Prop} {x:α} {l:List α} {m:List β} (h:Paired F (x::l) m):∃ y r,m=y::r∧F x y∧Paired F l r:=by
 cases h with
 | cons p r=>exact⟨_,_,rfl,p,r⟩
theorem Vals.one {x:V} {us:List Value} (h:Vals [x] us):∃ u,us=[u]∧RelV x u:=by
 obtain⟨u,r,rfl,q,h2⟩:=pairedUn h
 cases h2
 exact⟨u,rfl,q⟩
theorem Vals.eraseIdx:∀ {xs:List V} {us:List Value} (i:Nat),Vals xs us→Vals (xs.eraseIdx i) (us.eraseIdx i)
 | _,_,_,.nil=>.nil
 | _,_,0,.cons _ t=>t
 | _,_,i + 1,.cons r t=>.cons r (Vals.eraseIdx i t)
theorem len_erase {α:Type}:∀(l:List α) (i:Nat),(l.eraseIdx i).length≤l.length
 | [],_=>zI _
 | _::_,0=>y3 _
 | _::r,i + 1=>j9 (len_erase r i)
section
variable {X:Cx} {pins:List (Addr × Obj)} {σ:St} {H:Hp} {s:Shared} {l b:Addr} {xs ys zs:List V}
theorem Inv.lset {its its':List Value} {n:Nat} {f:Array Value→Array Value} {t':Nat} (I:Inv X pins σ H s) (hH:H l=some (.lst xs))
  (e:s.heap.get? l=some { cls:=.type "list",data:=.seq its.toArray n }) (hf:f its.toArray=its'.toArray) (hv:Vals ys its') (hz:ys.length≤sizeLine) :
  Inv X pins σ (upd H l (.lst ys)) { s with heap:=s.heap.update l (Obj.mapSeq f),toks:=t' }:=by
 have q:=PySem.IsL.update e f
 rw[hf] at q
 refine I.write (x:=l) (e:=l) (by rw[hH]; exact trivial) (.inl rfl) (fun b' u hb hu=>(Heap.get?_update_other s.heap (Obj.mapSeq f) (Ne.symm hb)).trans hu) ⟨_,q⟩ ?_
 exact⟨hz,its',_,hv,q⟩
theorem Inv.lnew {its:List Value} {t':Nat} (I:Inv X pins σ H s) (hv:Vals ys its) (hz:ys.length≤sizeLine) :
  Inv X pins σ (upd H s.heap.objs.size (.lst ys)) { s with heap:=s.heap.push { cls:=.type "list",data:=.seq its.toArray },toks:=t' } :=
 I.laid (fun _ _ q=>Heap.get?_push_of_some _ q) (zI _) ⟨hz,its,0,hv,Heap.get?_push_size _ rfl⟩
theorem Inv.fresh (I:Inv X pins σ H s):H s.heap.objs.size=none:=I.hok.fresh (zI _)
theorem Inv.lstM (I:Inv X pins σ H s) (hH:H l=some (.lst xs)):xs.length≤sizeLine∧∃(its:List Value) (n:Nat),Vals xs its∧xs.length=its.length∧s.heap.get? l=some { cls:=.type "list",data:=.seq its.toArray n }:=by
 obtain⟨z,its,n,r,e⟩:=I.hok l _ hH
 exact⟨z,its,n,r,r.length,e⟩
end
section
variable {X:Cx}
inductive rAppend (x:V) (vs:List V) (H:Hp) (Q:VK):Prop where
 | mk (l xs y:_) (h_0:x=.ref l) (h_1:vs=[y]) (h_2:H l=some (.lst xs)) (h_3:xs.length < sizeLine) (h_4:Q .non (upd H l (.lst (xs++[y])))):rAppend x vs H Q
theorem mt_append:MtM X "list.append" rAppend:=by
 intro pins s σ H x vs v us Q I rx rv h
 obtain⟨l,xs,y,rfl,rfl,hH,hz,q⟩:=h
 cases rx
 obtain⟨u,rfl,ru⟩:=rv.one
 obtain⟨z,its,n,r,hl,e⟩:=I.lstM hH
 refine call_meets F.slot_list_append ⟨_,e,rfl⟩ F.entry_list_append (F.args_list_append_2 _ _) (PySem.list_append l its.toArray n u (by rw[zO]; omega)) ⟨e,?_⟩
 refine⟨.non,_,I.lset (its':=its++[u]) hH e (by simp) (r.append (.cons ru .nil)) ?_,rfl,q⟩
 rw[zM,List.length_singleton]
 omega
inductive rPopAt (x:V) (vs:List V) (H:Hp) (Q:VK):Prop where
 | mk (l xs i k y:_) (h_0:x=.ref l) (h_1:vs=[.int i]) (h_2:H l=some (.lst xs)) (h_3:-(2 ^ 63)≤i) (h_4:i < 2 ^ 63) (h_5:seqIndex? i xs.length=some k) (h_6:xs[k]?=some y) (h_7:Q y (upd H l (.lst (xs.eraseIdx k)))):rPopAt x vs H Q
theorem mt_popAt:MtM X "list.pop" rPopAt:=by
 intro pins s σ H x vs v us Q I rx rv h
 obtain⟨l,xs,i,k,y,rfl,rfl,hH,h1,h2,hk,hy,q⟩:=h
 cases rx
 obtain⟨u,rfl,ru⟩:=rv.one
 obtain⟨t,rfl⟩:=ru
 obtain⟨z,its,n,r,hl,e⟩:=I.lstM hH
 obtain⟨w,hw,rw'⟩:=r.get hy
 refine call_meets F.slot_list_pop ⟨_,e,rfl⟩ F.entry_list_pop (F.args_list_pop_2 _ _)
  (MeetsSeq.list_pop_at l its.toArray n i t k w (fitsIndex_both h1 h2) (by rw[zO,← hl]; exact hk) (by rw[← qG]; exact hw) (by rw[zO]; omega)) ⟨e,?_⟩
 refine⟨y,_,I.lset (its':=its.eraseIdx k) hH e ?_ (r.eraseIdx k) ?_,rw',q⟩
 ·show its.toArray.eraseIdxIfInBounds k=(its.eraseIdx k).toArray
  rw[j8]
 ·have:=len_erase xs k
  omega
inductive rCat (x:V) (y:V) (H:Hp) (Q:VK):Prop where
 | mk (l b xs zs:_) (h_0:x=.ref l) (h_1:y=.ref b) (h_2:H l=some (.lst xs)) (h_3:H b=some (.lst zs)) (h_4:xs.length + zs.length≤sizeLine) (h_5:∀ p,H p=none→Q (.ref p) (upd H p (.lst (xs++zs)))):rCat x y H Q
theorem op_cat:OpR X (binaryOp .Add) rCat:=by
 intro pins s σ H x y v u Q I rx ry h
 obtain⟨l,b,xs,zs,rfl,rfl,hH,hB,hz,q⟩:=h
 cases rx
 cases ry
 obtain⟨z,its,n,r,hl,e⟩:=I.lstM hH
 obtain⟨z2,its2,n2,r2,hl2,e2⟩:=I.lstM hB
 refine PySem.P.add_list e e2 ?_ (by rw[zO,zO]; omega)
 have ea:its.toArray++its2.toArray=(its++its2).toArray:=by simp
 rw[ea]
 exact⟨.ref _,_,I.lnew (t':=s.toks) (r.append r2) (by rw[zM]; omega),rfl,q _ I.fresh⟩
end
section
variable {prog:Program} {w:World} {A:Around} {E:Value→Shared→Prop} {s:Shared}
end
section
variable {X:Cx}
end
end L2
namespace Att
open PySem PySem.W PySem.Calls PyProof.Rows
theorem ints_of_wellAll {P:Params} {h:Heap}:∀(ns:List Int) (vs:List Value),WellAll P h vs (ns.map WData.int)→IntsAre vs ns:=by
 intro ns
 induction ns with
 | nil =>
  intro vs w
  rw[qX] at w
  cases w
  exact .nil
 | cons n ns ih =>
  intro vs w
  rw[yG] at w
  cases w with
  | cons a b =>
   cases a
   exact .cons _ _ (ih _ b)
theorem script_of {l:OpenLaw} {n:Nat} (hn:l.most=some n) {P:Params} {h:Heap} {args:List WData} {vals:List Value}
  (hpre:l.row.toRowW.claim.pre args=true) (hwl:WellAll P h vals args) :
  ∃ a vs ns,vals=[Value.ref a]∧args=[WData.list (ns.map WData.int)]∧h.get? a=some { cls:=.type "list",data:=.seq vs.toArray }∧IntsAre vs ns∧ns.length≤n:=by
 have hsh:WShape.hasAll [] args [.list .int]=true:=(pre_splitW hpre).1
 have hc:l.pre.holds [] { args:=args }=true:=(pre_splitW hpre).2
 obtain⟨d,r,rfl,h1,h2⟩:=hasAllW_cons hsh
 obtain rfl:=hasAllW_nil h2
 obtain⟨xs,rfl,h3⟩:=hasW_list h1
 obtain⟨ns,rfl⟩:=items_int h3
 have hlen:ns.length≤n:=by
  unfold OpenLaw.pre at hc
  have h4:(WTm.not (.lt (.lit (.int (n:Int))) (.len (.arg 0)))).holds [] { args:=[.list (ns.map .int)] }=true:=by
   have h4:=(holds_andW hc).1
   rw[hn] at h4
   exact h4
  have h5:=condW_of h4 (w_not (w_lt w_lit (w_len_list (w_arg rfl))))
  rw[zD] at h5
  refine Nat.le_of_not_lt fun q=>?_
  have q':(n:Int) < ((ns.length:Nat):Int):=by omega
  first
   | (rw[decide_eq_true q'] at h5; exact absurd h5 (by decide))
   | (simp at h5; omega)
 cases hwl with
 | cons w1 w2 =>
  cases w2
  cases w1 with
  | list ho hall=>exact⟨_,_,ns,rfl,rfl,ho,ints_of_wellAll ns _ hall,hlen⟩
theorem post_true (l:OpenLaw) (args:List WData):l.row.toRowW.claim.post args (.bool true) args=true :=
 postW_of (r:=l.row.toRowW) (X:=(true == true))
  (show WShape.has [] (.bool true) .bool=true by first|rfl|decide|simp [WShape.has,WShape.arms,WShape.armsAll])
  (show(WTm.eq .res (.lit (.bool true))).value [] { args:=args,res:=some (.bool true),after:=args }=some (.bool (true == true)) from w_eq_bool (w_res rfl) w_lit) rfl
theorem attach_call {l:OpenLaw} {n:Nat} {q:Program} {loose:List Str} {XP:(Str→Option Value)→Heap→Prop} {YP:World→Heap→Prop} {d:DefRec}
  (hn:l.most=some n) (hdf:d.params.defaults=[])
  (call:∀(w:World) (s₀ s₁:Shared) (mg mb:Str→Option Value) (fa:Addr) (o:Obj) (pm cd doc:Value) (a:Addr) (vs:List Value) (ns:List Int),
   Ground q loose [] XP w s₀ mg mb s₁.heap→YP w s₁.heap →
   s₁.heap.get? fa=some o→o.data=.func (docDef d.name d.params d.body d.scope pm cd doc)→s₁.heap.CodeRec cd d.name→mg d.name=some (.ref fa) →
   s₁.heap.get? a=some { cls:=.type "list",data:=.seq vs.toArray }→IntsAre vs ns→ns.length≤n→s₁.gens=#[] →
   codeAny (model l.prog w) callerA (.call (.ref fa) ⟨[.ref a],[]⟩) (fun r s'=>r=.ok (.ret (.bool true))∧OldK s₁.heap s'.heap∧s'.os=s₁.os∧AllBare s'.gens) s₁) :
  WalkO q loose XP YP l.row.toRowW d [] (fun f vs=>PySem.call f vs):=by
 intro w s₀ s₁ mg mb G Y fa o pm cd doc dV kV ho hd hcd hD hmg hg args vals as hpre hlay hrd hwl hlo
 obtain rfl:dV=.none:=Dflts.none hD hdf
 obtain rfl:kV=.none:=Dflts.noKw hD
 obtain⟨a,vs,ns,rfl,rfl,hobj,hints,hlen⟩:=script_of hn hpre hwl
 refine enter_call (codeAny_mono (call w s₀ s₁ mg mb fa o pm cd doc a vs ns G Y ho (fd_plain hd) hcd hmg hobj hints hlen hg) fun r s' hq=>?_)
 obtain⟨rfl,h2,h3,h4⟩:=hq
 exact⟨.inl ⟨.bool true,.bool true,[],rfl,fun _=>rfl,.bool true,post_true l _,fun _=>⟨List.Pairwise.nil,fun _ hm=>(nomatch hm)⟩⟩,h2,h3,h4⟩
section
variable {prog:Program} {w:World} {A:Around} {E:Value→Shared→Prop} {s:Shared} {K:Frag}
end
end Att
namespace L2
open PySem PySem.Spec PyProof.Rows
theorem vals_ints:∀ {vs:List Value} {ns:List Int},IntsAre vs ns→Vals (ns.map V.int) vs
 | _,_,.nil=>.nil
 | _,_,.cons n t h=>.cons ⟨t,rfl⟩ (vals_ints h)
end L2
namespace L2
open PySem PySem.Spec PyProof.Rows
end L2
/- THE LAST THEOREM (shape; LID,My.* are yours):
   My.Adr: a structure of the addresses that your layer names (classes,functions); My.Txt K t: a structure (Prop) of the equations over K;
   My.txt_mk:{K} {implicit addresses ..} (e1:nsIn K mainGlobals "law"=some (some (.ref f))) (e2:K.lookup f=some ⟨oc,od,.func (fnOf "law" "law" params body scope dV kV doc pm an cdv ct),sl⟩) (e3:codeIn K cdv "law"=true) ..:∃ t,My.Txt K t
set_option maxRecDepth 100000 in
set_option maxHeartbeats 0 in
theorem PySem.Challenge.cw_LID_holds : PySem.Challenge.rw_LID.Holds := by
 w_on; o_law; k_head; (case hw=>w_witness2)
 k_fill
 refine L2.walk_of (l:=PySem.Challenge.rw_LID) (n:=63) (k:=40) (x:="script") (CX:=fun w=>..) (sp:=fun _=>My.sp_law) rfl (by decide) rfl ⟨rfl,by decide,by decide⟩ (fun w h Y=>PySem.W.kIn_of Y) ?F ?S ?C
 case F =>
  intro w mg fa h KX G hmg
  have T:∃ t,My.Txt (L2.KOf KX) t:=by
   dsimp only [L2.KOf]                          -- K must stand as «<heap const> w.params» for k_is
   refine' My.txt_mk ?e1 ?e2 ?e3 ..
   (case e1=>PySem.W.k_is)                    -- in the order: a name -> its address -> its object -> its parts
   (case e2=>PySem.W.k_is)
   ..
  obtain⟨t,T⟩:=T
  have e0:=hmg.symm.trans (PySem.W.mg_of KX G T.law)
  cases e0                                       -- fa is the law's own address
  exact⟨_,fun s u=>.of_eq rfl,fun base kb nb=>My.law_fn T kb nb⟩     -- if «.of_eq rfl» comes too early: refine' ⟨_,?b,fun base kb nb=>My.law_fn T kb nb⟩; exact fun s u=>.of_eq rfl
 case S=>exact fun w H a ns hl hO hS=>..
 case C=>exact ..
(the tactic k_is has no namespace: write k_is) -/
namespace L2
open PySem PySem.Spec PyProof.Rows
def inClass (s:Stmt) (j:Nat):Stmt:=match s with
 | .ClassDef _ _ _ body _ _ _ _ _ _ _=>body.getD j (.Pass ⟨0,0,0,0⟩)
 | _=>.Pass ⟨0,0,0,0⟩
def defArgs (s:Stmt):Arguments:=match s with
 | .FunctionDef _ a _ _ _ _ _ _ _ _=>a
 | _=>{ posonlyargs:=[],args:=[],vararg:=none,kwonlyargs:=[],kw_defaults:=[],kwarg:=none,defaults:=[] }
def defBody (s:Stmt):List Stmt:=match s with
 | .FunctionDef _ _ b _ _ _ _ _ _ _=>b
 | _=>[]
def defScope (s:Stmt):Scope:=match s with
 | .FunctionDef _ _ _ _ _ _ sc _ _ _=>sc
 | _=>{ kind:=.function,names:=[],isGenerator:=false,isCoroutine:=false }
abbrev CX0:CXT:=fun _ _ _ _ _ _=>False
abbrev E0:XK:=fun _ _ _=>False
theorem pass0 {X:Cx}:Passes CX0 X E0:=fun _ _ _ _ _ _ _ h=>h.elim
structure Fun (K:PySem.W.Frag) (x qual:Str) (st:Stmt) (f:Addr) (fd:FuncData):Prop where
 ex:∃(oc:Value) (od:Option Addr) (kV doc pm:Value) (an:Option Addr) (cdv ct:Value) (osl:Array (Option Value)),
  fd=PySem.W.fnOf x qual (defArgs st) (defBody st) (defScope st) .none kV doc pm an cdv ct∧K.lookup f=some ⟨oc,od,.func fd,osl⟩∧PySem.W.codeIn K cdv qual=true
 kp:PySem.W.keepIn K (.ref f)=true
section
variable {P:Program} {w:World} {K:PySem.W.Frag} {mg:Str→Option Value} {base:Heap}
theorem Fun.ok {x qual:Str} {st:Stmt} {f:Addr} {fd:FuncData} {N ps:List Str} {k:Nat} {sp:Sp} (F:Fun K x qual st f fd) (S:FnScope N ps (defScope st)) (len:∀ vs H Q E,sp vs H Q E→vs.length=ps.length)
  (hbody:∀(cdv:Value) (A:Around) (outer:List Env) (s:Shared) (H:Hp) (vs:List V) (Q:VK) (E:XK),Room k (A.deeper (envOfC qual (defScope st) s.heap.objs.size f cdv))→sp vs H Q E →
   ∃ t,PSs (cxOf CX0 P w K mg base N qual (defScope st) f cdv A outer s H E).nox (defBody st) t∧t { nx:=fun _ H'=>Q .non H',rt:=Q } (start N vs) H):FnOk P w K mg base CX0 (k + 1) f fd ps sp:=by
 obtain⟨oc,od,kV,doc,pm,an,cdv,ct,osl,rfl,lk,hcd⟩:=F.ex
 refine fn_of lk hcd S len fun A outer s H vs Q E hr hsp=>?_
 obtain⟨t,h,q⟩:=hbody cdv A outer s H vs Q E hr hsp
 exact⟨t,h.nox,q⟩
theorem Fun.binds {x qual:Str} {st:Stmt} {f:Addr} {fd:FuncData} {ps:List Str} (F:Fun K x qual st f fd)
  (h:∀(kV doc pm:Value) (an:Option Addr) (cdv ct:Value) (us:List Value),us.length=ps.length→bindArgs (PySem.W.fnOf x qual (defArgs st) (defBody st) (defScope st) .none kV doc pm an cdv ct) ⟨us,[]⟩=pure (ps.zip us)):Binds K fd ps []:=by
 obtain⟨oc,od,kV,doc,pm,an,cdv,ct,osl,rfl,lk,hcd⟩:=F.ex
 exact .all (h kV doc pm an cdv ct)
theorem fun_mk {x qual:Str} {st:Stmt} {f:Addr} {oc:Value} {od an:Option Addr} {osl:Array (Option Value)} {kV doc pm cdv ct:Value} (l:K.lookup f=some ⟨oc,od,.func (PySem.W.fnOf x qual (defArgs st) (defBody st) (defScope st) .none kV doc pm an cdv ct),osl⟩)
  (c:PySem.W.codeIn K cdv qual=true) (k:PySem.W.keepIn K (.ref f)=true):Fun K x qual st f (PySem.W.fnOf x qual (defArgs st) (defBody st) (defScope st) .none kV doc pm an cdv ct):=⟨⟨oc,od,kV,doc,pm,an,cdv,ct,osl,rfl,l,c⟩,k⟩
end
theorem hu_of {A:Around} {k:Nat} (hr:Room k A):A.units + 1 < cLine:=y6 (Nat.add_le_add_left (by decide:1≤64) _) hr.units
theorem small1000 {n:Nat} (h:n≤1000):n < sizeLine:=y6 h (by decide)
section
variable {X:Cx}
theorem pv (i:Nat) {x:Str} {pos:Pos} (hN:X.N[i]?=some x:=by rfl) (hv:Vis X.env.scope x:=by first|exact Or.inl rfl|exact Or.inr (Or.inl rfl)|exact Or.inr (Or.inr rfl)) (hd:(x == ("__debug__":Str))=false:=by decide)
  (hcd:(x == ("__classdict__":Str))=false:=by decide):PE X (.Name x pos) (tVar i):=pe_var hN hv hd hcd
end
theorem iteF {A B:Prop} (h:B):if false=true then A else B:=by
 rw[if_neg zZ]
 exact h
theorem iteT {A B:Prop} (h:A):if true=true then A else B:=by
 rw[if_pos rfl]
 exact h
theorem ite2 {c A B:Prop} [Decidable c] (h1:c→A) (h2:¬ c→B):if c then A else B:=by
 by_cases h:c
 ·rw[if_pos h]
  exact h1 h
 ·rw[if_neg h]
  exact h2 h
def Same (H H':Hp):Prop:=∀ b o,H b=some o→H' b=some o
theorem Same.refl (H:Hp):Same H H:=fun _ _ h=>h
theorem Same.trans {H H1 H2:Hp} (a:Same H H1) (b:Same H1 H2):Same H H2:=fun c o h=>b c o (a c o h)
theorem Same.free {H H':Hp} (e:Same H H') {l:Addr} (h:H' l=Option.none):H l=Option.none:=by
 cases q:H l with
 | none=>rfl
 | some o =>
  rw[e l o q] at h
  cases h
theorem Same.seq {K:PySem.W.Frag} {H H':Hp} {a:Addr} {xs:List V} (e:Same H H') (h:SqL K H a xs):SqL K H' a xs:=by
 rcases h with (h|⟨o,h⟩)|h
 ·exact .inl (.inl (e _ _ h))
 ·exact .inl (.inr ⟨o,e _ _ h⟩)
 ·exact .inr h
end L2
namespace L2
open PySem PySem.Spec PyProof.Rows
section
variable {X:Cx}
end
section
variable {κ:Type} [DecidableEq κ]
end
end L2
namespace L2
open PySem PySem.Spec PyProof.Rows
theorem iteB {c:Bool} {A B:Prop} (h1:c=true→A) (h2:c=false→B):if c=true then A else B:=by
 cases c with
 | true=>exact iteT (h1 rfl)
 | false=>exact iteF (h2 rfl)
mutual
inductive Dt (K:PySem.W.Frag) (H:Hp):Nat→V→PyData→Prop
 | non (n:Nat):Dt K H n .non .none
 | bl (n:Nat) (b:Bool):Dt K H n (.bl b) (.bool b)
 | int (n:Nat) (i:Int):Dt K H n (.int i) (.int i)
 | str (n:Nat) (x:Str) (h:PyData.canLay0 (.str x)=true):Dt K H n (.str x) (.str x)
 | lst {n:Nat} {a:Addr} {xs:List V} {ds:List PyData} (h:SqL K H a xs) (r:DtAll K H n xs ds):Dt K H (n + 1) (.ref a) (.list ds)
 | tup {n:Nat} {a:Addr} {xs:List V} {ds:List PyData} (h:SqT K H a xs) (r:DtAll K H n xs ds):Dt K H (n + 1) (.ref a) (.tuple ds)
inductive DtAll (K:PySem.W.Frag) (H:Hp):Nat→List V→List PyData→Prop
 | nil (n:Nat):DtAll K H n [] []
 | cons {n:Nat} {x:V} {d:PyData} {xs:List V} {ds:List PyData} (h:Dt K H n x d) (r:DtAll K H n xs ds):DtAll K H n (x::xs) (d::ds)
end
mutual
theorem Dt.reads {X:Cx} {pins:List (Addr × Obj)} {σ:St} {H:Hp} {s:Shared} (I:Inv X pins σ H s):∀ {n:Nat} {x:V} {d:PyData} {u:Value},Dt X.K H n x d→RelV x u→(∃ as,Reads s.heap u d as)∧d.canLay0=true∧d.depth≤n
 | _,_,_,_,.non n,r=>by cases r; exact⟨⟨_,.none⟩,rfl,by simp [PyData.depth]⟩
 | _,_,_,_,.bl n b,r=>by cases r; exact⟨⟨_,.bool b⟩,rfl,by simp [PyData.depth]⟩
 | _,_,_,_,.int n i,r=>by obtain⟨t,rfl⟩:=r; exact⟨⟨_,.int i t⟩,rfl,by simp [PyData.depth]⟩
 | _,_,_,_,.str n x h,r=>by obtain⟨t,rfl⟩:=r; exact⟨⟨_,.str x t⟩,h,by simp [PyData.depth]⟩
 | _,_,_,_,.lst h ra,r=>by
  cases r
  obtain⟨its,rv,pl,_⟩:=I.list h
  obtain⟨⟨as,q⟩,c,dp⟩:=DtAll.reads I ra rv
  obtain⟨o,ho,hc,k,hd⟩:=pl.isList
  exact⟨⟨_,.list ho hc hd (by simpa using q)⟩,c,by simp only [PyData.depth]; omega⟩
 | _,_,_,_,.tup h ra,r=>by
  cases r
  obtain⟨its,rv,pl,_⟩:=I.tuple h
  obtain⟨⟨as,q⟩,c,dp⟩:=DtAll.reads I ra rv
  obtain⟨o,ho,hc,k,hd⟩:=pl
  exact⟨⟨_,.tuple ho hc hd (by simpa using q)⟩,c,by simp only [PyData.depth]; omega⟩
theorem DtAll.reads {X:Cx} {pins:List (Addr × Obj)} {σ:St} {H:Hp} {s:Shared} (I:Inv X pins σ H s):∀ {n:Nat} {xs:List V} {ds:List PyData} {us:List Value},DtAll X.K H n xs ds→Vals xs us →
  (∃ as,ReadsAll s.heap us ds as)∧PyData.canLayAll0 ds=true∧PyData.depthAll ds≤n
 | _,_,_,_,.nil n,r=>by cases r; exact⟨⟨_,.nil⟩,rfl,by simp [PyData.depthAll]⟩
 | _,_,_,_,.cons h ra,r=>by
  cases r with
  | cons r1 r2 =>
   obtain⟨⟨as,q⟩,c,dp⟩:=Dt.reads I h r1
   obtain⟨⟨bs,q2⟩,c2,dp2⟩:=DtAll.reads I ra r2
   exact⟨⟨_,.cons q q2⟩,by simp [PyData.canLayAll0,c,c2],by simp only [PyData.depthAll]; omega⟩
end
section
variable {X:Cx}
inductive rEqD (K:PySem.W.Frag) (x:V) (y:V) (H:Hp) (Q:VK):Prop where
 | mk (d e n:_) (h_0:Dt K H n x d) (h_1:Dt K H n y e) (h_2:n≤64) (h_3:Q (.bl (PyData.eqv d e)) H):rEqD K x y H Q
inductive rNeD (K:PySem.W.Frag) (x:V) (y:V) (H:Hp) (Q:VK):Prop where
 | mk (d e n:_) (h_0:Dt K H n x d) (h_1:Dt K H n y e) (h_2:n≤64) (h_3:Q (.bl (!PyData.eqv d e)) H):rNeD K x y H Q
theorem op_eqD (hu:X.A.units + 64 < cLine):OpR X (compareOp .Eq) (rEqD X.K):=by
 intro pins s σ H x y v u Q I rx ry h
 obtain⟨d,e,n,hd,he,hn,q⟩:=h
 obtain⟨⟨as,ra⟩,ca,da⟩:=hd.reads I rx
 obtain⟨⟨bs,rb⟩,cb,db⟩:=he.reads I ry
 exact SeqAt.compareEq_reads ra rb ca cb (by omega) ⟨.bl _,H,I,rfl,q⟩
theorem op_neD (hu:X.A.units + 64 < cLine):OpR X (compareOp .NotEq) (rNeD X.K):=by
 intro pins s σ H x y v u Q I rx ry h
 obtain⟨d,e,n,hd,he,hn,q⟩:=h
 obtain⟨⟨as,ra⟩,ca,da⟩:=hd.reads I rx
 obtain⟨⟨bs,rb⟩,cb,db⟩:=he.reads I ry
 exact SeqAt.rcNeAt_reads ra rb ca cb (by omega) X.prog X.w X.xe _ ⟨.bl _,H,I,rfl,q⟩
inductive rIsiT (K:PySem.W.Frag) (xs:List V) (H:Hp) (Q:VK):Prop where
 | mk (x n t b:_) (h_0:xs=[x,.ty n]) (h_1:TyOf K H x t) (h_2:PySem.W.kitOne K t (.type n)=some b) (h_3:Q (.bl b) H):rIsiT K xs H Q
theorem call_isiT:CallR X (.builtin "isinstance") (rIsiT X.K):=by
 intro pins s σ H xs us Q I r h
 obtain⟨x,n,t,b,rfl,ty,e,q⟩:=h
 obtain⟨v,w',rfl,rv,rw'⟩:=vals2 r
 cases rw'
 exact isinst_ok I rv ty e fun tk=>⟨.bl b,H,I.tok tk,rfl,q⟩
structure ClsM (K:PySem.W.Frag) (C:Addr) (m:Str) (f:Addr):Prop where
 ga:PySem.W.specialIn K (.ref C) "__getattribute__"=some (some (.builtin "type.__getattribute__"))
 mc:∃ mc,PySem.W.readsIn K C mc=true∧PySem.W.findCls K (.ref C) mc m=some (.val (.ref f))
 kp:PySem.W.keepIn K (.ref f)=true
theorem pe_clsm {CX:CXT} {k:Nat} {f C:Addr} {fd:FuncData} {ps:List Str} {sp:Sp} {dvs:List V} {ds:List Value} {E:XK} {x m:Str} {p pos apos:Pos} {e:Expr} {es:List Expr} {t:TA} {pl:Sem Bool}
  (hg:Gl X x) (hm:X.mg x=some (.ref C)) (c:ClsM X.K C m f) (F:FnOk X.prog X.w X.K X.mg X.base CX k f fd ps sp) (hr:Room k X.A) (hb:Binds X.K fd ps ds) (hd:Vals dvs ds) (hx:Passes CX X E) (ha:PA X (e::es) t)
  (hdb:(x == ("__debug__":Str))=false:=by decide) (hst:starEach (e::es) X.env=(false,eval e X.env)::starEach es X.env:=by rfl) (hpl:(backTo pos (starEach es X.env)).any (·.1)=false:=by rfl)
  (ht:eval (.Call (.Attribute (.Name x p) m apos) (e::es) [] pos) X.env=(do
   let ov ← eval (.Name x p) X.env
   standAt apos.atName
   let (f,first) ← holding [ov] (getMethod ov m pl)
   callWith pos f first (backTo pos (starEach (e::es) X.env)) (backToKw pos (keywordEach [] X.env))):=by rfl) :
  PE X (.Call (.Attribute (.Name x p) m apos) (e::es) [] pos) (tCall sp dvs E t):=by
 intro pins s σ H Q I h
 refine PySem.W.methodCall_KW (pl:=pl) (ld_glob I hg hm ?_ hdb) ht
 obtain⟨mc,h1,h2⟩:=c.mc
 refine PySem.W.method_cls I.kIn c.ga (PySem.W.cls_value I.kIn h1 h2 rfl ?_)
 have I1:Inv X pins σ H { s with toks:=s.toks + 1 }:=I.tok _
 refine PySem.W.callWith_K (first:=[]) (h₀:=X.base) I.ok.mod.kin c.kp (thn (ha pos pins _ σ H _ I1 h) fun us s2 ⟨vs,H2,I2,r,q2⟩=>⟨I2.kIn,?_⟩) hst hpl
 exact run_fn (us:=us) (vs:=vs) F hr hb hd hx I2 r q2
end
end L2
namespace L2
open PySem PySem.Spec PyProof.Rows
theorem bt_len:bootBuiltins "len"=some (.builtin "len"):=by decide +kernel
theorem bt_isinstance:bootBuiltins "isinstance"=some (.builtin "isinstance"):=by decide +kernel
theorem bt_list:bootBuiltins "list"=some (.type "list"):=by decide +kernel
theorem bt_tuple:bootBuiltins "tuple"=some (.type "tuple"):=by decide +kernel
theorem bt_min:bootBuiltins "min"=some (.builtin "min"):=by decide +kernel
theorem bt_any:bootBuiltins "any"=some (.builtin "any"):=by decide +kernel
theorem bt_all:bootBuiltins "all"=some (.builtin "all"):=by decide +kernel
theorem bt_sorted:bootBuiltins "sorted"=some (.builtin "sorted"):=by decide +kernel
structure FnAt (P:Program) (w:World) (K:PySem.W.Frag) (mg:Str→Option Value) (base:Heap) (k:Nat) (x:Str) (ps:List Str) (sp:Sp):Prop where
 ex:∃(f:Addr) (fd:FuncData),FnOk P w K mg base CX0 k f fd ps sp∧mg x=some (.ref f)∧PySem.W.keepIn K (.ref f)=true∧Binds K fd ps []
structure MethAt (P:Program) (w:World) (K:PySem.W.Frag) (mg:Str→Option Value) (base:Heap) (k:Nat) (C:Addr) (m:Str) (ps:List Str) (sp:Sp):Prop where
 ex:∃(f:Addr) (fd:FuncData),FnOk P w K mg base CX0 k f fd ps sp∧Meth K C m f∧Binds K fd ps []
 cls:Cls K C
structure MkAt (P:Program) (w:World) (K:PySem.W.Frag) (mg:Str→Option Value) (base:Heap) (k:Nat) (x:Str) (C:Addr) (ps:List Str) (sp:Sp):Prop where
 ex:∃(f:Addr) (fd:FuncData),FnOk P w K mg base CX0 k f fd ps sp∧Mk K C f∧Binds K fd ps []
 mg:mg x=some (.ref C)
structure ClsAt (P:Program) (w:World) (K:PySem.W.Frag) (mg:Str→Option Value) (base:Heap) (k:Nat) (C:Addr) (m:Str) (ps:List Str) (sp:Sp):Prop where
 ex:∃(f:Addr) (fd:FuncData),FnOk P w K mg base CX0 k f fd ps sp∧ClsM K C m f∧Binds K fd ps []
section
variable {X:Cx} {k:Nat} {ps:List Str} {sp:Sp} {x m:Str} {C:Addr} {p pos apos:Pos} {e o:Expr} {es:List Expr} {t:TA} {ta:TE}
theorem pe_fn (G:FnAt X.prog X.w X.K X.mg X.base k x ps sp) (hr:Room k X.A) (hg:Gl X x) (ha:PA X (e::es) t) (hdb:(x == ("__debug__":Str))=false:=by decide)
  (he:starEach (e::es) X.env=(false,eval e X.env)::starEach es X.env:=by rfl) (hpl:(backTo pos (starEach es X.env)).any (·.1)=false:=by rfl) :
  PE X (.Call (.Name x p) (e::es) [] pos) (tCall sp [] E0 t):=by
 obtain⟨f,fd,F,hm,hk,hb⟩:=G.ex
 exact pe_call F hr hg hm hk hb .nil pass0 ha hdb he hpl
theorem pe_mth {pl:Sem Bool} (G:MethAt X.prog X.w X.K X.mg X.base k C m ps sp) (hr:Room k X.A) (he:PE X o ta) (ha:PA X (e::es) t)
  (hst:starEach (e::es) X.env=(false,eval e X.env)::starEach es X.env:=by rfl) (hpl:(backTo pos (starEach es X.env)).any (·.1)=false:=by rfl)
  (ht:eval (.Call (.Attribute o m apos) (e::es) [] pos) X.env=(do
   let ov ← eval o X.env
   standAt apos.atName
   let (f,first) ← holding [ov] (getMethod ov m pl)
   callWith pos f first (backTo pos (starEach (e::es) X.env)) (backToKw pos (keywordEach [] X.env))):=by rfl) :
  PE X (.Call (.Attribute o m apos) (e::es) [] pos) (tMeth C m sp [] E0 ta t):=by
 obtain⟨f,fd,F,hm,hb⟩:=G.ex
 exact pe_meth (pl:=pl) he G.cls hm F hr hb .nil pass0 ha hst hpl ht
theorem pe_mk (M:MkAt X.prog X.w X.K X.mg X.base k x C ps sp) (hr:Room (k + 1) X.A) (hg:Gl X x) (ha:PA X (e::es) t) (hdb:(x == ("__debug__":Str))=false:=by decide)
  (he:starEach (e::es) X.env=(false,eval e X.env)::starEach es X.env:=by rfl) (hpl:(backTo pos (starEach es X.env)).any (·.1)=false:=by rfl) :
  PE X (.Call (.Name x p) (e::es) [] pos) (tMake C sp [] E0 t):=by
 obtain⟨f,fd,F,hm,hb⟩:=M.ex
 exact pe_make hm F hr hg M.mg hb .nil pass0 ha hdb he hpl
theorem pe_clsm' {pl:Sem Bool} (hg:Gl X x) (hm:X.mg x=some (.ref C)) (G:ClsAt X.prog X.w X.K X.mg X.base k C m ps sp) (hr:Room k X.A) (ha:PA X (e::es) t)
  (hdb:(x == ("__debug__":Str))=false:=by decide) (hst:starEach (e::es) X.env=(false,eval e X.env)::starEach es X.env:=by rfl) (hpl:(backTo pos (starEach es X.env)).any (·.1)=false:=by rfl)
  (ht:eval (.Call (.Attribute (.Name x p) m apos) (e::es) [] pos) X.env=(do
   let ov ← eval (.Name x p) X.env
   standAt apos.atName
   let (f,first) ← holding [ov] (getMethod ov m pl)
   callWith pos f first (backTo pos (starEach (e::es) X.env)) (backToKw pos (keywordEach [] X.env))):=by rfl) :
  PE X (.Call (.Attribute (.Name x p) m apos) (e::es) [] pos) (tCall sp [] E0 t):=by
 obtain⟨f,fd,F,c,hb⟩:=G.ex
 exact pe_clsm (pl:=pl) hg hm c F hr hb .nil pass0 ha hdb hst hpl ht
end
def Keep (L:List Addr) (H H':Hp):Prop:=∀ b o,H b=some o→b ∉ L→H' b=some o
theorem Same.upd {H H':Hp} {p:Addr} {o:HO} (h:Same H H') (n:H p=none):Same H (upd H' p o):=fun b u e=>by
 rw[upd_ne (ne_of_none e n)]
 exact h b u e
theorem Same.new {H:Hp} {p:Addr} {o:HO} (n:H p=none):Same H (L2.upd H p o):=(Same.refl H).upd n
theorem Same.tup {K:PySem.W.Frag} {H H':Hp} {a:Addr} {xs:List V} (e:Same H H') (h:SqT K H a xs):SqT K H' a xs:=by
 rcases h with (h|⟨o,h⟩)|h
 ·exact .inl (.inl (e _ _ h))
 ·exact .inl (.inr ⟨o,e _ _ h⟩)
 ·exact .inr h
theorem ints_get {ns:List Int} {i:Nat} {y:V} (h:(ns.map V.int)[i]?=some y):∃ z,y=V.int z∧ns[i]?=some z:=by
 rw[zF] at h
 cases e:ns[i]? with
 | none=>rw[e] at h; cases h
 | some z=>rw[e] at h; exact⟨z,(Option.some.inj h).symm,rfl⟩
end L2
namespace L2
open PySem PySem.Spec PyProof.Rows
theorem ixT {K:PySem.W.Frag} {H:Hp} {p:Addr} {xs:List V} {i:Int} {v:V} {Q:VK} (h:H p=some (.tup xs)) (e:atI xs i=some v) (q:Q v H):rIxT K (.ref p) (.int i) H Q:=⟨p,xs,i,v,rfl,rfl,SqT.of h,e,q⟩
theorem tyL {K:PySem.W.Frag} {H:Hp} {p:Addr} {xs:List V} (h:H p=some (.lst xs)):tyV K "list" (.ref p) H:=.inl ⟨rfl,xs,SqL.of h⟩
theorem atI_map {α β:Type} {rs:List α} {f:α→β} {k:Int} {j:Nat} {r:α} (hk:k=(j:Int)) (h:rs[j]?=some r):atI (rs.map f) k=some (f r):=by
 rw[hk]
 exact atI_nat (by rw[zF,h]; rfl)
theorem Keep.same {L:List Addr} {H H':Hp} (h:Same H H'):Keep L H H':=fun b o e _=>h b o e
theorem Keep.upd {L:List Addr} {H H':Hp} {a:Addr} {o:HO} (h:Keep L H H') (ha:a ∈ L):Keep L H (L2.upd H' a o):=fun b u e hb=>by
 rw[upd_ne (fun z=>hb (by rw[z]; exact ha))]
 exact h b u e hb
theorem Keep.new {L:List Addr} {H H':Hp} {a:Addr} {o:HO} (h:Keep L H H') (n:H a=none):Keep L H (L2.upd H' a o):=fun b u e hb=>by
 rw[upd_ne (ne_of_none e n)]
 exact h b u e hb
end L2
namespace L2
open PySem PySem.Spec PyProof.Rows
inductive Each {α:Type} (P:α→Prop):List α→Prop
 | nil:Each P []
 | cons {a:α} {l:List α}:P a→Each P l→Each P (a::l)
theorem Each.mem {α:Type} {P:α→Prop}:∀ {l:List α},Each P l→∀ a ∈ l,P a
 | _,.nil,_,h=>absurd h zK
 | _,.cons p r,a,h=>by
  rcases zS.mp h with e|e
  ·rw[e]; exact p
  ·exact r.mem a e
def Cx.comp (X:Cx) (scope:Scope) (cl:List (Str × Addr)) (C:Addr) (fp:List Addr) (N':List Str) (s2:Shared) (H2:Hp):Cx where
 prog:=X.prog
 w:=X.w
 K:=X.K
 mg:=X.mg
 base:=X.base
 A:=X.A
 N:=N'
 s₀:=s2
 H₀:=H2
 env:=compEnvC scope cl C X.env
 outer:=X.stack
 stack:=X.stack
 ex:=fp
 fn:=fun _=>false
 calm:=X.calm
 pn:=[]
 xe:=fun _ _=>False
structure CompOk (X:Cx) (scope:Scope) (cl:List (Str × Addr)) (own fr:List Str) (js:List Nat):Prop where
 kind:scope.kind=.function
 clos:closureFor scope X.env=pure cl
 nocell:∀ y ∈ scope.names,y.2 ≠ .cell
 names:∀ y ∈ scope.names,y.2=.local→scope.names.lookup y.1=some .local
 cells:Each (fun(p:Str × Addr)=>X.env.cells.lookup p.1=some p.2) cl
 has:Each (fun(p:Str × NameKind)=>((p.2 != .cell && p.2 != .free) || (cl.lookup p.1).isSome)=true) (relabel scope X.env).names
 fr:Paired (fun(x:Str) (j:Nat)=>X.N[j]?=some x∧(X.env.kindOf x=some .cell∨X.env.kindOf x=some .free)∧((relabel scope X.env).names.lookup x=some .cell∨(relabel scope X.env).names.lookup x=some .free)) fr js
 calm:X.calm=true
def blk (own:List Str) (js:List Nat) (σ:St):St:=own.map (fun _=>none)++js.map fun j=>(σ[j]?).join
theorem _root_.PySem.Paired.getL {α β:Type} {F:α→β→Prop}:∀ {l₁:List α} {l₂:List β} {i:Nat} {a:α},Paired F l₁ l₂→l₁[i]?=some a→∃ b,l₂[i]?=some b∧F a b
 | _,_,_,_,.nil,e=>by simp at e
 | _,_,0,_,.cons r _,e=>by simp at e; subst e; exact⟨_,rfl,r⟩
 | _,_,i + 1,a,.cons _ t,e=>by
  obtain⟨u,h1,h2⟩:=PySem.Paired.getL (i:=i) (a:=a) t (by simpa using e)
  exact⟨u,by simpa using h1,h2⟩
section
variable {X:Cx} {scope:Scope} {cl:List (Str × Addr)} {own fr:List Str} {js:List Nat} {pins:List (Addr × Obj)} {σ:St} {H:Hp} {s:Shared}
theorem CompOk.cell (c:CompOk X scope cl own fr js) {x:Str} {a:Addr} (h:cl.lookup x=some a):X.env.cells.lookup x=some a:=c.cells.mem _ (PySem.mem_of_lookup h)
theorem Inv.block (c:CompOk X scope cl own fr js) (I:Inv X pins σ H s) {fp:List Addr} (hf:∀ b ∈ fp,FpOk X pins H b∧b < s.heap.objs.size) {h':Heap} {C D:Addr} {m:Str→Option Value} {t':Nat}
  (k:∀ b o,s.heap.get? b=some o→h'.get? b=some o) (hC:s.heap.objs.size≤C) (hD:s.heap.objs.size≤D) (hDC:D ≠ C) (ns:h'.Ns C m) (hl:h'.get? D=some { cls:=.type "list",data:=.seq #[] }) :
  Inv (X.comp scope cl C fp (own++fr) s H) [] (blk own js σ) (upd H D (.lst [])) { s with heap:=h',toks:=t' }:=by
 have fC:H C=none:=I.hok.fresh hC
 have lt:∀ {b:Addr} {o:Obj},s.heap.get? b=some o→b < s.heap.objs.size:=fun e=>Heap.lt_size e
 have cne:∀ x a,cl.lookup x=some a→∃ v,s.heap.IsCell a v:=fun x a e=>I.cell x a (c.cell e)
 refine⟨⟨I.ok.mod,c.kind,I.ok.glob,I.ok.blt,hC,fun x y a h1 h2=>I.ok.inj x y a (c.cell h1) (c.cell h2),fun x hx=>?_,fun x a z=>(by cases z),I.ok.hd,I.ok.frames,.inl rfl,fun b hb=>⟨?_,fun x a e=>?_⟩,I.bs,z9 I.ok.bsz I.sz,fun b o e hb=>?_,fun b hb hz=>?_,I.stack,I.stkFree⟩,
  rfl,I.bare,?_,⟨m,ns,fun i x v h1 h2 h3=>?_⟩,fun x a e=>?_,?_,fun x a e=>?_,fun p hp=>absurd (show p ∈ ([]:List (Addr × Obj)) from hp) zK,?_,?_⟩
 ·have hx':(relabel scope X.env).names.lookup x=some .cell∨(relabel scope X.env).names.lookup x=some .free:=hx
  have z:∀ kd,(relabel scope X.env).names.lookup x=some kd→(kd=.cell∨kd=.free)→∃ a,cl.lookup x=some a:=fun kd e1 e2=>by
   have q:=c.has.mem _ (PySem.mem_of_lookup e1)
   rcases e2 with e2|e2 <;> subst e2 <;> exact jL.mp q
  rcases hx' with h|h
  ·exact z _ h (.inl rfl)
  ·exact z _ h (.inr rfl)
 ·exact zY (zU (hf b hb).2 hC)
 ·exact(hf b hb).1.2.2.2.2.1 x a (c.cell e)
 ·rcases(hf b hb).1.2.2.2.1 with z|z
  ·exact I.ok.noex b o e z
  ·exact absurd (zU (Heap.lt_size e) (z9 I.ok.bsz z)) (qS _)
 ·rcases zS.mp (I.stkSub b hz) with z|z
  ·exact(hf b hb).1.2.1 z
  ·exact(hf b hb).1.2.2.1 z
 ·exact Un.laid k hD (I.hok.fresh hD)
 ·-- the names that it shares
  have hi:own.length≤i:=by
   by_cases q:own.length≤i
   ·exact q
   ·unfold blk at h2
    rw[yI (by rw[zD]; omega),zF] at h2
    cases e:own[i]? with
    | none=>rw[e] at h2; cases h2
    | some z=>rw[e] at h2; cases h2
  have h1':fr[i - own.length]?=some x:=by
   have q:(own++fr)[i]?=some x:=h1
   rw[zQ hi] at q
   exact q
  obtain⟨j,hj,hN,hk,hr⟩:=c.fr.getL h1'
  have h2':σ[j]?=some (some v):=by
   unfold blk at h2
   rw[zQ (by rw[zD]; exact hi),zD,zF,hj] at h2
   have q:some ((σ[j]?).join)=some (some v):=h2
   have q':=Option.some.inj q
   cases e:σ[j]? with
   | none=>rw[e] at q'; cases q'
   | some z=>rw[e] at q'; rw[show z=some v from q']
  obtain⟨m0,hn0,hl0⟩:=I.loc
  obtain⟨u,r,l⟩:=hl0 j x v hN h2' (hk.elim (fun z=>.inr (.inl z)) fun z=>.inr (.inr z))
  refine⟨u,r,.inr ⟨hr,?_⟩⟩
  rcases l with ⟨hk',_⟩|⟨_,a,ea,ca⟩
  ·rcases hk with z|z <;> (rw[hk'] at z; cases z)
  ·have hx':∃ b,cl.lookup x=some b:=by
    have z:∀ kd,(relabel scope X.env).names.lookup x=some kd→(kd=.cell∨kd=.free)→∃ a,cl.lookup x=some a:=fun kd e1 e2=>by
     have q:=c.has.mem _ (PySem.mem_of_lookup e1)
     rcases e2 with e2|e2 <;> subst e2 <;> exact jL.mp q
    rcases hr with h|h
    ·exact z _ h (.inl rfl)
    ·exact z _ h (.inr rfl)
   obtain⟨b,eb⟩:=hx'
   have eab:=c.cell eb
   rw[ea] at eab
   cases eab
   obtain⟨o,ho,hd⟩:=ca
   exact⟨a,eb,o,k _ _ ho,hd⟩
 ·obtain⟨v,o,ho,hd⟩:=cne x a e
  exact⟨v,o,k _ _ ho,hd⟩
 ·show upd H D (.lst []) C=none
  rw[upd_ne hDC.symm]; exact fC
 ·obtain⟨v,o,ho,hd⟩:=cne x a e
  rw[upd_ne (zY (zU (lt ho) hD))]
  exact I.freeC x a (c.cell e)
 ·exact I.hok.laid k hD ⟨z5 _,[],0,.nil,hl⟩
 ·unfold blk
  show _=(own++fr).length
  have:=c.fr.length
  rw[zM,zM,zD,zD]
  omega
theorem Inv.unblock (I:Inv X pins σ H s) {fp:List Addr} (hf:∀ b ∈ fp,FpOk X pins H b) {N':List Str} {C:Addr} {pl:List (Addr × Obj)} {σ':St} {H':Hp} {s':Shared}
  (J:Inv (X.comp scope cl C fp N' s H) pl σ' H' s'):Inv X pins σ H' s' :=
 I.call' (ch:=fp) J.os J.base J.hok J.bare fun b hb=>⟨(hf b hb).2.2.2.1,(hf b hb).2.1,(hf b hb).2.2.2.2.1,(hf b hb).2.2.2.2.2⟩
end
def PTs (X:Cx) (ifs:List Expr) (t:TT):Prop :=
 ∀(pins:List (Addr × Obj)) (s:Shared) (σ:St) (H:Hp) (Q:Bool→Hp→Prop),Inv X pins σ H s→t σ H Q →
  wpAny (model X.prog X.w) X.A (forIn ifs true fun c r=>if r=true then do let ok ← isTrue c X.env (eval c X.env); pure (ForInStep.yield ok) else pure (ForInStep.yield r)) (TP X pins σ Q) X.xe s
def tTrue:TT:=fun _ H Q=>Q true H
theorem pts_nil {X:Cx}:PTs X [] tTrue:=fun _ _ _ H _ I h=>wpAny_tests_nil ⟨H,I,h⟩
theorem pts_one {X:Cx} {c:Expr} {t:TT} (h:PT X c t):PTs X [c] t:=fun pins s σ H Q I q=>wpAny_tests_one (h pins s σ H Q I q)
def CompW (J:It) (D:Addr) (σ0:St) (g:TG) (tc:TT) (te:TE) (H1:Hp) (Q:Hp→Prop):Prop :=
 ∃ W:Nat→Nat→Hp→Prop,(∃ m,W 0 m (upd H1 D (.lst [])))∧∀ i m H,W i m H →
  (J.stop i H∧Q H)∨(J.go i H∧∀ x H',J.yld i H x H'→g x σ0 H' fun σ2 H2=>tc σ2 H2 fun b H3 =>
   if b=true then te σ2 H3 fun y H4=>∃ ys,H4 D=some (.lst ys)∧ys.length < sizeLine∧∃ m',m' < m∧W (i + 1) m' (upd H4 D (.lst (ys++[y]))) else ∃ m',m' < m∧W (i + 1) m' H3)
section
variable {X:Cx} {elt iter tg:Expr} {ifs:List Expr} {scope:Scope} {cl:List (Str × Addr)} {own fr:List Str} {js:List Nat} {wi:TI} {g:TG} {tc:TT} {te:TE} {pos:Pos}
theorem comp_loop {pins:List (Addr × Obj)} {σ:St} {H1:Hp} {s1:Shared} {it:Addr} {fp:List Addr} {tn:Nat→Heap→Prop} {J:It} {C D:Addr} {h':Heap} {m:Str→Option Value} {t':Nat} {Q:Hp→Prop} {R:Result→Shared→Prop}
  (c:CompOk X scope cl own fr js) (I:Inv X pins σ H1 s1) (T:Turn X.prog X.w X.K tg J fp it tn) (st:tn 0 s1.heap) (hf:∀ b ∈ fp,FpOk X pins H1 b)
  (hg:PG (X.comp scope cl C fp (own++fr) s1 H1) tg g) (hc:PTs (X.comp scope cl C fp (own++fr) s1 H1) ifs tc) (he:PE (X.comp scope cl C fp (own++fr) s1 H1) elt te)
  (k:∀ b o,s1.heap.get? b=some o→h'.get? b=some o) (hC:s1.heap.objs.size≤C) (hD:s1.heap.objs.size≤D) (hDC:D ≠ C) (ns:h'.Ns C m) (hl:h'.get? D=some { cls:=.type "list",data:=.seq #[] })
  (q:CompW J D (blk own js σ) g tc te H1 Q)
  (fin:∀ H' s' m',Inv X pins σ H' s'→s'.heap.Ns C m'→H' C=none→Q H'→R (.ok .next) s') :
  codeAny (model X.prog X.w) X.A (.compLoop (.ListComp elt [⟨tg,iter,ifs,0⟩] scope pos) 0 (.ref it) (.ref D) (compEnvC scope cl C X.env)) R { s1 with heap:=h',toks:=t' }:=by
 have hf2:∀ b ∈ fp,FpOk X pins H1 b∧b < s1.heap.objs.size:=fun b hb=>by
  obtain⟨o,e,_⟩:=T.obj _ _ st b hb
  exact⟨hf b hb,Heap.lt_size e⟩
 have J0:Inv (X.comp scope cl C fp (own++fr) s1 H1) [] (blk own js σ) (upd H1 D (.lst [])) { s1 with heap:=h',toks:=t' }:=I.block c hf2 k hC hD hDC ns hl
 have fpN:∀ b ∈ fp,(upd H1 D (.lst [])) b=none:=fun b hb=>by
  rw[upd_ne (zY (zU (hf2 b hb).2 hD))]
  exact(hf b hb).1
 have st0:tn 0 h':=T.keep _ _ _ st fun b _ o e=>k b o e
 obtain⟨W,⟨m0,w0⟩,turn⟩:=q
 have stat:∀ {H':Hp},(∀ b ∈ fp,H' b=none)→∀ b ∈ fp,FpOk (X.comp scope cl C fp (own++fr) s1 H1) [] H' b:=fun hn b hb=>by
  refine⟨hn b hb,zY (zU (hf2 b hb).2 hC),fun z=>?_,.inl hb,fun x a e=>(hf b hb).2.2.2.2.1 x a (c.cell e),fun p hp=>absurd (show p ∈ ([]:List (Addr × Obj)) from hp) zK⟩
  rcases zS.mp (I.stkSub b z) with z|z
  ·exact(hf b hb).2.1 z
  ·exact(hf b hb).2.2.1 z
 refine codeAny_loop rfl (fun n s'=>∃ i H',Inv (X.comp scope cl C fp (own++fr) s1 H1) [] (blk own js σ) H' s'∧tn i s'.heap∧(∀ b ∈ fp,H' b=none)∧W i n H') ?_ m0 ⟨0,_,J0,st0,fpN,w0⟩
 rintro n s3 ⟨i,H3,I3,st3,fr3,w3⟩
 show wpAny _ X.A ((compTurn (.ListComp elt [⟨tg,iter,ifs,0⟩] scope pos) 0 (.ref it) (.ref D) (compEnvC scope cl C X.env)).onRaise (fun x=>do noteFrame x (compEnvC scope cl C X.env); theTreesLotGoes x)) _ _ s3
 refine wpAny_noted ?_
 rw[compTurn_list]
 have weak:∀ {α:Type} {tr:Sem α} {Q':α→Shared→Prop} {E':Value→Shared→Prop} {s':Shared},wpAny (model X.prog X.w) X.A tr Q' (fun _ _=>False) s'→wpAny (model X.prog X.w) X.A tr Q' E' s':=fun h=>wpAny_mono h (fun _ _ z=>z) fun _ _ z=>z.elim
 refine wpAny_bind (wpAny_standAt (wpAny_bind ?_))
 rcases turn i n H3 w3 with ⟨stop,qn⟩|⟨go,step⟩
 ·refine weak (thn (T.done (X.comp scope cl C fp (own++fr) s1 H1) rfl rfl rfl c.calm i [] s3 _ H3 _ I3 (stat fr3) st3 stop) fun r s4 ⟨hr,I4⟩=>?_)
  subst hr
  refine wpAny_pure ?_
  obtain⟨m',hn',_⟩:=I4.loc
  exact fin H3 s4 m' (I.unblock hf I4) hn' I4.free qn
 ·refine weak (thn (T.item (X.comp scope cl C fp (own++fr) s1 H1) rfl rfl rfl c.calm i [] s3 _ H3 _ I3 (stat fr3) st3 go) fun r s4 ⟨u,hr,h4⟩=>?_)
  subst hr
  refine wpAny_bind (weak (thn h4 fun _ s5 ⟨x,H5,I5,r5,y5,st5,fr5⟩=>?_))
  have I5':=I5.pinned (stat fr5) (T.obj _ _ st5)
  refine wpAny_bind (weak (thn (hg _ s5 _ H5 x u _ I5' r5 (step x H5 y5)) fun _ s6 ⟨σ6,H6,I6,q6⟩=>?_))
  have back:∀ {σ7:St} {H7:Hp} {s7:Shared} {m':Nat},Inv (X.comp scope cl C fp (own++fr) s1 H1) ([]++pinsAt fp s5.heap) σ7 H7 s7→m' < n→W (i + 1) m' H7→Inv (X.comp scope cl C fp (own++fr) s1 H1) [] (blk own js σ) H7 s7 →
    ∃ m,m < n∧∃ i H',Inv (X.comp scope cl C fp (own++fr) s1 H1) [] (blk own js σ) H' s7∧tn i s7.heap∧(∀ b ∈ fp,H' b=none)∧W i m H':=fun {σ7 H7 s7 m'} I7 hm w7 I8=>by
   refine⟨m',hm,i + 1,H7,I8,T.keep _ _ _ st5 fun b hb o e=>(I7.pin (b,o) (zR _ (zR _ (mem_pinsAt hb e)))).1,fun b hb=>?_,w7⟩
   obtain⟨o,e,d⟩:=T.obj _ _ st5 b hb
   exact(I7.pin (b,o) (zR _ (zR _ (mem_pinsAt hb e)))).2.1
  have anew:∀ {σ7:St} {H7:Hp} {s7:Shared} {pl:List (Addr × Obj)},Inv (X.comp scope cl C fp (own++fr) s1 H1) pl σ7 H7 s7→Inv (X.comp scope cl C fp (own++fr) s1 H1) [] (blk own js σ) H7 s7:=fun {σ7 H7 s7 pl} I7=>by
   have IX:=I.unblock hf I7
   obtain⟨m',hn',_⟩:=I7.loc
   obtain⟨mX,nX,lX⟩:=IX.loc
   refine⟨I7.ok,I7.os,I7.bare,I7.base,⟨m',hn',fun i x v h1 h2 h3=>?_⟩,I7.cell,I7.free,I7.freeC,fun p hp=>absurd (show p ∈ ([]:List (Addr × Obj)) from hp) zK,I7.hok,I3.len⟩
   have hi:own.length≤i:=by
    by_cases q:own.length≤i
    ·exact q
    ·unfold blk at h2
     rw[yI (by rw[zD]; omega),zF] at h2
     cases e:own[i]? with
     | none=>rw[e] at h2; cases h2
     | some z=>rw[e] at h2; cases h2
   have h1':fr[i - own.length]?=some x:=by
    have q:(own++fr)[i]?=some x:=h1
    rw[zQ hi] at q
    exact q
   obtain⟨j,hj,hN,hk,hr⟩:=c.fr.getL h1'
   have h2':σ[j]?=some (some v):=by
    unfold blk at h2
    rw[zQ (by rw[zD]; exact hi),zD,zF,hj] at h2
    have q:some ((σ[j]?).join)=some (some v):=h2
    have q':=Option.some.inj q
    cases e:σ[j]? with
    | none=>rw[e] at q'; cases q'
    | some z=>rw[e] at q'; rw[show z=some v from q']
   obtain⟨u,r,l⟩:=lX j x v hN h2' (hk.elim (fun z=>.inr (.inl z)) fun z=>.inr (.inr z))
   refine⟨u,r,.inr ⟨hr,?_⟩⟩
   rcases l with ⟨hk',_⟩|⟨_,a,ea,ca⟩
   ·rcases hk with z|z <;> (rw[hk'] at z; cases z)
   ·obtain⟨b,eb⟩:=I7.ok.has x hr
    have eab:=c.cell eb
    rw[ea] at eab
    cases eab
    exact⟨a,eb,ca⟩
  refine wpAny_bind (weak (thn (hc _ s6 σ6 H6 _ I6 q6) fun ok s7 ⟨H7,I7,q7⟩=>?_))
  cases ok with
  | false =>
   have q7':=(if_neg (by decide:¬ (false=true))).mp q7
   obtain⟨m',hm,w7⟩:=q7'
   exact wpAny_pure ⟨rfl,back I7 hm w7 (anew I7)⟩
  | true =>
   have q7':=(if_pos (rfl:true=true)).mp q7
   refine wpAny_bind (wpAny_bind (weak (thn (he _ s7 σ6 H7 _ I7 q7') fun y s8 ⟨v8,H8,I8,r8,ys,e8,z8,m',hm,w8⟩=>?_)))
   refine wpAny_bind (weak (thn (mt_append (X:=X.comp scope cl C fp (own++fr) s1 H1) _ s8 σ6 H8 (.ref D) [v8] (.ref D) [y] (fun _ H9=>H9=upd H8 D (.lst (ys++[v8]))) I8 rfl (.cons r8 .nil) ⟨D,ys,v8,rfl,rfl,e8,z8,rfl⟩) fun _ s9 ⟨_,H9,I9,_,e9⟩=>?_))
   subst e9
   exact wpAny_pure (wpAny_pure ⟨rfl,back I9 hm w8 (anew I9)⟩)
end
end L2
namespace L2
open PySem PySem.Spec PyProof.Rows
section
variable {X:Cx} {elt iter tg:Expr} {ifs:List Expr} {scope:Scope} {cl:List (Str × Addr)} {own fr:List Str} {js:List Nat} {wi:TI} {g:TG} {tc:TT} {te:TE} {pos:Pos}
def tComp (wi:TI) (own:List Str) (js:List Nat) (g:TG) (tc:TT) (te:TE):TE:=fun σ H Q=>wi σ H fun J H1=>∀ D,H1 D=none→CompW J D (blk own js σ) g tc te H1 fun H2=>Q (.ref D) H2
theorem pe_comp (c:CompOk X scope cl own fr js) (hi:PI X tg iter wi) (hg:∀ C fp s H,PG (X.comp scope cl C fp (own++fr) s H) tg g) (hc:∀ C fp s H,PTs (X.comp scope cl C fp (own++fr) s H) ifs tc)
  (he:∀ C fp s H,PE (X.comp scope cl C fp (own++fr) s H) elt te) (hs:∀ x,foldedSetIterable iter X.env x=pure x:=by intro _; rfl) :
  PE X (.ListComp elt [⟨tg,iter,ifs,0⟩] scope pos) (tComp wi own js g tc te):=by
 intro pins s σ H Q I h
 rw[eval_ListComp]
 refine wpAny_comprehension_free (use:=none) rfl hs c.clos c.kind c.names (thn (hi pins s σ H _ I h) fun v s1 h1=>thn h1 fun itv s2 h2=>?_)
 obtain⟨it,fp,tn,J,H2,rfl,I2,T,st2,f2,q⟩:=h2
 refine wpAny_newObj_type (wpAny_newFunctionEnv c.nocell (by intro y hy; simp at hy) (fun h₁ hns₁ hsb₁=>?_) c.kind)
 dsimp only at hns₁ hsb₁ ⊢
 generalize hH2:s2.heap.push { cls:=.type "list",dict:=none,data:=.seq ([]:List Value).toArray }=hp at hns₁ hsb₁ ⊢
 have hC:hp.objs.size=s2.heap.objs.size + 1:=by rw[← hH2,Heap.size_push]
 have hDC:s2.heap.objs.size ≠ hp.objs.size:=by rw[hC]; exact zY (jO _)
 have hCle:s2.heap.objs.size≤hp.objs.size:=by rw[hC]; exact y3 _
 have old:∀ b o,s2.heap.get? b=some o→h₁.get? b=some o:=fun b o e=>hsb₁.extBut b o (by rw[hC]; exact zY (y8 (Heap.lt_size e))) (Heap.get?_push_of_some _ (hH2 ▸ Heap.get?_push_of_some _ e))
 have hl:h₁.get? s2.heap.objs.size=some { cls:=.type "list",data:=.seq #[] }:=hsb₁.extBut _ _ hDC (Heap.get?_push_of_some _ (hH2 ▸ Heap.get?_push_size _ rfl))
 have loop:∀ t',codeAny (model X.prog X.w) X.A (.compLoop (.ListComp elt [⟨tg,iter,ifs,0⟩] scope pos) 0 (.ref it) (.ref s2.heap.objs.size) (compEnvC scope cl hp.objs.size X.env))
   (compPost (model X.prog X.w) X.A X.xe none (EP X pins σ Q) (.ref s2.heap.objs.size) hp.objs.size) { s2 with heap:=h₁,toks:=t' }:=fun t' =>
  comp_loop c I2 T st2 f2 (hg _ _ _ _) (hc _ _ _ _) (he _ _ _ _) old hCle (zI _) hDC hns₁ hl (q _ (I2.hok.fresh (zI _))) fun H' s' m' I' hn' hCn qn=>by
   refine⟨m',hn',fun h'' hs''=>⟨.ref s2.heap.objs.size,H',?_,rfl,qn⟩⟩
   obtain⟨f0,f1,_,f3,f4,f5⟩:=I2.fpOk hCle hCn
   exact I'.turned (t':=s'.toks) (fun b o hb e=>hs''.extBut b o hb e) f0 f1 f3 f4 f5
 have st1:tn 0 h₁:=T.keep _ _ _ st2 fun b _ o e=>old b o e
 exact codeAny_compStart_list (loop _) (T.self _ 0 _ _ _ st1 (loop _))
theorem ps_setC {i:Nat} {y:Str} {py spos:Pos} (hN:X.N.Nodup) (hiy:X.N[i]?=some y) (hx:Loc X.env.scope y)
  (hsw:swapsWith (.ListComp elt [⟨tg,iter,ifs,0⟩] scope pos) (some (.Name y py)) spos.line X.env=pure true)
  (c:CompOk X scope cl own fr js) (hi:PI X tg iter wi) (hg:∀ C fp s H,PG (X.comp scope cl C fp (own++fr) s H) tg g) (hc:∀ C fp s H,PTs (X.comp scope cl C fp (own++fr) s H) ifs tc)
  (he:∀ C fp s H,PE (X.comp scope cl C fp (own++fr) s H) elt te) (hs:∀ x,foldedSetIterable iter X.env x=pure x:=by intro _; rfl)
  (hfn:X.fn y=true∨X.env.scope.names.lookup y=some .local:=by first|exact .inl rfl|exact .inr rfl|assumption) :
  PS X (.Assign [.Name y py] (.ListComp elt [⟨tg,iter,ifs,0⟩] scope pos) spos) (tAsg (tComp wi own js g tc te) (gName i)):=by
 intro pins s σ H D I h
 rw[exec_Assign_Name_used _ _ _ _ hsw]
 refine wpAny_bind (wpAny_standAt (wpAny_bind ?_))
 show wpAny _ X.A (do let _ ← comprehension (.ListComp elt [⟨tg,iter,ifs,0⟩] scope pos) scope X.env _ (newList []) false (eval iter X.env) (some (assign (.Name y py) X.env))) _ _ s
 refine wpAny_bind (wpAny_mono (wpAny_comprehension_free (use:=some (assign (.Name y py) X.env)) (Q:=fun _ s'=>SP X pins D .next s') rfl hs c.clos c.kind c.names
  (thn (hi pins s σ H _ I h) fun v s1 h1=>thn h1 fun itv s2 h2=>?_)) (fun _ s' hq=>wpAny_pure (wpAny_pure hq)) fun _ _ e=>e)
 obtain⟨it,fp,tn,J,H2,rfl,I2,T,st2,f2,q⟩:=h2
 refine wpAny_newObj_type (wpAny_newFunctionEnv c.nocell (by intro y hy; simp at hy) (fun h₁ hns₁ hsb₁=>?_) c.kind)
 dsimp only at hns₁ hsb₁ ⊢
 generalize hH2:s2.heap.push { cls:=.type "list",dict:=none,data:=.seq ([]:List Value).toArray }=hp at hns₁ hsb₁ ⊢
 have hC:hp.objs.size=s2.heap.objs.size + 1:=by rw[← hH2,Heap.size_push]
 have hDC:s2.heap.objs.size ≠ hp.objs.size:=by rw[hC]; exact zY (jO _)
 have hCle:s2.heap.objs.size≤hp.objs.size:=by rw[hC]; exact y3 _
 have old:∀ b o,s2.heap.get? b=some o→h₁.get? b=some o:=fun b o e=>hsb₁.extBut b o (by rw[hC]; exact zY (y8 (Heap.lt_size e))) (Heap.get?_push_of_some _ (hH2 ▸ Heap.get?_push_of_some _ e))
 have hl:h₁.get? s2.heap.objs.size=some { cls:=.type "list",data:=.seq #[] }:=hsb₁.extBut _ _ hDC (Heap.get?_push_of_some _ (hH2 ▸ Heap.get?_push_size _ rfl))
 have loop:∀ t',codeAny (model X.prog X.w) X.A (.compLoop (.ListComp elt [⟨tg,iter,ifs,0⟩] scope pos) 0 (.ref it) (.ref s2.heap.objs.size) (compEnvC scope cl hp.objs.size X.env))
   (compPost (model X.prog X.w) X.A X.xe (some (assign (.Name y py) X.env)) (fun _ s'=>SP X pins D .next s') (.ref s2.heap.objs.size) hp.objs.size) { s2 with heap:=h₁,toks:=t' }:=fun t' =>
  comp_loop c I2 T st2 f2 (hg _ _ _ _) (hc _ _ _ _) (he _ _ _ _) old hCle (zI _) hDC hns₁ hl (q _ (I2.hok.fresh (zI _))) fun H' s' m' I' hn' hCn qn=>by
   obtain⟨f0,f1,f2',f3,f4,f5⟩:=I2.fpOk hCle hCn
   obtain⟨oC,es,ep,eC,dC,rC⟩:=id hn'
   have I'':Inv X (pins++[(hp.objs.size,oC)]) σ H' s':=I'.pins_of fun p hpp=>(zW.mp hpp).elim (fun z=>I'.pin p (zR _ z)) fun z=>by
    rw[zG] at z
    subst z
    exact⟨eC,f0,f1,f2',fun v z=>by rw[dC] at z; cases z⟩
   show wpAny _ X.A (assign (.Name y py) X.env (.ref s2.heap.objs.size)) _ _ s'
   refine thn (pg_name (i:=i) hN hiy hx hfn _ s' σ H' (.ref s2.heap.objs.size) (.ref s2.heap.objs.size) _ I'' rfl qn) fun _ s7 ⟨σ7,H7,I7,q7⟩=>?_
   have p7:=I7.pin (hp.objs.size,oC) (zR _ (zR _ (yT _)))
   refine⟨m',⟨oC,es,ep,p7.1,dC,rC⟩,fun h'' hs''=>⟨σ7,H7,?_,q7⟩⟩
   exact I7.unpinned.turned (t':=s7.toks) (fun b o hb e=>hs''.extBut b o hb e) p7.2.1 f1 f3 f4 f5
 have st1:tn 0 h₁:=T.keep _ _ _ st2 fun b _ o e=>old b o e
 exact codeAny_compStart_list (loop _) (T.self _ 0 _ _ _ st1 (loop _))
end
section
variable {g:TG} {tc:TT} {te:TE} {D:Addr} {σ0:St} {H1:Hp} {Q:Hp→Prop}
theorem comp_list {K:PySem.W.Frag} {a:Addr} {xs:List V} (Pv:Nat→Hp→Prop) (h0:Pv 0 (upd H1 D (.lst []))) (hl:∀ i H,i≤xs.length→Pv i H→SqL K H a xs)
  (hs:∀ i x H (m:Nat) (W:Nat→Nat→Hp→Prop),xs[i]?=some x→Pv i H→(∀ H',Pv (i + 1) H'→∃ m',m' < m∧W (i + 1) m' H')→g x σ0 H fun σ2 H2=>tc σ2 H2 fun b H3 =>
   if b=true then te σ2 H3 fun y H4=>∃ ys,H4 D=some (.lst ys)∧ys.length < sizeLine∧∃ m',m' < m∧W (i + 1) m' (upd H4 D (.lst (ys++[y]))) else ∃ m',m' < m∧W (i + 1) m' H3)
  (hd:∀ H,Pv xs.length H→Q H):CompW (Itl K a) D σ0 g tc te H1 Q:=by
 refine⟨fun i m H=>m=xs.length - i∧i≤xs.length∧Pv i H,⟨xs.length,by simp,z5 _,h0⟩,?_⟩
 rintro i m H ⟨rfl,hi,p⟩
 have q:=hl i H hi p
 by_cases hlt:i < xs.length
 ·refine .inr ⟨⟨xs,xs[i],q,by simp [hlt]⟩,fun x H' y=>?_⟩
  obtain⟨e,y⟩:=y
  subst e
  exact hs i x _ (xs.length - i) (fun i m H=>m=xs.length - i∧i≤xs.length∧Pv i H) (y xs q) p fun H' p'=>⟨xs.length - (i + 1),by omega,rfl,hlt,p'⟩
 ·have e:i=xs.length:=by omega
  subst e
  exact .inl ⟨⟨xs,q,zI _⟩,hd H p⟩
theorem comp_tup {K:PySem.W.Frag} {a:Addr} {xs:List V} (Pv:Nat→Hp→Prop) (h0:Pv 0 (upd H1 D (.lst []))) (hl:∀ i H,i≤xs.length→Pv i H→SqT K H a xs)
  (hs:∀ i x H (m:Nat) (W:Nat→Nat→Hp→Prop),xs[i]?=some x→Pv i H→(∀ H',Pv (i + 1) H'→∃ m',m' < m∧W (i + 1) m' H')→g x σ0 H fun σ2 H2=>tc σ2 H2 fun b H3 =>
   if b=true then te σ2 H3 fun y H4=>∃ ys,H4 D=some (.lst ys)∧ys.length < sizeLine∧∃ m',m' < m∧W (i + 1) m' (upd H4 D (.lst (ys++[y]))) else ∃ m',m' < m∧W (i + 1) m' H3)
  (hd:∀ H,Pv xs.length H→Q H):CompW (Itt K a) D σ0 g tc te H1 Q:=by
 refine⟨fun i m H=>m=xs.length - i∧i≤xs.length∧Pv i H,⟨xs.length,by simp,z5 _,h0⟩,?_⟩
 rintro i m H ⟨rfl,hi,p⟩
 have q:=hl i H hi p
 by_cases hlt:i < xs.length
 ·refine .inr ⟨⟨xs,xs[i],q,by simp [hlt]⟩,fun x H' y=>?_⟩
  obtain⟨e,y⟩:=y
  subst e
  exact hs i x _ (xs.length - i) (fun i m H=>m=xs.length - i∧i≤xs.length∧Pv i H) (y xs q) p fun H' p'=>⟨xs.length - (i + 1),by omega,rfl,hlt,p'⟩
 ·have e:i=xs.length:=by omega
  subst e
  exact .inl ⟨⟨xs,q,zI _⟩,hd H p⟩
theorem comp_range {lo:Int} {n:Nat} (Pv:Nat→Hp→Prop) (h0:Pv 0 (upd H1 D (.lst [])))
  (hs:∀ i H (m:Nat) (W:Nat→Nat→Hp→Prop),i < n→Pv i H→(∀ H',Pv (i + 1) H'→∃ m',m' < m∧W (i + 1) m' H')→g (.int (lo + i)) σ0 H fun σ2 H2=>tc σ2 H2 fun b H3 =>
   if b=true then te σ2 H3 fun y H4=>∃ ys,H4 D=some (.lst ys)∧ys.length < sizeLine∧∃ m',m' < m∧W (i + 1) m' (upd H4 D (.lst (ys++[y]))) else ∃ m',m' < m∧W (i + 1) m' H3)
  (hd:∀ H,Pv n H→Q H):CompW (Itr lo n) D σ0 g tc te H1 Q:=by
 refine⟨fun i m H=>m=n - i∧i≤n∧Pv i H,⟨n,by simp,z5 _,h0⟩,?_⟩
 rintro i m H ⟨rfl,hi,p⟩
 by_cases hlt:i < n
 ·refine .inr ⟨hlt,fun x H' y=>?_⟩
  obtain⟨e,y⟩:=y
  subst e y
  exact hs i _ (n - i) (fun i m H=>m=n - i∧i≤n∧Pv i H) hlt p fun H' p'=>⟨n - (i + 1),by omega,rfl,hlt,p'⟩
 ·have e:i=n:=by omega
  subst e
  exact .inl ⟨zI _,hd H p⟩
end
end L2
namespace L2
open PySem PySem.Spec PyProof.Rows
theorem bt_enumerate:bootBuiltins "enumerate"=some (.type "enumerate"):=by decide +kernel
def Ite (K:PySem.W.Frag) (a:Addr):It :=
 ⟨fun i H=>∃ xs x,SqL K H a xs∧xs[i]?=some x,fun i H x H'=>∃ p v,x=.ref p∧H p=none∧(∀ xs,SqL K H a xs→xs[i]?=some v)∧H'=upd H p (.tup [.int i,v]),fun i H=>∃ xs,SqL K H a xs∧xs.length≤i⟩
theorem turn_enum {P:Program} {w:World} {K:PySem.W.Frag} {elts:List Expr} {x1:Nat} {tpos:Pos} (a e it:Addr) (hne:e ≠ it) :
  Turn P w K (.Tuple elts x1 tpos) (Ite K a) [e,it] e (fun i h=>∃ old,IsEnum h e it i old∧h.IsListIter it a i) where
 mem:=by simp
 obj:=fun i h st b hb=>by
  obtain⟨old,h1,h2⟩:=st
  rcases zS.mp hb with r|r
  ·subst r
   exact⟨_,h1,fun v z=>by cases z⟩
  ·have r:=zG.mp r
   subst r
   obtain⟨o,e2,c,d⟩:=h2
   exact⟨o,e2,fun v z=>by rw[d] at z; cases z⟩
 keep:=fun i h h' st k=>by
  obtain⟨old,h1,h2⟩:=st
  exact⟨old,k e (by simp) _ h1,h2.at fun o q=>k it (by simp) o q⟩
 item:=by
  intro X hP hw hK hc i pins s σ H E I hf st hg
  subst hP hw hK
  obtain⟨xs,x,hq,hx⟩:=hg
  obtain⟨its,rv,p,hz⟩:=I.list hq
  obtain⟨u,hu,ru⟩:=rv.get hx
  obtain⟨old,h1,h2⟩:=st
  have fe:=hf e (by simp)
  have fi:=hf it (by simp)
  refine wpAny_pyNext_enum_item h1 h2 p.isList (x:=u) (by simpa using hu) hne fun h' out it' tup sz k=>?_
  refine⟨_,rfl,wpAny_letOwnedTupleGo_enum out fun h'' en sb=>?_⟩
  have np:H s.heap.objs.size=none:=I.hok.fresh (zI _)
  have lt:∀ {b:Addr} {o:Obj},s.heap.get? b=some o→b ≠ s.heap.objs.size:=fun q=>zY (Heap.lt_size q)
  have kk:∀ b o,b ≠ e→b ≠ it→s.heap.get? b=some o→h''.get? b=some o:=fun b o n1 n2 q=>sb.extBut b o n1 (k b o n1 n2 q)
  have pe:s.heap.objs.size ≠ e:=Ne.symm (lt h1)
  have pit:s.heap.objs.size ≠ it:=by
   obtain⟨o,e2,_⟩:=h2
   exact Ne.symm (lt e2)
  have tup2:h''.get? s.heap.objs.size=some { cls:=.type "tuple",data:=.seq #[.int i s.toks,u] }:=sb.extBut _ _ pe tup
  have it2:h''.IsListIter it a (i + 1):=it'.at fun o q=>sb.extBut it o (Ne.symm hne) q
  have nch:∀ {b:Addr},b ∉ [e,it]→b ≠ e∧b ≠ it:=fun hb=>⟨fun z=>hb (by simp [z]),fun z=>hb (by simp [z])⟩
  have trk:∀ {b:Addr} {o:HO},H b=some o→b ≠ e∧b ≠ it:=fun q=>⟨fun z=>(by rw[z,fe.1] at q; cases q),fun z=>(by rw[z,fi.1] at q; cases q)⟩
  have I1:Inv X pins σ (upd H s.heap.objs.size (.tup [.int i,x])) { s with heap:=h'',toks:=s.toks + 1 }:=by
   refine I.step (g':=s.gens) (d':=s.drawn) (ch:=[e,it]) (fun b hb=>?_) (fun b o _ _ hcc q _=>kk b o (nch hcc).1 (nch hcc).2 q) (fun b o _ _ hcc q _=>⟨o.slots,kk b o (nch hcc).1 (nch hcc).2 q⟩)
    (fun b o _ q n=>by rw[upd_ne (lt q)]; exact n) (fun b o hcc q=>⟨o,kk b o (nch hcc).1 (nch hcc).2 q⟩) (fun b ys q=>by rw[upd_ne (ne_of_none q np)]; exact q) (fun b o y q=>by rw[upd_ne (ne_of_none q np)]; exact q)
    (fun b ps q=>⟨#[],by rw[upd_ne (ne_of_none q np),q]; simp⟩) (fun m hm=>?_) (fun b o q=>?_) I.bare
   ·rcases zS.mp hb with r|r
    ·rw[r]; exact⟨fe.2.2.2.1,fe.2.1,fe.2.2.2.2.1,fe.2.2.2.2.2⟩
    ·rw[zG.mp r]; exact⟨fi.2.2.2.1,fi.2.1,fi.2.2.2.2.1,fi.2.2.2.2.2⟩
   ·obtain⟨o,es,ep,ho,r⟩:=hm
    exact⟨o,es,ep,kk _ o (Ne.symm fe.2.1) (Ne.symm fi.2.1) ho,r⟩
   ·by_cases hb:b=s.heap.objs.size
    ·subst hb
     rw[upd_same] at q
     cases q
     exact⟨(by show 2≤sizeLine; decide),[.int i s.toks,u],.cons ⟨_,rfl⟩ (.cons ru .nil),⟨_,tup2,rfl,_,rfl⟩⟩
    ·rw[upd_ne hb] at q
     refine(I.hok b o q).stay (fun c v hcc z=>?_) (fun c z=>by rw[upd_ne (ne_of_none z np)]; exact z) fun c ys z=>by rw[upd_ne (ne_of_none z np)]; exact z
     rcases hcc with r|r
     ·rw[r] at z ⊢; exact kk _ _ (trk q).1 (trk q).2 z
     ·exact kk _ _ (trk r).1 (trk r).2 z
  have en2:IsEnum h'' e it ((i + 1:Nat):Int) u:=en
  refine⟨.ref s.heap.objs.size,_,I1,rfl,⟨_,x,rfl,np,fun ys hy=>by rw[I.list_inj hy hq]; exact hx,rfl⟩,⟨u,en2,it2⟩,fun b hb=>?_⟩
  rcases zS.mp hb with r|r
  ·rw[r,upd_ne pe.symm]; exact fe.1
  ·rw[zG.mp r,upd_ne pit.symm]; exact fi.1
 done:=by
  intro X hP hw hK hc i pins s σ H E I hf st hg
  subst hP hw hK
  obtain⟨xs,hq,hx⟩:=hg
  obtain⟨its,rv,p,hz⟩:=I.list hq
  obtain⟨old,h1,h2⟩:=st
  obtain⟨f0,f1,f2,f3,f4,f5⟩:=hf it (by simp)
  have hl:=rv.length
  exact wpAny_pyNext_enum_end (I.ok.hd hc) h1 h2 p.isList (by simp; omega) fun h' eb=>⟨rfl,I.turned (t':=s.toks) (fun b o hb q=>eb b o hb q) f0 f1 f3 f4 f5⟩
 self:=fun _ _ _ _ _ st h=>by
  obtain⟨old,h1,_⟩:=st
  exact wpAny_pyIter_enum h1 h
section
variable {X:Cx}
inductive iEnum_ (K:PySem.W.Frag) (R:It→Hp→Prop) (vs:List V) (H1:Hp):Prop where
 | mk (a:_) (h_0:vs=[.ref a]) (h_1:(∃ xs,SqL K H1 a xs)) (h_2:R (Ite K a) H1):iEnum_ K R vs H1
def iEnum (K:PySem.W.Frag) (ta:TA):TI:=fun σ H R=>ta σ H fun vs H1=>iEnum_ K R vs H1
theorem pi_enum {l:Expr} {ta:TA} {p pos:Pos} {elts:List Expr} {x1:Nat} {tpos:Pos} (hg:Gl X "enumerate") (hm:X.mg "enumerate"=none) (ha:PA X [l] ta) (hs:starEach [l] X.env=[(false,eval l X.env)]:=by rfl) :
  PI X (.Tuple elts x1 tpos) (.Call (.Name "enumerate" p) [l] [] pos) (iEnum X.K ta):=by
 intro pins s σ H R I h
 refine Call_ (ld_blt I hg hm bt_enumerate (PyProof.Rows.callWith_type1 (thn (ha pos pins s σ H _ I h) fun us s1 ⟨vs,H1,I1,r1,q1⟩=>?_) hs rfl))
 obtain⟨a,rfl,⟨xs,hq⟩,q⟩:=q1
 obtain⟨u,rfl,ru⟩:=vals1 r1
 cases ru
 obtain⟨its,rv,pl,hz⟩:=I1.list hq
 refine call_enumerate_list pl.isList fun h' en it sz k=>?_
 refine wpAny_pyIter_enum en ?_
 have I2:Inv X pins σ H1 { s1 with heap:=h' }:=I1.kept (t':=s1.toks) k
 refine⟨s1.heap.objs.size + 1,[s1.heap.objs.size + 1,s1.heap.objs.size],_,_,H1,rfl,I2,turn_enum a _ _ (jN _),⟨_,en,it⟩,fun b hb=>?_,q⟩
 rcases zS.mp hb with r|r
 ·rw[r]; exact I1.fpOk (y3 _) (I1.hok.fresh (y3 _))
 ·rw[zG.mp r]; exact I1.fpOk (zI _) (I1.hok.fresh (zI _))
theorem comp_enum {K:PySem.W.Frag} {a:Addr} {xs:List V} {g:TG} {tc:TT} {te:TE} {D:Addr} {σ0:St} {H1:Hp} {Q:Hp→Prop} (Pv:Nat→Hp→Prop) (h0:Pv 0 (upd H1 D (.lst []))) (hl:∀ i H,i≤xs.length→Pv i H→SqL K H a xs)
  (hs:∀ i x H (m:Nat) (W:Nat→Nat→Hp→Prop),xs[i]?=some x→Pv i H→(∀ H',Pv (i + 1) H'→∃ m',m' < m∧W (i + 1) m' H')→∀ p,H p=none→g (.ref p) σ0 (upd H p (.tup [.int i,x])) fun σ2 H2=>tc σ2 H2 fun b H3 =>
   if b=true then te σ2 H3 fun y H4=>∃ ys,H4 D=some (.lst ys)∧ys.length < sizeLine∧∃ m',m' < m∧W (i + 1) m' (upd H4 D (.lst (ys++[y]))) else ∃ m',m' < m∧W (i + 1) m' H3)
  (hd:∀ H,Pv xs.length H→Q H):CompW (Ite K a) D σ0 g tc te H1 Q:=by
 refine⟨fun i m H=>m=xs.length - i∧i≤xs.length∧Pv i H,⟨xs.length,by simp,z5 _,h0⟩,?_⟩
 rintro i m H ⟨rfl,hi,p⟩
 have q:=hl i H hi p
 by_cases hlt:i < xs.length
 ·refine .inr ⟨⟨xs,xs[i],q,by simp [hlt]⟩,fun x H' y=>?_⟩
  obtain⟨pp,v,rfl,np,hx,rfl⟩:=y
  exact hs i v _ (xs.length - i) (fun i m H=>m=xs.length - i∧i≤xs.length∧Pv i H) (hx xs q) p (fun H' p'=>⟨xs.length - (i + 1),by omega,rfl,hlt,p'⟩) pp np
 ·have e:i=xs.length:=by omega
  subst e
  exact .inl ⟨⟨xs,q,zI _⟩,hd H p⟩
mutual
theorem Dt.can {K:PySem.W.Frag} {H:Hp}:∀ {n:Nat} {x:V} {d:PyData},Dt K H n x d→d.canLay0=true
 | _,_,_,.non _=>rfl
 | _,_,_,.bl _ _=>rfl
 | _,_,_,.int _ _=>rfl
 | _,_,_,.str _ _ h=>h
 | _,_,_,.lst _ r=>by rw[PyData.canLay0]; exact DtAll.can r
 | _,_,_,.tup _ r=>by rw[PyData.canLay0]; exact DtAll.can r
theorem DtAll.can {K:PySem.W.Frag} {H:Hp}:∀ {n:Nat} {xs:List V} {ds:List PyData},DtAll K H n xs ds→PyData.canLayAll0 ds=true
 | _,_,_,.nil _=>rfl
 | _,_,_,.cons h r=>by rw[PyData.canLayAll0,Dt.can h,DtAll.can r]; rfl
end
theorem DtAll.of {K:PySem.W.Frag} {H:Hp} {α:Type} {n:Nat} {f:α→PyData} {P:V→α→Prop} (h:∀ x a,P x a→Dt K H n x (f a)):∀ {xs:List V} {as:List α},Paired P xs as→DtAll K H n xs (as.map f)
 | _,_,.nil=>.nil n
 | _,_,.cons p r=>.cons (h _ _ p) (DtAll.of h r)
theorem call_anyB (hc:X.calm=true):CallR X (.builtin "any") (fun xs H Q=>∃(p:Addr) (bs:List Bool),xs=[.ref p]∧SqL X.K H p (bs.map V.bl)∧Q (.bl (bs.any id)) H):=by
 intro pins s σ H xs us Q I r h
 obtain⟨p,bs,rfl,hq,q⟩:=h
 obtain⟨u,rfl,ru⟩:=vals1 r
 cases ru
 obtain⟨its,rv,pl,hz⟩:=I.list hq
 have hl:=rv.length
 rw[zD] at hl
 have lt:p < s.heap.objs.size:=by obtain⟨o,e,_⟩:=pl.isList; exact Heap.lt_size e
 refine call_any_walk (wpAny_pyIter_list pl.isList ?_)
 refine⟨_,_,_,_,_,_,fun i=>bs.getD i false,rfl,Walks.list (A:=X.A.in1) (I.ok.hd hc) s.heap.objs.size p (zY lt) its.toArray,⟨⟨_,Heap.get?_push_size _ rfl,rfl,rfl⟩,pl.isList.push _⟩,?_,fun h' tk k=>?_⟩
 ·intro i v s' Q' E' hP hQ
  have hi:its[i]?=some v:=by simpa using hP
  have hil:i < bs.length:=by have:=(zC.mp hi).1; omega
  obtain⟨u,hu,ru⟩:=rv.get (i:=i) (x:=V.bl bs[i]) (by rw[zF,zB hil]; rfl)
  rw[hi] at hu
  cases hu
  cases (show v=Value.bool bs[i] from ru)
  refine wpAny_truthy_bool ?_
  have e:bs.getD i false=bs[i]:=by rw[zA,zB hil]; rfl
  rw[← e]
  exact hQ
 ·refine⟨.bl _,H,I.kept (t':=tk) fun b o e=>k b o (fun z=>?_) (Heap.get?_push_of_some _ e),rfl,?_⟩
  ·rw[zG.mp z] at e
   exact absurd (Heap.lt_size e) (qS _)
  ·have e:(List.range its.toArray.size).any (fun i=>bs.getD i false)=bs.any id:=by
    rw[zO,← hl]
    clear q hq hl rv hz
    induction bs with
    | nil=>rfl
    | cons b bs ih=>rw[zX,vB,jM,vC,jM]; exact congrArg (b || ·) ih
   show Q (.bl _) H
   rw[e]
   exact q
end
end L2
namespace L2
open PySem PySem.Spec PyProof.Rows
section
variable {X:Cx} {K:PySem.W.Frag} {a b e o l:Expr} {es:List Expr} {ta tb te to tl:TE} {t:TA} {pos:Pos}
theorem ix_tupK (hK:X.K=K):IxR X (rIxT K):=by subst hK; exact ix_tup
theorem ix_listK (hK:X.K=K):IxR X (rIxL K):=by subst hK; exact ix_list
theorem pe_fldK {f:Str} (hK:X.K=K) (he:PE X e ta) (hb:attributeBase e f X.env (eval e X.env)=eval e X.env):PE X (.Attribute e f pos) (tFld K ta f):=by subst hK; exact pe_fld he hb
theorem pi_listK {tg:Expr} (hK:X.K=K) (hl:PE X l tl):PI X tg l (iList K tl):=by subst hK; exact pi_list hl
theorem pi_tupK {tg:Expr} (hK:X.K=K) (hl:PE X l tl):PI X tg l (iTup K tl):=by subst hK; exact pi_tup hl
theorem call_len_seqK (hK:X.K=K):CallR X (.builtin "len") (fun xs H Q=>∃ p ys,xs=[.ref p]∧(SqL K H p ys∨SqT K H p ys)∧Q (.int ys.length) H):=by subst hK; exact call_len_seq
theorem call_isiTK (hK:X.K=K):CallR X (.builtin "isinstance") (rIsiT K):=by subst hK; exact call_isiT
theorem call_list_ofK (hK:X.K=K):CallR X (.type "list") (fun xs H Q=>∃ p ys,xs=[.ref p]∧(SqL K H p ys∨SqT K H p ys)∧∀ l,H l=none→Q (.ref l) (upd H l (.lst ys))):=by subst hK; exact call_list_of
theorem op_eqDK (hK:X.K=K) (hu:X.A.units + 64 < cLine):OpR X (compareOp .Eq) (rEqD K):=by subst hK; exact op_eqD hu
theorem op_neDK (hK:X.K=K) (hu:X.A.units + 64 < cLine):OpR X (compareOp .NotEq) (rNeD K):=by subst hK; exact op_neD hu
theorem pg_tupK {k:Nat} {t:TGs} {n:Nat} (hK:X.K=K) (hc:X.calm=true) (h:PGs X es t)
  (hn:(assignEach es X.env).length=n:=by rfl) (hst:(assignEach es X.env).findIdx? (·.1)=none:=by rfl):PG X (.Tuple es k pos) (gTup K n t):=by subst hK; exact pg_tup hc h hn hst
end
end L2
namespace L2
open PySem PySem.Spec PyProof.Rows
abbrev Cell:=Addr × HO
def Hs (H:Hp) (M:List Cell):Prop:=(M.map Prod.fst).Nodup∧∀ p ∈ M,H p.1=some p.2
def Hc (H:Hp) (Ms:List (List Cell)):Prop:=Hs H Ms.flatten
theorem Hs.perm {H:Hp} {M N:List Cell} (h:Hs H M) (p:M.Perm N):Hs H N :=
 ⟨(p.map Prod.fst).nodup_iff.mp h.1,fun c hc=>h.2 c (p.mem_iff.mpr hc)⟩
theorem Hs.sub {H:Hp} {M N:List Cell} (h:Hs H M) (s:List.Sublist N M):Hs H N :=
 ⟨h.1.sublist (s.map Prod.fst),fun c hc=>h.2 c (s.subset hc)⟩
theorem Hc.nil {H:Hp}:Hc H []:=⟨List.nodup_nil,fun _ h=>absurd h zK⟩
theorem Hc.get {H:Hp} {Ms:List (List Cell)} (h:Hc H Ms) (i j:Nat) {c:List Cell} {a:Addr} {o:HO} (hi:Ms[i]?=some c) (hj:c[j]?=some (a,o)):H a=some o :=
 h.2 (a,o) (qN.mpr ⟨c,zE hi,zE hj⟩)
theorem pick_perm {α:Type}:∀ {Ms:List (List α)} {i:Nat} {c:List α},Ms[i]?=some c→Ms.flatten.Perm (c++(Ms.eraseIdx i).flatten)
 | [],i,c,h=>by simp at h
 | d::Ms,0,c,h=>by simp at h; subst h; exact List.Perm.refl _
 | d::Ms,i + 1,c,h=>by
  have ih:=pick_perm (Ms:=Ms) (i:=i) (c:=c) (by simpa using h)
  rw[yH,jP,yH]
  refine(ih.append_left d).trans ?_
  rw[← z7,← z7]
  exact(jU).append_right _
theorem set_perm {α:Type}:∀ {Ms:List (List α)} {i:Nat} {c c':List α},Ms[i]?=some c→(Ms.set i c').flatten.Perm (c'++(Ms.eraseIdx i).flatten)
 | [],i,c,c',h=>by simp at h
 | d::Ms,0,c,c',h=>List.Perm.refl _
 | d::Ms,i + 1,c,c',h=>by
  have ih:=set_perm (Ms:=Ms) (i:=i) (c:=c) (c':=c') (by simpa using h)
  rw[List.set_cons_succ,yH,jP,yH]
  refine(ih.append_left d).trans ?_
  rw[← z7,← z7]
  exact(jU).append_right _
theorem Hc.pick {H:Hp} {Ms:List (List Cell)} (h:Hc H Ms) (i:Nat) {c:List Cell} (hi:Ms[i]?=some c):Hc H (c::Ms.eraseIdx i):=Hs.perm h (pick_perm hi)
theorem Hc.back {H:Hp} {Ms:List (List Cell)} {i:Nat} {c c':List Cell} (h:Hc H (c'::Ms.eraseIdx i)) (hi:Ms[i]?=some c):Hc H (Ms.set i c'):=Hs.perm h (set_perm hi).symm
theorem Hc.split {H:Hp} {a b:List Cell} {Ms:List (List Cell)} (h:Hc H ((a++b)::Ms)):Hc H (a::b::Ms):=by
 unfold Hc at h ⊢
 rw[yH,yH,← z7]
 exact h
theorem Hc.join {H:Hp} {a b:List Cell} {Ms:List (List Cell)} (h:Hc H (a::b::Ms)):Hc H ((a++b)::Ms):=by
 unfold Hc at h ⊢
 rw[yH,yH,← z7] at h
 exact h
theorem Hc.swap {H:Hp} {a b:List Cell} {Ms:List (List Cell)} (h:Hc H (a::b::Ms)):Hc H (b::a::Ms):=by
 refine Hs.perm h ?_
 rw[yH,yH,yH,yH,← z7,← z7]
 exact jU.append_right _
theorem Hc.tl {H:Hp} {c:List Cell} {Ms:List (List Cell)} (h:Hc H (c::Ms)):Hc H Ms:=by
 refine Hs.sub h ?_
 rw[yH]
 exact kN _ _
theorem Hc.same {H H':Hp} {Ms:List (List Cell)} (h:Hc H Ms) (s:Same H H'):Hc H' Ms:=⟨h.1,fun p hp=>s _ _ (h.2 p hp)⟩
theorem Hc.new {H:Hp} {Ms:List (List Cell)} (h:Hc H Ms) {p:Addr} (n:H p=none) (o:HO):Hc (upd H p o) ([(p,o)]::Ms):=by
 have ne:∀ c ∈ Ms.flatten,c.1 ≠ p:=fun c hc z=>by
  have e:=h.2 c hc
  rw[z,n] at e
  cases e
 refine⟨?_,fun c hc=>?_⟩
 ·show((p,o)::Ms.flatten |>.map Prod.fst).Nodup
  rw[yG,qA]
  exact⟨fun z=>by obtain⟨c,hc,e⟩:=yC.mp z; exact ne c hc e,h.1⟩
 ·rcases zS.mp (show c ∈ (p,o)::Ms.flatten from hc) with r|r
  ·rw[r]; exact upd_same
  ·rw[upd_ne (ne c r)]; exact h.2 c r
theorem Hc.newS {H H':Hp} {Ms:List (List Cell)} (h:Hc H Ms) {p:Addr} {o:HO} (n:H p=none) (e:H' p=some o) (s:Same H H'):Hc H' ([(p,o)]::Ms):=by
 have ne:∀ c ∈ Ms.flatten,c.1 ≠ p:=fun c hc z=>by
  have e:=h.2 c hc
  rw[z,n] at e
  cases e
 refine⟨?_,fun c hc=>?_⟩
 ·show((p,o)::Ms.flatten |>.map Prod.fst).Nodup
  rw[yG,qA]
  exact⟨fun z=>by obtain⟨c,hc,e⟩:=yC.mp z; exact ne c hc e,h.1⟩
 ·rcases zS.mp (show c ∈ (p,o)::Ms.flatten from hc) with r|r
  ·rw[r]; exact e
  ·exact s _ _ (h.2 c r)
theorem Hs.put {H:Hp} {A:List Cell} {a:Addr} {o o':HO} {B:List Cell} (h:Hs H (A++(a,o)::B)):Hs (upd H a o') (A++(a,o')::B):=by
 have ek:(A++(a,o')::B).map Prod.fst=(A++(a,o)::B).map Prod.fst:=by simp
 have nd:=h.1
 refine⟨by rw[ek]; exact nd,fun c hc=>?_⟩
 rw[zL,yG,List.nodup_append] at nd
 obtain⟨_,n2,n3⟩:=nd
 rw[qA] at n2
 rcases zW.mp hc with r|r
 ·have:c.1 ≠ a:=n3 c.1 (yC.mpr ⟨c,r,rfl⟩) a zH
  rw[upd_ne this]
  exact h.2 c (yV _ r)
 ·rcases zS.mp r with r|r
  ·rw[r]; exact upd_same
  ·have:c.1 ≠ a:=fun z=>n2.1 (z ▸ yC.mpr ⟨c,r,rfl⟩)
   rw[upd_ne this]
   exact h.2 c (zR _ (zJ _ r))
theorem cut_at {α:Type}:∀ {l:List α} {j:Nat} {x:α},l[j]?=some x→∃ A B,l=A++x::B∧A.length=j
 | [],j,x,h=>by simp at h
 | y::l,0,x,h=>by simp at h; subst h; exact⟨[],l,rfl,rfl⟩
 | y::l,j + 1,x,h=>by
  obtain⟨A,B,e,n⟩:=cut_at (l:=l) (j:=j) (x:=x) (by simpa using h)
  exact⟨y::A,B,by rw[e]; rfl,by rw[zX,n]⟩
theorem set_cut {α:Type}:∀ {A B:List α} {x y:α},(A++x::B).set A.length y=A++y::B
 | [],_,_,_=>rfl
 | a::A,B,x,y=>by
  show a::(A++x::B).set A.length y=a::(A++y::B)
  rw[set_cut]
theorem Hc.put {H:Hp} {Ms:List (List Cell)} (h:Hc H Ms) (i j:Nat) {c:List Cell} {a:Addr} {o:HO} (hi:Ms[i]?=some c) (hj:c[j]?=some (a,o)) (o':HO):Hc (upd H a o') (Ms.set i (c.set j (a,o'))):=by
 obtain⟨A,B,e,n⟩:=cut_at hj
 subst e
 subst n
 rw[set_cut]
 refine Hc.back (c:=A++(a,o)::B) ?_ hi
 have h1:Hs H ((A++(a,o)::B)++(Ms.eraseIdx i).flatten):=h.pick i hi
 rw[z7,jQ] at h1
 have h2:=h1.put (o':=o')
 show Hs (upd H a o') ((A++(a,o')::B)++(Ms.eraseIdx i).flatten)
 rw[z7,jQ]
 exact h2
def rowsC (ls:List Addr) (os:List HO):List Cell:=ls.zip os
theorem rowsC_get {ls:List Addr} {os:List HO} {j:Nat} {l:Addr} {o:HO} (h1:ls[j]?=some l) (h2:os[j]?=some o):(rowsC ls os)[j]?=some (l,o):=by
 unfold rowsC
 rw[kP]
 exact⟨h1,h2⟩
theorem rowsC_set:∀ {ls:List Addr} {os:List HO} {j:Nat} {l:Addr} {o:HO},ls[j]?=some l→(rowsC ls os).set j (l,o)=rowsC ls (os.set j o)
 | [],_,_,_,_,h=>by simp at h
 | _::_,[],_,_,_,_=>by simp [rowsC]
 | a::ls,u::os,0,l,o,h=>by simp at h; subst h; rfl
 | a::ls,u::os,j + 1,l,o,h=>by
  show(a,u)::(rowsC ls os).set j (l,o)=(a,u)::rowsC ls (os.set j o)
  rw[rowsC_set (by simpa using h)]
theorem Hc.pad {H:Hp} {Ms:List (List Cell)} (h:Hc H Ms):Hc H ([]::Ms):=h
theorem map_set_same {α β:Type} {f:α→β} {l:List α} {j:Nat} {r r':α} (h:l[j]?=some r) (e:f r'=f r):(l.set j r').map f=l.map f:=by
 rw[jE,e]
 have:(l.map f)[j]?=some (f r):=by rw[zF,h]; rfl
 obtain⟨hj,he⟩:=zC.mp this
 rw[← he]
 exact List.set_getElem_self hj
end L2
namespace L2
open PySem PySem.Spec PyProof.Rows
theorem Keep.new' {L:List Addr} {H H':Hp} {q:Addr} {o:HO} (k:Keep L H H') (n:H' q=none):Keep L H (L2.upd H' q o):=fun b u e hb=>by
 have h:=k b u e hb
 rw[upd_ne (ne_of_none h n)]
 exact h
theorem Keep.free1 {H H':Hp} {p q:Addr} {u:HO} (k:Keep [p] H H') (hp:H' p=some u) (n:H' q=none):H q=none:=by
 cases e:H q with
 | none=>rfl
 | some o =>
  have:=k q o e (fun z=>by rw[zG.mp z,hp] at n; cases n)
  rw[n] at this
  cases this
section
variable {X:Cx}
end
end L2
namespace L2
open PySem PySem.Spec PyProof.Rows
inductive tMethU_ {ι:Type} (cls:ι→Addr) (m:Str) (sp:ι→Sp) (E:XK) (t:TA) (σ:St) (Q:VK) (x:V) (H1:Hp):Prop where
 | mk (a i dx fs:_) (h_0:x=.ref a) (h_1:H1 a=some (.ins (cls i) dx fs)) (h_2:fs.lookup m=none) (h_3:t σ H1 fun vs H2=>sp i (x::vs) H2 Q E):tMethU_ cls m sp E t σ Q x H1
def tMethU {ι:Type} (cls:ι→Addr) (m:Str) (sp:ι→Sp) (E:XK) (ta:TE) (t:TA):TE:=fun σ H Q=>ta σ H fun x H1=>tMethU_ cls m sp E t σ Q x H1
section
variable {X:Cx} {k:Nat} {ps:List Str} {ι:Type} {cls:ι→Addr} {sp:ι→Sp} {m:Str} {pos apos:Pos} {e o:Expr} {es:List Expr} {t:TA} {ta:TE}
theorem pe_mthU {pl:Sem Bool} (G:∀ i,MethAt X.prog X.w X.K X.mg X.base k (cls i) m ps (sp i)) (hr:Room k X.A) (he:PE X o ta) (ha:PA X (e::es) t)
  (hst:starEach (e::es) X.env=(false,eval e X.env)::starEach es X.env:=by rfl) (hpl:(backTo pos (starEach es X.env)).any (·.1)=false:=by rfl)
  (ht:eval (.Call (.Attribute o m apos) (e::es) [] pos) X.env=(do
   let ov ← eval o X.env
   standAt apos.atName
   let (f,first) ← holding [ov] (getMethod ov m pl)
   callWith pos f first (backTo pos (starEach (e::es) X.env)) (backToKw pos (keywordEach [] X.env))):=by rfl) :
  PE X (.Call (.Attribute o m apos) (e::es) [] pos) (tMethU cls m sp E0 ta t):=by
 intro pins s σ H Q I h
 refine PySem.W.methodCall_KW (pl:=pl) (thn (he pins s σ H _ I h) fun u s1 ⟨x,H1,I1,rx,a,i,dx,fs,ex,ea,l,q⟩=>?_) ht
 obtain⟨f,fd,F,hm,hb⟩:=(G i).ex
 subst ex
 obtain rfl:u=Value.ref a:=rx
 refine getmeth_ok I1 ea (G i).cls hm l ?_
 refine PySem.W.callWith_K (first:=[.ref a]) (h₀:=X.base) I.ok.mod.kin hm.kp (thn (ha pos pins s1 σ H1 _ I1 q) fun us s2 ⟨vs,H2,I2,r,q2⟩=>⟨I2.kIn,?_⟩) hst hpl
 exact run_fn (us:=.ref a::us) (vs:=.ref a::vs) (ds:=[]) (dvs:=[]) F hr hb .nil pass0 I2 (.cons rfl r) (by rw[zP]; exact q2)
end
section
variable {X:Cx} {K:PySem.W.Frag} {o e:Expr} {es:List Expr} {to:TE} {t:TA} {name:Str} {apos cpos:Pos} {T id:String} {r:V→List V→Hp→VK→Prop}
end
theorem MethAt.imp {P:Program} {w:World} {K:PySem.W.Frag} {mg:Str→Option Value} {base:Heap} {k:Nat} {C:Addr} {m:Str} {ps:List Str} {sp sp':Sp} (G:MethAt P w K mg base k C m ps sp) (h:∀ vs H Q E,sp' vs H Q E→sp vs H Q E):MethAt P w K mg base k C m ps sp':=by
 obtain⟨f,fd,F,hm,hb⟩:=G.ex
 exact⟨⟨f,fd,F.imp h,hm,hb⟩,G.cls⟩
theorem MethAt.mono {P:Program} {w:World} {K:PySem.W.Frag} {mg:Str→Option Value} {base:Heap} {j k:Nat} {C:Addr} {m:Str} {ps:List Str} {sp:Sp} (G:MethAt P w K mg base j C m ps sp) (h:j≤k):MethAt P w K mg base k C m ps sp:=by
 obtain⟨f,fd,F,hm,hb⟩:=G.ex
 exact⟨⟨f,fd,F.mono h,hm,hb⟩,G.cls⟩
end L2
namespace L2
open PySem PySem.Spec PyProof.Rows
section
variable {X:Cx} {pins:List (Addr × Obj)} {σ:St} {H:Hp} {s:Shared} {d:Addr}
end
section
variable {X:Cx} {l tg:Expr} {td:TE} {g:TG} {tb:TS} {apos cpos pos:Pos} {body:List Stmt}
end
end L2
namespace L2
open PySem PySem.Spec PyProof.Rows
section
variable (a₀:Array Keyed)
def kAt (p:Nat):Int:=PyProof.Rows.K a₀ p
def lexP (p q:Nat):Prop:=kAt a₀ p < kAt a₀ q∨(kAt a₀ p=kAt a₀ q∧p < q)
structure Gh (st:SortSt) (g:Array Nat):Prop where
 base:SBase a₀ st
 size:g.size=a₀.size
 at':∀ k:Nat,(arrOf st)[k]?=(g[k]?).bind fun(p:Nat)=>a₀[p]?
 perm:g.toList.Perm (List.range a₀.size)
def gAt (g:Array Nat) (k:Nat):Nat:=(g[k]?).getD 0
def SortedL (g:Array Nat) (n:Nat):Prop:=∀ i j,i < j→j < n→lexP a₀ (gAt g i) (gAt g j)
def DescL (g:Array Nat) (n:Nat):Prop:=∀ i j,i < j→j < n→lexP a₀ (gAt g j) (gAt g i)
structure Rest (g:Array Nat) (n:Nat):Prop where
 low:∀ k,k < n→gAt g k < n
 same:∀ k,n≤k→k < a₀.size→gAt g k=k
end
section
variable {a₀:Array Keyed} {st:SortSt} {g:Array Nat}
theorem Gh.k (G:Gh a₀ st g) {i:Nat} (hi:i < a₀.size):PyProof.Rows.K (arrOf st) i=kAt a₀ (gAt g i):=by
 have hg:i < g.size:=by rw[G.size]; exact hi
 refine K_congr ?_
 rw[G.at' i,gAt,kQ hg]
 rfl
theorem size_swapIB {α:Type} (xs:Array α) (i j:Nat):(xs.swapIfInBounds i j).size=xs.size:=Array.size_swapIfInBounds
theorem bind_swap {xs:Array Keyed} {g:Array Nat} (hs:xs.size=g.size) (h:∀ k:Nat,xs[k]?=(g[k]?).bind fun(p:Nat)=>a₀[p]?) (i j:Nat):∀ k:Nat,(xs.swapIfInBounds i j)[k]?=((g.swapIfInBounds i j)[k]?).bind fun(p:Nat)=>a₀[p]?:=fun k=>by
 by_cases hi:i < xs.size
 ·by_cases hj:j < xs.size
  ·rw[getElem?_swapIB hi hj,getElem?_swapIB (by omega) (by omega)]
   split
   ·exact h i
   ·split
    ·exact h j
    ·exact h k
  ·rw[q8,q8,dif_pos hi,dif_pos (by omega:i < g.size),dif_neg hj,dif_neg (by omega)]
   exact h k
 ·rw[q8,q8,dif_neg hi,dif_neg (by omega)]
  exact h k
theorem bind_swaps {β:Type} (p q:β→Nat):∀(l:List β) (xs:Array Keyed) (g:Array Nat),xs.size=g.size→(∀ k:Nat,xs[k]?=(g[k]?).bind fun(p:Nat)=>a₀[p]?) →
  ∀ k:Nat,(l.foldl (fun a k=>a.swapIfInBounds (p k) (q k)) xs)[k]?=((l.foldl (fun a k=>a.swapIfInBounds (p k) (q k)) g)[k]?).bind fun(p:Nat)=>a₀[p]?
 | [],_,_,_,h=>h
 | x::l,xs,g,hs,h=>bind_swaps p q l _ _ (by rw[size_swapIB,size_swapIB]; exact hs) (bind_swap hs h (p x) (q x))
theorem Gh.mirror (G:Gh a₀ st g) (i j d:Nat):Gh a₀ (setArr st (mirror (arrOf st) i j d)) (mirror g i j d) :=
 ⟨G.base.setArr (mirror_perm _ _ _ _),by rw[mirror_size]; exact G.size,bind_swaps _ _ _ _ _ (by rw[G.base.size,G.size]) G.at',(kM.mp (mirror_perm g i j d)).trans G.perm⟩
theorem Gh.bubble (G:Gh a₀ st g) (src d:Nat):Gh a₀ (setArr st (bubble (arrOf st) src d)) (bubble g src d) :=
 ⟨G.base.setArr (bubble_perm _ _ _),by rw[bubble_size]; exact G.size,bind_swaps _ _ _ _ _ (by rw[G.base.size,G.size]) G.at',(kM.mp (bubble_perm g src d)).trans G.perm⟩
theorem gAt_mirror {g:Array Nat} {i j:Nat} (hj:j≤g.size) (k:Nat):gAt (mirror g i j ((j - i) / 2)) k=if i≤k∧k < j then gAt g (i + j - 1 - k) else gAt g k:=by
 unfold gAt
 rw[getElem?_mirror_all hj]
 split <;> rfl
theorem gAt_bubble {g:Array Nat} {src d:Nat} (hs:src < g.size) (hd:d≤src) (k:Nat):gAt (bubble g src d) k=if k=src - d then gAt g src else if src - d < k∧k≤src then gAt g (k - 1) else gAt g k:=by
 unfold gAt
 rw[getElem?_bubble hs d hd]
 split
 ·rfl
 ·split <;> rfl
theorem Rest.mirror {g:Array Nat} {n i j:Nat} (R:Rest a₀ g n) (hj:j≤n) (hn:j≤g.size):Rest a₀ (mirror g i j ((j - i) / 2)) n:=by
 refine⟨fun k hk=>?_,fun k h1 h2=>?_⟩
 ·rw[gAt_mirror hn]
  split
  ·exact R.low _ (by omega)
  ·exact R.low _ hk
 ·rw[gAt_mirror hn,if_neg (by omega)]
  exact R.same k h1 h2
end
section
variable {prog:Program} {w:World} {A:Around} {E:Value→Shared→Prop} {s:Shared} {a₀:Array Keyed}
theorem wpS_ltG {st:SortSt} {g:Array Nat} {i j:Nat} {Q:Option Bool→SortSt→Prop} (G:Gh a₀ st g) (h0:IntKeys a₀) (hi:i < a₀.size) (hj:j < a₀.size) (h:Q (some (decide (kAt a₀ (gAt g i) < kAt a₀ (gAt g j)))) st) :
  wpS (model prog w) A E s (ltAt' i j) Q st:=by
 refine wpS_ltK G.base h0 hi hj ?_
 rw[G.k hi,G.k hj]
 exact h
theorem wpS_ascG {st:SortSt} {g:Array Nat} {a nrem:Nat} {Q:AscSt→SortSt→Prop} (h0:IntKeys a₀) (hn:nrem≤a₀.size) (ha:1≤a) (han:a≤nrem) (G:Gh a₀ st g) (hs:SortedL a₀ g a) (hr:Rest a₀ g a)
  (h:∀ n,a≤n→n≤nrem→SortedL a₀ g n→Rest a₀ g n→(n=nrem∨kAt a₀ (gAt g n) < kAt a₀ (gAt g (n - 1)))→Q (none,n) st):wpS (model prog w) A E s (ascLoop a nrem) Q st:=by
 unfold ascLoop
 refine wpS_forRange (I:=fun x c st'=>st'=st∧c=(none,x)∧SortedL a₀ g x∧Rest a₀ g x) ?step ?fin ⟨rfl,rfl,hs,hr⟩
 case fin =>
  rintro c st' ⟨rfl,rfl,hs',hr'⟩
  rw[show max a nrem=nrem by omega] at hs' hr' ⊢
  exact h nrem han (zI _) hs' hr' (.inl rfl)
 case step =>
  rintro x c st' hax hxn ⟨rfl,rfl,hs',hr'⟩
  dsimp only
  refine wpS_bind (wpS_ltG G h0 (by omega) (by omega) ?_)
  by_cases hless:kAt a₀ (gAt g x) < kAt a₀ (gAt g (x - 1))
  ·simp only [hless,decide_true,if_true]
   exact wpS_pure (h x hax (by omega) hs' hr' (.inr hless))
  ·simp only [hless,decide_false,yJ,if_false]
   have ex:=hr'.same x (zI _) (by omega)
   refine wpS_pure ⟨rfl,rfl,fun i j hij hj=>?_,⟨fun k hk=>?_,fun k h1 h2=>hr'.same k (by omega) h2⟩⟩
   ·by_cases hjx:j < x
    ·exact hs' i j hij hjx
    ·have hj':j=x:=by omega
     subst hj'
     have li:=hr'.low i hij
     by_cases hi':i=j - 1
     ·subst hi'
      unfold lexP
      rw[ex] at hless ⊢
      omega
     ·have l1:=hs' i (j - 1) (by omega) (by omega)
      unfold lexP at l1 ⊢
      rw[ex] at hless ⊢
      omega
   ·by_cases hkx:k < x
    ·have:=hr'.low k hkx; omega
    ·have:k=x:=by omega
     subst this
     omega
theorem wpS_tail3G {st:SortSt} {g:Array Nat} {n nrem:Nat} {Q:Option Nat→SortSt→Prop} (h0:IntKeys a₀) (hn:nrem≤a₀.size) (h1:1≤n) (hnn:n≤nrem) (G:Gh a₀ st g) (hs:DescL a₀ g n) (hr:Rest a₀ g n)
  (h:∀ m st' g',Gh a₀ st' g'→1≤m→m≤nrem→SortedL a₀ g' m→Rest a₀ g' m→Q (some m) st'):wpS (model prog w) A E s (tail3 n nrem) Q st:=by
 unfold tail3
 have hsz:n≤g.size:=by rw[G.size]; omega
 refine wpS_bind (wpS_reverse ?_)
 have G':=G.mirror 0 n ((n - 0) / 2)
 refine wpS_bind (wpS_ascG h0 hn h1 hnn G' ?_ (hr.mirror (zI _) hsz) fun m hm1 hm2 hsm hrm _=>wpS_pure (h m _ _ G' (by omega) hm2 hsm hrm))
 intro i j hij hj
 rw[gAt_mirror hsz,gAt_mirror hsz,if_pos (by omega),if_pos (by omega)]
 exact hs _ _ (by omega) (by omega)
structure Fall (a₀:Array Keyed) (g:Array Nat) (x neq:Nat):Prop where
 le:neq + 1≤x
 d:DescL a₀ g (x - (neq + 1))
 lt:∀ i,i < x - (neq + 1)→kAt a₀ (gAt g (x - 1)) < kAt a₀ (gAt g i)
 eq:∀ i,x - (neq + 1)≤i→i < x→kAt a₀ (gAt g i)=kAt a₀ (gAt g (x - 1))
 up:∀ i j,x - (neq + 1)≤i→i < j→j < x→gAt g i < gAt g j
theorem Fall.turn {g:Array Nat} {x neq:Nat} (F:Fall a₀ g x neq) (hx:x≤g.size):DescL a₀ (mirror g (x - (neq + 1)) x ((x - (x - (neq + 1))) / 2)) x:=by
 obtain⟨hl,fd,flt,feq,fup⟩:=F
 have hbx:x - (neq + 1)≤x:=Nat.sub_le _ _
 clear hl
 generalize x - (neq + 1)=b at *
 intro i j hij hj
 have inn:∀ t,b≤t→t < x→b≤b + x - 1 - t∧b + x - 1 - t < x:=fun t h1 h2=>by omega
 rw[gAt_mirror hx,gAt_mirror hx]
 by_cases hi:b≤i
 ·have hi2:=kZ hij hj
  have hj2:=qB (y6 hi hij)
  have mv:b + x - 1 - j < b + x - 1 - i:=by omega
  rw[if_pos ⟨hj2,hj⟩,if_pos ⟨hi,hi2⟩]
  have e1:=feq _ (inn j hj2 hj).1 (inn j hj2 hj).2
  have e2:=feq _ (inn i hi hi2).1 (inn i hi hi2).2
  exact .inr ⟨e1.trans e2.symm,fup _ _ (inn j hj2 hj).1 mv (inn i hi hi2).2⟩
 ·rw[if_neg (show ¬ (b≤i∧i < x) from fun z=>hi z.1)]
  by_cases hjb:b≤j
  ·rw[if_pos ⟨hjb,hj⟩]
   have e1:=feq _ (inn j hjb hj).1 (inn j hjb hj).2
   have l1:=flt i (Nat.not_le.mp hi)
   exact .inl (by rw[e1]; exact l1)
  ·rw[if_neg (show ¬ (b≤j∧j < x) from fun z=>hjb z.1)]
   exact fd i j hij (Nat.not_le.mp hjb)
theorem Fall.whole {g:Array Nat} {x:Nat} (F:Fall a₀ g x 0):DescL a₀ g x:=by
 intro i j hij hj
 by_cases hjb:j < x - 1
 ·exact F.d i j hij hjb
 ·have:j=x - 1:=by omega
  subst this
  exact .inl (F.lt i (by omega))
theorem Fall.next {g:Array Nat} {x:Nat} (hd:DescL a₀ g x) (hx:1≤x) (hl:kAt a₀ (gAt g x) < kAt a₀ (gAt g (x - 1))):Fall a₀ g (x + 1) 0:=by
 refine⟨by omega,?_,fun i hi=>?_,fun i h1 h2=>?_,fun i j h1 h2 h3=>by omega⟩
 ·rw[show x + 1 - (0 + 1)=x by omega]
  exact hd
 ·rw[show x + 1 - 1=x by omega]
  by_cases hi':i=x - 1
  ·rw[hi']; exact hl
  ·have:=hd i (x - 1) (by omega) (by omega)
   unfold lexP at this
   omega
 ·rw[show x + 1 - 1=i by omega]
theorem wpS_descG {st:SortSt} {g:Array Nat} {n nrem:Nat} {Q:DescSt→SortSt→Prop} (h0:IntKeys a₀) (hn:nrem≤a₀.size) (hnn:n≤nrem) (G:Gh a₀ st g) (hf:Fall a₀ g n 0) (hr:Rest a₀ g n)
  (h:∀ m neq st' g',Gh a₀ st' g'→n≤m→m≤nrem→Fall a₀ g' m neq→Rest a₀ g' m→Q (none,m,neq) st'):wpS (model prog w) A E s (descLoop n nrem) Q st:=by
 unfold descLoop
 refine wpS_forRange (I:=fun x c st'=>∃ neq g',c=(none,x,neq)∧Gh a₀ st' g'∧Fall a₀ g' x neq∧Rest a₀ g' x) ?step ?fin ⟨0,g,rfl,G,hf,hr⟩
 case fin =>
  rintro c st' ⟨neq,g',rfl,G',hf',hr'⟩
  rw[Nat.max_eq_right hnn] at hf' hr' ⊢
  exact h nrem neq st' g' G' hnn (zI _) hf' hr'
 case step =>
  rintro x c st' hax hxn ⟨neq,g',rfl,G',hf',hr'⟩
  dsimp only
  have hx1:1≤x:=z9 (Nat.le_add_left 1 neq) hf'.le
  have hxs:x < a₀.size:=zU hxn hn
  have hxp:x - 1 < a₀.size:=y6 (Nat.sub_le _ _) hxs
  have hsz:x≤g'.size:=by rw[G'.size]; exact qB hxs
  have ex:=hr'.same x (zI _) hxs
  have rest1:∀ g2:Array Nat,Rest a₀ g2 x→Rest a₀ g2 (x + 1):=fun g2 R=>⟨fun k hk=>by
   by_cases hkx:k < x
   ·have:=R.low k hkx; omega
   ·have e:k=x:=by omega
    rw[e,R.same x (zI _) hxs]; omega,fun k h1 h2=>R.same k (by omega) h2⟩
  refine wpS_bind (wpS_ltG G' h0 hxs hxp ?_)
  by_cases hless:kAt a₀ (gAt g' x) < kAt a₀ (gAt g' (x - 1))
  ·simp only [hless,decide_true,if_true]
   by_cases hneq:neq > 0
   ·rw[if_pos hneq]
    have hd:=hf'.turn hsz
    have R2:=hr'.mirror (i:=x - (neq + 1)) (zI _) hsz
    refine wpS_bind (wpS_reverse (wpS_pure ⟨0,_,rfl,G'.mirror _ _ _,Fall.next hd hx1 ?_,rest1 _ R2⟩))
    rw[gAt_mirror hsz,gAt_mirror hsz,if_neg (by omega),if_pos (by have:=hf'.le; omega)]
    have e1:=hf'.eq (x - (neq + 1) + x - 1 - (x - 1)) (by have:=hf'.le; omega) (by have:=hf'.le; omega)
    rw[e1]
    exact hless
   ·rw[if_neg hneq]
    have e0:neq=0:=Nat.eq_zero_of_not_pos hneq
    subst e0
    exact wpS_pure ⟨0,g',rfl,G',Fall.next hf'.whole hx1 hless,rest1 _ hr'⟩
  ·simp only [hless,decide_false,yJ,if_false]
   refine wpS_bind (wpS_ltG G' h0 hxp hxs ?_)
   by_cases hlarger:kAt a₀ (gAt g' (x - 1)) < kAt a₀ (gAt g' x)
   ·simp only [hlarger,decide_true,if_true]
    exact wpS_pure (h x neq st' g' G' hax (qB hxn) hf' hr')
   ·simp only [hlarger,decide_false,yJ,if_false]
    have heq:kAt a₀ (gAt g' x)=kAt a₀ (gAt g' (x - 1)):=by omega
    have hl:=hf'.le
    refine wpS_pure ⟨neq + 1,g',rfl,G',⟨by omega,?_,fun i hi=>?_,fun i h1 h2=>?_,fun i j h1 h2 h3=>?_⟩,rest1 _ hr'⟩
    ·rw[show x + 1 - (neq + 1 + 1)=x - (neq + 1) by omega]
     exact hf'.d
    ·rw[show x + 1 - 1=x by omega,heq]
     exact hf'.lt i (by omega)
    ·rw[show x + 1 - 1=x by omega]
     by_cases hix:i=x
     ·rw[hix]
     ·rw[heq]; exact hf'.eq i (by omega) (by omega)
    ·by_cases hjx:j=x
     ·rw[hjx,ex]
      exact hr'.low i (by omega)
     ·exact hf'.up i j (by omega) h2 (by omega)
theorem wpS_descPartG {st:SortSt} {g:Array Nat} {n nrem:Nat} {Q:Option Nat→SortSt→Prop} (h0:IntKeys a₀) (hn:nrem≤a₀.size) (hnn:n + 1≤nrem) (G:Gh a₀ st g) (hf:Fall a₀ g (n + 1) 0) (hr:Rest a₀ g (n + 1))
  (h:∀ m st' g',Gh a₀ st' g'→1≤m→m≤nrem→SortedL a₀ g' m→Rest a₀ g' m→Q (some m) st'):wpS (model prog w) A E s (descPart n nrem) Q st:=by
 unfold descPart
 refine wpS_bind (wpS_lift (wpAny_rule ⟨rfl,?_⟩))
 refine wpS_bind (wpS_descG h0 hn hnn G hf hr fun m neq st' g' G' hm1 hm2 hf' hr'=>?_)
 dsimp only
 have hsz:m≤g'.size:=by rw[G'.size]; omega
 by_cases hneq:neq > 0
 ·rw[if_pos hneq]
  exact wpS_bind (wpS_reverse (wpS_tail3G h0 hn (by omega) hm2 (G'.mirror _ _ _) (hf'.turn hsz) (hr'.mirror (zI _) hsz) h))
 ·rw[if_neg hneq]
  have e0:neq=0:=by omega
  subst e0
  exact wpS_tail3G h0 hn (by omega) hm2 G' hf'.whole hr' h
theorem gAt_range {n k:Nat} (h:k < n):gAt (Array.range n) k=k:=by
 unfold gAt
 simp [h]
theorem wpS_countG {st:SortSt} {nrem:Nat} {Q:Option Nat→SortSt→Prop} (h0:IntKeys a₀) (hn:nrem=a₀.size) (h1:1≤nrem) (G:Gh a₀ st (Array.range a₀.size))
  (h:∀ m st' g',Gh a₀ st' g'→1≤m→m≤nrem→SortedL a₀ g' m→Rest a₀ g' m→Q (some m) st'):wpS (model prog w) A E s (countRun' 0 nrem) Q st:=by
 rw[countRun0_eq]
 have R:∀ n,n≤a₀.size→Rest a₀ (Array.range a₀.size) n:=fun n hn'=>⟨fun k hk=>by rw[gAt_range (zU hk hn')]; exact hk,fun k h1 h2=>gAt_range h2⟩
 refine wpS_bind (wpS_ascG h0 (j5 hn) (zI 1) h1 G (fun i j hij hj=>absurd (zU hij (jH hj)) (qH _)) (R 1 (hn ▸ h1)) fun n hn1 hn2 hsn hrn hor=>?_)
 dsimp only
 by_cases hnn:n=nrem
 ·rw[if_pos (by simpa using hnn)]
  exact wpS_pure (h n st _ G hn1 hn2 hsn hrn)
 ·rw[if_neg (by simpa using hnn)]
  have hlt:=hor.resolve_left hnn
  by_cases hgt:n > 1
  ·rw[if_pos hgt]
   refine wpS_bind (wpS_ltG G h0 (by omega) (by omega) ?_)
   by_cases hrose:kAt a₀ (gAt (Array.range a₀.size) 0) < kAt a₀ (gAt (Array.range a₀.size) (n - 1))
   ·simp only [hrose,decide_true,if_true]
    exact wpS_pure (h n st _ G hn1 hn2 hsn hrn)
   ·simp only [hrose,decide_false,yJ,if_false]
    have hsz:n≤(Array.range a₀.size).size:=by rw[G.size,← hn]; exact hn2
    have ez:n - (n - 1 + 1)=0:=by omega
    have hf:Fall a₀ (Array.range a₀.size) n (n - 1):=by
     refine⟨by omega,fun i j hij hj=>absurd (ez ▸ hj:j < 0) (qH _),fun i hi=>absurd (ez ▸ hi:i < 0) (qH _),fun i h1 h2=>?_,fun i j h1 h2 h3=>?_⟩
     ·by_cases hi0:i=0
      ·subst hi0
       by_cases e:(0:Nat)=n - 1
       ·rw[← e]
       ·have:=hsn 0 (n - 1) (by omega) (by omega)
        unfold lexP at this
        omega
      ·have a1:=hsn 0 i (by omega) h2
       by_cases e:i=n - 1
       ·rw[e]
       ·have a2:=hsn i (n - 1) (by omega) (by omega)
        unfold lexP at a1 a2
        omega
     ·rw[gAt_range (by omega),gAt_range (by omega)]
      exact h2
    have hd:=hf.turn hsz
    rw[ez] at hd
    have hrm:=(R n (hn ▸ hn2)).mirror (i:=0) (zI _) hsz
    refine wpS_bind (wpS_reverse (wpS_descPartG h0 (by omega) (by omega) (G.mirror _ _ _) (Fall.next hd (by omega) ?_) ?_ h))
    ·rw[gAt_mirror hsz,gAt_mirror hsz,if_neg (by omega),if_pos (by omega),show 0 + n - 1 - (n - 1)=0 by omega]
     have e0:=hf.eq 0 (by omega) (by omega)
     rw[e0]
     exact hlt
    ·exact⟨fun k hk=>by
      by_cases hkn:k < n
      ·have:=hrm.low k hkn; omega
      ·have e:k=n:=by omega
       rw[e,hrm.same n (zI _) (by omega)]; omega,fun k h1 h2=>hrm.same k (by omega) h2⟩
  ·rw[if_neg hgt]
   have hn1':n=1:=by omega
   subst hn1'
   exact wpS_descPartG h0 (by omega) (by omega) G (Fall.next (fun i j hij hj=>absurd (zU hij (jH hj)) (qH _)) (zI _) hlt) (R 2 (by omega)) h
theorem wpS_binG {st:SortSt} {g:Array Nat} {n ok:Nat} {Q:Bool→SortSt→Prop} (h0:IntKeys a₀) (hn:n=a₀.size) (hok:ok≤n) (hok1:1≤ok) (G:Gh a₀ st g) (hs:SortedL a₀ g ok) (hr:Rest a₀ g ok)
  (h:∀ st' g',Gh a₀ st' g'→SortedL a₀ g' n→Q true st'):wpS (model prog w) A E s (binarySort' 0 n ok) Q st:=by
 rw[binarySort'_eq]
 simp only [qO]
 refine wpS_bind (wpS_mono (wpS_forRange (I:=fun k c st'=>c=(none,())∧∃ g',Gh a₀ st' g'∧SortedL a₀ g' k∧Rest a₀ g' k)
  (Q:=fun c st'=>c=(none,())∧∃ g',Gh a₀ st' g'∧SortedL a₀ g' n) ?step ?fin ?init) ?post)
 case post =>
  rintro c st' ⟨rfl,g',G',hs'⟩
  exact wpS_pure (h st' g' G' hs')
 case init =>
  rw[Nat.max_eq_left hok1]
  exact⟨rfl,g,G,hs,hr⟩
 case fin =>
  rintro c st' ⟨hc,g',G',hs',_⟩
  rw[Nat.max_eq_left hok1,Nat.max_eq_right hok] at hs'
  exact⟨hc,g',G',hs'⟩
 case step =>
  rintro k c st' hak hkn ⟨rfl,g',G',hs',hr'⟩
  have hk:k < a₀.size:=by omega
  have ek:=hr'.same k (zI _) hk
  refine wpS_bind (wpS_mono (wpS_forRange (I:=fun x c st''=>st''=st'∧∃ l r,c=(none,l,r)∧l≤r∧r≤k∧r - l≤k - x ∧
    (∀ i,i < l→kAt a₀ (gAt g' i)≤kAt a₀ (gAt g' k))∧(∀ i,r≤i→i < k→kAt a₀ (gAt g' k) < kAt a₀ (gAt g' i)))
   (Q:=fun c st''=>st''=st'∧∃ l r,c=(none,l,r)∧l≤k ∧
    (∀ i,i < l→kAt a₀ (gAt g' i)≤kAt a₀ (gAt g' k))∧(∀ i,l≤i→i < k→kAt a₀ (gAt g' k) < kAt a₀ (gAt g' i))) ?istep ?ifin ?iinit) ?ipost)
  case iinit=>exact⟨rfl,0,k,rfl,by omega,by omega,by omega,fun i hi=>by omega,fun i h1 h2=>by omega⟩
  case ifin =>
   rintro c st'' ⟨rfl,l,r,rfl,hlr,hrk,hm,hlo,hhi⟩
   have:l=r:=by omega
   subst this
   exact⟨rfl,l,l,rfl,hrk,hlo,hhi⟩
  case istep =>
   rintro x c st'' _ hxk ⟨rfl,l,r,rfl,hlr,hrk,hm,hlo,hhi⟩
   dsimp only
   have mono:∀ i j,i≤j→j < k→kAt a₀ (gAt g' i)≤kAt a₀ (gAt g' j):=fun i j hij hj=>by
    by_cases e:i=j
    ·rw[e]; exact qV _
    ·have:=hs' i j (by omega) hj
     unfold lexP at this
     omega
   by_cases hge:l ≥ r
   ·rw[if_pos hge]
    have:l=r:=by omega
    subst this
    exact wpS_pure ⟨rfl,l,l,rfl,hrk,hlo,hhi⟩
   ·rw[if_neg hge]
    have m1:l≤(l + r) / 2:=by omega
    have m2:(l + r) / 2 < r:=by omega
    generalize (l + r) / 2=md at m1 m2 ⊢
    have mk:md < k:=zU m2 hrk
    refine wpS_bind (wpS_ltG G' h0 hk (kZ mk hk) ?_)
    by_cases hless:kAt a₀ (gAt g' k) < kAt a₀ (gAt g' md)
    ·simp only [hless,decide_true,if_true]
     refine wpS_pure ⟨rfl,l,md,rfl,m1,qB mk,Nat.le_pred_of_lt (zU (Nat.sub_lt_sub_right m1 m2) hm),hlo,fun i h1 h2=>?_⟩
     exact qP hless (mono _ _ h1 h2)
    ·simp only [hless,decide_false,yJ,if_false]
     refine wpS_pure ⟨rfl,md + 1,r,rfl,m2,hrk,Nat.sub_le_sub_right (z9 (Nat.sub_le_sub_left m1 r) hm) 1,fun i h1=>?_,hhi⟩
     exact j7 (mono i md (jH h1) mk) (kL.mp hless)
  case ipost =>
   rintro c st'' ⟨rfl,l,r,rfl,hlk,hlo,hhi⟩
   show wpS _ _ _ _ (do moveDown' k l; pure (ForInStep.yield (none,()))) _ _
   rw[moveDown'_eq]
   have hks:k < g'.size:=by rw[G'.size]; exact hk
   have hkd:k - l≤k:=Nat.sub_le _ _
   have hkl:k - (k - l)=l:=Nat.sub_sub_self hlk
   refine wpS_bind (wpS_modify (wpS_pure ⟨rfl,bubble g' k (k - l),G'.bubble k (k - l),fun i j hij hj=>?_,⟨fun i hi=>?_,fun i h1 h2=>?_⟩⟩))
   ·rw[gAt_bubble hks hkd,gAt_bubble hks hkd,hkl]
    by_cases hil:i=l
    ·rw[if_pos hil,if_neg (kX (hil ▸ hij)),if_pos ⟨hil ▸ hij,jH hj⟩]
     exact .inl (hhi (j - 1) (Nat.le_pred_of_lt (hil ▸ hij)) (by omega))
    ·rw[if_neg hil]
     by_cases hil2:i < l
     ·rw[if_neg (by omega)]
      by_cases hjl:j=l
      ·rw[if_pos hjl]
       have a1:=hlo i hil2
       have a2:=hr'.low i (by omega)
       unfold lexP
       rw[ek] at a1 ⊢
       omega
      ·rw[if_neg hjl]
       by_cases hjl2:l < j
       ·rw[if_pos (by omega)]
        exact hs' i (j - 1) (by omega) (by omega)
       ·rw[if_neg (by omega)]
        exact hs' i j hij (by omega)
     ·rw[if_pos (by omega),if_neg (by omega),if_pos (by omega)]
      exact hs' (i - 1) (j - 1) (by omega) (by omega)
   ·rw[gAt_bubble hks hkd,hkl]
    split
    ·omega
    ·split
     ·have:=hr'.low (i - 1) (by omega); omega
     ·have:=hr'.low i (by omega); omega
   ·rw[gAt_bubble hks hkd,hkl,if_neg (by omega),if_neg (by omega)]
    exact hr'.same i (by omega) h2
theorem wpS_sortG {st:SortSt} {Q:Unit→SortSt→Prop} (h0:IntKeys a₀) (hB:SBase a₀ st) (he:arrOf st=a₀) (h2:2≤a₀.size) (h64:a₀.size < 64)
  (h:∀ st' g,(arrOf st').Perm a₀→failedOf st'=none→(∀ k:Nat,(arrOf st')[k]?=((g:Array Nat)[k]?).bind fun(p:Nat)=>a₀[p]?)→g.toList.Perm (List.range a₀.size)→SortedL a₀ g a₀.size→Q () st'):wpS (model prog w) A E s sortRuns' Q st:=by
 have G0:Gh a₀ st (Array.range a₀.size):=⟨hB,by simp,fun k=>by
  rw[he]
  by_cases hk:k < a₀.size
  ·have e:(Array.range a₀.size)[k]?=some k:=by simp [hk]
   rw[e]
   rfl
  ·rw[qQ (by omega),qQ (by simpa using hk)]
   rfl,by rw[Array.toList_range]⟩
 rw[sortRuns'_eq]
 refine wpS_bind (wpS_get ?_)
 dsimp only
 have hmr:minRun' a₀.size a₀.size 0=a₀.size:=by
  obtain⟨f,hf⟩:∃ f,a₀.size=f + 1:=⟨a₀.size - 1,by omega⟩
  have:minRun' (f + 1) a₀.size 0=a₀.size:=by rw[minRun'_succ,if_pos h64]; rfl
  rwa [← hf] at this
 simp only [hB.size,hmr]
 refine wpS_bind (wpS_mono (wpS_forRange
  (I:=fun x c st'=>(x=0∧c=(none,0)∧st'=st)∨(1≤x∧c=(none,a₀.size)∧pendingOf st'=#[(0,a₀.size,0)]∧∃ st'' g,Gh a₀ st'' g∧SortedL a₀ g a₀.size∧arrOf st'=arrOf st''∧failedOf st'=none))
  (Q:=fun c st'=>c=(none,a₀.size)∧pendingOf st'=#[(0,a₀.size,0)]∧∃ st'' g,Gh a₀ st'' g∧SortedL a₀ g a₀.size∧arrOf st'=arrOf st''∧failedOf st'=none) ?step ?fin (.inl ⟨rfl,rfl,rfl⟩)) ?post)
 case fin =>
  rintro c st' (⟨hx,_,_⟩|⟨_,hc,hD⟩)
  ·omega
  ·exact⟨hc,hD⟩
 case step =>
  rintro x c st' _ hx (⟨rfl,rfl,rfl⟩|⟨hx1,rfl,hD⟩)
  ·dsimp only
   rw[if_neg (by omega)]
   simp only [Nat.sub_zero,kY,qO]
   refine wpS_bind (wpS_countG h0 rfl (by omega) G0 fun m st2 g2 G2 hm1 hm2 hs2 hr2=>?_)
   dsimp only
   by_cases hlt:m < a₀.size
   ·rw[if_pos hlt]
    refine wpS_bind (wpS_lift (wpAny_rule ⟨rfl,?_⟩))
    refine wpS_bind (wpS_binG h0 rfl hm2 hm1 G2 hs2 hr2 fun st3 g3 G3 hs3=>?_)
    simp only [Bool.not_true,yJ,if_false]
    refine wpS_bind (wpS_get ?_)
    have hb:(pendingOf st3).back?=none:=by rw[G3.base.pend]; rfl
    rw[hb]
    dsimp only
    exact wpS_bind (wpS_modify (wpS_pure (.inr ⟨by omega,rfl,by show(pendingOf st3).push _=_; rw[G3.base.pend]; rfl,st3,g3,G3,hs3,rfl,G3.base.failed⟩)))
   ·rw[if_neg hlt]
    have hm:m=a₀.size:=by omega
    subst hm
    refine wpS_bind (wpS_get ?_)
    have hb:(pendingOf st2).back?=none:=by rw[G2.base.pend]; rfl
    rw[hb]
    dsimp only
    exact wpS_bind (wpS_modify (wpS_pure (.inr ⟨by omega,rfl,by show(pendingOf st2).push _=_; rw[G2.base.pend]; rfl,st2,g2,G2,hs2,rfl,G2.base.failed⟩)))
  ·dsimp only
   rw[if_pos (zI _)]
   exact wpS_pure ⟨rfl,hD⟩
 case post =>
  rintro c st' ⟨rfl,hD⟩
  dsimp only
  refine wpS_bind (wpS_mono (wpS_forRange (I:=fun _ c st''=>st''=st'∧c=(none,())) (Q:=fun c st''=>st''=st'∧c=(none,())) ?_ (fun _ _ hh=>hh) ⟨rfl,rfl⟩) ?_)
  ·rintro x c st'' _ _ ⟨rfl,rfl⟩
   refine wpS_bind (wpS_get ?_)
   rw[if_pos (by rw[hD.1]; exact zI 1)]
   exact wpS_pure ⟨rfl,rfl⟩
  ·rintro c st'' ⟨rfl,rfl⟩
   obtain⟨_,st3,g3,G3,hs3,ea,ef⟩:=hD
   refine wpS_pure (h _ g3 (by rw[ea]; exact G3.base.perm) ef (fun k=>by rw[ea]; exact G3.at' k) G3.perm hs3)
end
end L2
namespace L2
open PySem PySem.Spec PyProof.Rows
def StabOut (kz:List Int) (vs out:List Value):Prop :=
 ∃ is:List Nat,is.Perm (List.range vs.length)∧out=is.map (fun i=>vs.getD i .none)∧is.Pairwise (fun i j=>kz.getD i 0 < kz.getD j 0∨(kz.getD i 0=kz.getD j 0∧i < j))
theorem zip_at {keys:Array Value} {vs:List Value} {kz:List Int} (hk:IntsAre keys.toList kz) (hlen:kz.length=vs.length) {p:Nat} (hp:p < vs.length) :
  ∃ t,(keys.zip vs.toArray)[p]?=some (.int (kz.getD p 0) t,vs.getD p .none):=by
 have hl:=hk.length
 rw[qM] at hl
 have e1:kz[p]?=some (kz.getD p 0):=by
  rw[zA,zB (by omega)]; rfl
 obtain⟨t,ht⟩:=hk.get p _ e1
 refine⟨t,?_⟩
 have e2:vs[p]?=some (vs.getD p .none):=by
  rw[zA,zB hp]; rfl
 rw[← qG,ksk_zip,kP]
 exact⟨ht,e2⟩
theorem stab_of {keys:Array Value} {vs:List Value} {kz:List Int} (hk:IntsAre keys.toList kz) (hlen:kz.length=vs.length) {xs:Array Keyed} {g:Array Nat}
  (ha:∀ k:Nat,xs[k]?=(g[k]?).bind fun(p:Nat)=>(keys.zip vs.toArray)[p]?) (hp:g.toList.Perm (List.range vs.length)) (hs:SortedL (keys.zip vs.toArray) g vs.length):StabOut kz vs (xs.map (·.2)).toList:=by
 have hgl:g.size=vs.length:=by have:=hp.length_eq; simpa using this
 have hmem:∀ k,k < vs.length→∃ p,g[k]?=some p∧p < vs.length:=fun k hk'=>by
  have e:g[k]?=some g[k]:=kQ (by omega)
  have:g[k] ∈ g.toList:=by simp
  exact⟨_,e,yU.mp (hp.mem_iff.mp this)⟩
 refine⟨g.toList,hp,?_,?_⟩
 ·refine qT fun k=>?_
  rw[qG,Array.getElem?_map,ha,zF,qG]
  by_cases hk':k < vs.length
  ·obtain⟨p,e,hpl⟩:=hmem k hk'
   obtain⟨t,e2⟩:=zip_at hk hlen hpl
   rw[e]
   show Option.map _ ((keys.zip vs.toArray)[p]?)=_
   rw[e2]
   rfl
  ·have:g[k]?=none:=qQ (by omega)
   rw[this]
   rfl
 ·rw[List.pairwise_iff_getElem]
  intro i j hi hj hij
  have hi':i < vs.length:=by simpa [hgl] using hi
  have hj':j < vs.length:=by simpa [hgl] using hj
  obtain⟨p,ep,hpl⟩:=hmem i hi'
  obtain⟨q,eq,hql⟩:=hmem j hj'
  have h1:=hs i j hij hj'
  have gi:gAt g i=p:=by unfold gAt; rw[ep]; rfl
  have gj:gAt g j=q:=by unfold gAt; rw[eq]; rfl
  have li:g.toList[i]=p:=by
   have:g.toList[i]?=some p:=by rw[qG]; exact ep
   exact(zC.mp this).2
  have lj:g.toList[j]=q:=by
   have:g.toList[j]?=some q:=by rw[qG]; exact eq
   exact(zC.mp this).2
  rw[gi,gj] at h1
  rw[li,lj]
  have kat:∀ p,p < vs.length→kAt (keys.zip vs.toArray) p=kz.getD p 0:=fun p hpl=>by
   obtain⟨t,e2⟩:=zip_at hk hlen hpl
   obtain⟨hb,e3⟩:=Array.getElem?_eq_some_iff.mp e2
   unfold kAt
   rw[K_eq hb,e3]
   rfl
  unfold lexP at h1
  rw[kat p hpl,kat q hql] at h1
  exact h1
abbrev Kept (g h:Heap):Prop:=∀ b o,g.get? b=some o→h.get? b=some o
theorem Kept.but {g h h':Heap} {a:Addr} (k:Kept g h) (s:Heap.SameBut a h h') (ha:g.objs.size≤a):Kept g h':=fun b o e =>
 (s.2 b (zY (zU (Heap.lt_size e) ha))).trans (k b o e)
section
variable {prog:Program} {w:World} {A:Around} {E:Value→Shared→Prop} {s:Shared} {g:Heap} {a kS:Addr} {vs:List Value} {kz:List Int} {keys:Array Value} {e e1:Nat} {P:PySem.Fin→Shared→Prop}
theorem sk_tail {st:SortSt} {gg:Array Nat} (F:Kept g s.heap) (nk:s.heap.get? kS=some (seqObj "list" keys e)) (na:s.heap.get? a=some (seqObj "list" #[] e1)) (hka:kS ≠ a) (hgk:g.objs.size≤kS) (hga:g.objs.size≤a)
  (hk:IntsAre keys.toList kz) (hlen:kz.length=vs.length) (h64:vs.length < 64) (hp:(arrOf st).Perm (keys.zip vs.toArray))
  (ha:∀ k:Nat,(arrOf st)[k]?=(gg[k]?).bind fun(p:Nat)=>(keys.zip vs.toArray)[p]?) (hgp:gg.toList.Perm (List.range vs.length)) (hs:SortedL (keys.zip vs.toArray) gg vs.length) (hfl:failedOf st=none)
  (h:∀ h' tk out c,Kept g h'→h'.get? a=some (seqObj "list" out c)→StabOut kz vs out.toList→P (.done (.ret .none)) { s with heap:=h',toks:=tk }) :
  wpAny (model prog w) A (ksk_tail a false e1 (.ref kS) st) P E s:=by
 have hsz:keys.size=vs.length:=by
  have h1:=hk.length
  rw[qM] at h1
  omega
 have hsz2:(arrOf st).size=vs.length:=by rw[hp.size_eq,Array.size_zip,hsz,zO,kY]
 have s1:=Heap.SameBut.update s.heap kS (Obj.mapSeq fun _=>(#[]:Array Value))
 have na1:(s.heap.update kS (Obj.mapSeq fun _=>(#[]:Array Value))).get? a=some (seqObj "list" #[] e1):=(s1.2 a hka.symm).trans na
 have s2:=Heap.SameBut.update (s.heap.update kS (Obj.mapSeq fun _=>(#[]:Array Value))) a (Obj.mapSeq fun _=>(arrOf st).map (·.2))
 obtain⟨c2,hc2⟩:∃ c2,((s.heap.update kS (Obj.mapSeq fun _=>(#[]:Array Value))).update a (Obj.mapSeq fun _=>(arrOf st).map (·.2))).get? a=some (seqObj "list" ((arrOf st).map (·.2)) c2) :=
  ⟨_,get?_update_seq na1 fun _=>(arrOf st).map (·.2)⟩
 unfold ksk_tail
 try dsimp only
 refine wpAny_bind (listUpdate_at nk rfl ?_ (by rw[hsz,sizeLine_eq]; omega) (z5 _))
 refine wpAny_bind (wpAny_letGo ?_)
 refine wpAny_bind (seqEpoch_at na1 rfl ?_)
 simp only [yJ,if_false]
 refine wpAny_bind (listUpdate_at na1 rfl ?_ (z5 _) (by rw[Array.size_map,hsz2,sizeLine_eq]; omega))
 rw[hfl]
 simp only [bne_self_eq_false,yJ,if_false]
 exact wpAny_pure (h _ _ _ c2 ((F.but s1 hgk).but s2 hga) hc2 (stab_of hk hlen ha hgp hs))
theorem sk_end (F:Kept g s.heap) (nk:s.heap.get? kS=some (seqObj "list" keys e)) (na:s.heap.get? a=some (seqObj "list" #[] e1)) (hka:kS ≠ a) (hgk:g.objs.size≤kS) (hga:g.objs.size≤a)
  (hk:IntsAre keys.toList kz) (hlen:kz.length=vs.length) (h64:vs.length < 64)
  (h:∀ h' tk out c,Kept g h'→h'.get? a=some (seqObj "list" out c)→StabOut kz vs out.toList→P (.done (.ret .none)) { s with heap:=h',toks:=tk }) :
  wpAny (model prog w) A (ksk_end a false vs.toArray e1 (.ref kS) keys) P E s:=by
 have hsz:keys.size=vs.length:=by
  have h1:=hk.length
  rw[qM] at h1
  omega
 have hzs:(keys.zip vs.toArray).size=vs.length:=by rw[Array.size_zip,hsz,zO,kY]
 unfold ksk_end
 try dsimp only
 simp only [yJ,if_false]
 by_cases h2:vs.toArray.size < 2
 ·rw[if_pos h2,if_pos h2]
  refine wpAny_bind (wpAny_pure ?_)
  rw[StateT.run_pure]
  refine wpAny_bind (wpAny_pure ?_)
  try dsimp only
  rw[zO] at h2
  refine sk_tail (st:=SortSt.mk' general' (keys.zip vs.toArray) #[] 7 none) (gg:=Array.range vs.length) F nk na hka hgk hga hk hlen h64 (Array.Perm.refl _) (fun k=>?_) (by rw[Array.toList_range]) (fun i j hij hj=>by omega) rfl h
  show(keys.zip vs.toArray)[k]?=_
  by_cases hk':k < vs.length
  ·have e:(Array.range vs.length)[k]?=some k:=by simp [hk']
   rw[e]
   rfl
  ·rw[qQ (by omega),qQ (by simpa using hk')]
   rfl
 ·rw[if_neg h2,if_neg h2]
  rw[zO] at h2
  rw[ksk_kind hk (by rw[hsz]; omega)]
  refine wpAny_bind (wpAny_pure ?_)
  refine wpAny_bind (wpAny_mono (wpS_sortG (a₀:=keys.zip vs.toArray) (st:=SortSt.mk' oneType' (keys.zip vs.toArray) #[] 7 none)
   (Q:=fun _ st'=>∃ gg:Array Nat,(arrOf st').Perm (keys.zip vs.toArray)∧failedOf st'=none∧(∀ k:Nat,(arrOf st')[k]?=(gg[k]?).bind fun(p:Nat)=>(keys.zip vs.toArray)[p]?)∧gg.toList.Perm (List.range (keys.zip vs.toArray).size)∧SortedL (keys.zip vs.toArray) gg (keys.zip vs.toArray).size)
   (ksk_intKeys hk) ⟨Array.Perm.refl _,rfl,rfl,rfl⟩ rfl (by rw[hzs]; omega) (by rw[hzs]; exact h64) fun st' gg a1 a2 a3 a4 a5=>⟨gg,a1,a2,a3,a4,a5⟩) ?_ fun _ _ e=>e)
  rintro⟨⟨⟩,st'⟩ s' ⟨rfl,gg,hp,hf,ha,hgp,hs⟩
  try dsimp only
  exact sk_tail F nk na hka hgk hga hk hlen h64 hp ha (by rw[← hzs]; exact hgp) (by rw[← hzs]; exact hs) hf h
def KeyEnd (h:Heap) (k:Int) (s₁:Shared) (v:Value) (s₂:Shared):Prop:=∃ h' tk t',s₂={ s₁ with heap:=h',toks:=tk }∧v=.int k t'∧Kept h h'
theorem sk_rest {f:Value} (F:Kept g s.heap) (nk:s.heap.get? kS=some (seqObj "list" #[] 0)) (na:s.heap.get? a=some (seqObj "list" #[] e1)) (hka:kS ≠ a) (hgk:g.objs.size≤kS) (hga:g.objs.size≤a)
  (hlen:kz.length=vs.length) (h64:vs.length < 64)
  (turn:∀(i:Nat) (v:Value) (k:Int),vs[i]?=some v→kz[i]?=some k→∀(h:Heap) (tk:Nat),Kept g h →
   wpAny (model prog w) A (call f [v]) (KeyEnd h k { s with heap:=h,toks:=tk }) (fun _ _=>False) { s with heap:=h,toks:=tk })
  (h:∀ h' tk out c,Kept g h'→h'.get? a=some (seqObj "list" out c)→StabOut kz vs out.toList→P (.done (.ret .none)) { s with heap:=h',toks:=tk }) :
  wpAny (model prog w) A (ksk_rest a f false vs.toArray e1 (.ref kS)) P E s:=by
 unfold ksk_rest
 refine wpAny_bind (wpAny_rule ?_)
 first
  | rw[List.forIn_toArray]
  | (rw[← Array.forIn_toList]; simp only [List.toList_toArray])
  | rw[← Array.forIn_toList]
 refine wpAny_bind (ksk_fold (fun i s'=>∃ h' tk kA e,s'={ s with heap:=h',toks:=tk }∧Kept g h'∧h'.get? kS=some (seqObj "list" kA e)∧h'.get? a=some (seqObj "list" #[] e1)∧IntsAre kA.toList (kz.take i)) vs 0 s
  ⟨s.heap,s.toks,#[],0,rfl,F,nk,na,by simpa using IntsAre.nil⟩ ?step ?done)
 case step =>
  rintro j x s' hx ⟨h',tk,kA,e,rfl,F',nk',na',hk⟩
  simp only [qO] at hk ⊢
  have hj:j < vs.length:=(zC.mp hx).1
  obtain⟨k,hkj⟩:∃ k,kz[j]?=some k:=⟨_,zB (by omega)⟩
  have hz:kA.size≤vs.length:=by
   have h1:=hk.length
   rw[qM,yA] at h1
   omega
  refine wpAny_bind (wpAny_attempt (wpAny_mono (turn j x k hx hkj h' tk F') (fun v s'' he=>?_) fun _ _ hF=>hF.elim))
  obtain⟨g2,tk2,t2,rfl,rfl,F2⟩:=he
  try dsimp only
  have nk2:=F2 _ _ nk'
  have na2:=F2 _ _ na'
  have s1:=Heap.SameBut.update g2 kS (Obj.mapSeq (·.push (.int k t2)))
  obtain⟨c2,hc2⟩:∃ c2,(g2.update kS (Obj.mapSeq (·.push (.int k t2)))).get? kS=some (seqObj "list" (kA.push (.int k t2)) c2):=⟨_,get?_update_seq nk2 (·.push (.int k t2))⟩
  have ek:kz.take (j + 1)=kz.take j++[k]:=by rw[yS,hkj]; simp
  have ea:(kA.push (Value.int k t2)).toList=kA.toList++[Value.int k t2]:=by simp
  refine wpAny_bind (listUpdate_at nk2 rfl ?_ (by rw[sizeLine_eq]; omega) (z9 (j5 (Array.size_push ..)) (by rw[sizeLine_eq]; omega)))
  exact wpAny_pure ⟨rfl,_,_,kA.push (.int k t2),c2,rfl,Kept.but (fun b o q=>F2 b o (F' b o q)) s1 hgk,hc2,(s1.2 a hka.symm).trans na2,by rw[ea,ek]; exact ksk_snoc hk⟩
 case done =>
  rintro s' ⟨h',tk,kA,e,rfl,F',nk',na',hk⟩
  have hk':IntsAre kA.toList kz:=by
   have e3:kz.take (0 + vs.length)=kz:=vA (by omega)
   rw[e3] at hk
   exact hk
  try dsimp only
  refine wpAny_bind (listItems_at nk' rfl ?_)
  exact sk_end F' nk' na' hka hgk hga hk' hlen h64 fun h3 tk3 out c F3 N3 k3=>h h3 tk3 out c F3 N3 k3
theorem sk_sort {f:Value} {n:Nat} (F:Kept g s.heap) (ho:s.heap.get? a=some (seqObj "list" vs.toArray n)) (hga:g.objs.size≤a)
  (hlen:kz.length=vs.length) (h64:vs.length < 64)
  (turn:∀(i:Nat) (v:Value) (k:Int),vs[i]?=some v→kz[i]?=some k→∀(h:Heap) (tk:Nat),Kept g h →
   wpAny (model prog w) A (call f [v]) (KeyEnd h k { s with heap:=h,toks:=tk }) (fun _ _=>False) { s with heap:=h,toks:=tk })
  (h:∀ h' tk out c,Kept g h'→h'.get? a=some (seqObj "list" out c)→StabOut kz vs out.toList→P (.done (.ret .none)) { s with heap:=h',toks:=tk }) :
  wpAny (model prog w) A (ksk_tree a f false) P E s:=by
 have ha:a < s.heap.objs.size:=Heap.lt_size ho
 have s1:=Heap.SameBut.update s.heap a (Obj.mapSeq fun _=>(#[]:Array Value))
 obtain⟨e1,ho1⟩:∃ e1,(s.heap.update a (Obj.mapSeq fun _=>(#[]:Array Value))).get? a=some (seqObj "list" #[] e1):=⟨_,get?_update_seq ho fun _=>#[]⟩
 have F1:=F.but s1 hga
 have hkS:((s.heap.update a (Obj.mapSeq fun _=>(#[]:Array Value))).push (seqObj "tuple" vs.toArray 0)).objs.size=s.heap.objs.size + 1:=by rw[size_push',Heap.size_update]
 unfold ksk_tree
 refine wpAny_bind (listItems_at ho rfl ?_)
 refine wpAny_bind (listUpdate_at ho rfl ?_ (by rw[zO,sizeLine_eq]; omega) (z5 _))
 refine wpAny_bind (seqEpoch_at ho1 rfl ?_)
 refine wpAny_bind (wpAny_newTuple ?_ (by show vs.length≤_; rw[sizeLine_eq]; omega))
 refine wpAny_bind (wpAny_newList ?_ (z5 _))
 refine wpAny_holding ?_
 refine sk_rest (s:={ s with heap:=((s.heap.update a (Obj.mapSeq fun _=>(#[]:Array Value))).push (seqObj "tuple" vs.toArray 0)).push (seqObj "list" #[] 0) }) (kS:=((s.heap.update a (Obj.mapSeq fun _=>(#[]:Array Value))).push (seqObj "tuple" vs.toArray 0)).objs.size)
  (fun b o q=>Heap.get?_push_of_some _ (Heap.get?_push_of_some _ (F1 b o q))) (Heap.get?_push_size _ rfl) (Heap.get?_push_of_some _ (Heap.get?_push_of_some _ ho1)) (by rw[hkS]; exact kX (y8 ha)) (by rw[hkS]; exact z9 hga (qB (y8 ha))) hga hlen h64 turn h
theorem sk_sorted {l:Addr} {f:Value} {kw:List (Str × Value)} {Q:Value→Shared→Prop} (hl:s.heap.IsList l vs.toArray) (hlen:kz.length=vs.length) (h64:vs.length < 64)
  (ha1:argsOk "sorted" ⟨[.ref l],kw⟩) (ha2:∀ x,argsOk "list.sort" ⟨[.ref x],kw⟩) (ht:∀ x,Builtin.«list.sort» ⟨[.ref x],kw⟩=ksk_tree x f false)
  (turn:∀(i:Nat) (v:Value) (k:Int),vs[i]?=some v→kz[i]?=some k→∀(h:Heap) (tk:Nat),Kept s.heap h →
   wpAny (model prog w) A.in1.in1 (call f [v]) (KeyEnd h k { s with heap:=h,toks:=tk }) (fun _ _=>False) { s with heap:=h,toks:=tk })
  (h:∀ D h' tk out c,Kept s.heap h'→s.heap.objs.size≤D→h'.get? D=some (seqObj "list" out c)→StabOut kz vs out.toList→Q (.ref D) { s with heap:=h',toks:=tk }) :
  wpAny (model prog w) A (call (.builtin "sorted") [.ref l] kw) Q E s:=by
 refine call_function_entry_kw kind_sorted plain_sorted entry_sorted ha1 ?_
 unfold Builtin.«sorted»
 refine wpAny_bind (m:=checkCount "sorted" 1 1 _) (wpAny_pure ?_)
 refine wpAny_bind (collect_list hl ?_ (by rw[sizeLine_eq]; omega))
 refine wpAny_bind (wpAny_newList ?_ (by rw[sizeLine_eq]; omega))
 have hsz:((s.heap.push (seqObj "list" #[] 0)).update s.heap.objs.size (Obj.mapSeq (·++vs.toArray))).objs.size=s.heap.objs.size + 1:=by
  rw[Heap.size_update,size_push']
 have hoL:(((s.heap.push (seqObj "list" #[] 0)).update s.heap.objs.size (Obj.mapSeq (·++vs.toArray))).push (seqObj "list" vs.toArray 0)).get? (s.heap.objs.size + 1)=some (seqObj "list" vs.toArray 0):=by
  rw[← hsz]; exact Heap.get?_push_size _ rfl
 have keep:∀ b o,s.heap.get? b=some o→(((s.heap.push (seqObj "list" #[] 0)).update s.heap.objs.size (Obj.mapSeq (·++vs.toArray))).push (seqObj "list" vs.toArray 0)).get? b=some o:=fun b o q=>by
  have hlt:b < s.heap.objs.size:=Heap.lt_size q
  rw[Heap.get?_push_ne _ _ _ (by rw[hsz]; exact zY (y8 hlt)),Heap.get?_update_ne _ _ _ _ (zY hlt),Heap.get?_push_ne _ _ _ (zY hlt)]
  exact q
 show wpAny _ _ _ _ _ { s with heap:=((s.heap.push (seqObj "list" #[] 0)).update s.heap.objs.size (Obj.mapSeq (·++vs.toArray))).push (seqObj "list" vs.toArray 0) }
 rw[hsz]
 refine wpAny_bind (wpAny_holding (wpAny_call_entry_kw slot_list_sort ⟨_,hoL,rfl⟩ entry_list_sort ?body (ha2 _)))
 case body =>
  have ht':=ht (s.heap.objs.size + 1)
  show wpAny (model prog w) A.in1.in1 (Builtin.«list.sort» ⟨[.ref (s.heap.objs.size + 1)],kw⟩) _ _ _
  rw[ht']
  refine sk_sort (s:={ s with heap:=((s.heap.push (seqObj "list" #[] 0)).update s.heap.objs.size (Obj.mapSeq (·++vs.toArray))).push (seqObj "list" vs.toArray 0) }) (g:=s.heap)
   keep hoL (y3 _) hlen h64 turn fun h' tk out c F' N' k'=>⟨_,rfl,?_⟩
  exact wpAny_pure ⟨_,rfl,h _ h' tk out c F' (y3 _) N' k'⟩
end
end L2
namespace L2
open PySem PySem.Spec PyProof.Rows PySem.W
abbrev lamPar (x:Str) (p:Pos):Arguments:={ posonlyargs:=[],args:=[{ arg:=x,annotation:=none,pos:=p }],vararg:=none,kwonlyargs:=[],kw_defaults:=[],kwarg:=none,defaults:=[] }
abbrev lamSc (x:Str):Scope:={ kind:=.function,names:=[(x,.local)],isGenerator:=false,isCoroutine:=false,more:=[] }
abbrev lamBody (x:Str) (i:Int) (p2 p3 p4:Pos):Expr:=.Subscript (.Name x p2) (.Constant (.int i) 0 p3) p4
section
variable {prog:Program} {w:World} {A:Around} {s:Shared}
theorem lam_ix {f t c':Addr} {x qual:Str} {pm ctv:Value} {p1 p2 p3 p4:Pos} {its:Array Value} {i k:Int} {u:Tok} {j:Nat}
  (ho:s.heap.get? f=some (kla_obj "<lambda>" qual (lamPar x p1) (lamBody x i p2 p3 p4) (lamSc x) [] pm c' ctv)) (hcd:s.heap.CodeRec (.ref c') qual) (hroom:A.depth < recursionLimit) (lim:s.heap.NoLimit)
  (ht:IsTup s.heap t its) (hlo:-(2 ^ 63)≤i) (hhi:i < 2 ^ 63) (hj:seqIndex? i its.size=some j) (hx:its[j]?=some (.int k u)) (hd:(x == ("__debug__":Str))=false)
  (hbind:∀ v,bindArgs (kla_fn "<lambda>" qual (lamPar x p1) (lamBody x i p2 p3 p4) (lamSc x) [] pm (.ref c') ctv) ⟨[v],[]⟩=pure [(x,v)]) :
  wpAny (model prog w) A (call (.ref f) [.ref t]) (KeyEnd s.heap k s) (fun _ _=>False) s:=by
 refine wpAny_call ?_
 refine kla_callFunE hroom ho rfl rfl rfl rfl hcd ?_
 rw[hbind]
 refine wpAny_pure (wpAny_newFunctionEnv (fun y hy=>?_) (fun y hy=>?_) (fun h₁ hns hsb=>⟨lim.fresh _ hsb,?_⟩) rfl)
 ·rw[zG.mp hy]; exact fun z=>nomatch z
 ·rw[zG.mp hy]
  show List.lookup x [(x,NameKind.local)]=_
  simp [List.lookup]
 ·have hk₁:Kept s.heap h₁:=fun b o e=>hsb.extBut b o (zY (Heap.lt_size e)) (Heap.get?_push_of_some _ e)
  refine kla_codeExpr (wpAny_mono (Q:=fun v s'=>KeyEnd s.heap k s v s') (E:=fun _ _=>False) ?_ (fun v s' h'=>h') fun _ _ h'=>h'.elim)
  refine Subscript_ (wpAny_Name (wpAny_loadName_local rfl ?_ hns (v:=.ref t) ?_ (wpAny_Constant_int ?_)) hd)
  ·show List.lookup x [(x,NameKind.local)]=_
   simp [List.lookup]
  ·show List.lookup x [(x,Value.ref t)]=_
   simp [List.lookup]
  ·have ht₁:IsTup h₁ t its:=let ⟨o,e,r⟩:=ht; ⟨o,hk₁ _ _ e,r⟩
   refine subscriptTail_builtinR (x:=.int k u) (s:={ s with heap:=h₁,toks:=s.toks + [(x,Value.ref t)].length + 1 }) ht₁.typeIs slot_tuple_getitem.lookup (getItem_tuple (j:=j) ht₁ hlo hhi hj hx ⟨rfl,h₁,_,u,rfl,rfl,hk₁⟩)
end
def codeO (c':Addr) (q:Str):HO:=.ext fun h=>h.CodeRec (.ref c') q
theorem codeRec_keeps {h1 h2:Heap} {c':Addr} {q:Str} (x:h1.CodeRec (.ref c') q) (k:∀ o,h1.get? c'=some o→h2.get? c'=some o):h2.CodeRec (.ref c') q:=by
 obtain⟨c,o,vs,t,e,ho,r⟩:=x
 cases e
 exact⟨c',o,vs,t,rfl,k _ ho,r⟩
theorem codeO_ok {P:Program} {w:World} {H:Hp} {h:Heap} {c':Addr} {q:Str} (x:h.CodeRec (.ref c') q):ObjOk P w H h c' (codeO c' q):=by
 refine⟨x,?_,fun h1 h2 x1 k=>codeRec_keeps x1 k⟩
 obtain⟨c,o,vs,t,e,ho,r⟩:=x
 cases e
 exact⟨o,ho⟩
section
variable {X:Cx} {pins:List (Addr × Obj)} {σ:St} {H:Hp} {s:Shared}
theorem Inv.grown {P c':Addr} {ps more:Array Value} {q:Str} {h':Heap} {t':Nat} (I:Inv X pins σ H s) (hP:H P=some (.tbl ps)) (hx:Heap.ExtBut P s.heap h') (hc:s.heap.objs.size≤c') (hrec:h'.CodeRec (.ref c') q)
  (htb:h'.get? P=some (tabObj (ps++more))):Inv X pins σ (upd (upd H P (.tbl (ps++more))) c' (codeO c' q)) { s with heap:=h',toks:=t' }:=by
 have hcn:=I.hok.fresh hc
 have hcP:P ≠ c':=ne_of_none hP hcn
 have other:∀ b,b ≠ P→b ≠ c'→upd (upd H P (.tbl (ps++more))) c' (codeO c' q) b=H b:=fun b n1 n2=>by rw[upd_ne n2,upd_ne n1]
 have atP:upd (upd H P (.tbl (ps++more))) c' (codeO c' q) P=some (.tbl (ps++more)):=by rw[upd_ne hcP,upd_same]
 have nP:∀ b,H b=none→b ≠ P:=fun b n z=>by subst z; rw[n] at hP; cases hP
 refine I.un ⟨fun b o e n _ _=>hx b o (nP b n) e,fun b o e n _ _=>⟨o.slots,hx b o (nP b n) e⟩,fun b o e n _=>?_,fun b o e _=>?_,fun b xs e=>?_,fun b o u e=>?_,fun b qs e=>?_⟩ fun b u e=>?_
 ·rw[other b (nP b n) (zY (zU (Heap.lt_size e) hc))]; exact n
 ·by_cases hb:b=P
  ·subst hb; exact⟨_,htb⟩
  ·exact⟨o,hx b o hb e⟩
 ·rw[other b (ne_of e hP (fun z=>nomatch z)) (ne_of_none e hcn)]; exact e
 ·rw[other b (ne_of e hP (fun z=>nomatch z)) (ne_of_none e hcn)]; exact e
 ·by_cases hb:b=P
  ·subst hb
   rw[hP] at e; cases e
   exact⟨more,atP⟩
  ·exact⟨#[],by rw[other b hb (ne_of_none e hcn),e]; simp⟩
 ·by_cases hb:b=c'
  ·subst hb
   rw[upd_same] at e; cases e
   exact codeO_ok hrec
  ·by_cases hbP:b=P
   ·subst hbP
    rw[atP] at e; cases e
    exact htb
   ·rw[other b hbP hb] at e
    refine(I.hok b u e).stay (fun d v hd q=>hx d v (fun z=>?_) q) (fun d z=>?_) fun d xs z=>?_
    ·subst z
     rcases hd with z|z
     ·exact hbP z.symm
     ·rw[hP] at z; cases z
    ·rw[other d (ne_of z hP (fun z=>nomatch z)) (ne_of_none z hcn)]; exact z
    ·rw[other d (ne_of z hP (fun z=>nomatch z)) (ne_of_none z hcn)]; exact z
end
def StabV (kz:List Int) (xs out:List V):Prop :=
 ∃ is:List Nat,is.Perm (List.range xs.length)∧out=is.map (fun i=>xs.getD i .non)∧is.Pairwise (fun i j=>kz.getD i 0 < kz.getD j 0∨(kz.getD i 0=kz.getD j 0∧i < j))
theorem vals_pick {xs:List V} {vs:List Value} (r:Vals xs vs):∀ is:List Nat,(∀ i ∈ is,i < xs.length)→Vals (is.map fun i=>xs.getD i .non) (is.map fun i=>vs.getD i .none)
 | [],_=>.nil
 | i::is,h=>by
  have e:xs[i]?=some (xs.getD i .non):=by rw[zA,zB (h i (.head _))]; rfl
  obtain⟨u,e2,r2⟩:=r.get e
  have e3:vs.getD i .none=u:=by rw[zA,e2]; rfl
  refine .cons ?_ (vals_pick r is fun j hj=>h j (.tail _ hj))
  show RelV (xs.getD i .non) (vs.getD i .none)
  rw[e3]; exact r2
theorem stab_vals {kz:List Int} {xs:List V} {vs out:List Value} (r:Vals xs vs) (h:StabOut kz vs out):∃ ys,Vals ys out∧StabV kz xs ys∧ys.length=xs.length:=by
 obtain⟨is,h1,h2,h3⟩:=h
 rw[← r.length] at h1
 subst h2
 exact⟨_,vals_pick r is fun i hi=>yU.mp (h1.mem_iff.mp hi),⟨is,h1,rfl,h3⟩,by rw[zD,h1.length_eq,yZ]⟩
inductive rSrt (K:PySem.W.Frag) (P:Addr) (q:Str) (ln cl:Nat) (i:Int) (Q:VK) (v:V) (H1:Hp):Prop where
 | mk (l xs kz:_) (h_0:v=.ref l) (h_1:SqL K H1 l xs) (h_2:xs.length < 64) (h_3:kz.length=xs.length) (h_4:(∀(j:Nat) x k,xs[j]?=some x→kz[j]?=some k→∃ t ys,x=.ref t∧SqT K H1 t ys∧atI ys i=some (.int k))) (h_5:((H1 P=some (.tbl #[])∧∀ c' D out,H1 c'=none→c' ≠ D→H1 D=none→StabV kz xs out→Q (.ref D) (upd (upd (upd H1 P (.tbl #[rawInt ln,rawInt cl,.ref c'])) c' (codeO c' q)) D (.lst out)))∨(∃ c',H1 P=some (.tbl #[rawInt ln,rawInt cl,.ref c'])∧H1 c'=some (codeO c' q)∧∀ D out,H1 D=none→StabV kz xs out→Q (.ref D) (upd H1 D (.lst out))))):rSrt K P q ln cl i Q v H1
def tSrt (K:PySem.W.Frag) (P:Addr) (q:Str) (ln cl:Nat) (i:Int) (ta:TE):TE:=fun σ H Q=>ta σ H (rSrt K P q ln cl i Q)
theorem pe_srt {X:Cx} {k:Nat} {c P:Addr} {q x nm:Str} {a:Expr} {ta:TE} {i:Int} {p kp p1 p2 p3 p4 lp pos:Pos} (hr:Room k X.A) (hg:Gl X nm) (hm:X.mg nm=none) (hv:bootBuiltins nm=some (.builtin "sorted"))
  (hcode:X.env.code=.ref c) (hq:X.env.qual++"<lambda>"=q) (C:CodeHd X.base c P) (hB:X.base.BuiltinsAt X.mg P) (ha:PE X a ta) (hd:(x == ("__debug__":Str))=false)
  (hbind:∀(pm ctv:Value) (c':Addr) v,bindArgs (kla_fn "<lambda>" q (lamPar x p1) (lamBody x i p2 p3 p4) (lamSc x) [] pm (.ref c') ctv) ⟨[v],[]⟩=pure [(x,v)])
  (hcl:closureFor (lamSc x) X.env=pure []) (hdef:defaultsOf (lamPar x p1) X.env=([],[]))
  (hn:nm ≠ "__name__":=by decide) (hdb:(nm == ("__debug__":Str))=false:=by decide)
  (hs:starEach [a] X.env=(false,eval a X.env)::starEach [] X.env:=by rfl) (he:backTo pos (starEach [a] X.env)=(false,eval a X.env)::backTo pos (starEach [] X.env):=by rfl)
  (hpl:(backTo pos (starEach [a] X.env)).any (·.1)=false:=by rfl) :
  PE X (.Call (.Name nm p) [a] [⟨some "key",.Lambda (lamPar x p1) (lamBody x i p2 p3 p4) (lamSc x) lp,kp⟩] pos) (tSrt X.K P q lp.line lp.col i ta):=by
 intro pins s σ H Q I h
 refine wpAny_Call_Name_kw (ld_blt I hg hm hv ?_ hn hdb)
 have core:∀(l:Addr) (xs:List V) (kz:List Int) (s2:Shared) (H2:Hp) (f c':Addr) (pm ctv:Value),Inv X pins σ H2 s2→xs.length < 64→kz.length=xs.length →
   s2.heap.get? f=some (kla_obj "<lambda>" q (lamPar x p1) (lamBody x i p2 p3 p4) (lamSc x) [] pm c' ctv)→s2.heap.CodeRec (.ref c') q→SqL X.K H2 l xs →
   (∀(j:Nat) x k,xs[j]?=some x→kz[j]?=some k→∃ t ys,x=.ref t∧SqT X.K H2 t ys∧atI ys i=some (.int k)) →
   (∀ D out,H2 D=none→StabV kz xs out→Q (.ref D) (upd H2 D (.lst out))) →
   wpAny (model X.prog X.w) X.A (call (.builtin "sorted") [.ref l] [(Str.ofString "key",.ref f)]) (EP X pins σ Q) X.xe s2:=by
  intro l xs kz s2 H2 f c' pm ctv I2 h64 hlen hf hcd hl hkeys hQ
  obtain⟨its,r,hlst,hz⟩:=I2.list hl
  have hrl:=r.length
  refine sk_sorted (vs:=its) (kz:=kz) (let ⟨o,n,e,hc,_,hd⟩:=hlst; ⟨o,e,hc,n,hd⟩) (by omega) (by omega) (ksk_s1 _ _) (fun _=>ksk_l1 _ _) (fun _=>ksk_t1 _ _) (fun j v k hv hk h tk kp=>?_) fun D h' tk out cc kp hD hget hstab=>?_
  ·have hj:j < xs.length:=by rw[hrl]; exact(zC.mp hv).1
   have ex:xs[j]?=some xs[j]:=zB hj
   obtain⟨u,hu,ru⟩:=r.get ex
   rw[hv] at hu
   cases hu
   obtain⟨t,ys,e1,ht,hat⟩:=hkeys j _ k ex hk
   rw[e1] at ru
   cases ru
   obtain⟨jts,r2,pl,hz2⟩:=I2.tuple ht
   obtain⟨n,h1,h2,h3,h4,h5⟩:=atI_get hat
   obtain⟨w,ew,rw'⟩:=r2.get h2
   obtain⟨tok,rfl⟩:=rw'
   have hl2:=r2.length
   have hn:=line63
   have pl':IsTup h t jts.toArray:=let ⟨o,e,r⟩:=pl; ⟨o,kp _ _ e,r⟩
   exact lam_ix (s:={ s2 with heap:=h,toks:=tk }) (A:=X.A.in1.in1) (kp _ _ hf) (codeRec_keeps hcd fun o e=>kp _ _ e) hr.depth (I2.nolimit.keeps kp) pl' (by omega) (by omega) (by rw[zO,← hl2]; exact h1) (by simpa using ew) hd (hbind pm ctv c')
  ·obtain⟨ys,rv,sv,lv⟩:=stab_vals r hstab
   exact⟨.ref D,upd H2 D (.lst ys),I2.laid (t':=tk) kp hD ⟨by rw[lv]; exact hz,out.toList,cc,rv,by simpa using hget⟩,rfl,hQ D ys (I2.hok.fresh hD) sv⟩
 refine callWith_kw (thn (pa_cons ha pa_nil hs pos pins s σ H (fun vs H1=>match vs with|[v]=>rSrt X.K P q lp.line lp.col i Q v H1|_=>False) I h) ?_) he hpl
 rintro us s1 ⟨vs,H1,I1,r,q1⟩
 match vs,r,q1 with
 | [v],r,q1 =>
 obtain⟨l,xs,kz,rfl,hl,h64,hlen,hkeys,hT⟩:=q1
 cases r with
 | cons r0 r1 =>
 cases r1
 cases r0
 refine kws_cons (kla_eval hdef ?_)
 rw[hq]
 have C1:=C.keeps I1.bk
 have hB1:=hB.keeps I1.bk
 have hge:X.env.globals=mainGlobals:=I1.ok.glob
 have hgs:s1.heap.Ns mainGlobals X.mg:=I1.mod.glob.keeps I1.bk
 rcases hT with ⟨hP,hQ⟩|⟨c',hP,hc',hQ⟩
 ·have hPo:s1.heap.get? P=some (tabObj #[]):=I1.hok _ _ hP
  have hgP:mainGlobals ≠ P:=fun z=>by
   obtain⟨o,es,ep,e,hd',_⟩:=hgs
   rw[z,hPo] at e; cases e; cases hd'
  refine kla_makeFunction (mg:=X.mg) hcl hge hgs hcode C1 hPo True.intro rfl hgP hB1 fun c' ctv h' tk hx hge' hlt hrec htb=>?_
  refine kws_nil ?_
  have I2:=(I1.grown (t':=tk) hP hx hge' hrec htb).kept (t':=tk) (h':=h'.push (kla_obj "<lambda>" q (lamPar x p1) (lamBody x i p2 p3 p4) (lamSc x) [] ((X.mg "__name__").getD .none) c' ctv)) fun b o e=>Heap.get?_push_of_some _ e
  have hcn:=I1.hok.fresh hge'
  have oth:∀ {b:Addr} {u:HO},Rd H1 b u→(∀ ps,u ≠ .tbl ps)→Rd (upd (upd H1 P (.tbl (#[]++#[rawInt lp.line,rawInt lp.col,.ref c']))) c' (codeO c' q)) b u:=fun {b u} hb hu=>by
   rcases hb with hb|⟨o,hb⟩
   ·exact .inl (by rw[upd_ne (ne_of_none hb hcn),upd_ne (ne_of hb hP (hu _))]; exact hb)
   ·exact .inr ⟨o,by rw[upd_ne (ne_of_none hb hcn),upd_ne (ne_of hb hP (fun z=>nomatch z))]; exact hb⟩
  refine core l xs kz _ _ _ c' _ ctv I2 h64 hlen (Heap.get?_push_size _ rfl) (codeRec_keeps hrec fun o e=>Heap.get?_push_of_some _ e) ?_ (fun j y k ej ek=>?_) fun D out hD st=>?_
  ·rcases hl with hl|hl
   ·exact .inl (oth hl fun _ z=>nomatch z)
   ·exact .inr hl
  ·obtain⟨t,ys,e1,ht,hat⟩:=hkeys j y k ej ek
   refine⟨t,ys,e1,?_,hat⟩
   rcases ht with ht|ht
   ·exact .inl (oth ht fun _ z=>nomatch z)
   ·exact .inr ht
  ·have n1:D ≠ c':=fun z=>by rw[z,upd_same] at hD; cases hD
   rw[upd_ne n1] at hD
   have n2:D ≠ P:=fun z=>by rw[z,upd_same] at hD; cases hD
   rw[upd_ne n2] at hD
   exact hQ c' D out hcn n1.symm hD st
 ·have hPo:s1.heap.get? P=some (tabObj #[rawInt lp.line,rawInt lp.col,.ref c']):=I1.hok _ _ hP
  have hrec:s1.heap.CodeRec (.ref c') q:=(I1.hok _ _ hc').1
  refine kla_makeFunctionHit (mg:=X.mg) (cv:=.ref c') hcl hge hgs hcode C1 hPo (by simp [TriplesOk,rawInt]) (by simp [codeAmong,rawInt]) hB1 fun ctv h' tk hk _=>?_
  refine kws_nil ?_
  have kp:Kept s1.heap (h'.push (kla_obj "<lambda>" q (lamPar x p1) (lamBody x i p2 p3 p4) (lamSc x) [] ((X.mg "__name__").getD .none) c' ctv)):=fun b o e=>Heap.get?_push_of_some _ (hk b o e)
  exact core l xs kz _ _ _ c' _ ctv (I1.kept (t':=tk) kp) h64 hlen (Heap.get?_push_size _ rfl) (codeRec_keeps hrec fun o e=>kp _ _ e) hl hkeys fun D out hD st=>hQ D out hD st
end L2
namespace L2
open PySem PySem.Spec PyProof.Rows PySem.W
structure Tab (K:PySem.W.Frag) (mg:Str→Option Value) (h:Heap) (c P:Addr):Prop where
 hd:CodeHd h c P
 bl:h.BuiltinsAt mg P
def OnlyT (tabs:List (Addr × Addr)) (H:Hp):Prop:=∀ b,(b ∈ tabs.map (·.2)∧H b=some (.tbl #[]))∨(b ∉ tabs.map (·.2)∧(H b=none∨∃ o xs,H b=some (.frz o (.lst xs))))
theorem law_callT {P:Program} {w:World} {K:PySem.W.Frag} {mg mb:Str→Option Value} {CX:CXT} {k:Nat} {fa a:Addr} {fd:FuncData} {x:Str} {sp:Sp} {s₁:Shared} {vs:List Value} {ns:List Int} {tabs:List (Addr × Addr)}
  (KX:K.In s₁.heap) (hns:s₁.heap.Ns mainGlobals mg) (hb:s₁.heap.Ns builtinsNs mb) (hbb:∀ x:Str,x ≠ "__name__"→mb x=bootBuiltins x) (hlim:s₁.heap.NoLimit) (hg:s₁.gens=#[])
  (ha:s₁.heap.get? a=some { cls:=.type "list",data:=.seq vs.toArray }) (hi:IntsAre vs ns) (hl:ns.length≤sizeLine) (hr:Room k callerA)
  (hT:∀ q ∈ tabs,Tab K mg s₁.heap q.1 q.2∧s₁.heap.get? q.2=some (tabObj #[])∧K.lookup q.2=none)
  (F:∀ base:Heap,K.In base→base.Ns mainGlobals mg→(∀ q ∈ tabs,Tab K mg base q.1 q.2)→FnOk P w K mg base CX k fa fd [x] sp) (hbind:∀(s:Shared) (u:Value),BindsTo s fd ⟨[u],[]⟩ [(x,u)])
  (hsp:∀ H:Hp,OnlyT tabs H→SqL K H a (ns.map V.int)→sp [.ref a] H (fun v _=>v=.bl true) fun _ _ _=>False)
  (hCX:∀ H e s',CX [] H s₁ (fun _ _ _=>False) e s'→False) :
  codeAny (model P w) callerA (.call (.ref fa) ⟨[.ref a],[]⟩) (fun r s'=>r=.ok (.ret (.bool true))∧OldK s₁.heap s'.heap∧s'.os=s₁.os∧AllBare s'.gens) s₁:=by
 have rv:=vals_ints hi
 have lenV:=hi.length
 have tabAt:∀ {b:Addr},b ∈ tabs.map (·.2)→∃ c,Tab K mg s₁.heap c b∧s₁.heap.get? b=some (tabObj #[])∧K.lookup b=none:=fun {b} hb=>by
  obtain⟨q,hq,rfl⟩:=yC.mp hb
  exact⟨q.1,hT q hq⟩
 have naT:a ∉ tabs.map (·.2):=fun z=>by
  obtain⟨c,_,e,_⟩:=tabAt z
  rw[ha] at e; cases e
 have core:∀ H:Hp,OnlyT tabs H→SqL K H a (ns.map V.int)→HOk P w H s₁.heap→(∀ b,H b ≠ none→b=a∨b ∈ tabs.map (·.2))→(H a ≠ none→K.lookup a=none) →
   codeAny (model P w) callerA (.call (.ref fa) ⟨[.ref a],[]⟩) (fun r s'=>r=.ok (.ret (.bool true))∧OldK s₁.heap s'.heap∧s'.os=s₁.os∧AllBare s'.gens) s₁:=by
  intro H hO hS hok hA hK
  have base_of:∀ {b:Addr} {o:Obj},s₁.heap.get? b=some o→H b=none→(hidT s₁.heap H).get? b=some o:=fun e n=>hidT_get e n
  have noA':∀ {b:Addr} {o:Obj},s₁.heap.get? b=some o→o ≠ { cls:=.type "list",data:=.seq vs.toArray }→o ≠ tabObj #[]→H b=none:=fun {b o} e n1 n2=>by
   cases q:H b with
   | none=>rfl
   | some u =>
    rcases hA b (by rw[q]; simp) with e'|e'
    ·subst e'
     rw[ha] at e; cases e
     exact absurd rfl n1
    ·obtain⟨c,_,e2,_⟩:=tabAt e'
     rw[e] at e2; cases e2
     exact absurd rfl n2
  have noA:∀ {b:Addr} {o:Obj} {es:Array DictEntry} {ep:Nat},s₁.heap.get? b=some o→o.data=.dict es ep→H b=none:=fun {b o es ep} e d =>
   noA' e (fun z=>by subst z; cases d) (fun z=>by subst z; cases d)
  have nsK:∀ {b:Addr} {m:Str→Option Value},s₁.heap.Ns b m→(hidT s₁.heap H).Ns b m:=fun {b m} ⟨o,es,ep,e,d,r⟩=>⟨o,es,ep,base_of e (noA e d),d,r⟩
  have hKb:K.In (hidT s₁.heap H):=fun b o e=>base_of (KX b o e) (by
   cases q:H b with
   | none=>rfl
   | some u =>
    rcases hA b (by rw[q]; simp) with e'|e'
    ·subst e'
     rw[hK (by rw[q]; simp)] at e; cases e
    ·obtain⟨c,_,_,e2⟩:=tabAt e'
     rw[e] at e2; cases e2)
  have hTb:∀ q ∈ tabs,Tab K mg (hidT s₁.heap H) q.1 q.2:=fun q hq=>by
   obtain⟨⟨⟨o,vs',file,tf,flags,tg,inF,text,tt,e,hc,hd,r⟩,⟨bm,ob,b1,b2,b3,b4,b5,b6,b7,b8⟩⟩,_,_⟩:=hT q hq
   exact⟨⟨o,vs',file,tf,flags,tg,inF,text,tt,base_of e (noA' e (fun z=>by subst z; cases hd) (fun z=>by subst z; cases hc)),hc,hd,r⟩,
    ⟨bm,ob,b1,b2,b3,b4,base_of b5 (noA' b5 (fun z=>by subst z; cases b8) (fun z=>by subst z; cases b6)),b6,b7,b8⟩⟩
  have hM:Mod K mg (hidT s₁.heap H):=⟨hKb,nsK hns,⟨mb,nsK hb,hbb⟩,let ⟨mc,h1,h2⟩:=hlim; ⟨mc,nsK h1,h2⟩⟩
  have e0:Env0 P w K mg (hidT s₁.heap H) callerA [] s₁ H:=⟨rfl,hM,fun b o e=>of_hidT e,j5 (hidT_size _ _),trivial,fun b hb=>absurd (show b ∈ ([]:List Addr) from hb) (by simp),hok,.of_eq hg⟩
  refine codeAny_mono ((F _ hKb (nsK hns) hTb).run callerA [] s₁ H ⟨[.ref a],[]⟩ [.ref a] [.ref a] _ _ hr e0 (hbind s₁ (.ref a)) (.cons rfl .nil) (hsp H hO hS)) fun r s' h=>?_
  cases r with
  | error e=>exact(hCX H e s' h).elim
  | ok fl =>
   cases fl with
   | next=>exact False.elim h
   | brk=>exact False.elim h
   | cont=>exact False.elim h
   | ret u =>
    obtain⟨v,H',os,bare,un,hok',r',q⟩:=h
    have q':v=.bl true:=q
    subst q'
    obtain rfl:u=Value.bool true:=r'
    have kp:∀ b o,s₁.heap.get? b=some o→b ∉ tabs.map (·.2)→s'.heap.get? b=some o:=fun b o e hb'=>by
     rcases hO b with ⟨z,_⟩|⟨_,z|⟨ob,xs,z⟩⟩
     ·exact absurd z hb'
     ·exact un.keep b o e z (by intro z; exact absurd (show b ∈ ([]:List Addr) from z) (by simp)) (by simp)
     ·have z2:=un.frzs b ob _ z
      obtain⟨e1,_⟩:=hok b _ z
      obtain⟨e2,_⟩:=hok' b _ z2
      rw[e] at e1; cases e1
      exact e2
    have tb:∀ b,b ∈ tabs.map (·.2)→∃ more,s'.heap.get? b=some (tabObj (#[]++more)):=fun b hb'=>by
     rcases hO b with ⟨_,z⟩|⟨z,_⟩
     ·obtain⟨more,z2⟩:=un.tbls b _ z
      exact⟨more,hok' b _ z2⟩
     ·exact absurd hb' z
    refine⟨rfl,⟨fun b o e=>?_,fun b o e=>?_⟩,os,bare⟩
    ·by_cases hb':b ∈ tabs.map (·.2)
     ·obtain⟨more,e2⟩:=tb b hb'
      obtain⟨c,t,e3,_⟩:=tabAt hb'
      rw[e] at e3; cases e3
      exact .inr (.inl ⟨(t.hd.tab e).isCodeTable,rfl,#[],more,rfl,e2⟩)
     ·exact .inl (kp b o e hb')
    ·by_cases hb':b ∈ tabs.map (·.2)
     ·obtain⟨more,e2⟩:=tb b hb'
      exact⟨_,e2⟩
     ·exact⟨o,kp b o e hb'⟩
 cases hk:K.lookup a with
 | some o =>
  have e:=KX a o hk
  rw[ha] at e
  cases e
  refine core (fun b=>if b ∈ tabs.map (·.2) then some (.tbl #[]) else none) (fun b=>?_) (.inr ⟨_,vs.toArray,_,hk,rfl,rfl,rfl,by rw[zO,lenV]; exact hl,by simpa using rv⟩) (fun b u z=>?_) (fun b z=>?_) fun z=>absurd (if_neg naT) z
  ·by_cases hb':b ∈ tabs.map (·.2)
   ·exact .inl ⟨hb',if_pos hb'⟩
   ·exact .inr ⟨hb',.inl (if_neg hb')⟩
  ·by_cases hb':b ∈ tabs.map (·.2)
   ·have z':=(if_pos hb').symm.trans z
    cases z'
    obtain⟨c,_,e3,_⟩:=tabAt hb'
    exact e3
   ·have z':=(if_neg hb').symm.trans z
    cases z'
  ·by_cases hb':b ∈ tabs.map (·.2)
   ·exact .inr hb'
   ·exact absurd (if_neg hb') z
 | none =>
  refine core (fun b=>if b ∈ tabs.map (·.2) then some (.tbl #[]) else if b=a then some (.frz { cls:=.type "list",data:=.seq vs.toArray } (.lst (ns.map V.int))) else none) (fun b=>?_)
   (.inl (.inr ⟨{ cls:=.type "list",data:=.seq vs.toArray },(if_neg naT).trans (if_pos rfl)⟩)) (fun b u z=>?_) (fun b z=>?_) fun _=>hk
  ·by_cases hb':b ∈ tabs.map (·.2)
   ·exact .inl ⟨hb',if_pos hb'⟩
   ·refine .inr ⟨hb',?_⟩
    by_cases hba:b=a
    ·exact .inr ⟨_,_,(if_neg hb').trans (if_pos hba)⟩
    ·exact .inl ((if_neg hb').trans (if_neg hba))
  ·by_cases hb':b ∈ tabs.map (·.2)
   ·have z':=(if_pos hb').symm.trans z
    cases z'
    obtain⟨c,_,e3,_⟩:=tabAt hb'
    exact e3
   ·have z':=(if_neg hb').symm.trans z
    by_cases hba:b=a
    ·have z2:=(if_pos hba).symm.trans z'
     cases z2
     subst hba
     exact⟨ha,by rw[zD]; exact hl,vs,_,rv,ha⟩
    ·have z2:=(if_neg hba).symm.trans z'
     cases z2
  ·by_cases hb':b ∈ tabs.map (·.2)
   ·exact .inr hb'
   ·by_cases hba:b=a
    ·exact .inl hba
    ·exact absurd ((if_neg hb').trans (if_neg hba)) z
end L2
namespace L2
open PySem PySem.Spec PyProof.Rows PySem.W
theorem tabIn_of {K:PySem.W.Frag} {x:Str} {f c P:Addr} {oc oc':Value} {od od':Option Addr} {fd:FuncData} {vs:Array Value} {sl sl':Array (Option Value)} (e1:nsIn K mainGlobals x=some (some (.ref f))) (e2:K.lookup f=some ⟨oc,od,.func fd,sl⟩) (e3:fd.code=.ref c)
  (e4:K.lookup c=some ⟨oc',od',.fields vs,sl'⟩) (e5:vs[11]?=some (.ref P)):tabIn K x=some (c,P):=by
 unfold tabIn
 simp only [e1,e2,e3,e4,e5]
end L2
namespace L2
open PySem PySem.Spec PyProof.Rows PySem.W
section
variable {P:Program} {w:World} {K:PySem.W.Frag} {mg:Str→Option Value} {base:Heap}
theorem Fun.okC {x qual:Str} {st:Stmt} {f c:Addr} {fd:FuncData} {N ps:List Str} {k:Nat} {sp:Sp} (F:Fun K x qual st f fd) (hc:fd.code=.ref c) (S:FnScope N ps (defScope st)) (len:∀ vs H Q E,sp vs H Q E→vs.length=ps.length)
  (hbody:∀(A:Around) (outer:List Env) (s:Shared) (H:Hp) (vs:List V) (Q:VK) (E:XK),Room k (A.deeper (envOfC qual (defScope st) s.heap.objs.size f (.ref c)))→sp vs H Q E →
   ∃ t,PSs (cxOf CX0 P w K mg base N qual (defScope st) f (.ref c) A outer s H E).nox (defBody st) t∧t { nx:=fun _ H'=>Q .non H',rt:=Q } (start N vs) H):FnOk P w K mg base CX0 (k + 1) f fd ps sp:=by
 obtain⟨oc,od,kV,doc,pm,an,cdv,ct,osl,rfl,lk,hcd⟩:=F.ex
 have e:cdv=.ref c:=hc
 subst e
 refine fn_of lk hcd S len fun A outer s H vs Q E hr hsp=>?_
 obtain⟨t,h,q⟩:=hbody A outer s H vs Q E hr hsp
 exact⟨t,h.nox,q⟩
end
structure Sm (H H':Hp):Prop where
 keep:∀ b u,H b=some u→(∀ ps,u ≠ .tbl ps)→H' b=some u
 tabs:∀ b ps,H b=some (.tbl ps)→∃ ps',H' b=some (.tbl ps')
section
variable {H H' H'':Hp} {b p:Addr} {o:HO} {xs:List V}
theorem Sm.free (s:Sm H H') (n:H' b=none):H b=none:=by
 cases e:H b with
 | none=>rfl
 | some u =>
  by_cases h:∃ ps,u=.tbl ps
  ·obtain⟨ps,rfl⟩:=h
   obtain⟨ps',e'⟩:=s.tabs b ps e
   rw[n] at e'; cases e'
  ·rw[s.keep b u e fun ps z=>h ⟨ps,z⟩] at n; cases n
end
def LamT (P:Addr) (q:Str) (ln cl:Nat) (H:Hp):Prop:=H P=some (.tbl #[])∨∃ c',H P=some (.tbl #[rawInt ln,rawInt cl,.ref c'])∧H c'=some (codeO c' q)
theorem LamT.same {P:Addr} {q:Str} {ln cl:Nat} {H H':Hp} (h:LamT P q ln cl H) (s:Same H H'):LamT P q ln cl H':=by
 rcases h with h|⟨c',h1,h2⟩
 ·exact .inl (s _ _ h)
 ·exact .inr ⟨c',s _ _ h1,s _ _ h2⟩
theorem LamT.updL {P p:Addr} {q:Str} {ln cl:Nat} {H:Hp} {xs:List V} {o:HO} (h:LamT P q ln cl H) (e:H p=some (.lst xs)):LamT P q ln cl (upd H p o):=by
 rcases h with h|⟨c',h1,h2⟩
 ·exact .inl (by rw[upd_ne (ne_of h e fun z=>nomatch z)]; exact h)
 ·exact .inr ⟨c',by rw[upd_ne (ne_of h1 e fun z=>nomatch z)]; exact h1,by rw[upd_ne (ne_of h2 e fun z=>nomatch z)]; exact h2⟩
theorem perm_unique {R:Nat→Nat→Prop} (asym:∀ a b,R a b→R b a→False):∀ {l₁ l₂:List Nat},l₁.Perm l₂→l₁.Pairwise R→l₂.Pairwise R→l₁=l₂
 | [],l₂,p,_,_=>by rw[List.nil_perm.mp p]
 | a::l₁,[],p,_,_=>by have:=p.length_eq; simp at this
 | a::l₁,b::l₂,p,h1,h2=>by
  have r1:=yO.mp h1
  have r2:=yO.mp h2
  have e:a=b:=by
   rcases zS.mp (p.mem_iff.mp (zH (a:=a))) with e|m
   ·exact e
   ·rcases zS.mp (p.mem_iff.mpr (zH (a:=b))) with e|m'
    ·exact e.symm
    ·exact(asym a b (r1.1 b m') (r2.1 a m)).elim
  subst e
  rw[perm_unique asym (List.Perm.cons_inv p) r1.2 r2.2]
theorem stab_is {kz:List Int} {n m:Nat} {is:List Nat} (hb:∀ i,i < n→0≤kz.getD i 0∧kz.getD i 0 < m) (hp:is.Perm (List.range n)) (hw:is.Pairwise (fun i j=>kz.getD i 0 < kz.getD j 0∨(kz.getD i 0=kz.getD j 0∧i < j))) :
  is=(List.range m).flatMap fun(t:Nat)=>(List.range n).filter fun i=>kz.getD i 0 == (t:Int):=by
 have hj:((List.range m).flatMap fun(t:Nat)=>(List.range n).filter fun i=>kz.getD i 0 == (t:Int)).Pairwise (fun i j=>kz.getD i 0 < kz.getD j 0∨(kz.getD i 0=kz.getD j 0∧i < j)):=by
  rw[jV]
  refine⟨fun t _=>?_,?_⟩
  ·have h1:((List.range n).filter fun i=>kz.getD i 0 == (t:Int)).Pairwise (· < ·):=List.Pairwise.filter _ jC
   refine List.Pairwise.imp_of_mem (fun {i j} hi hj h=>?_) h1
   have e1:=(zV.mp hi).2
   have e2:=(zV.mp hj).2
   simp at e1 e2
   exact .inr ⟨by simp; omega,h⟩
  ·refine List.Pairwise.imp (fun {t u} h i hi j hj=>?_) (jC (n:=m))
   have e1:=(zV.mp hi).2
   have e2:=(zV.mp hj).2
   simp at e1 e2
   exact .inl (by simp; omega)
 refine perm_unique (fun a b h1 h2=>by omega) (hp.trans ?_) hw hj
 refine(List.perm_ext_iff_of_nodup List.nodup_range (hj.imp fun h e=>by subst e; omega)).mpr fun i=>?_
 rw[yU,qW]
 constructor
 ·intro h
  obtain⟨h1,h2⟩:=hb i h
  refine⟨(kz.getD i 0).toNat,yU.mpr (by omega),zV.mpr ⟨yU.mpr h,?_⟩⟩
  have:((kz.getD i 0).toNat:Int)=kz.getD i 0:=by omega
  rw[this]
  simp
 ·rintro⟨t,_,h⟩
  exact yU.mp (zV.mp h).1
theorem range_filter {α:Type} (d:α) (f:α→Bool):∀ L:List α,((List.range L.length).filter fun i=>f (L.getD i d)).map (fun i=>L.getD i d)=L.filter f:=fun L=>by
 have e:L=(List.range L.length).map fun i=>L.getD i d:=by
  refine qT fun k=>?_
  rw[zF]
  by_cases h:k < L.length
  ·rw[yX h,zB h]
   show _=some (L.getD k d)
   rw[zA,zB h]
   rfl
  ·rw[yE (by omega),yE (by simp; omega)]
   rfl
 conv=>rhs; rw[e]
 rw[List.filter_map]
 rfl
theorem stab_bucket {α:Type} (d:α) (key:α→Int) {L:List α} {m:Nat} {is:List Nat} (hb:∀ x ∈ L,0≤key x∧key x < m) (hp:is.Perm (List.range L.length))
  (hw:is.Pairwise (fun i j=>(L.map key).getD i 0 < (L.map key).getD j 0∨((L.map key).getD i 0=(L.map key).getD j 0∧i < j))) :
  is.map (fun i=>L.getD i d)=(List.range m).flatMap fun(t:Nat)=>L.filter fun x=>key x == (t:Int):=by
 have eg:∀ i,i < L.length→(L.map key).getD i 0=key (L.getD i d):=fun i h=>by
  rw[zA,zF,zB h,zA,zB h]
  rfl
 have hm:∀ i,i < L.length→L.getD i d ∈ L:=fun i h=>by
  rw[zA,zB h]
  exact List.getElem_mem h
 rw[stab_is (n:=L.length) (m:=m) (fun i h=>by rw[eg i h]; exact hb _ (hm i h)) hp hw,kG]
 congr 1
 funext t
 rw[← range_filter d (fun x=>key x == (t:Int)) L]
 congr 1
 refine jJ fun i hi=>?_
 rw[eg i (yU.mp hi)]
theorem paired_pick {α:Type} {F:V→α→Prop} (d:α) {xs:List V} {L:List α} (r:Paired F xs L):∀ is:List Nat,(∀ i ∈ is,i < xs.length)→Paired F (is.map fun i=>xs.getD i .non) (is.map fun i=>L.getD i d)
 | [],_=>.nil
 | i::is,h=>by
  have e:xs[i]?=some (xs.getD i .non):=by rw[zA,zB (h i (.head _))]; rfl
  obtain⟨u,e2,r2⟩:=PySem.Paired.getL r e
  have e3:L.getD i d=u:=by rw[zA,e2]; rfl
  refine .cons ?_ (paired_pick d r is fun j hj=>h j (.tail _ hj))
  show F (xs.getD i .non) (L.getD i d)
  rw[e3]; exact r2
end L2
namespace L2
open PySem PySem.Spec PyProof.Rows
section
variable {X:Cx}
theorem call_allB (hc:X.calm=true):CallR X (.builtin "all") (fun xs H Q=>∃(p:Addr) (bs:List Bool),xs=[.ref p]∧SqL X.K H p (bs.map V.bl)∧Q (.bl (bs.all id)) H):=by
 intro pins s σ H xs us Q I r h
 obtain⟨p,bs,rfl,hq,q⟩:=h
 obtain⟨u,rfl,ru⟩:=vals1 r
 cases ru
 obtain⟨its,rv,pl,hz⟩:=I.list hq
 have hl:=rv.length
 rw[zD] at hl
 have lt:p < s.heap.objs.size:=by obtain⟨o,e,_⟩:=pl.isList; exact Heap.lt_size e
 refine call_all_walk (wpAny_pyIter_list pl.isList ?_)
 refine⟨_,_,_,_,_,_,fun i=>bs.getD i true,rfl,Walks.list (A:=X.A.in1) (I.ok.hd hc) s.heap.objs.size p (zY lt) its.toArray,⟨⟨_,Heap.get?_push_size _ rfl,rfl,rfl⟩,pl.isList.push _⟩,?_,fun h' tk k=>?_⟩
 ·intro i v s' Q' E' hP hQ
  have hi:its[i]?=some v:=by simpa using hP
  have hil:i < bs.length:=by have:=(zC.mp hi).1; omega
  obtain⟨u,hu,ru⟩:=rv.get (i:=i) (x:=V.bl bs[i]) (by rw[zF,zB hil]; rfl)
  rw[hi] at hu
  cases hu
  cases (show v=Value.bool bs[i] from ru)
  refine wpAny_truthy_bool ?_
  have e:bs.getD i true=bs[i]:=by rw[zA,zB hil]; rfl
  rw[← e]
  exact hQ
 ·refine⟨.bl _,H,I.kept (t':=tk) fun b o e=>k b o (fun z=>?_) (Heap.get?_push_of_some _ e),rfl,?_⟩
  ·rw[zG.mp z] at e
   exact absurd (Heap.lt_size e) (qS _)
  ·have e:(List.range its.toArray.size).all (fun i=>bs.getD i true)=bs.all id:=by
    rw[zO,← hl]
    clear q hq hl rv hz
    induction bs with
    | nil=>rfl
    | cons b bs ih=>rw[zX,vB,List.all_cons,List.all_map,List.all_cons]; exact congrArg (b && ·) ih
   show Q (.bl _) H
   rw[e]
   exact q
end
end L2
namespace L2
open PySem PySem.Spec PyProof.Rows
section
variable {X:Cx} {tg:Expr}
end
end L2
namespace L2
open PySem PyProof.Rows
theorem min_nm:(toString "min"++toString ".loop":String)="min.loop":=by decide
def itO (l:Addr):Obj:={ cls:=.type "list_iterator",data:=.fields #[.ref l,.int 0 0] }
def TupK (h h':Heap):Prop:=∀ b o,o.cls=.type "tuple"→h.get? b=some o→h'.get? b=some o
theorem tupK_upd {h:Heap} {S:Addr} {f:Obj→Obj} {o:Obj} (hS:h.get? S=some o) (hc:o.cls=.type "list"):TupK h (h.update S f):=fun b ob hb e=>by
 have hne:S ≠ b:=fun z=>by
  subst z
  rw[hS] at e
  cases e
  rw[hc] at hb
  exact absurd hb (by decide)
 exact(Heap.get?_update_other _ _ hne).trans e
theorem tupK_it {h h':Heap} {I l:Addr} {j:Nat} (hI:h.IsListIter I l j) (hk:∀ b o,b ∉ [I]→h.get? b=some o→h'.get? b=some o):TupK h h':=fun b ob hb e=>by
 refine hk b ob (fun z=>?_) e
 obtain⟨o,e1,hc,_⟩:=hI
 rw[zG.mp z,e1] at e
 cases e
 rw[hc] at hb
 exact absurd hb (by decide)
section
variable {prog:Program} {w:World} {A:Around} {R:Result→Shared→Prop} {I S l:Addr} {vs:List Value} {KI:Heap→Nat→Value→Prop} {bt:Nat→Nat→Bool} {kw:List (Str × Value)}
theorem mnN_loop (hh:A.handled=none) (hlI:l ≠ I) (hSI:S ≠ I) (hlS:l ≠ S) (s₀:Shared) (turn:∀ h i v,vs[i]?=some v→KI h i v)
  (mono:∀ h h' i u,KI h i u→TupK h h'→KI h' i u) (hcmp:∀ i j u v (s:Shared) (Q E:Value→Shared→Prop),KI s.heap i u→KI s.heap j v→Q (.bool (bt i j)) s→wpAny (model prog w) A.in1 (richCompare .Lt u v) Q E s)
  (hfI:s₀.heap.get? I=none) (hfS:s₀.heap.get? S=none)
  (hR:∀ v h' tk,vs[argBest bt (vs.length - 1)]?=some v→Kept s₀.heap h'→R (.ok (.ret v)) { s₀ with heap:=h',toks:=tk }) :
  ∀(k j:Nat) (h:Heap) (tk:Nat) (vb kb:Value) (c:Nat),vs.length - (j + 1)=k→j + 1≤vs.length→Kept s₀.heap h→h.IsListIter I l (j + 1)→h.IsList l vs.toArray→KI h (argBest bt j) kb→vs[argBest bt j]?=some vb →
   h.get? S=some (seqObj "list" #[vb,kb] c)→
   codeAny (model prog w) A (.builtin "min.loop" ⟨[.ref I,.none,.ref S],kw⟩) R { s₀ with heap:=h,toks:=tk }:=by
 have W:=Walks.list (prog:=prog) (w:=w) (A:=A.in1) hh I l hlI vs.toArray
 have hsz:vs.toArray.size=vs.length:=zO ..
 intro k
 induction k with
 | zero =>
  intro j h tk vb kb c hk hj K0 hit hls hK hvb hS 
  have hin:j + 1=vs.length:=by omega
  refine codeAny_builtin PySem.F.entry_min_loop (by
   rw[Around.under_plainId PySem.F.plain_min_loop _]
   refine wpAny_bind (m:=seqItems? (.ref S)) (wpAny_seqItems hS rfl (wpAny_bind (wpAny_tryCatch (W.done _ _ _ ⟨by rw[hsz,← hin]; exact hit,hls⟩ fun h' tk' hk'=>?_))))
   have hS':=hk' S _ (fun z=>hSI (zG.mp z)) hS
   refine wpAny_bind (m:=updateSeq S (fun _=>#[])) (wpAny_updateSeq hS' rfl (wpAny_bind (wpAny_letGo (wpAny_pure ?_))))
   refine hR vb _ _ (by rw[← hin]; exact hvb) fun b o e=>?_
   have n1:b ≠ S:=fun z=>by rw[z,hfS] at e; cases e
   have n2:b ≠ I:=fun z=>by rw[z,hfI] at e; cases e
   exact(Heap.get?_update_other _ _ (Ne.symm n1)).trans (hk' b o (fun z=>n2 (zG.mp z)) (K0 b o e)))
 | succ k ih =>
  intro j h tk vb kb c hk hj K0 hit hls hK hvb hS 
  have hlt:j + 1 < vs.length:=by omega
  refine codeAny_builtin PySem.F.entry_min_loop (by
   rw[Around.under_plainId PySem.F.plain_min_loop _]
   refine wpAny_bind (m:=seqItems? (.ref S)) (wpAny_seqItems hS rfl (wpAny_bind (wpAny_tryCatch (W.item (j + 1) _ _ _ (by rw[hsz]; exact hlt) ⟨hit,hls⟩ fun v h' tk' hP hst' hk'=>?_))))
   have hv:vs[j + 1]?=some v:=by simpa using hP
   have hS':=hk' S _ (fun z=>hSI (zG.mp z)) hS
   have T1:=tupK_it hit hk'
   have K1:Kept s₀.heap h':=fun b o e=>hk' b o (fun z=>by rw[zG.mp z,hfI] at e; cases e) (K0 b o e)
   obtain⟨h2,u,tk2,e2,st2,K2,hS2,hKu,hKb⟩:∃(h2:Heap) (u:Value) (tk2:Nat),(h2=h'∧v=u∧tk'=tk2)∧(h2.IsListIter I l (j + 1 + 1)∧h2.IsList l vs.toArray)∧Kept s₀.heap h2∧h2.get? S=some (seqObj "list" #[vb,kb] c)∧KI h2 (j + 1) u∧KI h2 (argBest bt j) kb :=
    ⟨h',v,tk',⟨rfl,rfl,rfl⟩,hst',K1,hS',turn _ _ _ hv,mono _ _ _ _ hK T1⟩
   obtain⟨rfl,rfl,rfl⟩:=e2
   refine wpAny_bind (wpAny_pure (wpAny_bind (wpAny_tryCatch (wpAny_holding (wpAny_bind (m:=richCompare .Lt v kb) (hcmp (j + 1) (argBest bt j) v kb _ _ _ hKu hKb ?_))))))
   refine wpAny_bind (wpAny_holding (wpAny_truthy_bool (wpAny_bind (wpAny_letGo (wpAny_pure ?_)))))
   cases hb:bt (j + 1) (argBest bt j) with
   | true =>
    simp only [if_true]
    refine wpAny_bind (wpAny_updateSeq hS2 rfl (wpAny_bind (wpAny_letGo ?_)))
    rw[min_nm]
    have T3:TupK h2 (h2.update S (Obj.mapSeq fun _=>#[v,v])):=tupK_upd hS2 rfl
    have oth:∀ b o,b ≠ S→h2.get? b=some o→(h2.update S (Obj.mapSeq fun _=>#[v,v])).get? b=some o:=fun b o n e=>(Heap.get?_update_other _ _ (Ne.symm n)).trans e
    obtain⟨oI,i1,i2,i3⟩:=st2.1
    obtain⟨oL,l1,l2⟩:=st2.2
    refine wpAny_pure ⟨plainId_quiet PySem.F.plain_min_loop _,ih (j + 1) _ _ v v _ (by omega) hlt (fun b o e=>oth b o (fun z=>by rw[z,hfS] at e; cases e) (K2 b o e)) ⟨oI,oth _ _ hSI.symm i1,i2,i3⟩ ⟨oL,oth _ _ hlS l1,l2⟩ ?_ ?_ (Heap.get?_update_self _ hS2 rfl) ⟩
    ·simp only [argBest,hb,if_true]; exact mono _ _ _ _ hKu T3
    ·simp only [argBest,hb,if_true]; exact hv
   | false =>
    simp only [yJ,if_false]
    refine wpAny_bind (wpAny_letGo ?_)
    rw[min_nm]
    refine wpAny_pure ⟨plainId_quiet PySem.F.plain_min_loop _,ih (j + 1) _ _ vb kb _ (by omega) hlt K2 st2.1 st2.2 ?_ ?_ hS2 ⟩
    ·simp only [argBest,hb,yJ,if_false]; exact hKb
    ·simp only [argBest,hb,yJ,if_false]; exact hvb)
theorem mnK_loop {q:Addr} (hh:A.handled=none) (hlI:l ≠ I) (hSI:S ≠ I) (hlS:l ≠ S) (s₀:Shared) (turn:∀ i v,vs[i]?=some v→∀ h tk (Q E:Value→Shared→Prop),Kept s₀.heap h→(∀ u h' tk',Kept h h'→KI h' i u→Q u { s₀ with heap:=h',toks:=tk' })→wpAny (model prog w) A.in1 (call (.ref q) [v]) Q E { s₀ with heap:=h,toks:=tk })
  (mono:∀ h h' i u,KI h i u→TupK h h'→KI h' i u) (hcmp:∀ i j u v (s:Shared) (Q E:Value→Shared→Prop),KI s.heap i u→KI s.heap j v→Q (.bool (bt i j)) s→wpAny (model prog w) A.in1 (richCompare .Lt u v) Q E s)
  (hfI:s₀.heap.get? I=none) (hfS:s₀.heap.get? S=none)
  (hR:∀ v h' tk,vs[argBest bt (vs.length - 1)]?=some v→Kept s₀.heap h'→R (.ok (.ret v)) { s₀ with heap:=h',toks:=tk }) :
  ∀(k j:Nat) (h:Heap) (tk:Nat) (vb kb:Value) (c:Nat),vs.length - (j + 1)=k→j + 1≤vs.length→Kept s₀.heap h→h.IsListIter I l (j + 1)→h.IsList l vs.toArray→KI h (argBest bt j) kb→vs[argBest bt j]?=some vb →
   h.get? S=some (seqObj "list" #[vb,kb] c)→
   codeAny (model prog w) A (.builtin "min.loop" ⟨[.ref I,.ref q,.ref S],kw⟩) R { s₀ with heap:=h,toks:=tk }:=by
 have W:=Walks.list (prog:=prog) (w:=w) (A:=A.in1) hh I l hlI vs.toArray
 have hsz:vs.toArray.size=vs.length:=zO ..
 intro k
 induction k with
 | zero =>
  intro j h tk vb kb c hk hj K0 hit hls hK hvb hS 
  have hin:j + 1=vs.length:=by omega
  refine codeAny_builtin PySem.F.entry_min_loop (by
   rw[Around.under_plainId PySem.F.plain_min_loop _]
   refine wpAny_bind (m:=seqItems? (.ref S)) (wpAny_seqItems hS rfl (wpAny_bind (wpAny_tryCatch (W.done _ _ _ ⟨by rw[hsz,← hin]; exact hit,hls⟩ fun h' tk' hk'=>?_))))
   have hS':=hk' S _ (fun z=>hSI (zG.mp z)) hS
   refine wpAny_bind (m:=updateSeq S (fun _=>#[])) (wpAny_updateSeq hS' rfl (wpAny_bind (wpAny_letGo (wpAny_pure ?_))))
   refine hR vb _ _ (by rw[← hin]; exact hvb) fun b o e=>?_
   have n1:b ≠ S:=fun z=>by rw[z,hfS] at e; cases e
   have n2:b ≠ I:=fun z=>by rw[z,hfI] at e; cases e
   exact(Heap.get?_update_other _ _ (Ne.symm n1)).trans (hk' b o (fun z=>n2 (zG.mp z)) (K0 b o e)))
 | succ k ih =>
  intro j h tk vb kb c hk hj K0 hit hls hK hvb hS 
  have hlt:j + 1 < vs.length:=by omega
  refine codeAny_builtin PySem.F.entry_min_loop (by
   rw[Around.under_plainId PySem.F.plain_min_loop _]
   refine wpAny_bind (m:=seqItems? (.ref S)) (wpAny_seqItems hS rfl (wpAny_bind (wpAny_tryCatch (W.item (j + 1) _ _ _ (by rw[hsz]; exact hlt) ⟨hit,hls⟩ fun v h' tk' hP hst' hk'=>?_))))
   have hv:vs[j + 1]?=some v:=by simpa using hP
   have hS':=hk' S _ (fun z=>hSI (zG.mp z)) hS
   have T1:=tupK_it hit hk'
   have K1:Kept s₀.heap h':=fun b o e=>hk' b o (fun z=>by rw[zG.mp z,hfI] at e; cases e) (K0 b o e)
   refine wpAny_bind (m:=tryCatch (holding [v] (call (.ref q) [v])) _) (wpAny_tryCatch (wpAny_holding (turn (j + 1) v hv h' tk' _ _ K1 fun u h2 tk2 k2 hKu=>?_)))
   obtain⟨oI,i1,i2,i3⟩:=hst'.1
   obtain⟨oL,l1,l2⟩:=hst'.2
   have st2:h2.IsListIter I l (j + 1 + 1)∧h2.IsList l vs.toArray:=⟨⟨oI,k2 _ _ i1,i2,i3⟩,⟨oL,k2 _ _ l1,l2⟩⟩
   have K2:Kept s₀.heap h2:=fun b o e=>k2 b o (K1 b o e)
   have hS2:=k2 _ _ hS'
   have hKb:KI h2 (argBest bt j) kb:=mono _ _ _ _ hK fun b o c e=>k2 b o (T1 b o c e)
   refine wpAny_bind (wpAny_tryCatch (wpAny_holding (wpAny_bind (m:=richCompare .Lt u kb) (hcmp (j + 1) (argBest bt j) u kb _ _ _ hKu hKb ?_))))
   refine wpAny_bind (wpAny_holding (wpAny_truthy_bool (wpAny_bind (wpAny_letGo (wpAny_pure ?_)))))
   cases hb:bt (j + 1) (argBest bt j) with
   | true =>
    simp only [if_true]
    refine wpAny_bind (wpAny_updateSeq hS2 rfl (wpAny_bind (wpAny_letGo ?_)))
    rw[min_nm]
    have T3:TupK h2 (h2.update S (Obj.mapSeq fun _=>#[v,u])):=tupK_upd hS2 rfl
    have oth:∀ b o,b ≠ S→h2.get? b=some o→(h2.update S (Obj.mapSeq fun _=>#[v,u])).get? b=some o:=fun b o n e=>(Heap.get?_update_other _ _ (Ne.symm n)).trans e
    obtain⟨oI,i1,i2,i3⟩:=st2.1
    obtain⟨oL,l1,l2⟩:=st2.2
    refine wpAny_pure ⟨plainId_quiet PySem.F.plain_min_loop _,ih (j + 1) _ _ v u _ (by omega) hlt (fun b o e=>oth b o (fun z=>by rw[z,hfS] at e; cases e) (K2 b o e)) ⟨oI,oth _ _ hSI.symm i1,i2,i3⟩ ⟨oL,oth _ _ hlS l1,l2⟩ ?_ ?_ (Heap.get?_update_self _ hS2 rfl) ⟩
    ·simp only [argBest,hb,if_true]; exact mono _ _ _ _ hKu T3
    ·simp only [argBest,hb,if_true]; exact hv
   | false =>
    simp only [yJ,if_false]
    refine wpAny_bind (wpAny_letGo ?_)
    rw[min_nm]
    refine wpAny_pure ⟨plainId_quiet PySem.F.plain_min_loop _,ih (j + 1) _ _ vb kb _ (by omega) hlt K2 st2.1 st2.2 ?_ ?_ hS2 ⟩
    ·simp only [argBest,hb,yJ,if_false]; exact hKb
    ·simp only [argBest,hb,yJ,if_false]; exact hvb)
theorem mnD_call {d:Value} {Q E:Value→Shared→Prop} {s:Shared} (hh:A.handled=none) (hl:s.heap.IsList l vs.toArray) (ha:argsOk "min" ⟨[.ref l],[(Str.ofString "default",d)]⟩) (turn:∀ h i v,vs[i]?=some v→KI h i v)
  (mono:∀ h h' i u,KI h i u→TupK h h'→KI h' i u) (hcmp:∀ i j u v (s:Shared) (Q E:Value→Shared→Prop),KI s.heap i u→KI s.heap j v→Q (.bool (bt i j)) s→wpAny (model prog w) A.in1 (richCompare .Lt u v) Q E s)
  (hne:0 < vs.length→∀ v h' tk,vs[argBest bt (vs.length - 1)]?=some v→Kept s.heap h'→Q v { s with heap:=h',toks:=tk })
  (hnil:vs.length=0→∀ h' tk,Kept s.heap h'→Q d { s with heap:=h',toks:=tk }) :
  wpAny (model prog w) A (call (.builtin "min") [.ref l] [(Str.ofString "default",d)]) Q E s:=by
 refine kmk_tree PySem.F.kind_min PySem.F.plain_min PySem.F.entry_min ha ?_
 refine wpAny_bind (m:=Builtin.Builtins.bindParams "min" ["key","default"] 0 ⟨[],[(Str.ofString "default",d)]⟩) (wpAny_of_eq (show Builtin.Builtins.bindParams "min" ["key","default"] 0 ⟨[],[(Str.ofString "default",d)]⟩=pure [none,some d] from rfl) ?_)
 refine wpAny_bind (wpAny_pure (wpAny_bind (wpAny_pyIter_list hl (wpAny_bind (wpAny_newList ?_ (z5 _))))))
 rw[min_nm]
 refine wpAny_pure ⟨plainId_quiet PySem.F.plain_min_loop _,?_⟩
 have hll:l < s.heap.objs.size:=by obtain⟨o,e,_⟩:=hl; exact Heap.lt_size e
 show codeAny _ _ _ _ { s with heap:=(s.heap.push (itO l)).push (seqObj "list" #[] 0) }
 have gI:((s.heap.push (itO l)).push (seqObj "list" #[] 0)).get? s.heap.objs.size=some (itO l):=Heap.get?_push_of_some _ (Heap.get?_push_size _ rfl)
 have hSz:(s.heap.push (itO l)).objs.size=s.heap.objs.size + 1:=size_push' ..
 have gS:((s.heap.push (itO l)).push (seqObj "list" #[] 0)).get? (s.heap.push (itO l)).objs.size=some (seqObj "list" #[] 0):=Heap.get?_push_size _ rfl
 have KK:Kept s.heap ((s.heap.push (itO l)).push (seqObj "list" #[] 0)):=fun b o e=>Heap.get?_push_of_some _ (Heap.get?_push_of_some _ e)
 have hl2:((s.heap.push (itO l)).push (seqObj "list" #[] 0)).IsList l vs.toArray:=by obtain⟨o,e,r⟩:=hl; exact⟨o,KK _ _ e,r⟩
 rw[hSz] at gS
 have hSz':(s.heap.push { cls:=.type "list_iterator",data:=.fields #[.ref l,.int 0 0] }).objs.size=s.heap.objs.size + 1:=hSz
 try rw[hSz']
 generalize hI:s.heap.objs.size=I at *
 have hlI:l ≠ I:=zY hll
 have hSI:I + 1 ≠ I:=jN _
 have hlS:l ≠ I + 1:=zY (y8 hll)
 have hfI:s.heap.get? I=none:=Heap.get?_none_of_le (by omega)
 have hfS:s.heap.get? (I + 1)=none:=Heap.get?_none_of_le (by omega)
 generalize ((s.heap.push (itO l)).push (seqObj "list" #[] 0))=h1 at *
 have W:=Walks.list (prog:=prog) (w:=w) (A:=A.in1) hh I l hlI vs.toArray
 have hsz:vs.toArray.size=vs.length:=zO ..
 have hit:h1.IsListIter I l 0:=⟨_,gI,rfl,rfl⟩
 refine codeAny_builtin PySem.F.entry_min_loop (by
  rw[Around.under_plainId PySem.F.plain_min_loop _]
  by_cases hn:0 < vs.length
  ·refine wpAny_bind (m:=seqItems? (.ref (I + 1))) (wpAny_seqItems gS rfl (wpAny_bind (wpAny_tryCatch (W.item 0 _ _ _ (by rw[hsz]; exact hn) ⟨hit,hl2⟩ fun v h' tk' hP hst' hk'=>?_))))
   have hv:vs[0]?=some v:=by simpa using hP
   have hS':=hk' (I + 1) _ (fun z=>hSI (zG.mp z)) gS
   have K1:Kept s.heap h':=fun b o e=>hk' b o (fun z=>by rw[zG.mp z,hfI] at e; cases e) (KK b o e)
   obtain⟨h2,u,tk2,e2,st2,K2,hS2,hKu⟩:∃(h2:Heap) (u:Value) (tk2:Nat),(h2=h'∧v=u∧tk'=tk2)∧(h2.IsListIter I l 1∧h2.IsList l vs.toArray)∧Kept s.heap h2∧h2.get? (I + 1)=some (seqObj "list" #[] 0)∧KI h2 0 u:=⟨h',v,tk',⟨rfl,rfl,rfl⟩,hst',K1,hS',turn _ _ _ hv⟩
   obtain⟨rfl,rfl,rfl⟩:=e2
   refine wpAny_bind (wpAny_pure (wpAny_bind (wpAny_updateSeq hS2 rfl ?_)))
   rw[min_nm]
   have T3:TupK h2 (h2.update (I + 1) (Obj.mapSeq fun _=>#[v,v])):=tupK_upd hS2 rfl
   have oth:∀ b o,b ≠ I + 1→h2.get? b=some o→(h2.update (I + 1) (Obj.mapSeq fun _=>#[v,v])).get? b=some o:=fun b o n e=>(Heap.get?_update_other _ _ (Ne.symm n)).trans e
   obtain⟨oI,i1,i2,i3⟩:=st2.1
   obtain⟨oL,l1,l2⟩:=st2.2
   refine wpAny_pure ⟨plainId_quiet PySem.F.plain_min_loop _,mnN_loop hh hlI hSI hlS s turn mono hcmp hfI hfS (fun v' h'' tk'' e1 e2=>hne hn v' h'' tk'' e1 e2) _ 0 _ _ v v _ rfl hn (fun b o e=>oth b o (fun z=>by rw[z,hfS] at e; cases e) (K2 b o e)) ⟨oI,oth _ _ hSI.symm i1,i2,i3⟩ ⟨oL,oth _ _ hlS l1,l2⟩ (mono _ _ _ _ hKu T3) hv (Heap.get?_update_self _ hS2 rfl)⟩
  ·refine wpAny_bind (m:=seqItems? (.ref (I + 1))) (wpAny_seqItems gS rfl (wpAny_bind (wpAny_tryCatch (W.done _ _ _ ⟨by rw[hsz,show vs.length=0 by omega]; exact hit,hl2⟩ fun h' tk' hk'=>?_))))
   refine wpAny_bind (m:=rule _) (wpAny_rule (wpAny_pure ?_))
   exact hnil (by omega) _ _ fun b o e=>hk' b o (fun z=>by rw[zG.mp z,hfI] at e; cases e) (KK b o e))
theorem mnKD_call {q:Addr} {d:Value} {Q E:Value→Shared→Prop} {s:Shared} (hh:A.handled=none) (hl:s.heap.IsList l vs.toArray) (ha:argsOk "min" ⟨[.ref l],[(Str.ofString "key",.ref q),(Str.ofString "default",d)]⟩) (turn:∀ i v,vs[i]?=some v→∀ h tk (Q E:Value→Shared→Prop),Kept s.heap h→(∀ u h' tk',Kept h h'→KI h' i u→Q u { s with heap:=h',toks:=tk' })→wpAny (model prog w) A.in1 (call (.ref q) [v]) Q E { s with heap:=h,toks:=tk })
  (mono:∀ h h' i u,KI h i u→TupK h h'→KI h' i u) (hcmp:∀ i j u v (s:Shared) (Q E:Value→Shared→Prop),KI s.heap i u→KI s.heap j v→Q (.bool (bt i j)) s→wpAny (model prog w) A.in1 (richCompare .Lt u v) Q E s)
  (hne:0 < vs.length→∀ v h' tk,vs[argBest bt (vs.length - 1)]?=some v→Kept s.heap h'→Q v { s with heap:=h',toks:=tk })
  (hnil:vs.length=0→∀ h' tk,Kept s.heap h'→Q d { s with heap:=h',toks:=tk }) :
  wpAny (model prog w) A (call (.builtin "min") [.ref l] [(Str.ofString "key",.ref q),(Str.ofString "default",d)]) Q E s:=by
 refine kmk_tree PySem.F.kind_min PySem.F.plain_min PySem.F.entry_min ha ?_
 refine wpAny_bind (m:=Builtin.Builtins.bindParams "min" ["key","default"] 0 ⟨[],[(Str.ofString "key",.ref q),(Str.ofString "default",d)]⟩) (wpAny_of_eq (show Builtin.Builtins.bindParams "min" ["key","default"] 0 ⟨[],[(Str.ofString "key",.ref q),(Str.ofString "default",d)]⟩=pure [some (.ref q),some d] from rfl) ?_)
 refine wpAny_bind (wpAny_pure (wpAny_bind (wpAny_pyIter_list hl (wpAny_bind (wpAny_newList ?_ (z5 _))))))
 rw[min_nm]
 refine wpAny_pure ⟨plainId_quiet PySem.F.plain_min_loop _,?_⟩
 have hll:l < s.heap.objs.size:=by obtain⟨o,e,_⟩:=hl; exact Heap.lt_size e
 show codeAny _ _ _ _ { s with heap:=(s.heap.push (itO l)).push (seqObj "list" #[] 0) }
 have gI:((s.heap.push (itO l)).push (seqObj "list" #[] 0)).get? s.heap.objs.size=some (itO l):=Heap.get?_push_of_some _ (Heap.get?_push_size _ rfl)
 have hSz:(s.heap.push (itO l)).objs.size=s.heap.objs.size + 1:=size_push' ..
 have gS:((s.heap.push (itO l)).push (seqObj "list" #[] 0)).get? (s.heap.push (itO l)).objs.size=some (seqObj "list" #[] 0):=Heap.get?_push_size _ rfl
 have KK:Kept s.heap ((s.heap.push (itO l)).push (seqObj "list" #[] 0)):=fun b o e=>Heap.get?_push_of_some _ (Heap.get?_push_of_some _ e)
 have hl2:((s.heap.push (itO l)).push (seqObj "list" #[] 0)).IsList l vs.toArray:=by obtain⟨o,e,r⟩:=hl; exact⟨o,KK _ _ e,r⟩
 rw[hSz] at gS
 have hSz':(s.heap.push { cls:=.type "list_iterator",data:=.fields #[.ref l,.int 0 0] }).objs.size=s.heap.objs.size + 1:=hSz
 try rw[hSz']
 generalize hI:s.heap.objs.size=I at *
 have hlI:l ≠ I:=zY hll
 have hSI:I + 1 ≠ I:=jN _
 have hlS:l ≠ I + 1:=zY (y8 hll)
 have hfI:s.heap.get? I=none:=Heap.get?_none_of_le (by omega)
 have hfS:s.heap.get? (I + 1)=none:=Heap.get?_none_of_le (by omega)
 generalize ((s.heap.push (itO l)).push (seqObj "list" #[] 0))=h1 at *
 have W:=Walks.list (prog:=prog) (w:=w) (A:=A.in1) hh I l hlI vs.toArray
 have hsz:vs.toArray.size=vs.length:=zO ..
 have hit:h1.IsListIter I l 0:=⟨_,gI,rfl,rfl⟩
 refine codeAny_builtin PySem.F.entry_min_loop (by
  rw[Around.under_plainId PySem.F.plain_min_loop _]
  by_cases hn:0 < vs.length
  ·refine wpAny_bind (m:=seqItems? (.ref (I + 1))) (wpAny_seqItems gS rfl (wpAny_bind (wpAny_tryCatch (W.item 0 _ _ _ (by rw[hsz]; exact hn) ⟨hit,hl2⟩ fun v h' tk' hP hst' hk'=>?_))))
   have hv:vs[0]?=some v:=by simpa using hP
   have hS':=hk' (I + 1) _ (fun z=>hSI (zG.mp z)) gS
   have K1:Kept s.heap h':=fun b o e=>hk' b o (fun z=>by rw[zG.mp z,hfI] at e; cases e) (KK b o e)
   refine wpAny_bind (m:=tryCatch (holding [v] (call (.ref q) [v])) _) (wpAny_tryCatch (wpAny_holding (turn 0 v hv h' tk' _ _ K1 fun u h2 tk2 k2 hKu=>?_)))
   obtain⟨oI0,i10,i20,i30⟩:=hst'.1
   obtain⟨oL0,l10,l20⟩:=hst'.2
   have st2:h2.IsListIter I l 1∧h2.IsList l vs.toArray:=⟨⟨oI0,k2 _ _ i10,i20,i30⟩,⟨oL0,k2 _ _ l10,l20⟩⟩
   have K2:Kept s.heap h2:=fun b o e=>k2 b o (K1 b o e)
   have hS2:=k2 _ _ hS'
   refine wpAny_bind (wpAny_updateSeq hS2 rfl ?_)
   rw[min_nm]
   have T3:TupK h2 (h2.update (I + 1) (Obj.mapSeq fun _=>#[v,u])):=tupK_upd hS2 rfl
   have oth:∀ b o,b ≠ I + 1→h2.get? b=some o→(h2.update (I + 1) (Obj.mapSeq fun _=>#[v,u])).get? b=some o:=fun b o n e=>(Heap.get?_update_other _ _ (Ne.symm n)).trans e
   obtain⟨oI,i1,i2,i3⟩:=st2.1
   obtain⟨oL,l1,l2⟩:=st2.2
   refine wpAny_pure ⟨plainId_quiet PySem.F.plain_min_loop _,mnK_loop hh hlI hSI hlS s turn mono hcmp hfI hfS (fun v' h'' tk'' e1 e2=>hne hn v' h'' tk'' e1 e2) _ 0 _ _ v u _ rfl hn (fun b o e=>oth b o (fun z=>by rw[z,hfS] at e; cases e) (K2 b o e)) ⟨oI,oth _ _ hSI.symm i1,i2,i3⟩ ⟨oL,oth _ _ hlS l1,l2⟩ (mono _ _ _ _ hKu T3) hv (Heap.get?_update_self _ hS2 rfl)⟩
  ·refine wpAny_bind (m:=seqItems? (.ref (I + 1))) (wpAny_seqItems gS rfl (wpAny_bind (wpAny_tryCatch (W.done _ _ _ ⟨by rw[hsz,show vs.length=0 by omega]; exact hit,hl2⟩ fun h' tk' hk'=>?_))))
   refine wpAny_bind (m:=rule _) (wpAny_rule (wpAny_pure ?_))
   exact hnil (by omega) _ _ fun b o e=>hk' b o (fun z=>by rw[zG.mp z,hfI] at e; cases e) (KK b o e))
theorem mnKy_call {q:Addr} {Q E:Value→Shared→Prop} {s:Shared} (hh:A.handled=none) (hl:s.heap.IsList l vs.toArray) (ha:argsOk "min" ⟨[.ref l],[(Str.ofString "key",.ref q)]⟩) (turn:∀ i v,vs[i]?=some v→∀ h tk (Q E:Value→Shared→Prop),Kept s.heap h→(∀ u h' tk',Kept h h'→KI h' i u→Q u { s with heap:=h',toks:=tk' })→wpAny (model prog w) A.in1 (call (.ref q) [v]) Q E { s with heap:=h,toks:=tk })
  (mono:∀ h h' i u,KI h i u→TupK h h'→KI h' i u) (hcmp:∀ i j u v (s:Shared) (Q E:Value→Shared→Prop),KI s.heap i u→KI s.heap j v→Q (.bool (bt i j)) s→wpAny (model prog w) A.in1 (richCompare .Lt u v) Q E s)
  (hne:0 < vs.length→∀ v h' tk,vs[argBest bt (vs.length - 1)]?=some v→Kept s.heap h'→Q v { s with heap:=h',toks:=tk })
  (hpos:0 < vs.length) :
  wpAny (model prog w) A (call (.builtin "min") [.ref l] [(Str.ofString "key",.ref q)]) Q E s:=by
 refine kmk_tree PySem.F.kind_min PySem.F.plain_min PySem.F.entry_min ha ?_
 refine wpAny_bind (m:=Builtin.Builtins.bindParams "min" ["key","default"] 0 ⟨[],[(Str.ofString "key",.ref q)]⟩) (wpAny_of_eq (show Builtin.Builtins.bindParams "min" ["key","default"] 0 ⟨[],[(Str.ofString "key",.ref q)]⟩=pure [some (.ref q),none] from rfl) ?_)
 refine wpAny_bind (wpAny_pure (wpAny_bind (wpAny_pyIter_list hl (wpAny_bind (wpAny_newList ?_ (z5 _))))))
 rw[min_nm]
 refine wpAny_pure ⟨plainId_quiet PySem.F.plain_min_loop _,?_⟩
 have hll:l < s.heap.objs.size:=by obtain⟨o,e,_⟩:=hl; exact Heap.lt_size e
 show codeAny _ _ _ _ { s with heap:=(s.heap.push (itO l)).push (seqObj "list" #[] 0) }
 have gI:((s.heap.push (itO l)).push (seqObj "list" #[] 0)).get? s.heap.objs.size=some (itO l):=Heap.get?_push_of_some _ (Heap.get?_push_size _ rfl)
 have hSz:(s.heap.push (itO l)).objs.size=s.heap.objs.size + 1:=size_push' ..
 have gS:((s.heap.push (itO l)).push (seqObj "list" #[] 0)).get? (s.heap.push (itO l)).objs.size=some (seqObj "list" #[] 0):=Heap.get?_push_size _ rfl
 have KK:Kept s.heap ((s.heap.push (itO l)).push (seqObj "list" #[] 0)):=fun b o e=>Heap.get?_push_of_some _ (Heap.get?_push_of_some _ e)
 have hl2:((s.heap.push (itO l)).push (seqObj "list" #[] 0)).IsList l vs.toArray:=by obtain⟨o,e,r⟩:=hl; exact⟨o,KK _ _ e,r⟩
 rw[hSz] at gS
 have hSz':(s.heap.push { cls:=.type "list_iterator",data:=.fields #[.ref l,.int 0 0] }).objs.size=s.heap.objs.size + 1:=hSz
 try rw[hSz']
 generalize hI:s.heap.objs.size=I at *
 have hlI:l ≠ I:=zY hll
 have hSI:I + 1 ≠ I:=jN _
 have hlS:l ≠ I + 1:=zY (y8 hll)
 have hfI:s.heap.get? I=none:=Heap.get?_none_of_le (by omega)
 have hfS:s.heap.get? (I + 1)=none:=Heap.get?_none_of_le (by omega)
 generalize ((s.heap.push (itO l)).push (seqObj "list" #[] 0))=h1 at *
 have W:=Walks.list (prog:=prog) (w:=w) (A:=A.in1) hh I l hlI vs.toArray
 have hsz:vs.toArray.size=vs.length:=zO ..
 have hit:h1.IsListIter I l 0:=⟨_,gI,rfl,rfl⟩
 refine codeAny_builtin PySem.F.entry_min_loop (by
  rw[Around.under_plainId PySem.F.plain_min_loop _]
  by_cases hn:0 < vs.length
  ·refine wpAny_bind (m:=seqItems? (.ref (I + 1))) (wpAny_seqItems gS rfl (wpAny_bind (wpAny_tryCatch (W.item 0 _ _ _ (by rw[hsz]; exact hn) ⟨hit,hl2⟩ fun v h' tk' hP hst' hk'=>?_))))
   have hv:vs[0]?=some v:=by simpa using hP
   have hS':=hk' (I + 1) _ (fun z=>hSI (zG.mp z)) gS
   have K1:Kept s.heap h':=fun b o e=>hk' b o (fun z=>by rw[zG.mp z,hfI] at e; cases e) (KK b o e)
   refine wpAny_bind (m:=tryCatch (holding [v] (call (.ref q) [v])) _) (wpAny_tryCatch (wpAny_holding (turn 0 v hv h' tk' _ _ K1 fun u h2 tk2 k2 hKu=>?_)))
   obtain⟨oI0,i10,i20,i30⟩:=hst'.1
   obtain⟨oL0,l10,l20⟩:=hst'.2
   have st2:h2.IsListIter I l 1∧h2.IsList l vs.toArray:=⟨⟨oI0,k2 _ _ i10,i20,i30⟩,⟨oL0,k2 _ _ l10,l20⟩⟩
   have K2:Kept s.heap h2:=fun b o e=>k2 b o (K1 b o e)
   have hS2:=k2 _ _ hS'
   refine wpAny_bind (wpAny_updateSeq hS2 rfl ?_)
   rw[min_nm]
   have T3:TupK h2 (h2.update (I + 1) (Obj.mapSeq fun _=>#[v,u])):=tupK_upd hS2 rfl
   have oth:∀ b o,b ≠ I + 1→h2.get? b=some o→(h2.update (I + 1) (Obj.mapSeq fun _=>#[v,u])).get? b=some o:=fun b o n e=>(Heap.get?_update_other _ _ (Ne.symm n)).trans e
   obtain⟨oI,i1,i2,i3⟩:=st2.1
   obtain⟨oL,l1,l2⟩:=st2.2
   refine wpAny_pure ⟨plainId_quiet PySem.F.plain_min_loop _,mnK_loop hh hlI hSI hlS s turn mono hcmp hfI hfS (fun v' h'' tk'' e1 e2=>hne hn v' h'' tk'' e1 e2) _ 0 _ _ v u _ rfl hn (fun b o e=>oth b o (fun z=>by rw[z,hfS] at e; cases e) (K2 b o e)) ⟨oI,oth _ _ hSI.symm i1,i2,i3⟩ ⟨oL,oth _ _ hlS l1,l2⟩ (mono _ _ _ _ hKu T3) hv (Heap.get?_update_self _ hS2 rfl)⟩
  ·exact absurd hpos hn)
end
end L2
namespace L2
open PySem PySem.Spec PyProof.Rows PySem.Calls
theorem args_minD (a d:Value):argsOk "min" ⟨[a],[(Str.ofString "default",d)]⟩:=by unfold argsOk; kernel_rfl
theorem args_minKD (a f d:Value):argsOk "min" ⟨[a],[(Str.ofString "key",f),(Str.ofString "default",d)]⟩:=by unfold argsOk; kernel_rfl
theorem best_le {ns:List Int} (n:Nat) (hn:n < ns.length):∀ k,k≤n→ns.getD (argBest (fun i j=>decide (ns.getD i 0 < ns.getD j 0)) n) 0≤ns.getD k 0:=by
 induction n with
 | zero=>intro k hk; rw[show k=0 by omega]; exact qV _
 | succ n ih =>
  intro k hk
  have h1:=ih (by omega)
  simp only [argBest]
  by_cases hb:ns.getD (n + 1) 0 < ns.getD (argBest (fun i j=>decide (ns.getD i 0 < ns.getD j 0)) n) 0
  ·rw[if_pos (decide_eq_true hb)]
   by_cases e:k=n + 1
   ·rw[e]; exact qV _
   ·have:=h1 k (by omega); omega
  ·rw[if_neg (by simpa using hb)]
   by_cases e:k=n + 1
   ·rw[e]; omega
   ·exact h1 k (by omega)
theorem best_lt (bt:Nat→Nat→Bool) (n:Nat):argBest bt n≤n:=by
 induction n with
 | zero=>exact zI _
 | succ n ih=>simp only [argBest]; split <;> omega
def tMinD (K:PySem.W.Frag) (ta:TE):TE:=fun σ H Q=>ta σ H fun v H1=>∃ l ns,v=.ref l∧SqL K H1 l (ns.map V.int)∧(ns=[]→Q .non H1)∧∀ M,M ∈ ns→(∀ a ∈ ns,M≤a)→Q (.int M) H1
theorem pe_minD {X:Cx} {nm:Str} {a:Expr} {ta:TE} {p kp pd pos:Pos} {jd} (hc:X.calm=true) (hg:Gl X nm) (hm:X.mg nm=none) (hv:bootBuiltins nm=some (.builtin "min")) (ha:PE X a ta)
  (hn:nm ≠ "__name__":=by decide) (hdb:(nm == ("__debug__":Str))=false:=by decide)
  (hs:starEach [a] X.env=(false,eval a X.env)::starEach [] X.env:=by rfl) (he:backTo pos (starEach [a] X.env)=(false,eval a X.env)::backTo pos (starEach [] X.env):=by rfl)
  (hpl:(backTo pos (starEach [a] X.env)).any (·.1)=false:=by rfl) :
  PE X (.Call (.Name nm p) [a] [⟨some "default",.Constant .none jd pd,kp⟩] pos) (tMinD X.K ta):=by
 intro pins s σ H Q I h
 refine wpAny_Call_Name_kw (ld_blt I hg hm hv ?_ hn hdb)
 refine callWith_kw (thn (pa_cons ha pa_nil hs pos pins s σ H (fun vs H1=>match vs with|[v]=>∃ l ns,v=.ref l∧SqL X.K H1 l (ns.map V.int)∧(ns=[]→Q .non H1)∧∀ M,M ∈ ns→(∀ a ∈ ns,M≤a)→Q (.int M) H1|_=>False) I h) ?_) he hpl
 rintro us s1 ⟨vs,H1,I1,r,q1⟩
 match vs,r,q1 with
 | [v],r,q1 =>
 obtain⟨l,ns,rfl,hl,q0,q⟩:=q1
 cases r with
 | cons r0 r1 =>
 cases r1
 cases r0
 refine kws_cons (Constant_none (kws_nil ?_))
 obtain⟨its,rv,pl,hz⟩:=I1.list hl
 have hi:=intsAre_of rv
 have hlen:=rv.length
 rw[zD] at hlen
 refine mnD_call (KI:=fun _ i u=>∃ t,u=.int (ns.getD i 0) t) (bt:=fun i j=>decide (ns.getD i 0 < ns.getD j 0)) (I1.ok.hd hc) pl.isList (args_minD _ _) (fun h i v hv=>?_) (fun _ _ _ _ z _=>z) (fun i j u v s Q E ⟨t,e1⟩ ⟨t2,e2⟩ hq=>?_) (fun hp v h' tk hv hk=>?_) (fun hz h' tk hk=>?_)
 ·have hi':i < ns.length:=by rw[hlen]; exact(zC.mp hv).1
  obtain⟨w,e,rw'⟩:=rv.get (i:=i) (x:=.int ns[i]) (by rw[zF,zB hi']; rfl)
  rw[hv] at e
  cases e
  obtain⟨t,e⟩:=rw'
  exact⟨t,by rw[e,zA,zB hi']; rfl⟩
 ·subst e1 e2
  exact CmpOf.ints_lt (prog:=X.prog) (w:=X.w) (A:=X.A.in1) (P:=fun i v=>∃ t,v=.int (ns.getD i 0) t) (fun i=>ns.getD i 0) (fun i v h=>h) i j _ _ s Q E ⟨t,rfl⟩ ⟨t2,rfl⟩ hq
 ·have hb:=best_lt (fun i j=>decide (ns.getD i 0 < ns.getD j 0)) (its.length - 1)
  have hi':argBest (fun i j=>decide (ns.getD i 0 < ns.getD j 0)) (its.length - 1) < ns.length:=by omega
  obtain⟨w,e,rw'⟩:=rv.get (i:=argBest (fun i j=>decide (ns.getD i 0 < ns.getD j 0)) (its.length - 1)) (x:=.int (ns[argBest (fun i j=>decide (ns.getD i 0 < ns.getD j 0)) (its.length - 1)])) (by rw[zF,zB hi']; rfl)
  rw[hv] at e
  cases e
  refine⟨.int _,H1,I1.kept (t':=tk) hk,rw',q _ (List.getElem_mem _) fun a ha=>?_⟩
  obtain⟨k,hk1,rfl⟩:=List.getElem_of_mem ha
  have hle:=best_le (ns:=ns) (its.length - 1) (by omega) k (by omega)
  rw[zA,zA,zB hi',zB hk1] at hle
  exact hle
 ·exact⟨.non,H1,I1.kept (t':=tk) hk,rfl,q0 (kI (by omega))⟩
end L2
namespace L2
open PySem PySem.Spec PyProof.Rows PySem.W PySem.Calls
abbrev lamB2 (x:Str) (p2 p3 p4 p5 p6 p7 p8:Pos):Expr:=.Tuple [.Subscript (.Name x p2) (.Constant (.int 0) 0 p3) p4,.Subscript (.Name x p5) (.Constant (.int 1) 0 p6) p7] 0 p8
section
variable {prog:Program} {w:World} {A:Around} {s:Shared}
theorem lam_pair {f t c':Addr} {x qual:Str} {pm ctv:Value} {p1 p2 p3 p4 p5 p6 p7 p8:Pos} {its:Array Value} {k1 k2:Int} {u1 u2:Tok} {Q E:Value→Shared→Prop}
  (ho:s.heap.get? f=some (kla_obj "<lambda>" qual (lamPar x p1) (lamB2 x p2 p3 p4 p5 p6 p7 p8) (lamSc x) [] pm c' ctv)) (hcd:s.heap.CodeRec (.ref c') qual) (hroom:A.depth < recursionLimit) (lim:s.heap.NoLimit)
  (ht:IsTup s.heap t its) (hsz:2≤its.size) (h0:its[0]?=some (.int k1 u1)) (h1:its[1]?=some (.int k2 u2)) (hd:(x == ("__debug__":Str))=false)
  (hbind:∀ v,bindArgs (kla_fn "<lambda>" qual (lamPar x p1) (lamB2 x p2 p3 p4 p5 p6 p7 p8) (lamSc x) [] pm (.ref c') ctv) ⟨[v],[]⟩=pure [(x,v)])
  (hQ:∀ a h' tk',Kept s.heap h'→IsTup h' a #[.int k1 u1,.int k2 u2]→Q (.ref a) { s with heap:=h',toks:=tk' }) :
  wpAny (model prog w) A (call (.ref f) [.ref t]) Q E s:=by
 refine wpAny_call (kla_callFunE hroom ho rfl rfl rfl rfl hcd ?_)
 rw[hbind]
 refine wpAny_pure (wpAny_newFunctionEnv (fun y hy=>?_) (fun y hy=>?_) (fun h₁ hns hsb=>⟨lim.fresh _ hsb,?_⟩) rfl)
 ·rw[zG.mp hy]; exact fun z=>nomatch z
 ·rw[zG.mp hy]
  show List.lookup x [(x,NameKind.local)]=_
  simp [List.lookup]
 ·have hk₁:Kept s.heap h₁:=fun b o e=>hsb.extBut b o (zY (Heap.lt_size e)) (Heap.get?_push_of_some _ e)
  have ht₁:IsTup h₁ t its:=let ⟨o,e,r⟩:=ht; ⟨o,hk₁ _ _ e,r⟩
  have i0:seqIndex? 0 its.size=some 0:=by generalize its.size=n at hsz; unfold seqIndex?; simp; omega
  have i1:seqIndex? 1 its.size=some 1:=by generalize its.size=n at hsz; unfold seqIndex?; simp; omega
  refine kla_codeExpr (wpAny_mono (E:=fun _ _=>False) (Q:=fun v s'=>∃ a h' tk',v=.ref a∧s'={ s with heap:=h',toks:=tk' }∧Kept s.heap h'∧IsTup h' a #[.int k1 u1,.int k2 u2]) ?_ (fun v s' ⟨a,h',tk',e1,e2,kk,tt⟩=>by subst e1 e2; exact hQ a h' tk' kk tt) fun _ _ h'=>h'.elim)
  refine wpAny_Tuple_spliced (Calls.spliced_cons ?_)
  refine Subscript_ (wpAny_Name (wpAny_loadName_local rfl ?_ hns (v:=.ref t) ?_ (wpAny_Constant_int ?_)) hd)
  ·show List.lookup x [(x,NameKind.local)]=_
   simp [List.lookup]
  ·show List.lookup x [(x,Value.ref t)]=_
   simp [List.lookup]
  ·refine subscriptTail_builtinR (x:=.int k1 u1) (s:={ s with heap:=h₁,toks:=s.toks + [(x,Value.ref t)].length + 1 }) ht₁.typeIs slot_tuple_getitem.lookup (getItem_tuple (j:=0) ht₁ (by decide) (by decide) i0 h0 ⟨rfl,?_⟩)
   refine Calls.spliced_cons ?_
   refine Subscript_ (wpAny_Name (wpAny_loadName_local rfl ?_ hns (v:=.ref t) ?_ (wpAny_Constant_int ?_)) hd)
   ·show List.lookup x [(x,NameKind.local)]=_
    simp [List.lookup]
   ·show List.lookup x [(x,Value.ref t)]=_
    simp [List.lookup]
   ·refine subscriptTail_builtinR (x:=.int k2 u2) (s:={ s with heap:=h₁,toks:=s.toks + [(x,Value.ref t)].length + 1 + 1 }) ht₁.typeIs slot_tuple_getitem.lookup (getItem_tuple (j:=1) ht₁ (by decide) (by decide) i1 h1 ⟨rfl,?_⟩)
    refine Calls.spliced_nil ⟨(by show 2≤sizeLine; decide),_,_,_,rfl,rfl,fun b o e=>Heap.get?_push_of_some _ (hk₁ b o e),IsTup.new _ _⟩
end
def kLt (a b:Int × Int):Bool:=HT.lexLt [a.1,a.2] [b.1,b.2]
def bestK (ks:List (Int × Int)):Nat:=argBest (fun i j=>kLt (ks.getD i (0,0)) (ks.getD j (0,0))) (ks.length - 1)
inductive rMinK (K:PySem.W.Frag) (P:Addr) (q:Str) (ln cl:Nat) (Q:VK) (v:V) (H1:Hp):Prop where
 | mk (l xs ks:_) (h_0:v=.ref l) (h_1:SqL K H1 l xs) (h_2:ks.length=xs.length) (h_3:(∀(j:Nat) x (k:Int × Int),xs[j]?=some x→ks[j]?=some k→∃ t ys,x=.ref t∧SqT K H1 t ys∧ys[0]?=some (.int k.1)∧ys[1]?=some (.int k.2))) (h_4:LamT P q ln cl H1) (h_5:∀ H2,Keep [P] H1 H2→LamT P q ln cl H2→(xs=[]→Q .non H2)∧∀ x,xs[bestK ks]?=some x→Q x H2):rMinK K P q ln cl Q v H1
def tMinK (K:PySem.W.Frag) (P:Addr) (q:Str) (ln cl:Nat) (ta:TE):TE:=fun σ H Q=>ta σ H (rMinK K P q ln cl Q)
theorem pe_minKD {X:Cx} {k:Nat} {c P:Addr} {q x nm:Str} {a:Expr} {ta:TE} {p kp kp2 pd p1 p2 p3 p4 p5 p6 p7 p8 lp pos:Pos} {jd} (hc:X.calm=true) (hr:Room k X.A) (hg:Gl X nm) (hm:X.mg nm=none) (hv:bootBuiltins nm=some (.builtin "min"))
  (hcode:X.env.code=.ref c) (hq:X.env.qual++"<lambda>"=q) (C:CodeHd X.base c P) (hB:X.base.BuiltinsAt X.mg P) (ha:PE X a ta) (hd:(x == ("__debug__":Str))=false)
  (hbind:∀(pm ctv:Value) (c':Addr) v,bindArgs (kla_fn "<lambda>" q (lamPar x p1) (lamB2 x p2 p3 p4 p5 p6 p7 p8) (lamSc x) [] pm (.ref c') ctv) ⟨[v],[]⟩=pure [(x,v)])
  (hcl:closureFor (lamSc x) X.env=pure []) (hdef:defaultsOf (lamPar x p1) X.env=([],[]))
  (hn:nm ≠ "__name__":=by decide) (hdb:(nm == ("__debug__":Str))=false:=by decide)
  (hs:starEach [a] X.env=(false,eval a X.env)::starEach [] X.env:=by rfl) (he:backTo pos (starEach [a] X.env)=(false,eval a X.env)::backTo pos (starEach [] X.env):=by rfl)
  (hpl:(backTo pos (starEach [a] X.env)).any (·.1)=false:=by rfl) :
  PE X (.Call (.Name nm p) [a] [⟨some "key",.Lambda (lamPar x p1) (lamB2 x p2 p3 p4 p5 p6 p7 p8) (lamSc x) lp,kp⟩,⟨some "default",.Constant .none jd pd,kp2⟩] pos) (tMinK X.K P q lp.line lp.col ta):=by
 intro pins s σ H Q I h
 refine wpAny_Call_Name_kw (ld_blt I hg hm hv ?_ hn hdb)
 have core:∀(l:Addr) (xs:List V) (ks:List (Int × Int)) (s2:Shared) (H2:Hp) (f c':Addr) (pm ctv:Value),Inv X pins σ H2 s2→ks.length=xs.length →
   s2.heap.get? f=some (kla_obj "<lambda>" q (lamPar x p1) (lamB2 x p2 p3 p4 p5 p6 p7 p8) (lamSc x) [] pm c' ctv)→s2.heap.CodeRec (.ref c') q→SqL X.K H2 l xs →
   (∀(j:Nat) x (k:Int × Int),xs[j]?=some x→ks[j]?=some k→∃ t ys,x=.ref t∧SqT X.K H2 t ys∧ys[0]?=some (.int k.1)∧ys[1]?=some (.int k.2)) →
   ((xs=[]→Q .non H2)∧∀ x,xs[bestK ks]?=some x→Q x H2) →
   wpAny (model X.prog X.w) X.A (call (.builtin "min") [.ref l] [(Str.ofString "key",.ref f),(Str.ofString "default",.none)]) (EP X pins σ Q) X.xe s2:=by
  intro l xs ks s2 H2 f c' pm ctv I2 hlen hf hcd hl hkeys hQ
  obtain⟨its,r,hlst,hz⟩:=I2.list hl
  have hrl:=r.length
  refine mnKD_call (KI:=fun h i u=>∃ a ts,u=.ref a∧IsTup h a ts∧IntsAre ts.toList [(ks.getD i (0,0)).1,(ks.getD i (0,0)).2]) (bt:=fun i j=>kLt (ks.getD i (0,0)) (ks.getD j (0,0))) (vs:=its) (I2.ok.hd hc) hlst.isList (args_minKD _ _ _) (fun i v hv h tk Q' E' kp fin=>?_) (fun h h' i u z tk=>?_) (fun i j u v s' Q' E' z1 z2 hq'=>?_) (fun hp v h' tk hv hk=>?_) (fun hz h' tk hk=>?_)
  ·have hi:i < xs.length:=by rw[hrl]; exact(zC.mp hv).1
   have ex:xs[i]?=some xs[i]:=zB hi
   have ek:ks[i]?=some ks[i]:=zB (by omega)
   obtain⟨u,hu,ru⟩:=r.get ex
   rw[hv] at hu
   cases hu
   obtain⟨t,ys,e1,ht,y0,y1⟩:=hkeys i _ _ ex ek
   rw[e1] at ru
   cases ru
   obtain⟨jts,r2,pl,hz2⟩:=I2.tuple ht
   obtain⟨w0,ew0,t0,rfl⟩:=r2.get y0
   obtain⟨w1,ew1,t1,rfl⟩:=r2.get y1
   have hl2:=(zC.mp ew1).1
   have pl':IsTup h t jts.toArray:=let ⟨o,e,r⟩:=pl; ⟨o,kp _ _ e,r⟩
   refine lam_pair (s:={ s2 with heap:=h,toks:=tk }) (A:=X.A.in1) (kp _ _ hf) (codeRec_keeps hcd fun o e=>kp _ _ e) hr.depth (I2.nolimit.keeps kp) pl' (by rw[zO]; omega) (by simpa using ew0) (by simpa using ew1) hd (hbind pm ctv c') (fun a h' tk' k' tt=>?_)
   refine fin _ h' tk' k' ⟨a,_,rfl,tt,?_⟩
   have eg:ks.getD i (0,0)=ks[i]:=by rw[zA,ek]; rfl
   rw[eg]
   exact .cons _ t0 (.cons _ t1 .nil)
  ·obtain⟨a,ts,e1,⟨o,e2,e3,e4⟩,e5⟩:=z
   exact⟨a,ts,e1,⟨o,tk a o e3 e2,e3,e4⟩,e5⟩
  ·obtain⟨a,ts,rfl,e2,e3⟩:=z1
   obtain⟨b,ts',rfl,e5,e6⟩:=z2
   refine HT.lt_tupInts (A:=X.A.in1) e2 e5 e3 e6 ?_ hq'
   have:=hr.un
   show X.A.units + 1 < _
   omega
  ·have hb:bestK ks=argBest (fun i j=>kLt (ks.getD i (0,0)) (ks.getD j (0,0))) (its.length - 1):=by unfold bestK; rw[hlen,hrl]
   rw[← hb] at hv
   have hi:bestK ks < xs.length:=by rw[hrl]; exact(zC.mp hv).1
   have ex:xs[bestK ks]?=some xs[bestK ks]:=zB hi
   obtain⟨u,hu,ru⟩:=r.get ex
   rw[hv] at hu
   cases hu
   exact⟨_,H2,I2.kept (t':=tk) hk,ru,hQ.2 _ ex⟩
  ·exact⟨.non,H2,I2.kept (t':=tk) hk,rfl,hQ.1 (kI (by omega))⟩
 refine callWith_kw (thn (pa_cons ha pa_nil hs pos pins s σ H (fun vs H1=>match vs with|[v]=>rMinK X.K P q lp.line lp.col Q v H1|_=>False) I h) ?_) he hpl
 rintro us s1 ⟨vs,H1,I1,r,q1⟩
 match vs,r,q1 with
 | [v],r,q1 =>
 obtain⟨l,xs,ks,rfl,hl,hlen,hkeys,hT,hQ⟩:=q1
 cases r with
 | cons r0 r1 =>
 cases r1
 cases r0
 refine kws_cons (kla_eval hdef ?_)
 rw[hq]
 have C1:=C.keeps I1.bk
 have hB1:=hB.keeps I1.bk
 have hge:X.env.globals=mainGlobals:=I1.ok.glob
 have hgs:s1.heap.Ns mainGlobals X.mg:=I1.mod.glob.keeps I1.bk
 rcases hT with hP|⟨c',hP,hc'⟩
 ·have hPo:s1.heap.get? P=some (tabObj #[]):=I1.hok _ _ hP
  have hgP:mainGlobals ≠ P:=fun z=>by
   obtain⟨o,es,ep,e,hd',_⟩:=hgs
   rw[z,hPo] at e; cases e; cases hd'
  refine kla_makeFunction (mg:=X.mg) hcl hge hgs hcode C1 hPo True.intro rfl hgP hB1 fun c' ctv h' tk hx hge' hlt hrec htb=>?_
  refine kws_cons (Constant_none (kws_nil ?_))
  have I2:=(I1.grown (t':=tk) hP hx hge' hrec htb).kept (t':=tk) (h':=h'.push (kla_obj "<lambda>" q (lamPar x p1) (lamB2 x p2 p3 p4 p5 p6 p7 p8) (lamSc x) [] ((X.mg "__name__").getD .none) c' ctv)) fun b o e=>Heap.get?_push_of_some _ e
  have hcn:=I1.hok.fresh hge'
  have oth:∀ {b:Addr} {u:HO},Rd H1 b u→(∀ ps,u ≠ .tbl ps)→Rd (upd (upd H1 P (.tbl (#[]++#[rawInt lp.line,rawInt lp.col,.ref c']))) c' (codeO c' q)) b u:=fun {b u} hb hu=>by
   rcases hb with hb|⟨o,hb⟩
   ·exact .inl (by rw[upd_ne (ne_of_none hb hcn),upd_ne (ne_of hb hP (hu _))]; exact hb)
   ·exact .inr ⟨o,by rw[upd_ne (ne_of_none hb hcn),upd_ne (ne_of hb hP (fun z=>nomatch z))]; exact hb⟩
  have hkp:Keep [P] H1 (upd (upd H1 P (.tbl (#[]++#[rawInt lp.line,rawInt lp.col,.ref c']))) c' (codeO c' q)):=fun b u e hb=>by
   rw[upd_ne (ne_of_none e hcn),upd_ne (fun z=>hb (by rw[z]; exact yT _))]; exact e
  have hT2:LamT P q lp.line lp.col (upd (upd H1 P (.tbl (#[]++#[rawInt lp.line,rawInt lp.col,.ref c']))) c' (codeO c' q)):=.inr ⟨c',by rw[upd_ne (ne_of_none hP hcn),upd_same]; rfl,upd_same⟩
  refine core l xs ks _ _ _ c' _ ctv I2 hlen (Heap.get?_push_size _ rfl) (codeRec_keeps hrec fun o e=>Heap.get?_push_of_some _ e) ?_ (fun j y k ej ek=>?_) (hQ _ hkp hT2)
  ·rcases hl with hl|hl
   ·exact .inl (oth hl fun _ z=>nomatch z)
   ·exact .inr hl
  ·obtain⟨t,ys,e1,ht,y0,y1⟩:=hkeys j y k ej ek
   refine⟨t,ys,e1,?_,y0,y1⟩
   rcases ht with ht|ht
   ·exact .inl (oth ht fun _ z=>nomatch z)
   ·exact .inr ht
 ·have hPo:s1.heap.get? P=some (tabObj #[rawInt lp.line,rawInt lp.col,.ref c']):=I1.hok _ _ hP
  have hrec:s1.heap.CodeRec (.ref c') q:=(I1.hok _ _ hc').1
  refine kla_makeFunctionHit (mg:=X.mg) (cv:=.ref c') hcl hge hgs hcode C1 hPo (by simp [TriplesOk,rawInt]) (by simp [codeAmong,rawInt]) hB1 fun ctv h' tk hk _=>?_
  refine kws_cons (Constant_none (kws_nil ?_))
  have kp:Kept s1.heap (h'.push (kla_obj "<lambda>" q (lamPar x p1) (lamB2 x p2 p3 p4 p5 p6 p7 p8) (lamSc x) [] ((X.mg "__name__").getD .none) c' ctv)):=fun b o e=>Heap.get?_push_of_some _ (hk b o e)
  exact core l xs ks _ _ _ c' _ ctv (I1.kept (t':=tk) kp) hlen (Heap.get?_push_size _ rfl) (codeRec_keeps hrec fun o e=>kp _ _ e) hl hkeys (hQ H1 (Keep.same (Same.refl _)) (.inr ⟨c',hP,hc'⟩))
end L2
namespace L2
open PySem PySem.Spec PyProof.Rows
theorem rcGt_int (A:Around) (s:Shared) (a:Int) (t:Tok) (c:Int) (u:Tok) (prog:Program) (w:World) (E:Value→Shared→Prop) (Q:Value→Shared→Prop) (h:Q (.bool (decide (c < a))) s) :
  wpAny (model prog w) A (richCompare .Gt (.int a t) (.int c u)) Q E s :=
 (PyProof.Rows.gt_int h:wpAny (model prog w) A (compareOp .Gt (.int a t) (.int c u)) Q E s)
section
open PySem.SeqAt
open PySem.AutoSeq1 (wpAny_loadPart')
open PySem.MeetsSeq PySem.MeetsSeq2 PySem.MeetsSeq3
theorem tuple_gt_ints (l b:Addr) (items items2:Array Value) (n n2:Nat) (dd dd2:Option Addr) (sl sl2:Array (Option Value)) (ns ms:List Int) (hi:IntsAre items.toList ns) (hj:IntsAre items2.toList ms) :
  Meets (Builtin.«tuple.__gt__» ⟨[.ref l,.ref b],[]⟩)
   (fun _ R s=>s.heap.get? l=some { cls:=.type "tuple",dict:=dd,data:=.seq items n,slots:=sl }∧s.heap.get? b=some { cls:=.type "tuple",dict:=dd2,data:=.seq items2 n2,slots:=sl2 } ∧
    R (.ok (.ret (.bool (HT.lexLt ms ns)))) s) :=
 .of_wp fun prog w A R s h=>by
  obtain⟨hp,g,d,tk,os⟩:=s; obtain⟨hl,hb,h⟩:=h
  have f2:=AutoSeq1.sub_tuple_tuple
  have z1:items.size=ns.length:=by rw[← hi.length]; simp
  have z2:items2.size=ms.length:=by rw[← hj.length]; simp
  wp_walk using wpAny_loadPart' hl,wpAny_loadPart' hb,wpAny_forIn_list _ (fun rest b s'=>b.1=none∧s'=⟨hp,g,d,tk,os⟩∧∃(vs ws:List Value) (ns' ms':List Int),rest=vs.zip ws ∧
   IntsAre vs ns'∧IntsAre ws ms'∧ns'.length + items2.size=ms'.length + items.size∧R (.ok (.ret (.bool (HT.lexLt ms' ns')))) ⟨hp,g,d,tk,os⟩) _
  case turn =>
   rintro⟨y,x⟩ rest b s' ⟨hb',rfl,vs,ws,ns',ms',hz,hvi,hwi,hlen,hR⟩
   cases hvi with
   | nil=>rw[List.zip_nil_left] at hz; cases hz
   | cons a t hvi' =>
    cases hwi with
    | nil=>rw[List.zip_nil_right] at hz; cases hz
    | cons c u hwi' =>
     rw[jF] at hz
     injection hz with hyx hrest
     injection hyx with hy hx
     subst hy hx
     rw[HT.lexLt_cons] at hR
     simp only [zX] at hlen
     obtain⟨e,he,hiff⟩:=HT.eqAt_int A.in1 ⟨hp,g,d,tk,os⟩ a t c u
     refine wpAny_bind (he prog w _ _ ?_)
     cases e with
     | true =>
      rw[if_pos (hiff.mp rfl).symm] at hR
      wp_walk
      exact⟨rfl,rfl,_,_,_,_,hrest,hvi',hwi',by omega,hR⟩
     | false =>
      rw[if_neg (fun q=>absurd (hiff.mpr q.symm) zZ)] at hR
      have hri:=rcGt_int A.in1 ⟨hp,g,d,tk,os⟩ a t c u prog w
      wp_walk using hri
      exact⟨_,rfl,by simpa using hR⟩
  case fin =>
   rintro⟨b1,b2⟩ s' ⟨hb',rfl,vs,ws,ns',ms',hz,hvi,hwi,hlen,hR⟩
   simp only at hb'
   subst hb'
   have hv:HT.lexLt ms' ns'=decide (items2.size < items.size):=by
    cases hvi with
    | nil =>
     cases hwi with
     | nil =>
      simp only [qR] at hlen
      rw[HT.lexLt_nil_nil]
      exact(decide_eq_false (by omega)).symm
     | cons c u hw =>
      simp only [qR,zX] at hlen
      rw[HT.lexLt_cons_nil]
      exact(decide_eq_false (by omega)).symm
    | cons a t hv =>
     cases hwi with
     | nil =>
      simp only [qR,zX] at hlen
      rw[HT.lexLt_nil_cons]
      exact(decide_eq_true (by omega)).symm
     | cons c u hw =>
      rw[jF] at hz
      cases hz
   rw[hv] at hR
   wp_walk
   exact⟨_,rfl,by simpa [Builtin.Tuple.tupleCompareSizes] using hR⟩
  case h =>
   exact⟨rfl,rfl,items.toList,items2.toList,ns,ms,rfl,hi,hj,by omega,h⟩
end
section
variable {prog:Program} {w:World} {A:Around} {E:Value→Shared→Prop} {s:Shared}
theorem gt_tupInts {l b:Addr} {items items2:Array Value} {ns ms:List Int} {Q:Value→Shared→Prop} (hl:IsTup s.heap l items) (hb:IsTup s.heap b items2) (hi:IntsAre items.toList ns) (hj:IntsAre items2.toList ms)
  (hu:A.units < cLine) (h:Q (.bool (HT.lexLt ms ns)) s):wpAny (model prog w) A (compareOp .Gt (.ref l) (.ref b)) Q E s:=by
 obtain⟨⟨cls,dd,data,sl⟩,ho,hc,n,hd⟩:=id hl
 obtain⟨⟨cls2,dd2,data2,sl2⟩,ho2,hc2,n2,hd2⟩:=id hb
 simp only at hc hd hc2 hd2
 subst hc hd hc2 hd2
 exact richCompare_meets_room (op:=.Gt) ⟨_,ho,rfl⟩ ⟨_,ho2,rfl⟩ PySem.F.slot_tuple_gt PySem.F.entry_tuple_gt (PySem.F.args_tuple_gt_2 _ _) (tuple_gt_ints l b items items2 n n2 dd dd2 sl sl2 ns ms hi hj)
  ⟨ho,ho2,show Value.bool (HT.lexLt ms ns) ≠ Value.notImplemented∧Q (.bool (HT.lexLt ms ns)) s from⟨(fun x=>nomatch x),h⟩⟩ hu
end
section
variable {X:Cx}
inductive rGtT (K:PySem.W.Frag) (x:V) (y:V) (H:Hp) (Q:VK):Prop where
 | mk (a b ns ms:_) (h_0:x=.ref a) (h_1:y=.ref b) (h_2:SqT K H a (ns.map V.int)) (h_3:SqT K H b (ms.map V.int)) (h_4:Q (.bl (HT.lexLt ms ns)) H):rGtT K x y H Q
theorem op_gtT (hu:X.A.units < cLine):OpR X (compareOp .Gt) (rGtT X.K):=by
 intro pins s σ H x y v u Q I rx ry h
 obtain⟨a,b,ns,ms,rfl,rfl,ha,hb,q⟩:=h
 cases rx
 cases ry
 obtain⟨its,r1,p1,_⟩:=I.tuple ha
 obtain⟨its2,r2,p2,_⟩:=I.tuple hb
 have i1:IntsAre its.toArray.toList ns:=intsAre_of r1
 have i2:IntsAre its2.toArray.toList ms:=intsAre_of r2
 exact gt_tupInts p1 p2 i1 i2 hu ⟨.bl (HT.lexLt ms ns),H,I,rfl,q⟩
end
end L2
namespace L2
theorem len1 {α:Type} {us:List α} (h:us.length=1):∃ a,us=[a]:=List.length_eq_one_iff.mp h
theorem lenS {α:Type} {n:Nat} {us:List α} (h:us.length=n + 1):∃ a r,us=a::r∧r.length=n:=by
 cases us with
 | nil=>cases h
 | cons a r=>exact⟨a,r,rfl,Nat.succ.inj h⟩
theorem len2 {α:Type} {us:List α} (h:us.length=2):∃ a b,us=[a,b]:=by
 obtain⟨a,r,rfl,e⟩:=lenS h; obtain⟨b,rfl⟩:=len1 e; exact⟨a,b,rfl⟩
theorem len3 {α:Type} {us:List α} (h:us.length=3):∃ a b c,us=[a,b,c]:=by
 obtain⟨a,r,rfl,e⟩:=lenS h; obtain⟨b,c,rfl⟩:=len2 e; exact⟨a,b,c,rfl⟩
theorem len4 {α:Type} {us:List α} (h:us.length=4):∃ a b c d,us=[a,b,c,d]:=by
 obtain⟨a,r,rfl,e⟩:=lenS h; obtain⟨b,c,d,rfl⟩:=len3 e; exact⟨a,b,c,d,rfl⟩
end L2
namespace L2
open PySem PySem.Spec PyProof.Rows
open PySem.AutoSeq1 (wpAny_loadPart')
open PySem.MeetsSeq
section
theorem rem_loop (l:Addr) (items:Array Value) (n:Nat) (x:Value) (e:Nat→Bool) (j:Nat) (hj:j < items.size) (hit:e j=true) (hs1:items.size≤sizeLine) (k:Nat) :
  ∀ i:Nat,j - i=k→i≤j→(∀ m,i≤m→m < j→e m=false)→Meets (Builtin.«list.remove.loop» ⟨[.ref l,x,rawInt i],[]⟩)
   (fun A R s=>(∀ m (hm:m < items.size),SeqAt.EqAt A.in1 s items[m] x (e m))∧s.heap.get? l=some { cls:=.type "list",dict:=none,data:=.seq items n,slots:=#[] }∧R (.ok (.ret .none)) { s with heap:=s.heap.update l (Obj.mapSeq fun xs=>xs.eraseIdxIfInBounds j) }):=by
 induction k with
 | zero =>
  intro i hk hij hno prog w A R s h
  obtain⟨hp,g,d,tk,os⟩:=s; obtain⟨he,hl,h⟩:=h
  have hij':i=j:=Nat.le_antisymm hij (Nat.sub_eq_zero_iff_le.mp hk)
  subst hij'
  wp_walk using wpAny_loadPart' hl
  have hi:items[((i:Nat):Int).toNat]?=some items[i]:=by simp [hj]
  rw[hi]
  refine wpAny_bind (he i hj prog w _ _ ?_)
  rw[hit]
  have hz':(items.eraseIdxIfInBounds i).size≤sizeLine + 1:=z9 (size_erased items _) (j4 hs1)
  wp_walk using (wpAny_updateSeq hl rfl (hz:=hs1) (_hz':=hz')),wpAny_loadPart' hl
  simpa using h
 | succ k ih =>
  intro i hk hij hno prog w A R s h
  obtain⟨hp,g,d,tk,os⟩:=s; obtain⟨he,hl,h⟩:=h
  have hlt:i < items.size:=y6 hij hj
  have hlj:i < j:=by omega
  wp_walk using wpAny_loadPart' hl
  have hi:items[((i:Nat):Int).toNat]?=some items[i]:=by simp [hlt]
  have hc:((i:Int) + 1)=((i + 1:Nat):Int):=by push_cast; rfl
  rw[hi]
  refine wpAny_bind (he i hlt prog w _ _ ?_)
  rw[hno i (zI _) hlj]
  wp_walk
  rw[hc]
  exact⟨plainId_quiet plain_remove_loop _,codeAny_builtin entry_remove_loop (by
   rw[Around.under_plainId plain_remove_loop _]
   exact ih (i + 1) (by omega) hlj (fun m h1 h2=>hno m (by omega) h2) prog w A R _ ⟨he,hl,h⟩)⟩
theorem rem_meets (l:Addr) (items:Array Value) (n:Nat) (x:Value) (e:Nat→Bool) (j:Nat) (hj:j < items.size) (hit:e j=true) (hno:∀ m,m < j→e m=false) (hs1:items.size≤sizeLine) :
  Meets (Builtin.«list.remove» ⟨[.ref l,x],[]⟩)
   (fun A R s=>(∀ m (hm:m < items.size),SeqAt.EqAt A.in1 s items[m] x (e m))∧s.heap.get? l=some { cls:=.type "list",dict:=none,data:=.seq items n,slots:=#[] }∧R (.ok (.ret .none)) { s with heap:=s.heap.update l (Obj.mapSeq fun xs=>xs.eraseIdxIfInBounds j) }):=by
 intro prog w A R s h
 obtain⟨hp,g,d,tk,os⟩:=s; obtain⟨he,hl,h⟩:=h
 wp_walk using wpAny_loadPart' hl
 exact⟨plainId_quiet plain_remove_loop _,codeAny_builtin entry_remove_loop (by
  rw[Around.under_plainId plain_remove_loop _]
  exact rem_loop l items n x e j hj hit hs1 _ 0 rfl (z5 _) (fun m _ h2=>hno m h2) prog w A R _ ⟨he,hl,h⟩)⟩
end
section
variable {X:Cx}
inductive rRemove (K:PySem.W.Frag) (x:V) (vs:List V) (H:Hp) (Q:VK):Prop where
 | mk (l:Addr) (xs:List V) (y:V) (ds:List PyData) (d:PyData) (n j:Nat) (h_0:x=.ref l) (h_1:vs=[y]) (h_2:H l=some (.lst xs)) (h_3:Paired (fun x d=>Dt K H n x d) xs ds) (h_4:Dt K H n y d) (h_5:n≤60) (h_6:j < xs.length) (h_7:PyData.eqv (ds.getD j .none) d=true) (h_8:(∀ m,m < j→PyData.eqv (ds.getD m .none) d=false)) (h_9:Q .non (upd H l (.lst (xs.eraseIdx j)))):rRemove K x vs H Q
theorem mt_remove (hu:X.A.units + 64 < cLine):MtM X "list.remove" (rRemove X.K):=by
 intro pins s σ H x vs v us Q I rx rv h
 obtain⟨l,xs,y,ds,d,n,j,rfl,rfl,hH,hp,hy,hn,hj,hit,hno,q⟩:=h
 cases rx
 obtain⟨u,rfl,ru⟩:=rv.one
 obtain⟨z,its,c,r,hl,e⟩:=I.lstM hH
 obtain⟨⟨as,ra⟩,ca,da⟩:=hy.reads I ru
 refine call_meets F.slot_list_remove ⟨_,e,rfl⟩ F.entry_list_remove (F.args_list_remove_2 _ _)
  (rem_meets l its.toArray c u (fun m=>PyData.eqv (ds.getD m .none) d) j (by rw[zO,← hl]; exact hj) hit hno (by rw[zO]; omega)) ⟨fun m hm=>?_,e,?_⟩
 ·rw[zO] at hm
  have ex:xs[m]?=some (xs[m]'(by omega)):=zB _
  obtain⟨b,hb,hd⟩:=hp.getL ex
  obtain⟨w,hw,rw'⟩:=r.get ex
  obtain⟨⟨bs,rb⟩,cb,db⟩:=hd.reads I rw'
  have e1:its.toArray[m]=w:=by
   have:=zB hm
   rw[hw] at this
   simpa using (Option.some.inj this).symm
  have e2:ds.getD m .none=b:=by rw[zA,hb]; rfl
  rw[e1,e2]
  refine SeqAt.eqAt_reads b d _ s w u bs as rb ra cb ca ?_
  show X.A.units + 1 + min b.depth d.depth < cLine
  omega
 ·refine⟨.non,_,I.lset (its':=its.eraseIdx j) hH e ?_ (r.eraseIdx j) ?_,rfl,q⟩
  ·show its.toArray.eraseIdxIfInBounds j=(its.eraseIdx j).toArray
   rw[j8]
  ·have:=len_erase xs j
   omega
end
end L2
namespace L2
open PySem PySem.Spec PyProof.Rows PySem.W PySem.Calls
def PairFn (P:Program) (w:World) (K:PySem.W.Frag) (A:Around) (f:Addr):Prop :=
 ∀(s:Shared) (t t2:Addr) (its zts:Array Value) (k1 k2:Int) (u1 u2:Tok) (Q E:Value→Shared→Prop),K.In s.heap→s.heap.NoLimit→IsTup s.heap t its→2≤its.size→its[1]?=some (.ref t2)→IsTup s.heap t2 zts→2≤zts.size→zts[0]?=some (.int k1 u1)→zts[1]?=some (.int k2 u2) →
  (∀ a h' tk',Kept s.heap h'→IsTup h' a #[.int k1 u1,.int k2 u2]→Q (.ref a) { s with heap:=h',toks:=tk' })→wpAny (model P w) A (call (.ref f) [.ref t]) Q E s
abbrev rkS (x:Str) (i:Int) (p1 p2 p3 p4 p5:Pos):Expr:=.Subscript (.Subscript (.Name x p1) (.Constant (.int 1) 0 p2) p3) (.Constant (.int i) 0 p4) p5
section
variable {P:Program} {w:World} {K:PySem.W.Frag} {A:Around}
theorem pair_fn {f:Addr} {x qual:Str} {params:Arguments} {scope:Scope} {dV kV doc pm cdv ct oc:Value} {an od:Option Addr} {osl:Array (Option Value)} {p1 p2 p3 p4 p5 q1 q2 q3 q4 q5 pt pr:Pos}
  (lk:K.lookup f=some ⟨oc,od,.func (PySem.W.fnOf qual qual params [.Return (some (.Tuple [rkS x 0 p1 p2 p3 p4 p5,rkS x 1 q1 q2 q3 q4 q5] 0 pt)) pr] scope dV kV doc pm an cdv ct),osl⟩)
  (hcd:PySem.W.codeIn K cdv qual=true) (hco:scope.isCoroutine=false) (hgen:scope.isGenerator=false) (hsn:scope.names.lookup x=some .local) (hkd:scope.kind=.function) (hnc:∀ y ∈ scope.names,y.2 ≠ NameKind.cell)
  (hroom:A.depth < recursionLimit) (hd:(x == ("__debug__":Str))=false)
  (hb:∀(s:Shared) (v:Value),BindsTo s (PySem.W.fnOf qual qual params [.Return (some (.Tuple [rkS x 0 p1 p2 p3 p4 p5,rkS x 1 q1 q2 q3 q4 q5] 0 pt)) pr] scope dV kV doc pm an cdv ct) ⟨[v],[]⟩ [(x,v)]):PairFn P w K A f:=by
 intro s t t2 its zts k1 k2 u1 u2 Q E KX lim ht hts h1 ht2 hzs z0 z1 hQ
 refine wpAny_call (codeAny_call_function hroom (KX _ _ lk) rfl hco hgen rfl (PySem.W.codeRec_of KX hcd) (hb s _ _ _ _ _ ?_))
 refine wpAny_newFunctionEnv hnc (fun y hy=>?_) (fun h₁ hns hsb=>⟨lim.fresh _ hsb,codeAny_func ?_⟩) hkd
 ·rw[zG.mp hy]; exact hsn
 ·have hk₁:Kept s.heap h₁:=fun b o e=>hsb.extBut b o (zY (Heap.lt_size e)) (Heap.get?_push_of_some _ e)
  have ht₁:IsTup h₁ t its:=let ⟨o,e,r⟩:=ht; ⟨o,hk₁ _ _ e,r⟩
  have ht₂:IsTup h₁ t2 zts:=let ⟨o,e,r⟩:=ht2; ⟨o,hk₁ _ _ e,r⟩
  have j1:seqIndex? 1 its.size=some 1:=by generalize its.size=n at hts; unfold seqIndex?; simp; omega
  have i0:seqIndex? 0 zts.size=some 0:=by generalize zts.size=n at hzs; unfold seqIndex?; simp; omega
  have i1:seqIndex? 1 zts.size=some 1:=by generalize zts.size=n at hzs; unfold seqIndex?; simp; omega
  refine wpAny_mono (E:=fun _ _=>False) (Q:=fun f s'=>∃ a h' tk',f=.ret (.ref a)∧s'={ s with heap:=h',toks:=tk' }∧Kept s.heap h'∧IsTup h' a #[.int k1 u1,.int k2 u2]) ?_ (fun f s' ⟨a,h',tk',e1,e2,kk,tt⟩=>by subst e1 e2; exact hQ a h' tk' kk tt) fun _ _ h'=>h'.elim
  refine wpAny_execs_cons (wpAny_Return_some (wpAny_Tuple_spliced (Calls.spliced_cons ?_)))
  refine Subscript_ (Subscript_ (wpAny_Name (wpAny_loadName_local hkd hsn hns (v:=.ref t) ?_ (wpAny_Constant_int ?_)) hd))
  ·show List.lookup x [(x,Value.ref t)]=_
   simp [List.lookup]
  refine subscriptTail_builtinR (x:=.ref t2) (s:={ s with heap:=h₁,toks:=s.toks + [(x,Value.ref t)].length + 1 }) ht₁.typeIs slot_tuple_getitem.lookup (getItem_tuple (j:=1) ht₁ (by decide) (by decide) j1 h1 ⟨rfl,?_⟩)
  refine wpAny_Constant_int (subscriptTail_builtinR (x:=.int k1 u1) (s:={ s with heap:=h₁,toks:=s.toks + [(x,Value.ref t)].length + 1 + 1 }) ht₂.typeIs slot_tuple_getitem.lookup (getItem_tuple (j:=0) ht₂ (by decide) (by decide) i0 z0 ⟨rfl,?_⟩))
  refine Calls.spliced_cons ?_
  refine Subscript_ (Subscript_ (wpAny_Name (wpAny_loadName_local hkd hsn hns (v:=.ref t) ?_ (wpAny_Constant_int ?_)) hd))
  ·show List.lookup x [(x,Value.ref t)]=_
   simp [List.lookup]
  refine subscriptTail_builtinR (x:=.ref t2) (s:={ s with heap:=h₁,toks:=s.toks + [(x,Value.ref t)].length + 1 + 1 + 1 }) ht₁.typeIs slot_tuple_getitem.lookup (getItem_tuple (j:=1) ht₁ (by decide) (by decide) j1 h1 ⟨rfl,?_⟩)
  refine wpAny_Constant_int (subscriptTail_builtinR (x:=.int k2 u2) (s:={ s with heap:=h₁,toks:=s.toks + [(x,Value.ref t)].length + 1 + 1 + 1 + 1 }) ht₂.typeIs slot_tuple_getitem.lookup (getItem_tuple (j:=1) ht₂ (by decide) (by decide) i1 z1 ⟨rfl,?_⟩))
  exact Calls.spliced_nil ⟨(by show 2≤sizeLine; decide),_,_,_,rfl,rfl,fun b o e=>Heap.get?_push_of_some _ (hk₁ b o e),IsTup.new _ _⟩
inductive rMinF (K:PySem.W.Frag) (Q:VK) (v:V) (H1:Hp):Prop where
 | mk (l xs ks:_) (h_0:v=.ref l) (h_1:SqL K H1 l xs) (h_2:ks.length=xs.length) (h_3:xs ≠ []) (h_4:(∀(j:Nat) x (k:Int × Int),xs[j]?=some x→ks[j]?=some k→∃ t ys t2 zs,x=.ref t∧SqT K H1 t ys∧ys[1]?=some (.ref t2)∧SqT K H1 t2 zs∧zs[0]?=some (.int k.1)∧zs[1]?=some (.int k.2))) (h_5:∀ x,xs[bestK ks]?=some x→Q x H1):rMinF K Q v H1
def tMinF (K:PySem.W.Frag) (ta:TE):TE:=fun σ H Q=>ta σ H (rMinF K Q)
theorem pe_minKF {X:Cx} {k:Nat} {f:Addr} {nm g:Str} {a:Expr} {ta:TE} {p kp pk pos:Pos} (hc:X.calm=true) (hr:Room k X.A) (hg:Gl X nm) (hm:X.mg nm=none) (hv:bootBuiltins nm=some (.builtin "min")) (hg2:Gl X g) (hm2:X.mg g=some (.ref f))
  (hf:PairFn X.prog X.w X.K X.A.in1 f) (ha:PE X a ta)
  (hn:nm ≠ "__name__":=by decide) (hdb:(nm == ("__debug__":Str))=false:=by decide) (hdg:(g == ("__debug__":Str))=false:=by decide)
  (hs:starEach [a] X.env=(false,eval a X.env)::starEach [] X.env:=by rfl) (he:backTo pos (starEach [a] X.env)=(false,eval a X.env)::backTo pos (starEach [] X.env):=by rfl)
  (hpl:(backTo pos (starEach [a] X.env)).any (·.1)=false:=by rfl) :
  PE X (.Call (.Name nm p) [a] [⟨some "key",.Name g pk,kp⟩] pos) (tMinF X.K ta):=by
 intro pins s σ H Q I h
 refine wpAny_Call_Name_kw (ld_blt I hg hm hv ?_ hn hdb)
 refine callWith_kw (thn (pa_cons ha pa_nil hs pos pins s σ H (fun vs H1=>match vs with|[v]=>rMinF X.K Q v H1|_=>False) I h) ?_) he hpl
 rintro us s1 ⟨vs,H1,I1,r,q1⟩
 match vs,r,q1 with
 | [v],r,q1 =>
 obtain⟨l,xs,ks,rfl,hl,hlen,hne,hkeys,hQ⟩:=q1
 cases r with
 | cons r0 r1 =>
 cases r1
 cases r0
 refine kws_cons (ld_glob I1 hg2 hm2 (kws_nil ?_) hdg)
 obtain⟨its,rv,hlst,hz⟩:=I1.list hl
 have hrl:=rv.length
 have hpos:0 < its.length:=by rw[← hrl]; exact j0.mpr hne
 refine mnKy_call (KI:=fun h i u=>∃ a ts,u=.ref a∧IsTup h a ts∧IntsAre ts.toList [(ks.getD i (0,0)).1,(ks.getD i (0,0)).2]) (bt:=fun i j=>kLt (ks.getD i (0,0)) (ks.getD j (0,0))) (vs:=its) (I1.ok.hd hc) hlst.isList (kmk_min_key _ _) (fun i v hv h tk Q' E' kp fin=>?_) (fun h h' i u z tk=>?_) (fun i j u v s' Q' E' z1 z2 hq'=>?_) (fun hp v h' tk hv hk=>?_) hpos
 ·have hi:i < xs.length:=by rw[hrl]; exact(zC.mp hv).1
  have ex:xs[i]?=some xs[i]:=zB hi
  have ek:ks[i]?=some ks[i]:=zB (by omega)
  obtain⟨u,hu,ru⟩:=rv.get ex
  rw[hv] at hu
  cases hu
  obtain⟨t,ys,t2,zs,e1,ht,y1,ht2,z0,z1⟩:=hkeys i _ _ ex ek
  rw[e1] at ru
  cases ru
  obtain⟨jts,r2,pl,_⟩:=I1.tuple ht
  obtain⟨zts,r3,pl3,_⟩:=I1.tuple ht2
  obtain⟨w1,ew1,rw1⟩:=r2.get y1
  cases rw1
  obtain⟨w2,ew2,t0,rfl⟩:=r3.get z0
  obtain⟨w3,ew3,t1,rfl⟩:=r3.get z1
  have hl2:=(zC.mp ew1).1
  have hl3:=(zC.mp ew3).1
  have pl':IsTup h t jts.toArray:=let ⟨o,e,r⟩:=pl; ⟨o,kp _ _ e,r⟩
  have pl3':IsTup h t2 zts.toArray:=let ⟨o,e,r⟩:=pl3; ⟨o,kp _ _ e,r⟩
  refine hf { s1 with heap:=h,toks:=tk } t t2 _ _ _ _ _ _ _ _ (I1.kIn.keeps kp) (I1.nolimit.keeps kp) pl' (by rw[zO]; omega) (by simpa using ew1) pl3' (by rw[zO]; omega) (by simpa using ew2) (by simpa using ew3) (fun a h' tk' k' tt=>?_)
  refine fin _ h' tk' k' ⟨a,_,rfl,tt,?_⟩
  have eg:ks.getD i (0,0)=ks[i]:=by rw[zA,ek]; rfl
  rw[eg]
  exact .cons _ t0 (.cons _ t1 .nil)
 ·obtain⟨a,ts,e1,⟨o,e2,e3,e4⟩,e5⟩:=z
  exact⟨a,ts,e1,⟨o,tk a o e3 e2,e3,e4⟩,e5⟩
 ·obtain⟨a,ts,rfl,e2,e3⟩:=z1
  obtain⟨b,ts',rfl,e5,e6⟩:=z2
  refine HT.lt_tupInts (A:=X.A.in1) e2 e5 e3 e6 ?_ hq'
  have:=hr.un
  show X.A.units + 1 < _
  omega
 ·have hb:bestK ks=argBest (fun i j=>kLt (ks.getD i (0,0)) (ks.getD j (0,0))) (its.length - 1):=by unfold bestK; rw[hlen,hrl]
  rw[← hb] at hv
  have hi:bestK ks < xs.length:=by rw[hrl]; exact(zC.mp hv).1
  have ex:xs[bestK ks]?=some xs[bestK ks]:=zB hi
  obtain⟨u,hu,ru⟩:=rv.get ex
  rw[hv] at hu
  cases hu
  exact⟨_,H1,I1.kept (t':=tk) hk,ru,hQ _ ex⟩
end
end L2
namespace L2
open PySem PyProof.Rows
section
variable {X:Cx}
end
end L2
namespace Oc
end Oc
namespace Oc
open PySem L2
theorem jxL {K:PySem.W.Frag} {H:Hp} {p:Addr} {xs:List V} {j:Nat} {v:V} {Q:VK} (h:H p=some (.lst xs)) (hv:xs[j]?=some v) (q:Q v H):rIxL K (.ref p) (.int (j:Int)) H Q:=⟨p,xs,_,v,rfl,rfl,SqL.of h,atI_nat hv,q⟩
end Oc
namespace Oc
open PySem L2
end Oc
namespace L2
open PySem
end L2
namespace L2
open PySem
end L2
namespace Oc
open PySem L2
def top (i:Nat):Stmt:=PySem.Challenge.pw_ownclocks_k33_whole_any_weaving.main.body.getD i (.Pass ⟨0,0,0,0⟩)
theorem p64:(2:Int) ^ 64=18446744073709551616:=by decide
theorem p62:(2:Int) ^ 62=4611686018427387904:=by decide
end Oc
namespace Oc
open PySem L2
structure Txt (K:PySem.W.Frag) (mg:Str→Option Value):Prop where
 n_tuple:mg "tuple"=none
 n_len:mg "len"=none
 n_range:mg "range"=none
 n_list:mg "list"=none
 n_isinstance:mg "isinstance"=none
 n_bool:mg "bool"=none
 n_int:mg "int"=none
 n_any:mg "any"=none
 n_min:mg "min"=none
 n_enumerate:mg "enumerate"=none
 n_sorted:mg "sorted"=none
 n_sum:mg "sum"=none
 n_all:mg "all"=none
end Oc
namespace Oc
open PySem L2
abbrev Tri:=Int × Int × Int
def triV (t:Tri):List V:=[.int t.1,.int t.2.1,.int t.2.2]
def triD (t:Tri):PyData:=.tuple [.int t.1,.int t.2.1,.int t.2.2]
abbrev Sta:=Str × Option Int
def staV:Sta→List V
 | (k,none)=>[.str k]
 | (k,some n)=>[.str k,.int n]
def staD:Sta→PyData
 | (k,none)=>.tuple [.str k]
 | (k,some n)=>.tuple [.str k,.int n]
set_option genInjectivity false in
set_option genSizeOf false in
structure Wk where
 st:List Sta
 be:List Tri
 fe:List Tri
def StaOk (s:Sta):Prop:=(∃ n,s=(("relay":Str),some n)∧-1000000000≤n∧n≤1000000000)∨s=(("sorter":Str),none)∨(∃ n,s=(("thinner":Str),some n)∧2≤n∧n≤9)∨s=(("joiner":Str),none)∨s=(("sink":Str),none)
structure Wk.Ok (W:Wk):Prop where
 s1:1≤W.st.length
 s8:W.st.length≤8
 b12:W.be.length≤12
 f60:W.fe.length≤60
 sta:∀ s ∈ W.st,StaOk s
 bel:∀ t ∈ W.be,0≤t.1∧t.1 < W.st.length∧0≤t.2.1∧t.2.1 < W.st.length∧1≤t.2.2∧t.2.2≤9
 fee:∀ t ∈ W.fe,0≤t.1∧t.1 < W.st.length∧0≤t.2.1∧t.2.1≤50∧-1000000000≤t.2.2∧t.2.2≤1000000000
inductive IsTri (H:Hp) (x:V) (t:Tri):Prop where
 | mk (p:_) (h_0:x=.ref p) (h_1:H p=some (.tup (triV t))):IsTri H x t
inductive IsSta (H:Hp) (x:V) (s:Sta):Prop where
 | mk (p:_) (h_0:x=.ref p) (h_1:H p=some (.tup (staV s))):IsSta H x s
theorem IsTri.same {H H':Hp} (s:Same H H') {x:V} {t:Tri} (h:IsTri H x t):IsTri H' x t:=let ⟨p,e,q⟩:=h; ⟨p,e,s _ _ q⟩
theorem IsSta.same {H H':Hp} (s:Same H H') {x:V} {t:Sta} (h:IsSta H x t):IsSta H' x t:=let ⟨p,e,q⟩:=h; ⟨p,e,s _ _ q⟩
structure LsAt (H:Hp) (s b f:Addr) (W:Wk) (xs ys zs:List V):Prop where
 hs:H s=some (.lst xs)
 hb:H b=some (.lst ys)
 hf:H f=some (.lst zs)
 ps:Paired (IsSta H) xs W.st
 pb:Paired (IsTri H) ys W.be
 pf:Paired (IsTri H) zs W.fe
theorem pairedMono {α β:Type} {F G:α→β→Prop} (h:∀ a b,F a b→G a b) {l:List α} {m:List β} (p:Paired F l m):Paired G l m:=L2.Paired.mapP p h
theorem LsAt.same {H H':Hp} {s b f:Addr} {W:Wk} {xs ys zs:List V} (e:Same H H') (h:LsAt H s b f W xs ys zs):LsAt H' s b f W xs ys zs :=
 ⟨e _ _ h.hs,e _ _ h.hb,e _ _ h.hf,pairedMono (fun _ _=>IsSta.same e) h.ps,pairedMono (fun _ _=>IsTri.same e) h.pb,pairedMono (fun _ _=>IsTri.same e) h.pf⟩
structure WkAt (H:Hp) (w:Addr) (W:Wk):Prop where
 ex:∃ s b f xs ys zs,H w=some (.tup [.ref s,.ref b,.ref f])∧LsAt H s b f W xs ys zs
theorem WkAt.same {H H':Hp} {w:Addr} {W:Wk} (e:Same H H') (h:WkAt H w W):WkAt H' w W:=by
 obtain⟨s,b,f,xs,ys,zs,h1,h2⟩:=h.ex
 exact⟨s,b,f,xs,ys,zs,e _ _ h1,h2.same e⟩
theorem cells_dedup {H:Hp}:∀ {L:List Cell},(∀ c ∈ L,H c.1=some c.2)→∃ L':List Cell,Hs H L'∧∀ c ∈ L,c ∈ L'
 | [],_=>⟨[],⟨List.nodup_nil,fun _ h=>absurd h zK⟩,fun _ h=>absurd h zK⟩
 | c::L,h=>by
  obtain⟨L',h1,h2⟩:=cells_dedup (L:=L) fun d hd=>h d (zJ _ hd)
  have hc:=h c zH
  by_cases hm:c.1 ∈ L'.map Prod.fst
  ·obtain⟨d,hd,e⟩:=yC.mp hm
   have ed:=h1.2 d hd
   rw[e,hc] at ed
   have:d=c:=Prod.ext e (Option.some.inj ed).symm
   refine⟨L',h1,fun x hx=>?_⟩
   rcases zS.mp hx with r|r
   ·rw[r,← this]; exact hd
   ·exact h2 x r
  ·refine⟨c::L',⟨by rw[yG,qA]; exact⟨hm,h1.1⟩,fun x hx=>?_⟩,fun x hx=>?_⟩
   ·rcases zS.mp hx with r|r
    ·rw[r]; exact hc
    ·exact h1.2 x r
   ·rcases zS.mp hx with r|r
    ·rw[r]; exact zH
    ·exact zJ _ (h2 x r)
theorem paired_cells {α:Type} {H:Hp} {F:Hp→V→α→Prop} (hF:∀ x a,F H x a→∃ c:Cell,H c.1=some c.2∧∀ H':Hp,H' c.1=some c.2→F H' x a):∀ {xs:List V} {as:List α},Paired (F H) xs as→∃ L:List Cell,(∀ c ∈ L,H c.1=some c.2)∧∀ H':Hp,(∀ c ∈ L,H' c.1=some c.2)→Paired (F H') xs as
 | _,_,.nil=>⟨[],fun _ h=>absurd h zK,fun _ _=>.nil⟩
 | _,_,.cons p r=>by
  obtain⟨c,h1,h2⟩:=hF _ _ p
  obtain⟨L,h3,h4⟩:=paired_cells hF r
  refine⟨c::L,fun x hx=>?_,fun H' h=>.cons (h2 H' (h c zH)) (h4 H' fun x hx=>h x (zJ _ hx))⟩
  rcases zS.mp hx with e|e
  ·rw[e]; exact h1
  ·exact h3 x e
theorem WkAt.cells2 {H:Hp} {w:Addr} {W:Wk} (h:WkAt H w W):∃(wc:List Cell) (s b f:Addr) (xs ys zs:List V),Hc H [wc]∧∀ H':Hp,(∀ c ∈ wc,H' c.1=some c.2)→H' w=some (.tup [.ref s,.ref b,.ref f])∧LsAt H' s b f W xs ys zs:=by
 obtain⟨s,b,f,xs,ys,zs,h1,h2⟩:=h.ex
 obtain⟨L1,a1,b1⟩:=paired_cells (F:=IsSta) (fun x a ⟨p,e,hp⟩=>⟨(p,_),hp,fun H' h'=>⟨p,e,h'⟩⟩) h2.ps
 obtain⟨L2,a2,b2⟩:=paired_cells (F:=IsTri) (fun x a ⟨p,e,hp⟩=>⟨(p,_),hp,fun H' h'=>⟨p,e,h'⟩⟩) h2.pb
 obtain⟨L3,a3,b3⟩:=paired_cells (F:=IsTri) (fun x a ⟨p,e,hp⟩=>⟨(p,_),hp,fun H' h'=>⟨p,e,h'⟩⟩) h2.pf
 obtain⟨L',c1,c2⟩:=cells_dedup (H:=H) (L:=(w,.tup [.ref s,.ref b,.ref f])::(s,.lst xs)::(b,.lst ys)::(f,.lst zs)::(L1++(L2++L3))) (fun c hc=>by
  rcases zS.mp hc with e|hc
  ·rw[e]; exact h1
  rcases zS.mp hc with e|hc
  ·rw[e]; exact h2.hs
  rcases zS.mp hc with e|hc
  ·rw[e]; exact h2.hb
  rcases zS.mp hc with e|hc
  ·rw[e]; exact h2.hf
  rcases zW.mp hc with e|hc
  ·exact a1 c e
  rcases zW.mp hc with e|e
  ·exact a2 c e
  ·exact a3 c e)
 refine⟨L',s,b,f,xs,ys,zs,by show Hs H [L'].flatten; rw[qC]; exact c1,fun H' h'=>⟨?_,?_,?_,?_,?_,?_,?_⟩⟩
 ·exact h' _ (c2 _ zH)
 ·exact h' _ (c2 _ (zJ _ zH))
 ·exact h' _ (c2 _ (zJ _ (zJ _ zH)))
 ·exact h' _ (c2 _ (zJ _ (zJ _ (zJ _ zH))))
 ·exact b1 H' fun c hc=>h' c (c2 c (zJ _ (zJ _ (zJ _ (zJ _ (yV _ hc))))))
 ·exact b2 H' fun c hc=>h' c (c2 c (zJ _ (zJ _ (zJ _ (zJ _ (zR _ (yV _ hc)))))))
 ·exact b3 H' fun c hc=>h' c (c2 c (zJ _ (zJ _ (zJ _ (zJ _ (zR _ (zR _ hc)))))))
def Wk.d (W:Wk):PyData:=.tuple [.list (W.st.map staD),.list (W.be.map triD),.list (W.fe.map triD)]
theorem IsTri.dt {K:PySem.W.Frag} {H:Hp} {x:V} {t:Tri} (h:IsTri H x t):Dt K H 1 x (triD t):=by
 obtain⟨p,rfl,e⟩:=h
 exact .tup (SqT.of e) (.cons (.int _ _) (.cons (.int _ _) (.cons (.int _ _) (.nil _))))
theorem StaOk.str {s:Sta} (h:StaOk s):PyData.canLay0 (.str s.1)=true:=by
 rcases h with ⟨n,rfl,_⟩|rfl|⟨n,rfl,_⟩|rfl|rfl
 ·exact(by decide +kernel:PyData.canLay0 (.str ("relay":Str))=true)
 ·exact(by decide +kernel:PyData.canLay0 (.str ("sorter":Str))=true)
 ·exact(by decide +kernel:PyData.canLay0 (.str ("thinner":Str))=true)
 ·exact(by decide +kernel:PyData.canLay0 (.str ("joiner":Str))=true)
 ·exact(by decide +kernel:PyData.canLay0 (.str ("sink":Str))=true)
theorem IsSta.dt {K:PySem.W.Frag} {H:Hp} {x:V} {s:Sta} (ok:PyData.canLay0 (.str s.1)=true) (h:IsSta H x s):Dt K H 1 x (staD s):=by
 obtain⟨p,rfl,e⟩:=h
 obtain⟨k,n⟩:=s
 cases n with
 | none=>exact .tup (SqT.of e) (.cons (.str _ _ ok) (.nil _))
 | some n=>exact .tup (SqT.of e) (.cons (.str _ _ ok) (.cons (.int _ _) (.nil _)))
theorem stas_dt {K:PySem.W.Frag} {H:Hp}:∀ {xs:List V} {ss:List Sta},(∀ s ∈ ss,StaOk s)→Paired (IsSta H) xs ss→DtAll K H 1 xs (ss.map staD)
 | _,_,_,.nil=>.nil _
 | _,_,ok,.cons p r=>.cons (p.dt (ok _ zH).str) (stas_dt (fun s h=>ok s (zJ _ h)) r)
theorem WkAt.dt {K:PySem.W.Frag} {H:Hp} {w:Addr} {W:Wk} (ok:∀ s ∈ W.st,StaOk s) (h:WkAt H w W):Dt K H 3 (.ref w) W.d:=by
 obtain⟨s,b,f,xs,ys,zs,h1,h2⟩:=h.ex
 exact .tup (SqT.of h1) (.cons (.lst (SqL.of h2.hs) (stas_dt ok h2.ps)) (.cons (.lst (SqL.of h2.hb) (DtAll.of (f:=triD) (P:=IsTri H) (fun _ _ h=>h.dt) h2.pb)) (.cons (.lst (SqL.of h2.hf) (DtAll.of (f:=triD) (P:=IsTri H) (fun _ _ h=>h.dt) h2.pf)) (.nil _))))
def idx {α:Type} (f:α→Bool):Nat→List α→List Int
 | _,[]=>[]
 | k,t::r=>if f t then (k:Int)::idx f (k + 1) r else idx f (k + 1) r
theorem idx_snoc {α:Type} (f:α→Bool):∀(l:List α) (k:Nat) (t:α),idx f k (l++[t])=idx f k l++(if f t then [((k + l.length:Nat):Int)] else [])
 | [],k,t=>by
  show idx f k [t]=[]++_
  unfold idx
  split <;> simp [idx]
 | x::l,k,t=>by
  show idx f k (x::(l++[t]))=idx f k (x::l)++_
  have ih:=idx_snoc f l (k + 1) t
  have e:k + 1 + l.length=k + (x::l).length:=by rw[zX]; omega
  rw[e] at ih
  unfold idx
  by_cases h:f x=true
  ·rw[if_pos h,if_pos h,ih]; rfl
  ·rw[if_neg h,if_neg h,ih]
theorem idx_take {α:Type} (f:α→Bool) {l:List α} {i:Nat} {t:α} (h:l[i]?=some t):idx f 0 (l.take (i + 1))=idx f 0 (l.take i)++(if f t then [(i:Int)] else []):=by
 have hi:=(zC.mp h).1
 rw[yS,h]
 show idx f 0 (l.take i++[t])=_
 rw[idx_snoc,yA,kJ (qB hi),qO]
theorem idx_len {α:Type} (f:α→Bool):∀(l:List α) (k:Nat),(idx f k l).length≤l.length
 | [],_=>zI _
 | x::l,k=>by
  have:=idx_len f l (k + 1)
  unfold idx
  split
  ·rw[zX,zX]; omega
  ·rw[zX]; omega
def Wk.wy (W:Wk) (s:Int):List Int:=(if W.fe.any (fun t=>t.1 == s) then [-1] else [])++idx (fun(t:Tri)=>t.2.1 == s) 0 W.be
def Wk.lv (W:Wk) (s:Int):List Int:=idx (fun(t:Tri)=>t.1 == s) 0 W.be
theorem _root_.PySem.Paired.gt {α β:Type} {F:α→β→Prop} {l₁:List α} {l₂:List β} (h:Paired F l₁ l₂) {i:Nat} {a:α} (e:l₁[i]?=some a):∃ b,l₂[i]?=some b∧F a b:=PySem.Paired.getL h e
inductive spWays (vs:List V) (H:Hp) (Q:VK) (x_3:XK):Prop where
 | mk (w:Addr) (W:Wk) (s:Int) (h_0:vs=[.ref w,.int s]) (h_1:WkAt H w W) (h_2:W.Ok) (h_3:∀(p:Addr) (H':Hp),H p=none→H' p=some (.lst ((W.wy s).map V.int))→Same H H'→Q (.ref p) H'):spWays vs H Q x_3
inductive spLeav (vs:List V) (H:Hp) (Q:VK) (x_3:XK):Prop where
 | mk (w:Addr) (W:Wk) (s:Int) (h_0:vs=[.ref w,.int s]) (h_1:WkAt H w W) (h_2:W.Ok) (h_3:∀(p:Addr) (H':Hp),H p=none→H' p=some (.lst ((W.lv s).map V.int))→Same H H'→Q (.ref p) H'):spLeav vs H Q x_3
section
variable {P:Program} {w:World} {K:PySem.W.Frag} {mg:Str→Option Value} {base:Heap}
theorem mh:FnScope ["works","station","belts","fed"] ["works","station"] (defScope (top 3)):=⟨rfl,rfl,rfl,by decide +kernel,rfl,by decide +kernel,by decide +kernel⟩
theorem pB {f:Addr} {fd:FuncData} {tk:Tok} (F:Fun K "ways" "ways" (top 3) f fd) (T:Txt K mg) (g_DOOR:mg "DOOR"=some (.int (-1) tk)):FnOk P w K mg base CX0 1 f fd ["works","station"] spWays:=by
 have nd:=mh.nd
 refine F.ok mh (fun vs H Q E h=>?_) (fun cdv A outer s H vs Q E hr h=>?_)
 ·obtain⟨w,W,z,rfl,_⟩:=h
  rfl
 ·obtain⟨w,W,z,rfl,hw,ok,q⟩:=h
  obtain⟨sa,ba,fa,xs,ys,zs,h1,h2⟩:=hw.ex
  refine⟨_,(@pss_cons _ _ _ _ _ (ps_setC (i:=2) nd rfl (Or.inl rfl) rfl (own:=["number","belt"]) (fr:=["station"]) (js:=[1]) (by and_intros) (pi_enum rfl T.n_enumerate (@pa_cons _ _ _ _ _ (@pe_ix _ _ _ _ _ _ _ (ix_tupK (K:=K) rfl) (pv 0) pe_int (fun _ _=>rfl)) pa_nil (by rfl))) (fun _ _ _ _=>(pg_tupK (K:=K) (n:=2) rfl rfl (pgs_cons (pg_name (i:=0) (show List.Nodup (["number","belt","station"]:List Str) from by decide +kernel) rfl (by nofun)) (pgs_cons (pg_name (i:=1) (show List.Nodup (["number","belt","station"]:List Str) from by decide +kernel) rfl (by nofun)) pgs_nil)))) (fun _ _ _ _=>(pts_one (pt_cmpR op_eq (@pe_ix _ _ _ _ _ _ _ (ix_tupK (K:=K) rfl) (pv 1) pe_int (fun _ _=>rfl)) (pv 2) (nomark _)))) (fun _ _ _ _=>(pv 0)))
   (@pss_cons _ _ _ _ _ (ps_set (i:=3) nd rfl (by nofun) (pe_callB (call_anyB rfl) (by rfl) T.n_any bt_any (@pa_cons _ _ _ _ _ (pe_comp (own:=["feed"]) (fr:=["station"]) (js:=[1]) (by and_intros) (pi_listK (K:=K) rfl (@pe_ix _ _ _ _ _ _ _ (ix_tupK (K:=K) rfl) (pv 0) pe_int (fun _ _=>rfl))) (fun _ _ _ _=>(pg_name (i:=0) (show List.Nodup (["feed","station"]:List Str) from by decide +kernel) rfl (by nofun))) (fun _ _ _ _=>pts_nil) (fun _ _ _ _=>(pe_cmpR op_eq (@pe_ix _ _ _ _ _ _ _ (ix_tupK (K:=K) rfl) (pv 0) pe_int (fun _ _=>rfl)) (pv 1) (nomark _)))) pa_nil (by rfl))))
   (@pss_one _ _ _ (@ps_ret _ _ _ _ (pe_ifExp (pt_val (pv 3)) (pe_op op_cat (@pe_lst _ _ _ _ (@pa_cons _ _ _ _ _ (pe_glob (v:=.int (-1)) (by rfl) g_DOOR ⟨_,rfl⟩) pa_nil (by rfl))) (pv 2)) (pv 2)))))),?_⟩
  refine⟨_,rfl,⟨_,_,_,_,rfl,rfl,SqT.of h1,(atI_nat (j:=1) rfl),ba,rfl,⟨_,SqL.of h2.hb⟩,fun D nD=>?_⟩⟩
  have lb:=h2.pb.length
  have b12:=ok.b12
  refine comp_enum (a:=ba) (xs:=ys) (fun i H4=>Same H H4∧H4 D=some (.lst ((idx (fun(t:Tri)=>t.2.1 == z) 0 (W.be.take i)).map V.int))) ⟨Same.new nD,upd_same⟩ (fun i H4 _ p=>SqL.of (p.1 _ _ h2.hb)) ?_ ?_
  ·rintro i x H4 m Wf hx ⟨s4,h4⟩ nx pp np
   obtain⟨t,ht,hp0⟩:=h2.pb.gt hx
   obtain⟨a0,rfl,ha⟩:=hp0
   have s5:Same H4 (upd H4 pp (.tup [.int i,.ref a0])):=Same.new np
   refine⟨pp,_,rfl,SqT.of upd_same,rfl,_,_,rfl,_,_,rfl,rfl,?_⟩
   refine⟨_,rfl,⟨_,_,_,_,rfl,rfl,SqT.of (s5 _ _ (s4 _ _ ha)),(atI_nat (j:=1) rfl),_,rfl,rfl,_,rfl,?_⟩⟩
   have et:decide (V.int t.2.1=V.int z)=(t.2.1 == z):=dec_int
   have eid:=idx_take (fun(t:Tri)=>t.2.1 == z) ht
   refine iteB (fun hb=>?_) (fun hb=>?_)
   ·rw[et] at hb
    refine⟨_,rfl,_,s5 _ _ h4,small1000 (by rw[zD]; have:=idx_len (fun(t:Tri)=>t.2.1 == z) (W.be.take i) 0; rw[yA] at this; omega),nx _ ⟨?_,?_⟩⟩
    ·exact((s4.trans s5).upd nD)
    ·rw[upd_same,eid,hb,if_pos rfl,zL]; rfl
   ·rw[et] at hb
    refine nx _ ⟨s4.trans s5,?_⟩
    rw[eid,hb,if_neg zZ,zP]
    exact s5 _ _ h4
  ·rintro H4 ⟨s4,h4⟩
   rw[lb,yD] at h4
   refine⟨_,rfl,⟨_,_,_,_,rfl,rfl,SqT.of (s4 _ _ h1),(atI_nat (j:=2) rfl),fa,rfl,⟨_,SqL.of (s4 _ _ h2.hf)⟩,fun D2 nD2=>?_⟩⟩
   have lf:=h2.pf.length
   have f60:=ok.f60
   refine comp_list (a:=fa) (xs:=zs) (fun i H5=>Same H4 H5∧H5 D2=some (.lst (((W.fe.take i).map fun(t:Tri)=>t.1 == z).map V.bl))) ⟨Same.new nD2,upd_same⟩ (fun i H5 _ p=>SqL.of (p.1 _ _ (s4 _ _ h2.hf))) ?_ ?_
   ·rintro i x H5 m Wf hx ⟨s5,h5⟩ nx
    obtain⟨t,ht,hp0⟩:=h2.pf.gt hx
    obtain⟨a0,rfl,ha⟩:=hp0
    have hi:=(zC.mp ht).1
    refine⟨_,rfl,⟨_,_,_,_,rfl,rfl,SqT.of (s5 _ _ (s4 _ _ ha)),(atI_nat (j:=0) rfl),_,rfl,rfl,_,h5,small1000 (by rw[zD,zD,yA]; omega),nx _ ⟨s5.upd nD2,?_⟩⟩⟩
    rw[upd_same,yS,ht,zL,zL]
    show some (HO.lst (_++[V.bl (decide (V.int t.1=V.int z))]))=some (HO.lst (_++[V.bl (t.1 == z)]))
    rw[dec_int]
   ·rintro H5 ⟨s5,h5⟩
    rw[lf,yD] at h5
    refine⟨D2,_,rfl,SqL.of h5,?_⟩
    have ea:((W.fe.map fun(t:Tri)=>t.1 == z).any id)=W.fe.any fun t=>t.1 == z:=by rw[vC]; rfl
    refine⟨_,rfl,_,rfl,?_⟩
    refine iteB (fun hb=>?_) (fun hb=>?_)
    ·rw[ea] at hb
     refine⟨(by show 1≤sizeLine; decide),fun l1 n1=>?_⟩
     have s6:Same H5 (upd H5 l1 (.lst [V.int (-1)])):=Same.new n1
     refine⟨_,rfl,l1,D,_,_,rfl,rfl,upd_same,s6 _ _ (s5 _ _ h4),?_,fun c nc=>?_⟩
     ·rw[zD]
      have:=idx_len (fun(t:Tri)=>t.2.1 == z) W.be 0
      exact qB (small1000 (by show 1 + _≤1000; omega))
     ·refine q c _ (((s4.trans s5).trans s6).free nc) ?_ (((s4.trans s5).trans s6).upd (((s4.trans s5).trans s6).free nc))
      rw[upd_same]
      unfold Wk.wy
      rw[hb,if_pos rfl,zL]
      rfl
    ·rw[ea] at hb
     refine⟨_,rfl,q D _ nD ?_ (s4.trans s5)⟩
     unfold Wk.wy
     rw[hb,if_neg zZ,jS]
     exact s5 _ _ h4
theorem sc_leav:FnScope ["works","station"] ["works","station"] (defScope (top 6)):=⟨rfl,rfl,rfl,by decide +kernel,rfl,by decide +kernel,by decide +kernel⟩
theorem ok_leav {f:Addr} {fd:FuncData} (F:Fun K "leaving" "leaving" (top 6) f fd) (T:Txt K mg):FnOk P w K mg base CX0 1 f fd ["works","station"] spLeav:=by
 have nd:=sc_leav.nd
 refine F.ok sc_leav (fun vs H Q E h=>?_) (fun cdv A outer s H vs Q E hr h=>?_)
 ·obtain⟨w,W,z,rfl,_⟩:=h
  rfl
 ·obtain⟨w,W,z,rfl,hw,ok,q⟩:=h
  obtain⟨sa,ba,fa,xs,ys,zs,h1,h2⟩:=hw.ex
  refine⟨_,(@pss_one _ _ _ (@ps_ret _ _ _ _ (pe_comp (own:=["number","belt"]) (fr:=["station"]) (js:=[1]) (by and_intros) (pi_enum rfl T.n_enumerate (@pa_cons _ _ _ _ _ (@pe_ix _ _ _ _ _ _ _ (ix_tupK (K:=K) rfl) (pv 0) pe_int (fun _ _=>rfl)) pa_nil (by rfl))) (fun _ _ _ _=>(pg_tupK (K:=K) (n:=2) rfl rfl (pgs_cons (pg_name (i:=0) (show List.Nodup (["number","belt","station"]:List Str) from by decide +kernel) rfl (by nofun)) (pgs_cons (pg_name (i:=1) (show List.Nodup (["number","belt","station"]:List Str) from by decide +kernel) rfl (by nofun)) pgs_nil)))) (fun _ _ _ _=>(pts_one (pt_cmpR op_eq (@pe_ix _ _ _ _ _ _ _ (ix_tupK (K:=K) rfl) (pv 1) pe_int (fun _ _=>rfl)) (pv 2) (nomark _)))) (fun _ _ _ _=>(pv 0))))),?_⟩
  refine⟨_,rfl,⟨_,_,_,_,rfl,rfl,SqT.of h1,(atI_nat (j:=1) rfl),ba,rfl,⟨_,SqL.of h2.hb⟩,fun D nD=>?_⟩⟩
  have lb:=h2.pb.length
  have b12:=ok.b12
  refine comp_enum (a:=ba) (xs:=ys) (fun i H4=>Same H H4∧H4 D=some (.lst ((idx (fun(t:Tri)=>t.1 == z) 0 (W.be.take i)).map V.int))) ⟨Same.new nD,upd_same⟩ (fun i H4 _ p=>SqL.of (p.1 _ _ h2.hb)) ?_ ?_
  ·rintro i x H4 m Wf hx ⟨s4,h4⟩ nx pp np
   obtain⟨t,ht,hp0⟩:=h2.pb.gt hx
   obtain⟨a0,rfl,ha⟩:=hp0
   have s5:Same H4 (upd H4 pp (.tup [.int i,.ref a0])):=Same.new np
   refine⟨pp,_,rfl,SqT.of upd_same,rfl,_,_,rfl,_,_,rfl,rfl,?_⟩
   refine⟨_,rfl,⟨_,_,_,_,rfl,rfl,SqT.of (s5 _ _ (s4 _ _ ha)),(atI_nat (j:=0) rfl),_,rfl,rfl,_,rfl,?_⟩⟩
   have et:decide (V.int t.1=V.int z)=(t.1 == z):=dec_int
   have eid:=idx_take (fun(t:Tri)=>t.1 == z) ht
   refine iteB (fun hb=>?_) (fun hb=>?_)
   ·rw[et] at hb
    refine⟨_,rfl,_,s5 _ _ h4,small1000 (by rw[zD]; have:=idx_len (fun(t:Tri)=>t.1 == z) (W.be.take i) 0; rw[yA] at this; omega),nx _ ⟨?_,?_⟩⟩
    ·exact((s4.trans s5).upd nD)
    ·rw[upd_same,eid,hb,if_pos rfl,zL]; rfl
   ·rw[et] at hb
    refine nx _ ⟨s4.trans s5,?_⟩
    rw[eid,hb,if_neg zZ,zP]
    exact s5 _ _ h4
  ·rintro H4 ⟨s4,h4⟩
   rw[lb,yD] at h4
   exact q D _ nD h4 s4
end
end Oc
namespace Oc
theorem take_1 {α:Type} {l:List α} {i:Nat} {x:α} (h:l[i]?=some x):l.take (i + 1)=l.take i++[x]:=by rw[yS,h]; rfl
end Oc
namespace Oc
open PySem L2
inductive spCell (K:PySem.W.Frag) (vs:List V) (H:Hp) (Q:VK) (x_3:XK):Prop where
 | mk (a:Addr) (ns:List Int) (k:Int) (h_0:vs=[.ref a,.int k]) (h_1:SqL K H a (ns.map V.int)) (h_2:0≤k) (h_3:∀ r:Int,Q (.int r) H):spCell K vs H Q x_3
inductive spMix (vs:List V) (H:Hp) (Q:VK) (x_3:XK):Prop where
 | mk (c k:Int) (h_0:vs=[.int c,.int k]) (h_1:∀ r:Int,0≤r→r < 2147483647→Q (.int r) H):spMix vs H Q x_3
inductive spSta (vs:List V) (H:Hp) (Q:VK) (x_3:XK):Prop where
 | mk (c:Int) (h_0:vs=[.int c]) (h_1:∀(p:Addr) (s:Sta) (H':Hp),H' p=some (.tup (staV s))→StaOk s→Same H H'→Q (.ref p) H'):spSta vs H Q x_3
inductive spWks (K:PySem.W.Frag) (vs:List V) (H:Hp) (Q:VK) (x_3:XK):Prop where
 | mk (a:Addr) (ns:List Int) (h_0:vs=[.ref a]) (h_1:SqL K H a (ns.map V.int)) (h_2:∀(w:Addr) (W:Wk) (H':Hp),WkAt H' w W→W.Ok→W.fe.length≤7→Same H H'→Q (.ref w) H'):spWks K vs H Q x_3
theorem all_snoc {α:Type} {p:α→Prop} {l:List α} {x:α} (h:∀ t ∈ l,p t) (hx:p x):∀ t ∈ l++[x],p t:=fun u hu=>by
 rcases zW.mp hu with q|q
 ·exact h u q
 ·rw[zG.mp q]; exact hx
theorem paired_app {α β:Type} {F:α→β→Prop}:∀ {a:List α} {b:List β} {c:List α} {d:List β},Paired F a b→Paired F c d→Paired F (a++c) (b++d)
 | _,_,_,_,.nil,h=>h
 | _,_,_,_,.cons p r,h=>.cons p (paired_app r h)
theorem IsTri.keep {H:Hp} {a:Addr} {xs ys:List V} (e:H a=some (.lst xs)) {x:V} {t:Tri} (h:IsTri H x t):IsTri (upd H a (.lst ys)) x t:=by
 obtain⟨p,rfl,q⟩:=h
 exact⟨p,rfl,by rw[upd_ne (ne_of q e (by intro z; cases z))]; exact q⟩
theorem IsSta.keep {H:Hp} {a:Addr} {xs ys:List V} (e:H a=some (.lst xs)) {x:V} {t:Sta} (h:IsSta H x t):IsSta (upd H a (.lst ys)) x t:=by
 obtain⟨p,rfl,q⟩:=h
 exact⟨p,rfl,by rw[upd_ne (ne_of q e (by intro z; cases z))]; exact q⟩
section
variable {P:Program} {w:World} {K:PySem.W.Frag} {mg:Str→Option Value} {base:Heap}
theorem sc_cell:FnScope ["script","k"] ["script","k"] (defScope (top 32)):=⟨rfl,rfl,rfl,by decide +kernel,rfl,by decide +kernel,by decide +kernel⟩
theorem ok_cell {f:Addr} {fd:FuncData} (F:Fun K "_law_cell_at" "_law_cell_at" (top 32) f fd) (T:Txt K mg):FnOk P w K mg base CX0 1 f fd ["script","k"] (spCell K):=by
 have nd:=sc_cell.nd
 refine F.ok sc_cell (fun vs H Q E h=>?_) (fun cdv A outer s H vs Q E hr h=>?_)
 ·obtain⟨a,ns,k,rfl,_⟩:=h
  rfl
 ·obtain⟨a,ns,k,rfl,hS,k0,q⟩:=h
  refine⟨_,(@pss_cons _ _ _ _ _ (ps_if (pt_cmpR op_lt (pv 1) (pe_callB (call_len_seqK (K:=K) rfl) (by rfl) T.n_len bt_len (@pa_cons _ _ _ _ _ (pv 0) pa_nil (by rfl))) (nomark _)) (@pss_one _ _ _ (@ps_ret _ _ _ _ (@pe_ix _ _ _ _ _ _ _ (ix_listK (K:=K) rfl) (pv 0) (pv 1) (fun _ _=>rfl)))) pss_nil)
   (@pss_one _ _ _ (@ps_ret _ _ _ _ pe_int))),?_⟩
  refine⟨_,rfl,_,rfl,a,_,rfl,.inl hS,?_⟩
  rw[zD]
  infer_instance
  refine ite2 (fun h=>?_) (fun _=>?_)
  ·have h':k < (ns.length:Int):=of_decide_eq_true h
   obtain⟨j,hj⟩:∃ j:Nat,k=(j:Int):=⟨k.toNat,by omega⟩
   obtain⟨z,hz⟩:∃ z,ns[j]?=some z:=⟨ns[j]'(by omega),zB _⟩
   exact⟨_,rfl,_,rfl,_,_,_,_,rfl,rfl,hS,(atI_map hj hz),q z⟩
  ·exact q 0
theorem sc_mix:FnScope ["cell","k","found"] ["cell","k"] (defScope (top 33)):=⟨rfl,rfl,rfl,by decide +kernel,rfl,by decide +kernel,by decide +kernel⟩
theorem ok_mix {f:Addr} {fd:FuncData} (F:Fun K "_law_mixed" "_law_mixed" (top 33) f fd):FnOk P w K mg base CX0 1 f fd ["cell","k"] spMix:=by
 have nd:=sc_mix.nd
 refine F.ok sc_mix (fun vs H Q E h=>?_) (fun cdv A outer s H vs Q E hr h=>?_)
 ·obtain⟨c,k,rfl,_⟩:=h
  rfl
 ·obtain⟨c,k,rfl,q⟩:=h
  refine⟨_,(@pss_cons _ _ _ _ _ (ps_set (i:=2) nd rfl (by nofun) (pe_op op_mod (pe_op op_add (pe_op op_add (pe_op op_mod (pv 0) pe_int) (pe_op op_mul pe_int (pv 1))) pe_int) pe_int))
   (@pss_cons _ _ _ _ _ (ps_set (i:=2) nd rfl (by nofun) (pe_op op_add (pe_op op_mod (pe_op op_mul (pv 2) (pv 2)) pe_int) (pe_op op_fdiv (pv 2) pe_int)))
   (@pss_one _ _ _ (@ps_ret _ _ _ _ (pe_op op_mod (pe_op op_mul (pv 2) pe_int) pe_int))))),?_⟩
  infer_instance
  generalize h1:(c % 2147483629 + 101 * k + 7) % 2147483629=n1
  have a1:0≤n1:=by rw[← h1]; exact y4 _ (by decide)
  have b1:n1 < 2147483629:=by rw[← h1]; exact yW _ (by decide)
  refine⟨_,_,rfl,rfl,.inl ⟨by rw[p64]; omega,by rw[p64]; omega⟩,?_⟩
  infer_instance
  exact q _ (y4 _ (by decide)) (yW _ (by decide))
theorem sc_sta:FnScope ["cell","number"] ["cell"] (defScope (top 34)):=⟨rfl,rfl,rfl,by decide +kernel,rfl,by decide +kernel,by decide +kernel⟩
theorem ok_sta {f:Addr} {fd:FuncData} (F:Fun K "_law_station" "_law_station" (top 34) f fd):FnOk P w K mg base CX0 1 f fd ["cell"] spSta:=by
 have nd:=sc_sta.nd
 refine F.ok sc_sta (fun vs H Q E h=>?_) (fun cdv A outer s H vs Q E hr h=>?_)
 ·obtain⟨c,rfl,_⟩:=h
  rfl
 ·obtain⟨c,rfl,q⟩:=h
  refine⟨_,(@pss_cons _ _ _ _ _ (ps_set (i:=1) nd rfl (by nofun) (pe_op op_fdiv (pv 0) pe_int))
   (@pss_cons _ _ _ _ _ (ps_if (pt_cmpR op_eq (pe_op op_mod (pv 0) pe_int) pe_int (nomark _)) (@pss_one _ _ _ (@ps_ret _ _ _ _ (@pe_tup _ _ _ _ _ (@pa_cons _ _ _ _ _ pe_str (@pa_cons _ _ _ _ _ (pe_op op_sub (pe_op op_mod (pv 1) pe_int) pe_int) pa_nil (by rfl)) (by rfl))))) pss_nil)
   (@pss_cons _ _ _ _ _ (ps_if (pt_cmpR op_eq (pe_op op_mod (pv 0) pe_int) pe_int (nomark _)) (@pss_one _ _ _ (@ps_ret _ _ _ _ (@pe_tup _ _ _ _ _ (@pa_cons _ _ _ _ _ pe_str (@pa_cons _ _ _ _ _ (pe_op op_add pe_int (pe_op op_mod (pv 1) pe_int)) pa_nil (by rfl)) (by rfl))))) pss_nil)
   (@pss_one _ _ _ (@ps_ret _ _ _ _ (@pe_ix _ _ _ _ _ _ _ (ix_listK (K:=K) rfl) (@pe_lst _ _ _ _ (@pa_cons _ _ _ _ _ (@pe_tup _ _ _ _ _ (@pa_cons _ _ _ _ _ pe_str pa_nil (by rfl))) (@pa_cons _ _ _ _ _ (@pe_tup _ _ _ _ _ (@pa_cons _ _ _ _ _ pe_str pa_nil (by rfl))) (@pa_cons _ _ _ _ _ (@pe_tup _ _ _ _ _ (@pa_cons _ _ _ _ _ pe_str pa_nil (by rfl))) pa_nil (by rfl)) (by rfl)) (by rfl))) (pe_op op_sub (pe_op op_mod (pv 0) pe_int) pe_int) (fun _ _=>rfl))))))),?_⟩
  infer_instance
  refine iteB (fun _=>?_) (fun h0=>?_)
  ·refine⟨_,rfl,_,_,rfl,rfl,(show(0:Int) < 2001 by decide),_,_,rfl,rfl,(by show 2≤sizeLine; decide),fun p np=>?_⟩
   exact q p ("relay",some (c / 5 % 2001 - 1000)) _ upd_same (.inl ⟨_,rfl,by omega,by omega⟩) (Same.new np)
  infer_instance
  refine iteB (fun _=>?_) (fun h1=>?_)
  ·refine⟨_,rfl,_,_,rfl,rfl,(show(0:Int) < 3 by decide),_,_,rfl,rfl,(by show 2≤sizeLine; decide),fun p np=>?_⟩
   exact q p ("thinner",some (2 + c / 5 % 3)) _ upd_same (.inr (.inr (.inl ⟨_,rfl,by omega,by omega⟩))) (Same.new np)
  have k0:c % 5 ≠ 0:=fun z=>by rw[dec_int,z] at h0; exact absurd h0 (by decide)
  have k1:c % 5 ≠ 1:=fun z=>by rw[dec_int,z] at h1; exact absurd h1 (by decide)
  refine⟨(by show 1≤sizeLine; decide),fun t1 n1=>⟨(by show 1≤sizeLine; decide),fun t2 n2=>⟨(by show 1≤sizeLine; decide),fun t3 n3=>⟨(by show 3≤sizeLine; decide),fun tl nl=>?_⟩⟩⟩⟩
  have s1:Same H (upd H t1 (.tup [.str "sorter"])):=Same.new n1
  have g1:(upd H t1 (.tup [.str "sorter"])) t1=some (.tup [.str "sorter"]):=upd_same
  generalize (upd H t1 (.tup [.str "sorter"]))=H1 at s1 g1 n2 n3 nl ⊢
  have s2:Same H1 (upd H1 t2 (.tup [.str "joiner"])):=Same.new n2
  have g2:(upd H1 t2 (.tup [.str "joiner"])) t2=some (.tup [.str "joiner"]):=upd_same
  generalize (upd H1 t2 (.tup [.str "joiner"]))=H2 at s2 g2 n3 nl ⊢
  have s3:Same H2 (upd H2 t3 (.tup [.str "sink"])):=Same.new n3
  have g3:(upd H2 t3 (.tup [.str "sink"])) t3=some (.tup [.str "sink"]):=upd_same
  generalize (upd H2 t3 (.tup [.str "sink"]))=H3 at s3 g3 nl ⊢
  have s4:Same H3 (upd H3 tl (.lst [.ref t1,.ref t2,.ref t3])):=Same.new nl
  have g4:(upd H3 tl (.lst [.ref t1,.ref t2,.ref t3])) tl=some (.lst [.ref t1,.ref t2,.ref t3]):=upd_same
  generalize (upd H3 tl (.lst [.ref t1,.ref t2,.ref t3]))=H4 at s4 g4 ⊢
  have S:=((s1.trans s2).trans s3).trans s4
  refine⟨_,rfl,_,_,rfl,rfl,(show(0:Int) < 5 by decide),_,_,rfl,rfl,?_⟩
  have hm:=y4 c (show(5:Int) ≠ 0 by decide)
  have hM:=yW c (show(0:Int) < 5 by decide)
  have hc:c % 5 - 2=((0:Nat):Int)∨c % 5 - 2=((1:Nat):Int)∨c % 5 - 2=((2:Nat):Int):=by omega
  rcases hc with hc|hc|hc
  ·rw[hc]
   exact jxL (j:=0) g4 rfl (q t1 ("sorter",none) _ ((s2.trans s3).trans s4 _ _ g1) (.inr (.inl rfl)) S)
  ·rw[hc]
   exact jxL (j:=1) g4 rfl (q t2 ("joiner",none) _ (s3.trans s4 _ _ g2) (.inr (.inr (.inr (.inl rfl)))) S)
  ·rw[hc]
   exact jxL (j:=2) g4 rfl (q t3 ("sink",none) _ (s4 _ _ g3) (.inr (.inr (.inr (.inr rfl)))) S)
theorem sc_wks:FnScope ["script","first","many","stations","belts","k","number","feeds"] ["script"] (defScope (top 35)):=⟨rfl,rfl,rfl,by decide +kernel,rfl,by decide +kernel,by decide +kernel⟩
theorem ok_wks {f:Addr} {fd:FuncData} (F:Fun K "_law_works" "_law_works" (top 35) f fd) (T:Txt K mg) (af:FnAt P w K mg base 1 "_law_cell_at" ["script","k"] (spCell K)) (am:FnAt P w K mg base 1 "_law_mixed" ["cell","k"] spMix) (aG:FnAt P w K mg base 1 "_law_station" ["cell"] spSta):FnOk P w K mg base CX0 2 f fd ["script"] (spWks K):=by
 have nd:=sc_wks.nd
 refine F.ok sc_wks (fun vs H Q E h=>?_) (fun cdv A outer s H vs Q E hr h=>?_)
 ·obtain⟨a,ns,rfl,_⟩:=h
  rfl
 ·obtain⟨a,ns,rfl,hS,q⟩:=h
  refine⟨_,(@pss_cons _ _ _ _ _ (ps_set (i:=1) nd rfl (by nofun) (pe_fn af (hr.mono (by decide)) (by rfl) (@pa_cons _ _ _ _ _ (pv 0) (@pa_cons _ _ _ _ _ pe_int pa_nil (by rfl)) (by rfl))))
   (@pss_cons _ _ _ _ _ (ps_set (i:=2) nd rfl (by nofun) (pe_op op_add pe_int (pe_op op_mod (pv 1) pe_int)))
   (@pss_cons _ _ _ _ _ (ps_setC (i:=3) nd rfl (Or.inl rfl) rfl (own:=["k"]) (fr:=["script"]) (js:=[0]) (by and_intros) (pi_range1 rfl T.n_range (@pa_cons _ _ _ _ _ (pv 2) pa_nil (by rfl))) (fun _ _ _ _=>(pg_name (i:=0) (show List.Nodup (["k","script"]:List Str) from by decide +kernel) rfl (by nofun))) (fun _ _ _ _=>pts_nil) (fun _ _ _ _=>(pe_fn aG (hr.mono (by decide)) (by rfl) (@pa_cons _ _ _ _ _ (pe_fn am (hr.mono (by decide)) (by rfl) (@pa_cons _ _ _ _ _ (pe_fn af (hr.mono (by decide)) (by rfl) (@pa_cons _ _ _ _ _ (pv 1) (@pa_cons _ _ _ _ _ (pe_op op_add pe_int (pv 0)) pa_nil (by rfl)) (by rfl))) (@pa_cons _ _ _ _ _ (pv 0) pa_nil (by rfl)) (by rfl))) pa_nil (by rfl)))))
   (@pss_cons _ _ _ _ _ (ps_set (i:=4) nd rfl (by nofun) (@pe_lst _ _ _ _ pa_nil))
   (@pss_cons _ _ _ _ _ (ps_for PassesOwn.never rfl (pi_range1 rfl T.n_range (@pa_cons _ _ _ _ _ (pe_op op_mod (pe_op op_fdiv (pv 1) pe_int) pe_int) pa_nil (by rfl))) (pg_name (i:=5) nd rfl (by nofun)) (@pss_cons _ _ _ _ _ (ps_set (i:=6) nd rfl (by nofun) (pe_fn am (hr.mono (by decide)) (by rfl) (@pa_cons _ _ _ _ _ (pe_fn af (hr.mono (by decide)) (by rfl) (@pa_cons _ _ _ _ _ (pv 0) (@pa_cons _ _ _ _ _ (pe_op op_add pe_int (pv 5)) pa_nil (by rfl)) (by rfl))) (@pa_cons _ _ _ _ _ (pe_op op_add pe_int (pv 5)) pa_nil (by rfl)) (by rfl))))
   (@pss_one _ _ _ (ps_expr (pe_bm PySem.F.plainAttrs_list PySem.F.slot_list_append PySem.F.type_list_append mt_append (pv 4) (@pa_cons _ _ _ _ _ (@pe_tup _ _ _ _ _ (@pa_cons _ _ _ _ _ (pe_op op_mod (pv 6) (pv 2)) (@pa_cons _ _ _ _ _ (pe_op op_mod (pe_op op_fdiv (pv 6) pe_int) (pv 2)) (@pa_cons _ _ _ _ _ (pe_op op_add pe_int (pe_op op_mod (pe_op op_fdiv (pv 6) pe_int) pe_int)) pa_nil (by rfl)) (by rfl)) (by rfl))) pa_nil (by rfl)))))))
   (@pss_cons _ _ _ _ _ (ps_set (i:=7) nd rfl (by nofun) (@pe_lst _ _ _ _ pa_nil))
   (@pss_cons _ _ _ _ _ (ps_for PassesOwn.never rfl (pi_range1 rfl T.n_range (@pa_cons _ _ _ _ _ (pe_op op_add pe_int (pe_op op_mod (pe_op op_fdiv (pv 1) pe_int) pe_int)) pa_nil (by rfl))) (pg_name (i:=5) nd rfl (by nofun)) (@pss_cons _ _ _ _ _ (ps_set (i:=6) nd rfl (by nofun) (pe_fn am (hr.mono (by decide)) (by rfl) (@pa_cons _ _ _ _ _ (pe_fn af (hr.mono (by decide)) (by rfl) (@pa_cons _ _ _ _ _ (pv 0) (@pa_cons _ _ _ _ _ (pe_op op_add pe_int (pv 5)) pa_nil (by rfl)) (by rfl))) (@pa_cons _ _ _ _ _ (pe_op op_add pe_int (pv 5)) pa_nil (by rfl)) (by rfl))))
   (@pss_one _ _ _ (ps_expr (pe_bm PySem.F.plainAttrs_list PySem.F.slot_list_append PySem.F.type_list_append mt_append (pv 7) (@pa_cons _ _ _ _ _ (@pe_tup _ _ _ _ _ (@pa_cons _ _ _ _ _ (pe_op op_mod (pv 6) (pv 2)) (@pa_cons _ _ _ _ _ (pe_op op_mod (pe_op op_fdiv (pv 6) pe_int) pe_int) (@pa_cons _ _ _ _ _ (pe_op op_sub (pe_op op_mod (pe_op op_fdiv (pv 6) pe_int) (pe_op op_pow pe_int pe_int)) (pe_op op_mul pe_int (pe_op op_pow pe_int pe_int))) pa_nil (by rfl)) (by rfl)) (by rfl))) pa_nil (by rfl)))))))
   (@pss_one _ _ _ (@ps_ret _ _ _ _ (@pe_tup _ _ _ _ _ (@pa_cons _ _ _ _ _ (pv 3) (@pa_cons _ _ _ _ _ (pv 4) (@pa_cons _ _ _ _ _ (pv 7) pa_nil (by rfl)) (by rfl)) (by rfl)))))))))))),?_⟩
  refine⟨_,rfl,a,ns,0,rfl,hS,by decide,fun c0=>?_⟩
  refine⟨_,rfl,_,_,rfl,rfl,(show(0:Int) < 5 by decide),_,_,rfl,rfl,?_⟩
  obtain⟨M,hM⟩:∃ M:Int,1 + c0 % 5=M:=⟨_,rfl⟩
  have M1:1≤M:=by omega
  have M5:M≤5:=by omega
  rw[hM]
  refine⟨_,rfl,_,rfl,by rw[p62]; omega,by rw[p62]; omega,fun D nD=>?_⟩
  refine comp_range (lo:=0) (n:=M.toNat) (fun i H4=>∃(xs:List V) (ss:List Sta),Same H H4∧H4 D=some (.lst xs)∧Paired (IsSta H4) xs ss∧ss.length=i∧∀ s ∈ ss,StaOk s)
   ⟨[],[],Same.new nD,upd_same,.nil,rfl,fun s h=>absurd h zK⟩ ?_ ?_
  ·rintro i H4 m Wf hi ⟨xs,ss,s4,h4,pr,el,ok⟩ nx
   refine⟨_,rfl,_,rfl,_,_,rfl,rfl,a,ns,_,rfl,s4.seq hS,by omega,fun c=>⟨_,rfl,c,_,rfl,fun r r0 r1=>⟨r,rfl,fun p st H6 hp okp s6=>?_⟩⟩⟩
   have lx:=pr.length
   refine⟨_,s6 _ _ h4,small1000 (by omega),nx _ ⟨xs++[.ref p],ss++[st],(s4.trans s6).upd nD,upd_same,?_,by rw[zM,el]; rfl,all_snoc ok okp⟩⟩
   exact paired_app (pairedMono (fun _ _ h=>(IsSta.same s6 h).keep (s6 _ _ h4)) pr) (.cons (IsSta.keep (s6 _ _ h4) ⟨p,rfl,hp⟩) .nil)
  ·rintro H4 ⟨xs,ss,s4,h4,prS,elS,okS⟩
   have elS':(ss.length:Int)=M:=by omega
   refine⟨z5 _,fun D1 nD1=>?_⟩
   refine⟨_,rfl,_,_,rfl,rfl,⟨by decide,by decide⟩,_,_,rfl,rfl,(show(0:Int) < 8 by decide),?_⟩
   have hb0:=y4 (c0 / 5) (show(8:Int) ≠ 0 by decide)
   have hb1:=yW (c0 / 5) (show(0:Int) < 8 by decide)
   generalize c0 / 5 % 8=B at hb0 hb1 ⊢
   refine⟨_,rfl,by rw[p62]; omega,by rw[p62]; omega,for_range (n:=B.toNat) (fun i σ H5=>∃(v5 v6:Option V) (ys:List V) (be:List Tri),σ=[some (.ref a),some (.int c0),some (.int M),some (.ref D),some (.ref D1),v5,v6,none]∧Same H4 H5∧H5 D1=some (.lst ys)∧Paired (IsTri H5) ys be∧be.length=i∧∀ t ∈ be,0≤t.1∧t.1 < M∧0≤t.2.1∧t.2.1 < M∧1≤t.2.2∧t.2.2≤9)
    ⟨_,_,[],[],rfl,Same.new nD1,upd_same,.nil,rfl,fun s h=>absurd h zK⟩ ?_ ?_⟩
   ·rintro i σ H5 hi ⟨v5,v6,ys,be,rfl,s5,h5,pr,el,ok⟩
    refine⟨_,rfl,_,rfl,_,_,rfl,rfl,a,ns,_,rfl,(s4.trans s5).seq hS,by omega,fun c=>⟨_,rfl,_,_,rfl,rfl,c,_,rfl,fun r r0 r1=>?_⟩⟩
    have lx:=pr.length
    refine⟨_,rfl,tyL h5,_,rfl,_,rfl,_,_,rfl,rfl,(show(0:Int) < M by omega),?_⟩
    refine⟨_,rfl,_,_,rfl,rfl,⟨by decide,by decide⟩,_,rfl,_,_,rfl,rfl,(show(0:Int) < M by omega),?_⟩
    refine⟨_,rfl,_,_,rfl,rfl,⟨by decide,by decide⟩,_,_,rfl,rfl,(show(0:Int) < 3 by decide),_,_,rfl,rfl,(by show 3≤sizeLine; decide),fun t nt=>?_⟩
    have s6:Same H5 (upd H5 t (.tup (triV (r % M,r / 7 % M,1 + r / 49 % 3)))):=Same.new nt
    refine⟨_,_,_,rfl,rfl,s6 _ _ h5,small1000 (by omega),?_⟩
    refine⟨_,_,ys++[.ref t],be++[(r % M,r / 7 % M,1 + r / 49 % 3)],rfl,(s5.trans s6).upd nD1,upd_same,?_,by rw[zM,el]; rfl,all_snoc ok ⟨y4 _ (by omega),yW _ (by omega),y4 _ (by omega),yW _ (by omega),by show 1≤1 + r / 49 % 3; omega,by show 1 + r / 49 % 3≤9; omega⟩⟩
    exact paired_app (pairedMono (fun _ _ h=>(IsTri.same s6 h).keep (s6 _ _ h5)) pr) (.cons (IsTri.keep (s6 _ _ h5) ⟨t,rfl,upd_same⟩) .nil)
   ·rintro σ H5 ⟨v5,v6,ys,be,rfl,s5,h5,prB,elB,okB⟩
    have s05:=s4.trans s5
    refine⟨z5 _,fun D2 nD2=>?_⟩
    refine⟨_,rfl,_,_,rfl,rfl,⟨by decide,by decide⟩,_,_,rfl,rfl,(show(0:Int) < 7 by decide),_,_,rfl,rfl,?_⟩
    have hf0:=y4 (c0 / 40) (show(7:Int) ≠ 0 by decide)
    have hf1:=yW (c0 / 40) (show(0:Int) < 7 by decide)
    generalize c0 / 40 % 7=N at hf0 hf1 ⊢
    refine⟨_,rfl,by rw[p62]; omega,by rw[p62]; omega,for_range (n:=(1 + N).toNat) (fun i σ H7=>∃(v5 v6:Option V) (zs:List V) (fe:List Tri),σ=[some (.ref a),some (.int c0),some (.int M),some (.ref D),some (.ref D1),v5,v6,some (.ref D2)]∧Same H5 H7∧H7 D2=some (.lst zs)∧Paired (IsTri H7) zs fe∧fe.length=i∧∀ t ∈ fe,0≤t.1∧t.1 < M∧0≤t.2.1∧t.2.1≤50∧-1000000000≤t.2.2∧t.2.2≤1000000000)
     ⟨_,_,[],[],rfl,Same.new nD2,upd_same,.nil,rfl,fun s h=>absurd h zK⟩ ?_ ?_⟩
    ·rintro i σ H7 hi ⟨v5,v6,zs,fe,rfl,s7,h7,pr,el,ok⟩
     refine⟨_,rfl,_,rfl,_,_,rfl,rfl,a,ns,_,rfl,(s05.trans s7).seq hS,by omega,fun c=>⟨_,rfl,_,_,rfl,rfl,c,_,rfl,fun r r0 r1=>?_⟩⟩
     have lx:=pr.length
     refine⟨_,rfl,tyL h7,_,rfl,_,rfl,_,_,rfl,rfl,(show(0:Int) < M by omega),?_⟩
     refine⟨_,rfl,_,_,rfl,rfl,⟨by decide,by decide⟩,_,_,rfl,rfl,(show(0:Int) < 7 by decide),?_⟩
     infer_instance
     refine⟨(by show 3≤sizeLine; decide),fun t nt=>?_⟩
     have s8:Same H7 (upd H7 t (.tup (triV (r % M,r / 7 % 7,r / 49 % 10000000 - 5000000)))):=Same.new nt
     refine⟨_,_,_,rfl,rfl,s8 _ _ h7,small1000 (by omega),?_⟩
     refine⟨_,_,zs++[.ref t],fe++[(r % M,r / 7 % 7,r / 49 % 10000000 - 5000000)],rfl,(s7.trans s8).upd nD2,upd_same,?_,by rw[zM,el]; rfl,all_snoc ok ⟨y4 _ (by omega),yW _ (by omega),by show 0≤r / 7 % 7; omega,by show r / 7 % 7≤50; omega,by show -1000000000≤r / 49 % 10000000 - 5000000; omega,by show r / 49 % 10000000 - 5000000≤1000000000; omega⟩⟩
     exact paired_app (pairedMono (fun _ _ h=>(IsTri.same s8 h).keep (s8 _ _ h7)) pr) (.cons (IsTri.keep (s8 _ _ h7) ⟨t,rfl,upd_same⟩) .nil)
    ·rintro σ H7 ⟨v5',v6',zs,fe,rfl,s7,h7,prF,elF,okF⟩
     refine⟨_,rfl,_,rfl,_,rfl,(by show 3≤sizeLine; decide),fun wt nw=>?_⟩
     have sw:Same H7 (upd H7 wt (.tup [.ref D,.ref D1,.ref D2])):=Same.new nw
     have s5w:=s7.trans sw
     have s4w:=s5.trans s5w
     refine q wt ⟨ss,be,fe⟩ _ ⟨D,D1,D2,xs,ys,zs,upd_same,⟨s4w _ _ h4,s5w _ _ h5,sw _ _ h7,pairedMono (fun _ _=>IsSta.same s4w) prS,pairedMono (fun _ _=>IsTri.same s5w) prB,pairedMono (fun _ _=>IsTri.same sw) prF⟩⟩ ⟨?_,?_,?_,?_,okS,?_,?_⟩ ?_ (s4.trans s4w)
     ·show 1≤ss.length; omega
     ·show ss.length≤8; omega
     ·show be.length≤12; omega
     ·show fe.length≤60; omega
     ·intro t h
      have:=okB t h
      show 0≤t.1∧t.1 < (ss.length:Int)∧0≤t.2.1∧t.2.1 < (ss.length:Int)∧1≤t.2.2∧t.2.2≤9
      rw[elS']
      exact this
     ·intro t h
      have:=okF t h
      show 0≤t.1∧t.1 < (ss.length:Int)∧0≤t.2.1∧t.2.1≤50∧-1000000000≤t.2.2∧t.2.2≤1000000000
      rw[elS']
      exact this
     ·show fe.length≤7; omega
end
end Oc
namespace Oc
open PySem L2
theorem wb:¬ (("ways":Str)="belts"):=by decide +kernel
def fS (p1 p2:Addr):List (Str × V):=putF "belts" (.ref p2) (putF "ways" (.ref p1) [])
theorem fS_belts (p1 p2:Addr):(fS p1 p2).lookup ("belts":Str)=some (.ref p2):=by
 unfold fS
 rw[lookup_putF,if_pos rfl]
theorem c4 (p1 p2:Addr):(fS p1 p2).lookup ("ways":Str)=some (.ref p1):=by
 unfold fS
 rw[lookup_putF,if_neg wb,lookup_putF,if_pos rfl]
theorem fS_no (p1 p2:Addr) {m:Str} (h1:¬ m="belts") (h2:¬ m="ways"):(fS p1 p2).lookup m=none:=by
 unfold fS
 rw[lookup_putF,if_neg h1,lookup_putF,if_neg h2]
 rfl
theorem fS_len (p1 p2:Addr):(fS p1 p2).length≤2:=by
 have h1:=length_putF "ways" (.ref p1) []
 have h2:=length_putF "belts" (.ref p2) (putF "ways" (.ref p1) [])
 have h3:([]:List (Str × V)).length=0:=rfl
 unfold fS
 omega
structure StC (K:PySem.W.Frag) (C:Addr):Prop where
 cl:Cls K C
 nW:NoAttr K C "ways"
 nB:NoAttr K C "belts"
inductive spStI (K:PySem.W.Frag) (vs:List V) (H:Hp) (Q:VK) (x_3:XK):Prop where
 | mk (p wa b C dx:Addr) (xs ys:List V) (M:List (List Cell)) (h_0:vs=[.ref p,.ref wa,.ref b]) (h_1:Hc H ([(p,.ins C dx [])]::M)) (h_2:StC K C) (h_3:SqL K H wa xs) (h_4:SqL K H b ys) (h_5:wa ≠ p) (h_6:b ≠ p) (h_7:∀(p1 p2:Addr) (H':Hp),Keep [p] H H'→Hc H' ([(p,.ins C dx (fS p1 p2)),(p1,.tup xs),(p2,.tup ys)]::M)→Q .non H'):spStI K vs H Q x_3
inductive spOne (K:PySem.W.Frag) (vs:List V) (H:Hp) (Q:VK) (x_3:XK):Prop where
 | mk (p C dx bt:Addr) (fs:List (Str × V)) (ys:List V) (z:Int) (h_0:vs=[.ref p,.int z]) (h_1:H p=some (.ins C dx fs)) (h_2:StC K C) (h_3:fs.lookup ("belts":Str)=some (.ref bt)) (h_4:H bt=some (.tup ys)) (h_5:(ys=[]→Q .non H)) (h_6:(∀ y r t,ys=y::r→H t=none→Q (.ref t) (upd H t (.tup [y,.int z])))):spOne K vs H Q x_3
section
variable {P:Program} {w:World} {K:PySem.W.Frag} {mg:Str→Option Value} {base:Heap}
theorem sc_stI:FnScope ["self","ways","belts"] ["self","ways","belts"] (defScope (inClass (top 9) 0)):=⟨rfl,rfl,rfl,by decide +kernel,rfl,by decide +kernel,by decide +kernel⟩
theorem ok_stI {f:Addr} {fd:FuncData} (F:Fun K "__init__" "Station.__init__" (inClass (top 9) 0) f fd) (T:Txt K mg):FnOk P w K mg base CX0 1 f fd ["self","ways","belts"] (spStI K):=by
 have nd:=sc_stI.nd
 refine F.ok sc_stI (fun vs H Q E h=>?_) (fun cdv A outer s H vs Q E hr h=>?_)
 ·obtain⟨p,wa,b,C,dx,xs,ys,M,rfl,_⟩:=h
  rfl
 ·obtain⟨p,wa,b,C,dx,xs,ys,M,rfl,hc,c,hw,hb,n1,n2,q⟩:=h
  refine⟨_,(@pss_cons _ _ _ _ _ (ps_fld (pv 0) (pe_callTy call_tuple_of (by rfl) T.n_tuple bt_tuple (@pa_cons _ _ _ _ _ (pv 1) pa_nil (by rfl))) rfl)
   (@pss_one _ _ _ (ps_fld (pv 0) (pe_callTy call_tuple_of (by rfl) T.n_tuple bt_tuple (@pa_cons _ _ _ _ _ (pv 2) pa_nil (by rfl))) rfl))),?_⟩
  refine⟨_,rfl,wa,xs,rfl,.inl ⟨hw,fun p1 f1=>?_⟩⟩
  have hc1:=hc.new f1 (.tup xs)
  have hp:=hc.get 0 0 rfl rfl
  refine⟨_,rfl,p,C,dx,[],rfl,hc1.get 1 0 rfl rfl,c.cl,c.nW,(by show 0 < 1000; decide),?_⟩
  have hc2:=hc1.put 1 0 rfl rfl (.ins C dx (putF "ways" (.ref p1) []))
  have hb1:SqL K (upd (upd H p1 (.tup xs)) p (.ins C dx (putF "ways" (.ref p1) []))) b ys:=by
   have k1:∀ o,H b=some o→upd (upd H p1 (.tup xs)) p (.ins C dx (putF "ways" (.ref p1) [])) b=some o:=fun o e=>by
    rw[upd_ne n2,upd_ne (ne_of_none e f1)]
    exact e
   rcases hb with (h|⟨o,h⟩)|h
   ·exact .inl (.inl (k1 _ h))
   ·exact .inl (.inr ⟨o,k1 _ h⟩)
   ·exact .inr h
  refine⟨_,rfl,b,ys,rfl,.inl ⟨hb1,fun p2 f2=>?_⟩⟩
  have hc3:=hc2.new f2 (.tup ys)
  refine⟨_,rfl,p,C,dx,_,rfl,hc3.get 2 0 rfl rfl,c.cl,c.nB,?_,?_⟩
  ·have h1:=length_putF "ways" (.ref p1) []
   have h3:([]:List (Str × V)).length=0:=rfl
   omega
  ·have hc4:Hc _ ([(p2,.tup ys)]::[(p1,.tup xs)]::[(p,.ins C dx (fS p1 p2))]::M):=hc3.put 2 0 rfl rfl (.ins C dx (fS p1 p2))
   have hc5:Hc _ ([(p,.ins C dx (fS p1 p2))]::[(p1,.tup xs)]::[(p2,.tup ys)]::M):=(hc4.pick 1 rfl).pick 2 rfl
   exact q p1 p2 _ (((((Keep.same (Same.refl H)).new' f1).upd (yT _)).new' f2).upd (yT _)) hc5.join.join
theorem sc_one:FnScope ["self","piece"] ["self","piece"] (defScope (inClass (top 9) 2)):=⟨rfl,rfl,rfl,by decide +kernel,rfl,by decide +kernel,by decide +kernel⟩
theorem ok_one {f:Addr} {fd:FuncData} (F:Fun K "on_first" "Station.on_first" (inClass (top 9) 2) f fd) (T:Txt K mg):FnOk P w K mg base CX0 1 f fd ["self","piece"] (spOne K):=by
 have nd:=sc_one.nd
 refine F.ok sc_one (fun vs H Q E h=>?_) (fun cdv A outer s H vs Q E hr h=>?_)
 ·obtain⟨p,C,dx,bt,fs,ys,z,rfl,_⟩:=h
  rfl
 ·obtain⟨p,C,dx,bt,fs,ys,z,rfl,hp,c,hf,ht,q0,q1⟩:=h
  refine⟨_,(@pss_one _ _ _ (@ps_ret _ _ _ _ (pe_ifExp (pt_cmpR op_gt (pe_callB (call_len_seqK (K:=K) rfl) (by rfl) T.n_len bt_len (@pa_cons _ _ _ _ _ (pe_fldK (K:=K) rfl (pv 0) rfl) pa_nil (by rfl))) pe_int (nomark _)) (@pe_tup _ _ _ _ _ (@pa_cons _ _ _ _ _ (@pe_ix _ _ _ _ _ _ _ (ix_tupK (K:=K) rfl) (pe_fldK (K:=K) rfl (pv 0) rfl) pe_int (fun _ _=>rfl)) (@pa_cons _ _ _ _ _ (pv 1) pa_nil (by rfl)) (by rfl))) pe_non))),?_⟩
  refine⟨_,rfl,p,C,dx,_,_,rfl,hp,c.cl,c.nB,hf,bt,_,rfl,.inr (SqT.of ht),?_⟩
  infer_instance
  cases ys with
  | nil=>exact iteF (q0 rfl)
  | cons y r =>
   have e:decide ((0:Int) < ((y::r).length:Int))=true:=by
    rw[zX]
    exact decide_eq_true (by omega)
   rw[e]
   refine iteT ?_
   refine⟨_,rfl,p,C,dx,_,_,rfl,hp,c.cl,c.nB,hf,bt,_,_,_,rfl,rfl,SqT.of ht,atI_nat (j:=0) rfl,_,rfl,(by show 2≤sizeLine; decide),fun t ht=>?_⟩
   exact q1 y r t rfl ht
end
end Oc
namespace Oc
open PySem L2
def fR (p1 p2:Addr) (m:Int):List (Str × V):=putF "more" (.int m) (fS p1 p2)
theorem bm:¬ (("belts":Str)="more"):=by decide +kernel
theorem fR_more (p1 p2:Addr) (m:Int):(fR p1 p2 m).lookup ("more":Str)=some (.int m):=by
 unfold fR
 rw[lookup_putF,if_pos rfl]
theorem fR_belts (p1 p2:Addr) (m:Int):(fR p1 p2 m).lookup ("belts":Str)=some (.ref p2):=by
 unfold fR
 rw[lookup_putF,if_neg bm,fS_belts]
theorem fR_no (p1 p2:Addr) (m:Int) {x:Str} (h0:¬ x="more") (h1:¬ x="belts") (h2:¬ x="ways"):(fR p1 p2 m).lookup x=none:=by
 unfold fR
 rw[lookup_putF,if_neg h0,fS_no _ _ h1 h2]
structure RlC (K:PySem.W.Frag) (C:Addr):Prop where
 st:StC K C
 nM:NoAttr K C "more"
inductive spRlI (K:PySem.W.Frag) (vs:List V) (H:Hp) (Q:VK) (x_3:XK):Prop where
 | mk (p wa b C dx:Addr) (xs ys:List V) (m:Int) (M:List (List Cell)) (h_0:vs=[.ref p,.ref wa,.ref b,.int m]) (h_1:Hc H ([(p,.ins C dx [])]::M)) (h_2:RlC K C) (h_3:SqL K H wa xs) (h_4:SqL K H b ys) (h_5:wa ≠ p) (h_6:b ≠ p) (h_7:∀(p1 p2:Addr) (H':Hp),Keep [p] H H'→Hc H' ([(p,.ins C dx (fR p1 p2 m)),(p1,.tup xs),(p2,.tup ys)]::M)→Q .non H'):spRlI K vs H Q x_3
inductive spRlT (C:Addr) (vs:List V) (H:Hp) (Q:VK) (x_3:XK):Prop where
 | mk (p dx p1 p2:Addr) (m z:Int) (wy:V) (ys:List V) (h_0:vs=[.ref p,wy,.int z]) (h_1:H p=some (.ins C dx (fR p1 p2 m))) (h_2:H p2=some (.tup ys)) (h_3:(ys=[]→Q .non H)) (h_4:(∀ y r t,ys=y::r→H t=none→Q (.ref t) (upd H t (.tup [y,.int (z + m)])))):spRlT C vs H Q x_3
section
variable {P:Program} {w:World} {K:PySem.W.Frag} {mg:Str→Option Value} {base:Heap}
theorem sc_rlI:FnScope ["self","ways","belts","more"] ["self","ways","belts","more"] (defScope (inClass (top 10) 0)):=⟨rfl,rfl,rfl,by decide +kernel,rfl,by decide +kernel,by decide +kernel⟩
theorem ok_rlI {f cS:Addr} {fd:FuncData} (F:Fun K "__init__" "Relay.__init__" (inClass (top 10) 0) f fd) (aw:mg "Station"=some (.ref cS)) (ak:ClsAt P w K mg base 1 cS "__init__" ["self","ways","belts"] (spStI K)) :
  FnOk P w K mg base CX0 2 f fd ["self","ways","belts","more"] (spRlI K):=by
 have nd:=sc_rlI.nd
 refine F.ok sc_rlI (fun vs H Q E h=>?_) (fun cdv A outer s H vs Q E hr h=>?_)
 ·obtain⟨p,wa,b,C,dx,xs,ys,m,M,rfl,_⟩:=h
  rfl
 ·obtain⟨p,wa,b,C,dx,xs,ys,m,M,rfl,hc,c,hw,hb,n1,n2,q⟩:=h
  refine⟨_,(@pss_cons _ _ _ _ _ (ps_expr (pe_clsm' rfl aw ak (hr.mono (by decide)) (@pa_cons _ _ _ _ _ (pv 0) (@pa_cons _ _ _ _ _ (pv 1) (@pa_cons _ _ _ _ _ (pv 2) pa_nil (by rfl)) (by rfl)) (by rfl))))
   (@pss_one _ _ _ (ps_fld (pv 0) (pv 3) rfl))),?_⟩
  refine⟨_,rfl,_,rfl,_,rfl,p,wa,b,C,dx,xs,ys,M,rfl,hc,c.st,hw,hb,n1,n2,fun p1 p2 H' kp hc1=>?_⟩
  refine⟨_,rfl,_,rfl,p,C,dx,_,rfl,hc1.get 0 0 rfl rfl,c.st.cl,c.nM,?_,?_⟩
  ·have:=fS_len p1 p2
   omega
  ·exact q p1 p2 _ (kp.upd (yT _)) (hc1.put 0 0 rfl rfl _)
theorem sc_rlT:FnScope ["self","way","piece"] ["self","way","piece"] (defScope (inClass (top 10) 1)):=⟨rfl,rfl,rfl,by decide +kernel,rfl,by decide +kernel,by decide +kernel⟩
theorem ok_rlT {f C:Addr} {fd:FuncData} (F:Fun K "take" "Relay.take" (inClass (top 10) 1) f fd) (c:RlC K C) (G_on_first:MethAt P w K mg base 1 C "on_first" ["self","piece"] (spOne K)) :
  FnOk P w K mg base CX0 2 f fd ["self","way","piece"] (spRlT C):=by
 have nd:=sc_rlT.nd
 refine F.ok sc_rlT (fun vs H Q E h=>?_) (fun cdv A outer s H vs Q E hr h=>?_)
 ·obtain⟨p,dx,p1,p2,m,z,wy,ys,rfl,_⟩:=h
  rfl
 ·obtain⟨p,dx,p1,p2,m,z,wy,ys,rfl,hp,ht,q0,q1⟩:=h
  refine⟨_,(@pss_one _ _ _ (@ps_ret _ _ _ _ (pe_mth G_on_first (hr.mono (by decide)) (pv 0) (@pa_cons _ _ _ _ _ (pe_op op_add (pv 2) (pe_fldK (K:=K) rfl (pv 0) rfl)) pa_nil (by rfl))))),?_⟩
  refine⟨_,rfl,p,dx,_,rfl,hp,fR_no _ _ _ (by decide +kernel) (by decide +kernel) (by decide +kernel),_,rfl,_,rfl,p,C,dx,_,_,rfl,hp,c.st.cl,c.nM,fR_more _ _ _,_,_,rfl,rfl,?_⟩
  exact⟨p,C,dx,p2,_,ys,_,rfl,hp,c.st,fR_belts _ _ _,ht,q0,q1⟩
end
end Oc
namespace Oc
open PySem L2
inductive spSrT (C:Addr) (vs:List V) (H:Hp) (Q:VK) (x_3:XK):Prop where
 | mk (p dx p1 p2:Addr) (z:Int) (wy:V) (bs:List Int) (h_0:vs=[.ref p,wy,.int z]) (h_1:H p=some (.ins C dx (fS p1 p2))) (h_2:H p2=some (.tup (bs.map V.int))) (h_3:(bs=[]→Q .non H)) (h_4:(∀(y:Int) (t:Addr),bs ≠ []→bs[(z % (bs.length:Int)).toNat]?=some y→H t=none→Q (.ref t) (upd H t (.tup [.int y,.int z])))):spSrT C vs H Q x_3
section
variable {P:Program} {w:World} {K:PySem.W.Frag} {mg:Str→Option Value} {base:Heap}
theorem sc_srT:FnScope ["self","way","piece"] ["self","way","piece"] (defScope (inClass (top 11) 0)):=⟨rfl,rfl,rfl,by decide +kernel,rfl,by decide +kernel,by decide +kernel⟩
theorem ok_srT {f C:Addr} {fd:FuncData} (F:Fun K "take" "Sorter.take" (inClass (top 11) 0) f fd) (T:Txt K mg) (c:StC K C):FnOk P w K mg base CX0 1 f fd ["self","way","piece"] (spSrT C):=by
 have nd:=sc_srT.nd
 refine F.ok sc_srT (fun vs H Q E h=>?_) (fun cdv A outer s H vs Q E hr h=>?_)
 ·obtain⟨p,dx,p1,p2,z,wy,bs,rfl,_⟩:=h
  rfl
 ·obtain⟨p,dx,p1,p2,z,wy,bs,rfl,hp,ht,q0,q1⟩:=h
  refine⟨_,(@pss_cons _ _ _ _ _ (ps_if (pt_cmpR op_eq (pe_callB (call_len_seqK (K:=K) rfl) (by rfl) T.n_len bt_len (@pa_cons _ _ _ _ _ (pe_fldK (K:=K) rfl (pv 0) rfl) pa_nil (by rfl))) pe_int (nomark _)) (@pss_one _ _ _ (@ps_ret _ _ _ _ pe_non)) pss_nil)
   (@pss_one _ _ _ (@ps_ret _ _ _ _ (@pe_tup _ _ _ _ _ (@pa_cons _ _ _ _ _ (@pe_ix _ _ _ _ _ _ _ (ix_tupK (K:=K) rfl) (pe_fldK (K:=K) rfl (pv 0) rfl) (pe_op op_mod (pv 2) (pe_callB (call_len_seqK (K:=K) rfl) (by rfl) T.n_len bt_len (@pa_cons _ _ _ _ _ (pe_fldK (K:=K) rfl (pv 0) rfl) pa_nil (by rfl)))) (fun _ _=>rfl)) (@pa_cons _ _ _ _ _ (pv 2) pa_nil (by rfl)) (by rfl)))))),?_⟩
  refine⟨_,rfl,p,C,dx,_,_,rfl,hp,c.cl,c.nB,fS_belts _ _,p2,_,rfl,.inr (SqT.of ht),rfl,_,rfl,?_⟩
  rw[zD]
  cases bs with
  | nil=>exact iteT (q0 rfl)
  | cons b0 bs =>
   have hl:(0:Int) < ((b0::bs).length:Int):=by rw[zX]; omega
   have e:decide (V.int (((b0::bs).length:Nat):Int)=V.int 0)=false:=decide_eq_false fun h=>by
    have:=V.int.inj h
    omega
   rw[e]
   refine iteF ?_
   refine⟨_,rfl,p,C,dx,_,_,rfl,hp,c.cl,c.nB,fS_belts _ _,_,rfl,_,rfl,p,C,dx,_,_,rfl,hp,c.cl,c.nB,fS_belts _ _,p2,_,rfl,.inr (SqT.of ht),_,_,rfl,rfl,(by rw[zD]; exact hl),?_⟩
   rw[zD]
   have d0:=y4 z (Int.ne_of_gt hl)
   have d1:=yW z hl
   obtain⟨j,hj⟩:∃ j:Nat,z % ((b0::bs).length:Int)=(j:Int):=⟨(z % ((b0::bs).length:Int)).toNat,by omega⟩
   obtain⟨y,hy⟩:∃ y,(b0::bs)[j]?=some y:=⟨(b0::bs)[j]'(by omega),zB _⟩
   refine ixT ht (atI_map hj hy) ⟨_,rfl,(by show 2≤sizeLine; decide),fun t nt=>?_⟩
   exact q1 y t (by simp) (by rw[hj]; exact hy) nt
end
end Oc
namespace Oc
open PySem L2
theorem putF_twice (f:Str) (u v:V):∀ fs:List (Str × V),putF f v (putF f u fs)=putF f v fs
 | []=>by
  show(if f=f then [(f,v)] else (f,u)::putF f v [])=[(f,v)]
  rw[if_pos rfl]
 | (g,x)::r=>by
  show putF f v (if g=f then (g,u)::r else (g,x)::putF f u r)=if g=f then (g,v)::r else (g,x)::putF f v r
  by_cases h:g=f
  ·rw[if_pos h,if_pos h]
   show(if g=f then (g,v)::r else (g,u)::putF f v r)=_
   rw[if_pos h]
  ·rw[if_neg h,if_neg h]
   show(if g=f then (g,v)::putF f u r else (g,x)::putF f v (putF f u r))=_
   rw[if_neg h,putF_twice f u v r]
def fT (p1 p2:Addr) (e n:Int):List (Str × V):=putF "seen" (.int n) (putF "every" (.int e) (fS p1 p2))
theorem se:¬ (("every":Str)="seen"):=by decide +kernel
theorem sb:¬ (("belts":Str)="seen"):=by decide +kernel
theorem eb':¬ (("belts":Str)="every"):=by decide +kernel
theorem fT_seen (p1 p2:Addr) (e n:Int):(fT p1 p2 e n).lookup ("seen":Str)=some (.int n):=by
 unfold fT
 rw[lookup_putF,if_pos rfl]
theorem fT_every (p1 p2:Addr) (e n:Int):(fT p1 p2 e n).lookup ("every":Str)=some (.int e):=by
 unfold fT
 rw[lookup_putF,if_neg se,lookup_putF,if_pos rfl]
theorem fT_belts (p1 p2:Addr) (e n:Int):(fT p1 p2 e n).lookup ("belts":Str)=some (.ref p2):=by
 unfold fT
 rw[lookup_putF,if_neg sb,lookup_putF,if_neg eb',fS_belts]
theorem fT_no (p1 p2:Addr) (e n:Int) {x:Str} (h0:¬ x="seen") (h3:¬ x="every") (h1:¬ x="belts") (h2:¬ x="ways"):(fT p1 p2 e n).lookup x=none:=by
 unfold fT
 rw[lookup_putF,if_neg h0,lookup_putF,if_neg h3,fS_no _ _ h1 h2]
theorem fT_put (p1 p2:Addr) (e n m:Int):putF "seen" (.int m) (fT p1 p2 e n)=fT p1 p2 e m:=putF_twice _ _ _ _
theorem fT_len (p1 p2:Addr) (e n:Int):(fT p1 p2 e n).length≤4:=by
 have h1:=fS_len p1 p2
 have h2:=length_putF "every" (.int e) (fS p1 p2)
 have h3:=length_putF "seen" (.int n) (putF "every" (.int e) (fS p1 p2))
 unfold fT
 omega
structure ThC (K:PySem.W.Frag) (C:Addr):Prop where
 st:StC K C
 nE:NoAttr K C "every"
 nN:NoAttr K C "seen"
inductive spThI (K:PySem.W.Frag) (vs:List V) (H:Hp) (Q:VK) (x_3:XK):Prop where
 | mk (p wa b C dx:Addr) (xs ys:List V) (m:Int) (M:List (List Cell)) (h_0:vs=[.ref p,.ref wa,.ref b,.int m]) (h_1:Hc H ([(p,.ins C dx [])]::M)) (h_2:ThC K C) (h_3:SqL K H wa xs) (h_4:SqL K H b ys) (h_5:wa ≠ p) (h_6:b ≠ p) (h_7:∀(p1 p2:Addr) (H':Hp),Keep [p] H H'→Hc H' ([(p,.ins C dx (fT p1 p2 m 0)),(p1,.tup xs),(p2,.tup ys)]::M)→Q .non H'):spThI K vs H Q x_3
inductive spThT (C:Addr) (vs:List V) (H:Hp) (Q:VK) (x_3:XK):Prop where
 | mk (p dx p1 p2:Addr) (m n z:Int) (wy:V) (ys:List V) (h_0:vs=[.ref p,wy,.int z]) (h_1:H p=some (.ins C dx (fT p1 p2 m n))) (h_2:H p2=some (.tup ys)) (h_3:2≤m) (h_4:((n + 1) % m=0∨ys=[]→Q .non (upd H p (.ins C dx (fT p1 p2 m (n + 1)))))) (h_5:(∀ y r t,¬ (n + 1) % m=0→ys=y::r→H t=none→Q (.ref t) (upd (upd H p (.ins C dx (fT p1 p2 m (n + 1)))) t (.tup [y,.int z])))):spThT C vs H Q x_3
section
variable {P:Program} {w:World} {K:PySem.W.Frag} {mg:Str→Option Value} {base:Heap}
theorem sc_thI:FnScope ["self","ways","belts","every"] ["self","ways","belts","every"] (defScope (inClass (top 12) 0)):=⟨rfl,rfl,rfl,by decide +kernel,rfl,by decide +kernel,by decide +kernel⟩
theorem ok_thI {f cS:Addr} {fd:FuncData} (F:Fun K "__init__" "Thinner.__init__" (inClass (top 12) 0) f fd) (aw:mg "Station"=some (.ref cS)) (ak:ClsAt P w K mg base 1 cS "__init__" ["self","ways","belts"] (spStI K)) :
  FnOk P w K mg base CX0 2 f fd ["self","ways","belts","every"] (spThI K):=by
 have nd:=sc_thI.nd
 refine F.ok sc_thI (fun vs H Q E h=>?_) (fun cdv A outer s H vs Q E hr h=>?_)
 ·obtain⟨p,wa,b,C,dx,xs,ys,m,M,rfl,_⟩:=h
  rfl
 ·obtain⟨p,wa,b,C,dx,xs,ys,m,M,rfl,hc,c,hw,hb,n1,n2,q⟩:=h
  refine⟨_,(@pss_cons _ _ _ _ _ (ps_expr (pe_clsm' rfl aw ak (hr.mono (by decide)) (@pa_cons _ _ _ _ _ (pv 0) (@pa_cons _ _ _ _ _ (pv 1) (@pa_cons _ _ _ _ _ (pv 2) pa_nil (by rfl)) (by rfl)) (by rfl))))
   (@pss_cons _ _ _ _ _ (ps_fld (pv 0) (pv 3) rfl)
   (@pss_one _ _ _ (ps_fld (pv 0) pe_int rfl)))),?_⟩
  refine⟨_,rfl,_,rfl,_,rfl,p,wa,b,C,dx,xs,ys,M,rfl,hc,c.st,hw,hb,n1,n2,fun p1 p2 H' kp hc1=>?_⟩
  have l1:=fS_len p1 p2
  have l2:=length_putF "every" (.int m) (fS p1 p2)
  refine⟨_,rfl,_,rfl,p,C,dx,_,rfl,hc1.get 0 0 rfl rfl,c.st.cl,c.nE,by omega,?_⟩
  have hc2:=hc1.put 0 0 rfl rfl (.ins C dx (putF "every" (.int m) (fS p1 p2)))
  refine⟨_,rfl,p,C,dx,_,rfl,upd_same,c.st.cl,c.nN,by omega,?_⟩
  exact q p1 p2 _ ((kp.upd (yT _)).upd (yT _)) (hc2.put 0 0 rfl rfl _)
theorem sc_thT:FnScope ["self","way","piece"] ["self","way","piece"] (defScope (inClass (top 12) 1)):=⟨rfl,rfl,rfl,by decide +kernel,rfl,by decide +kernel,by decide +kernel⟩
theorem ok_thT {f C:Addr} {fd:FuncData} (F:Fun K "take" "Thinner.take" (inClass (top 12) 1) f fd) (c:ThC K C) (G_on_first:MethAt P w K mg base 1 C "on_first" ["self","piece"] (spOne K)) :
  FnOk P w K mg base CX0 2 f fd ["self","way","piece"] (spThT C):=by
 have nd:=sc_thT.nd
 refine F.ok sc_thT (fun vs H Q E h=>?_) (fun cdv A outer s H vs Q E hr h=>?_)
 ·obtain⟨p,dx,p1,p2,m,n,z,wy,ys,rfl,_⟩:=h
  rfl
 ·obtain⟨p,dx,p1,p2,m,n,z,wy,ys,rfl,hp,ht,hm,q0,q1⟩:=h
  refine⟨_,(@pss_cons _ _ _ _ _ (ps_fld (pv 0) (pe_op op_add (pe_fldK (K:=K) rfl (pv 0) rfl) pe_int) rfl)
   (@pss_cons _ _ _ _ _ (ps_if ((pw_and (pt_cmpR op_ne (pe_fldK (K:=K) rfl (pv 0) rfl) pe_int (nomark _)) (pw_and1 (pt_cmpR op_eq (pe_op op_mod (pe_fldK (K:=K) rfl (pv 0) rfl) (pe_fldK (K:=K) rfl (pv 0) rfl)) pe_int (nomark _))))).pt (@pss_one _ _ _ (@ps_ret _ _ _ _ pe_non)) pss_nil)
   (@pss_one _ _ _ (@ps_ret _ _ _ _ (pe_mth G_on_first (hr.mono (by decide)) (pv 0) (@pa_cons _ _ _ _ _ (pv 2) pa_nil (by rfl))))))),?_⟩
  have l1:=fT_len p1 p2 m n
  refine⟨_,rfl,p,C,dx,_,_,rfl,hp,c.st.cl,c.nN,fT_seen _ _ _ _,_,_,rfl,rfl,_,rfl,p,C,dx,_,rfl,hp,c.st.cl,c.nN,by omega,?_⟩
  rw[fT_put]
  have h1:(upd H p (.ins C dx (fT p1 p2 m (n + 1)))) p=some (.ins C dx (fT p1 p2 m (n + 1))):=upd_same
  have np2:p2 ≠ p:=ne_of ht hp (by intro z; cases z)
  have h2:(upd H p (.ins C dx (fT p1 p2 m (n + 1)))) p2=some (.tup ys):=by rw[upd_ne np2]; exact ht
  have hn:∀ t,(upd H p (.ins C dx (fT p1 p2 m (n + 1)))) t=none→H t=none:=fun t z=>by
   have:t ≠ p:=fun y=>by rw[y,h1] at z; cases z
   rw[upd_ne this] at z
   exact z
  generalize (upd H p (.ins C dx (fT p1 p2 m (n + 1))))=H1 at h1 h2 hn q0 q1 ⊢
  refine⟨_,rfl,p,C,dx,_,_,rfl,h1,c.st.cl,c.nE,fT_every _ _ _ _,rfl,_,rfl,?_⟩
  have e1:(!decide (V.int m=V.int 0))=true:=by
   rw[decide_eq_false (fun h=>by have:=V.int.inj h; omega)]
   rfl
  rw[e1]
  refine iteT ?_
  refine⟨_,rfl,p,C,dx,_,_,rfl,h1,c.st.cl,c.nN,fT_seen _ _ _ _,_,rfl,p,C,dx,_,_,rfl,h1,c.st.cl,c.nE,fT_every _ _ _ _,_,_,rfl,rfl,(show(0:Int) < m by omega),rfl,_,rfl,?_⟩
  refine ite2 (fun hz=>?_) (fun hz=>?_)
  ·exact q0 (.inl (V.int.inj (of_decide_eq_true hz)))
  ·have hz':¬ (n + 1) % m=0:=fun e=>hz (decide_eq_true (congrArg V.int e))
   refine⟨_,rfl,p,dx,_,rfl,h1,fT_no _ _ _ _ (by decide +kernel) (by decide +kernel) (by decide +kernel) (by decide +kernel),_,rfl,?_⟩
   exact⟨p,C,dx,p2,_,ys,_,rfl,h1,c.st,fT_belts _ _ _ _,h2,fun e=>q0 (.inr e),fun y r t e nt=>q1 y r t hz' e (hn t nt)⟩
end
end Oc
namespace Oc
open PySem L2
def ImmO:HO→Prop
 | .lst _=>False
 | .ins _ _ _=>False
 | .dK _=>False
 | _=>True
def Tk (H H':Hp):Prop:=∀ b u,H b=some u→ImmO u→H' b=some u
theorem Tk.of {H H':Hp} (s:Same H H'):Tk H H':=fun b u e _=>s b u e
theorem Tk.refl (H:Hp):Tk H H:=fun _ _ e _=>e
theorem Tk.trans {H H1 H2:Hp} (a:Tk H H1) (b:Tk H1 H2):Tk H H2:=fun c u e n=>b c u (a c u e n) n
theorem Tk.put {H H':Hp} {a:Addr} {u o:HO} (k:Tk H H') (e:H' a=some u) (hu:¬ ImmO u):Tk H (upd H' a o):=fun b v eb hv=>by
 have e1:=k b v eb hv
 rw[upd_ne (fun z=>by subst z; rw[e] at e1; cases e1; exact hu hv)]
 exact e1
theorem Tk.new {H H':Hp} {a:Addr} {o:HO} (k:Tk H H') (n:H' a=none):Tk H (upd H' a o):=k.trans (Tk.of (Same.new n))
theorem Tk.tup {H H':Hp} (k:Tk H H') {b:Addr} {xs:List V} (e:H b=some (.tup xs)):H' b=some (.tup xs):=k _ _ e trivial
theorem IsTri.tk {H H':Hp} (k:Tk H H') {x:V} {t:Tri} (h:IsTri H x t):IsTri H' x t:=let ⟨p,e,q⟩:=h; ⟨p,e,k.tup q⟩
theorem smallM {n:Nat} (h:n≤100000):n < sizeLine:=y6 h (by decide)
end Oc
namespace Oc
open PySem L2
theorem DGet.ki {H:Hp} {a:Addr} {kvs:List (Key × V)} {n:Int} {v:V} (e:H a=some (.dK kvs)) (h:valV kvs (Sum.inl n:Key)=some v):DGet H a (.int n) (some v):=by
 rw[← h]
 exact DGet.k (k:=Sum.inl n) e
def fJ (p1 p2 d:Addr):List (Str × V):=putF "kept" (.ref d) (fS p1 p2)
theorem kb_:¬ (("belts":Str)="kept"):=by decide +kernel
theorem kw_:¬ (("ways":Str)="kept"):=by decide +kernel
theorem fJ_kept (p1 p2 d:Addr):(fJ p1 p2 d).lookup ("kept":Str)=some (.ref d):=by
 unfold fJ
 rw[lookup_putF,if_pos rfl]
theorem fJ_belts (p1 p2 d:Addr):(fJ p1 p2 d).lookup ("belts":Str)=some (.ref p2):=by
 unfold fJ
 rw[lookup_putF,if_neg kb_,fS_belts]
theorem ix (p1 p2 d:Addr):(fJ p1 p2 d).lookup ("ways":Str)=some (.ref p1):=by
 unfold fJ
 rw[lookup_putF,if_neg kw_,c4]
theorem fJ_no (p1 p2 d:Addr) {x:Str} (h0:¬ x="kept") (h1:¬ x="belts") (h2:¬ x="ways"):(fJ p1 p2 d).lookup x=none:=by
 unfold fJ
 rw[lookup_putF,if_neg h0,fS_no _ _ h1 h2]
structure JnC (K:PySem.W.Frag) (C:Addr):Prop where
 st:StC K C
 nK:NoAttr K C "kept"
def jk (ws:List Int) (ls:List Addr):List (Key × V):=(ws.zip ls).map fun p=>(Sum.inl p.1,V.ref p.2)
def jrows (ls:List Addr) (rows:List (List Int)):List Cell:=rowsC ls (rows.map fun r=>HO.lst (r.map V.int))
def jobj (C dx p p1 p2 d:Addr) (ws:List Int) (ls:List Addr) (ys:List V):List Cell:=[(p,.ins C dx (fJ p1 p2 d)),(p1,.tup (ws.map V.int)),(p2,.tup ys),(d,.dK (jk ws ls))]
theorem jk_snoc {ws:List Int} {ls:List Addr} (h:ls.length=ws.length) (w:Int) (l:Addr):jk (ws++[w]) (ls++[l])=jk ws ls++[(Sum.inl w,V.ref l)]:=by
 unfold jk
 rw[kK h.symm,zL]
 rfl
theorem jk_none:∀ {ws:List Int} {ls:List Addr} {w:Int},w ∉ ws→valV (jk ws ls) (Sum.inl w:Key)=none
 | [],_,_,_=>rfl
 | _::_,[],_,_=>rfl
 | v::ws,l::ls,w,h=>by
  show valV ((Sum.inl v,V.ref l)::jk ws ls) _=none
  rw[valV_neg (fun e=>h (by rw[Sum.inl.inj e]; exact zH))]
  exact jk_none fun z=>h (zJ _ z)
theorem jk_get:∀ {ws:List Int} {ls:List Addr} {j:Nat} {w:Int} {l:Addr},ws.Nodup→ws[j]?=some w→ls[j]?=some l→valV (jk ws ls) (Sum.inl w:Key)=some (.ref l)
 | [],_,_,_,_,_,h,_=>by simp at h
 | _::_,[],_,_,_,_,_,h=>by simp at h
 | v::ws,m::ls,0,w,l,nd,h1,h2=>by
  simp at h1 h2
  subst h1 h2
  exact valV_pos rfl
 | v::ws,m::ls,j + 1,w,l,nd,h1,h2=>by
  rw[qA] at nd
  have h1':ws[j]?=some w:=by simpa using h1
  show valV ((Sum.inl v,V.ref m)::jk ws ls) _=_
  rw[valV_neg (fun e=>nd.1 (by rw[show v=w from Sum.inl.inj e]; exact zE h1'))]
  exact jk_get nd.2 h1' (by simpa using h2)
theorem jk_len (ws:List Int) (ls:List Addr):(jk ws ls).length≤ws.length:=by
 unfold jk
 rw[zD,List.length_zip]
 exact Nat.min_le_left _ _
theorem jrows_snoc {ls:List Addr} {rows:List (List Int)} (h:ls.length=rows.length) (l:Addr) (r:List Int):jrows (ls++[l]) (rows++[r])=jrows ls rows++[(l,.lst (r.map V.int))]:=by
 unfold jrows rowsC
 rw[zL,kK (by rw[zD]; exact h)]
 rfl
theorem jrows_get {ls:List Addr} {rows:List (List Int)} {j:Nat} {l:Addr} {r:List Int} (h1:ls[j]?=some l) (h2:rows[j]?=some r):(jrows ls rows)[j]?=some (l,.lst (r.map V.int)) :=
 rowsC_get h1 (by rw[zF,h2]; rfl)
theorem jrows_set {ls:List Addr} {rows:List (List Int)} {j:Nat} {l:Addr} (r:List Int) (h1:ls[j]?=some l):(jrows ls rows).set j (l,.lst (r.map V.int))=jrows ls (rows.set j r):=by
 unfold jrows
 rw[rowsC_set h1,jE]
def heads (rows:List (List Int)):Int:=(rows.map fun r=>r.headD 0).sum
theorem sum_snoc (l:List Int) (x:Int):(l++[x]).sum=l.sum + x:=by
 induction l with
 | nil=>simp
 | cons a l ih=>simp only [jQ,y7,ih]; omega
theorem heads_snoc (rows:List (List Int)) (r:List Int):heads (rows++[r])=heads rows + r.headD 0:=by
 unfold heads
 rw[zL]
 exact sum_snoc _ _
def anyE (rows:List (List Int)):Bool:=rows.any fun r=>r.isEmpty
def cutR (rows:List (List Int)) (i:Nat):List (List Int):=(rows.take i).map List.tail++rows.drop i
theorem cutR_zero (rows:List (List Int)):cutR rows 0=rows:=by simp [cutR]
theorem cutR_all (rows:List (List Int)):cutR rows rows.length=rows.map List.tail:=by simp [cutR]
theorem cutR_get {rows:List (List Int)} {i:Nat} {r:List Int} (h:rows[i]?=some r):(cutR rows i)[i]?=some r:=by
 have hi:=(zC.mp h).1
 unfold cutR
 rw[zQ (by rw[zD,yA]; omega),zD,yA,kJ (qB hi),qI,List.getElem?_drop,Nat.add_zero]
 exact h
theorem cutR_set {rows:List (List Int)} {i:Nat} {r:List Int} (h:rows[i]?=some r):(cutR rows i).set i r.tail=cutR rows (i + 1):=by
 have hi:=(zC.mp h).1
 have ed:rows.drop i=r::rows.drop (i + 1):=by
  rw[List.drop_eq_getElem_cons hi]
  congr 1
  exact(zC.mp h).2
 unfold cutR
 rw[ed,yS,h,zL]
 have el:((rows.take i).map List.tail).length=i:=by rw[zD,yA]; omega
 have:=set_cut (A:=(rows.take i).map List.tail) (B:=rows.drop (i + 1)) (x:=r) (y:=r.tail)
 rw[el] at this
 rw[this]
 simp
inductive JOut (ys:List V) (rows:List (List Int)):V→List Cell→List (List Int)→Prop
 | wait (h:anyE rows=true):JOut ys rows .non [] rows
 | lost (h:anyE rows=false) (e:ys=[]):JOut ys rows .non [] (rows.map List.tail)
 | put (h:anyE rows=false) {y:V} {ys':List V} (e:ys=y::ys') (t:Addr):JOut ys rows (.ref t) [(t,.tup [y,.int (heads rows)])] (rows.map List.tail)
inductive spJnI (K:PySem.W.Frag) (vs:List V) (H:Hp) (Q:VK) (x_3:XK):Prop where
 | mk (p wa b C dx:Addr) (ws:List Int) (ys:List V) (M:List (List Cell)) (h_0:vs=[.ref p,.ref wa,.ref b]) (h_1:Hc H ([(p,.ins C dx [])]::M)) (h_2:JnC K C) (h_3:SqL K H wa (ws.map V.int)) (h_4:SqL K H b ys) (h_5:wa ≠ p) (h_6:b ≠ p) (h_7:ws.Nodup) (h_8:ws.length≤100) (h_9:∀(p1 p2 d:Addr) (ls:List Addr) (H':Hp),ls.length=ws.length→Keep [p] H H'→Hc H' (jobj C dx p p1 p2 d ws ls ys::jrows ls (ws.map fun _=>[])::M)→Q .non H'):spJnI K vs H Q x_3
inductive spJnT (C:Addr) (vs:List V) (H:Hp) (Q:VK) (x_3:XK):Prop where
 | mk (p dx p1 p2 d:Addr) (wv z:Int) (ws:List Int) (ls:List Addr) (ys:List V) (j:Nat) (rows:List (List Int)) (r:List Int) (M:List (List Cell)) (h_0:vs=[.ref p,.int wv,.int z]) (h_1:Hc H (jobj C dx p p1 p2 d ws ls ys::jrows ls rows::M)) (h_2:ws.Nodup) (h_3:ws.length≤100) (h_4:ls.length=ws.length) (h_5:rows.length=ws.length) (h_6:ws[j]?=some wv) (h_7:rows[j]?=some r) (h_8:r.length≤90000) (h_9:∀(v:V) (ft:List Cell) (rows':List (List Int)) (H':Hp),JOut ys (rows.set j (r++[z])) v ft rows'→Hc H' (ft::jobj C dx p p1 p2 d ws ls ys::jrows ls rows'::M)→Tk H H'→Q v H'):spJnT C vs H Q x_3
section
variable {P:Program} {w:World} {K:PySem.W.Frag} {mg:Str→Option Value} {base:Heap}
theorem sc_jnI:FnScope ["self","ways","belts","way"] ["self","ways","belts"] (defScope (inClass (top 13) 0)):=⟨rfl,rfl,rfl,by decide +kernel,rfl,by decide +kernel,by decide +kernel⟩
theorem ok_jnI {f cS:Addr} {fd:FuncData} (F:Fun K "__init__" "Joiner.__init__" (inClass (top 13) 0) f fd) (aw:mg "Station"=some (.ref cS)) (ak:ClsAt P w K mg base 1 cS "__init__" ["self","ways","belts"] (spStI K)) :
  FnOk P w K mg base CX0 2 f fd ["self","ways","belts"] (spJnI K):=by
 have nd:=sc_jnI.nd
 refine F.ok sc_jnI (fun vs H Q E h=>?_) (fun cdv A outer s H vs Q E hr h=>?_)
 ·obtain⟨p,wa,b,C,dx,ws,ys,M,rfl,_⟩:=h
  rfl
 ·obtain⟨p,wa,b,C,dx,ws,ys,M,rfl,hc,c,hw,hb,n1,n2,ndw,lw,q⟩:=h
  have hu:=hu_of hr
  have cl:=c.st.cl
  have nK:=c.nK
  have nW:=c.st.nW
  refine⟨_,(@pss_cons _ _ _ _ _ (ps_expr (pe_clsm' rfl aw ak (hr.mono (by decide)) (@pa_cons _ _ _ _ _ (pv 0) (@pa_cons _ _ _ _ _ (pv 1) (@pa_cons _ _ _ _ _ (pv 2) pa_nil (by rfl)) (by rfl)) (by rfl))))
   (@pss_cons _ _ _ _ _ (ps_fld (pv 0) pe_dnewK rfl)
   (@pss_one _ _ _ (ps_for PassesOwn.never rfl (pi_tupK (K:=K) rfl (pe_fldK (K:=K) rfl (pv 0) rfl)) (pg_name (i:=3) nd rfl (by nofun)) (@pss_one _ _ _ (ps_dput hu (pe_fldK (K:=K) rfl (pv 0) rfl) (pv 3) (@pe_lst _ _ _ _ pa_nil) rfl)))))),?_⟩
  refine⟨_,rfl,_,rfl,_,rfl,p,wa,b,C,dx,_,ys,M,rfl,hc,c.st,hw,hb,n1,n2,fun p1 p2 H1 kp1 hc1=>?_⟩
  intro d fd
  have fd0:H d=none:=kp1.free1 (hc1.get 0 0 rfl rfl) fd
  have kp3:=(kp1.new' (o:=.dK []) fd).upd (a:=p) (o:=.ins C dx (putF "kept" (.ref d) (fS p1 p2))) (yT _)
  have hc2:=hc1.new fd (.dK [])
  refine⟨_,rfl,p,C,dx,_,rfl,hc2.get 1 0 rfl rfl,cl,nK,?_,?_⟩
  ·have:=fS_len p1 p2
   omega
  have hc3:Hc _ ([(d,.dK [])]::[(p,.ins C dx (fJ p1 p2 d)),(p1,.tup (ws.map V.int)),(p2,.tup ys)]::M):=hc2.put 1 0 rfl rfl (.ins C dx (fJ p1 p2 d))
  change _ at hc3
  generalize hg:upd (upd H1 d (HO.dK [])) p (.ins C dx (putF "kept" (.ref d) (fS p1 p2)))=H3
  have hc3':Hc H3 ([(d,.dK [])]::[(p,.ins C dx (fJ p1 p2 d)),(p1,.tup (ws.map V.int)),(p2,.tup ys)]::M):=by rw[← hg]; exact hc3
  rw[hg] at kp3
  clear hc3 hg hc2 hc1
  have lk:=fJ_kept p1 p2 d
  have lw':=ix p1 p2 d
  refine⟨_,rfl,p,C,dx,_,_,rfl,hc3'.get 1 0 rfl rfl,cl,nW,lw',p1,rfl,⟨_,SqT.of (hc3'.get 1 1 rfl rfl)⟩,for_tup (K:=K) (a:=p1) (xs:=ws.map V.int) (fun i σ H5=>∃(v:Option V) (ls:List Addr),σ=[some (.ref p),some (.ref wa),some (.ref b),v]∧ls.length=i∧Keep [p] H H5 ∧
   Hc H5 ([(d,.dK (jk (ws.take i) ls))]::[(p,.ins C dx (fJ p1 p2 d)),(p1,.tup (ws.map V.int)),(p2,.tup ys)]::jrows ls ((ws.take i).map fun _=>[])::M)) ⟨none,[],rfl,rfl,kp3,?_⟩ (fun i σ H5 _ ⟨_,_,_,_,_,h⟩=>SqT.of (h.get 1 1 rfl rfl)) ?_ ?_⟩
  ·exact hc3'
  ·rintro i x σ H5 hi ⟨v,ls,rfl,el,kp5,hc5⟩
   obtain⟨z,rfl,hz⟩:=ints_get hi
   have hil:=(zC.mp hz).1
   refine⟨z5 _,fun l nl=>?_⟩
   have hc6:=hc5.new nl (.lst [])
   have lt:(ws.take i).length=i:=by rw[yA]; omega
   refine⟨_,rfl,p,C,dx,_,_,rfl,hc6.get 2 0 rfl rfl,cl,nK,lk,_,rfl,d,_,rfl,DPut.k (k:=Sum.inl z) (hc6.get 1 0 rfl rfl) (small1000 (by have:=jk_len (ws.take i) ls; omega)),?_⟩
   have hc7:=hc6.put 1 0 rfl rfl (.dK (putK (jk (ws.take i) ls) (Sum.inl z) (.ref l)))
   have nz:z ∉ ws.take i:=fun h=>by
    obtain⟨m,hm⟩:=yN h
    have hm1:=(zC.mp hm).1
    rw[kU (by omega)] at hm
    have:=(List.getElem?_inj (by omega) ndw).mp (hm.trans hz.symm)
    omega
   have et:ws.take (i + 1)=ws.take i++[z]:=by rw[yS,hz]; rfl
   refine⟨_,ls++[l],rfl,by rw[zM,el]; rfl,(kp5.new' nl).new fd0,?_⟩
   rw[et,jk_snoc (by omega),zL]
   show Hc _ (_::_::jrows (ls++[l]) (((ws.take i).map fun _=>[])++[[]])::M)
   rw[jrows_snoc (by rw[zD]; omega),← putK_new _ (jk_none nz)]
   have hc8:Hc _ ([(d,.dK (putK (jk (ws.take i) ls) (Sum.inl z) (.ref l)))]::[(p,.ins C dx (fJ p1 p2 d)),(p1,.tup (ws.map V.int)),(p2,.tup ys)]::[(l,.lst [])]::jrows ls ((ws.take i).map fun _=>[])::M):=(hc7.pick 2 rfl).pick 2 rfl
   have hc9:=((hc8.pick 3 rfl).pick 3 rfl)
   have hc9':Hc _ ([(l,.lst [])]::jrows ls ((ws.take i).map fun _=>[])::[(d,.dK (putK (jk (ws.take i) ls) (Sum.inl z) (.ref l)))]::[(p,.ins C dx (fJ p1 p2 d)),(p1,.tup (ws.map V.int)),(p2,.tup ys)]::M):=hc9
   have hcA:=(hc9'.swap.join.pick 2 rfl).pick 2 rfl
   exact hcA
  ·rintro σ H5 ⟨v,ls,rfl,el,kp5,hc5⟩
   rw[zD] at el hc5
   rw[yD] at hc5
   have hc6:=hc5.swap.join
   exact q p1 p2 d ls H5 el kp5 hc6
theorem sc_jnT:FnScope ["self","way","piece","total","each"] ["self","way","piece"] (defScope (inClass (top 13) 1)):=⟨rfl,rfl,rfl,by decide +kernel,rfl,by decide +kernel,by decide +kernel⟩
theorem ok_jnT {f C:Addr} {fd:FuncData} (F:Fun K "take" "Joiner.take" (inClass (top 13) 1) f fd) (T:Txt K mg) (c:JnC K C) (G_on_first:MethAt P w K mg base 1 C "on_first" ["self","piece"] (spOne K)) :
  FnOk P w K mg base CX0 2 f fd ["self","way","piece"] (spJnT C):=by
 have nd:=sc_jnT.nd
 refine F.ok sc_jnT (fun vs H Q E h=>?_) (fun cdv A outer s H vs Q E hr h=>?_)
 ·obtain⟨p,dx,p1,p2,d,wv,z,ws,ls,ys,j,rows,r,M,rfl,_⟩:=h
  rfl
 ·obtain⟨p,dx,p1,p2,d,wv,z,ws,ls,ys,j,rows,r,M,rfl,hc,ndw,lw,el,er,hj,hrj,lr,q⟩:=h
  have hu:=hu_of hr
  have cl:=c.st.cl
  have nK:=c.nK
  have nW:=c.st.nW
  have lk:=fJ_kept p1 p2 d
  have lkw:=ix p1 p2 d
  refine⟨_,(@pss_cons _ _ _ _ _ (ps_expr (pe_bm PySem.F.plainAttrs_list PySem.F.slot_list_append PySem.F.type_list_append mt_append (pe_dget hu (pe_fldK (K:=K) rfl (pv 0) rfl) (pv 1) (fun _ _=>rfl)) (@pa_cons _ _ _ _ _ (pv 2) pa_nil (by rfl))))
   (@pss_cons _ _ _ _ _ (ps_if (pt_val (pe_callB (call_anyB rfl) (by rfl) T.n_any bt_any (@pa_cons _ _ _ _ _ (pe_comp (own:=["each"]) (fr:=["self"]) (js:=[0]) (by and_intros) (pi_tupK (K:=K) rfl (pe_fldK (K:=K) rfl (pv 0) rfl)) (fun _ _ _ _=>(pg_name (i:=0) (show List.Nodup (["each","self"]:List Str) from by decide +kernel) rfl (by nofun))) (fun _ _ _ _=>pts_nil) (fun _ _ _ _=>(pe_cmpR op_eq (pe_callB (call_len_seqK (K:=K) rfl) (by rfl) T.n_len bt_len (@pa_cons _ _ _ _ _ (pe_dget hu (pe_fldK (K:=K) rfl (pv 1) rfl) (pv 0) (fun _ _=>rfl)) pa_nil (by rfl))) pe_int (nomark _)))) pa_nil (by rfl)))) (@pss_one _ _ _ (@ps_ret _ _ _ _ pe_non)) pss_nil)
   (@pss_cons _ _ _ _ _ (ps_set (i:=3) nd rfl (by nofun) pe_int)
   (@pss_cons _ _ _ _ _ (ps_for PassesOwn.never rfl (pi_tupK (K:=K) rfl (pe_fldK (K:=K) rfl (pv 0) rfl)) (pg_name (i:=4) nd rfl (by nofun)) (@pss_one _ _ _ (ps_set (i:=3) nd rfl (by nofun) (pe_op op_add (pv 3) (pe_bm PySem.F.plainAttrs_list PySem.F.slot_list_pop PySem.F.type_list_pop mt_popAt (pe_dget hu (pe_fldK (K:=K) rfl (pv 0) rfl) (pv 4) (fun _ _=>rfl)) (@pa_cons _ _ _ _ _ pe_int pa_nil (by rfl)))))))
   (@pss_one _ _ _ (@ps_ret _ _ _ _ (pe_mth G_on_first (hr.mono (by decide)) (pv 0) (@pa_cons _ _ _ _ _ (pv 3) pa_nil (by rfl))))))))),?_⟩
  have hjl:=(zC.mp hj).1
  obtain⟨l,hl⟩:∃ l,ls[j]?=some l:=⟨ls[j]'(by omega),zB _⟩
  have hlr:=hc.get 1 j rfl (jrows_get hl hrj)
  refine⟨_,rfl,p,C,dx,_,_,rfl,hc.get 0 0 rfl rfl,cl,nK,lk,_,rfl,d,_,rfl,DGet.ki (hc.get 0 3 rfl rfl) (jk_get ndw hj hl),tyL hlr,_,rfl,_,_,_,rfl,rfl,hlr,smallM (by rw[zD]; omega),?_⟩
  have k1:Tk H (upd H l (.lst (r.map V.int++[V.int z]))):=(Tk.refl H).put hlr (fun z=>z)
  have hc1:=hc.put 1 j rfl (jrows_get hl hrj) (.lst ((r++[z]).map V.int))
  rw[jrows_set _ hl] at hc1
  have hc1':Hc (upd H l (.lst (r.map V.int++[V.int z]))) (jobj C dx p p1 p2 d ws ls ys::jrows ls (rows.set j (r++[z]))::M):=by
   have e:(r++[z]).map V.int=r.map V.int++[V.int z]:=by rw[zL]; rfl
   rw[← e]
   exact hc1
  clear hc1
  have er2:(rows.set j (r++[z])).length=ws.length:=by rw[z4]; exact er
  generalize (rows.set j (r++[z]))=rows2 at hc1' er2 q
  generalize (upd H l (.lst (r.map V.int++[V.int z])))=H1 at hc1' k1 ⊢
  refine⟨_,rfl,p,C,dx,_,_,rfl,hc1'.get 0 0 rfl rfl,cl,nW,lkw,p1,rfl,⟨_,SqT.of (hc1'.get 0 1 rfl rfl)⟩,fun D nD=>?_⟩
  refine comp_tup (K:=K) (a:=p1) (xs:=ws.map V.int) (fun i H5=>Tk H H5∧Hc H5 ([(D,.lst (((rows2.take i).map List.isEmpty).map V.bl))]::jobj C dx p p1 p2 d ws ls ys::jrows ls rows2::M)) ⟨k1.new nD,hc1'.new nD _⟩ (fun i H5 _ h=>SqT.of (h.2.get 1 1 rfl rfl)) ?_ ?_
  ·rintro i x H5 m Wf hi ⟨k5,hc5⟩ nx
   obtain⟨v,rfl,hv⟩:=ints_get hi
   have hil:=(zC.mp hv).1
   obtain⟨l2,hl2⟩:∃ l,ls[i]?=some l:=⟨ls[i]'(by omega),zB _⟩
   obtain⟨r2,hr2⟩:∃ r,rows2[i]?=some r:=⟨rows2[i]'(by omega),zB _⟩
   have hlr2:=hc5.get 2 i rfl (jrows_get hl2 hr2)
   refine⟨_,rfl,p,C,dx,_,_,rfl,hc5.get 1 0 rfl rfl,cl,nK,lk,_,rfl,d,_,rfl,DGet.ki (hc5.get 1 3 rfl rfl) (jk_get ndw hv hl2),_,_,rfl,.inl (SqL.of hlr2),rfl,_,hc5.get 0 0 rfl rfl,small1000 (by rw[zD,zD,yA]; omega),nx _ ⟨k5.put (hc5.get 0 0 rfl rfl) (fun z=>z),?_⟩⟩
   have e:V.bl (decide (V.int ((r2.map V.int).length:Int)=V.int 0))=V.bl r2.isEmpty:=by
    rw[zD]
    cases r2 with
    | nil=>rfl
    | cons a b =>
     rw[decide_eq_false (fun h=>by have:=V.int.inj h; rw[zX] at this; omega)]
     rfl
   show Hc (upd H5 D (.lst (((rows2.take i).map List.isEmpty).map V.bl++[V.bl (decide (V.int ((r2.map V.int).length:Int)=V.int 0))]))) _
   rw[e,yS,hr2,zL,zL]
   exact hc5.put 0 0 rfl rfl _
  ·rintro H5 ⟨k5,hc5⟩
   rw[zD,← er2,yD] at hc5
   refine⟨D,_,rfl,SqL.of (hc5.get 0 0 rfl rfl),?_⟩
   have ea:((rows2.map List.isEmpty).any id)=anyE rows2:=by rw[vC]; rfl
   rw[ea]
   have hc6:=hc5.tl
   refine⟨_,rfl,iteB (fun hb=>q _ _ _ _ (.wait hb) (Hc.pad hc6) k5) (fun hb=>?_)⟩
   have ne:∀ {i:Nat} {r:List Int},rows2[i]?=some r→∃ a t,r=a::t:=fun {i r} h=>by
    cases r with
    | cons a t=>exact⟨a,t,rfl⟩
    | nil =>
     have:anyE rows2=true:=List.any_eq_true.mpr ⟨[],zE h,rfl⟩
     rw[this] at hb
     cases hb
   refine⟨_,rfl,p,C,dx,_,_,rfl,hc6.get 0 0 rfl rfl,cl,nW,lkw,p1,rfl,⟨_,SqT.of (hc6.get 0 1 rfl rfl)⟩,for_tup (K:=K) (a:=p1) (xs:=ws.map V.int) (fun i σ H7=>∃(v:Option V),σ=[some (.ref p),some (.int wv),some (.int z),some (.int (heads (rows2.take i))),v] ∧
    Tk H H7∧Hc H7 (jobj C dx p p1 p2 d ws ls ys::jrows ls (cutR rows2 i)::M)) ⟨none,rfl,k5,by rw[cutR_zero]; exact hc6⟩ (fun i σ H7 _ ⟨_,_,_,h⟩=>SqT.of (h.get 0 1 rfl rfl)) ?_ ?_⟩
   ·rintro i x σ H7 hi ⟨v,rfl,k7,hc7⟩
    obtain⟨v2,rfl,hv⟩:=ints_get hi
    have hil:=(zC.mp hv).1
    obtain⟨l2,hl2⟩:∃ l,ls[i]?=some l:=⟨ls[i]'(by omega),zB _⟩
    obtain⟨r2,hr2⟩:∃ r,rows2[i]?=some r:=⟨rows2[i]'(by omega),zB _⟩
    obtain⟨a0,t0,rfl⟩:=ne hr2
    have hlr2:=hc7.get 1 i rfl (jrows_get hl2 (cutR_get hr2))
    refine⟨_,rfl,_,rfl,p,C,dx,_,_,rfl,hc7.get 0 0 rfl rfl,cl,nK,lk,_,rfl,d,_,rfl,DGet.ki (hc7.get 0 3 rfl rfl) (jk_get ndw hv hl2),tyL hlr2,l2,_,0,0,V.int a0,rfl,rfl,hlr2,by decide,by decide,seqIndex_of (k:=0) (by decide) (by rw[zD,zX]; omega),rfl,?_⟩
    refine⟨_,_,rfl,rfl,?_⟩
    have hc8:=hc7.put 1 i rfl (jrows_get hl2 (cutR_get hr2)) (.lst (t0.map V.int))
    rw[jrows_set _ hl2] at hc8
    have e8:=cutR_set hr2
    refine⟨some (.int v2),?_,k7.put hlr2 (fun z=>z),?_⟩
    rotate_left
    ·rw[← e8]
     exact hc8
    ·rw[yS,hr2]
     show _=[some (V.ref p),some (V.int wv),some (V.int z),some (V.int (heads (rows2.take i++[a0::t0]))),_]
     rw[heads_snoc]
     rfl
   ·rintro σ H7 ⟨v,rfl,k7,hc7⟩
    rw[zD,← er2,cutR_all] at hc7
    rw[zD,← er2,yD]
    refine⟨_,rfl,p,dx,_,rfl,hc7.get 0 0 rfl rfl,fJ_no _ _ _ (by decide +kernel) (by decide +kernel) (by decide +kernel),_,rfl,?_⟩
    exact⟨p,C,dx,p2,_,ys,_,rfl,hc7.get 0 0 rfl rfl,c.st,fJ_belts _ _ _,hc7.get 0 2 rfl rfl,fun e=>q _ _ _ _ (.lost hb e) (Hc.pad hc7) k7,fun y r t e nt=>q _ _ _ _ (.put hb e t) (hc7.new nt _) (k7.new nt)⟩
end
end Oc
namespace Oc
open PySem L2
inductive Kd where
 | relay (n:Int)
 | sorter
 | thinner (n:Int)
 | joiner
 | sink
deriving DecidableEq
set_option genInjectivity false in
set_option genSizeOf false in
structure Cs where
 rl:Addr
 so:Addr
 th:Addr
 jn:Addr
 si:Addr
def Cs.of (cs:Cs):Kd→Addr
 | .relay _=>cs.rl
 | .sorter=>cs.so
 | .thinner _=>cs.th
 | .joiner=>cs.jn
 | .sink=>cs.si
structure CsOk (K:PySem.W.Frag) (cs:Cs):Prop where
 rl:RlC K cs.rl
 so:StC K cs.so
 th:ThC K cs.th
 jn:JnC K cs.jn
 si:StC K cs.si
set_option genInjectivity false in
set_option genSizeOf false in
structure SR where
 x:Addr
 dx:Addr
 p1:Addr
 p2:Addr
 d:Addr
 k:Kd
 ws:List Int
 bs:List Int
 ls:List Addr
 seen:Int
 rows:List (List Int)
def SR.flds (r:SR):List (Str × V):=match r.k with
 | .relay n=>fR r.p1 r.p2 n
 | .sorter=>fS r.p1 r.p2
 | .thinner n=>fT r.p1 r.p2 n r.seen
 | .joiner=>fJ r.p1 r.p2 r.d
 | .sink=>fS r.p1 r.p2
def SR.more (r:SR):List Cell:=match r.k with
 | .joiner=>(r.d,.dK (jk r.ws r.ls))::jrows r.ls r.rows
 | _=>[]
def srC (cs:Cs) (r:SR):List Cell:=(r.x,.ins (cs.of r.k) r.dx r.flds)::(r.p1,.tup (r.ws.map V.int))::(r.p2,.tup (r.bs.map V.int))::r.more
structure SOk (m:Nat) (r:SR):Prop where
 nd:r.ws.Nodup
 l1:r.ws.length≤100
 jn:r.k=.joiner→r.ls.length=r.ws.length∧r.rows.length=r.ws.length∧∀ row ∈ r.rows,row.length≤m
 th:∀ n,r.k=.thinner n→2≤n
theorem SR.flds_no (r:SR) {x:Str} (h0:¬ x="kept") (h1:¬ x="belts") (h2:¬ x="ways") (h3:¬ x="more") (h4:¬ x="seen") (h5:¬ x="every"):r.flds.lookup x=none:=by
 unfold SR.flds
 cases r.k with
 | relay n=>exact fR_no _ _ _ h3 h1 h2
 | sorter=>exact fS_no _ _ h1 h2
 | thinner n=>exact fT_no _ _ _ _ h4 h5 h1 h2
 | joiner=>exact fJ_no _ _ _ h0 h1 h2
 | sink=>exact fS_no _ _ h1 h2
def SR.add (r:SR) (j:Nat) (z:Int):List (List Int):=r.rows.set j (r.rows.getD j []++[z])
def SR.out (r:SR) (j:Nat) (z:Int):Option (Int × Int):=match r.k with
 | .relay n=>r.bs.head?.map fun b=>(b,z + n)
 | .sorter=>if r.bs=[] then none else (r.bs[(z % (r.bs.length:Int)).toNat]?).map fun b=>(b,z)
 | .thinner n=>if (r.seen + 1) % n=0 then none else r.bs.head?.map fun b=>(b,z)
 | .joiner=>if anyE (r.add j z) then none else r.bs.head?.map fun b=>(b,heads (r.add j z))
 | .sink=>none
def SR.nxt (r:SR) (j:Nat) (z:Int):SR:=match r.k with
 | .thinner _=>{ r with seen:=r.seen + 1 }
 | .joiner=>{ r with rows:=if anyE (r.add j z) then r.add j z else (r.add j z).map List.tail }
 | _=>r
theorem SR.nxt_x (r:SR) (j:Nat) (z:Int):(r.nxt j z).x=r.x∧(r.nxt j z).k=r.k∧(r.nxt j z).ws=r.ws∧(r.nxt j z).bs=r.bs:=by
 unfold SR.nxt
 cases e:r.k <;> simp [e]
theorem SOk.nxt {m:Nat} {r:SR} (h:SOk m r) (j:Nat) (z:Int):SOk (m + 1) (r.nxt j z):=by
 obtain⟨x,dx,p1,p2,d,k,ws,bs,ls,seen,rows⟩:=r
 cases k with
 | relay n=>exact⟨h.nd,h.l1,fun e=>(by cases e),fun n e=>h.th n e⟩
 | sorter=>exact⟨h.nd,h.l1,fun e=>(by cases e),fun n e=>by cases e⟩
 | sink=>exact⟨h.nd,h.l1,fun e=>(by cases e),fun n e=>by cases e⟩
 | thinner n=>exact⟨h.nd,h.l1,fun e=>(by cases e),fun n e=>h.th n e⟩
 | joiner =>
  refine⟨h.nd,h.l1,fun _=>?_,fun n e=>by cases e⟩
  obtain⟨h1,h2,h3⟩:=h.jn rfl
  have ha:∀ row ∈ SR.add ⟨x,dx,p1,p2,d,.joiner,ws,bs,ls,seen,rows⟩ j z,row.length≤m + 1:=fun row hr=>by
   rcases kO hr with e|e
   ·have:=h3 row e; omega
   ·rw[e,zM]
    have:(rows.getD j []).length≤m:=by
     rw[zA]
     cases hj:rows[j]? with
     | none=>exact z5 _
     | some r0=>exact h3 r0 (zE hj)
    show(rows.getD j []).length + 1≤_
    omega
  have el:(SR.add ⟨x,dx,p1,p2,d,.joiner,ws,bs,ls,seen,rows⟩ j z).length=ws.length:=by
   unfold SR.add
   rw[z4]
   exact h2
  have eN:(SR.nxt ⟨x,dx,p1,p2,d,.joiner,ws,bs,ls,seen,rows⟩ j z).rows=if anyE (SR.add ⟨x,dx,p1,p2,d,.joiner,ws,bs,ls,seen,rows⟩ j z) then SR.add ⟨x,dx,p1,p2,d,.joiner,ws,bs,ls,seen,rows⟩ j z else (SR.add ⟨x,dx,p1,p2,d,.joiner,ws,bs,ls,seen,rows⟩ j z).map List.tail:=rfl
  refine⟨h1,?_,?_⟩
  ·rw[eN]
   split
   ·exact el
   ·rw[zD]; exact el
  ·rw[eN]
   split
   ·exact ha
   ·intro row hr
    obtain⟨r0,h0,rfl⟩:=yC.mp hr
    have:=ha r0 h0
    rw[kH]
    omega
theorem SOk.le {m n:Nat} {r:SR} (h:SOk m r) (e:m≤n):SOk n r:=⟨h.nd,h.l1,fun k=>let ⟨a,b,d⟩:=h.jn k; ⟨a,b,fun row hr=>z9 (d row hr) e⟩,h.th⟩
inductive Put:Option (Int × Int)→V→List Cell→Prop
 | no:Put none .non []
 | yes (b y:Int) (t:Addr):Put (some (b,y)) (.ref t) [(t,.tup [.int b,.int y])]
inductive spTk (cs:Cs) (k:Kd) (vs:List V) (H:Hp) (Q:VK) (x_3:XK):Prop where
 | mk (r:SR) (j m:Nat) (wv z:Int) (M:List (List Cell)) (h_0:vs=[.ref r.x,.int wv,.int z]) (h_1:r.k=k) (h_2:Hc H (srC cs r::M)) (h_3:SOk m r) (h_4:m≤90000) (h_5:r.ws[j]?=some wv) (h_6:∀(v:V) (ft:List Cell) (H':Hp),Put (r.out j z) v ft→Hc H' (ft::srC cs (r.nxt j z)::M)→Tk H H'→Q v H'):spTk cs k vs H Q x_3
section
variable {P:Program} {w:World} {K:PySem.W.Frag} {mg:Str→Option Value} {base:Heap}
def spNon:Sp:=fun vs H Q _=>vs.length=3∧Q .non H
theorem sc_stT:FnScope ["self","way","piece"] ["self","way","piece"] (defScope (inClass (top 9) 1)):=⟨rfl,rfl,rfl,by decide +kernel,rfl,by decide +kernel,by decide +kernel⟩
theorem ok_stT {f:Addr} {fd:FuncData} (F:Fun K "take" "Station.take" (inClass (top 9) 1) f fd):FnOk P w K mg base CX0 1 f fd ["self","way","piece"] spNon:=by
 have nd:=sc_stT.nd
 refine F.ok sc_stT (fun vs H Q E h=>h.1) (fun cdv A outer s H vs Q E hr h=>?_)
 refine⟨_,(@pss_one _ _ _ (@ps_ret _ _ _ _ pe_non)),?_⟩
 exact h.2
theorem take_all {cs:Cs} (G1:MethAt P w K mg base 2 cs.rl "take" ["self","way","piece"] (spRlT cs.rl)) (G2:MethAt P w K mg base 1 cs.so "take" ["self","way","piece"] (spSrT cs.so)) (G3:MethAt P w K mg base 2 cs.th "take" ["self","way","piece"] (spThT cs.th))
  (G4:MethAt P w K mg base 2 cs.jn "take" ["self","way","piece"] (spJnT cs.jn)) (G5:MethAt P w K mg base 1 cs.si "take" ["self","way","piece"] spNon) (k:Kd):MethAt P w K mg base 2 (cs.of k) "take" ["self","way","piece"] (spTk cs k):=by
 cases k with
 | relay n =>
  refine G1.imp fun vs H Q E h=>?_
  obtain⟨⟨x,dx,p1,p2,d,k,ws,bs,ls,seen,rows⟩,j,m,wv,z,M,rfl,e,hc,ok,hm,hw,q⟩:=h
  cases e
  refine⟨x,dx,p1,p2,n,z,_,bs.map V.int,rfl,hc.get 0 0 rfl rfl,hc.get 0 2 rfl rfl,fun eb=>?_,fun y rr t eb nt=>?_⟩
  ·have:bs=[]:=jZ.mp eb
   subst this
   exact q _ _ _ .no hc.pad (Tk.refl _)
  ·cases bs with
   | nil=>cases eb
   | cons b bs =>
    cases eb
    exact q _ _ _ (.yes _ _ t) (hc.new nt _) ((Tk.refl _).new nt)
 | sorter =>
  refine(G2.mono (by decide)).imp fun vs H Q E h=>?_
  obtain⟨⟨x,dx,p1,p2,d,k,ws,bs,ls,seen,rows⟩,j,m,wv,z,M,rfl,e,hc,ok,hm,hw,q⟩:=h
  cases e
  refine⟨x,dx,p1,p2,z,_,bs,rfl,hc.get 0 0 rfl rfl,hc.get 0 2 rfl rfl,fun eb=>?_,fun y t eb hy nt=>?_⟩
  ·subst eb
   exact q _ _ _ .no hc.pad (Tk.refl _)
  ·have eo:SR.out ⟨x,dx,p1,p2,d,.sorter,ws,bs,ls,seen,rows⟩ j z=some (y,z):=by
    show(if bs=[] then none else (bs[(z % (bs.length:Int)).toNat]?).map fun b=>(b,z))=_
    rw[if_neg eb,hy]
    rfl
   exact q _ _ _ (by rw[eo]; exact .yes _ _ t) (hc.new nt _) ((Tk.refl _).new nt)
 | thinner n =>
  refine G3.imp fun vs H Q E h=>?_
  obtain⟨⟨x,dx,p1,p2,d,k,ws,bs,ls,seen,rows⟩,j,m,wv,z,M,rfl,e,hc,ok,hm,hw,q⟩:=h
  cases e
  have hput:=hc.put 0 0 rfl rfl (.ins cs.th dx (fT p1 p2 n (seen + 1)))
  have kput:Tk H (upd H x (.ins cs.th dx (fT p1 p2 n (seen + 1)))):=(Tk.refl H).put (hc.get 0 0 rfl rfl) (fun z=>z)
  refine⟨x,dx,p1,p2,n,seen,z,_,bs.map V.int,rfl,hc.get 0 0 rfl rfl,hc.get 0 2 rfl rfl,ok.th n rfl,fun hn=>?_,fun y rr t hn eb nt=>?_⟩
  ·have eo:SR.out ⟨x,dx,p1,p2,d,.thinner n,ws,bs,ls,seen,rows⟩ j z=none:=by
    show(if (seen + 1) % n=0 then none else bs.head?.map fun b=>(b,z))=_
    rcases hn with h|h
    ·rw[if_pos h]
    ·have:bs=[]:=jZ.mp h
     rw[this]
     split <;> rfl
   exact q _ _ _ (by rw[eo]; exact .no) hput.pad kput
  ·cases bs with
   | nil=>cases eb
   | cons b bs =>
    cases eb
    have eo:SR.out ⟨x,dx,p1,p2,d,.thinner n,ws,b::bs,ls,seen,rows⟩ j z=some (b,z):=by
     show(if (seen + 1) % n=0 then none else (b::bs).head?.map fun b=>(b,z))=_
     rw[if_neg hn]
     rfl
    have nt':(upd H x (.ins cs.th dx (fT p1 p2 n (seen + 1)))) t=none:=by
     rw[upd_ne (fun z=>by have:=hc.get 0 0 rfl rfl; rw[← z,nt] at this; cases this)]
     exact nt
    exact q _ _ _ (by rw[eo]; exact .yes _ _ t) (hput.new nt' _) (kput.new nt')
 | joiner =>
  refine G4.imp fun vs H Q E h=>?_
  obtain⟨⟨x,dx,p1,p2,d,k,ws,bs,ls,seen,rows⟩,j,m,wv,z,M,rfl,e,hc,ok,hm,hw,q⟩:=h
  cases e
  obtain⟨h1,h2,h3⟩:=ok.jn rfl
  have hjl:j < ws.length:=(zC.mp hw).1
  have h2':rows.length=ws.length:=h2
  obtain⟨row,hrow⟩:∃ row,rows[j]?=some row:=⟨rows[j]'(by omega),zB _⟩
  have hc':Hc H (jobj cs.jn dx x p1 p2 d ws ls (bs.map V.int)::jrows ls rows::M):=Hc.split (a:=jobj cs.jn dx x p1 p2 d ws ls (bs.map V.int)) (b:=jrows ls rows) hc
  have ea:SR.add ⟨x,dx,p1,p2,d,.joiner,ws,bs,ls,seen,rows⟩ j z=rows.set j (row++[z]):=by
   show rows.set j (rows.getD j []++[z])=_
   rw[zA,hrow]
   rfl
  refine⟨x,dx,p1,p2,d,wv,z,ws,ls,bs.map V.int,j,rows,row,M,rfl,hc',ok.nd,ok.l1,h1,h2,hw,hrow,by have:=h3 row (zE hrow); omega,fun v ft rows' H' out hc2 k2=>?_⟩
  rw[← ea] at out
  have hj:∀ {rows'},(SR.nxt ⟨x,dx,p1,p2,d,.joiner,ws,bs,ls,seen,rows⟩ j z).rows=rows'→Hc H' (ft::jobj cs.jn dx x p1 p2 d ws ls (bs.map V.int)::jrows ls rows'::M)→Hc H' (ft::srC cs (SR.nxt ⟨x,dx,p1,p2,d,.joiner,ws,bs,ls,seen,rows⟩ j z)::M):=fun {rows'} e h=>by
   subst e
   exact Hc.swap (Hc.join (a:=jobj cs.jn dx x p1 p2 d ws ls (bs.map V.int)) (b:=jrows ls _) ((h.pick 2 rfl).pick 2 rfl))
  have eN:(SR.nxt ⟨x,dx,p1,p2,d,.joiner,ws,bs,ls,seen,rows⟩ j z).rows=if anyE (SR.add ⟨x,dx,p1,p2,d,.joiner,ws,bs,ls,seen,rows⟩ j z) then (SR.add ⟨x,dx,p1,p2,d,.joiner,ws,bs,ls,seen,rows⟩ j z) else (SR.add ⟨x,dx,p1,p2,d,.joiner,ws,bs,ls,seen,rows⟩ j z).map List.tail:=rfl
  have eO:SR.out ⟨x,dx,p1,p2,d,.joiner,ws,bs,ls,seen,rows⟩ j z=if anyE (SR.add ⟨x,dx,p1,p2,d,.joiner,ws,bs,ls,seen,rows⟩ j z) then none else bs.head?.map fun b=>(b,heads (SR.add ⟨x,dx,p1,p2,d,.joiner,ws,bs,ls,seen,rows⟩ j z)):=rfl
  cases out with
  | wait h =>
   refine q _ _ _ ?_ (hj (by rw[eN,if_pos h]) hc2) k2
   rw[eO,if_pos h]
   exact .no
  | lost h e =>
   refine q _ _ _ ?_ (hj (by rw[eN,h]; rfl) hc2) k2
   have:bs=[]:=jZ.mp e
   rw[eO,h,this]
   exact .no
  | put h e t =>
   cases bs with
   | nil=>cases e
   | cons b bs =>
    cases e
    refine q _ _ _ ?_ (hj (by rw[eN,h]; rfl) hc2) k2
    rw[eO,h]
    exact .yes _ _ t
 | sink =>
  refine(G5.mono (by decide)).imp fun vs H Q E h=>?_
  obtain⟨⟨x,dx,p1,p2,d,k,ws,bs,ls,seen,rows⟩,j,m,wv,z,M,rfl,e,hc,ok,hm,hw,q⟩:=h
  cases e
  exact⟨rfl,q _ _ _ .no hc.pad (Tk.refl _)⟩
end
end Oc
namespace Oc
open PySem L2
theorem idx_ge {α:Type} (f:α→Bool):∀(l:List α) (k:Nat) (x:Int),x ∈ idx f k l→(k:Int)≤x
 | [],_,_,h=>absurd h zK
 | y::l,k,x,h=>by
  unfold idx at h
  by_cases hf:f y=true
  ·rw[if_pos hf] at h
   rcases zS.mp h with e|e
   ·omega
   ·have:=idx_ge f l (k + 1) x e
    omega
  ·rw[if_neg hf] at h
   have:=idx_ge f l (k + 1) x h
   omega
theorem idx_pw {α:Type} (f:α→Bool):∀(l:List α) (k:Nat),(idx f k l).Pairwise (· < ·)
 | [],_=>List.Pairwise.nil
 | y::l,k=>by
  unfold idx
  by_cases hf:f y=true
  ·rw[if_pos hf]
   refine yO.mpr ⟨fun x hx=>?_,idx_pw f l (k + 1)⟩
   have:=idx_ge f l (k + 1) x hx
   omega
  ·rw[if_neg hf]
   exact idx_pw f l (k + 1)
theorem nd_lt {l:List Int} (h:l.Pairwise (· < ·)):l.Nodup:=h.imp fun h e=>by omega
theorem Wk.wy_pw (W:Wk) (s:Int):(W.wy s).Pairwise (· < ·):=by
 unfold Wk.wy
 split
 ·refine yO.mpr ⟨fun x hx=>?_,idx_pw _ _ _⟩
  have:=idx_ge _ _ _ _ hx
  omega
 ·exact idx_pw _ _ _
theorem Wk.wy_nd (W:Wk) (s:Int):(W.wy s).Nodup:=nd_lt (W.wy_pw s)
theorem Wk.wy_len {W:Wk} (ok:W.Ok) (s:Int):(W.wy s).length≤13:=by
 have h1:=idx_len (fun(t:Tri)=>t.2.1 == s) W.be 0
 have h2:=ok.b12
 unfold Wk.wy
 rw[zM]
 split
 ·show 1 + _≤13; omega
 ·show 0 + _≤13; omega
def kdOf (s:Sta):Kd:=if s.1="relay" then .relay (s.2.getD 0) else if s.1="sorter" then .sorter else if s.1="thinner" then .thinner (s.2.getD 0) else if s.1="joiner" then .joiner else .sink
theorem kd_relay (n:Option Int):kdOf ("relay",n)=.relay (n.getD 0):=by unfold kdOf; rw[if_pos rfl]
theorem kd_sorter (n:Option Int):kdOf ("sorter",n)=.sorter:=by
 unfold kdOf
 rw[if_neg (show ¬ (("sorter":Str)="relay") by decide +kernel),if_pos rfl]
theorem kd_thinner (n:Option Int):kdOf ("thinner",n)=.thinner (n.getD 0):=by
 unfold kdOf
 rw[if_neg (show ¬ (("thinner":Str)="relay") by decide +kernel),if_neg (show ¬ (("thinner":Str)="sorter") by decide +kernel),if_pos rfl]
theorem kd_joiner (n:Option Int):kdOf ("joiner",n)=.joiner:=by
 unfold kdOf
 rw[if_neg (show ¬ (("joiner":Str)="relay") by decide +kernel),if_neg (show ¬ (("joiner":Str)="sorter") by decide +kernel),if_neg (show ¬ (("joiner":Str)="thinner") by decide +kernel),if_pos rfl]
theorem kd_sink (n:Option Int):kdOf ("sink",n)=.sink:=by
 unfold kdOf
 rw[if_neg (show ¬ (("sink":Str)="relay") by decide +kernel),if_neg (show ¬ (("sink":Str)="sorter") by decide +kernel),if_neg (show ¬ (("sink":Str)="thinner") by decide +kernel),if_neg (show ¬ (("sink":Str)="joiner") by decide +kernel)]
structure Made (W:Wk) (s:Nat) (r:SR):Prop where
 k:∃ st,W.st[s]?=some st∧r.k=kdOf st
 ws:r.ws=W.wy s
 bs:r.bs=W.lv s
 seen:r.seen=0
 rows:r.rows=if r.k=.joiner then (W.wy s).map (fun _=>[]) else []
 ok:SOk 0 r
inductive spSides (vs:List V) (H:Hp) (Q:VK) (x_3:XK):Prop where
 | mk (w:Addr) (W:Wk) (s:Int) (M:List (List Cell)) (h_0:vs=[.ref w,.int s]) (h_1:WkAt H w W) (h_2:W.Ok) (h_3:Hc H M) (h_4:∀(t p1 p2:Addr) (H':Hp),Same H H'→Hc H' ([(t,.tup [.ref p1,.ref p2]),(p1,.lst ((W.wy s).map V.int)),(p2,.lst ((W.lv s).map V.int))]::M)→Q (.ref t) H'):spSides vs H Q x_3
inductive spSo (cs:Cs) (vs:List V) (H:Hp) (Q:VK) (x_3:XK):Prop where
 | mk (w:Addr) (W:Wk) (s:Nat) (M:List (List Cell)) (h_0:vs=[.ref w,.int s]) (h_1:WkAt H w W) (h_2:W.Ok) (h_3:s < W.st.length) (h_4:Hc H M) (h_5:∀(r:SR) (H':Hp),Same H H'→Hc H' (srC cs r::M)→Made W s r→Q (.ref r.x) H'):spSo cs vs H Q x_3
section
variable {P:Program} {w:World} {K:PySem.W.Frag} {mg:Str→Option Value} {base:Heap}
theorem iX:FnScope ["works","station"] ["works","station"] (defScope (top 7)):=⟨rfl,rfl,rfl,by decide +kernel,rfl,by decide +kernel,by decide +kernel⟩
theorem oG {f:Addr} {fd:FuncData} (F:Fun K "sides" "sides" (top 7) f fd) (rk:FnAt P w K mg base 1 "ways" ["works","station"] spWays) (mM:FnAt P w K mg base 1 "leaving" ["works","station"] spLeav) :
  FnOk P w K mg base CX0 2 f fd ["works","station"] spSides:=by
 have nd:=iX.nd
 refine F.ok iX (fun vs H Q E h=>?_) (fun cdv A outer s H vs Q E hr h=>?_)
 ·obtain⟨w,W,z,M,rfl,_⟩:=h
  rfl
 ·obtain⟨w,W,z,M,rfl,hw,ok,hc,q⟩:=h
  refine⟨_,(@pss_one _ _ _ (@ps_ret _ _ _ _ (@pe_tup _ _ _ _ _ (@pa_cons _ _ _ _ _ (pe_fn rk (hr.mono (by decide)) (by rfl) (@pa_cons _ _ _ _ _ (pv 0) (@pa_cons _ _ _ _ _ (pv 1) pa_nil (by rfl)) (by rfl))) (@pa_cons _ _ _ _ _ (pe_fn mM (hr.mono (by decide)) (by rfl) (@pa_cons _ _ _ _ _ (pv 0) (@pa_cons _ _ _ _ _ (pv 1) pa_nil (by rfl)) (by rfl))) pa_nil (by rfl)) (by rfl))))),?_⟩
  refine⟨_,rfl,_,rfl,w,W,z,rfl,hw,ok,fun p1 H1 n1 h1 s1=>⟨_,rfl,_,rfl,w,W,z,rfl,hw.same s1,ok,fun p2 H2 n2 h2 s2=>⟨(by show 2≤sizeLine; decide),fun t nt=>?_⟩⟩⟩
  have hc1:=hc.newS n1 h1 s1
  have hc2:=hc1.newS n2 h2 s2
  have hc3:Hc _ ([(t,.tup [.ref p1,.ref p2])]::[(p2,.lst ((W.lv z).map V.int))]::[(p1,.lst ((W.wy z).map V.int))]::M):=hc2.new nt _
  have hc4:Hc _ ([(t,.tup [.ref p1,.ref p2])]::[(p1,.lst ((W.wy z).map V.int))]::[(p2,.lst ((W.lv z).map V.int))]::M):=(hc3.pick 2 rfl).pick 1 rfl
  exact q t p1 p2 _ ((s1.trans s2).trans (Same.new nt)) hc4.join.join
theorem sc_so:FnScope ["works","station","told","kind","around"] ["works","station"] (defScope (top 15)):=⟨rfl,rfl,rfl,by decide +kernel,rfl,by decide +kernel,by decide +kernel⟩
theorem ok_so {f:Addr} {fd:FuncData} {cs:Cs} (F:Fun K "station_of" "station_of" (top 15) f fd) (c:CsOk K cs) (pq:FnAt P w K mg base 2 "sides" ["works","station"] spSides)
  (pY:MkAt P w K mg base 2 "Relay" cs.rl ["self","ways","belts","more"] (spRlI K)) (oW:MkAt P w K mg base 1 "Sorter" cs.so ["self","ways","belts"] (spStI K)) (mN:MkAt P w K mg base 2 "Thinner" cs.th ["self","ways","belts","every"] (spThI K))
  (nH:MkAt P w K mg base 2 "Joiner" cs.jn ["self","ways","belts"] (spJnI K)) (rS:MkAt P w K mg base 1 "Sink" cs.si ["self","ways","belts"] (spStI K)) :
  FnOk P w K mg base CX0 4 f fd ["works","station"] (spSo cs):=by
 have nd:=sc_so.nd
 refine F.ok sc_so (fun vs H Q E h=>?_) (fun cdv A outer s H vs Q E hr h=>?_)
 ·obtain⟨w,W,z,M,rfl,_⟩:=h
  rfl
 ·obtain⟨w,W,z,M,rfl,hw,ok,hz,hc,q⟩:=h
  refine⟨_,(@pss_cons _ _ _ _ _ (ps_set (i:=2) nd rfl (by nofun) (@pe_ix _ _ _ _ _ _ _ (ix_listK (K:=K) rfl) (@pe_ix _ _ _ _ _ _ _ (ix_tupK (K:=K) rfl) (pv 0) pe_int (fun _ _=>rfl)) (pv 1) (fun _ _=>rfl)))
   (@pss_cons _ _ _ _ _ (ps_set (i:=3) nd rfl (by nofun) (@pe_ix _ _ _ _ _ _ _ (ix_tupK (K:=K) rfl) (pv 2) pe_int (fun _ _=>rfl)))
   (@pss_cons _ _ _ _ _ (ps_set (i:=4) nd rfl (by nofun) (pe_fn pq (hr.mono (by decide)) (by rfl) (@pa_cons _ _ _ _ _ (pv 0) (@pa_cons _ _ _ _ _ (pv 1) pa_nil (by rfl)) (by rfl))))
   (@pss_cons _ _ _ _ _ (ps_if (pt_cmpR op_eq (pv 3) pe_str (nomark _)) (@pss_one _ _ _ (@ps_ret _ _ _ _ (pe_mk pY (hr.mono (by decide)) (by rfl) (@pa_cons _ _ _ _ _ (@pe_ix _ _ _ _ _ _ _ (ix_tupK (K:=K) rfl) (pv 4) pe_int (fun _ _=>rfl)) (@pa_cons _ _ _ _ _ (@pe_ix _ _ _ _ _ _ _ (ix_tupK (K:=K) rfl) (pv 4) pe_int (fun _ _=>rfl)) (@pa_cons _ _ _ _ _ (@pe_ix _ _ _ _ _ _ _ (ix_tupK (K:=K) rfl) (pv 2) pe_int (fun _ _=>rfl)) pa_nil (by rfl)) (by rfl)) (by rfl))))) pss_nil)
   (@pss_cons _ _ _ _ _ (ps_if (pt_cmpR op_eq (pv 3) pe_str (nomark _)) (@pss_one _ _ _ (@ps_ret _ _ _ _ (pe_mk oW (hr.mono (by decide)) (by rfl) (@pa_cons _ _ _ _ _ (@pe_ix _ _ _ _ _ _ _ (ix_tupK (K:=K) rfl) (pv 4) pe_int (fun _ _=>rfl)) (@pa_cons _ _ _ _ _ (@pe_ix _ _ _ _ _ _ _ (ix_tupK (K:=K) rfl) (pv 4) pe_int (fun _ _=>rfl)) pa_nil (by rfl)) (by rfl))))) pss_nil)
   (@pss_cons _ _ _ _ _ (ps_if (pt_cmpR op_eq (pv 3) pe_str (nomark _)) (@pss_one _ _ _ (@ps_ret _ _ _ _ (pe_mk mN (hr.mono (by decide)) (by rfl) (@pa_cons _ _ _ _ _ (@pe_ix _ _ _ _ _ _ _ (ix_tupK (K:=K) rfl) (pv 4) pe_int (fun _ _=>rfl)) (@pa_cons _ _ _ _ _ (@pe_ix _ _ _ _ _ _ _ (ix_tupK (K:=K) rfl) (pv 4) pe_int (fun _ _=>rfl)) (@pa_cons _ _ _ _ _ (@pe_ix _ _ _ _ _ _ _ (ix_tupK (K:=K) rfl) (pv 2) pe_int (fun _ _=>rfl)) pa_nil (by rfl)) (by rfl)) (by rfl))))) pss_nil)
   (@pss_cons _ _ _ _ _ (ps_if (pt_cmpR op_eq (pv 3) pe_str (nomark _)) (@pss_one _ _ _ (@ps_ret _ _ _ _ (pe_mk nH (hr.mono (by decide)) (by rfl) (@pa_cons _ _ _ _ _ (@pe_ix _ _ _ _ _ _ _ (ix_tupK (K:=K) rfl) (pv 4) pe_int (fun _ _=>rfl)) (@pa_cons _ _ _ _ _ (@pe_ix _ _ _ _ _ _ _ (ix_tupK (K:=K) rfl) (pv 4) pe_int (fun _ _=>rfl)) pa_nil (by rfl)) (by rfl))))) pss_nil)
   (@pss_one _ _ _ (@ps_ret _ _ _ _ (pe_mk rS (hr.mono (by decide)) (by rfl) (@pa_cons _ _ _ _ _ (@pe_ix _ _ _ _ _ _ _ (ix_tupK (K:=K) rfl) (pv 4) pe_int (fun _ _=>rfl)) (@pa_cons _ _ _ _ _ (@pe_ix _ _ _ _ _ _ _ (ix_tupK (K:=K) rfl) (pv 4) pe_int (fun _ _=>rfl)) pa_nil (by rfl)) (by rfl)))))))))))),?_⟩
  obtain⟨sa,ba,fa,xs,ys,zs,h1,h2⟩:=id hw.ex
  have ls:=h2.ps.length
  obtain⟨xv,hx⟩:∃ x,xs[z]?=some x:=⟨xs[z]'(by omega),zB _⟩
  obtain⟨st,hst,hp⟩:=h2.ps.gt hx
  obtain⟨ta,rfl,hta⟩:=hp
  have okst:=ok.sta st (zE hst)
  have l13:=W.wy_len ok z
  refine⟨_,rfl,⟨_,_,_,_,rfl,rfl,SqT.of h1,atI_nat (j:=0) rfl,_,rfl,⟨_,_,_,_,rfl,rfl,SqL.of h2.hs,atI_nat hx,?_⟩⟩⟩
  have mk:∀ {H1 H2:Hp} {x dx:Addr} {o:HO},Same H H1→H1 x=none→H1 dx=none→Keep [x] (upd (upd H1 dx (.own x)) x o) H2→Same H H2:=fun s1 nx ndx kp b o e =>
   kp b o (((Same.new ndx).upd nx) b o (s1 b o e)) (by rw[zG]; exact ne_of_none (s1 b o e) nx)
  rcases okst with ⟨n,rfl,_⟩|rfl|⟨n,rfl,hn,_⟩|rfl|rfl
  ·refine⟨_,rfl,⟨_,_,_,_,rfl,rfl,SqT.of hta,atI_nat (j:=0) rfl,_,rfl,_,rfl,w,W,z,M,rfl,hw,ok,hc,fun t q1 q2 H1 s1 hc1=>?_⟩⟩
   refine⟨_,rfl,rfl,_,rfl,?_⟩
   rw[show decide (V.str "relay"=V.str "relay")=true from by decide +kernel]
   refine iteT ⟨_,rfl,⟨_,_,_,_,rfl,rfl,SqT.of (hc1.get 0 0 rfl rfl),atI_nat (j:=0) rfl,_,rfl,⟨_,_,_,_,rfl,rfl,SqT.of (hc1.get 0 0 rfl rfl),atI_nat (j:=1) rfl,_,rfl,⟨_,_,_,_,rfl,rfl,SqT.of (s1 _ _ hta),atI_nat (j:=1) rfl,fun x dx nx ndx nex=>?_⟩⟩⟩⟩
   have hcF:=(hc1.new ndx (.own x)).new (p:=x) (by rw[upd_ne (Ne.symm nex)]; exact nx) (.ins cs.rl dx [])
   refine⟨x,q1,q2,cs.rl,dx,_,_,n,_,rfl,hcF,c.rl,SqL.of (hcF.get 2 1 rfl rfl),SqL.of (hcF.get 2 2 rfl rfl),ne_of_none (hc1.get 0 1 rfl rfl) nx,ne_of_none (hc1.get 0 2 rfl rfl) nx,fun p1 p2 H' kp hc'=>⟨rfl,?_⟩⟩
   exact q ⟨x,dx,p1,p2,0,.relay n,W.wy z,W.lv z,[],0,[]⟩ H' (mk s1 nx ndx kp) (((hc'.pick 1 rfl).tl.pick 1 rfl).tl) ⟨⟨_,hst,by rw[kd_relay]; rfl⟩,rfl,rfl,rfl,rfl,⟨W.wy_nd z,by show(W.wy z).length≤100; omega,fun e=>(by cases e),fun n e=>by cases e⟩⟩
  ·refine⟨_,rfl,⟨_,_,_,_,rfl,rfl,SqT.of hta,atI_nat (j:=0) rfl,_,rfl,_,rfl,w,W,z,M,rfl,hw,ok,hc,fun t q1 q2 H1 s1 hc1=>?_⟩⟩
   refine⟨_,rfl,rfl,_,rfl,?_⟩
   rw[show decide (V.str "sorter"=V.str "relay")=false from by decide +kernel]
   refine iteF ⟨_,rfl,rfl,_,rfl,?_⟩
   rw[show decide (V.str "sorter"=V.str "sorter")=true from by decide +kernel]
   refine iteT ⟨_,rfl,⟨_,_,_,_,rfl,rfl,SqT.of (hc1.get 0 0 rfl rfl),atI_nat (j:=0) rfl,_,rfl,⟨_,_,_,_,rfl,rfl,SqT.of (hc1.get 0 0 rfl rfl),atI_nat (j:=1) rfl,fun x dx nx ndx nex=>?_⟩⟩⟩
   have hcF:=(hc1.new ndx (.own x)).new (p:=x) (by rw[upd_ne (Ne.symm nex)]; exact nx) (.ins cs.so dx [])
   refine⟨x,q1,q2,cs.so,dx,_,_,_,rfl,hcF,c.so,SqL.of (hcF.get 2 1 rfl rfl),SqL.of (hcF.get 2 2 rfl rfl),ne_of_none (hc1.get 0 1 rfl rfl) nx,ne_of_none (hc1.get 0 2 rfl rfl) nx,fun p1 p2 H' kp hc'=>⟨rfl,?_⟩⟩
   exact q ⟨x,dx,p1,p2,0,.sorter,W.wy z,W.lv z,[],0,[]⟩ H' (mk s1 nx ndx kp) (((hc'.pick 1 rfl).tl.pick 1 rfl).tl) ⟨⟨_,hst,by rw[kd_sorter]⟩,rfl,rfl,rfl,rfl,⟨W.wy_nd z,by show(W.wy z).length≤100; omega,fun e=>(by cases e),fun n e=>by cases e⟩⟩
  ·refine⟨_,rfl,⟨_,_,_,_,rfl,rfl,SqT.of hta,atI_nat (j:=0) rfl,_,rfl,_,rfl,w,W,z,M,rfl,hw,ok,hc,fun t q1 q2 H1 s1 hc1=>?_⟩⟩
   refine⟨_,rfl,rfl,_,rfl,?_⟩
   rw[show decide (V.str "thinner"=V.str "relay")=false from by decide +kernel]
   refine iteF ⟨_,rfl,rfl,_,rfl,?_⟩
   rw[show decide (V.str "thinner"=V.str "sorter")=false from by decide +kernel]
   refine iteF ⟨_,rfl,rfl,_,rfl,?_⟩
   rw[show decide (V.str "thinner"=V.str "thinner")=true from by decide +kernel]
   refine iteT ⟨_,rfl,⟨_,_,_,_,rfl,rfl,SqT.of (hc1.get 0 0 rfl rfl),atI_nat (j:=0) rfl,_,rfl,⟨_,_,_,_,rfl,rfl,SqT.of (hc1.get 0 0 rfl rfl),atI_nat (j:=1) rfl,_,rfl,⟨_,_,_,_,rfl,rfl,SqT.of (s1 _ _ hta),atI_nat (j:=1) rfl,fun x dx nx ndx nex=>?_⟩⟩⟩⟩
   have hcF:=(hc1.new ndx (.own x)).new (p:=x) (by rw[upd_ne (Ne.symm nex)]; exact nx) (.ins cs.th dx [])
   refine⟨x,q1,q2,cs.th,dx,_,_,n,_,rfl,hcF,c.th,SqL.of (hcF.get 2 1 rfl rfl),SqL.of (hcF.get 2 2 rfl rfl),ne_of_none (hc1.get 0 1 rfl rfl) nx,ne_of_none (hc1.get 0 2 rfl rfl) nx,fun p1 p2 H' kp hc'=>⟨rfl,?_⟩⟩
   exact q ⟨x,dx,p1,p2,0,.thinner n,W.wy z,W.lv z,[],0,[]⟩ H' (mk s1 nx ndx kp) (((hc'.pick 1 rfl).tl.pick 1 rfl).tl) ⟨⟨_,hst,by rw[kd_thinner]; rfl⟩,rfl,rfl,rfl,rfl,⟨W.wy_nd z,by show(W.wy z).length≤100; omega,fun e=>(by cases e),fun n' e=>by cases e; exact hn⟩⟩
  ·refine⟨_,rfl,⟨_,_,_,_,rfl,rfl,SqT.of hta,atI_nat (j:=0) rfl,_,rfl,_,rfl,w,W,z,M,rfl,hw,ok,hc,fun t q1 q2 H1 s1 hc1=>?_⟩⟩
   refine⟨_,rfl,rfl,_,rfl,?_⟩
   rw[show decide (V.str "joiner"=V.str "relay")=false from by decide +kernel]
   refine iteF ⟨_,rfl,rfl,_,rfl,?_⟩
   rw[show decide (V.str "joiner"=V.str "sorter")=false from by decide +kernel]
   refine iteF ⟨_,rfl,rfl,_,rfl,?_⟩
   rw[show decide (V.str "joiner"=V.str "thinner")=false from by decide +kernel]
   refine iteF ⟨_,rfl,rfl,_,rfl,?_⟩
   rw[show decide (V.str "joiner"=V.str "joiner")=true from by decide +kernel]
   refine iteT ⟨_,rfl,⟨_,_,_,_,rfl,rfl,SqT.of (hc1.get 0 0 rfl rfl),atI_nat (j:=0) rfl,_,rfl,⟨_,_,_,_,rfl,rfl,SqT.of (hc1.get 0 0 rfl rfl),atI_nat (j:=1) rfl,fun x dx nx ndx nex=>?_⟩⟩⟩
   have hcF:=(hc1.new ndx (.own x)).new (p:=x) (by rw[upd_ne (Ne.symm nex)]; exact nx) (.ins cs.jn dx [])
   refine⟨x,q1,q2,cs.jn,dx,_,_,_,rfl,hcF,c.jn,SqL.of (hcF.get 2 1 rfl rfl),SqL.of (hcF.get 2 2 rfl rfl),ne_of_none (hc1.get 0 1 rfl rfl) nx,ne_of_none (hc1.get 0 2 rfl rfl) nx,W.wy_nd z,by omega,fun p1 p2 d ls' H' el kp hc'=>⟨rfl,?_⟩⟩
   have hc'':=Hc.join (((hc'.pick 2 rfl).tl.pick 2 rfl).tl)
   have hc3:Hc H' (srC cs ⟨x,dx,p1,p2,d,.joiner,W.wy z,W.lv z,ls',0,(W.wy z).map fun _=>[]⟩::M):=Hc.join (a:=jobj cs.jn dx x p1 p2 d (W.wy z) ls' ((W.lv z).map V.int)) (b:=jrows ls' ((W.wy z).map fun _=>[])) (((((hc'.pick 2 rfl).tl.pick 2 rfl).tl).pick 1 rfl).pick 1 rfl)
   refine q ⟨x,dx,p1,p2,d,.joiner,W.wy z,W.lv z,ls',0,(W.wy z).map fun _=>[]⟩ H' (mk s1 nx ndx kp) hc3 ⟨⟨_,hst,by rw[kd_joiner]⟩,rfl,rfl,rfl,by rw[if_pos rfl],⟨W.wy_nd z,by show(W.wy z).length≤100; omega,fun _=>⟨el,by rw[zD],fun row hr=>?_⟩,fun n e=>by cases e⟩⟩
   obtain⟨_,_,rfl⟩:=yC.mp hr
   exact zI _
  ·refine⟨_,rfl,⟨_,_,_,_,rfl,rfl,SqT.of hta,atI_nat (j:=0) rfl,_,rfl,_,rfl,w,W,z,M,rfl,hw,ok,hc,fun t q1 q2 H1 s1 hc1=>?_⟩⟩
   refine⟨_,rfl,rfl,_,rfl,?_⟩
   rw[show decide (V.str "sink"=V.str "relay")=false from by decide +kernel]
   refine iteF ⟨_,rfl,rfl,_,rfl,?_⟩
   rw[show decide (V.str "sink"=V.str "sorter")=false from by decide +kernel]
   refine iteF ⟨_,rfl,rfl,_,rfl,?_⟩
   rw[show decide (V.str "sink"=V.str "thinner")=false from by decide +kernel]
   refine iteF ⟨_,rfl,rfl,_,rfl,?_⟩
   rw[show decide (V.str "sink"=V.str "joiner")=false from by decide +kernel]
   refine iteF ⟨_,rfl,⟨_,_,_,_,rfl,rfl,SqT.of (hc1.get 0 0 rfl rfl),atI_nat (j:=0) rfl,_,rfl,⟨_,_,_,_,rfl,rfl,SqT.of (hc1.get 0 0 rfl rfl),atI_nat (j:=1) rfl,fun x dx nx ndx nex=>?_⟩⟩⟩
   have hcF:=(hc1.new ndx (.own x)).new (p:=x) (by rw[upd_ne (Ne.symm nex)]; exact nx) (.ins cs.si dx [])
   refine⟨x,q1,q2,cs.si,dx,_,_,_,rfl,hcF,c.si,SqL.of (hcF.get 2 1 rfl rfl),SqL.of (hcF.get 2 2 rfl rfl),ne_of_none (hc1.get 0 1 rfl rfl) nx,ne_of_none (hc1.get 0 2 rfl rfl) nx,fun p1 p2 H' kp hc'=>⟨rfl,?_⟩⟩
   exact q ⟨x,dx,p1,p2,0,.sink,W.wy z,W.lv z,[],0,[]⟩ H' (mk s1 nx ndx kp) (((hc'.pick 1 rfl).tl.pick 1 rfl).tl) ⟨⟨_,hst,by rw[kd_sink]⟩,rfl,rfl,rfl,rfl,⟨W.wy_nd z,by show(W.wy z).length≤100; omega,fun e=>(by cases e),fun n e=>by cases e⟩⟩
end
end Oc
namespace Oc
open PySem L2
structure SmD (Pd:Addr) (H H':Hp):Prop where
 keep:∀ b u,H b=some u→((∀ ps,u ≠ HO.tbl ps)∨b ≠ Pd)→H' b=some u
 tabs:∀ b ps,H b=some (.tbl ps)→∃ ps',H' b=some (.tbl ps')
section
variable {Pd:Addr} {H H' H'':Hp} {b:Addr} {xs:List V}
theorem SmD.of (s:Same H H'):SmD Pd H H':=⟨fun b u e _=>s b u e,fun b ps e=>⟨ps,s _ _ e⟩⟩
theorem SmD.trans (a:SmD Pd H H') (b:SmD Pd H' H''):SmD Pd H H'':=⟨fun c u e n=>b.keep c u (a.keep c u e n) n,fun c ps e=>let ⟨ps',e'⟩:=a.tabs c ps e; b.tabs c ps' e'⟩
theorem SmD.tup (s:SmD Pd H H') (e:H b=some (.tup xs)):H' b=some (.tup xs):=s.keep _ _ e (.inl fun _ z=>nomatch z)
theorem SmD.lst (s:SmD Pd H H') (e:H b=some (.lst xs)):H' b=some (.lst xs):=s.keep _ _ e (.inl fun _ z=>nomatch z)
theorem SmD.upd {p:Addr} {o:HO} (s:SmD Pd H H') (n:H p=none):SmD Pd H (upd H' p o) :=
 ⟨fun b u e h=>by rw[upd_ne (ne_of_none e n)]; exact s.keep b u e h,fun b ps e=>by rw[upd_ne (ne_of_none e n)]; exact s.tabs b ps e⟩
theorem SmD.sm (s:SmD Pd H H'):Sm H H':=⟨fun b u e n=>s.keep b u e (.inl n),s.tabs⟩
theorem SmD.free (s:SmD Pd H H') (n:H' b=none):H b=none:=s.sm.free n
end
theorem rSrt_ofD {K:PySem.W.Frag} {P l:Addr} {q:Str} {ln cl:Nat} {i:Int} {Q:VK} {xs:List V} {kz:List Int} {H1:Hp} (hl:SqL K H1 l xs) (h64:xs.length < 64) (hlen:kz.length=xs.length)
  (hk:∀(j:Nat) x k,xs[j]?=some x→kz[j]?=some k→∃ t ys,x=.ref t∧SqT K H1 t ys∧atI ys i=some (.int k)) (hT:LamT P q ln cl H1)
  (fin:∀ H6 D out,SmD P H1 H6→LamT P q ln cl H6→H1 D=none→H6 D=some (.lst out)→StabV kz xs out→Q (.ref D) H6):rSrt K P q ln cl i Q (.ref l) H1:=by
 refine⟨l,xs,kz,rfl,hl,h64,hlen,hk,?_⟩
 rcases hT with hP|⟨c',hP,hc'⟩
 ·refine .inl ⟨hP,fun c' D out nc ne nD st=>fin _ D out ?_ ?_ nD upd_same st⟩
  ·have ncP:P ≠ c':=ne_of_none hP nc
   have nDP:P ≠ D:=ne_of_none hP nD
   refine⟨fun b u e h=>?_,fun b ps e=>?_⟩
   ·have nb:b ≠ P:=h.elim (fun h=>ne_of e hP (h _)) id
    rw[upd_ne (ne_of_none e nD),upd_ne (ne_of_none e nc),upd_ne nb]; exact e
   ·by_cases hb:b=P
    ·subst hb; exact⟨_,by rw[upd_ne nDP,upd_ne ncP,upd_same]⟩
    ·exact⟨ps,by rw[upd_ne (ne_of_none e nD),upd_ne (ne_of_none e nc),upd_ne hb]; exact e⟩
  ·exact .inr ⟨c',by rw[upd_ne (ne_of_none hP nD),upd_ne (ne_of_none hP nc),upd_same],by rw[upd_ne ne,upd_same]⟩
 ·refine .inr ⟨c',hP,hc',fun D out nD st=>fin _ D out (SmD.of (Same.new nD)) ?_ nD upd_same st⟩
  exact LamT.same (.inr ⟨c',hP,hc'⟩) (Same.new nD)
end Oc
namespace Oc
open PySem L2
theorem IsTri.sm {Pd:Addr} {H H':Hp} (s:SmD Pd H H') {x:V} {t:Tri} (h:IsTri H x t):IsTri H' x t:=let ⟨p,e,q⟩:=h; ⟨p,e,s.tup q⟩
theorem IsSta.sm {Pd:Addr} {H H':Hp} (s:SmD Pd H H') {x:V} {t:Sta} (h:IsSta H x t):IsSta H' x t:=let ⟨p,e,q⟩:=h; ⟨p,e,s.tup q⟩
theorem WkAt.sm {Pd:Addr} {H H':Hp} {w:Addr} {W:Wk} (e:SmD Pd H H') (h:WkAt H w W):WkAt H' w W:=by
 obtain⟨s,b,f,xs,ys,zs,h1,h2⟩:=h.ex
 exact⟨s,b,f,xs,ys,zs,e.tup h1,e.lst h2.hs,e.lst h2.hb,e.lst h2.hf,pairedMono (fun _ _=>IsSta.sm e) h2.ps,pairedMono (fun _ _=>IsTri.sm e) h2.pb,pairedMono (fun _ _=>IsTri.sm e) h2.pf⟩
inductive IsPr (H:Hp) (x:V) (t:Int × Int):Prop where
 | mk (p:_) (h_0:x=.ref p) (h_1:H p=some (.tup [.int t.1,.int t.2])):IsPr H x t
theorem IsPr.same {H H':Hp} (s:Same H H') {x:V} {t:Int × Int} (h:IsPr H x t):IsPr H' x t:=let ⟨p,e,q⟩:=h; ⟨p,e,s _ _ q⟩
theorem IsPr.keep {H:Hp} {a:Addr} {xs ys:List V} (e:H a=some (.lst xs)) {x:V} {t:Int × Int} (h:IsPr H x t):IsPr (upd H a (.lst ys)) x t:=by
 obtain⟨p,rfl,q⟩:=h
 exact⟨p,rfl,by rw[upd_ne (ne_of q e (by intro z; cases z))]; exact q⟩
def Wk.drs (W:Wk) (s:Int):List Tri:=(List.range 51).flatMap fun(t:Nat)=>W.fe.filter fun f=>f.1 == s && f.2.1 == (t:Int)
def prOf (t:Tri):Int × Int:=(t.2.1,t.2.2)
def Wk.dr (W:Wk) (s:Int):List (Int × Int):=(W.drs s).map prOf
abbrev dq:Str:="door.<locals>.<lambda>"
abbrev DoorT (P:Addr) (H:Hp):Prop:=LamT P dq 12 61 H
inductive spDoor (Pd:Addr) (vs:List V) (H:Hp) (Q:VK) (x_3:XK):Prop where
 | mk (w:Addr) (W:Wk) (s:Int) (h_0:vs=[.ref w,.int s]) (h_1:WkAt H w W) (h_2:W.Ok) (h_3:DoorT Pd H) (h_4:∀(p:Addr) (rs:List V) (H':Hp),H p=none→H' p=some (.lst rs)→Paired (IsPr H') rs (W.dr s)→SmD Pd H H'→DoorT Pd H'→rs.length≤60→Q (.ref p) H'):spDoor Pd vs H Q x_3
theorem drs_of {W:Wk} (ok:W.Ok) {s:Int} {is:List Nat} (hp:is.Perm (List.range (W.fe.filter fun f=>f.1 == s).length))
  (hw:is.Pairwise (fun i j=>((W.fe.filter fun f=>f.1 == s).map fun(f:Tri)=>f.2.1).getD i 0 < ((W.fe.filter fun f=>f.1 == s).map fun(f:Tri)=>f.2.1).getD j 0∨(((W.fe.filter fun f=>f.1 == s).map fun(f:Tri)=>f.2.1).getD i 0=((W.fe.filter fun f=>f.1 == s).map fun(f:Tri)=>f.2.1).getD j 0∧i < j))) :
  is.map (fun i=>(W.fe.filter fun f=>f.1 == s).getD i (0,0,0))=W.drs s:=by
 rw[stab_bucket (0,0,0) (fun(f:Tri)=>f.2.1) (m:=51) (fun x hx=>?_) hp hw]
 ·unfold Wk.drs
  congr 1
  funext t
  rw[jG]
  refine jJ fun x _=>?_
  rw[kW]
 ·obtain⟨h1,h2,h3,h4,_⟩:=ok.fee x (zV.mp hx).1
  exact⟨h3,by omega⟩
section
variable {P:Program} {w:World} {K:PySem.W.Frag} {mg:Str→Option Value} {base:Heap}
theorem l_:FnScope ["works","station","feeds"] ["works","station"] (defScope (top 4)):=⟨rfl,rfl,rfl,by decide +kernel,rfl,by decide +kernel,by decide +kernel⟩
theorem pP {f c Pd:Addr} {fd:FuncData} (F:Fun K "door" "door" (top 4) f fd) (hc:fd.code=.ref c) (tb:Tab K mg base c Pd) (T:Txt K mg):FnOk P w K mg base CX0 1 f fd ["works","station"] (spDoor Pd):=by
 have nd:=l_.nd
 refine F.okC hc l_ (fun vs H Q E h=>?_) (fun A outer s H vs Q E hr h=>?_)
 ·obtain⟨w,W,z,rfl,_⟩:=h
  rfl
 ·obtain⟨w,W,z,rfl,hw,ok,hT,q⟩:=h
  obtain⟨sa,ba,fa,xs,ys,zs,h1,h2⟩:=hw.ex
  have lf:=h2.pf.length
  have f60:=ok.f60
  refine⟨_,(@pss_cons _ _ _ _ _ (ps_setC (i:=2) nd rfl (Or.inl rfl) rfl (own:=["feed"]) (fr:=["station"]) (js:=[1]) (by and_intros) (pi_listK (K:=K) rfl (@pe_ix _ _ _ _ _ _ _ (ix_tupK (K:=K) rfl) (pv 0) pe_int (fun _ _=>rfl))) (fun _ _ _ _=>(pg_name (i:=0) (show List.Nodup (["feed","station"]:List Str) from by decide +kernel) rfl (by nofun))) (fun _ _ _ _=>(pts_one (pt_cmpR op_eq (@pe_ix _ _ _ _ _ _ _ (ix_tupK (K:=K) rfl) (pv 0) pe_int (fun _ _=>rfl)) (pv 1) (nomark _)))) (fun _ _ _ _=>(pv 0)))
   (@pss_one _ _ _ (@ps_ret _ _ _ _ (pe_comp (own:=["feed"]) (fr:=[]) (js:=[]) (by and_intros) (pi_listK (K:=K) rfl (pe_srt hr (by rfl) T.n_sorted bt_sorted rfl (by rfl) tb.hd tb.bl (pv 2) (by decide) (fun _ _ _ _=>rfl) (by rfl) (by rfl))) (fun _ _ _ _=>(pg_name (i:=0) (show List.Nodup (["feed"]:List Str) from by decide +kernel) rfl (by nofun))) (fun _ _ _ _=>pts_nil) (fun _ _ _ _=>(@pe_tup _ _ _ _ _ (@pa_cons _ _ _ _ _ (@pe_ix _ _ _ _ _ _ _ (ix_tupK (K:=K) rfl) (pv 0) pe_int (fun _ _=>rfl)) (@pa_cons _ _ _ _ _ (@pe_ix _ _ _ _ _ _ _ (ix_tupK (K:=K) rfl) (pv 0) pe_int (fun _ _=>rfl)) pa_nil (by rfl)) (by rfl)))))))),?_⟩
  refine⟨_,rfl,⟨_,_,_,_,rfl,rfl,SqT.of h1,(atI_nat (j:=2) rfl),fa,rfl,⟨_,SqL.of h2.hf⟩,fun D nD=>?_⟩⟩
  refine comp_list (a:=fa) (xs:=zs) (fun i H5=>Same H H5∧∃ xs':List V,H5 D=some (.lst xs')∧Paired (IsTri H5) xs' ((W.fe.take i).filter fun f=>f.1 == z)) ⟨Same.new nD,[],upd_same,.nil⟩ (fun i H5 _ p=>SqL.of (p.1 _ _ h2.hf)) ?_ ?_
  ·rintro i x H5 m Wf hx ⟨s5,xs',h5,p5⟩ nx
   obtain⟨t,ht,hp0⟩:=h2.pf.gt hx
   obtain⟨a0,rfl,ha⟩:=hp0
   have hi:=(zC.mp ht).1
   refine⟨_,rfl,⟨_,_,_,_,rfl,rfl,SqT.of (s5 _ _ ha),(atI_nat (j:=0) rfl),_,rfl,rfl,_,rfl,?_⟩⟩
   have et:decide (V.int t.1=V.int z)=(t.1 == z):=dec_int
   have l5:=p5.length
   have l6:((W.fe.take i).filter fun f=>f.1 == z).length≤60:=z9 (qF _ _) (by rw[yA]; omega)
   have ef:(W.fe.take (i + 1)).filter (fun f=>f.1 == z)=(W.fe.take i).filter (fun f=>f.1 == z)++(if (t.1 == z)=true then [t] else []):=by
    rw[yS,ht,zN]
    congr 1
    show List.filter _ [t]=_
    rw[List.filter_cons,yL]
   refine iteB (fun hb=>?_) (fun hb=>?_)
   ·rw[et] at hb
    refine⟨_,rfl,_,h5,small1000 (by omega),nx _ ⟨s5.upd nD,xs'++[.ref a0],upd_same,?_⟩⟩
    rw[ef,hb,if_pos rfl]
    exact paired_app (pairedMono (fun _ _ h=>h.keep h5) p5) (.cons (IsTri.keep h5 ⟨a0,rfl,s5 _ _ ha⟩) .nil)
   ·rw[et] at hb
    refine nx _ ⟨s5,xs',h5,?_⟩
    rw[ef,hb,if_neg zZ,zP]
    exact p5
  ·rintro H5 ⟨s5,xs',h5,p5⟩
   rw[lf,yD] at p5
   have l5:=p5.length
   have l6:(W.fe.filter fun f=>f.1 == z).length≤60:=z9 (qF _ _) f60
   refine⟨_,rfl,?_⟩
   refine rSrt_ofD (kz:=(W.fe.filter fun f=>f.1 == z).map fun(f:Tri)=>f.2.1) (SqL.of h5) (by omega) (by rw[zD]; omega) (fun j x k hj hk=>?_) (hT.same s5) (fun H6 D2 out s6 hT6 nD2 h6 st=>?_)
   ·obtain⟨t,ht,a0,rfl,ha⟩:=p5.gt hj
    rw[zF,ht] at hk
    cases hk
    exact⟨a0,_,rfl,SqT.of ha,atI_nat (j:=1) rfl⟩
   ·obtain⟨is,i1,rfl,i3⟩:=st
    have i1':=i1
    rw[l5] at i1'
    have p6:Paired (IsTri H6) (is.map fun i=>xs'.getD i .non) (W.drs z):=by
     rw[← drs_of ok i1' i3]
     exact pairedMono (fun _ _=>IsTri.sm s6) (paired_pick (0,0,0) p5 is fun i hi=>yU.mp (i1.mem_iff.mp hi))
    have lo:(is.map fun i=>xs'.getD i V.non).length≤60:=by rw[zD,i1.length_eq,yZ]; omega
    have hD2:H D2=none:=s5.free nD2
    have sH6:SmD Pd H H6:=(SmD.of s5).trans s6
    generalize (is.map fun i=>xs'.getD i V.non)=out at h6 p6 lo
    have l7:=p6.length
    refine⟨D2,rfl,⟨_,SqL.of h6⟩,fun D3 nD3=>?_⟩
    refine comp_list (a:=D2) (xs:=out) (fun i H7=>Same H6 H7∧∃ rs:List V,H7 D3=some (.lst rs)∧Paired (IsPr H7) rs (((W.drs z).take i).map prOf)) ⟨Same.new nD3,[],upd_same,.nil⟩ (fun i H7 _ p=>SqL.of (p.1 _ _ h6)) ?_ ?_
    ·rintro i x H7 m Wf hx ⟨s7,rs,h7,p7⟩ nx
     obtain⟨t,ht,hp0⟩:=p6.gt hx
     obtain⟨a0,rfl,ha⟩:=hp0
     have hi:=(zC.mp ht).1
     have l8:=p7.length
     rw[zD,yA] at l8
     refine⟨_,rfl,⟨_,_,_,_,rfl,rfl,SqT.of (s7 _ _ ha),(atI_nat (j:=1) rfl),_,rfl,⟨_,_,_,_,rfl,rfl,SqT.of (s7 _ _ ha),(atI_nat (j:=2) rfl),?_⟩⟩⟩
     refine⟨(by show 2≤sizeLine; decide),fun p np=>?_⟩
     have s8:Same H7 (upd H7 p (.tup [.int t.2.1,.int t.2.2])):=Same.new np
     refine⟨_,s8 _ _ h7,small1000 (by omega),nx _ ⟨(s7.trans s8).upd nD3,rs++[.ref p],upd_same,?_⟩⟩
     rw[yS,ht,zL]
     exact paired_app (pairedMono (fun _ _ h=>(IsPr.same s8 h).keep (s8 _ _ h7)) p7) (.cons (IsPr.keep (s8 _ _ h7) ⟨p,rfl,upd_same⟩) .nil)
    ·rintro H7 ⟨s7,rs,h7,p7⟩
     rw[l7,yD] at p7
     exact q D3 rs H7 (sH6.free nD3) h7 p7 (sH6.trans (SmD.of s7)) (hT6.same s7) (by have:=p7.length; rw[zD] at this; omega)
end
end Oc
namespace Oc
open PySem L2
def NoT (Ms:List (List Cell)):Prop:=∀ c ∈ Ms.flatten,∀ ps,c.2 ≠ HO.tbl ps
theorem NoT.cons {c:List Cell} {Ms:List (List Cell)} (h:∀ x ∈ c,∀ ps,x.2 ≠ HO.tbl ps) (n:NoT Ms):NoT (c::Ms):=fun x hx=>by
 rcases zW.mp (show x ∈ c++Ms.flatten from hx) with q|q
 ·exact h x q
 ·exact n x q
theorem NoT.one {a:Addr} {o:HO} {Ms:List (List Cell)} (h:∀ ps,o ≠ HO.tbl ps) (n:NoT Ms):NoT ([(a,o)]::Ms):=n.cons fun x hx=>by rw[zG.mp hx]; exact h
theorem NoT.lst {a:Addr} {xs:List V} {Ms:List (List Cell)} (n:NoT Ms):NoT ([(a,.lst xs)]::Ms):=n.one fun _ z=>nomatch z
theorem noT_rows {as:List Addr} {vs:List (List V)}:∀ x ∈ rowsC as (vs.map HO.lst),∀ ps,x.2 ≠ HO.tbl ps:=fun x hx ps=>by
 obtain⟨i,hi⟩:=yN hx
 have h2:=(q9 hx).2
 obtain⟨v,_,e⟩:=yC.mp h2
 rw[← e]
 exact fun z=>nomatch z
theorem _root_.L2.Hc.sm {Pd:Addr} {H H':Hp} {Ms:List (List Cell)} (h:Hc H Ms) (n:NoT Ms) (s:SmD Pd H H'):Hc H' Ms:=⟨h.1,fun p hp=>s.keep _ _ (h.2 p hp) (.inl (n p hp))⟩
theorem _root_.L2.Hc.newM {Pd:Addr} {H H':Hp} {Ms:List (List Cell)} {p:Addr} {o:HO} (h:Hc H Ms) (n:NoT Ms) (np:H p=none) (e:H' p=some o) (s:SmD Pd H H'):Hc H' ([(p,o)]::Ms):=by
 refine⟨(h.new np o).1,fun c hc=>?_⟩
 rcases zW.mp (show c ∈ [(p,o)]++Ms.flatten from hc) with q|q
 ·rw[zG.mp q]; exact e
 ·exact(h.sm n s).2 c q
def Kp (Pd p:Addr) (H H':Hp):Prop:=∀ b u,H b=some u→((∀ ps,u ≠ HO.tbl ps)∨b ≠ Pd)→b ≠ p→H' b=some u
theorem Kp.sm {Pd p:Addr} {H H':Hp} (s:SmD Pd H H'):Kp Pd p H H':=fun b u e n _=>s.keep b u e n
theorem Kp.trans {Pd p:Addr} {H H1 H2:Hp} (a:Kp Pd p H H1) (b:Kp Pd p H1 H2):Kp Pd p H H2:=fun c u e n m=>b c u (a c u e n m) n m
theorem Kp.put {Pd p:Addr} {H:Hp} {o:HO}:Kp Pd p H (upd H p o):=fun b u e _ m=>by rw[upd_ne m]; exact e
theorem Kp.tup {Pd p C dx:Addr} {fs:List (Str × V)} {H H':Hp} (k:Kp Pd p H H') (hp:H p=some (.ins C dx fs)) {b:Addr} {xs:List V} (e:H b=some (.tup xs)):H' b=some (.tup xs):=k b _ e (.inl fun _ z=>nomatch z) (ne_of e hp fun z=>nomatch z)
theorem Kp.lst {Pd p C dx:Addr} {fs:List (Str × V)} {H H':Hp} (k:Kp Pd p H H') (hp:H p=some (.ins C dx fs)) {b:Addr} {xs:List V} (e:H b=some (.lst xs)):H' b=some (.lst xs):=k b _ e (.inl fun _ z=>nomatch z) (ne_of e hp fun z=>nomatch z)
theorem WkAt.kp {Pd p C dx:Addr} {fs:List (Str × V)} {H H':Hp} (k:Kp Pd p H H') (hp:H p=some (.ins C dx fs)) {w:Addr} {W:Wk} (h:WkAt H w W):WkAt H' w W:=by
 obtain⟨s,b,f,xs,ys,zs,h1,h2⟩:=h.ex
 refine⟨s,b,f,xs,ys,zs,k.tup hp h1,k.lst hp h2.hs,k.lst hp h2.hb,k.lst hp h2.hf,pairedMono (fun _ _ h=>?_) h2.ps,pairedMono (fun _ _ h=>?_) h2.pb,pairedMono (fun _ _ h=>?_) h2.pf⟩
 all_goals
  obtain⟨q,e,r⟩:=h
  exact⟨q,e,k.tup hp r⟩
theorem _root_.L2.LamT.updI {P p C dx:Addr} {fs:List (Str × V)} {q:Str} {ln cl:Nat} {H:Hp} {o:HO} (h:LamT P q ln cl H) (e:H p=some (.ins C dx fs)):LamT P q ln cl (upd H p o):=by
 rcases h with h|⟨c',h1,h2⟩
 ·exact .inl (by rw[upd_ne (ne_of h e fun z=>nomatch z)]; exact h)
 ·exact .inr ⟨c',by rw[upd_ne (ne_of h1 e fun z=>nomatch z)]; exact h1,by rw[upd_ne (ne_of h2 e fun z=>nomatch z)]; exact h2⟩
def Wk.de (W:Wk) (s:Int):List Tri:=(W.dr s).map fun p=>(p.1,-1,p.2)
theorem Wk.drs_mem {W:Wk} {s:Int} {t:Tri} (h:t ∈ W.drs s):t ∈ W.fe∧t.1=s:=by
 unfold Wk.drs at h
 obtain⟨i,_,hi⟩:=qW.mp h
 obtain⟨h1,h2⟩:=zV.mp hi
 rw[yK] at h2
 exact⟨h1,by simpa using h2.1⟩
inductive spDE (Pd:Addr) (vs:List V) (H:Hp) (Q:VK) (x_3:XK):Prop where
 | mk (w:Addr) (W:Wk) (s:Int) (h_0:vs=[.ref w,.int s]) (h_1:WkAt H w W) (h_2:W.Ok) (h_3:DoorT Pd H) (h_4:∀(p:Addr) (rs:List V) (H':Hp),H p=none→H' p=some (.lst rs)→Paired (IsTri H') rs (W.de s)→SmD Pd H H'→DoorT Pd H'→rs.length≤60→Q (.ref p) H'):spDE Pd vs H Q x_3
section
variable {P:Program} {w:World} {K:PySem.W.Frag} {mg:Str→Option Value} {base:Heap}
theorem sc_de:FnScope ["works","station"] ["works","station"] (defScope (top 5)):=⟨rfl,rfl,rfl,by decide +kernel,rfl,by decide +kernel,by decide +kernel⟩
theorem ok_de {f Pd:Addr} {fd:FuncData} {tkD:Tok} (F:Fun K "door_events" "door_events" (top 5) f fd) (g_DOOR:mg "DOOR"=some (.int (-1) tkD)) (lD:FnAt P w K mg base 1 "door" ["works","station"] (spDoor Pd)):FnOk P w K mg base CX0 2 f fd ["works","station"] (spDE Pd):=by
 have nd:=sc_de.nd
 refine F.ok sc_de (fun vs H Q E h=>?_) (fun cdv A outer s H vs Q E hr h=>?_)
 ·obtain⟨w,W,z,rfl,_⟩:=h
  rfl
 ·obtain⟨w,W,z,rfl,hw,ok,hT,q⟩:=h
  refine⟨_,(@pss_one _ _ _ (@ps_ret _ _ _ _ (pe_comp (own:=["fed"]) (fr:=[]) (js:=[]) (by and_intros) (pi_listK (K:=K) rfl (pe_fn lD (hr.mono (by decide)) (by rfl) (@pa_cons _ _ _ _ _ (pv 0) (@pa_cons _ _ _ _ _ (pv 1) pa_nil (by rfl)) (by rfl)))) (fun _ _ _ _=>(pg_name (i:=0) (show List.Nodup (["fed"]:List Str) from by decide +kernel) rfl (by nofun))) (fun _ _ _ _=>pts_nil) (fun _ _ _ _=>(@pe_tup _ _ _ _ _ (@pa_cons _ _ _ _ _ (@pe_ix _ _ _ _ _ _ _ (ix_tupK (K:=K) rfl) (pv 0) pe_int (fun _ _=>rfl)) (@pa_cons _ _ _ _ _ (pe_glob (v:=.int (-1)) (by rfl) (by exact g_DOOR) ⟨_,rfl⟩) (@pa_cons _ _ _ _ _ (@pe_ix _ _ _ _ _ _ _ (ix_tupK (K:=K) rfl) (pv 0) pe_int (fun _ _=>rfl)) pa_nil (by rfl)) (by rfl)) (by rfl))))))),?_⟩
  refine⟨_,rfl,_,rfl,w,W,z,rfl,hw,ok,hT,fun p rs H1 np hp pr sm hT1 l60=>⟨p,rfl,⟨_,SqL.of hp⟩,fun D nD=>?_⟩⟩
  have l1:=pr.length
  refine comp_list (a:=p) (xs:=rs) (fun i H5=>Same H1 H5∧∃ xs':List V,H5 D=some (.lst xs')∧Paired (IsTri H5) xs' (((W.dr z).take i).map fun p=>(p.1,-1,p.2))) ⟨Same.new nD,[],upd_same,.nil⟩ (fun i H5 _ p=>SqL.of (p.1 _ _ hp)) ?_ ?_
  ·rintro i x H5 m Wf hx ⟨s5,xs',h5,p5⟩ nx
   obtain⟨t,ht,a0,rfl,ha⟩:=pr.gt hx
   have hi:=(zC.mp hx).1
   have l5:=p5.length
   rw[zD,yA] at l5
   refine⟨_,rfl,⟨_,_,_,_,rfl,rfl,SqT.of (s5 _ _ ha),(atI_nat (j:=0) rfl),_,rfl,⟨_,_,_,_,rfl,rfl,SqT.of (s5 _ _ ha),(atI_nat (j:=1) rfl),(by show 3≤sizeLine; decide),fun pt np=>?_⟩⟩⟩
   have s6:Same H5 (upd H5 pt (.tup [.int t.1,.int (-1),.int t.2])):=Same.new np
   refine⟨_,s6 _ _ h5,small1000 (by omega),nx _ ⟨(s5.trans s6).upd nD,xs'++[.ref pt],upd_same,?_⟩⟩
   rw[take_1 ht,zL]
   exact paired_app (pairedMono (fun _ _ h=>(IsTri.same s6 h).keep (s6 _ _ h5)) p5) (.cons (IsTri.keep (s6 _ _ h5) ⟨pt,rfl,upd_same⟩) .nil)
  ·rintro H5 ⟨s5,xs',h5,p5⟩
   rw[l1,yD] at p5
   have l5:=p5.length
   rw[zD,← l1] at l5
   exact q D xs' H5 (sm.free nD) h5 p5 (sm.trans (SmD.of s5)) (hT1.same s5) (by omega)
end
end Oc
namespace Oc
open PySem L2
structure OR where
 x:Addr
 dx:Addr
 sl:Addr
 dl:Addr
 ol:Addr
 rl:Addr
 pl:Addr
 gl:Addr
 srs:List SR
 dels:List Int
 da:List Addr
 ra:List Addr
 ga:List Addr
 dv:List (List V)
 rv:List (List V)
 gv:List (List V)
 pr:List (Option Int)
def pV:Option Int→V
 | none=>.non
 | some n=>.int n
def oFs (sl dl ol rl pl gl:Addr):List (Str × V):=putF "logs" (.ref gl) (putF "promises" (.ref pl) (putF "rows" (.ref rl) (putF "doors" (.ref ol) (putF "delays" (.ref dl) (putF "stations" (.ref sl) [])))))
def OR.flds (o:OR):List (Str × V):=oFs o.sl o.dl o.ol o.rl o.pl o.gl
def srefs (srs:List SR):List V:=srs.map fun r=>V.ref r.x
def Wk.dels (W:Wk):List Int:=W.be.map fun t=>t.2.2
def Wk.prs (W:Wk):List (Option Int):=W.be.map fun t=>some t.2.2
def hdC (C:Addr) (o:OR):List Cell:=[(o.x,.ins C o.dx o.flds),(o.sl,.lst (srefs o.srs)),(o.dl,.lst (o.dels.map V.int)),(o.ol,.lst (o.da.map V.ref)),(o.rl,.lst (o.ra.map V.ref)),(o.pl,.lst (o.pr.map pV)),(o.gl,.lst (o.ga.map V.ref))]
def liC (as:List Addr) (vs:List (List V)):List Cell:=rowsC as (vs.map HO.lst)
def stC (cs:Cs) (srs:List SR):List Cell:=srs.flatMap (srC cs)
def ownCs (cs:Cs) (C:Addr) (o:OR):List (List Cell):=[hdC C o,liC o.da o.dv,liC o.ra o.rv,liC o.ga o.gv,stC cs o.srs]
theorem lk_no {x y:Str} {v:V} {fs:List (Str × V)} (h:¬ y=x):(putF x v fs).lookup y=fs.lookup y:=by rw[lookup_putF,if_neg h]
section
variable {sl dl ol rl pl gl:Addr}
theorem f_logs:(oFs sl dl ol rl pl gl).lookup ("logs":Str)=some (.ref gl):=by unfold oFs; rw[lookup_putF,if_pos rfl]
theorem f_prom:(oFs sl dl ol rl pl gl).lookup ("promises":Str)=some (.ref pl):=by unfold oFs; rw[lk_no (by decide +kernel),lookup_putF,if_pos rfl]
theorem f_rows:(oFs sl dl ol rl pl gl).lookup ("rows":Str)=some (.ref rl):=by unfold oFs; rw[lk_no (by decide +kernel),lk_no (by decide +kernel),lookup_putF,if_pos rfl]
theorem qg:(oFs sl dl ol rl pl gl).lookup ("doors":Str)=some (.ref ol):=by unfold oFs; rw[lk_no (by decide +kernel),lk_no (by decide +kernel),lk_no (by decide +kernel),lookup_putF,if_pos rfl]
theorem f_dels:(oFs sl dl ol rl pl gl).lookup ("delays":Str)=some (.ref dl):=by unfold oFs; rw[lk_no (by decide +kernel),lk_no (by decide +kernel),lk_no (by decide +kernel),lk_no (by decide +kernel),lookup_putF,if_pos rfl]
theorem f_stas:(oFs sl dl ol rl pl gl).lookup ("stations":Str)=some (.ref sl):=by unfold oFs; rw[lk_no (by decide +kernel),lk_no (by decide +kernel),lk_no (by decide +kernel),lk_no (by decide +kernel),lk_no (by decide +kernel),lookup_putF,if_pos rfl]
theorem f_meth {x:Str} (h1:¬ x="logs") (h2:¬ x="promises") (h3:¬ x="rows") (h4:¬ x="doors") (h5:¬ x="delays") (h6:¬ x="stations"):(oFs sl dl ol rl pl gl).lookup x=none:=by
 unfold oFs; rw[lk_no h1,lk_no h2,lk_no h3,lk_no h4,lk_no h5,lk_no h6]; rfl
end
theorem f_m {sl dl ol rl pl gl:Addr} {x:Str} (h:¬ x="logs"∧¬ x="promises"∧¬ x="rows"∧¬ x="doors"∧¬ x="delays"∧¬ x="stations"):(oFs sl dl ol rl pl gl).lookup x=none:=f_meth h.1 h.2.1 h.2.2.1 h.2.2.2.1 h.2.2.2.2.1 h.2.2.2.2.2
structure OwC (K:PySem.W.Frag) (C:Addr):Prop where
 cl:Cls K C
 n1:NoAttr K C "stations"
 n2:NoAttr K C "delays"
 n3:NoAttr K C "doors"
 n4:NoAttr K C "rows"
 n5:NoAttr K C "promises"
 n6:NoAttr K C "logs"
structure Evs (H:Hp) (o:OR) (de re ge:List (List Tri)):Prop where
 d:Paired (fun us ts=>Paired (IsTri H) us ts) o.dv de
 r:Paired (fun us ts=>Paired (IsTri H) us ts) o.rv re
 g:Paired (fun us ts=>Paired (IsTri H) us ts) o.gv ge
structure OOk (o:OR):Prop where
 ld:o.da.length=o.srs.length
 ldv:o.dv.length=o.srs.length
 lr:o.ra.length=o.dels.length
 lrv:o.rv.length=o.dels.length
 lp:o.pr.length=o.dels.length
 lg:o.ga.length=o.srs.length
 lgv:o.gv.length=o.srs.length
 s8:o.srs.length≤8
 b12:o.dels.length≤12
 ways:∀ r ∈ o.srs,∀ w ∈ r.ws,w=-1∨(0≤w∧w < o.dels.length)
 belts:∀ r ∈ o.srs,∀ b ∈ r.bs,0≤b∧b < o.dels.length
structure ONew (W:Wk) (o:OR):Prop where
 ok:OOk o
 srs:∀ j r,o.srs[j]?=some r→Made W j r
 ns:o.srs.length=W.st.length
 dels:o.dels=W.dels
 pr:o.pr=W.prs
def Wk.des (W:Wk):List (List Tri):=(List.range W.st.length).map fun(s:Nat)=>W.de (s:Int)
inductive spOwI (K:PySem.W.Frag) (cs:Cs) (C Pd:Addr) (vs:List V) (H:Hp) (Q:VK) (x_3:XK):Prop where
 | mk (p w dx:Addr) (W:Wk) (M:List (List Cell)) (h_0:vs=[.ref p,.ref w]) (h_1:Hc H ([(p,.ins C dx [])]::M)) (h_2:NoT M) (h_3:WkAt H w W) (h_4:W.Ok) (h_5:DoorT Pd H) (h_6:∀(o:OR) (H':Hp),o.x=p→Hc H' (ownCs cs C o++M)→Kp Pd p H H'→DoorT Pd H'→ONew W o→Evs H' o W.des (W.be.map fun _=>[]) (W.st.map fun _=>[])→Q .non H'):spOwI K cs C Pd vs H Q x_3
theorem idx_lt {α:Type} (f:α→Bool):∀(l:List α) (k:Nat) (x:Int),x ∈ idx f k l→x < (k + l.length:Nat)
 | [],_,_,h=>absurd h zK
 | y::l,k,x,h=>by
  unfold idx at h
  have e:(y::l).length=l.length + 1:=rfl
  by_cases hf:f y=true
  ·rw[if_pos hf] at h
   rcases zS.mp h with e|e
   ·omega
   ·have:=idx_lt f l (k + 1) x e
    omega
  ·rw[if_neg hf] at h
   have:=idx_lt f l (k + 1) x h
   omega
theorem Wk.wy_in {W:Wk} {s w:Int} (h:w ∈ W.wy s):w=-1∨(0≤w∧w < W.be.length):=by
 unfold Wk.wy at h
 rcases zW.mp h with q|q
 ·split at q
  ·exact .inl (zG.mp q)
  ·exact absurd q zK
 ·have a:=idx_ge _ _ _ _ q
  have b:=idx_lt _ _ _ _ q
  exact .inr ⟨by omega,by omega⟩
theorem Wk.lv_in {W:Wk} {s w:Int} (h:w ∈ W.lv s):0≤w∧w < W.be.length:=by
 unfold Wk.lv at h
 have a:=idx_ge _ _ _ _ h
 have b:=idx_lt _ _ _ _ h
 exact⟨by omega,by omega⟩
theorem noT_sr (cs:Cs) (r:SR):∀ x ∈ srC cs r,∀ ps,x.2 ≠ HO.tbl ps:=fun x hx ps=>by
 rcases zS.mp hx with q|hx
 ·rw[q]; exact fun z=>nomatch z
 rcases zS.mp hx with q|hx
 ·rw[q]; exact fun z=>nomatch z
 rcases zS.mp hx with q|hx
 ·rw[q]; exact fun z=>nomatch z
 unfold SR.more at hx
 split at hx
 ·rcases zS.mp hx with q|hx
  ·rw[q]; exact fun z=>nomatch z
  ·have h2:=(q9 hx).2
   obtain⟨v,_,e⟩:=yC.mp h2
   rw[← e]
   exact fun z=>nomatch z
 ·exact absurd hx zK
theorem noT_st (cs:Cs) (srs:List SR):∀ x ∈ stC cs srs,∀ ps,x.2 ≠ HO.tbl ps:=fun x hx=>by
 obtain⟨r,_,h⟩:=qW.mp hx
 exact noT_sr cs r x h
theorem stC_snoc (cs:Cs) (srs:List SR) (r:SR):stC cs (srs++[r])=stC cs srs++srC cs r:=by
 unfold stC
 rw[qK]
 simp
theorem rowsC_snoc {ls:List Addr} {os:List HO} (h:ls.length=os.length) (l:Addr) (o:HO):rowsC (ls++[l]) (os++[o])=rowsC ls os++[(l,o)]:=by
 unfold rowsC
 rw[kK h]
 rfl
theorem liC_snoc {ls:List Addr} {vs:List (List V)} (h:ls.length=vs.length) (l:Addr) (v:List V):liC (ls++[l]) (vs++[v])=liC ls vs++[(l,.lst v)]:=by
 unfold liC
 rw[zL]
 exact rowsC_snoc (by rw[zD]; exact h) _ _
end Oc
namespace Oc
open PySem L2
theorem getAll_snoc {α:Type} {Pr:Nat→α→Prop} {l:List α} {x:α} (h:∀ j r,l[j]?=some r→Pr j r) (hx:Pr l.length x):∀ j r,(l++[x])[j]?=some r→Pr j r:=fun j r hr=>by
 by_cases hj:j < l.length
 ·rw[yI hj] at hr
  exact h j r hr
 ·rw[zQ (by omega)] at hr
  cases e:j - l.length with
  | zero =>
   rw[e] at hr
   cases hr
   rw[show j=l.length by omega]
   exact hx
  | succ k=>rw[e] at hr; cases hr
theorem put_len {x:Str} {v:V} {fs:List (Str × V)} {n:Nat} (h:fs.length≤n):(putF x v fs).length≤n + 1:=z9 (length_putF x v fs) (by omega)
theorem pairs_keep {H:Hp} {a:Addr} {xs ys:List V} (e:H a=some (.lst xs)) {dv:List (List V)} {de:List (List Tri)} (h:Paired (fun us ts=>Paired (IsTri H) us ts) dv de):Paired (fun us ts=>Paired (IsTri (upd H a (.lst ys))) us ts) dv de :=
 pairedMono (fun _ _ h=>pairedMono (fun _ _ h=>h.keep e) h) h
theorem pairs_sm {Pd:Addr} {H H':Hp} (s:SmD Pd H H') {dv:List (List V)} {de:List (List Tri)} (h:Paired (fun us ts=>Paired (IsTri H) us ts) dv de):Paired (fun us ts=>Paired (IsTri H') us ts) dv de :=
 pairedMono (fun _ _ h=>pairedMono (fun _ _ h=>h.sm s) h) h
theorem pairs_kp {Pd p C dx:Addr} {fs:List (Str × V)} {H H':Hp} (k:Kp Pd p H H') (hp:H p=some (.ins C dx fs)) {dv:List (List V)} {de:List (List Tri)} (h:Paired (fun us ts=>Paired (IsTri H) us ts) dv de):Paired (fun us ts=>Paired (IsTri H') us ts) dv de :=
 pairedMono (fun _ _ h=>pairedMono (fun _ _ h=>let ⟨q,e,r⟩:=h; ⟨q,e,k.tup hp r⟩) h) h
theorem pairs_nil {α β:Type} {F:List α→List β→Prop} (h:F [] []) {γ δ:Type}:∀ {l:List γ} {m:List δ},l.length=m.length→Paired F (l.map fun _=>[]) (m.map fun _=>[])
 | [],[],_=>.nil
 | [],_::_,e=>by cases e
 | _::_,[],e=>by cases e
 | x::l,y::m,e=>.cons h (pairs_nil h (Nat.succ.inj e))
section
variable {P:Program} {w:World} {K:PySem.W.Frag} {mg:Str→Option Value} {base:Heap}
theorem sc_owI:FnScope ["self","works"] ["self","works"] (defScope (inClass (top 17) 0)):=⟨rfl,rfl,rfl,by decide +kernel,rfl,by decide +kernel,by decide +kernel⟩
theorem ok_owI {f C Pd:Addr} {cs:Cs} {fd:FuncData} (F:Fun K "__init__" "Own.__init__" (inClass (top 17) 0) f fd) (T:Txt K mg) (c:OwC K C) (aV:FnAt P w K mg base 4 "station_of" ["works","station"] (spSo cs)) (av:FnAt P w K mg base 2 "door_events" ["works","station"] (spDE Pd)) :
  FnOk P w K mg base CX0 5 f fd ["self","works"] (spOwI K cs C Pd):=by
 have nd:=sc_owI.nd
 refine F.ok sc_owI (fun vs H Q E h=>?_) (fun cdv A outer s H vs Q E hr h=>?_)
 ·obtain⟨p,w,dx,W,M,rfl,_⟩:=h
  rfl
 ·obtain⟨p,w,dx,W,M,rfl,hc,nT,hw,ok,hT,q⟩:=h
  obtain⟨sa,ba,fa,xs,ys,zs,h1,h2⟩:=id hw.ex
  have ls:=h2.ps.length
  have lb:=h2.pb.length
  have s8:=ok.s8
  have b12:=ok.b12
  have hp:=hc.get 0 0 rfl rfl
  refine⟨_,(@pss_cons _ _ _ _ _ (ps_fld (pv 0) (pe_comp (own:=["station"]) (fr:=["works"]) (js:=[1]) (by and_intros) (pi_range1 rfl T.n_range (@pa_cons _ _ _ _ _ (pe_callB (call_len_seqK (K:=K) rfl) (by rfl) T.n_len bt_len (@pa_cons _ _ _ _ _ (@pe_ix _ _ _ _ _ _ _ (ix_tupK (K:=K) rfl) (pv 1) pe_int (fun _ _=>rfl)) pa_nil (by rfl))) pa_nil (by rfl))) (fun _ _ _ _=>(pg_name (i:=0) (show List.Nodup (["station","works"]:List Str) from by decide +kernel) rfl (by nofun))) (fun _ _ _ _=>pts_nil) (fun _ _ _ _=>(pe_fn aV (hr.mono (by decide)) (by rfl) (@pa_cons _ _ _ _ _ (pv 1) (@pa_cons _ _ _ _ _ (pv 0) pa_nil (by rfl)) (by rfl))))) rfl)
   (@pss_cons _ _ _ _ _ (ps_fld (pv 0) (pe_comp (own:=["belt"]) (fr:=[]) (js:=[]) (by and_intros) (pi_listK (K:=K) rfl (@pe_ix _ _ _ _ _ _ _ (ix_tupK (K:=K) rfl) (pv 1) pe_int (fun _ _=>rfl))) (fun _ _ _ _=>(pg_name (i:=0) (show List.Nodup (["belt"]:List Str) from by decide +kernel) rfl (by nofun))) (fun _ _ _ _=>pts_nil) (fun _ _ _ _=>(@pe_ix _ _ _ _ _ _ _ (ix_tupK (K:=K) rfl) (pv 0) pe_int (fun _ _=>rfl)))) rfl)
   (@pss_cons _ _ _ _ _ (ps_fld (pv 0) (pe_comp (own:=["station"]) (fr:=["works"]) (js:=[1]) (by and_intros) (pi_range1 rfl T.n_range (@pa_cons _ _ _ _ _ (pe_callB (call_len_seqK (K:=K) rfl) (by rfl) T.n_len bt_len (@pa_cons _ _ _ _ _ (@pe_ix _ _ _ _ _ _ _ (ix_tupK (K:=K) rfl) (pv 1) pe_int (fun _ _=>rfl)) pa_nil (by rfl))) pa_nil (by rfl))) (fun _ _ _ _=>(pg_name (i:=0) (show List.Nodup (["station","works"]:List Str) from by decide +kernel) rfl (by nofun))) (fun _ _ _ _=>pts_nil) (fun _ _ _ _=>(pe_fn av (hr.mono (by decide)) (by rfl) (@pa_cons _ _ _ _ _ (pv 1) (@pa_cons _ _ _ _ _ (pv 0) pa_nil (by rfl)) (by rfl))))) rfl)
   (@pss_cons _ _ _ _ _ (ps_fld (pv 0) (pe_comp (own:=["belt"]) (fr:=[]) (js:=[]) (by and_intros) (pi_listK (K:=K) rfl (@pe_ix _ _ _ _ _ _ _ (ix_tupK (K:=K) rfl) (pv 1) pe_int (fun _ _=>rfl))) (fun _ _ _ _=>(pg_name (i:=0) (show List.Nodup (["belt"]:List Str) from by decide +kernel) rfl (by nofun))) (fun _ _ _ _=>pts_nil) (fun _ _ _ _=>(@pe_lst _ _ _ _ pa_nil))) rfl)
   (@pss_cons _ _ _ _ _ (ps_fld (pv 0) (pe_comp (own:=["belt"]) (fr:=[]) (js:=[]) (by and_intros) (pi_listK (K:=K) rfl (@pe_ix _ _ _ _ _ _ _ (ix_tupK (K:=K) rfl) (pv 1) pe_int (fun _ _=>rfl))) (fun _ _ _ _=>(pg_name (i:=0) (show List.Nodup (["belt"]:List Str) from by decide +kernel) rfl (by nofun))) (fun _ _ _ _=>pts_nil) (fun _ _ _ _=>(@pe_ix _ _ _ _ _ _ _ (ix_tupK (K:=K) rfl) (pv 0) pe_int (fun _ _=>rfl)))) rfl)
   (@pss_one _ _ _ (ps_fld (pv 0) (pe_comp (own:=["station"]) (fr:=[]) (js:=[]) (by and_intros) (pi_listK (K:=K) rfl (@pe_ix _ _ _ _ _ _ _ (ix_tupK (K:=K) rfl) (pv 1) pe_int (fun _ _=>rfl))) (fun _ _ _ _=>(pg_name (i:=0) (show List.Nodup (["station"]:List Str) from by decide +kernel) rfl (by nofun))) (fun _ _ _ _=>pts_nil) (fun _ _ _ _=>(@pe_lst _ _ _ _ pa_nil))) rfl))))))),?_⟩
  refine⟨_,rfl,⟨_,_,_,_,rfl,rfl,SqT.of h1,(atI_nat (j:=0) rfl),sa,xs,rfl,.inl (SqL.of h2.hs),_,rfl,by rw[p62]; omega,by rw[p62]; omega,fun D nD=>?_⟩⟩
  refine comp_range (lo:=0) (n:=(xs.length:Int).toNat) (fun i H4=>∃ srs:List SR,Same H H4∧Hc H4 ([(D,.lst (srefs srs))]::stC cs srs::[(p,.ins C dx [])]::M)∧srs.length=i∧∀ j r,srs[j]?=some r→Made W j r) ⟨[],Same.new nD,(hc.new nD (.lst [])).pad.swap,rfl,fun j r h=>by cases h⟩ ?_ ?_
  ·rintro i H4 m Wf hi ⟨srs,s4,hc4,l4,mk4⟩ nx
   rw[qD]
   refine⟨_,rfl,_,rfl,w,W,i,_,rfl,hw.same s4,ok,by omega,hc4,fun r H5 s5 hc5 mk=>?_⟩
   have g5:=hc5.get 1 0 rfl rfl
   refine⟨_,g5,small1000 (by unfold srefs; rw[zD]; omega),nx _ ⟨srs++[r],(s4.trans s5).upd nD,?_,by rw[zM,l4]; rfl,getAll_snoc mk4 (by rw[l4]; exact mk)⟩⟩
   have:=hc5.put 1 0 rfl rfl (.lst (srefs srs++[.ref r.x]))
   rw[show srefs (srs++[r])=srefs srs++[.ref r.x] from zL,stC_snoc]
   exact(Hc.join (this.pick 2 rfl)).swap
  ·rintro H4 ⟨srs,s4,hc4,l4,mk4⟩
   refine⟨_,rfl,p,C,dx,[],rfl,hc4.get 2 0 rfl rfl,c.cl,c.n1,(by show 0 < 1000; decide),?_⟩
   have hcA:=hc4.put 2 0 rfl rfl (.ins C dx (putF "stations" (.ref D) []))
   have kA:Kp Pd p H (upd H4 p (.ins C dx (putF "stations" (.ref D) []))):=(Kp.sm (SmD.of s4)).trans Kp.put
   have hTA:DoorT Pd (upd H4 p (.ins C dx (putF "stations" (.ref D) []))):=(hT.same s4).updI (hc4.get 2 0 rfl rfl)
   have hlA:(putF "stations" (.ref D) []).length≤1:=put_len (zI 0)
   generalize hfA:(putF "stations" (.ref D) []:List (Str × V))=fA at hcA kA hTA hlA ⊢
   generalize (upd H4 p (.ins C dx fA))=HA at hcA kA hTA ⊢
   have hpA:=hcA.get 2 0 rfl rfl
   have h1A:=kA.tup hp h1
   have hbA:=kA.lst hp h2.hb
   refine⟨_,rfl,⟨_,_,_,_,rfl,rfl,SqT.of h1A,(atI_nat (j:=1) rfl),ba,rfl,⟨_,SqL.of hbA⟩,fun D2 nD2=>?_⟩⟩
   refine comp_list (a:=ba) (xs:=ys) (fun i H5=>Same HA H5∧H5 D2=some (.lst (((W.be.take i).map fun t=>t.2.2).map V.int))) ⟨Same.new nD2,upd_same⟩ (fun i H5 _ p=>SqL.of (p.1 _ _ hbA)) ?_ ?_
   ·rintro i x H5 m Wf hx ⟨s5,g5⟩ nx
    obtain⟨t,ht,a0,rfl,ha⟩:=h2.pb.gt hx
    refine⟨_,rfl,⟨_,_,_,_,rfl,rfl,SqT.of (s5 _ _ (kA.tup hp ha)),(atI_nat (j:=2) rfl),_,g5,small1000 (by rw[zD,zD,yA]; omega),nx _ ⟨s5.upd nD2,?_⟩⟩⟩
    rw[upd_same,take_1 ht,zL,zL]
    rfl
   ·rintro H5 ⟨s5,g5⟩
    rw[lb,yD] at g5
    replace g5:H5 D2=some (.lst (W.dels.map V.int)):=g5
    have hc5:=hcA.newS nD2 g5 s5
    refine⟨_,rfl,p,C,dx,fA,rfl,s5 _ _ hpA,c.cl,c.n2,(by omega),?_⟩
    have hcB:=hc5.put 3 0 rfl rfl (.ins C dx (putF "delays" (.ref D2) fA))
    have kB:Kp Pd p H (upd H5 p (.ins C dx (putF "delays" (.ref D2) fA))):=kA.trans ((Kp.sm (SmD.of s5)).trans Kp.put)
    have hTB:DoorT Pd (upd H5 p (.ins C dx (putF "delays" (.ref D2) fA))):=(hTA.same s5).updI (s5 _ _ hpA)
    have hlB:(putF "delays" (.ref D2) fA).length≤2:=put_len hlA
    generalize hfB:(putF "delays" (.ref D2) fA:List (Str × V))=fB at hcB kB hTB hlB ⊢
    generalize (upd H5 p (.ins C dx fB))=HB at hcB kB hTB ⊢
    have hpB:=hcB.get 3 0 rfl rfl
    have h1B:=kB.tup hp h1
    have nTB:NoT ([(D2,.lst (W.dels.map V.int))]::[(D,.lst (srefs srs))]::stC cs srs::[(p,.ins C dx fB)]::M):=((NoT.one (a:=p) (o:=.ins C dx fB) (fun _ z=>nomatch z) nT).cons (noT_st cs srs)).lst.lst
    refine⟨_,rfl,⟨_,_,_,_,rfl,rfl,SqT.of h1B,(atI_nat (j:=0) rfl),sa,xs,rfl,.inl (SqL.of (kB.lst hp h2.hs)),_,rfl,by rw[p62]; omega,by rw[p62]; omega,fun D3 nD3=>?_⟩⟩
    refine comp_range (lo:=0) (n:=(xs.length:Int).toNat) (fun i H6=>∃(da:List Addr) (dv:List (List V)),SmD Pd HB H6∧Hc H6 ([(D3,.lst (da.map V.ref))]::liC da dv::[(D2,.lst (W.dels.map V.int))]::[(D,.lst (srefs srs))]::stC cs srs::[(p,.ins C dx fB)]::M)∧da.length=i∧dv.length=i ∧
     Paired (fun us ts=>Paired (IsTri H6) us ts) dv ((List.range i).map fun(s:Nat)=>W.de (s:Int))∧DoorT Pd H6) ⟨[],[],SmD.of (Same.new nD3),(hcB.new nD3 (.lst [])).pad.swap,rfl,rfl,.nil,hTB.same (Same.new nD3)⟩ ?_ ?_
    ·rintro i H6 m Wf hi ⟨da,dv,s6,hc6,la,lv,pr,hT6⟩ nx
     rw[qD]
     refine⟨_,rfl,_,rfl,w,W,i,rfl,((hw.kp kB hp).sm s6),ok,hT6,fun pn rs H7 npn hpn prn sm7 hT7 l60=>?_⟩
     have nT6:NoT ([(D3,.lst (da.map V.ref))]::liC da dv::[(D2,.lst (W.dels.map V.int))]::[(D,.lst (srefs srs))]::stC cs srs::[(p,.ins C dx fB)]::M):=(nTB.cons noT_rows).lst
     have hc7:=hc6.newM nT6 npn hpn sm7
     have g7:=hc7.get 1 0 rfl rfl
     refine⟨_,g7,small1000 (by rw[zD]; omega),nx _ ⟨da++[pn],dv++[rs],(s6.trans sm7).upd nD3,?_,by rw[zM,la]; rfl,by rw[zM,lv]; rfl,?_,hT7.updL g7⟩⟩
     ·have:=hc7.put 1 0 rfl rfl (.lst (da.map V.ref++[.ref pn]))
      rw[zL,liC_snoc (by omega)]
      exact(Hc.join (this.pick 2 rfl)).swap
     ·rw[y9,zL]
      exact paired_app (pairs_keep g7 (pairs_sm sm7 pr)) (.cons (pairedMono (fun _ _ h=>h.keep g7) prn) .nil)
    ·rintro H6 ⟨da,dv,s6,hc6,la,lv,pr,hT6⟩
     have hp6:=hc6.get 5 0 rfl rfl
     refine⟨_,rfl,p,C,dx,fB,rfl,hp6,c.cl,c.n3,(by omega),?_⟩
     have hcC:=hc6.put 5 0 rfl rfl (.ins C dx (putF "doors" (.ref D3) fB))
     have kC:Kp Pd p H (upd H6 p (.ins C dx (putF "doors" (.ref D3) fB))):=kB.trans ((Kp.sm s6).trans Kp.put)
     have hTC:DoorT Pd (upd H6 p (.ins C dx (putF "doors" (.ref D3) fB))):=hT6.updI hp6
     have hlC:(putF "doors" (.ref D3) fB).length≤3:=put_len hlB
     have prC:=pairs_kp (Kp.put (Pd:=Pd) (o:=.ins C dx (putF "doors" (.ref D3) fB))) hp6 pr
     generalize hfC:(putF "doors" (.ref D3) fB:List (Str × V))=fC at hcC kC hTC hlC prC ⊢
     generalize (upd H6 p (.ins C dx fC))=HC at hcC kC hTC prC ⊢
     have hpC:=hcC.get 5 0 rfl rfl
     have hbC:=kC.lst hp h2.hb
     refine⟨_,rfl,⟨_,_,_,_,rfl,rfl,SqT.of (kC.tup hp h1),(atI_nat (j:=1) rfl),ba,rfl,⟨_,SqL.of hbC⟩,fun D4 nD4=>?_⟩⟩
     refine comp_list (a:=ba) (xs:=ys) (fun i H7=>∃ ra:List Addr,Same HC H7∧Hc H7 ([(D4,.lst (ra.map V.ref))]::liC ra (ra.map fun _=>[])::[(D3,.lst (da.map V.ref))]::liC da dv::[(D2,.lst (W.dels.map V.int))]::[(D,.lst (srefs srs))]::stC cs srs::[(p,.ins C dx fC)]::M)∧ra.length=i)
      ⟨[],Same.new nD4,(hcC.new nD4 (.lst [])).pad.swap,rfl⟩ (fun i H7 _ ⟨_,s7,_⟩=>SqL.of (s7 _ _ hbC)) ?_ ?_
     ·rintro i x H7 m Wf hx ⟨ra,s7,hc7,l7⟩ nx
      have hi:=(zC.mp hx).1
      refine⟨z5 _,fun pn npn=>?_⟩
      have hc8:=hc7.new npn (.lst [])
      have g8:=hc8.get 1 0 rfl rfl
      refine⟨_,g8,small1000 (by rw[zD]; omega),nx _ ⟨ra++[pn],(s7.trans (Same.new npn)).upd nD4,?_,by rw[zM,l7]; rfl⟩⟩
      have:=hc8.put 1 0 rfl rfl (.lst (ra.map V.ref++[.ref pn]))
      rw[zL,zL]
      have e:=liC_snoc (ls:=ra) (vs:=ra.map fun _=>[]) (by rw[zD]) pn []
      show Hc _ (_::liC (ra++[pn]) ((ra.map fun _=>[])++[[]])::_)
      rw[e]
      exact(Hc.join (this.pick 2 rfl)).swap
     ·rintro H7 ⟨ra,s7,hc7,l7⟩
      have hp7:=s7 _ _ hpC
      refine⟨_,rfl,p,C,dx,fC,rfl,hp7,c.cl,c.n4,(by omega),?_⟩
      have hcD:=hc7.put 7 0 rfl rfl (.ins C dx (putF "rows" (.ref D4) fC))
      have kD:Kp Pd p H (upd H7 p (.ins C dx (putF "rows" (.ref D4) fC))):=kC.trans ((Kp.sm (SmD.of s7)).trans Kp.put)
      have hTD:DoorT Pd (upd H7 p (.ins C dx (putF "rows" (.ref D4) fC))):=(hTC.same s7).updI hp7
      have hlD:(putF "rows" (.ref D4) fC).length≤4:=put_len hlC
      have prD:=pairs_kp ((Kp.sm (SmD.of s7)).trans (Kp.put (Pd:=Pd) (o:=.ins C dx (putF "rows" (.ref D4) fC)))) hpC prC
      generalize hfD:(putF "rows" (.ref D4) fC:List (Str × V))=fD at hcD kD hTD hlD prD ⊢
      generalize (upd H7 p (.ins C dx fD))=HD at hcD kD hTD prD ⊢
      have hpD:=hcD.get 7 0 rfl rfl
      have hbD:=kD.lst hp h2.hb
      refine⟨_,rfl,⟨_,_,_,_,rfl,rfl,SqT.of (kD.tup hp h1),(atI_nat (j:=1) rfl),ba,rfl,⟨_,SqL.of hbD⟩,fun D5 nD5=>?_⟩⟩
      refine comp_list (a:=ba) (xs:=ys) (fun i H8=>Same HD H8∧H8 D5=some (.lst (((W.be.take i).map fun t=>some t.2.2).map pV))) ⟨Same.new nD5,upd_same⟩ (fun i H8 _ p=>SqL.of (p.1 _ _ hbD)) ?_ ?_
      ·rintro i x H8 m Wf hx ⟨s8',g8⟩ nx
       obtain⟨t,ht,a0,rfl,ha⟩:=h2.pb.gt hx
       refine⟨_,rfl,⟨_,_,_,_,rfl,rfl,SqT.of (s8' _ _ (kD.tup hp ha)),(atI_nat (j:=2) rfl),_,g8,small1000 (by rw[zD,zD,yA]; omega),nx _ ⟨s8'.upd nD5,?_⟩⟩⟩
       rw[upd_same,take_1 ht,zL,zL]
       rfl
      ·rintro H8 ⟨s8',g8⟩
       rw[lb,yD] at g8
       replace g8:H8 D5=some (.lst (W.prs.map pV)):=g8
       have hc8:=hcD.newS nD5 g8 s8'
       have hp8:=s8' _ _ hpD
       refine⟨_,rfl,p,C,dx,fD,rfl,hp8,c.cl,c.n5,(by omega),?_⟩
       have hcE:=hc8.put 8 0 rfl rfl (.ins C dx (putF "promises" (.ref D5) fD))
       have kE:Kp Pd p H (upd H8 p (.ins C dx (putF "promises" (.ref D5) fD))):=kD.trans ((Kp.sm (SmD.of s8')).trans Kp.put)
       have hTE:DoorT Pd (upd H8 p (.ins C dx (putF "promises" (.ref D5) fD))):=(hTD.same s8').updI hp8
       have hlE:(putF "promises" (.ref D5) fD).length≤5:=put_len hlD
       have prE:=pairs_kp ((Kp.sm (SmD.of s8')).trans (Kp.put (Pd:=Pd) (o:=.ins C dx (putF "promises" (.ref D5) fD)))) hpD prD
       generalize hfE:(putF "promises" (.ref D5) fD:List (Str × V))=fE at hcE kE hTE hlE prE ⊢
       generalize (upd H8 p (.ins C dx fE))=HE at hcE kE hTE prE ⊢
       have hpE:=hcE.get 8 0 rfl rfl
       have hsE:=kE.lst hp h2.hs
       refine⟨_,rfl,⟨_,_,_,_,rfl,rfl,SqT.of (kE.tup hp h1),(atI_nat (j:=0) rfl),sa,rfl,⟨_,SqL.of hsE⟩,fun D6 nD6=>?_⟩⟩
       refine comp_list (a:=sa) (xs:=xs) (fun i H9=>∃ ga:List Addr,Same HE H9∧Hc H9 ([(D6,.lst (ga.map V.ref))]::liC ga (ga.map fun _=>[])::[(D5,.lst (W.prs.map pV))]::[(D4,.lst (ra.map V.ref))]::liC ra (ra.map fun _=>[])::[(D3,.lst (da.map V.ref))]::liC da dv::[(D2,.lst (W.dels.map V.int))]::[(D,.lst (srefs srs))]::stC cs srs::[(p,.ins C dx fE)]::M)∧ga.length=i)
        ⟨[],Same.new nD6,(hcE.new nD6 (.lst [])).pad.swap,rfl⟩ (fun i H9 _ ⟨_,s9,_⟩=>SqL.of (s9 _ _ hsE)) ?_ ?_
       ·rintro i x H9 m Wf hx ⟨ga,s9,hc9,l9⟩ nx
        have hi:=(zC.mp hx).1
        refine⟨z5 _,fun pn npn=>?_⟩
        have hc10:=hc9.new npn (.lst [])
        have g10:=hc10.get 1 0 rfl rfl
        refine⟨_,g10,small1000 (by rw[zD]; omega),nx _ ⟨ga++[pn],(s9.trans (Same.new npn)).upd nD6,?_,by rw[zM,l9]; rfl⟩⟩
        have:=hc10.put 1 0 rfl rfl (.lst (ga.map V.ref++[.ref pn]))
        rw[zL,zL]
        have e:=liC_snoc (ls:=ga) (vs:=ga.map fun _=>[]) (by rw[zD]) pn []
        show Hc _ (_::liC (ga++[pn]) ((ga.map fun _=>[])++[[]])::_)
        rw[e]
        exact(Hc.join (this.pick 2 rfl)).swap
       ·rintro H9 ⟨ga,s9,hc9,l9⟩
        have hp9:=s9 _ _ hpE
        refine⟨_,rfl,p,C,dx,fE,rfl,hp9,c.cl,c.n6,(by omega),?_⟩
        have hcF:=hc9.put 10 0 rfl rfl (.ins C dx (putF "logs" (.ref D6) fE))
        have kF:Kp Pd p H (upd H9 p (.ins C dx (putF "logs" (.ref D6) fE))):=kE.trans ((Kp.sm (SmD.of s9)).trans Kp.put)
        have hTF:DoorT Pd (upd H9 p (.ins C dx (putF "logs" (.ref D6) fE))):=(hTE.same s9).updI hp9
        have prF:=pairs_kp ((Kp.sm (SmD.of s9)).trans (Kp.put (Pd:=Pd) (o:=.ins C dx (putF "logs" (.ref D6) fE)))) hpE prE
        have hcG:=((((((((((hcF.pick 9 rfl).pick 2 rfl).pick 5 rfl).pick 7 rfl).pick 4 rfl).pick 5 rfl).pick 6 rfl).pick 7 rfl).pick 8 rfl).pick 9 rfl).pick 10 rfl
        have hcI:=((((((hcG.join).join).join).join).join).join)
        have lbl:W.dels.length=W.be.length:=zD _
        have lsr:srs.length=W.st.length:=by omega
        refine q ⟨p,dx,D,D2,D3,D4,D5,D6,srs,W.dels,da,ra,ga,dv,ra.map fun _=>[],ga.map fun _=>[],W.prs⟩ _ rfl ?_ kF hTF ⟨⟨?_,?_,?_,?_,?_,?_,?_,?_,?_,?_,?_⟩,mk4,?_,rfl,rfl⟩ ⟨?_,?_,?_⟩
        ·subst hfE hfD hfC hfB hfA
         exact hcI
        ·show da.length=srs.length; omega
        ·show dv.length=srs.length; omega
        ·show ra.length=W.dels.length; omega
        ·show(ra.map fun _=>([]:List V)).length=W.dels.length; rw[zD]; omega
        ·show W.prs.length=W.dels.length; unfold Wk.prs; rw[zD]; omega
        ·show ga.length=srs.length; omega
        ·show(ga.map fun _=>([]:List V)).length=srs.length; rw[zD]; omega
        ·show srs.length≤8; omega
        ·show W.dels.length≤12; omega
        ·intro r hr wv hwv
         obtain⟨j,hj⟩:=yN hr
         have mj:=mk4 j r hj
         rw[mj.ws] at hwv
         show _∨(_∧wv < (W.dels.length:Int))
         rw[lbl]
         exact Wk.wy_in hwv
        ·intro r hr wv hwv
         obtain⟨j,hj⟩:=yN hr
         have mj:=mk4 j r hj
         rw[mj.bs] at hwv
         show _∧wv < (W.dels.length:Int)
         rw[lbl]
         exact Wk.lv_in hwv
        ·show srs.length=W.st.length; omega
        ·show Paired _ dv W.des
         have e:((xs.length:Nat):Int).toNat=W.st.length:=by omega
         rw[e] at prF
         exact prF
        ·exact pairs_nil .nil (by omega)
        ·exact pairs_nil .nil (by omega)
end
end Oc
namespace Oc
open PySem L2
theorem SR.flds_ways (r:SR):r.flds.lookup ("ways":Str)=some (.ref r.p1):=by
 unfold SR.flds
 cases r.k with
 | relay n=>show(fR r.p1 r.p2 n).lookup ("ways":Str)=_; unfold fR; rw[lk_no (by decide +kernel)]; exact c4 _ _
 | sorter=>exact c4 _ _
 | thinner n=>show(fT r.p1 r.p2 n r.seen).lookup ("ways":Str)=_; unfold fT; rw[lk_no (by decide +kernel),lk_no (by decide +kernel)]; exact c4 _ _
 | joiner=>exact ix _ _ _
 | sink=>exact c4 _ _
theorem SR.flds_belts (r:SR):r.flds.lookup ("belts":Str)=some (.ref r.p2):=by
 unfold SR.flds
 cases r.k with
 | relay n=>exact fR_belts _ _ _
 | sorter=>exact fS_belts _ _
 | thinner n=>exact fT_belts _ _ _ _
 | joiner=>exact fJ_belts _ _ _
 | sink=>exact fS_belts _ _
theorem CsOk.st {K:PySem.W.Frag} {cs:Cs} (c:CsOk K cs):∀ k:Kd,StC K (cs.of k)
 | .relay _=>c.rl.st
 | .sorter=>c.so
 | .thinner _=>c.th.st
 | .joiner=>c.jn.st
 | .sink=>c.si
section
variable {H:Hp} {cs:Cs} {C:Addr} {o:OR} {M:List (List Cell)} {s:Nat} {us:List V}
theorem st_cell {r:SR} (hc:Hc H (ownCs cs C o++M)) (hr:o.srs[s]?=some r):∀ c ∈ srC cs r,H c.1=some c.2:=fun c h =>
 hc.2 c (qN.mpr ⟨stC cs o.srs,zE (i:=4) rfl,qW.mpr ⟨r,zE hr,h⟩⟩)
theorem st_x {r:SR} (hc:Hc H (ownCs cs C o++M)) (hr:o.srs[s]?=some r):H r.x=some (.ins (cs.of r.k) r.dx r.flds):=st_cell hc hr _ zH
theorem st_p1 {r:SR} (hc:Hc H (ownCs cs C o++M)) (hr:o.srs[s]?=some r):H r.p1=some (.tup (r.ws.map V.int)):=st_cell hc hr (r.p1,.tup (r.ws.map V.int)) (.tail _ (.head _))
theorem st_p2 {r:SR} (hc:Hc H (ownCs cs C o++M)) (hr:o.srs[s]?=some r):H r.p2=some (.tup (r.bs.map V.int)):=st_cell hc hr (r.p2,.tup (r.bs.map V.int)) (.tail _ (.tail _ (.head _)))
theorem srefs_at {srs:List SR} {r:SR} (h:srs[s]?=some r):(srefs srs)[s]?=some (.ref r.x):=by unfold srefs; rw[zF,h]; rfl
theorem get_like {α β:Type} {l:List α} {m:List β} (e:l.length=m.length) {i:Nat} {x:α} (h:l[i]?=some x):∃ y,m[i]?=some y:=by
 have:=(zC.mp h).1
 exact⟨m[i]'(by omega),zB _⟩
theorem li_cell {as:List Addr} {vs:List (List V)} {a:Addr} (h1:as[s]?=some a) (h2:vs[s]?=some us):(liC as vs)[s]?=some (a,.lst us):=rowsC_get h1 (by rw[zF,h2]; rfl)
theorem refs_at {as:List Addr} {a:Addr} (h:as[s]?=some a):(as.map V.ref)[s]?=some (.ref a):=by rw[zF,h]; rfl
theorem OOk.log (ok:OOk o) (hc:Hc H (ownCs cs C o++M)) (h:o.gv[s]?=some us):∃ a,o.ga[s]?=some a∧H a=some (.lst us):=by
 obtain⟨a,ha⟩:=get_like (ok.lgv.trans ok.lg.symm) h
 exact⟨a,ha,hc.get 3 s rfl (li_cell ha h)⟩
theorem OOk.belt (ok:OOk o) (hc:Hc H (ownCs cs C o++M)) (h:o.rv[s]?=some us):∃ a,o.ra[s]?=some a∧H a=some (.lst us):=by
 obtain⟨a,ha⟩:=get_like (ok.lrv.trans ok.lr.symm) h
 exact⟨a,ha,hc.get 2 s rfl (li_cell ha h)⟩
theorem OOk.door (ok:OOk o) (hc:Hc H (ownCs cs C o++M)) (h:o.dv[s]?=some us):∃ a,o.da[s]?=some a∧H a=some (.lst us):=by
 obtain⟨a,ha⟩:=get_like (ok.ldv.trans ok.ld.symm) h
 exact⟨a,ha,hc.get 1 s rfl (li_cell ha h)⟩
end
def OR.at (o:OR) (s:Nat) (w:Int):Option (List V):=if w=-1 then o.dv[s]? else o.rv[w.toNat]?
def OR.atA (o:OR) (s:Nat) (w:Int):Option Addr:=if w=-1 then o.da[s]? else o.ra[w.toNat]?
def OR.ear (o:OR) (w:Int):List Tri→Option Int
 | t::_=>some t.1
 | []=>if w=-1 then none else o.pr.getD w.toNat none
def evAt (de re:List (List Tri)) (s:Nat) (w:Int):List Tri:=if w=-1 then de.getD s [] else re.getD w.toNat []
def OR.clk (o:OR) (de re:List (List Tri)) (s:Nat) (r:SR):Option Int:=(r.ws.filterMap fun w=>o.ear w (evAt de re s w)).min?
theorem min_is {ns:List Int} {m:Int} (h1:m ∈ ns) (h2:∀ a ∈ ns,m≤a):ns.min?=some m:=qE.mpr ⟨h1,h2⟩
inductive spTaken (cs:Cs) (C:Addr) (vs:List V) (H:Hp) (Q:VK) (x_3:XK):Prop where
 | mk (o:OR) (M:List (List Cell)) (s:Nat) (us:List V) (h_0:vs=[.ref o.x,.int s]) (h_1:Hc H (ownCs cs C o++M)) (h_2:OOk o) (h_3:o.gv[s]?=some us) (h_4:∀ p,H p=none→Q (.ref p) (upd H p (.lst us))):spTaken cs C vs H Q x_3
inductive spRow (cs:Cs) (C:Addr) (vs:List V) (H:Hp) (Q:VK) (x_3:XK):Prop where
 | mk (o:OR) (M:List (List Cell)) (s:Nat) (w:Int) (us:List V) (h_0:vs=[.ref o.x,.int s,.int w]) (h_1:Hc H (ownCs cs C o++M)) (h_2:OOk o) (h_3:(w=-1∨0≤w)) (h_4:o.at s w=some us) (h_5:∀ a,o.atA s w=some a→H a=some (.lst us)→Q (.ref a) H):spRow cs C vs H Q x_3
inductive spEar (cs:Cs) (C:Addr) (vs:List V) (H:Hp) (Q:VK) (x_3:XK):Prop where
 | mk (o:OR) (M:List (List Cell)) (s:Nat) (w:Int) (us:List V) (ts:List Tri) (h_0:vs=[.ref o.x,.int s,.int w]) (h_1:Hc H (ownCs cs C o++M)) (h_2:OOk o) (h_3:(w=-1∨0≤w)) (h_4:o.at s w=some us) (h_5:Paired (IsTri H) us ts) (h_6:Q (pV (o.ear w ts)) H):spEar cs C vs H Q x_3
inductive spClk (cs:Cs) (C:Addr) (vs:List V) (H:Hp) (Q:VK) (x_3:XK):Prop where
 | mk (o:OR) (M:List (List Cell)) (s:Nat) (r:SR) (de re ge:List (List Tri)) (h_0:vs=[.ref o.x,.int s]) (h_1:Hc H (ownCs cs C o++M)) (h_2:OOk o) (h_3:o.srs[s]?=some r) (h_4:r.ws.length≤100) (h_5:Evs H o de re ge) (h_6:∀ H',Same H H'→Q (pV (o.clk de re s r)) H'):spClk cs C vs H Q x_3
theorem at_ok {o:OR} (ok:OOk o) {s:Nat} {r:SR} (hr:o.srs[s]?=some r) {w:Int} (hw:w ∈ r.ws):(w=-1∨0≤w)∧∃ us,o.at s w=some us:=by
 have hs:=(zC.mp hr).1
 rcases ok.ways r (zE hr) w hw with e|⟨e1,e2⟩
 ·subst e
  refine⟨.inl rfl,?_⟩
  unfold OR.at
  rw[if_pos rfl]
  have:=ok.ldv
  exact⟨o.dv[s]'(by omega),zB _⟩
 ·refine⟨.inr e1,?_⟩
  unfold OR.at
  rw[if_neg (by omega)]
  have:=ok.lrv
  exact⟨o.rv[w.toNat]'(by omega),zB _⟩
theorem ev_of {H:Hp} {o:OR} {de re ge:List (List Tri)} (ev:Evs H o de re ge) {s:Nat} {w:Int} {us:List V} (h:o.at s w=some us):Paired (IsTri H) us (evAt de re s w):=by
 unfold OR.at at h
 unfold evAt
 split at h
 ·rename_i e
  obtain⟨ts,h1,h2⟩:=ev.d.gt h
  rw[if_pos e,zA,h1]
  exact h2
 ·rename_i e
  obtain⟨ts,h1,h2⟩:=ev.r.gt h
  rw[if_neg e,zA,h1]
  exact h2
section
variable {P:Program} {w:World} {K:PySem.W.Frag} {mg:Str→Option Value} {base:Heap} {cs:Cs} {C:Addr}
theorem sc_taken:FnScope ["self","station"] ["self","station"] (defScope (inClass (top 17) 1)):=⟨rfl,rfl,rfl,by decide +kernel,rfl,by decide +kernel,by decide +kernel⟩
theorem ok_taken {f:Addr} {fd:FuncData} (F:Fun K "taken" "Own.taken" (inClass (top 17) 1) f fd) (T:Txt K mg) (c:OwC K C):FnOk P w K mg base CX0 1 f fd ["self","station"] (spTaken cs C):=by
 have nd:=sc_taken.nd
 refine F.ok sc_taken (fun vs H Q E h=>?_) (fun cdv A outer s H vs Q E hr h=>?_)
 ·obtain⟨o,M,s,us,rfl,_⟩:=h
  rfl
 ·obtain⟨o,M,s,us,rfl,hc,ok,hs,q⟩:=h
  obtain⟨a,ha,hl⟩:=ok.log hc hs
  refine⟨_,(@pss_one _ _ _ (@ps_ret _ _ _ _ (pe_callTy (call_list_ofK (K:=K) rfl) (by rfl) T.n_list bt_list (@pa_cons _ _ _ _ _ (@pe_ix _ _ _ _ _ _ _ (ix_listK (K:=K) rfl) (pe_fldK (K:=K) rfl (pv 0) rfl) (pv 1) (fun _ _=>rfl)) pa_nil (by rfl))))),?_⟩
  exact⟨_,rfl,o.x,C,o.dx,o.flds,_,rfl,hc.get 0 0 rfl rfl,c.cl,c.n6,f_logs,_,rfl,⟨_,_,_,_,rfl,rfl,SqL.of (hc.get 0 6 rfl rfl),atI_nat (refs_at ha),a,us,rfl,.inl (SqL.of hl),fun l nl=>q l nl⟩⟩
theorem sc_orow:FnScope ["self","station","way"] ["self","station","way"] (defScope (inClass (top 17) 6)):=⟨rfl,rfl,rfl,by decide +kernel,rfl,by decide +kernel,by decide +kernel⟩
theorem ok_orow {f:Addr} {fd:FuncData} {tkD:Tok} (F:Fun K "row" "Own.row" (inClass (top 17) 6) f fd) (g_DOOR:mg "DOOR"=some (.int (-1) tkD)) (c:OwC K C):FnOk P w K mg base CX0 1 f fd ["self","station","way"] (spRow cs C):=by
 have nd:=sc_orow.nd
 refine F.ok sc_orow (fun vs H Q E h=>?_) (fun cdv A outer s H vs Q E hr h=>?_)
 ·obtain⟨o,M,s,w,us,rfl,_⟩:=h
  rfl
 ·obtain⟨o,M,s,wy,us,rfl,hc,ok,hw,hat,q⟩:=h
  refine⟨_,(@pss_one _ _ _ (@ps_ret _ _ _ _ (pe_ifExp (pt_cmpR op_eq (pv 2) (pe_glob (v:=.int (-1)) (by rfl) g_DOOR ⟨_,rfl⟩) (nomark _)) (@pe_ix _ _ _ _ _ _ _ (ix_listK (K:=K) rfl) (pe_fldK (K:=K) rfl (pv 0) rfl) (pv 1) (fun _ _=>rfl)) (@pe_ix _ _ _ _ _ _ _ (ix_listK (K:=K) rfl) (pe_fldK (K:=K) rfl (pv 0) rfl) (pv 2) (fun _ _=>rfl))))),?_⟩
  refine⟨_,rfl,rfl,_,rfl,?_⟩
  unfold OR.at at hat
  unfold OR.atA at q
  rw[dec_int]
  by_cases e:wy=-1
  ·rw[if_pos e] at hat
   obtain⟨a,ha,hl⟩:=ok.door hc hat
   rw[show(wy == -1)=true by simpa using e]
   refine iteT ⟨_,rfl,o.x,C,o.dx,o.flds,_,rfl,hc.get 0 0 rfl rfl,c.cl,c.n3,qg,_,rfl,⟨_,_,_,_,rfl,rfl,SqL.of (hc.get 0 3 rfl rfl),atI_nat (refs_at ha),q a (by rw[if_pos e]; exact ha) hl⟩⟩
  ·rw[if_neg e] at hat
   obtain⟨a,ha,hl⟩:=ok.belt hc hat
   have ew:wy=(wy.toNat:Int):=by omega
   rw[show(wy == -1)=false by simpa using e]
   refine iteF ⟨_,rfl,o.x,C,o.dx,o.flds,_,rfl,hc.get 0 0 rfl rfl,c.cl,c.n4,f_rows,_,rfl,⟨_,_,_,_,rfl,rfl,SqL.of (hc.get 0 4 rfl rfl),(by rw[ew]; exact atI_nat (refs_at ha)),q a (by rw[if_neg e]; exact ha) hl⟩⟩
theorem sc_ear:FnScope ["self","station","way","row"] ["self","station","way"] (defScope (inClass (top 17) 7)):=⟨rfl,rfl,rfl,by decide +kernel,rfl,by decide +kernel,by decide +kernel⟩
theorem ok_ear {f:Addr} {fd:FuncData} {tkD:Tok} (F:Fun K "earliest" "Own.earliest" (inClass (top 17) 7) f fd) (T:Txt K mg) (g_DOOR:mg "DOOR"=some (.int (-1) tkD)) (c:OwC K C) (G_row:MethAt P w K mg base 1 C "row" ["self","station","way"] (spRow cs C)):FnOk P w K mg base CX0 2 f fd ["self","station","way"] (spEar cs C):=by
 have nd:=sc_ear.nd
 refine F.ok sc_ear (fun vs H Q E h=>?_) (fun cdv A outer s H vs Q E hr h=>?_)
 ·obtain⟨o,M,s,w,us,ts,rfl,_⟩:=h
  rfl
 ·obtain⟨o,M,s,wy,us,ts,rfl,hc,ok,hw,hat,pr,q⟩:=h
  refine⟨_,(@pss_cons _ _ _ _ _ (ps_set (i:=3) nd rfl (by nofun) (pe_mth G_row (hr.mono (by decide)) (pv 0) (@pa_cons _ _ _ _ _ (pv 1) (@pa_cons _ _ _ _ _ (pv 2) pa_nil (by rfl)) (by rfl))))
   (@pss_cons _ _ _ _ _ (ps_if (pt_cmpR op_gt (pe_callB (call_len_seqK (K:=K) rfl) (by rfl) T.n_len bt_len (@pa_cons _ _ _ _ _ (pv 3) pa_nil (by rfl))) pe_int (nomark _)) (@pss_one _ _ _ (@ps_ret _ _ _ _ (@pe_ix _ _ _ _ _ _ _ (ix_tupK (K:=K) rfl) (@pe_ix _ _ _ _ _ _ _ (ix_listK (K:=K) rfl) (pv 3) pe_int (fun _ _=>rfl)) pe_int (fun _ _=>rfl)))) pss_nil)
   (@pss_one _ _ _ (@ps_ret _ _ _ _ (pe_ifExp (pt_cmpR op_eq (pv 2) (pe_glob (v:=.int (-1)) (by rfl) g_DOOR ⟨_,rfl⟩) (nomark _)) pe_non (@pe_ix _ _ _ _ _ _ _ (ix_listK (K:=K) rfl) (pe_fldK (K:=K) rfl (pv 0) rfl) (pv 2) (fun _ _=>rfl))))))),?_⟩
  refine⟨_,rfl,o.x,o.dx,o.flds,rfl,hc.get 0 0 rfl rfl,f_m (by decide +kernel),_,rfl,_,rfl,o,M,s,wy,us,rfl,hc,ok,hw,hat,fun a ha hl=>?_⟩
  refine⟨_,rfl,a,us,rfl,.inl (SqL.of hl),_,_,rfl,rfl,_,rfl,?_⟩
  cases pr with
  | nil =>
   refine iteF ⟨_,rfl,rfl,_,rfl,?_⟩
   rw[dec_int]
   by_cases e:wy=-1
   ·rw[show(wy == -1)=true by simpa using e]
    refine iteT ?_
    unfold OR.ear at q
    rw[if_pos e] at q
    exact q
   ·rw[show(wy == -1)=false by simpa using e]
    have ew:wy=(wy.toNat:Int):=by omega
    unfold OR.at at hat
    rw[if_neg e] at hat
    obtain⟨m,hm⟩:=get_like (ok.lrv.trans ok.lp.symm) hat
    unfold OR.ear at q
    rw[if_neg e,zA,hm] at q
    exact iteF ⟨_,rfl,o.x,C,o.dx,o.flds,_,rfl,hc.get 0 0 rfl rfl,c.cl,c.n5,f_prom,_,rfl,⟨_,_,_,_,rfl,rfl,SqL.of (hc.get 0 5 rfl rfl),(by rw[ew]; exact atI_nat (by rw[zF,hm]; rfl)),q⟩⟩
  | @cons x t us ts hx hr' =>
   obtain⟨pt,rfl,hpt⟩:=hx
   have e:decide ((0:Int) < ((V.ref pt::us).length:Int))=true:=decide_eq_true (by rw[zX]; omega)
   rw[e]
   exact iteT ⟨_,rfl,⟨_,_,_,_,rfl,rfl,SqL.of hl,atI_nat (j:=0) rfl,⟨_,_,_,_,rfl,rfl,SqT.of hpt,atI_nat (j:=0) rfl,q⟩⟩⟩
theorem sc_clk:FnScope ["self","station","times"] ["self","station"] (defScope (inClass (top 17) 4)):=⟨rfl,rfl,rfl,by decide +kernel,rfl,by decide +kernel,by decide +kernel⟩
theorem ok_clk {f:Addr} {fd:FuncData} (F:Fun K "clock" "Own.clock" (inClass (top 17) 4) f fd) (T:Txt K mg) (c:OwC K C) (cc:CsOk K cs) (G_earliest:MethAt P w K mg base 2 C "earliest" ["self","station","way"] (spEar cs C)):FnOk P w K mg base CX0 3 f fd ["self","station"] (spClk cs C):=by
 have nd:=sc_clk.nd
 refine F.ok sc_clk (fun vs H Q E h=>?_) (fun cdv A outer s H vs Q E hr h=>?_)
 ·obtain⟨o,M,s,r,de,re,ge,rfl,_⟩:=h
  rfl
 ·obtain⟨o,M,s,r,de,re,ge,rfl,hc,ok,hs,l100,ev,q⟩:=h
  have ct:=cc.st r.k
  refine⟨_,(@pss_cons _ _ _ _ _ (ps_setC (i:=2) nd rfl (Or.inl rfl) rfl (own:=["way"]) (fr:=["self","station"]) (js:=[0,1]) (by and_intros) (pi_tupK (K:=K) rfl (pe_fldK (K:=K) rfl (@pe_ix _ _ _ _ _ _ _ (ix_listK (K:=K) rfl) (pe_fldK (K:=K) rfl (pv 0) rfl) (pv 1) (fun _ _=>rfl)) rfl)) (fun _ _ _ _=>(pg_name (i:=0) (show List.Nodup (["way","self","station"]:List Str) from by decide +kernel) rfl (by nofun))) (fun _ _ _ _=>pts_nil) (fun _ _ _ _=>(pe_mth G_earliest (hr.mono (by decide)) (pv 1) (@pa_cons _ _ _ _ _ (pv 2) (@pa_cons _ _ _ _ _ (pv 0) pa_nil (by rfl)) (by rfl)))))
   (@pss_one _ _ _ (@ps_ret _ _ _ _ (pe_minD rfl (by rfl) T.n_min bt_min (pe_comp (own:=["time"]) (fr:=[]) (js:=[]) (by and_intros) (pi_listK (K:=K) rfl (pv 2)) (fun _ _ _ _=>(pg_name (i:=0) (show List.Nodup (["time"]:List Str) from by decide +kernel) rfl (by nofun))) (fun _ _ _ _=>(pts_one (pt_cmpR op_notN (pv 0) pe_non (nomark _)))) (fun _ _ _ _=>(pv 0))))))),?_⟩
  refine⟨_,rfl,o.x,C,o.dx,o.flds,_,rfl,hc.get 0 0 rfl rfl,c.cl,c.n1,f_stas,_,rfl,⟨_,_,_,_,rfl,rfl,SqL.of (hc.get 0 1 rfl rfl),atI_nat (srefs_at hs),r.x,cs.of r.k,r.dx,r.flds,_,rfl,st_x hc hs,ct.cl,ct.nW,r.flds_ways,r.p1,rfl,⟨_,SqT.of (st_p1 hc hs)⟩,fun D nD=>?_⟩⟩
  refine comp_tup (a:=r.p1) (xs:=r.ws.map V.int) (fun i H5=>Same H H5∧H5 D=some (.lst (((r.ws.take i).map fun w=>o.ear w (evAt de re s w)).map pV))) ⟨Same.new nD,upd_same⟩ (fun i H5 _ p=>SqT.of (p.1 _ _ (st_p1 hc hs))) ?_ ?_
  ·rintro i x H5 m Wf hx ⟨s5,g5⟩ nx
   obtain⟨wy,rfl,hwy⟩:=ints_get hx
   obtain⟨a1,us,a2⟩:=at_ok ok hs (zE hwy)
   have hi:=(zC.mp hwy).1
   refine⟨_,rfl,o.x,o.dx,o.flds,rfl,s5 _ _ (hc.get 0 0 rfl rfl),f_m (by decide +kernel),_,rfl,_,rfl,o,M,s,wy,us,_,rfl,hc.same s5,ok,a1,a2,pairedMono (fun _ _ h=>h.same s5) (ev_of ev a2),_,g5,small1000 (by rw[zD,zD,yA]; omega),nx _ ⟨s5.upd nD,?_⟩⟩
   rw[upd_same,take_1 hwy,zL,zL]
   rfl
  ·rintro H5 ⟨s5,g5⟩
   rw[zD,yD] at g5
   have hlen:(r.ws.map fun w=>o.ear w (evAt de re s w)).length≤100:=by rw[zD]; exact l100
   have hq:o.clk de re s r=((r.ws.map fun w=>o.ear w (evAt de re s w)).filterMap id).min?:=by
    unfold OR.clk
    rw[List.filterMap_map]
    rfl
   rw[hq] at q
   generalize (r.ws.map fun w=>o.ear w (evAt de re s w))=os at g5 hlen q
   refine⟨_,rfl,D,rfl,⟨_,SqL.of g5⟩,fun D2 nD2=>?_⟩
   refine comp_list (a:=D) (xs:=os.map pV) (fun i H6=>Same H5 H6∧H6 D2=some (.lst (((os.take i).filterMap id).map V.int))) ⟨Same.new nD2,upd_same⟩ (fun i H6 _ p=>SqL.of (p.1 _ _ g5)) ?_ ?_
   ·rintro i x H6 m Wf hx ⟨s6,g6⟩ nx
    rw[zF] at hx
    cases eo:os[i]? with
    | none=>rw[eo] at hx; cases hx
    | some t =>
     rw[eo] at hx
     cases hx
     have hle:(((os.take i).filterMap id).map V.int).length≤1000:=by
      rw[zD]
      have:=kR (id:Option Int→Option Int) (os.take i)
      rw[yA] at this
      omega
     refine⟨_,rfl,rfl,_,rfl,?_⟩
     cases t with
     | none =>
      refine iteF (nx _ ⟨s6,?_⟩)
      rw[take_1 eo,jX]
      simpa using g6
     | some n =>
      refine iteT ⟨_,rfl,_,g6,small1000 hle,nx _ ⟨s6.upd nD2,?_⟩⟩
      rw[upd_same,take_1 eo,jX,zL]
      rfl
   ·rintro H6 ⟨s6,g6⟩
    rw[zD,yD] at g6
    have S:=s5.trans s6
    refine⟨D2,os.filterMap id,rfl,SqL.of g6,fun e=>?_,fun m h1 h2=>?_⟩
    ·have:=q H6 S
     rw[e] at this
     exact this
    ·have:=q H6 S
     rw[min_is h1 h2] at this
     exact this
end
end Oc
namespace Oc
open PySem L2
set_option genInjectivity false in
set_option genSizeOf false in
structure SP where
 k:Kd
 ws:List Int
 bs:List Int
 seen:Int
 rows:List (List Int)
def SR.pu (r:SR):SP:=⟨r.k,r.ws,r.bs,r.seen,r.rows⟩
def SP.sr (p:SP):SR:=⟨0,0,0,0,0,p.k,p.ws,p.bs,[],p.seen,p.rows⟩
def SP.out (p:SP) (j:Nat) (z:Int):Option (Int × Int):=p.sr.out j z
def SP.nxt (p:SP) (j:Nat) (z:Int):SP:=(p.sr.nxt j z).pu
theorem SR.out_pu (r:SR) (j:Nat) (z:Int):r.out j z=r.pu.out j z:=rfl
theorem SR.nxt_pu (r:SR) (j:Nat) (z:Int):(r.nxt j z).pu=r.pu.nxt j z:=by
 obtain⟨x,dx,p1,p2,d,k,ws,bs,ls,seen,rows⟩:=r
 cases k <;> rfl
theorem SP.nxt_ws (p:SP) (j:Nat) (z:Int):(p.nxt j z).ws=p.ws:=(p.sr.nxt_x j z).2.2.1
theorem SP.nxt_bs (p:SP) (j:Nat) (z:Int):(p.nxt j z).bs=p.bs:=(p.sr.nxt_x j z).2.2.2
theorem head_mem {l:List Int} {y b v:Int} (h:(l.head?.map fun b=>(b,v))=some (b,y)):b ∈ l:=by
 cases l with
 | nil=>cases h
 | cons a r=>cases h; exact zH
theorem SP.out_in {p:SP} {j:Nat} {z b y:Int} (h:p.out j z=some (b,y)):b ∈ p.bs:=by
 unfold SP.out SR.out at h
 cases e:p.k with
 | relay n =>
  rw[show p.sr.k=p.k from rfl,e] at h
  exact head_mem h
 | sorter =>
  rw[show p.sr.k=p.k from rfl,e] at h
  dsimp only at h
  split at h
  ·cases h
  ·cases eb:p.sr.bs[(z % (p.sr.bs.length:Int)).toNat]? with
   | none=>rw[eb] at h; cases h
   | some b' =>
    rw[eb] at h
    cases h
    exact zE eb
 | thinner n =>
  rw[show p.sr.k=p.k from rfl,e] at h
  dsimp only at h
  split at h
  ·cases h
  ·exact head_mem h
 | joiner =>
  rw[show p.sr.k=p.k from rfl,e] at h
  dsimp only at h
  split at h
  ·cases h
  ·exact head_mem h
 | sink =>
  rw[show p.sr.k=p.k from rfl,e] at h
  cases h
theorem stC_cut (cs:Cs) (A B:List SR) (r:SR):stC cs (A++r::B)=stC cs A++(srC cs r++stC cs B):=by
 unfold stC
 rw[qK,List.flatMap_cons]
theorem st_take {cs:Cs} {A B:List SR} {r:SR} {H:Hp} {M:List (List Cell)} (hc:Hc H (stC cs (A++r::B)::M)):Hc H (srC cs r::(stC cs A++stC cs B)::M):=by
 rw[stC_cut] at hc
 have h1:=hc.split.swap.split
 exact((h1.pick 1 rfl).pick 2 rfl).join.swap
theorem st_back {cs:Cs} {A B:List SR} {r:SR} {H:Hp} {M:List (List Cell)} (hc:Hc H (srC cs r::(stC cs A++stC cs B)::M)):Hc H (stC cs (A++r::B)::M):=by
 rw[stC_cut]
 have h1:Hc H (stC cs A::stC cs B::srC cs r::M):=hc.swap.split
 have h2:Hc H (srC cs r::stC cs B::stC cs A::M):=(h1.pick 1 rfl).pick 2 rfl
 exact h2.join.swap.join
theorem liC_set {as:List Addr} {vs:List (List V)} {j:Nat} {a:Addr} {v:List V} (h:as[j]?=some a):(liC as vs).set j (a,.lst v)=liC as (vs.set j v):=by
 unfold liC
 rw[rowsC_set h,jE]
theorem paired_set {α β:Type} {F:α→β→Prop}:∀ {l:List α} {m:List β} {i:Nat} {x:α} {y:β},Paired F l m→F x y→Paired F (l.set i x) (m.set i y)
 | _,_,_,_,_,.nil,_=>.nil
 | _,_,0,_,_,.cons _ r,h=>.cons h r
 | _,_,i + 1,_,_,.cons p r,h=>.cons p (paired_set r h)
theorem paired_erase {α β:Type} {F:α→β→Prop}:∀ {l:List α} {m:List β} {i:Nat},Paired F l m→Paired F (l.eraseIdx i) (m.eraseIdx i)
 | _,_,_,.nil=>.nil
 | _,_,0,.cons _ r=>r
 | _,_,i + 1,.cons p r=>.cons p (paired_erase r)
theorem all_set {α:Type} {p:α→Prop} {l:List α} {i:Nat} {x:α} (h:∀ y ∈ l,p y) (hx:p x):∀ y ∈ l.set i x,p y:=fun y hy=>by
 rcases kO hy with e|e
 ·exact h y e
 ·rw[e]; exact hx
end Oc
namespace Oc
open PySem L2
structure OA where
 srs:List SP
 dl:List Int
 pr:List (Option Int)
 de:List (List Tri)
 re:List (List Tri)
 ge:List (List Tri)
structure OIs (H:Hp) (o:OR) (A:OA):Prop where
 s:o.srs.map SR.pu=A.srs
 d:o.dels=A.dl
 p:o.pr=A.pr
 e:Evs H o A.de A.re A.ge
def tkey (t:Tri):Int × Int:=(t.1,t.2.1)
def OA.hds (A:OA) (s:Nat) (ws:List Int):List Tri:=ws.filterMap fun w=>(evAt A.de A.re s w).head?
def OA.upc (A:OA) (s:Nat) (ws:List Int):Option Tri:=(A.hds s ws)[bestK ((A.hds s ws).map tkey)]?
abbrev uq:Str:="Own.upcoming.<locals>.<lambda>"
abbrev UpT (P:Addr) (H:Hp):Prop:=LamT P uq 134 31 H
def EvV (H:Hp) (v:V):Option Tri→Prop
 | none=>v=.non
 | some t=>IsTri H v t
inductive spUpc (cs:Cs) (C Pu:Addr) (vs:List V) (H:Hp) (Q:VK) (x_3:XK):Prop where
 | mk (o:OR) (M:List (List Cell)) (s:Nat) (A:OA) (r:SR) (h_0:vs=[.ref o.x,.int s]) (h_1:Hc H (ownCs cs C o++M)) (h_2:OOk o) (h_3:OIs H o A) (h_4:o.srs[s]?=some r) (h_5:r.ws.length≤100) (h_6:UpT Pu H) (h_7:∀(v:V) (H':Hp),Keep [Pu] H H'→UpT Pu H'→EvV H' v (A.upc s r.ws)→Q v H'):spUpc cs C Pu vs H Q x_3
theorem _root_.L2.LamT.ne {P:Addr} {q:Str} {ln cl:Nat} {H:Hp} (h:LamT P q ln cl H) {b:Addr} {u:HO} (e:H b=some u) (hu:∀ ps,u ≠ HO.tbl ps):b ≠ P:=by
 rcases h with h|⟨c',h,_⟩
 ·exact ne_of e h (hu _)
 ·exact ne_of e h (hu _)
theorem Keep.tri {P:Addr} {q:Str} {ln cl:Nat} {H H':Hp} (k:Keep [P] H H') (h:LamT P q ln cl H) {x:V} {t:Tri} (ht:IsTri H x t):IsTri H' x t:=by
 obtain⟨p,e,hp⟩:=ht
 exact⟨p,e,k _ _ hp (by rw[zG]; exact h.ne hp fun _ z=>nomatch z)⟩
theorem nil_at {α:Type} {j:Nat} {a:α} {X:Prop} (h:([]:List α)[j]?=some a):X:=by simp at h
section
variable {P:Program} {w:World} {K:PySem.W.Frag} {mg:Str→Option Value} {base:Heap} {cs:Cs} {C:Addr}
theorem sc_upc:FnScope ["self","station","rows","firsts"] ["self","station"] (defScope (inClass (top 17) 8)):=⟨rfl,rfl,rfl,by decide +kernel,rfl,by decide +kernel,by decide +kernel⟩
theorem ok_upc {f c Pu:Addr} {fd:FuncData} (F:Fun K "upcoming" "Own.upcoming" (inClass (top 17) 8) f fd) (hcd:fd.code=.ref c) (tm:Tab K mg base c Pu) (T:Txt K mg) (oc:OwC K C) (cc:CsOk K cs) (G_row:MethAt P w K mg base 1 C "row" ["self","station","way"] (spRow cs C)):FnOk P w K mg base CX0 2 f fd ["self","station"] (spUpc cs C Pu):=by
 have nd:=sc_upc.nd
 refine F.okC hcd sc_upc (fun vs H Q E h=>?_) (fun A outer s H vs Q E hr h=>?_)
 ·obtain⟨o,M,s,A,r,rfl,_⟩:=h
  rfl
 ·obtain⟨o,M,s,A,r,rfl,hc,ok,is,hs,l100,hT,q⟩:=h
  have ct:=cc.st r.k
  refine⟨_,(@pss_cons _ _ _ _ _ (ps_setC (i:=2) nd rfl (Or.inl rfl) rfl (own:=["way"]) (fr:=["self","station"]) (js:=[0,1]) (by and_intros) (pi_tupK (K:=K) rfl (pe_fldK (K:=K) rfl (@pe_ix _ _ _ _ _ _ _ (ix_listK (K:=K) rfl) (pe_fldK (K:=K) rfl (pv 0) rfl) (pv 1) (fun _ _=>rfl)) rfl)) (fun _ _ _ _=>(pg_name (i:=0) (show List.Nodup (["way","self","station"]:List Str) from by decide +kernel) rfl (by nofun))) (fun _ _ _ _=>pts_nil) (fun _ _ _ _=>(pe_mth G_row (hr.mono (by decide)) (pv 1) (@pa_cons _ _ _ _ _ (pv 2) (@pa_cons _ _ _ _ _ (pv 0) pa_nil (by rfl)) (by rfl)))))
   (@pss_cons _ _ _ _ _ (ps_setC (i:=3) nd rfl (Or.inl rfl) rfl (own:=["row"]) (fr:=[]) (js:=[]) (by and_intros) (pi_listK (K:=K) rfl (pv 2)) (fun _ _ _ _=>(pg_name (i:=0) (show List.Nodup (["row"]:List Str) from by decide +kernel) rfl (by nofun))) (fun _ _ _ _=>(pts_one (pt_cmpR op_gt (pe_callB (call_len_seqK (K:=K) rfl) (by rfl) T.n_len bt_len (@pa_cons _ _ _ _ _ (pv 0) pa_nil (by rfl))) pe_int (nomark _)))) (fun _ _ _ _=>(@pe_ix _ _ _ _ _ _ _ (ix_listK (K:=K) rfl) (pv 0) pe_int (fun _ _=>rfl))))
   (@pss_one _ _ _ (@ps_ret _ _ _ _ (pe_minKD rfl hr (by rfl) T.n_min bt_min rfl (by rfl) tm.hd tm.bl (pv 3) (by decide) (fun _ _ _ _=>rfl) (by rfl) (by rfl)))))),?_⟩
  refine⟨_,rfl,o.x,C,o.dx,o.flds,_,rfl,hc.get 0 0 rfl rfl,oc.cl,oc.n1,f_stas,_,rfl,⟨_,_,_,_,rfl,rfl,SqL.of (hc.get 0 1 rfl rfl),atI_nat (srefs_at hs),r.x,cs.of r.k,r.dx,r.flds,_,rfl,st_x hc hs,ct.cl,ct.nW,r.flds_ways,r.p1,rfl,⟨_,SqT.of (st_p1 hc hs)⟩,fun D nD=>?_⟩⟩
  refine comp_tup (a:=r.p1) (xs:=r.ws.map V.int) (fun i H5=>Same H H5∧∃ as:List Addr,as.length=i∧H5 D=some (.lst (as.map V.ref))∧∀ j a wy,as[j]?=some a→r.ws[j]?=some wy→∃ us,o.at s wy=some us∧H a=some (.lst us)) ⟨Same.new nD,[],rfl,upd_same,fun j a wy h=>nil_at h⟩ (fun i H5 _ p=>SqT.of (p.1 _ _ (st_p1 hc hs))) ?_ ?_
  ·rintro i x H5 m Wf hx ⟨s5,as,la,g5,all⟩ nx
   obtain⟨wy,rfl,hwy⟩:=ints_get hx
   obtain⟨a1,us,a2⟩:=at_ok ok hs (zE hwy)
   have hi:=(zC.mp hwy).1
   refine⟨_,rfl,o.x,o.dx,o.flds,rfl,s5 _ _ (hc.get 0 0 rfl rfl),f_m (by decide +kernel),_,rfl,_,rfl,o,M,s,wy,us,rfl,hc.same s5,ok,a1,a2,fun a ha hl=>?_⟩
   have hl0:H a=some (.lst us):=by
    unfold OR.atA at ha
    unfold OR.at at a2
    split at ha
    ·rename_i e
     rw[if_pos e] at a2
     obtain⟨a',h1,h2⟩:=ok.door hc a2
     rw[ha] at h1; cases h1
     exact h2
    ·rename_i e
     rw[if_neg e] at a2
     obtain⟨a',h1,h2⟩:=ok.belt hc a2
     rw[ha] at h1; cases h1
     exact h2
   refine⟨_,g5,small1000 (by rw[zD]; omega),nx _ ⟨s5.upd nD,as++[a],by rw[zM,la]; rfl,by rw[upd_same,zL]; rfl,fun j a' wy' hj hw=>?_⟩⟩
   rcases Nat.lt_trichotomy j as.length with z|z|z
   ·rw[yI z] at hj
    exact all j a' wy' hj hw
   ·rw[zQ (by omega),z,qI] at hj
    cases hj
    rw[z,la,hwy] at hw
    cases hw
    exact⟨us,a2,hl0⟩
   ·rw[zQ (by omega)] at hj
    have:([a]:List Addr)[j - as.length]?=none:=yE (by show 1≤_; omega)
    rw[this] at hj; cases hj
  ·rintro H5 ⟨s5,as,la,g5,all⟩
   rw[zD] at la
   refine⟨_,rfl,D,rfl,⟨_,SqL.of g5⟩,fun D2 nD2=>?_⟩
   refine comp_list (a:=D) (xs:=as.map V.ref) (fun i H6=>Same H5 H6∧∃ us2:List V,H6 D2=some (.lst us2)∧Paired (IsTri H) us2 (A.hds s (r.ws.take i))) ⟨Same.new nD2,[],upd_same,.nil⟩ (fun i H6 _ p=>SqL.of (p.1 _ _ g5)) ?_ ?_
   ·rintro i x H6 m Wf hx ⟨s6,us2,g6,p6⟩ nx
    rw[zF] at hx
    obtain⟨a,ha,rfl⟩:=yQ.mp hx
    have hi:=(zC.mp ha).1
    obtain⟨wy,hwy⟩:∃ wy,r.ws[i]?=some wy:=⟨r.ws[i]'(by omega),zB _⟩
    obtain⟨us,hat,hl⟩:=all i a wy ha hwy
    have pe:=ev_of is.e hat
    have hl6:=s6 _ _ (s5 _ _ hl)
    have l6:=p6.length
    have lh:(A.hds s (r.ws.take i)).length≤100:=by
     unfold OA.hds
     refine z9 (kR _ _) ?_
     rw[yA]; omega
    have eh:A.hds s (r.ws.take (i + 1))=A.hds s (r.ws.take i)++([wy].filterMap fun w=>(evAt A.de A.re s w).head?):=by
     unfold OA.hds
     rw[take_1 hwy,jX]
    refine⟨_,rfl,a,us,rfl,.inl (SqL.of hl6),_,_,rfl,rfl,_,rfl,?_⟩
    cases ee:evAt A.de A.re s wy with
    | nil =>
     rw[ee] at pe
     cases pe
     refine iteF (nx _ ⟨s6,us2,g6,?_⟩)
     rw[eh,qZ,ee]
     simpa using p6
    | cons t ts =>
     rw[ee] at pe
     cases pe with
     | cons hx0 hr0 =>
      rename_i x0 us0
      have e:decide ((0:Int) < ((x0::us0).length:Int))=true:=decide_eq_true (by rw[zX]; omega)
      rw[e]
      refine iteT ⟨_,rfl,⟨_,_,_,_,rfl,rfl,SqL.of hl6,atI_nat (j:=0) rfl,_,g6,small1000 (by omega),nx _ ⟨s6.upd nD2,us2++[x0],upd_same,?_⟩⟩⟩
      rw[eh,qZ,ee]
      exact paired_app p6 (.cons hx0 .nil)
   ·rintro H6 ⟨s6,us2,g6,p6⟩
    rw[zD,la,yD] at p6
    have S:=s5.trans s6
    have hT6:=hT.same S
    refine⟨_,rfl,D2,us2,(A.hds s r.ws).map tkey,rfl,SqL.of g6,(by rw[zD,p6.length]),fun j x k hx hk=>?_,hT6,fun H7 kp hT7=>?_⟩
    ·obtain⟨t,ht,p,rfl,hp⟩:=p6.gt hx
     rw[zF,ht] at hk
     cases hk
     exact⟨p,_,rfl,SqT.of (S _ _ hp),rfl,rfl⟩
    ·have KP:Keep [Pu] H H7:=fun b u e n=>kp b u (S b u e) n
     refine⟨fun e=>?_,fun x hx=>?_⟩
     ·rw[e] at p6
      refine q _ H7 KP hT7 ?_
      have e0:A.hds s r.ws=[]:=by
       generalize A.hds s r.ws=z at p6
       cases p6; rfl
      unfold OA.upc
      rw[e0]
      rfl
     ·obtain⟨t,ht,it⟩:=p6.gt hx
      refine q x H7 KP hT7 ?_
      unfold OA.upc
      rw[ht]
      exact Keep.tri KP hT it
end
end Oc
namespace Oc
open PySem L2
def OA.lets (A:OA) (t:Tri) (b:Nat):Bool:=if (A.re.getD b []).isEmpty=true then (match A.pr.getD b none with|none=>true|some g=>HT.lexLt [t.1,t.2.1] [g,(b:Int)]) else true
def OA.may (A:OA) (ws:List Int) (t:Tri):Bool:=(ws.filter fun w=>!(w == -1)).all fun w=>A.lets t w.toNat
inductive spLets (cs:Cs) (C:Addr) (vs:List V) (H:Hp) (Q:VK) (x_3:XK):Prop where
 | mk (o:OR) (M:List (List Cell)) (b:Nat) (A:OA) (v:V) (t:Tri) (h_0:vs=[.ref o.x,.int (b:Int),v]) (h_1:Hc H (ownCs cs C o++M)) (h_2:OOk o) (h_3:OIs H o A) (h_4:b < o.dels.length) (h_5:IsTri H v t) (h_6:∀ H',Same H H'→Q (.bl (A.lets t b)) H'):spLets cs C vs H Q x_3
inductive spMay (cs:Cs) (C:Addr) (vs:List V) (H:Hp) (Q:VK) (x_3:XK):Prop where
 | mk (o:OR) (M:List (List Cell)) (s:Nat) (A:OA) (v:V) (t:Tri) (r:SR) (h_0:vs=[.ref o.x,.int (s:Int),v]) (h_1:Hc H (ownCs cs C o++M)) (h_2:OOk o) (h_3:OIs H o A) (h_4:o.srs[s]?=some r) (h_5:r.ws.length≤100) (h_6:IsTri H v t) (h_7:∀ H',Same H H'→Q (.bl (A.may r.ws t)) H'):spMay cs C vs H Q x_3
theorem Evs.tk {H H':Hp} {o:OR} {de re ge:List (List Tri)} (k:Tk H H') (e:Evs H o de re ge):Evs H' o de re ge :=
 ⟨pairedMono (fun _ _ h=>pairedMono (fun _ _ h=>h.tk k) h) e.d,pairedMono (fun _ _ h=>pairedMono (fun _ _ h=>h.tk k) h) e.r,pairedMono (fun _ _ h=>pairedMono (fun _ _ h=>h.tk k) h) e.g⟩
theorem OIs.tk {H H':Hp} {o:OR} {A:OA} (k:Tk H H') (h:OIs H o A):OIs H' o A:=⟨h.s,h.d,h.p,h.e.tk k⟩
section
variable {P:Program} {w:World} {K:PySem.W.Frag} {mg:Str→Option Value} {base:Heap} {cs:Cs} {C:Addr}
theorem sc_lets:FnScope ["self","belt","event","given"] ["self","belt","event"] (defScope (inClass (top 17) 10)):=⟨rfl,rfl,rfl,by decide +kernel,rfl,by decide +kernel,by decide +kernel⟩
theorem ok_lets {f:Addr} {fd:FuncData} (F:Fun K "lets" "Own.lets" (inClass (top 17) 10) f fd) (T:Txt K mg) (oc:OwC K C):FnOk P w K mg base CX0 1 f fd ["self","belt","event"] (spLets cs C):=by
 have nd:=sc_lets.nd
 refine F.ok sc_lets (fun vs H Q E h=>?_) (fun cdv A outer s H vs Q E hr h=>?_)
 ·obtain⟨o,M,b,A,v,t,rfl,_⟩:=h
  rfl
 ·obtain⟨o,M,b,A,v,t,rfl,hc,ok,is,hb,ht,q⟩:=h
  have lrv:=ok.lrv
  have lp:=ok.lp
  obtain⟨us,hus⟩:∃ us,o.rv[b]?=some us:=⟨o.rv[b]'(by omega),zB _⟩
  obtain⟨a,ha,hl⟩:=ok.belt hc hus
  obtain⟨ts,hts,pt⟩:=is.e.r.gt hus
  obtain⟨g,hg⟩:∃ g,o.pr[b]?=some g:=⟨o.pr[b]'(by omega),zB _⟩
  obtain⟨p,rfl,hp⟩:=ht
  unfold OA.lets at q
  rw[zA,hts,← is.p,zA,hg] at q
  refine⟨_,(@pss_cons _ _ _ _ _ (ps_if (pt_cmpR op_gt (pe_callB (call_len_seqK (K:=K) rfl) (by rfl) T.n_len bt_len (@pa_cons _ _ _ _ _ (@pe_ix _ _ _ _ _ _ _ (ix_listK (K:=K) rfl) (pe_fldK (K:=K) rfl (pv 0) rfl) (pv 1) (fun _ _=>rfl)) pa_nil (by rfl))) pe_int (nomark _)) (@pss_one _ _ _ (@ps_ret _ _ _ _ pe_bl)) pss_nil)
   (@pss_cons _ _ _ _ _ (ps_set (i:=3) nd rfl (by nofun) (@pe_ix _ _ _ _ _ _ _ (ix_listK (K:=K) rfl) (pe_fldK (K:=K) rfl (pv 0) rfl) (pv 1) (fun _ _=>rfl)))
   (@pss_one _ _ _ (@ps_ret _ _ _ _ (pe_or (pe_cmpR op_isN (pv 3) pe_non (nomark _)) (pe_one (pe_cmpR (op_gtT (y6 (Nat.le_add_right _ _) hr.units)) (@pe_tup _ _ _ _ _ (@pa_cons _ _ _ _ _ (pv 3) (@pa_cons _ _ _ _ _ (pv 1) pa_nil (by rfl)) (by rfl))) (@pe_tup _ _ _ _ _ (@pa_cons _ _ _ _ _ (@pe_ix _ _ _ _ _ _ _ (ix_tupK (K:=K) rfl) (pv 2) pe_int (fun _ _=>rfl)) (@pa_cons _ _ _ _ _ (@pe_ix _ _ _ _ _ _ _ (ix_tupK (K:=K) rfl) (pv 2) pe_int (fun _ _=>rfl)) pa_nil (by rfl)) (by rfl))) (nomark _)))))))),?_⟩
  refine⟨_,rfl,o.x,C,o.dx,o.flds,_,rfl,hc.get 0 0 rfl rfl,oc.cl,oc.n4,f_rows,_,rfl,⟨_,_,_,_,rfl,rfl,SqL.of (hc.get 0 4 rfl rfl),atI_nat (refs_at ha),a,us,rfl,.inl (SqL.of hl),_,_,rfl,rfl,_,rfl,?_⟩⟩
  cases pt with
  | nil =>
   refine iteF ⟨_,rfl,o.x,C,o.dx,o.flds,_,rfl,hc.get 0 0 rfl rfl,oc.cl,oc.n5,f_prom,_,rfl,⟨_,_,_,_,rfl,rfl,SqL.of (hc.get 0 5 rfl rfl),atI_nat (by rw[zF,hg]; rfl),?_⟩⟩
   cases g with
   | none=>exact⟨_,rfl,rfl,⟨_,rfl,iteT (q H (Same.refl _))⟩⟩
   | some g =>
    refine⟨_,rfl,rfl,⟨_,rfl,iteF ?_⟩⟩
    refine⟨_,rfl,_,rfl,(by show 2≤sizeLine; decide),fun p1 n1=>?_⟩
    have s1:=Same.new (o:=.tup [pV (some g),.int (b:Int)]) n1
    have g1:=upd_same (H:=H) (a:=p1) (o:=.tup [pV (some g),.int (b:Int)])
    generalize upd H p1 (.tup [pV (some g),.int (b:Int)])=H1 at s1 g1 ⊢
    refine⟨_,rfl,⟨_,_,_,_,rfl,rfl,SqT.of (s1 _ _ hp),(atI_nat (j:=0) rfl),_,rfl,⟨_,_,_,_,rfl,rfl,SqT.of (s1 _ _ hp),(atI_nat (j:=1) rfl),(by show 2≤sizeLine; decide),fun p2 n2=>?_⟩⟩⟩
    have s2:=Same.new (o:=.tup [.int t.1,.int t.2.1]) n2
    have g2:=upd_same (H:=H1) (a:=p2) (o:=.tup [.int t.1,.int t.2.1])
    generalize upd H1 p2 (.tup [.int t.1,.int t.2.1])=H2 at s2 g2 ⊢
    exact⟨p1,p2,[g,(b:Int)],[t.1,t.2.1],rfl,rfl,SqT.of (s2 _ _ g1),SqT.of g2,q H2 (s1.trans s2)⟩
  | cons hx hr0 =>
   rename_i x0 t0 us0 ts0
   have e:decide ((0:Int) < ((x0::us0).length:Int))=true:=decide_eq_true (by rw[zX]; omega)
   rw[e]
   exact iteT (q H (Same.refl _))
theorem sc_may:FnScope ["self","station","event"] ["self","station","event"] (defScope (inClass (top 17) 9)):=⟨rfl,rfl,rfl,by decide +kernel,rfl,by decide +kernel,by decide +kernel⟩
theorem ok_may {f:Addr} {fd:FuncData} {tkD:Tok} (F:Fun K "may_take" "Own.may_take" (inClass (top 17) 9) f fd) (T:Txt K mg) (g_DOOR:mg "DOOR"=some (.int (-1) tkD)) (oc:OwC K C) (cc:CsOk K cs) (G_lets:MethAt P w K mg base 1 C "lets" ["self","belt","event"] (spLets cs C)):FnOk P w K mg base CX0 2 f fd ["self","station","event"] (spMay cs C):=by
 have nd:=sc_may.nd
 refine F.ok sc_may (fun vs H Q E h=>?_) (fun cdv A outer s H vs Q E hr h=>?_)
 ·obtain⟨o,M,s,A,v,t,r,rfl,_⟩:=h
  rfl
 ·obtain⟨o,M,s,A,v,t,r,rfl,hc,ok,is,hs,l100,ht,q⟩:=h
  have ct:=cc.st r.k
  refine⟨_,(@pss_one _ _ _ (@ps_ret _ _ _ _ (pe_callB (call_allB rfl) (by rfl) T.n_all bt_all (@pa_cons _ _ _ _ _ (pe_comp (own:=["belt"]) (fr:=["self","event"]) (js:=[0,2]) (by and_intros) (pi_tupK (K:=K) rfl (pe_fldK (K:=K) rfl (@pe_ix _ _ _ _ _ _ _ (ix_listK (K:=K) rfl) (pe_fldK (K:=K) rfl (pv 0) rfl) (pv 1) (fun _ _=>rfl)) rfl)) (fun _ _ _ _=>(pg_name (i:=0) (show List.Nodup (["belt","self","event"]:List Str) from by decide +kernel) rfl (by nofun))) (fun _ _ _ _=>(pts_one (pt_cmpR op_ne (pv 0) (pe_glob (v:=.int (-1)) (by rfl) (by exact g_DOOR) ⟨_,rfl⟩) (nomark _)))) (fun _ _ _ _=>(pe_mth G_lets (hr.mono (by decide)) (pv 1) (@pa_cons _ _ _ _ _ (pv 0) (@pa_cons _ _ _ _ _ (pv 2) pa_nil (by rfl)) (by rfl))))) pa_nil (by rfl))))),?_⟩
  refine⟨_,rfl,o.x,C,o.dx,o.flds,_,rfl,hc.get 0 0 rfl rfl,oc.cl,oc.n1,f_stas,_,rfl,⟨_,_,_,_,rfl,rfl,SqL.of (hc.get 0 1 rfl rfl),atI_nat (srefs_at hs),r.x,cs.of r.k,r.dx,r.flds,_,rfl,st_x hc hs,ct.cl,ct.nW,r.flds_ways,r.p1,rfl,⟨_,SqT.of (st_p1 hc hs)⟩,fun D nD=>?_⟩⟩
  refine comp_tup (a:=r.p1) (xs:=r.ws.map V.int) (fun i H5=>Same H H5∧H5 D=some (.lst ((((r.ws.take i).filter fun w=>!(w == -1)).map fun w=>A.lets t w.toNat).map V.bl))) ⟨Same.new nD,upd_same⟩ (fun i H5 _ p=>SqT.of (p.1 _ _ (st_p1 hc hs))) ?_ ?_
  ·rintro i x H5 m Wf hx ⟨s5,g5⟩ nx
   obtain⟨wy,rfl,hwy⟩:=ints_get hx
   have hi:=(zC.mp hwy).1
   have lf:((r.ws.take i).filter fun w=>!(w == -1)).length≤100:=by
    refine z9 (qF _ _) ?_
    rw[yA]; omega
   refine⟨_,rfl,rfl,_,rfl,?_⟩
   rw[dec_int]
   by_cases e:wy=-1
   ·rw[show(!(wy == -1))=false by simpa using e]
    refine iteF (nx _ ⟨s5,?_⟩)
    rw[take_1 hwy,zN,yB (by simpa using e),yL,zP]
    exact g5
   ·rw[show(!(wy == -1))=true by simpa using e]
    have hw:=ok.ways r (zE hs) wy (zE hwy)
    obtain⟨b,hb⟩:∃ b:Nat,wy=(b:Int):=⟨wy.toNat,by omega⟩
    subst hb
    refine iteT ⟨_,rfl,o.x,o.dx,o.flds,rfl,s5 _ _ (hc.get 0 0 rfl rfl),f_m (by decide +kernel),_,rfl,_,rfl,o,M,b,A,v,t,rfl,hc.same s5,ok,is.tk (Tk.of s5),(by omega),ht.same s5,fun H6 s6=>?_⟩
    refine⟨_,s6 _ _ g5,small1000 (by rw[zD,zD]; omega),nx _ ⟨(s5.trans s6).upd nD,?_⟩⟩
    rw[upd_same,take_1 hwy,zN,z6 (by simpa using e),yL,zL,zL]
    rfl
  ·rintro H5 ⟨s5,g5⟩
   rw[zD,yD] at g5
   refine⟨D,_,rfl,SqL.of g5,?_⟩
   have:=q H5 s5
   unfold OA.may at this
   rw[List.all_map]
   exact this
end
end Oc
namespace Oc
open PySem L2
def OA.new (A:OA) (now:Option Int) (b:Nat):Option Int:=now.map fun n=>n + A.dl.getD b 0
def OA.stays (A:OA) (now:Option Int) (b:Nat):Bool:=match A.pr.getD b none with
 | none=>true
 | some p=>match A.new now b with
  | none=>false
  | some n=>decide (n≤p)
def OA.rp1 (A:OA) (now:Option Int) (b:Nat):OA × Bool:=if A.stays now b=true then (A,false) else ({ A with pr:=A.pr.set b (A.new now b) },true)
def OA.rps (A:OA) (now:Option Int) (bs:List Int):OA × Bool:=bs.foldl (fun p b=>((p.1.rp1 now b.toNat).1,p.2 || (p.1.rp1 now b.toNat).2)) (A,false)
def OA.ear (A:OA) (w:Int):List Tri→Option Int
 | t::_=>some t.1
 | []=>if w=-1 then none else A.pr.getD w.toNat none
def OA.clk (A:OA) (s:Nat) (ws:List Int):Option Int:=(ws.filterMap fun w=>A.ear w (evAt A.de A.re s w)).min?
theorem OIs.clk {H:Hp} {o:OR} {A:OA} (h:OIs H o A) (s:Nat) (r:SR):o.clk A.de A.re s r=A.clk s r.ws:=by
 unfold OR.clk OA.clk
 congr 1
 refine congrFun (congrArg _ (funext fun w=>?_)) _
 cases evAt A.de A.re s w with
 | nil=>unfold OR.ear OA.ear; rw[h.p]
 | cons t ts=>rfl
structure OTo (cs:Cs) (C:Addr) (M:List (List Cell)) (H H':Hp) (o o':OR) (A':OA):Prop where
 x:o'.x=o.x
 s:o'.srs=o.srs
 d:o'.dels=o.dels
 hc:Hc H' (ownCs cs C o'++M)
 ok:OOk o'
 is:OIs H' o' A'
 tk:Tk H H'
inductive spRp (cs:Cs) (C:Addr) (vs:List V) (H:Hp) (Q:VK) (x_3:XK):Prop where
 | mk (o:OR) (M:List (List Cell)) (b:Nat) (A:OA) (now:Option Int) (h_0:vs=[.ref o.x,.int (b:Int),pV now]) (h_1:Hc H (ownCs cs C o++M)) (h_2:OOk o) (h_3:OIs H o A) (h_4:b < o.dels.length) (h_5:∀(o':OR) (H':Hp),OTo cs C M H H' o o' (A.rp1 now b).1→Q (.bl (A.rp1 now b).2) H'):spRp cs C vs H Q x_3
inductive spRps (cs:Cs) (C:Addr) (vs:List V) (H:Hp) (Q:VK) (x_3:XK):Prop where
 | mk (o:OR) (M:List (List Cell)) (s:Nat) (A:OA) (r:SR) (h_0:vs=[.ref o.x,.int (s:Int)]) (h_1:Hc H (ownCs cs C o++M)) (h_2:OOk o) (h_3:OIs H o A) (h_4:o.srs[s]?=some r) (h_5:r.ws.length≤100) (h_6:∀(o':OR) (H':Hp),OTo cs C M H H' o o' (A.rps (A.clk s r.ws) r.bs).1→Q (.bl (A.rps (A.clk s r.ws) r.bs).2) H'):spRps cs C vs H Q x_3
theorem ixN_at {n i:Nat} (h:i < n):ixN n (i:Int)=some i:=by
 unfold ixN
 simp
 omega
theorem OOk.pr {o:OR} (ok:OOk o) (p:List (Option Int)) (h:p.length=o.pr.length):OOk { o with pr:=p }:=⟨ok.ld,ok.ldv,ok.lr,ok.lrv,h.trans ok.lp,ok.lg,ok.lgv,ok.s8,ok.b12,ok.ways,ok.belts⟩
theorem Evs.pr {H:Hp} {o:OR} {de re ge:List (List Tri)} (e:Evs H o de re ge) (p:List (Option Int)):Evs H { o with pr:=p } de re ge:=⟨e.d,e.r,e.g⟩
section
variable {P:Program} {w:World} {K:PySem.W.Frag} {mg:Str→Option Value} {base:Heap} {cs:Cs} {C:Addr}
theorem sc_rp:FnScope ["self","belt","now","old","new"] ["self","belt","now"] (defScope (inClass (top 17) 13)):=⟨rfl,rfl,rfl,by decide +kernel,rfl,by decide +kernel,by decide +kernel⟩
theorem ok_rp {f:Addr} {fd:FuncData} (F:Fun K "raise_promise" "Own.raise_promise" (inClass (top 17) 13) f fd) (oc:OwC K C):FnOk P w K mg base CX0 1 f fd ["self","belt","now"] (spRp cs C):=by
 have nd:=sc_rp.nd
 refine F.ok sc_rp (fun vs H Q E h=>?_) (fun cdv A outer s H vs Q E hr h=>?_)
 ·obtain⟨o,M,b,A,now,rfl,_⟩:=h
  rfl
 ·obtain⟨o,M,b,A,now,rfl,hc,ok,is,hb,q⟩:=h
  have lp:=ok.lp
  obtain⟨g,hg⟩:∃ g,o.pr[b]?=some g:=⟨o.pr[b]'(by omega),zB _⟩
  obtain⟨d,hd⟩:∃ d,o.dels[b]?=some d:=⟨o.dels[b]'(by omega),zB _⟩
  have eg:A.pr.getD b none=g:=by rw[← is.p,zA,hg]; rfl
  have ed:A.dl.getD b 0=d:=by rw[← is.d,zA,hd]; rfl
  have same:A.stays now b=true→Q (.bl false) H:=fun e=>by
   have h0:=q o H
   unfold OA.rp1 at h0
   rw[if_pos e] at h0
   exact h0 ⟨rfl,rfl,rfl,hc,ok,is,Tk.refl _⟩
  have go:A.stays now b=false→Q (.bl true) (upd H o.pl (.lst ((o.pr.map pV).set b (pV (A.new now b))))):=fun e=>by
   have h0:=q { o with pr:=o.pr.set b (A.new now b) } (upd H o.pl (.lst ((o.pr.map pV).set b (pV (A.new now b)))))
   unfold OA.rp1 at h0
   rw[if_neg (by rw[e]; decide)] at h0
   have hp:=hc.put 0 5 rfl rfl (.lst ((o.pr.map pV).set b (pV (A.new now b))))
   have tk:Tk H (upd H o.pl (.lst ((o.pr.map pV).set b (pV (A.new now b))))):=(Tk.refl H).put (hc.get 0 5 rfl rfl) (fun z=>z)
   refine h0 ⟨rfl,rfl,rfl,?_,ok.pr _ z4,⟨is.s,is.d,by show o.pr.set b _=A.pr.set b _; rw[is.p],(is.e.tk tk).pr _⟩,tk⟩
   rw[← jE] at hp ⊢
   exact hp
  unfold OA.stays OA.new at same
  unfold OA.stays at go
  rw[eg] at same go
  refine⟨_,(@pss_cons _ _ _ _ _ (ps_set (i:=3) nd rfl (by nofun) (@pe_ix _ _ _ _ _ _ _ (ix_listK (K:=K) rfl) (pe_fldK (K:=K) rfl (pv 0) rfl) (pv 1) (fun _ _=>rfl)))
   (@pss_cons _ _ _ _ _ (ps_set (i:=4) nd rfl (by nofun) (pe_ifExp (pt_cmpR op_isN (pv 2) pe_non (nomark _)) pe_non (pe_op op_add (pv 2) (@pe_ix _ _ _ _ _ _ _ (ix_listK (K:=K) rfl) (pe_fldK (K:=K) rfl (pv 0) rfl) (pv 1) (fun _ _=>rfl)))))
   (@pss_cons _ _ _ _ _ (ps_if ((pw_or (pt_cmpR op_isN (pv 3) pe_non (nomark _)) (pw_or1 ((pw_and (pt_cmpR op_notN (pv 4) pe_non (nomark _)) (pw_and1 (pt_cmpR op_le (pv 4) (pv 3) (nomark _))))).pt))).pt (@pss_one _ _ _ (@ps_ret _ _ _ _ pe_bl)) pss_nil)
   (@pss_cons _ _ _ _ _ (ps_asg (pv 4) (pg_sub (pe_fldK (K:=K) rfl (pv 0) rfl) (pv 1) set_list))
   (@pss_one _ _ _ (@ps_ret _ _ _ _ pe_bl)))))),?_⟩
  refine⟨_,rfl,o.x,C,o.dx,o.flds,_,rfl,hc.get 0 0 rfl rfl,oc.cl,oc.n5,f_prom,_,rfl,⟨_,_,_,_,rfl,rfl,SqL.of (hc.get 0 5 rfl rfl),atI_nat (by rw[zF,hg]; rfl),?_⟩⟩
  cases now with
  | none =>
   refine⟨_,rfl,rfl,_,rfl,iteT ?_⟩
   cases g with
   | none=>exact⟨_,rfl,rfl,_,rfl,iteT (iteT (same rfl))⟩
   | some p =>
    refine⟨_,rfl,rfl,_,rfl,iteF ⟨_,rfl,rfl,_,rfl,iteF (iteF ?_)⟩⟩
    exact⟨_,rfl,_,rfl,o.x,C,o.dx,o.flds,_,rfl,hc.get 0 0 rfl rfl,oc.cl,oc.n5,f_prom,_,rfl,o.pl,_,_,b,rfl,rfl,hc.get 0 5 rfl rfl,ixN_at (by rw[zD]; omega),go rfl⟩
  | some n =>
   refine⟨_,rfl,rfl,_,rfl,iteF ?_⟩
   refine⟨_,rfl,_,rfl,o.x,C,o.dx,o.flds,_,rfl,hc.get 0 0 rfl rfl,oc.cl,oc.n2,f_dels,_,rfl,⟨_,_,_,_,rfl,rfl,SqL.of (hc.get 0 2 rfl rfl),atI_nat (by rw[zF,hd]; rfl),_,_,rfl,rfl,?_⟩⟩
   have en:A.new (some n) b=some (n + d):=by unfold OA.new; rw[ed]; rfl
   cases g with
   | none=>exact⟨_,rfl,rfl,_,rfl,iteT (iteT (same rfl))⟩
   | some p =>
    refine⟨_,rfl,rfl,_,rfl,iteF ⟨_,rfl,rfl,_,rfl,iteT ⟨_,rfl,_,rfl,_,_,rfl,rfl,_,rfl,?_⟩⟩⟩
    rw[en] at go
    by_cases hle:n + d≤p
    ·rw[decide_eq_true hle]
     refine iteT (same ?_)
     rw[ed]
     exact decide_eq_true hle
    ·rw[decide_eq_false hle]
     refine iteF ?_
     exact⟨_,rfl,_,rfl,o.x,C,o.dx,o.flds,_,rfl,hc.get 0 0 rfl rfl,oc.cl,oc.n5,f_prom,_,rfl,o.pl,_,_,b,rfl,rfl,hc.get 0 5 rfl rfl,ixN_at (by rw[zD]; omega),go (decide_eq_false hle)⟩
theorem sc_rps:FnScope ["self","station","now","raised","belt"] ["self","station"] (defScope (inClass (top 17) 12)):=⟨rfl,rfl,rfl,by decide +kernel,rfl,by decide +kernel,by decide +kernel⟩
theorem ok_rps {f:Addr} {fd:FuncData} (F:Fun K "raise_promises" "Own.raise_promises" (inClass (top 17) 12) f fd) (oc:OwC K C) (cc:CsOk K cs) (G_clock:MethAt P w K mg base 3 C "clock" ["self","station"] (spClk cs C)) (G_raise_promise:MethAt P w K mg base 1 C "raise_promise" ["self","belt","now"] (spRp cs C)):FnOk P w K mg base CX0 4 f fd ["self","station"] (spRps cs C):=by
 have nd:=sc_rps.nd
 refine F.ok sc_rps (fun vs H Q E h=>?_) (fun cdv A outer s H vs Q E hr h=>?_)
 ·obtain⟨o,M,s,A,r,rfl,_⟩:=h
  rfl
 ·obtain⟨o,M,s,A,r,rfl,hc,ok,is,hs,l100,q⟩:=h
  have ct:=cc.st r.k
  refine⟨_,(@pss_cons _ _ _ _ _ (ps_set (i:=2) nd rfl (by nofun) (pe_mth G_clock (hr.mono (by decide)) (pv 0) (@pa_cons _ _ _ _ _ (pv 1) pa_nil (by rfl))))
   (@pss_cons _ _ _ _ _ (ps_set (i:=3) nd rfl (by nofun) pe_bl)
   (@pss_cons _ _ _ _ _ (ps_for PassesOwn.never rfl (pi_tupK (K:=K) rfl (pe_fldK (K:=K) rfl (@pe_ix _ _ _ _ _ _ _ (ix_listK (K:=K) rfl) (pe_fldK (K:=K) rfl (pv 0) rfl) (pv 1) (fun _ _=>rfl)) rfl)) (pg_name (i:=4) nd rfl (by nofun)) (@pss_one _ _ _ (ps_if (pt_val (pe_mth G_raise_promise (hr.mono (by decide)) (pv 0) (@pa_cons _ _ _ _ _ (pv 4) (@pa_cons _ _ _ _ _ (pv 2) pa_nil (by rfl)) (by rfl)))) (@pss_one _ _ _ (ps_set (i:=3) nd rfl (by nofun) pe_bl)) pss_nil)))
   (@pss_one _ _ _ (@ps_ret _ _ _ _ (pv 3)))))),?_⟩
  refine⟨_,rfl,o.x,o.dx,o.flds,rfl,hc.get 0 0 rfl rfl,f_m (by decide +kernel),_,rfl,o,M,s,r,A.de,A.re,A.ge,rfl,hc,ok,hs,l100,is.e,fun H1 s1=>?_⟩
  rw[is.clk]
  generalize A.clk s r.ws=now at q ⊢
  have hc1:=hc.same s1
  have is1:=is.tk (Tk.of s1)
  refine⟨_,rfl,o.x,C,o.dx,o.flds,_,rfl,hc1.get 0 0 rfl rfl,oc.cl,oc.n1,f_stas,_,rfl,⟨_,_,_,_,rfl,rfl,SqL.of (hc1.get 0 1 rfl rfl),atI_nat (srefs_at hs),r.x,cs.of r.k,r.dx,r.flds,_,rfl,st_x hc1 hs,ct.cl,ct.nB,r.flds_belts,r.p2,rfl,⟨_,SqT.of (st_p2 hc1 hs)⟩,?_⟩⟩
  refine for_tup (K:=K) (a:=r.p2) (xs:=r.bs.map V.int) (fun i σ H5=>∃(o':OR) (v4:Option V),σ=[some (.ref o.x),some (.int (s:Int)),some (pV now),some (.bl (A.rps now (r.bs.take i)).2),v4]∧OTo cs C M H H5 o o' (A.rps now (r.bs.take i)).1)
   ⟨o,none,rfl,rfl,rfl,rfl,hc1,ok,is1,Tk.of s1⟩ (fun i σ H5 _ ⟨o',_,_,t⟩=>SqT.of (st_p2 (o:=o') t.hc (by rw[t.s]; exact hs))) ?_ ?_
  ·rintro i x σ H5 hx ⟨o',v4,rfl,t⟩
   obtain⟨b,rfl,hb⟩:=ints_get hx
   obtain⟨b0,b1⟩:=ok.belts r (zE hs) b (zE hb)
   obtain⟨bn,rfl⟩:∃ bn:Nat,b=(bn:Int):=⟨b.toNat,by omega⟩
   have e1:A.rps now (r.bs.take (i + 1))=(((A.rps now (r.bs.take i)).1.rp1 now bn).1,(A.rps now (r.bs.take i)).2 || ((A.rps now (r.bs.take i)).1.rp1 now bn).2):=by
    unfold OA.rps
    rw[take_1 hb,jI]
    rfl
   have hgx:=t.hc.get 0 0 rfl rfl
   rw[t.x] at hgx
   refine⟨_,rfl,o.x,o'.dx,o'.flds,rfl,hgx,f_m (by decide +kernel),_,rfl,_,rfl,o',M,bn,(A.rps now (r.bs.take i)).1,now,(by rw[t.x]; rfl),t.hc,t.ok,t.is,(by rw[t.d]; omega),fun o2 H6 t2=>⟨_,rfl,?_⟩⟩
   have t3:OTo cs C M H H6 o o2 (A.rps now (r.bs.take (i + 1))).1:=by
    rw[e1]
    exact⟨t2.x.trans t.x,t2.s.trans t.s,t2.d.trans t.d,t2.hc,t2.ok,t2.is,t.tk.trans t2.tk⟩
   rw[e1] at t3
   cases eb:((A.rps now (r.bs.take i)).1.rp1 now bn).2 with
   | true =>
    refine iteT ⟨o2,some (.int (bn:Int)),?_,by rw[e1]; exact t3⟩
    rw[e1,eb,Bool.or_true]
    rfl
   | false =>
    refine iteF ⟨o2,some (.int (bn:Int)),?_,by rw[e1]; exact t3⟩
    rw[e1,eb,Bool.or_false]
    rfl
  ·rintro σ H5 ⟨o',v4,rfl,t⟩
   rw[zD,yD] at t ⊢
   exact⟨_,rfl,q o' H5 t⟩
end
end Oc
namespace Oc
open PySem L2
def OA.pop (A:OA) (s:Nat) (w:Int):OA:=if w=-1 then { A with de:=A.de.set s (A.de.getD s []).tail } else { A with re:=A.re.set w.toNat (A.re.getD w.toNat []).tail }
def OA.log (A:OA) (s:Nat) (t:Tri):OA:={ A with ge:=A.ge.set s (A.ge.getD s []++[t]) }
def OA.lay (A:OA) (b:Nat) (t:Tri):OA:={ A with re:=A.re.set b (A.re.getD b []++[t]) }
def OA.sta (A:OA) (s:Nat) (p:SP):OA:={ A with srs:=A.srs.set s p }
def OA.put (A:OA) (t:Tri):Option (Int × Int)→OA
 | none=>A
 | some p=>A.lay p.1.toNat (t.1 + A.dl.getD p.1.toNat 0,p.1,p.2)
def OA.take (A:OA) (s:Nat) (p:SP) (t:Tri):OA:=OA.put (((A.pop s t.2.1).log s t).sta s (p.nxt (p.ws.idxOf t.2.1) t.2.2)) t (p.out (p.ws.idxOf t.2.1) t.2.2)
structure OTs (cs:Cs) (C:Addr) (M:List (List Cell)) (H H':Hp) (o o':OR) (A':OA):Prop where
 x:o'.x=o.x
 d:o'.dels=o.dels
 hc:Hc H' (ownCs cs C o'++M)
 ok:OOk o'
 is:OIs H' o' A'
 tk:Tk H H'
theorem paired_tail {α β:Type} {F:α→β→Prop} {l:List α} {m:List β} (h:Paired F l m):Paired F (l.eraseIdx 0) m.tail:=by
 cases h with
 | nil=>exact .nil
 | cons _ r=>exact r
section
variable {cs:Cs} {C:Addr} {M:List (List Cell)} {H:Hp} {o:OR} {A:OA}
theorem OOk.dv (ok:OOk o) (p:List (List V)) (h:p.length=o.dv.length):OOk { o with dv:=p }:=⟨ok.ld,h.trans ok.ldv,ok.lr,ok.lrv,ok.lp,ok.lg,ok.lgv,ok.s8,ok.b12,ok.ways,ok.belts⟩
theorem OOk.rv (ok:OOk o) (p:List (List V)) (h:p.length=o.rv.length):OOk { o with rv:=p }:=⟨ok.ld,ok.ldv,ok.lr,h.trans ok.lrv,ok.lp,ok.lg,ok.lgv,ok.s8,ok.b12,ok.ways,ok.belts⟩
theorem OOk.gv (ok:OOk o) (p:List (List V)) (h:p.length=o.gv.length):OOk { o with gv:=p }:=⟨ok.ld,ok.ldv,ok.lr,ok.lrv,ok.lp,ok.lg,h.trans ok.lgv,ok.s8,ok.b12,ok.ways,ok.belts⟩
theorem pop_to (hc:Hc H (ownCs cs C o++M)) (ok:OOk o) (is:OIs H o A) {s:Nat} {w:Int} {us:List V} {a:Addr} (hat:o.at s w=some us) (ha:o.atA s w=some a):∃ o1,OTo cs C M H (upd H a (.lst (us.eraseIdx 0))) o o1 (A.pop s w):=by
 unfold OR.at at hat
 unfold OR.atA at ha
 unfold OA.pop
 by_cases e:w=-1
 ·rw[if_pos e] at hat ha ⊢
  have hput:=hc.put 1 s rfl (li_cell ha hat) (.lst (us.eraseIdx 0))
  have tk:Tk H (upd H a (.lst (us.eraseIdx 0))):=(Tk.refl H).put (hc.get 1 s rfl (li_cell ha hat)) (fun z=>z)
  rw[liC_set ha] at hput
  obtain⟨ts,hts,pt⟩:=is.e.d.gt hat
  have ev:=is.e.tk tk
  refine⟨{ o with dv:=o.dv.set s (us.eraseIdx 0) },rfl,rfl,rfl,hput,ok.dv _ z4,⟨is.s,is.d,is.p,?_,ev.r,ev.g⟩,tk⟩
  rw[zA,hts]
  exact paired_set ev.d (paired_tail (pairedMono (fun _ _ h=>h.tk tk) pt))
 ·rw[if_neg e] at hat ha ⊢
  have hput:=hc.put 2 w.toNat rfl (li_cell ha hat) (.lst (us.eraseIdx 0))
  have tk:Tk H (upd H a (.lst (us.eraseIdx 0))):=(Tk.refl H).put (hc.get 2 w.toNat rfl (li_cell ha hat)) (fun z=>z)
  rw[liC_set ha] at hput
  obtain⟨ts,hts,pt⟩:=is.e.r.gt hat
  have ev:=is.e.tk tk
  refine⟨{ o with rv:=o.rv.set w.toNat (us.eraseIdx 0) },rfl,rfl,rfl,hput,ok.rv _ z4,⟨is.s,is.d,is.p,ev.d,?_,ev.g⟩,tk⟩
  rw[zA,hts]
  exact paired_set ev.r (paired_tail (pairedMono (fun _ _ h=>h.tk tk) pt))
theorem log_to (hc:Hc H (ownCs cs C o++M)) (ok:OOk o) (is:OIs H o A) {s:Nat} {gs:List V} {a:Addr} {v:V} {t:Tri} (hg:o.gv[s]?=some gs) (ha:o.ga[s]?=some a) (ht:IsTri H v t):∃ o1,OTo cs C M H (upd H a (.lst (gs++[v]))) o o1 (A.log s t):=by
 have hput:=hc.put 3 s rfl (li_cell ha hg) (.lst (gs++[v]))
 have tk:Tk H (upd H a (.lst (gs++[v]))):=(Tk.refl H).put (hc.get 3 s rfl (li_cell ha hg)) (fun z=>z)
 rw[liC_set ha] at hput
 obtain⟨ts,hts,pt⟩:=is.e.g.gt hg
 have ev:=is.e.tk tk
 refine⟨{ o with gv:=o.gv.set s (gs++[v]) },rfl,rfl,rfl,hput,ok.gv _ z4,⟨is.s,is.d,is.p,ev.d,ev.r,?_⟩,tk⟩
 show Paired _ (o.gv.set s (gs++[v])) (A.ge.set s (A.ge.getD s []++[t]))
 rw[zA,hts]
 exact paired_set ev.g (paired_app (pairedMono (fun _ _ h=>h.tk tk) pt) (.cons (ht.tk tk) .nil))
theorem lay_to (hc:Hc H (ownCs cs C o++M)) (ok:OOk o) (is:OIs H o A) {b:Nat} {us:List V} {a:Addr} {v:V} {t:Tri} (hg:o.rv[b]?=some us) (ha:o.ra[b]?=some a) (ht:IsTri H v t):∃ o1,OTo cs C M H (upd H a (.lst (us++[v]))) o o1 (A.lay b t):=by
 have hput:=hc.put 2 b rfl (li_cell ha hg) (.lst (us++[v]))
 have tk:Tk H (upd H a (.lst (us++[v]))):=(Tk.refl H).put (hc.get 2 b rfl (li_cell ha hg)) (fun z=>z)
 rw[liC_set ha] at hput
 obtain⟨ts,hts,pt⟩:=is.e.r.gt hg
 have ev:=is.e.tk tk
 refine⟨{ o with rv:=o.rv.set b (us++[v]) },rfl,rfl,rfl,hput,ok.rv _ z4,⟨is.s,is.d,is.p,ev.d,?_,ev.g⟩,tk⟩
 show Paired _ (o.rv.set b (us++[v])) (A.re.set b (A.re.getD b []++[t]))
 rw[zA,hts]
 exact paired_set ev.r (paired_app (pairedMono (fun _ _ h=>h.tk tk) pt) (.cons (ht.tk tk) .nil))
theorem sta_to {H':Hp} {ft:List Cell} {s:Nat} {r r':SR} {X Y:List SR} (ok:OOk o) (is:OIs H o A) (hs:o.srs[s]?=some r) (eXY:o.srs=X++r::Y) (lX:X.length=s) (hx:r'.x=r.x) (hw:r'.ws=r.ws) (hb:r'.bs=r.bs)
  (hc:Hc H' (ft::srC cs r'::(stC cs X++stC cs Y)::hdC C o::liC o.da o.dv::liC o.ra o.rv::liC o.ga o.gv::M)) (tk:Tk H H'):OTs cs C (ft::M) H H' o { o with srs:=o.srs.set s r' } (A.sta s r'.pu):=by
 have eset:o.srs.set s r'=X++r'::Y:=by rw[eXY,← lX]; exact set_cut
 have erefs:srefs (o.srs.set s r')=srefs o.srs:=map_set_same hs (by rw[hx])
 refine⟨rfl,rfl,?_,⟨?_,?_,ok.lr,ok.lrv,ok.lp,?_,?_,?_,ok.b12,?_,?_⟩,⟨?_,is.d,is.p,(is.e.tk tk).d,(is.e.tk tk).r,(is.e.tk tk).g⟩,tk⟩
 ·have h1:Hc H' (srC cs r'::(stC cs X++stC cs Y)::hdC C o::liC o.da o.dv::liC o.ra o.rv::liC o.ga o.gv::ft::M):=by
   have h0:=hc.tl
   have h2:Hc H' (srC cs r'::(stC cs X++stC cs Y)::ft::hdC C o::liC o.da o.dv::liC o.ra o.rv::liC o.ga o.gv::M):=(hc.pick 2 rfl).pick 2 rfl
   have h3:Hc H' (liC o.ga o.gv::srC cs r'::(stC cs X++stC cs Y)::ft::hdC C o::liC o.da o.dv::liC o.ra o.rv::M):=h2.pick 6 rfl
   have h4:Hc H' (liC o.ra o.rv::liC o.ga o.gv::srC cs r'::(stC cs X++stC cs Y)::ft::hdC C o::liC o.da o.dv::M):=h3.pick 6 rfl
   have h5:Hc H' (liC o.da o.dv::liC o.ra o.rv::liC o.ga o.gv::srC cs r'::(stC cs X++stC cs Y)::ft::hdC C o::M):=h4.pick 6 rfl
   have h6:Hc H' (hdC C o::liC o.da o.dv::liC o.ra o.rv::liC o.ga o.gv::srC cs r'::(stC cs X++stC cs Y)::ft::M):=h5.pick 6 rfl
   exact(h6.pick 5 rfl).pick 5 rfl
  have h2:=st_back h1
  have eh:hdC C { o with srs:=o.srs.set s r' }=hdC C o:=by
   show [(_,_),(_,HO.lst (srefs (o.srs.set s r'))),_,_,_,_,_]=_
   rw[erefs]
   rfl
  show Hc H' (hdC C { o with srs:=o.srs.set s r' }::liC o.da o.dv::liC o.ra o.rv::liC o.ga o.gv::stC cs (o.srs.set s r')::ft::M)
  rw[eh,eset]
  have h3:Hc H' (liC o.ga o.gv::stC cs (X++r'::Y)::hdC C o::liC o.da o.dv::liC o.ra o.rv::ft::M):=h2.pick 4 rfl
  have h4:Hc H' (liC o.ra o.rv::liC o.ga o.gv::stC cs (X++r'::Y)::hdC C o::liC o.da o.dv::ft::M):=h3.pick 4 rfl
  have h5:Hc H' (liC o.da o.dv::liC o.ra o.rv::liC o.ga o.gv::stC cs (X++r'::Y)::hdC C o::ft::M):=h4.pick 4 rfl
  exact h5.pick 4 rfl
 ·show o.da.length=(o.srs.set s r').length; rw[z4]; exact ok.ld
 ·show o.dv.length=(o.srs.set s r').length; rw[z4]; exact ok.ldv
 ·show o.ga.length=(o.srs.set s r').length; rw[z4]; exact ok.lg
 ·show o.gv.length=(o.srs.set s r').length; rw[z4]; exact ok.lgv
 ·show(o.srs.set s r').length≤8; rw[z4]; exact ok.s8
 ·exact all_set ok.ways (by rw[hw]; exact ok.ways r (zE hs))
 ·exact all_set ok.belts (by rw[hb]; exact ok.belts r (zE hs))
 ·show(o.srs.set s r').map SR.pu=A.srs.set s r'.pu; rw[jE,is.s]
end
inductive spTE (cs:Cs) (C:Addr) (vs:List V) (H:Hp) (Q:VK) (x_3:XK):Prop where
 | mk (o:OR) (M:List (List Cell)) (s m:Nat) (A:OA) (v:V) (t:Tri) (r:SR) (h_0:vs=[.ref o.x,.int (s:Int),v]) (h_1:Hc H (ownCs cs C o++M)) (h_2:OOk o) (h_3:OIs H o A) (h_4:o.srs[s]?=some r) (h_5:(∀ q ∈ o.srs,SOk m q)) (h_6:m≤90000) (h_7:IsTri H v t) (h_8:t.2.1 ∈ r.ws) (h_9:evAt A.de A.re s t.2.1 ≠ []) (h_10:(∀ row ∈ A.re,row.length≤m)) (h_11:(∀ row ∈ A.ge,row.length≤m)) (h_12:∀(o':OR) (H':Hp),OTs cs C M H H' o o' (A.take s r.pu t)→(∀ q ∈ o'.srs,SOk (m + 1) q)→Q .non H'):spTE cs C vs H Q x_3
end Oc
namespace Oc
open PySem L2
theorem tl_nil {α:Type} {F:V→α→Prop} {us:List V} {ts:List α} (h:Paired F us ts) (n:ts ≠ []):∃ y,us[0]?=some y:=by
 cases h with
 | nil=>exact absurd rfl n
 | cons _ _=>exact⟨_,rfl⟩
section
variable {P:Program} {w:World} {K:PySem.W.Frag} {mg:Str→Option Value} {base:Heap} {cs:Cs} {C:Addr}
theorem sc_te:FnScope ["self","station","event","put","belt"] ["self","station","event"] (defScope (inClass (top 17) 11)):=⟨rfl,rfl,rfl,by decide +kernel,rfl,by decide +kernel,by decide +kernel⟩
theorem ok_te {f:Addr} {fd:FuncData} (F:Fun K "take_event" "Own.take_event" (inClass (top 17) 11) f fd) (T:Txt K mg) (oc:OwC K C) (cc:CsOk K cs) (G_row:MethAt P w K mg base 1 C "row" ["self","station","way"] (spRow cs C)) (G_take:∀ k,MethAt P w K mg base 2 (cs.of k) "take" ["self","way","piece"] (spTk cs k)):FnOk P w K mg base CX0 3 f fd ["self","station","event"] (spTE cs C):=by
 have nd:=sc_te.nd
 refine F.ok sc_te (fun vs H Q E h=>?_) (fun cdv A outer s H vs Q E hr h=>?_)
 ·obtain⟨o,M,s,m,A,v,t,r,rfl,_⟩:=h
  rfl
 ·obtain⟨o,M,s,m,A,v,t,r,rfl,hc,ok,is,hs,so,m9,ht,hw,hne,lr,lg,q⟩:=h
  obtain⟨p,rfl,hp⟩:=ht
  obtain⟨a1,us,hat⟩:=at_ok ok hs hw
  have pe:=ev_of is.e hat
  obtain⟨y,hy⟩:=tl_nil pe hne
  refine⟨_,(@pss_cons _ _ _ _ _ (ps_expr (pe_bm PySem.F.plainAttrs_list PySem.F.slot_list_pop PySem.F.type_list_pop mt_popAt (pe_mth G_row (hr.mono (by decide)) (pv 0) (@pa_cons _ _ _ _ _ (pv 1) (@pa_cons _ _ _ _ _ (@pe_ix _ _ _ _ _ _ _ (ix_tupK (K:=K) rfl) (pv 2) pe_int (fun _ _=>rfl)) pa_nil (by rfl)) (by rfl))) (@pa_cons _ _ _ _ _ pe_int pa_nil (by rfl))))
   (@pss_cons _ _ _ _ _ (ps_expr (pe_bm PySem.F.plainAttrs_list PySem.F.slot_list_append PySem.F.type_list_append mt_append (@pe_ix _ _ _ _ _ _ _ (ix_listK (K:=K) rfl) (pe_fldK (K:=K) rfl (pv 0) rfl) (pv 1) (fun _ _=>rfl)) (@pa_cons _ _ _ _ _ (pv 2) pa_nil (by rfl))))
   (@pss_cons _ _ _ _ _ (ps_set (i:=3) nd rfl (by nofun) (pe_mthU (cls:=cs.of) (sp:=spTk cs) G_take (hr.mono (by decide)) (@pe_ix _ _ _ _ _ _ _ (ix_listK (K:=K) rfl) (pe_fldK (K:=K) rfl (pv 0) rfl) (pv 1) (fun _ _=>rfl)) (@pa_cons _ _ _ _ _ (@pe_ix _ _ _ _ _ _ _ (ix_tupK (K:=K) rfl) (pv 2) pe_int (fun _ _=>rfl)) (@pa_cons _ _ _ _ _ (@pe_ix _ _ _ _ _ _ _ (ix_tupK (K:=K) rfl) (pv 2) pe_int (fun _ _=>rfl)) pa_nil (by rfl)) (by rfl))))
   (@pss_one _ _ _ (ps_if (pt_cmpR op_notN (pv 3) pe_non (nomark _)) (@pss_cons _ _ _ _ _ (ps_set (i:=4) nd rfl (by nofun) (@pe_ix _ _ _ _ _ _ _ (ix_tupK (K:=K) rfl) (pv 3) pe_int (fun _ _=>rfl)))
   (@pss_one _ _ _ (ps_expr (pe_bm PySem.F.plainAttrs_list PySem.F.slot_list_append PySem.F.type_list_append mt_append (@pe_ix _ _ _ _ _ _ _ (ix_listK (K:=K) rfl) (pe_fldK (K:=K) rfl (pv 0) rfl) (pv 4) (fun _ _=>rfl)) (@pa_cons _ _ _ _ _ (@pe_tup _ _ _ _ _ (@pa_cons _ _ _ _ _ (pe_op op_add (@pe_ix _ _ _ _ _ _ _ (ix_tupK (K:=K) rfl) (pv 2) pe_int (fun _ _=>rfl)) (@pe_ix _ _ _ _ _ _ _ (ix_listK (K:=K) rfl) (pe_fldK (K:=K) rfl (pv 0) rfl) (pv 4) (fun _ _=>rfl))) (@pa_cons _ _ _ _ _ (pv 4) (@pa_cons _ _ _ _ _ (@pe_ix _ _ _ _ _ _ _ (ix_tupK (K:=K) rfl) (pv 3) pe_int (fun _ _=>rfl)) pa_nil (by rfl)) (by rfl)) (by rfl))) pa_nil (by rfl)))))) pss_nil))))),?_⟩
  refine⟨_,rfl,o.x,o.dx,o.flds,rfl,hc.get 0 0 rfl rfl,f_m (by decide +kernel),_,rfl,_,rfl,⟨_,_,_,_,rfl,rfl,SqT.of hp,atI_nat (j:=1) rfl,o,M,s,t.2.1,us,rfl,hc,ok,a1,hat,fun a ha hl=>⟨tyL hl,a,us,0,0,y,rfl,rfl,hl,by decide,by decide,seqIndex_of (k:=0) (by decide) (by have:=(zC.mp hy).1; omega),hy,?_⟩⟩⟩
  obtain⟨o1,t1⟩:=pop_to hc ok is hat ha
  generalize upd H a (.lst (us.eraseIdx 0))=H1 at t1 ⊢
  have hx1:=t1.hc.get 0 0 rfl rfl
  rw[t1.x] at hx1
  have hp1:=t1.tk.tup hp
  have hs1:o1.srs[s]?=some r:=by rw[t1.s]; exact hs
  have hsl:=(zC.mp hs1).1
  have lgv:=t1.ok.lgv
  obtain⟨gs,hgs⟩:∃ gs,o1.gv[s]?=some gs:=⟨o1.gv[s]'(by omega),zB _⟩
  obtain⟨ga,hga,hgl⟩:=t1.ok.log t1.hc hgs
  obtain⟨tg,htg,ptg⟩:=t1.is.e.g.gt hgs
  have lgs:gs.length≤90000:=by
   rw[ptg.length]
   have e0:(A.pop s t.2.1).ge=A.ge:=by unfold OA.pop; split <;> rfl
   rw[e0] at htg
   exact z9 (lg _ (zE htg)) m9
  refine⟨_,rfl,o.x,C,o1.dx,o1.flds,_,rfl,hx1,oc.cl,oc.n6,f_logs,_,rfl,⟨_,_,_,_,rfl,rfl,SqL.of (t1.hc.get 0 6 rfl rfl),atI_nat (refs_at hga),tyL hgl,_,rfl,ga,gs,_,rfl,rfl,hgl,smallM (by omega),?_⟩⟩
  obtain⟨o2,t2⟩:=log_to t1.hc t1.ok t1.is hgs hga (v:=.ref p) (t:=t) ⟨p,rfl,hp1⟩
  generalize upd H1 ga (.lst (gs++[.ref p]))=H2 at t2 ⊢
  have ex2:o2.x=o.x:=t2.x.trans t1.x
  have hx2:=t2.hc.get 0 0 rfl rfl
  rw[ex2] at hx2
  have hs2:o2.srs[s]?=some r:=by rw[t2.s]; exact hs1
  have hp2:=t2.tk.tup hp1
  have T2:=t1.tk.trans t2.tk
  obtain⟨X,Y,eXY,lX⟩:=cut_at hs2
  have hcT:Hc H2 (srC cs r::(stC cs X++stC cs Y)::hdC C o2::liC o2.da o2.dv::liC o2.ra o2.rv::liC o2.ga o2.gv::M):=st_take (by rw[← eXY]; exact t2.hc.pick 4 rfl)
  have hjm:r.ws[r.ws.idxOf t.2.1]?=some t.2.1:=by
   have hlt:r.ws.idxOf t.2.1 < r.ws.length:=kT.mpr hw
   rw[zB hlt,List.getElem_idxOf]
  refine⟨_,rfl,o.x,C,o2.dx,o2.flds,_,rfl,hx2,oc.cl,oc.n1,f_stas,_,rfl,⟨_,_,_,_,rfl,rfl,SqL.of (t2.hc.get 0 1 rfl rfl),atI_nat (srefs_at hs2),r.x,r.k,r.dx,_,rfl,hcT.get 0 0 rfl rfl,r.flds_no (by decide +kernel) (by decide +kernel) (by decide +kernel) (by decide +kernel) (by decide +kernel) (by decide +kernel),_,rfl,⟨_,_,_,_,rfl,rfl,SqT.of hp2,atI_nat (j:=1) rfl,_,rfl,⟨_,_,_,_,rfl,rfl,SqT.of hp2,atI_nat (j:=2) rfl,?_⟩⟩⟩⟩
  refine⟨r,r.ws.idxOf t.2.1,m,t.2.1,t.2.2,_,rfl,rfl,hcT,so r (zE hs),m9,hjm,fun v ft H3 hput hc3 tk3=>?_⟩
  have nx:=r.nxt_x (r.ws.idxOf t.2.1) t.2.2
  have t3:=sta_to t2.ok t2.is hs2 eXY lX nx.1 nx.2.2.1 nx.2.2.2 hc3 tk3
  have npu:=r.nxt_pu (r.ws.idxOf t.2.1) t.2.2
  rw[npu] at t3
  have so3:∀ q ∈ o2.srs.set s (r.nxt (r.ws.idxOf t.2.1) t.2.2),SOk (m + 1) q:=all_set (fun q hq=>(so q (by rw[← t1.s,← t2.s]; exact hq)).le (y3 m)) ((so r (zE hs)).nxt _ _)
  have T3:=T2.trans tk3
  have ew:(A.take s r.pu t)=OA.put (((A.pop s t.2.1).log s t).sta s (r.pu.nxt (r.ws.idxOf t.2.1) t.2.2)) t (r.pu.out (r.ws.idxOf t.2.1) t.2.2):=rfl
  have eo:=r.out_pu (r.ws.idxOf t.2.1) t.2.2
  rw[eo] at hput
  generalize ho:r.pu.out (r.ws.idxOf t.2.1) t.2.2=out at hput ew
  generalize hA3:((A.pop s t.2.1).log s t).sta s (r.pu.nxt (r.ws.idxOf t.2.1) t.2.2)=A3 at t3 ew
  have eA3:A3.dl=A.dl∧∀ row ∈ A3.re,row.length≤m:=by
   rw[← hA3]
   unfold OA.sta OA.log OA.pop
   split
   ·exact⟨rfl,lr⟩
   ·refine⟨rfl,all_set lr ?_⟩
    rw[kH,zA]
    cases e:A.re[t.2.1.toNat]? with
    | none=>exact z5 _
    | some row=>have:=lr row (zE e); show row.length - 1≤m; omega
  rw[ew] at q
  obtain⟨o3,t3,so3⟩:∃ o3,OTs cs C (ft::M) H2 H3 o2 o3 A3∧∀ q ∈ o3.srs,SOk (m + 1) q:=⟨_,t3,so3⟩
  cases hput with
  | no =>
   refine⟨_,rfl,rfl,_,rfl,iteF ?_⟩
   exact q _ H3 ⟨t3.x.trans ex2,t3.d.trans (t2.d.trans t1.d),t3.hc.pick 5 rfl |>.tl,t3.ok,t3.is,T3⟩ so3
  | yes b y' pt =>
   have hpt:=t3.hc.get 5 0 rfl rfl
   have hb:=SP.out_in ho
   obtain⟨b0,b1⟩:=ok.belts r (zE hs) b hb
   obtain⟨bn,rfl⟩:∃ bn:Nat,b=(bn:Int):=⟨b.toNat,by omega⟩
   have hx3:=t3.hc.get 0 0 rfl rfl
   rw[t3.x,ex2] at hx3
   have ed3:=t3.d.trans (t2.d.trans t1.d)
   have hp3:=T3.tup hp
   refine⟨_,rfl,rfl,_,rfl,iteT ⟨_,rfl,⟨_,_,_,_,rfl,rfl,SqT.of hpt,atI_nat (j:=0) rfl,?_⟩⟩⟩
   have hcM:=(t3.hc.pick 5 rfl).tl
   have ok3:=t3.ok
   have is3:=t3.is
   have lrv:=ok3.lrv
   obtain⟨us3,hus3⟩:∃ us,o3.rv[bn]?=some us:=⟨o3.rv[bn]'(by omega),zB _⟩
   obtain⟨ra,hra,hrl⟩:=ok3.belt hcM hus3
   obtain⟨d,hd⟩:∃ d,o3.dels[bn]?=some d:=⟨o3.dels[bn]'(by omega),zB _⟩
   obtain⟨tr,htr,ptr⟩:=is3.e.r.gt hus3
   have lus:us3.length≤90000:=by
    rw[ptr.length]
    exact z9 (eA3.2 _ (zE htr)) m9
   have ed:A3.dl.getD bn 0=d:=by rw[← is3.d,zA,hd]; rfl
   refine⟨_,rfl,o.x,C,o3.dx,o3.flds,_,rfl,hx3,oc.cl,oc.n4,f_rows,_,rfl,⟨_,_,_,_,rfl,rfl,SqL.of (hcM.get 0 4 rfl rfl),atI_nat (refs_at hra),tyL hrl,_,rfl,⟨_,_,_,_,rfl,rfl,SqT.of hp3,atI_nat (j:=0) rfl,_,rfl,o.x,C,o3.dx,o3.flds,_,rfl,hx3,oc.cl,oc.n2,f_dels,_,rfl,⟨_,_,_,_,rfl,rfl,SqL.of (hcM.get 0 2 rfl rfl),atI_nat (by rw[zF,hd]; rfl),_,_,rfl,rfl,_,rfl,_,rfl,⟨_,_,_,_,rfl,rfl,SqT.of hpt,atI_nat (j:=1) rfl,(by show 3≤sizeLine; decide),fun pn nn=>?_⟩⟩⟩⟩⟩
   have s4:=Same.new (o:=.tup (triV (t.1 + d,(bn:Int),y'))) nn
   have g4:=upd_same (H:=H3) (a:=pn) (o:=.tup (triV (t.1 + d,(bn:Int),y')))
   change rAppend _ _ (upd H3 pn (.tup (triV (t.1 + d,(bn:Int),y')))) _
   generalize upd H3 pn (.tup (triV (t.1 + d,(bn:Int),y')))=H4 at s4 g4 ⊢
   refine⟨ra,us3,_,rfl,rfl,s4 _ _ hrl,smallM (by omega),?_⟩
   obtain⟨o5,t5⟩:=lay_to (hcM.same s4) ok3 (is3.tk (Tk.of s4)) hus3 hra (v:=.ref pn) (t:=(t.1 + d,(bn:Int),y')) ⟨pn,rfl,g4⟩
   generalize upd H4 ra (.lst (us3++[.ref pn]))=H5 at t5 ⊢
   have ep:OA.put A3 t (some ((bn:Int),y'))=A3.lay bn (t.1 + d,(bn:Int),y'):=by
    show A3.lay (Int.toNat (bn:Int)) _=_
    rw[zT,ed]
   rw[ep] at q
   exact q o5 H5 ⟨t5.x.trans (t3.x.trans ex2),t5.d.trans ed3,t5.hc,t5.ok,t5.is,T3.trans ((Tk.of s4).trans t5.tk)⟩ (by rw[t5.s]; exact so3)
end
end Oc
namespace Oc
open PySem L2
def OA.tkn (A:OA) (s:Nat) (p:SP):Option Tri:=match A.upc s p.ws with
 | none=>none
 | some t=>if A.may p.ws t=true then some t else none
def OA.aft (A:OA) (s:Nat) (p:SP):OA:=match A.tkn s p with
 | none=>A
 | some t=>A.take s p t
def OA.rsd (A:OA) (s:Nat) (p:SP):OA × Bool:=A.rps (A.clk s p.ws) p.bs
def OA.stp (A:OA) (s:Nat) (p:SP):OA × Str:=(((A.aft s p).rsd s p).1,if (A.tkn s p).isSome=true then "took" else if ((A.aft s p).rsd s p).2=true then "raised" else "none")
structure AOk (m:Nat) (A:OA):Prop where
 d:∀ row ∈ A.de,∀ t ∈ row,t.2.1=-1
 r:∀(j:Nat) row,A.re[j]?=some row→∀ t ∈ row,t.2.1=(j:Int)
 lr:∀ row ∈ A.re,row.length≤m
 lg:∀ row ∈ A.ge,row.length≤m
theorem AOk.le {m n:Nat} {A:OA} (h:AOk m A) (e:m≤n):AOk n A:=⟨h.d,h.r,fun row hr=>z9 (h.lr row hr) e,fun row hr=>z9 (h.lg row hr) e⟩
theorem getD_row {l:List (List Tri)} {i:Nat} {p:List Tri→Prop} (h0:p []) (h:∀ row ∈ l,p row):p (l.getD i []):=by
 rw[zA]
 cases e:l[i]? with
 | none=>exact h0
 | some r=>exact h r (zE e)
theorem AOk.pop {m:Nat} {A:OA} (h:AOk m A) (s:Nat) (w:Int):AOk m (A.pop s w):=by
 unfold OA.pop
 split
 ·refine⟨all_set h.d fun t ht=>?_,h.r,h.lr,h.lg⟩
  exact getD_row (p:=fun row=>∀ t ∈ row,t.2.1=-1) (fun _ z=>absurd z zK) h.d t (qU ht)
 ·refine⟨h.d,fun j row hj t ht=>?_,all_set h.lr ?_,h.lg⟩
  ·by_cases e:w.toNat=j
   ·by_cases hl:j < A.re.length
    ·rw[e,yR hl] at hj
     cases hj
     rw[zA,zB hl] at ht
     exact h.r j _ (zB hl) t (qU ht)
    ·rw[yE (by rw[z4]; omega)] at hj
     cases hj
   ·rw[yY e] at hj
    exact h.r j row hj t ht
  ·have:=getD_row (i:=w.toNat) (p:=fun row=>row.length≤m) (z5 _) h.lr
   rw[kH]
   omega
theorem AOk.log {m:Nat} {A:OA} (h:AOk m A) (s:Nat) (t:Tri):AOk (m + 1) (A.log s t):=by
 have h':=h.le (y3 m)
 refine⟨h'.d,h'.r,h'.lr,all_set h'.lg ?_⟩
 have:=getD_row (i:=s) (p:=fun row=>row.length≤m) (z5 _) h.lg
 rw[zM]
 show _ + 1≤_
 omega
theorem AOk.put {m:Nat} {A:OA} (hr:∀ row ∈ A.re,row.length≤m) (h:AOk (m + 1) A) (t:Tri) (o:Option (Int × Int)) (ho:∀ b y,o=some (b,y)→0≤b):AOk (m + 1) (A.put t o):=by
 cases o with
 | none=>exact h
 | some p =>
  obtain⟨b,y⟩:=p
  have b0:=ho b y rfl
  refine⟨h.d,fun j row hj u hu=>?_,all_set h.lr ?_,h.lg⟩
  ·replace hj:(A.re.set b.toNat (A.re.getD b.toNat []++[(t.1 + A.dl.getD b.toNat 0,b,y)]))[j]?=some row:=hj
   by_cases e:b.toNat=j
   ·by_cases hl:j < A.re.length
    ·rw[e,yR hl] at hj
     cases hj
     rcases zW.mp hu with z|z
     ·rw[zA,zB hl] at z
      exact h.r j _ (zB hl) u z
     ·rw[zG.mp z]
      show b=(j:Int)
      omega
    ·rw[yE (by rw[z4]; omega)] at hj
     cases hj
   ·rw[yY e] at hj
    exact h.r j row hj u hu
  ·have:=getD_row (i:=b.toNat) (p:=fun row=>row.length≤m) (z5 _) hr
   rw[zM]
   show _ + 1≤_
   omega
theorem AOk.take {m:Nat} {A:OA} (h:AOk m A) (s:Nat) (p:SP) (t:Tri) (hb:∀ b ∈ p.bs,0≤b):AOk (m + 1) (A.take s p t):=by
 have h1:=(h.pop s t.2.1)
 have h2:=h1.log s t
 refine AOk.put (A:=((A.pop s t.2.1).log s t).sta s _) h1.lr ⟨h2.d,h2.r,h2.lr,h2.lg⟩ t _ fun b y e=>hb b (SP.out_in e)
theorem rp1_like (A:OA) (now:Option Int) (b:Nat):(A.rp1 now b).1.de=A.de∧(A.rp1 now b).1.re=A.re∧(A.rp1 now b).1.ge=A.ge:=by
 unfold OA.rp1
 split <;> exact⟨rfl,rfl,rfl⟩
theorem rps_like (now:Option Int) (A:OA):∀(bs:List Int) (B:OA) (c:Bool),B.de=A.de∧B.re=A.re∧B.ge=A.ge→(bs.foldl (fun p b=>((p.1.rp1 now b.toNat).1,p.2 || (p.1.rp1 now b.toNat).2)) (B,c)).1.de=A.de∧(bs.foldl (fun p b=>((p.1.rp1 now b.toNat).1,p.2 || (p.1.rp1 now b.toNat).2)) (B,c)).1.re=A.re∧(bs.foldl (fun p b=>((p.1.rp1 now b.toNat).1,p.2 || (p.1.rp1 now b.toNat).2)) (B,c)).1.ge=A.ge
 | [],_,_,h=>h
 | b::bs,B,c,h=>rps_like now A bs _ _ ⟨(rp1_like B now b.toNat).1.trans h.1,(rp1_like B now b.toNat).2.1.trans h.2.1,(rp1_like B now b.toNat).2.2.trans h.2.2⟩
theorem AOk.rsd {m:Nat} {A:OA} (h:AOk m A) (s:Nat) (p:SP):AOk m (A.rsd s p).1:=by
 obtain⟨e1,e2,e3⟩:=rps_like (A.clk s p.ws) A p.bs A false ⟨rfl,rfl,rfl⟩
 exact⟨by show ∀ row ∈ (A.rps _ _).1.de,_; unfold OA.rps; rw[e1]; exact h.d,by show ∀ j row,(A.rps _ _).1.re[j]?=_→_; unfold OA.rps; rw[e2]; exact h.r,by show ∀ row ∈ (A.rps _ _).1.re,_; unfold OA.rps; rw[e2]; exact h.lr,by show ∀ row ∈ (A.rps _ _).1.ge,_; unfold OA.rps; rw[e3]; exact h.lg⟩
theorem upc_in {m:Nat} {A:OA} (h:AOk m A) {s:Nat} {ws:List Int} (hw:∀ w ∈ ws,w=-1∨0≤w) {t:Tri} (e:A.upc s ws=some t):t.2.1 ∈ ws∧evAt A.de A.re s t.2.1 ≠ []:=by
 have hm:=zE e
 unfold OA.hds at hm
 obtain⟨w,hw1,hh⟩:=yP.mp hm
 have hin:t ∈ evAt A.de A.re s w:=jW hh
 have ew:t.2.1=w:=by
  unfold evAt at hin
  split at hin
  ·rename_i z
   rw[z]
   exact getD_row (p:=fun row=>∀ t ∈ row,t.2.1=-1) (fun _ z=>absurd z zK) h.d t hin
  ·rename_i z
   have w0:=(hw w hw1).resolve_left z
   rw[zA] at hin
   cases er:A.re[w.toNat]? with
   | none=>rw[er] at hin; exact absurd hin zK
   | some row =>
    rw[er] at hin
    have:=h.r w.toNat row er t hin
    omega
 rw[ew]
 exact⟨hw1,List.ne_nil_of_mem hin⟩
def TkP (P:Addr) (H H':Hp):Prop:=∀ b u,H b=some u→ImmO u→b ≠ P→H' b=some u
theorem TkP.tk {P:Addr} {H H1 H2:Hp} (a:TkP P H H1) (b:Tk H1 H2):TkP P H H2:=fun c u e i n=>b c u (a c u e i n) i
theorem TkP.of {P:Addr} {H H1:Hp} (k:Keep [P] H H1):TkP P H H1:=fun b u e _ n=>k b u e (by rw[zG]; exact n)
theorem _root_.L2.LamT.tkm {P:Addr} {q:Str} {ln cl:Nat} {H H':Hp} (h:LamT P q ln cl H) (k:Tk H H'):LamT P q ln cl H':=by
 rcases h with h|⟨c',h1,h2⟩
 ·exact .inl (k _ _ h trivial)
 ·exact .inr ⟨c',k _ _ h1 trivial,k _ _ h2 trivial⟩
theorem noT_own {cs:Cs} {C:Addr} {o:OR} {M:List (List Cell)} (n:NoT M):NoT (ownCs cs C o++M):=by
 refine NoT.cons (fun x hx=>?_) (NoT.cons noT_rows (NoT.cons noT_rows (NoT.cons noT_rows (NoT.cons (noT_st cs o.srs) n))))
 simp only [hdC,zS,zK,or_false] at hx
 rcases hx with e|e|e|e|e|e|e <;> rw[e] <;> exact fun _ z=>nomatch z
theorem _root_.L2.Hc.keepP {P:Addr} {q:Str} {ln cl:Nat} {H H':Hp} {Ms:List (List Cell)} (h:Hc H Ms) (n:NoT Ms) (hT:LamT P q ln cl H) (k:Keep [P] H H'):Hc H' Ms:=⟨h.1,fun c hc=>k _ _ (h.2 c hc) (by rw[zG]; exact hT.ne (h.2 c hc) (n c hc))⟩
theorem OIs.kp {P:Addr} {q:Str} {ln cl:Nat} {H H':Hp} {o:OR} {A:OA} (hT:LamT P q ln cl H) (k:Keep [P] H H') (h:OIs H o A):OIs H' o A :=
 ⟨h.s,h.d,h.p,pairedMono (fun _ _ h=>pairedMono (fun _ _ h=>Keep.tri k hT h) h) h.e.d,pairedMono (fun _ _ h=>pairedMono (fun _ _ h=>Keep.tri k hT h) h) h.e.r,pairedMono (fun _ _ h=>pairedMono (fun _ _ h=>Keep.tri k hT h) h) h.e.g⟩
structure OSt (cs:Cs) (C Pu:Addr) (M:List (List Cell)) (m:Nat) (H H':Hp) (o o':OR) (A':OA):Prop where
 x:o'.x=o.x
 d:o'.dels=o.dels
 l:o'.srs.length=o.srs.length
 hc:Hc H' (ownCs cs C o'++M)
 ok:OOk o'
 is:OIs H' o' A'
 so:∀ q ∈ o'.srs,SOk (m + 1) q
 ao:AOk (m + 1) A'
 up:UpT Pu H'
 tk:TkP Pu H H'
inductive spStep (cs:Cs) (C Pu:Addr) (vs:List V) (H:Hp) (Q:VK) (x_3:XK):Prop where
 | mk (o:OR) (M:List (List Cell)) (s m:Nat) (A:OA) (r:SR) (h_0:vs=[.ref o.x,.int (s:Int)]) (h_1:Hc H (ownCs cs C o++M)) (h_2:NoT M) (h_3:OOk o) (h_4:OIs H o A) (h_5:o.srs[s]?=some r) (h_6:(∀ q ∈ o.srs,SOk m q)) (h_7:m≤90000) (h_8:AOk m A) (h_9:UpT Pu H) (h_10:∀(o':OR) (H':Hp),OSt cs C Pu M m H H' o o' (A.stp s r.pu).1→Q (.str (A.stp s r.pu).2) H'):spStep cs C Pu vs H Q x_3
theorem take_len (A:OA) (s:Nat) (p:SP) (t:Tri):(A.take s p t).srs=A.srs.set s (p.nxt (p.ws.idxOf t.2.1) t.2.2):=by
 unfold OA.take
 have e:∀(B:OA) (o:Option (Int × Int)),(B.put t o).srs=B.srs:=fun B o=>by cases o <;> rfl
 rw[e]
 show(OA.pop A s t.2.1).srs.set s _=_
 have e2:(OA.pop A s t.2.1).srs=A.srs:=by unfold OA.pop; split <;> rfl
 rw[e2]
section
variable {P:Program} {w:World} {K:PySem.W.Frag} {mg:Str→Option Value} {base:Heap} {cs:Cs} {C:Addr}
theorem sc_step:FnScope ["self","station","event","took","raised"] ["self","station"] (defScope (inClass (top 17) 5)):=⟨rfl,rfl,rfl,by decide +kernel,rfl,by decide +kernel,by decide +kernel⟩
theorem ok_step {f Pu:Addr} {fd:FuncData} (F:Fun K "step" "Own.step" (inClass (top 17) 5) f fd) (G_upcoming:MethAt P w K mg base 2 C "upcoming" ["self","station"] (spUpc cs C Pu)) (G_may_take:MethAt P w K mg base 2 C "may_take" ["self","station","event"] (spMay cs C)) (G_take_event:MethAt P w K mg base 3 C "take_event" ["self","station","event"] (spTE cs C)) (G_raise_promises:MethAt P w K mg base 4 C "raise_promises" ["self","station"] (spRps cs C)):FnOk P w K mg base CX0 5 f fd ["self","station"] (spStep cs C Pu):=by
 have nd:=sc_step.nd
 refine F.ok sc_step (fun vs H Q E h=>?_) (fun cdv A outer s H vs Q E hr h=>?_)
 ·obtain⟨o,M,s,m,A,r,rfl,_⟩:=h
  rfl
 ·obtain⟨o,M,s,m,A,r,rfl,hc,nT,ok,is,hs,so,m9,ao,hT,q⟩:=h
  have l100:=(so r (zE hs)).l1
  have wok:∀ w ∈ r.ws,w=-1∨0≤w:=fun w hw=>(ok.ways r (zE hs) w hw).imp id And.left
  have bok:∀ b ∈ r.bs,0≤b:=fun b hb=>(ok.belts r (zE hs) b hb).1
  refine⟨_,(@pss_cons _ _ _ _ _ (ps_set (i:=2) nd rfl (by nofun) (pe_mth G_upcoming (hr.mono (by decide)) (pv 0) (@pa_cons _ _ _ _ _ (pv 1) pa_nil (by rfl))))
   (@pss_cons _ _ _ _ _ (ps_set (i:=3) nd rfl (by nofun) (pe_and (pe_cmpR op_notN (pv 2) pe_non (nomark _)) (pe_one (pe_mth G_may_take (hr.mono (by decide)) (pv 0) (@pa_cons _ _ _ _ _ (pv 1) (@pa_cons _ _ _ _ _ (pv 2) pa_nil (by rfl)) (by rfl))))))
   (@pss_cons _ _ _ _ _ (ps_if (pt_val (pv 3)) (@pss_one _ _ _ (ps_expr (pe_mth G_take_event (hr.mono (by decide)) (pv 0) (@pa_cons _ _ _ _ _ (pv 1) (@pa_cons _ _ _ _ _ (pv 2) pa_nil (by rfl)) (by rfl))))) pss_nil)
   (@pss_cons _ _ _ _ _ (ps_set (i:=4) nd rfl (by nofun) (pe_mth G_raise_promises (hr.mono (by decide)) (pv 0) (@pa_cons _ _ _ _ _ (pv 1) pa_nil (by rfl))))
   (@pss_cons _ _ _ _ _ (ps_if (pt_val (pv 3)) (@pss_one _ _ _ (@ps_ret _ _ _ _ pe_str)) pss_nil)
   (@pss_one _ _ _ (@ps_ret _ _ _ _ (pe_ifExp (pt_val (pv 4)) pe_str pe_str)))))))),?_⟩
  refine⟨_,rfl,o.x,o.dx,o.flds,rfl,hc.get 0 0 rfl rfl,f_m (by decide +kernel),_,rfl,o,M,s,A,r,rfl,hc,ok,is,hs,l100,hT,fun v H1 kp hT1 hv=>?_⟩
  have hc1:=hc.keepP (noT_own nT) hT kp
  have is1:=is.kp hT kp
  have k1:TkP Pu H H1:=TkP.of kp
  have hx1:=hc1.get 0 0 rfl rfl
  have fin0:A.tkn s r.pu=none→∀(o':OR) (H':Hp),OTo cs C M H1 H' o o' (A.rps (A.clk s r.ws) r.bs).1→Q (.str (if (A.rps (A.clk s r.ws) r.bs).2=true then "raised" else "none")) H':=fun e o' H' t=>by
   have ea:A.aft s r.pu=A:=by unfold OA.aft; rw[e]
   have h0:=q o' H'
   unfold OA.stp at h0
   rw[ea,e] at h0
   exact h0 ⟨t.x,t.d,by rw[t.s],t.hc,t.ok,t.is,by rw[t.s]; exact fun q hq=>(so q hq).le (y3 m),(ao.rsd s r.pu).le (y3 m),hT1.tkm t.tk,k1.tk t.tk⟩
  cases hu:A.upc s r.ws with
  | none =>
   rw[hu] at hv
   replace hv:v=.non:=hv
   subst hv
   have e0:A.tkn s r.pu=none:=by unfold OA.tkn; rw[show r.pu.ws=r.ws from rfl,hu]
   refine⟨_,rfl,rfl,⟨_,rfl,iteF ?_⟩⟩
   refine⟨_,rfl,_,rfl,iteF ?_⟩
   refine⟨_,rfl,o.x,o.dx,o.flds,rfl,hx1,f_m (by decide +kernel),_,rfl,o,M,s,A,r,rfl,hc1,ok,is1,hs,l100,fun o' H' t=>?_⟩
   refine⟨_,rfl,_,rfl,iteF ⟨_,rfl,_,rfl,?_⟩⟩
   have:=fin0 e0 o' H' t
   cases eb:(A.rps (A.clk s r.ws) r.bs).2 with
   | true=>rw[eb] at this; exact iteT this
   | false=>rw[eb] at this; exact iteF this
  | some t =>
   rw[hu] at hv
   replace hv:IsTri H1 v t:=hv
   obtain⟨hw,hne⟩:=upc_in ao wok hu
   obtain⟨p,rfl,hp⟩:=hv
   refine⟨_,rfl,rfl,⟨_,rfl,iteT ?_⟩⟩
   refine⟨_,rfl,o.x,o.dx,o.flds,rfl,hx1,f_m (by decide +kernel),_,rfl,_,rfl,o,M,s,A,.ref p,t,r,rfl,hc1,ok,is1,hs,l100,⟨p,rfl,hp⟩,fun H2 s2=>?_⟩
   have hc2:=hc1.same s2
   have is2:=is1.tk (Tk.of s2)
   have hx2:=hc2.get 0 0 rfl rfl
   cases hm:A.may r.ws t with
   | false =>
    have e0:A.tkn s r.pu=none:=by unfold OA.tkn; rw[show r.pu.ws=r.ws from rfl,hu]; show(if A.may r.ws t=true then _ else _)=_; rw[hm]; rfl
    refine⟨_,rfl,_,rfl,iteF ?_⟩
    refine⟨_,rfl,o.x,o.dx,o.flds,rfl,hx2,f_m (by decide +kernel),_,rfl,o,M,s,A,r,rfl,hc2,ok,is2,hs,l100,fun o' H' t=>?_⟩
    refine⟨_,rfl,_,rfl,iteF ⟨_,rfl,_,rfl,?_⟩⟩
    have:=fin0 e0 o' H' ⟨t.x,t.s,t.d,t.hc,t.ok,t.is,(Tk.of s2).trans t.tk⟩
    cases eb:(A.rps (A.clk s r.ws) r.bs).2 with
    | true=>rw[eb] at this; exact iteT this
    | false=>rw[eb] at this; exact iteF this
   | true =>
    have e0:A.tkn s r.pu=some t:=by unfold OA.tkn; rw[show r.pu.ws=r.ws from rfl,hu]; show(if A.may r.ws t=true then _ else _)=_; rw[hm]; rfl
    have ea:A.aft s r.pu=A.take s r.pu t:=by unfold OA.aft; rw[e0]
    refine⟨_,rfl,_,rfl,iteT ?_⟩
    refine⟨_,rfl,o.x,o.dx,o.flds,rfl,hx2,f_m (by decide +kernel),_,rfl,_,rfl,o,M,s,m,A,.ref p,t,r,rfl,hc2,ok,is2,hs,so,m9,⟨p,rfl,s2 _ _ hp⟩,hw,hne,ao.lr,ao.lg,fun o1 H3 t1 so1=>?_⟩
    have ls1:o1.srs.length=o.srs.length:=by
     have e1:=congrArg List.length t1.is.s
     have e2:=congrArg List.length is.s
     rw[zD] at e1 e2
     rw[e1,e2,take_len,z4]
    have hsl:=(zC.mp hs).1
    obtain⟨r1,hr1⟩:∃ r1,o1.srs[s]?=some r1:=⟨o1.srs[s]'(by omega),zB _⟩
    have er1:r1.pu=r.pu.nxt (r.pu.ws.idxOf t.2.1) t.2.2:=by
     have e1:(o1.srs.map SR.pu)[s]?=some r1.pu:=by rw[zF,hr1]; rfl
     rw[t1.is.s,take_len,yR (by rw[← is.s,zD]; exact hsl)] at e1
     exact(Option.some.inj e1).symm
    have ew:r1.ws=r.ws:=by
     have:=congrArg SP.ws er1
     rw[SP.nxt_ws] at this
     exact this
    have eb1:r1.bs=r.bs:=by
     have:=congrArg SP.bs er1
     rw[SP.nxt_bs] at this
     exact this
    have hx3:=t1.hc.get 0 0 rfl rfl
    rw[t1.x] at hx3
    refine⟨_,rfl,o.x,o1.dx,o1.flds,rfl,hx3,f_m (by decide +kernel),_,rfl,o1,M,s,A.take s r.pu t,r1,(by rw[t1.x]; rfl),t1.hc,t1.ok,t1.is,hr1,(by rw[ew]; exact l100),fun o' H' t2=>?_⟩
    rw[ew,eb1] at t2
    refine⟨_,rfl,_,rfl,iteT ?_⟩
    have h0:=q o' H'
    unfold OA.stp at h0
    rw[ea,e0] at h0
    refine h0 ⟨t2.x.trans t1.x,t2.d.trans t1.d,by rw[t2.s]; exact ls1,t2.hc,t2.ok,t2.is,by rw[t2.s]; exact so1,((ao.take s r.pu t bok).rsd s r.pu),hT1.tkm ((Tk.of s2).trans (t1.tk.trans t2.tk)),k1.tk ((Tk.of s2).trans (t1.tk.trans t2.tk))⟩
end
end Oc
namespace Oc
open PySem L2
theorem dt_tris {K:PySem.W.Frag} {H:Hp} {p:Addr} {us:List V} {ts:List Tri} (h:H p=some (.lst us)) (r:Paired (IsTri H) us ts):Dt K H 2 (.ref p) (.list (ts.map triD)):=.lst (SqL.of h) (DtAll.of (f:=triD) (P:=IsTri H) (fun _ _ h=>h.dt) r)
end Oc
namespace Oc
open PySem L2
def Sk (H H':Hp):Prop:=∀ b u,H b=some u→(∀ ps,u ≠ HO.tbl ps)→H' b=some u
def noTbl:HO→Bool
 | .tbl _=>false
 | _=>true
theorem LsAt.sk {H H':Hp} (k:Sk H H') {s b f:Addr} {W:Wk} {xs ys zs:List V} (h2:LsAt H s b f W xs ys zs):LsAt H' s b f W xs ys zs:=by
 refine⟨k _ _ h2.hs (fun _ z=>nomatch z),k _ _ h2.hb (fun _ z=>nomatch z),k _ _ h2.hf (fun _ z=>nomatch z),pairedMono (fun _ _ h=>?_) h2.ps,pairedMono (fun _ _ h=>?_) h2.pb,pairedMono (fun _ _ h=>?_) h2.pf⟩
 all_goals
  obtain⟨q,e,r⟩:=h
  exact⟨q,e,k _ _ r (fun _ z=>nomatch z)⟩
theorem script_in {K:PySem.W.Frag} {H:Hp} {a:Addr} {xs:List V} (h:SqL K H a xs):∃ cs:List Cell,(∀ c ∈ cs,H c.1=some c.2)∧(∀ c ∈ cs,noTbl c.2=true)∧∀ H':Hp,(∀ c ∈ cs,H' c.1=some c.2)→SqL K H' a xs:=by
 rcases h with (h|⟨o,h⟩)|h
 ·exact⟨[(a,.lst xs)],fun c hc=>by rw[zG.mp hc]; exact h,fun c hc=>by rw[zG.mp hc]; rfl,fun H' h'=>.inl (.inl (h' _ zH))⟩
 ·exact⟨[(a,.frz o (.lst xs))],fun c hc=>by rw[zG.mp hc]; exact h,fun c hc=>by rw[zG.mp hc]; rfl,fun H' h'=>.inl (.inr ⟨o,h' _ zH⟩)⟩
 ·exact⟨[],fun c hc=>(by cases hc),fun c hc=>(by cases hc),fun H' _=>.inr h⟩
theorem base_in {K:PySem.W.Frag} {H:Hp} {w a:Addr} {W:Wk} {vs:List V} (h1:WkAt H w W) (h2:SqL K H a vs):∃(M:List (List Cell)) (s b f:Addr) (xs ys zs:List V),Hc H M∧NoT M∧∀ H',Hc H' M→H' w=some (.tup [.ref s,.ref b,.ref f])∧LsAt H' s b f W xs ys zs∧SqL K H' a vs:=by
 obtain⟨c1,s,b,f,xs,ys,zs,k1,e1⟩:=h1.cells2
 obtain⟨c2,k2,n2,e2⟩:=script_in h2
 have k1':Hs H c1:=by have k:Hs H [c1].flatten:=k1; rw[qC] at k; exact k
 obtain⟨L,l1,l2⟩:=cells_dedup (H:=H) (L:=c1++c2) fun c hc=>by
  rcases zW.mp hc with q|q
  ·exact k1'.2 c q
  ·exact k2 c q
 refine⟨[L.filter fun c=>noTbl c.2],s,b,f,xs,ys,zs,?_,fun c hc ps e=>?_,fun H' hc=>?_⟩
 ·show Hs H [L.filter fun c=>noTbl c.2].flatten
  rw[qC]
  exact l1.sub List.filter_sublist
 ·rw[qC] at hc
  have:=(zV.mp hc).2
  rw[e] at this
  cases this
 ·have hc':Hs H' (L.filter fun c=>noTbl c.2):=by have k:Hs H' [L.filter fun c=>noTbl c.2].flatten:=hc; rw[qC] at k; exact k
  obtain⟨w1,w2⟩:=e1 (fun a=>if a ∈ L.map Prod.fst then H a else none) fun c hc1=>by
   have hm:=l2 c (yV _ hc1)
   show(if c.1 ∈ L.map Prod.fst then H c.1 else none)=_
   rw[if_pos (jY hm)]
   exact l1.2 c hm
  have sk:Sk (fun a=>if a ∈ L.map Prod.fst then H a else none) H':=fun b u e n=>by
   have e':(if b ∈ L.map Prod.fst then H b else none)=some u:=e
   split at e'
   ·rename_i hb
    obtain⟨d,hd,ed⟩:=yC.mp hb
    have hd2:=l1.2 d hd
    rw[ed,e'] at hd2
    have:d=(b,u):=Prod.ext ed (Option.some.inj hd2).symm
    subst this
    refine hc'.2 (b,u) (zV.mpr ⟨hd,?_⟩)
    show noTbl u=true
    cases u <;> first|rfl|exact absurd rfl (n _)
   ·cases e'
  exact⟨sk _ _ w1 (fun _ z=>nomatch z),w2.sk sk,e2 H' fun c hc2=>hc'.2 c (zV.mpr ⟨l2 c (zR _ hc2),n2 c hc2⟩)⟩
def Wk.sp (W:Wk) (s:Nat):SP:=⟨kdOf (W.st.getD s ("",none)),W.wy s,W.lv s,0,if kdOf (W.st.getD s ("",none))=.joiner then (W.wy s).map (fun _=>[]) else []⟩
theorem Made.pu {W:Wk} {s:Nat} {r:SR} (m:Made W s r):r.pu=W.sp s:=by
 obtain⟨st,h1,h2⟩:=m.k
 have e:W.st.getD s ("",none)=st:=by rw[zA,h1]; rfl
 unfold SR.pu Wk.sp
 rw[e,← h2,m.ws,m.bs,m.seen,m.rows]
def sp0:SP:=⟨.sink,[],[],0,[]⟩
def Wk.oa (W:Wk):OA:=⟨(List.range W.st.length).map W.sp,W.dels,W.prs,W.des,W.be.map fun _=>[],W.st.map fun _=>[]⟩
def OA.step (A:OA) (s:Nat):OA × Str:=A.stp s (A.srs.getD s sp0)
theorem new_is {H:Hp} {W:Wk} {o:OR} (n:ONew W o) (ev:Evs H o W.des (W.be.map fun _=>[]) (W.st.map fun _=>[])):OIs H o W.oa:=by
 refine⟨?_,n.dels,n.pr,ev⟩
 refine qT fun i=>?_
 show(o.srs.map SR.pu)[i]?=((List.range W.st.length).map W.sp)[i]?
 rw[zF,zF]
 cases e:o.srs[i]? with
 | none =>
  have hl:=qY.mp e
  rw[yE (by rw[yZ,← n.ns]; exact hl)]
  rfl
 | some r =>
  have hl:=(zC.mp e).1
  rw[yX (by rw[← n.ns]; exact hl)]
  show some r.pu=some (W.sp i)
  rw[(n.srs i r e).pu]
theorem new_so {W:Wk} {o:OR} (n:ONew W o):∀ q ∈ o.srs,SOk 0 q:=fun q hq=>by
 obtain⟨i,hi⟩:=yN hq
 exact(n.srs i q hi).ok
theorem new_ao (W:Wk):AOk 0 W.oa:=by
 refine⟨fun row hr t ht=>?_,fun j row hj t ht=>?_,fun row hr=>?_,fun row hr=>?_⟩
 ·obtain⟨s,_,rfl⟩:=yC.mp hr
  unfold Wk.de at ht
  obtain⟨p,_,rfl⟩:=yC.mp ht
  rfl
 ·obtain⟨_,_,rfl⟩:=yC.mp (zE hj)
  exact absurd ht zK
 ·obtain⟨_,_,rfl⟩:=yC.mp hr
  exact zI _
 ·obtain⟨_,_,rfl⟩:=yC.mp hr
  exact zI _
end Oc
namespace Oc
open PySem L2
structure OwnF (W:Wk) (m:Nat) (H:Hp) (o:OR) (A:OA):Prop where
 ok:OOk o
 is:OIs H o A
 so:∀ q ∈ o.srs,SOk m q
 ao:AOk m A
 ns:W.st.length=o.srs.length
 nb:W.be.length=o.dels.length
theorem IsTri.tkp {Pu:Addr} {H H':Hp} (k:TkP Pu H H') (hu:UpT Pu H) {x:V} {t:Tri} (h:IsTri H x t):IsTri H' x t:=by
 obtain⟨p,e,hp⟩:=h
 exact⟨p,e,k _ _ hp trivial (hu.ne hp fun _ z=>nomatch z)⟩
theorem IsTri.kpd {Pd p C dx:Addr} {fs:List (Str × V)} {H H':Hp} (k:Kp Pd p H H') (hp:H p=some (.ins C dx fs)) {x:V} {t:Tri} (h:IsTri H x t):IsTri H' x t:=by
 obtain⟨q,e,hq⟩:=h
 exact⟨q,e,k.tup hp hq⟩
theorem OIs.via {H H':Hp} {o:OR} {A:OA} (f:∀ x t,IsTri H x t→IsTri H' x t) (h:OIs H o A):OIs H' o A :=
 ⟨h.s,h.d,h.p,pairedMono (fun _ _ h=>pairedMono (fun _ _ h=>f _ _ h) h) h.e.d,pairedMono (fun _ _ h=>pairedMono (fun _ _ h=>f _ _ h) h) h.e.r,pairedMono (fun _ _ h=>pairedMono (fun _ _ h=>f _ _ h) h) h.e.g⟩
theorem OwnF.via {W:Wk} {m n:Nat} {H H':Hp} {o:OR} {A:OA} (f:∀ x t,IsTri H x t→IsTri H' x t) (e:m≤n) (h:OwnF W m H o A):OwnF W n H' o A:=⟨h.ok,h.is.via f,fun q hq=>(h.so q hq).le e,h.ao.le e,h.ns,h.nb⟩
theorem LamT.tkp {P Pu:Addr} {q:Str} {ln cl:Nat} {H H':Hp} (h:LamT P q ln cl H) (k:TkP Pu H H') (ne:P ≠ Pu) (hu:UpT Pu H):LamT P q ln cl H':=by
 rcases h with h|⟨c',h1,h2⟩
 ·exact .inl (k _ _ h trivial ne)
 ·exact .inr ⟨c',k _ _ h1 trivial ne,k _ _ h2 trivial (hu.ne h2 fun _ z=>nomatch z)⟩
theorem LamT.kpd {P Pd p C dx:Addr} {fs:List (Str × V)} {q:Str} {ln cl:Nat} {H H':Hp} (h:LamT P q ln cl H) (k:Kp Pd p H H') (ne:P ≠ Pd) (hp:H p=some (.ins C dx fs)):LamT P q ln cl H':=by
 rcases h with h|⟨c',h1,h2⟩
 ·exact .inl (k _ _ h (.inr ne) (ne_of h hp fun z=>nomatch z))
 ·exact .inr ⟨c',k _ _ h1 (.inr ne) (ne_of h1 hp fun z=>nomatch z),k _ _ h2 (.inl fun _ z=>nomatch z) (ne_of h2 hp fun z=>nomatch z)⟩
theorem _root_.L2.Hc.drop {H:Hp} {A B:List (List Cell)} (h:Hc H (A++B)):Hc H B:=by
 refine Hs.sub h ?_
 rw[qJ]
 exact kN _ _
theorem new_own {H:Hp} {W:Wk} {o:OR} (n:ONew W o) (ev:Evs H o W.des (W.be.map fun _=>[]) (W.st.map fun _=>[])):OwnF W 0 H o W.oa:=⟨n.ok,new_is n ev,new_so n,new_ao W,n.ns.symm,by rw[n.dels]; exact(zD _).symm⟩
mutual
theorem Dt.same {K:PySem.W.Frag} {H H':Hp} (s:Same H H'):∀ {n:Nat} {x:V} {d:PyData},Dt K H n x d→Dt K H' n x d
 | _,_,_,.non n=>.non n
 | _,_,_,.bl n b=>.bl n b
 | _,_,_,.int n i=>.int n i
 | _,_,_,.str n x h=>.str n x h
 | _,_,_,.lst h r=>.lst (s.seq h) (DtAll.same s r)
 | _,_,_,.tup h r=>.tup (Same.tup s h) (DtAll.same s r)
theorem DtAll.same {K:PySem.W.Frag} {H H':Hp} (s:Same H H'):∀ {n:Nat} {xs:List V} {ds:List PyData},DtAll K H n xs ds→DtAll K H' n xs ds
 | _,_,_,.nil n=>.nil n
 | _,_,_,.cons h r=>.cons (Dt.same s h) (DtAll.same s r)
end
end Oc
namespace Oc
open PySem L2
theorem kLt_iff (a b:Int × Int):kLt a b=true ↔ a.1 < b.1∨(a.1=b.1∧a.2 < b.2):=by
 unfold kLt
 simp only [HT.lexLt]
 split <;> simp_all <;> omega
theorem kLt_irrefl (k:Int × Int):kLt k k=false:=by
 cases e:kLt k k with
 | false=>rfl
 | true=>rw[kLt_iff] at e; omega
theorem kLt_trans {a b c:Int × Int} (h1:kLt a b=true) (h2:kLt b c=true):kLt a c=true:=by
 rw[kLt_iff] at *
 omega
theorem best_min (ks:List (Int × Int)) (n:Nat):∀ m,m≤n→kLt (ks.getD m (0,0)) (ks.getD (argBest (fun i j=>kLt (ks.getD i (0,0)) (ks.getD j (0,0))) n) (0,0))=false:=by
 induction n with
 | zero=>intro m h; rw[Nat.le_zero.mp h]; exact kLt_irrefl _
 | succ n ih =>
  intro m h
  simp only [argBest]
  by_cases e:kLt (ks.getD (n + 1) (0,0)) (ks.getD (argBest (fun i j=>kLt (ks.getD i (0,0)) (ks.getD j (0,0))) n) (0,0))=true
  ·rw[if_pos e]
   by_cases hm:m=n + 1
   ·rw[hm]; exact kLt_irrefl _
   ·cases q:kLt (ks.getD m (0,0)) (ks.getD (n + 1) (0,0)) with
    | false=>rfl
    | true =>
     have:=kLt_trans q e
     rw[ih m (by omega)] at this
     cases this
  ·rw[if_neg e]
   by_cases hm:m=n + 1
   ·rw[hm]; simpa using e
   ·exact ih m (by omega)
def oLe:Option Int→Option Int→Prop
 | _,none=>True
 | none,some _=>False
 | some a,some b=>a≤b
theorem oLe_none (a:Option Int):oLe a none:=by cases a <;> trivial
theorem oLe_refl (a:Option Int):oLe a a:=by
 cases a with
 | none=>trivial
 | some a=>exact qV a
theorem oLe_trans {a b c:Option Int} (h:oLe a b) (k:oLe b c):oLe a c:=by
 cases c with
 | none=>exact oLe_none a
 | some c =>
  cases b with
  | none=>exact k.elim
  | some b =>
   cases a with
   | none=>exact h.elim
   | some a=>exact j7 (show a≤b from h) (show b≤c from k)
def oAdd (a:Option Int) (d:Int):Option Int:=a.map fun n=>n + d
theorem oAdd_le {a b:Option Int} {d:Int} (h:oLe a b):oLe (oAdd a d) (oAdd b d):=by
 cases b with
 | none=>exact oLe_none _
 | some b =>
  cases a with
  | none=>exact h.elim
  | some a=>exact Int.add_le_add_right (show a≤b from h) d
def OA.e (A:OA) (s:Nat) (w:Int):Option Int:=A.ear w (evAt A.de A.re s w)
theorem min_le {f:Int→Option Int} {ws:List Int} {w:Int} (h:w ∈ ws):oLe ((ws.filterMap f).min?) (f w):=by
 cases e:f w with
 | none=>exact oLe_none _
 | some a =>
  have ha:a ∈ ws.filterMap f:=yP.mpr ⟨w,h,e⟩
  cases m:(ws.filterMap f).min? with
  | none=>rw[List.min?_eq_none_iff] at m; rw[m] at ha; exact absurd ha zK
  | some b=>exact(qE.mp m).2 a ha
theorem le_min {f:Int→Option Int} {ws:List Int} {x:Option Int} (h:∀ w ∈ ws,oLe x (f w)):oLe x ((ws.filterMap f).min?):=by
 cases m:(ws.filterMap f).min? with
 | none=>exact oLe_none _
 | some b =>
  obtain⟨w,hw,e⟩:=yP.mp (qE.mp m).1
  have:=h w hw
  rwa [e] at this
theorem clk_le {A:OA} {s:Nat} {ws:List Int} {w:Int} (h:w ∈ ws):oLe (A.clk s ws) (A.e s w):=min_le (f:=A.e s) h
theorem clk_mono {A B:OA} {s:Nat} {ws:List Int} (h:∀ w ∈ ws,oLe (A.e s w) (B.e s w)):oLe (A.clk s ws) (B.clk s ws):=le_min (f:=B.e s) fun w hw=>oLe_trans (clk_le hw) (h w hw)
theorem getD_set' {α:Type} (l:List α) (i j:Nat) (x d:α):(l.set i x).getD j d=if i=j∧j < l.length then x else l.getD j d:=by
 rw[zA,zA,List.getElem?_set]
 by_cases h:i=j
 ·subst h
  by_cases k:i < l.length
  ·rw[if_pos rfl,if_pos k,if_pos ⟨rfl,k⟩]; rfl
  ·rw[if_pos rfl,if_neg k,if_neg (fun z=>k z.2),yE (by omega)]
 ·rw[if_neg h,if_neg (fun z=>h z.1)]
structure Tkn (A:OA) (s:Nat) (ws:List Int) (t:Tri):Prop where
 w:t.2.1 ∈ ws
 hd:(evAt A.de A.re s t.2.1).head?=some t
 min:∀ w ∈ ws,∀ u,(evAt A.de A.re s w).head?=some u→kLt (tkey u) (tkey t)=false
 may:∀ w ∈ ws,w ≠ -1→A.re.getD w.toNat []=[]→∀ g,A.pr.getD w.toNat none=some g→t.1 < g∨(t.1=g∧t.2.1 < (w.toNat:Int))
theorem tkn_is {m:Nat} {A:OA} (h:AOk m A) {s:Nat} {p:SP} (hw:∀ w ∈ p.ws,w=-1∨0≤w) {t:Tri} (e:A.tkn s p=some t):Tkn A s p.ws t:=by
 unfold OA.tkn at e
 cases eu:A.upc s p.ws with
 | none=>rw[eu] at e; cases e
 | some t' =>
  rw[eu] at e
  dsimp only at e
  split at e
  ·rename_i hm
   cases e
   have hx:=zE eu
   unfold OA.hds at hx
   obtain⟨w,hw1,hh⟩:=yP.mp hx
   have hin:t ∈ evAt A.de A.re s w:=jW hh
   have ew:t.2.1=w:=by
    unfold evAt at hin
    split at hin
    ·rename_i z
     rw[z]
     exact getD_row (p:=fun row=>∀ t ∈ row,t.2.1=-1) (fun _ z=>absurd z zK) h.d t hin
    ·rename_i z
     have w0:=(hw w hw1).resolve_left z
     rw[zA] at hin
     cases er:A.re[w.toNat]? with
     | none=>rw[er] at hin; exact absurd hin zK
     | some row =>
      rw[er] at hin
      have:=h.r w.toNat row er t hin
      omega
   refine⟨by rw[ew]; exact hw1,by rw[ew]; exact hh,fun w' hw' u hu=>?_,fun w' hw' n1 em g hg=>?_⟩
   ·have hu2:u ∈ A.hds s p.ws:=yP.mpr ⟨w',hw',hu⟩
    obtain⟨j,hj⟩:=yN hu2
    have lj:=(zC.mp hj).1
    have b:=best_min ((A.hds s p.ws).map tkey) (((A.hds s p.ws).map tkey).length - 1) j (by rw[zD]; omega)
    have e1:((A.hds s p.ws).map tkey).getD j (0,0)=tkey u:=by rw[zA,zF,hj]; rfl
    have e2:((A.hds s p.ws).map tkey).getD (bestK ((A.hds s p.ws).map tkey)) (0,0)=tkey t:=by
     rw[zA,zF]
     unfold OA.upc at eu
     rw[eu]; rfl
    unfold bestK at e2
    rw[e1,e2] at b
    exact b
   ·unfold OA.may at hm
    have:=List.all_eq_true.mp hm w' (zV.mpr ⟨hw',by simp [n1]⟩)
    unfold OA.lets at this
    rw[em,if_pos (show([]:List Tri).isEmpty=true from rfl),hg] at this
    dsimp only at this
    have z:=(kLt_iff (t.1,t.2.1) (g,(w'.toNat:Int))).mp this
    exact z
  ·cases e
theorem Tkn.clk {A:OA} {s:Nat} {ws:List Int} {t:Tri} (h:Tkn A s ws t):A.clk s ws=some t.1:=by
 have h1:oLe (some t.1) (A.clk s ws):=by
  refine le_min (f:=A.e s) fun w hw=>?_
  unfold OA.e
  cases ev:evAt A.de A.re s w with
  | cons u r =>
   have:=h.min w hw u (by rw[ev]; rfl)
   have n:¬ (kLt (tkey u) (tkey t)=true):=by rw[this]; exact zZ
   rw[kLt_iff] at n
   show t.1≤u.1
   unfold tkey at n
   omega
  | nil =>
   show oLe _ (if w=-1 then none else A.pr.getD w.toNat none)
   split
   ·exact oLe_none _
   ·rename_i n1
    cases eg:A.pr.getD w.toNat none with
    | none=>exact oLe_none _
    | some g =>
     have em:A.re.getD w.toNat []=[]:=by unfold evAt at ev; rw[if_neg n1] at ev; exact ev
     have:=h.may w hw n1 em g eg
     show t.1≤g
     omega
 have h2:oLe (A.clk s ws) (some t.1):=by
  have:=clk_le (A:=A) (s:=s) h.w
  unfold OA.e at this
  cases ev:evAt A.de A.re s t.2.1 with
  | nil=>have z:=h.hd; rw[ev] at z; cases z
  | cons u r =>
   have z:=h.hd
   rw[ev] at z this
   cases z
   exact this
 cases e:A.clk s ws with
 | none=>rw[e] at h2; exact h2.elim
 | some c =>
  rw[e] at h1 h2
  have a1:t.1≤c:=h1
  have a2:c≤t.1:=h2
  rw[Int.le_antisymm a2 a1]
def putR (A:OA) (b:Nat) (t:Tri):Option (Int × Int)→List Tri
 | none=>[]
 | some o=>if o.1.toNat=b∧b < A.re.length then [(t.1 + A.dl.getD b 0,o.1,o.2)] else []
theorem take_re (A:OA) (s:Nat) (p:SP) (t:Tri) (w0:t.2.1=-1∨0≤t.2.1) (b:Nat):(A.take s p t).re.getD b []=(if t.2.1=(b:Int) then (A.re.getD b []).tail else A.re.getD b [])++putR A b t (p.out (p.ws.idxOf t.2.1) t.2.2):=by
 have hp:(A.pop s t.2.1).re.getD b []=if t.2.1=(b:Int) then (A.re.getD b []).tail else A.re.getD b []:=by
  unfold OA.pop
  split
  ·rename_i e
   rw[if_neg (by omega)]
  ·rename_i n
   show(A.re.set _ _).getD b []=_
   rw[getD_set']
   by_cases hb:t.2.1=(b:Int)
   ·rw[if_pos hb]
    have e:t.2.1.toNat=b:=by omega
    rw[e]
    by_cases hl:b < A.re.length
    ·rw[if_pos ⟨rfl,hl⟩]
    ·rw[if_neg (fun z=>hl z.2),zA,yE (by omega)]; rfl
   ·rw[if_neg (fun z=>hb (by omega)),if_neg hb]
 have hl:(A.pop s t.2.1).re.length=A.re.length:=by unfold OA.pop; split <;> simp
 have hd:(A.pop s t.2.1).dl=A.dl:=by unfold OA.pop; split <;> rfl
 unfold OA.take
 cases p.out (p.ws.idxOf t.2.1) t.2.2 with
 | none =>
  show(A.pop s t.2.1).re.getD b []=_++[]
  rw[hp,zP]
 | some o =>
  show((A.pop s t.2.1).re.set o.1.toNat ((A.pop s t.2.1).re.getD o.1.toNat []++[(t.1 + (A.pop s t.2.1).dl.getD o.1.toNat 0,o.1,o.2)])).getD b []=_++(if o.1.toNat=b∧b < A.re.length then [(t.1 + A.dl.getD b 0,o.1,o.2)] else [])
  rw[getD_set',hl,hd]
  by_cases h:o.1.toNat=b∧b < A.re.length
  ·rw[if_pos h,if_pos h,h.1,hp]
  ·rw[if_neg h,if_neg h,hp,zP]
theorem put_same (B:OA) (t:Tri) (o:Option (Int × Int)):(B.put t o).de=B.de∧(B.put t o).pr=B.pr∧(B.put t o).dl=B.dl∧(B.put t o).ge=B.ge∧(B.put t o).re.length=B.re.length:=by
 cases o with
 | none=>exact⟨rfl,rfl,rfl,rfl,rfl⟩
 | some o=>exact⟨rfl,rfl,rfl,rfl,z4⟩
theorem take_same (A:OA) (s:Nat) (p:SP) (t:Tri):(A.take s p t).pr=A.pr∧(A.take s p t).dl=A.dl∧(A.take s p t).re.length=A.re.length∧(A.take s p t).ge=A.ge.set s (A.ge.getD s []++[t]):=by
 unfold OA.take
 obtain⟨e1,e2,e3,e4,e5⟩:=put_same (((A.pop s t.2.1).log s t).sta s (p.nxt (p.ws.idxOf t.2.1) t.2.2)) t (p.out (p.ws.idxOf t.2.1) t.2.2)
 rw[e2,e3,e4,e5]
 unfold OA.sta OA.log OA.pop
 split
 ·exact⟨rfl,rfl,rfl,rfl⟩
 ·exact⟨rfl,rfl,z4,rfl⟩
theorem take_de (A:OA) (s:Nat) (p:SP) (t:Tri) (j:Nat):(A.take s p t).de.getD j []=if t.2.1=-1∧s=j then (A.de.getD j []).tail else A.de.getD j []:=by
 unfold OA.take
 rw[(put_same _ _ _).1]
 show(A.pop s t.2.1).de.getD j []=_
 unfold OA.pop
 by_cases h:t.2.1=-1
 ·rw[if_pos h]
  show(A.de.set _ _).getD j []=_
  rw[getD_set']
  by_cases hj:s=j
  ·subst hj
   by_cases hl:s < A.de.length
   ·rw[if_pos ⟨rfl,hl⟩,if_pos ⟨h,rfl⟩]
   ·rw[if_neg (fun z=>hl z.2),if_pos ⟨h,rfl⟩,zA,yE (by omega)]; rfl
  ·rw[if_neg (fun z=>hj z.1),if_neg (fun z=>hj z.2)]
 ·rw[if_neg h,if_neg (fun z=>h z.1)]
theorem take_dl (A:OA) (s:Nat) (p:SP) (t:Tri):(A.take s p t).de.length=A.de.length:=by
 unfold OA.take
 rw[(put_same _ _ _).1]
 show(A.pop s t.2.1).de.length=_
 unfold OA.pop
 split
 ·exact z4
 ·rfl
end Oc
namespace Oc
open PySem L2
theorem idx_mem {α:Type} (f:α→Bool):∀(l:List α) (k:Nat) {w:Int},w ∈ idx f k l→∃(j:Nat) (t:α),l[j]?=some t∧f t=true∧w=((k + j:Nat):Int)
 | [],_,_,h=>absurd h zK
 | x::l,k,w,h=>by
  unfold idx at h
  split at h
  ·rename_i hx
   rcases zS.mp h with e|e
   ·exact⟨0,x,rfl,hx,by rw[e]; rfl⟩
   ·obtain⟨j,t,h1,h2,h3⟩:=idx_mem f l (k + 1) e
    exact⟨j + 1,t,h1,h2,by omega⟩
  ·obtain⟨j,t,h1,h2,h3⟩:=idx_mem f l (k + 1) h
   exact⟨j + 1,t,h1,h2,by omega⟩
theorem idx_has {α:Type} (f:α→Bool):∀(l:List α) (k:Nat) {j:Nat} {t:α},l[j]?=some t→f t=true→((k + j:Nat):Int) ∈ idx f k l
 | [],_,_,_,h,_=>by simp at h
 | x::l,k,0,t,h,hf=>by
  cases h
  unfold idx
  rw[if_pos hf]
  exact zH
 | x::l,k,j + 1,t,h,hf=>by
  have:=idx_has f l (k + 1) (j:=j) h hf
  have e:((k + (j + 1):Nat):Int)=((k + 1 + j:Nat):Int):=by omega
  rw[e]
  unfold idx
  split
  ·exact zJ _ this
  ·exact this
theorem Wk.lv_mem {W:Wk} {s w:Int} (h:w ∈ W.lv s):∃(j:Nat) (bt:Tri),W.be[j]?=some bt∧bt.1=s∧w=(j:Int):=by
 obtain⟨j,t,h1,h2,h3⟩:=idx_mem _ _ _ h
 exact⟨j,t,h1,by simpa using h2,by omega⟩
theorem Wk.wy_mem {W:Wk} {s w:Int} (h:w ∈ W.wy s):w=-1∨∃(j:Nat) (bt:Tri),W.be[j]?=some bt∧bt.2.1=s∧w=(j:Int):=by
 unfold Wk.wy at h
 rcases zW.mp h with e|e
 ·split at e
  ·exact .inl (zG.mp e)
  ·exact absurd e zK
 ·obtain⟨j,t,h1,h2,h3⟩:=idx_mem _ _ _ e
  exact .inr ⟨j,t,h1,by simpa using h2,by omega⟩
theorem Wk.wy_ok {W:Wk} {s w:Int} (h:w ∈ W.wy s):w=-1∨0≤w:=by
 rcases Wk.wy_mem h with e|⟨j,_,_,_,e⟩
 ·exact .inl e
 ·exact .inr (by omega)
theorem Wk.dl_at {W:Wk} {b:Nat} {bt:Tri} (h:W.be[b]?=some bt):W.dels.getD b 0=bt.2.2:=by
 unfold Wk.dels
 rw[zA,zF,h]; rfl
theorem Wk.dl_pos {W:Wk} (ok:W.Ok) (b:Nat):0≤W.dels.getD b 0:=by
 cases h:W.be[b]? with
 | none=>unfold Wk.dels; rw[zA,zF,h]; exact qV 0
 | some bt =>
  rw[Wk.dl_at h]
  have:=(ok.bel bt (zE h)).2.2.2.2.1
  omega
structure Inv (W:Wk) (A:OA):Prop where
 st:A.srs.length=W.st.length
 sp:∀(s:Nat) p,A.srs[s]?=some p→p.ws=W.wy s∧p.bs=W.lv s
 dl:A.dl=W.dels
 lp:A.pr.length=W.be.length
 lr:A.re.length=W.be.length
 ld:A.de.length=W.st.length
 sd:∀ s,(A.de.getD s []).Pairwise fun a b=>a.1≤b.1
 sr:∀ b,(A.re.getD b []).Pairwise fun a b=>a.1≤b.1
 up:∀ b,∀ t ∈ A.re.getD b [],oLe (some t.1) (A.pr.getD b none)
 pc:∀(b:Nat) bt,W.be[b]?=some bt→oLe (A.pr.getD b none) (oAdd (A.clk bt.1.toNat (W.wy bt.1)) bt.2.2)
theorem ear_pr {A B:OA} (h:B.pr=A.pr) (w:Int) (l:List Tri):B.ear w l=A.ear w l:=by
 cases l with
 | nil=>unfold OA.ear; rw[h]
 | cons t r=>rfl
theorem take_mono {W:Wk} {A:OA} (ok:W.Ok) (I:Inv W A) {s:Nat} {p:SP} (hp:A.srs[s]?=some p) {t:Tri} (T:Tkn A s p.ws t) {j:Nat} {w:Int} (w0:w=-1∨0≤w):oLe (A.e j w) ((A.take s p t).e j w):=by
 obtain⟨e1,e2,e3,e4⟩:=take_same A s p t
 have t0:t.2.1=-1∨0≤t.2.1:=Wk.wy_ok (W:=W) (s:=s) (by rw[← (I.sp s p hp).1]; exact T.w)
 unfold OA.e
 rw[ear_pr e1]
 by_cases h:w=-1
 ·subst h
  unfold evAt
  rw[if_pos rfl,if_pos rfl,take_de]
  split
  ·rename_i z
   obtain⟨z1,rfl⟩:=z
   have hd:=T.hd
   unfold evAt at hd
   rw[if_pos z1] at hd
   have so:=I.sd s
   cases er:A.de.getD s [] with
   | nil=>rw[er] at hd; cases hd
   | cons u r =>
    rw[er] at hd so
    cases hd
    cases r with
    | nil=>exact oLe_none _
    | cons v r=>exact(yO.mp so).1 v zH
  ·exact oLe_refl _
 ·have wp:=w0.resolve_left h
  obtain⟨b,rfl⟩:∃ b:Nat,w=(b:Int):=⟨w.toNat,by omega⟩
  unfold evAt
  rw[if_neg h,if_neg h,zT,take_re A s p t t0]
  have hput:∀ e ∈ putR A b t (p.out (p.ws.idxOf t.2.1) t.2.2),e.1=t.1 + A.dl.getD b 0∧oLe (A.pr.getD b none) (some e.1):=fun e he=>by
   cases eo:p.out (p.ws.idxOf t.2.1) t.2.2 with
   | none=>rw[eo] at he; exact absurd he zK
   | some o =>
    rw[eo] at he
    unfold putR at he
    dsimp only at he
    split at he
    ·rename_i z
     rw[zG.mp he]
     refine⟨rfl,?_⟩
     have hb:o.1 ∈ W.lv s:=by rw[← (I.sp s p hp).2]; exact SP.out_in (y:=o.2) eo
     obtain⟨k,bt,g1,g2,g3⟩:=Wk.lv_mem hb
     have ek:k=b:=by omega
     subst ek
     have:=I.pc k bt g1
     rw[g2,zT,← (I.sp s p hp).1,T.clk] at this
     rw[I.dl,Wk.dl_at g1]
     exact this
    ·exact absurd he zK
  by_cases hb:t.2.1=(b:Int)
  ·rw[if_pos hb]
   have hd:=T.hd
   unfold evAt at hd
   rw[hb,if_neg h,zT] at hd
   have so:=I.sr b
   cases er:A.re.getD b [] with
   | nil=>rw[er] at hd; cases hd
   | cons u r =>
    rw[er] at hd so
    cases hd
    cases r with
    | cons v r=>exact(yO.mp so).1 v zH
    | nil =>
     show oLe (some t.1) (A.ear (b:Int) (putR A b t _))
     cases epr:putR A b t (p.out (p.ws.idxOf t.2.1) t.2.2) with
     | nil =>
      show oLe (some t.1) (if (b:Int)=-1 then none else A.pr.getD (b:Int).toNat none)
      rw[if_neg h,zT]
      exact I.up b t (by rw[er]; exact zH)
     | cons e r =>
      have:=(hput e (by rw[epr]; exact zH)).1
      have d0:=Wk.dl_pos ok b
      rw[← I.dl] at d0
      show t.1≤e.1
      omega
  ·rw[if_neg hb]
   cases er:A.re.getD b [] with
   | cons u r=>exact qV _
   | nil =>
    rw[jS]
    cases epr:putR A b t (p.out (p.ws.idxOf t.2.1) t.2.2) with
    | nil=>exact oLe_refl _
    | cons e r =>
     have:=(hput e (by rw[epr]; exact zH)).2
     show oLe (if (b:Int)=-1 then none else A.pr.getD (b:Int).toNat none) (some e.1)
     rw[if_neg h,zT]
     exact this
structure Rsd (now:Option Int) (bs:List Int) (B C:OA):Prop where
 de:C.de=B.de
 re:C.re=B.re
 ge:C.ge=B.ge
 dl:C.dl=B.dl
 sp:C.srs=B.srs
 lp:C.pr.length=B.pr.length
 le:∀ j,oLe (B.pr.getD j none) (C.pr.getD j none)
 eq:∀ j,C.pr.getD j none=B.pr.getD j none∨((∃ b ∈ bs,b.toNat=j)∧C.pr.getD j none=B.new now j)
 ge2:∀ j,(∃ b ∈ bs,b.toNat=j)→j < B.pr.length→oLe (B.new now j) (C.pr.getD j none)
theorem rp1_is (now:Option Int) (B:OA) (b:Int):Rsd now [b] B (B.rp1 now b.toNat).1:=by
 unfold OA.rp1
 split
 ·rename_i h
  refine⟨rfl,rfl,rfl,rfl,rfl,rfl,fun j=>oLe_refl _,fun j=>.inl rfl,fun j hj hl=>?_⟩
  obtain⟨c,hc,rfl⟩:=hj
  rw[zG.mp hc]
  unfold OA.stays at h
  cases e:B.pr.getD b.toNat none with
  | none=>exact oLe_none _
  | some p =>
   rw[e] at h
   dsimp only at h
   cases e2:B.new now b.toNat with
   | none=>rw[e2] at h; cases h
   | some n=>rw[e2] at h; exact(of_decide_eq_true h:n≤p)
 ·rename_i h
  have key:oLe (B.pr.getD b.toNat none) (B.new now b.toNat):=by
   unfold OA.stays at h
   cases e:B.pr.getD b.toNat none with
   | none=>rw[e] at h; exact absurd rfl h
   | some p =>
    rw[e] at h
    cases e2:B.new now b.toNat with
    | none=>exact oLe_none _
    | some n =>
     rw[e2] at h
     have:¬ n≤p:=fun z=>h (decide_eq_true z)
     show p≤n
     omega
  refine⟨rfl,rfl,rfl,rfl,rfl,z4,fun j=>?_,fun j=>?_,fun j hj hl=>?_⟩
  ·show oLe _ ((B.pr.set _ _).getD j none)
   rw[getD_set']
   split
   ·rename_i z; rw[← z.1]; exact key
   ·exact oLe_refl _
  ·show(B.pr.set _ _).getD j none=_∨_∧(B.pr.set _ _).getD j none=_
   rw[getD_set']
   split
   ·rename_i z; exact .inr ⟨⟨b,zG.mpr rfl,z.1⟩,by rw[z.1]⟩
   ·exact .inl rfl
  ·obtain⟨c,hc,rfl⟩:=hj
   rw[zG.mp hc] at hl ⊢
   show oLe _ ((B.pr.set _ _).getD _ none)
   rw[getD_set',if_pos ⟨rfl,hl⟩]
   exact oLe_refl _
theorem Rsd.cons {now:Option Int} {b:Int} {bs:List Int} {B C D:OA} (h:Rsd now [b] B C) (k:Rsd now bs C D):Rsd now (b::bs) B D:=by
 have hn:∀ j,C.new now j=B.new now j:=fun j=>by unfold OA.new; rw[h.dl]
 refine⟨k.de.trans h.de,k.re.trans h.re,k.ge.trans h.ge,k.dl.trans h.dl,k.sp.trans h.sp,k.lp.trans h.lp,fun j=>oLe_trans (h.le j) (k.le j),fun j=>?_,fun j hj hl=>?_⟩
 ·rcases k.eq j with e|⟨⟨c,hc,e1⟩,e2⟩
  ·rcases h.eq j with g|⟨⟨c,hc,g1⟩,g2⟩
   ·exact .inl (e.trans g)
   ·exact .inr ⟨⟨c,zS.mpr (.inl (zG.mp hc)),g1⟩,e.trans g2⟩
  ·exact .inr ⟨⟨c,zJ _ hc,e1⟩,e2.trans (hn j)⟩
 ·obtain⟨c,hc,e⟩:=hj
  rcases zS.mp hc with z|z
  ·exact oLe_trans (h.ge2 j ⟨c,zG.mpr z,e⟩ hl) (k.le j)
  ·rw[← hn]; exact k.ge2 j ⟨c,z,e⟩ (by rw[h.lp]; exact hl)
theorem rps_is (now:Option Int):∀(bs:List Int) (B:OA) (c:Bool),Rsd now bs B (bs.foldl (fun p b=>((p.1.rp1 now b.toNat).1,p.2 || (p.1.rp1 now b.toNat).2)) (B,c)).1
 | [],B,c=>⟨rfl,rfl,rfl,rfl,rfl,rfl,fun _=>oLe_refl _,fun _=>.inl rfl,fun _ h _=>by obtain⟨_,h,_⟩:=h; exact absurd h zK⟩
 | b::bs,B,c=>(rp1_is now B b).cons (rps_is now bs (B.rp1 now b.toNat).1 (c || (B.rp1 now b.toNat).2))
theorem rsd_is (B:OA) (s:Nat) (p:SP):Rsd (B.clk s p.ws) p.bs B (B.rsd s p).1:=rps_is _ p.bs B false
theorem Rsd.mono {now:Option Int} {bs:List Int} {B C:OA} (h:Rsd now bs B C) (j:Nat) (w:Int):oLe (B.e j w) (C.e j w):=by
 unfold OA.e
 rw[h.de,h.re]
 cases evAt B.de B.re j w with
 | cons t r=>exact qV _
 | nil =>
  show oLe (if w=-1 then none else B.pr.getD w.toNat none) (if w=-1 then none else C.pr.getD w.toNat none)
  split
  ·exact oLe_none _
  ·exact h.le _
structure Belt (A C:OA) (s b:Nat) (bt:Tri):Prop where
 le:oLe (A.pr.getD b none) (C.pr.getD b none)
 row:∃ pop put:List Tri,C.re.getD b []=pop++put∧(pop=A.re.getD b []∨(pop=(A.re.getD b []).tail∧A.re.getD b [] ≠ []∧bt.2.1=(s:Int)))∧(put=[]∨∃ e,put=[e]∧e.2.1=(b:Int)∧(∃ g,A.pr.getD b none=some g∧g≤e.1)∧bt.1=(s:Int))
 oth:bt.1 ≠ (s:Int)→C.pr.getD b none=A.pr.getD b none
structure Stp (W:Wk) (A C:OA) (s:Nat):Prop where
 inv:Inv W C
 belt:∀(b:Nat) bt,W.be[b]?=some bt→Belt A C s b bt
 clk:∀ j:Nat,oLe (A.clk j (W.wy j)) (C.clk j (W.wy j))
theorem raise_stp {W:Wk} {A B C:OA} (ok:W.Ok) (I:Inv W A) {s:Nat} {p:SP} (hp:A.srs[s]?=some p) (R:Rsd (B.clk s p.ws) p.bs B C) (sp:B.srs.length=A.srs.length∧∀(j:Nat) q,B.srs[j]?=some q→q.ws=W.wy j∧q.bs=W.lv j) (pr:B.pr=A.pr) (dl:B.dl=A.dl) (lr:B.re.length=A.re.length) (ld:B.de.length=A.de.length)
  (sd:∀ j,(B.de.getD j []).Pairwise fun a b=>a.1≤b.1) (sr:∀ b,(B.re.getD b []).Pairwise fun a b=>a.1≤b.1) (mono:∀(j:Nat) (w:Int),(w=-1∨0≤w)→oLe (A.e j w) (B.e j w))
  (up:∀(b:Nat) bt,W.be[b]?=some bt→∀ t ∈ B.re.getD b [],t ∈ A.re.getD b []∨(bt.1=(s:Int)∧oLe (some t.1) (oAdd (B.clk s p.ws) bt.2.2)))
  (row:∀(b:Nat) bt,W.be[b]?=some bt→∃ pop put:List Tri,B.re.getD b []=pop++put∧(pop=A.re.getD b []∨(pop=(A.re.getD b []).tail∧A.re.getD b [] ≠ []∧bt.2.1=(s:Int)))∧(put=[]∨∃ e,put=[e]∧e.2.1=(b:Int)∧(∃ g,A.pr.getD b none=some g∧g≤e.1)∧bt.1=(s:Int))):Stp W A C s:=by
 have hws:=(I.sp s p hp).1
 have hbs:=(I.sp s p hp).2
 have mAB:∀ j:Nat,oLe (A.clk j (W.wy j)) (B.clk j (W.wy j)):=fun j=>clk_mono fun w hw=>mono j w (Wk.wy_ok hw)
 have mBC:∀ j:Nat,oLe (B.clk j (W.wy j)) (C.clk j (W.wy j)):=fun j=>clk_mono fun w hw=>R.mono j w
 have new_at:∀ {b:Nat} {bt:Tri},W.be[b]?=some bt→B.new (B.clk s p.ws) b=oAdd (B.clk s p.ws) bt.2.2:=fun {b bt} h=>by
  unfold OA.new oAdd
  rw[dl,I.dl,Wk.dl_at h]
 have in_bs:∀ {b:Nat} {bt:Tri},W.be[b]?=some bt→(∃ c ∈ p.bs,c.toNat=b)→bt.1=(s:Int):=fun {b bt} h hc=>by
  obtain⟨c,hc,e⟩:=hc
  rw[hbs] at hc
  obtain⟨k,bt',g1,g2,g3⟩:=Wk.lv_mem hc
  have:k=b:=by omega
  subst this
  rw[h] at g1
  cases g1
  exact g2
 have bs_in:∀ {b:Nat} {bt:Tri},W.be[b]?=some bt→bt.1=(s:Int)→∃ c ∈ p.bs,c.toNat=b:=fun {b bt} h e=>by
  refine⟨(b:Int),?_,zT b⟩
  rw[hbs]
  have:=idx_has (fun(t:Tri)=>t.1 == (s:Int)) W.be 0 h (by simpa using e)
  rw[qO] at this
  exact this
 have pcC:∀(b:Nat) bt,W.be[b]?=some bt→oLe (C.pr.getD b none) (oAdd (C.clk bt.1.toNat (W.wy bt.1)) bt.2.2):=fun b bt h=>by
  have b0:=(ok.bel bt (zE h)).1
  have e0:bt.1=(bt.1.toNat:Int):=by omega
  rcases R.eq b with e|⟨hc,e⟩
  ·rw[e,pr]
   refine oLe_trans (I.pc b bt h) (oAdd_le ?_)
   rw[e0,zT]
   exact oLe_trans (mAB _) (mBC _)
  ·have hs:=in_bs h hc
   rw[e,new_at h,hs,zT,hws]
   exact oAdd_le (mBC s)
 refine⟨⟨by rw[R.sp,sp.1,I.st],by rw[R.sp]; exact sp.2,by rw[R.dl,dl,I.dl],by rw[R.lp,pr,I.lp],by rw[R.re,lr,I.lr],by rw[R.de,ld,I.ld],by rw[R.de]; exact sd,by rw[R.re]; exact sr,fun b t ht=>?_,pcC⟩,fun b bt h=>?_,fun j=>oLe_trans (mAB j) (mBC j)⟩
 ·rw[R.re] at ht
  cases h:W.be[b]? with
  | none =>
   have:B.re.getD b []=[]:=by
    rw[zA,yE]
    ·rfl
    ·rw[lr,I.lr]; exact qY.mp h
   rw[this] at ht
   exact absurd ht zK
  | some bt =>
   rcases up b bt h t ht with g|⟨g1,g2⟩
   ·refine oLe_trans (I.up b t g) ?_
    rw[← pr]
    exact R.le b
   ·refine oLe_trans g2 ?_
    rw[← new_at h]
    exact R.ge2 b (bs_in h g1) (by rw[pr,I.lp]; exact(zC.mp h).1)
 ·refine⟨by rw[← pr]; exact R.le b,by rw[R.re]; exact row b bt h,fun n=>?_⟩
  rcases R.eq b with e|⟨hc,_⟩
  ·rw[e,pr]
  ·exact absurd (in_bs h hc) n
theorem step_stp {W:Wk} {A:OA} {m:Nat} (ok:W.Ok) (I:Inv W A) (ao:AOk m A) {s:Nat} (hs:s < W.st.length):Stp W A (A.step s).1 s:=by
 obtain⟨p,hp⟩:∃ p,A.srs[s]?=some p:=⟨A.srs[s]'(by rw[I.st]; exact hs),zB _⟩
 have ep:A.srs.getD s sp0=p:=by rw[zA,hp]; rfl
 have hws:=(I.sp s p hp).1
 have hbs:=(I.sp s p hp).2
 unfold OA.step OA.stp
 rw[ep]
 show Stp W A ((A.aft s p).rsd s p).1 s
 have R:=rsd_is (A.aft s p) s p
 cases e:A.tkn s p with
 | none =>
  have ea:A.aft s p=A:=by unfold OA.aft; rw[e]
  rw[ea] at R ⊢
  exact raise_stp ok I hp R ⟨rfl,I.sp⟩ rfl rfl rfl rfl I.sd I.sr (fun _ _ _=>oLe_refl _) (fun b bt h t ht=>.inl ht) fun b bt h=>⟨_,[],(zP _).symm,.inl rfl,.inl rfl⟩
 | some t =>
  have ea:A.aft s p=A.take s p t:=by unfold OA.aft; rw[e]
  rw[ea] at R ⊢
  have wok:∀ w ∈ p.ws,w=-1∨0≤w:=fun w hw=>by rw[hws] at hw; exact Wk.wy_ok hw
  have T:=tkn_is ao wok e
  have t0:=wok _ T.w
  have mono:∀(j:Nat) (w:Int),(w=-1∨0≤w)→oLe (A.e j w) ((A.take s p t).e j w):=fun j w hw=>take_mono ok I hp T hw
  have cl:oLe (some t.1) ((A.take s p t).clk s p.ws):=by
   rw[← T.clk]
   exact clk_mono fun w hw=>mono s w (wok w hw)
  obtain⟨e1,e2,e3,e4⟩:=take_same A s p t
  have hput:∀ {b:Nat} {e:Tri},e ∈ putR A b t (p.out (p.ws.idxOf t.2.1) t.2.2)→∃ bt,W.be[b]?=some bt∧bt.1=(s:Int)∧e.1=t.1 + bt.2.2∧e.2.1=(b:Int)∧oLe (A.pr.getD b none) (some e.1)∧putR A b t (p.out (p.ws.idxOf t.2.1) t.2.2)=[e]:=fun {b e} he=>by
   cases eo:p.out (p.ws.idxOf t.2.1) t.2.2 with
   | none=>rw[eo] at he; exact absurd he zK
   | some o =>
    rw[eo] at he
    unfold putR at he ⊢
    dsimp only at he ⊢
    split at he
    ·rename_i z
     have hb:o.1 ∈ W.lv s:=by rw[← hbs]; exact SP.out_in (y:=o.2) eo
     obtain⟨k,bt,g1,g2,g3⟩:=Wk.lv_mem hb
     have ek:k=b:=by omega
     subst ek
     have:=I.pc k bt g1
     rw[g2,zT,← hws,T.clk] at this
     rw[if_pos z]
     rw[zG.mp he,I.dl,Wk.dl_at g1]
     exact⟨bt,g1,g2,rfl,g3,this,rfl⟩
    ·exact absurd he zK
  refine raise_stp ok I hp R ⟨by rw[take_len,z4],fun j q hq=>?_⟩ e1 e2 e3 (take_dl A s p t) (fun j=>?_) (fun b=>?_) mono (fun b bt h u hu=>?_) fun b bt h=>?_
  ·rw[take_len,List.getElem?_set] at hq
   split at hq
   ·rename_i z
    subst z
    split at hq
    ·cases hq
     rw[SP.nxt_ws,SP.nxt_bs]
     exact⟨hws,hbs⟩
    ·cases hq
   ·exact I.sp j q hq
  ·rw[take_de]
   split
   ·exact(I.sd j).sublist (List.tail_sublist _)
   ·exact I.sd j
  ·rw[take_re A s p t t0]
   have s1:(if t.2.1=(b:Int) then (A.re.getD b []).tail else A.re.getD b []).Sublist (A.re.getD b []):=by
    split
    ·exact List.tail_sublist _
    ·exact List.Sublist.refl _
   refine yM.mpr ⟨(I.sr b).sublist s1,?_,fun u hu e he=>?_⟩
   ·cases ee:putR A b t (p.out (p.ws.idxOf t.2.1) t.2.2) with
    | nil=>exact .nil
    | cons e r =>
     obtain⟨_,_,_,_,_,_,g⟩:=hput (b:=b) (e:=e) (by rw[ee]; exact zH)
     rw[ee] at g
     rw[g]
     exact jB _ _
   ·obtain⟨bt,g1,g2,g3,g4,g5,g6⟩:=hput he
    have:=oLe_trans (I.up b u (s1.subset hu)) g5
    exact this
  ·rw[take_re A s p t t0] at hu
   rcases zW.mp hu with z|z
   ·refine .inl ?_
    split at z
    ·exact qU z
    ·exact z
   ·obtain⟨bt',g1,g2,g3,g4,g5,g6⟩:=hput z
    rw[h] at g1
    cases g1
    refine .inr ⟨g2,?_⟩
    rw[g3]
    exact oAdd_le cl
  ·refine⟨_,_,take_re A s p t t0 b,?_,?_⟩
   ·by_cases hb:t.2.1=(b:Int)
    ·rw[if_pos hb]
     have hw:=T.w
     rw[hws,hb] at hw
     have b1:(b:Int) ≠ -1:=by omega
     refine .inr ⟨rfl,fun z=>?_,?_⟩
     ·have hd:=T.hd
      unfold evAt at hd
      rw[hb,if_neg b1,zT,z] at hd
      cases hd
     ·rcases Wk.wy_mem hw with q|⟨k,bt',g1,g2,g3⟩
      ·exact absurd q b1
      ·have:k=b:=by omega
       subst this
       rw[h] at g1
       cases g1
       exact g2
    ·rw[if_neg hb]
     exact .inl rfl
   ·cases ee:putR A b t (p.out (p.ws.idxOf t.2.1) t.2.2) with
    | nil=>exact .inl rfl
    | cons e r =>
     obtain⟨bt',g1,g2,g3,g4,g5,g6⟩:=hput (b:=b) (e:=e) (by rw[ee]; exact zH)
     rw[ee] at g6
     rw[h] at g1
     cases g1
     refine .inr ⟨e,g6,g4,?_,g2⟩
     cases eg:A.pr.getD b none with
     | none=>rw[eg] at g5; exact g5.elim
     | some g=>rw[eg] at g5; exact⟨g,rfl,g5⟩
end Oc
namespace Oc
open PySem L2
theorem idx_at {α:Type} (f:α→Bool):∀(l:List α) (k j:Nat) (y:α),l[j]?=some y→f y=true→((k + j:Nat):Int) ∈ idx f k l
 | [],_,_,_,h,_=>by cases h
 | x::l,k,0,y,h,hf=>by
  cases h
  unfold idx
  rw[if_pos hf]
  exact zH
 | x::l,k,j + 1,y,h,hf=>by
  have:=idx_at f l (k + 1) j y h hf
  rw[show k + 1 + j=k + (j + 1) by omega] at this
  unfold idx
  split
  ·exact zJ _ this
  ·exact this
theorem idx_of {α:Type} (f:α→Bool):∀(l:List α) (k:Nat) (x:Int),x ∈ idx f k l→∃(j:Nat) (y:α),x=((k + j:Nat):Int)∧l[j]?=some y∧f y=true
 | [],_,_,h=>absurd h zK
 | z::l,k,x,h=>by
  unfold idx at h
  have rest:x ∈ idx f (k + 1) l→∃(j:Nat) (y:α),x=((k + j:Nat):Int)∧(z::l)[j]?=some y∧f y=true:=fun h=>by
   obtain⟨j,y,e,h1,h2⟩:=idx_of f l (k + 1) x h
   exact⟨j + 1,y,by rw[e]; congr 1; omega,h1,h2⟩
  split at h
  ·rename_i hf
   rcases zS.mp h with e|e
   ·exact⟨0,z,by rw[e]; rfl,rfl,hf⟩
   ·exact rest e
  ·exact rest h
end Oc
namespace Oc
open PySem L2
abbrev Cau:=Option (Int × Int)
set_option genInjectivity false in
set_option genSizeOf false in
structure AR where
 s:Nat
 e:Tri
 c:Cau
set_option genInjectivity false in
set_option genSizeOf false in
structure CS where
 st:List SP
 ev:List (List Tri)
 og:List (List Cau)
 ar:List AR
def AR.key (a:AR):Int × Int:=(a.e.1,a.e.2.1)
def CS.at (S:CS):Nat:=bestK (S.ar.map AR.key)
def CS.first (S:CS):Option AR:=S.ar[S.at]?
def arrOf (W:Wk) (b y t:Int) (c:Int × Int):AR:=⟨((W.be.getD b.toNat (0,0,0)).2.1).toNat,(t + (W.be.getD b.toNat (0,0,0)).2.2,b,y),some c⟩
def putA (W:Wk) (o:Option (Int × Int)) (t:Int) (c:Int × Int):List AR:=match o with
 | none=>[]
 | some (b,y)=>[arrOf W b y t c]
def CS.step (W:Wk) (S:CS) (a:AR):CS :=
 { st:=S.st.set a.s ((S.st.getD a.s sp0).nxt ((S.st.getD a.s sp0).ws.idxOf a.e.2.1) a.e.2.2),ev:=S.ev.set a.s (S.ev.getD a.s []++[a.e]),og:=S.og.set a.s (S.og.getD a.s []++[a.c]),ar:=S.ar.eraseIdx S.at++putA W ((S.st.getD a.s sp0).out ((S.st.getD a.s sp0).ws.idxOf a.e.2.1) a.e.2.2) a.e.1 ((a.s:Int),((S.ev.getD a.s []).length:Int)) }
inductive Runs (W:Wk) (u:Int):CS→CS→Prop
 | stop {S:CS} (h:∀ a,S.first=some a→u < a.e.1):Runs W u S S
 | step {S R:CS} (a:AR) (h:S.first=some a) (hu:a.e.1≤u) (r:Runs W u (S.step W a) R):Runs W u S R
def Wk.ars (W:Wk) (n:Nat):List AR:=(List.range n).flatMap fun(s:Nat)=>(W.de (s:Int)).map fun e=>⟨s,e,none⟩
def Wk.cs (W:Wk):CS:=⟨(List.range W.st.length).map W.sp,W.st.map fun _=>[],W.st.map fun _=>[],W.ars W.st.length⟩
structure CSok (W:Wk) (S:CS):Prop where
 l1:S.st.length=W.st.length
 l2:S.ev.length=W.st.length
 l3:S.og.length=W.st.length
 ws:∀(s:Nat) p,S.st[s]?=some p→p.ws=W.wy s∧p.bs=W.lv s
 ar:∀ a ∈ S.ar,a.s < W.st.length∧a.e.2.1 ∈ W.wy a.s
theorem getD_at {α:Type} {l:List α} {i:Nat} {d:α} (h:i < l.length):l[i]?=some (l.getD i d):=by rw[zA,zB h]; rfl
theorem Wk.lv_goal {W:Wk} (ok:W.Ok) {s b:Int} (h:b ∈ W.lv s):0≤b∧b < W.be.length∧0≤(W.be.getD b.toNat (0,0,0)).2.1∧(W.be.getD b.toNat (0,0,0)).2.1 < W.st.length∧b ∈ W.wy (W.be.getD b.toNat (0,0,0)).2.1∧1≤(W.be.getD b.toNat (0,0,0)).2.2∧(W.be.getD b.toNat (0,0,0)).1=s:=by
 unfold Wk.lv at h
 obtain⟨j,t,e,ht,hf⟩:=idx_of _ _ _ _ h
 rw[qO] at e
 subst e
 have hj:=(zC.mp ht).1
 have eg:W.be.getD (j:Int).toNat (0,0,0)=t:=by rw[zT,zA,ht]; rfl
 rw[eg]
 obtain⟨q1,q2,q3,q4,q5,q6⟩:=ok.bel t (zE ht)
 refine⟨by omega,by omega,q3,q4,?_,q5,by simpa using hf⟩
 unfold Wk.wy
 refine zR _ ?_
 have:=idx_at (fun(x:Tri)=>x.2.1 == t.2.1) W.be 0 j t ht (by simp)
 rw[qO] at this
 exact this
theorem CSok.step {W:Wk} (ok:W.Ok) {S:CS} (h:CSok W S) {a:AR} (ha:S.first=some a):CSok W (S.step W a):=by
 have hm:a ∈ S.ar:=zE ha
 obtain⟨h1,h2⟩:=h.ar a hm
 have hp:=getD_at (d:=sp0) (l:=S.st) (i:=a.s) (by rw[h.l1]; exact h1)
 obtain⟨w1,w2⟩:=h.ws _ _ hp
 refine⟨?_,?_,?_,fun s p hs=>?_,fun b hb=>?_⟩
 ·show(S.st.set _ _).length=_; rw[z4]; exact h.l1
 ·show(S.ev.set _ _).length=_; rw[z4]; exact h.l2
 ·show(S.og.set _ _).length=_; rw[z4]; exact h.l3
 ·have hs':(S.st.set a.s ((S.st.getD a.s sp0).nxt ((S.st.getD a.s sp0).ws.idxOf a.e.2.1) a.e.2.2))[s]?=some p:=hs
  by_cases e:s=a.s
  ·subst e
   rw[yR (by rw[h.l1]; exact h1)] at hs'
   cases hs'
   rw[SP.nxt_ws,SP.nxt_bs]
   exact⟨w1,w2⟩
  ·rw[yY (Ne.symm e)] at hs'
   exact h.ws s p hs'
 ·have hb':b ∈ S.ar.eraseIdx S.at++putA W ((S.st.getD a.s sp0).out ((S.st.getD a.s sp0).ws.idxOf a.e.2.1) a.e.2.2) a.e.1 ((a.s:Int),((S.ev.getD a.s []).length:Int)):=hb
  rcases zW.mp hb' with q|q
  ·exact h.ar b (List.mem_of_mem_eraseIdx q)
  ·cases eo:(S.st.getD a.s sp0).out ((S.st.getD a.s sp0).ws.idxOf a.e.2.1) a.e.2.2 with
   | none=>rw[eo] at q; exact absurd q zK
   | some v =>
    obtain⟨bb,y⟩:=v
    rw[eo] at q
    rw[zG.mp q]
    have hbs:=SP.out_in eo
    rw[w2] at hbs
    obtain⟨q1,q2,q3,q4,q5,_⟩:=Wk.lv_goal ok hbs
    refine⟨?_,?_⟩
    ·show((W.be.getD bb.toNat (0,0,0)).2.1).toNat < _; omega
    ·show bb ∈ W.wy (((W.be.getD bb.toNat (0,0,0)).2.1).toNat:Int)
     rw[Int.toNat_of_nonneg q3]
     exact q5
def arM (u:Int) (a:AR):Nat:=(u + 2 - a.e.1).toNat
def CS.meas (S:CS) (u:Int):Nat:=(S.ar.map (arM u)).sum
theorem sum_erase {l:List Nat} {i x:Nat} (h:l[i]?=some x):(l.eraseIdx i).sum + x=l.sum:=by
 induction l generalizing i with
 | nil=>cases h
 | cons y l ih =>
  cases i with
  | zero=>cases h; rw[List.eraseIdx_cons_zero,y7,Nat.add_comm]
  | succ i=>rw[jP,y7,y7,Nat.add_assoc,ih h]
theorem map_erase {α β:Type} (f:α→β):∀(l:List α) (i:Nat),(l.map f).eraseIdx i=(l.eraseIdx i).map f
 | [],_=>rfl
 | x::l,0=>rfl
 | x::l,i + 1=>by
  show f x::(l.map f).eraseIdx i=_
  rw[map_erase f l i]
  rfl
theorem CS.meas_step {W:Wk} (ok:W.Ok) {S:CS} (h:CSok W S) {a:AR} (ha:S.first=some a) {u:Int} (hu:a.e.1≤u):(S.step W a).meas u < S.meas u:=by
 have hm:a ∈ S.ar:=zE ha
 obtain⟨h1,h2⟩:=h.ar a hm
 have hp:=getD_at (d:=sp0) (l:=S.st) (i:=a.s) (by rw[h.l1]; exact h1)
 obtain⟨w1,w2⟩:=h.ws _ _ hp
 have e1:((S.ar.map (arM u)).eraseIdx S.at).sum + arM u a=(S.ar.map (arM u)).sum:=sum_erase (by rw[zF]; show(S.first).map _=_; rw[ha]; rfl)
 have e2:(S.ar.map (arM u)).eraseIdx S.at=(S.ar.eraseIdx S.at).map (arM u):=map_erase _ _ _
 rw[e2] at e1
 show((S.ar.eraseIdx S.at++putA W _ a.e.1 _).map (arM u)).sum < (S.ar.map (arM u)).sum
 rw[zL,List.sum_append]
 have hle:((putA W ((S.st.getD a.s sp0).out ((S.st.getD a.s sp0).ws.idxOf a.e.2.1) a.e.2.2) a.e.1 ((a.s:Int),((S.ev.getD a.s []).length:Int))).map (arM u)).sum < arM u a:=by
  have ha0:arM u a=(u + 2 - a.e.1).toNat:=rfl
  cases eo:(S.st.getD a.s sp0).out ((S.st.getD a.s sp0).ws.idxOf a.e.2.1) a.e.2.2 with
  | none=>show 0 < _; omega
  | some v =>
   obtain⟨bb,y⟩:=v
   have hbs:=SP.out_in eo
   rw[w2] at hbs
   obtain⟨_,_,_,_,_,q6,_⟩:=Wk.lv_goal ok hbs
   show(u + 2 - (a.e.1 + (W.be.getD bb.toNat (0,0,0)).2.2)).toNat + 0 < _
   omega
 omega
end Oc
namespace Oc
open PySem L2
def IsCau (H:Hp) (x:V):Cau→Prop
 | none=>x=.non
 | some c=>∃ p,x=.ref p∧H p=some (.tup [.int c.1,.int c.2])
inductive IsArr (H:Hp) (x:V) (a:AR):Prop where
 | mk (p xe xc:_) (h_0:x=.ref p) (h_1:H p=some (.tup [.int (a.s:Int),xe,xc])) (h_2:IsTri H xe a.e) (h_3:IsCau H xc a.c):IsArr H x a
def Tp (Pd:Addr) (H H':Hp):Prop:=∀ b u,H b=some u→ImmO u→((∀ ps,u ≠ HO.tbl ps)∨b ≠ Pd)→H' b=some u
section
variable {Pd:Addr}
theorem Tp.refl (H:Hp):Tp Pd H H:=fun _ _ e _ _=>e
theorem Tp.trans {H H1 H2:Hp} (a:Tp Pd H H1) (b:Tp Pd H1 H2):Tp Pd H H2:=fun c u e i n=>b c u (a c u e i n) i n
theorem Tp.of {H H':Hp} (s:Same H H'):Tp Pd H H':=fun b u e _ _=>s _ _ e
theorem Tp.sm {H H':Hp} (s:SmD Pd H H'):Tp Pd H H':=fun b u e _ n=>s.keep _ _ e n
theorem Tp.tk {H H':Hp} (s:Tk H H'):Tp Pd H H':=fun b u e i _=>s _ _ e i
theorem Tp.put {H H':Hp} {a:Addr} {ys:List V} {o:HO} (k:Tp Pd H H') (e:H' a=some (.lst ys)):Tp Pd H (upd H' a o):=fun b u eb i n=>by
 have e1:=k b u eb i n
 rw[upd_ne (fun z=>by subst z; rw[e] at e1; cases e1; exact i)]
 exact e1
theorem Tp.tup {H H':Hp} (k:Tp Pd H H') {b:Addr} {xs:List V} (e:H b=some (.tup xs)):H' b=some (.tup xs):=k _ _ e trivial (.inl fun _ z=>nomatch z)
theorem LamT.tp {P:Addr} {q:Str} {ln cl:Nat} {H H':Hp} (h:LamT P q ln cl H) (k:Tp Pd H H') (ne:P ≠ Pd):LamT P q ln cl H':=by
 rcases h with h|⟨c',h1,h2⟩
 ·exact .inl (k _ _ h trivial (.inr ne))
 ·exact .inr ⟨c',k _ _ h1 trivial (.inr ne),k _ _ h2 trivial (.inl fun _ z=>nomatch z)⟩
end
theorem IsTri.tp {Pd:Addr} {H H':Hp} (k:Tp Pd H H') {x:V} {t:Tri} (h:IsTri H x t):IsTri H' x t:=let ⟨p,e,q⟩:=h; ⟨p,e,k.tup q⟩
theorem IsCau.tp {Pd:Addr} {H H':Hp} (k:Tp Pd H H') {x:V}:∀ {c:Cau},IsCau H x c→IsCau H' x c
 | none,h=>h
 | some _,⟨p,e,q⟩=>⟨p,e,k.tup q⟩
theorem IsArr.tp {Pd:Addr} {H H':Hp} (k:Tp Pd H H') {x:V} {a:AR} (h:IsArr H x a):IsArr H' x a:=let ⟨p,xe,xc,e,q,r1,r2⟩:=h; ⟨p,xe,xc,e,k.tup q,r1.tp k,r2.tp k⟩
theorem evs_tp {Pd:Addr} {H H':Hp} (k:Tp Pd H H') {vs:List (List V)} {ts:List (List Tri)} (h:Paired (fun us ts=>Paired (IsTri H) us ts) vs ts):Paired (fun us ts=>Paired (IsTri H') us ts) vs ts:=pairedMono (fun _ _ h=>pairedMono (fun _ _ h=>h.tp k) h) h
theorem ogs_tp {Pd:Addr} {H H':Hp} (k:Tp Pd H H') {vs:List (List V)} {ts:List (List Cau)} (h:Paired (fun us ts=>Paired (IsCau H) us ts) vs ts):Paired (fun us ts=>Paired (IsCau H') us ts) vs ts:=pairedMono (fun _ _ h=>pairedMono (fun _ _ h=>h.tp k) h) h
theorem _root_.L2.LamT.tk {P:Addr} {q:Str} {ln cl:Nat} {H H':Hp} (h:LamT P q ln cl H) (k:Tk H H'):LamT P q ln cl H':=by
 rcases h with h|⟨c',h1,h2⟩
 ·exact .inl (k _ _ h trivial)
 ·exact .inr ⟨c',k _ _ h1 trivial,k _ _ h2 trivial⟩
theorem hc_drop {H:Hp} {M:List (List Cell)}:∀ {As:List (List Cell)},Hc H (As++M)→Hc H M
 | [],h=>h
 | _::_,h=>hc_drop h.tl
def WkIn (M:List (List Cell)) (w:Addr) (W:Wk):Prop:=∀ H,Hc H M→WkAt H w W
inductive spAtD (Pd:Addr) (vs:List V) (H:Hp) (Q:VK) (x_3:XK):Prop where
 | mk (w:Addr) (W:Wk) (M:List (List Cell)) (h_0:vs=[.ref w]) (h_1:Hc H M) (h_2:NoT M) (h_3:WkAt H w W) (h_4:W.Ok) (h_5:DoorT Pd H) (h_6:∀(D:Addr) (xs:List V) (H':Hp),Hc H' ([(D,.lst xs)]::M)→Paired (IsArr H') xs (W.ars W.st.length)→SmD Pd H H'→DoorT Pd H'→xs.length≤480→Q (.ref D) H'):spAtD Pd vs H Q x_3
inductive spArr (vs:List V) (H:Hp) (Q:VK) (x_3:XK):Prop where
 | mk (w p c:Addr) (W:Wk) (b y t:Int) (ci:Int × Int) (h_0:vs=[.ref w,.ref p,.int t,.ref c]) (h_1:WkAt H w W) (h_2:W.Ok) (h_3:H p=some (.tup [.int b,.int y])) (h_4:0≤b) (h_5:b < W.be.length) (h_6:H c=some (.tup [.int ci.1,.int ci.2])) (h_7:∀(x:V) (H':Hp),IsArr H' x (arrOf W b y t ci)→Same H H'→Q x H'):spArr vs H Q x_3
section
variable {P:Program} {w:World} {K:PySem.W.Frag} {mg:Str→Option Value} {base:Heap}
theorem sc_atd:FnScope ["works","arrivals","station","event"] ["works"] (defScope (top 26)):=⟨rfl,rfl,rfl,by decide +kernel,rfl,by decide +kernel,by decide +kernel⟩
theorem ok_atd {f Pd:Addr} {fd:FuncData} (F:Fun K "at_doors" "at_doors" (top 26) f fd) (T:Txt K mg) (av:FnAt P w K mg base 2 "door_events" ["works","station"] (spDE Pd)):FnOk P w K mg base CX0 3 f fd ["works"] (spAtD Pd):=by
 have nd:=sc_atd.nd
 refine F.ok sc_atd (fun vs H Q E h=>?_) (fun cdv A outer s H vs Q E hr h=>?_)
 ·obtain⟨w,W,M,rfl,_⟩:=h
  rfl
 ·obtain⟨w,W,M,rfl,hc,nT,hw,ok,hT,q⟩:=h
  obtain⟨sa,ba,fa,xs,ys,zs,h1,h2⟩:=id hw.ex
  have ls:=h2.ps.length
  have s8:=ok.s8
  refine⟨_,(@pss_cons _ _ _ _ _ (ps_set (i:=1) nd rfl (by nofun) (@pe_lst _ _ _ _ pa_nil))
   (@pss_cons _ _ _ _ _ (ps_for PassesOwn.never rfl (pi_range1 rfl T.n_range (@pa_cons _ _ _ _ _ (pe_callB (call_len_seqK (K:=K) rfl) (by rfl) T.n_len bt_len (@pa_cons _ _ _ _ _ (@pe_ix _ _ _ _ _ _ _ (ix_tupK (K:=K) rfl) (pv 0) pe_int (fun _ _=>rfl)) pa_nil (by rfl))) pa_nil (by rfl))) (pg_name (i:=2) nd rfl (by nofun)) (@pss_one _ _ _ (ps_for PassesOwn.never rfl (pi_listK (K:=K) rfl (pe_fn av (hr.mono (by decide)) (by rfl) (@pa_cons _ _ _ _ _ (pv 0) (@pa_cons _ _ _ _ _ (pv 2) pa_nil (by rfl)) (by rfl)))) (pg_name (i:=3) nd rfl (by nofun)) (@pss_one _ _ _ (ps_expr (pe_bm PySem.F.plainAttrs_list PySem.F.slot_list_append PySem.F.type_list_append mt_append (pv 1) (@pa_cons _ _ _ _ _ (@pe_tup _ _ _ _ _ (@pa_cons _ _ _ _ _ (pv 2) (@pa_cons _ _ _ _ _ (pv 3) (@pa_cons _ _ _ _ _ pe_non pa_nil (by rfl)) (by rfl)) (by rfl))) pa_nil (by rfl))))))))
   (@pss_one _ _ _ (@ps_ret _ _ _ _ (pv 1))))),?_⟩
  refine⟨z5 _,fun D nD=>?_⟩
  have t0:Same H (upd H D (.lst [])):=Same.new nD
  have hc0:=hc.new nD (.lst [])
  refine⟨_,rfl,⟨_,_,_,_,rfl,rfl,SqT.of (t0 _ _ h1),(atI_nat (j:=0) rfl),sa,xs,rfl,.inl (SqL.of (t0 _ _ h2.hs)),_,rfl,by rw[p62]; omega,by rw[p62]; omega,for_range (n:=(xs.length:Int).toNat) (fun i σ H4=>∃(us:List V) (v2 v3:Option V),σ=[some (.ref w),some (.ref D),v2,v3]∧SmD Pd H H4∧Hc H4 ([(D,.lst us)]::M)∧Paired (IsArr H4) us (W.ars i)∧DoorT Pd H4∧us.length≤60 * i)
   ⟨[],_,_,rfl,SmD.of t0,hc0,.nil,hT.same t0,z5 _⟩ ?_ ?_⟩⟩
  ·rintro i σ H4 hi ⟨us,v2,v3,rfl,s4,hc4,pr4,hT4,l4⟩
   rw[qD]
   refine⟨_,rfl,_,rfl,w,W,i,rfl,hw.sm s4,ok,hT4,fun p rs H5 np hp prs sm5 hT5 l60=>?_⟩
   have nT4:NoT ([(D,.lst us)]::M):=nT.lst
   have hc5:=hc4.sm nT4 sm5
   have pr5:=pairedMono (fun _ _ h=>IsArr.tp (Tp.sm sm5) h) pr4
   have lr:=prs.length
   have nDp:D ≠ p:=fun z=>by
    have e:=hc4.get 0 0 rfl rfl
    rw[z,np] at e
    cases e
   refine⟨p,rfl,⟨_,SqL.of hp⟩,for_list (K:=K) (a:=p) (xs:=rs) (fun j σ H6=>∃(vs:List V) (v3:Option V),σ=[some (.ref w),some (.ref D),some (.int (i:Int)),v3]∧H6 p=some (.lst rs)∧SmD Pd H H6∧Tp Pd H5 H6∧Hc H6 ([(D,.lst vs)]::M)∧Paired (IsArr H6) vs (W.ars i++((W.de i).take j).map fun e=>⟨i,e,none⟩)∧DoorT Pd H6∧vs.length=us.length + j)
    ⟨us,_,rfl,hp,s4.trans sm5,Tp.refl _,hc5,by rw[List.take_zero,qX,zP]; exact pr5,hT5,rfl⟩ (fun j σ H6 _ ⟨_,_,_,e,_⟩=>SqL.of e) ?_ ?_⟩
   ·rintro j x σ H6 hx ⟨vs,v3',rfl,hp6,s6,tp6,hc6,pr6,hT6,l6⟩
    obtain⟨t,ht,htr⟩:=prs.gt hx
    have hj:=(zC.mp hx).1
    have g6:=hc6.get 0 0 rfl rfl
    refine⟨_,rfl,tyL g6,_,rfl,_,rfl,(by show 3≤sizeLine; decide),fun pt npt=>?_⟩
    have s7:Same H6 (upd H6 pt (.tup [.int (i:Int),x,.non])):=Same.new npt
    have g7:=s7 _ _ g6
    have nDH:H D=none:=nD
    refine⟨_,_,_,rfl,rfl,g7,smallM (by omega),?_⟩
    have t7:Tp Pd H6 (upd (upd H6 pt (.tup [.int (i:Int),x,.non])) D (.lst (vs++[.ref pt]))):=(Tp.of s7).put g7
    refine⟨vs++[.ref pt],_,rfl,?_,(s6.trans (SmD.of s7)).upd nDH,tp6.trans t7,(hc6.same s7).put 0 0 rfl rfl _,?_,(hT6.same s7).updL g7,by rw[zM,l6]; rfl⟩
    ·rw[upd_ne nDp.symm]; exact s7 _ _ hp6
    ·rw[take_1 ht,zL,← z7]
     refine paired_app (pairedMono (fun _ _ h=>IsArr.tp t7 h) pr6) (.cons ⟨pt,x,.non,rfl,?_,(htr.tp tp6).tp t7,rfl⟩ .nil)
     rw[upd_ne (ne_of (upd_same (H:=H6) (a:=pt)) g7 fun z=>nomatch z)]
     exact upd_same
   ·rintro σ H6 ⟨vs,v3',rfl,hp6,s6,tp6,hc6,pr6,hT6,l6⟩
    rw[lr,yD] at pr6
    refine⟨vs,_,_,rfl,s6,hc6,?_,hT6,by omega⟩
    have e:W.ars (i + 1)=W.ars i++(W.de (i:Int)).map fun e=>⟨i,e,none⟩:=by
     unfold Wk.ars
     rw[y9,qK]
     simp
    rw[e]
    exact pr6
  ·rintro σ H4 ⟨us,v2,v3,rfl,s4,hc4,pr4,hT4,l4⟩
   have e:((xs.length:Nat):Int).toNat=W.st.length:=by omega
   rw[e] at pr4 l4
   exact⟨_,rfl,q D us H4 hc4 pr4 s4 hT4 (by omega)⟩
theorem sc_arr:FnScope ["works","put","time","cause","belt"] ["works","put","time","cause"] (defScope (top 27)):=⟨rfl,rfl,rfl,by decide +kernel,rfl,by decide +kernel,by decide +kernel⟩
theorem ok_arr {f:Addr} {fd:FuncData} (F:Fun K "arrival_of" "arrival_of" (top 27) f fd):FnOk P w K mg base CX0 1 f fd ["works","put","time","cause"] spArr:=by
 have nd:=sc_arr.nd
 refine F.ok sc_arr (fun vs H Q E h=>?_) (fun cdv A outer s H vs Q E hr h=>?_)
 ·obtain⟨w,p,c,W,b,y,t,ci,rfl,_⟩:=h
  rfl
 ·obtain⟨w,p,c,W,b,y,t,ci,rfl,hw,ok,hp,b0,b1,hci,q⟩:=h
  obtain⟨sa,ba,fa,xs,ys,zs,h1,h2⟩:=hw.ex
  have lb:=h2.pb.length
  obtain⟨xv,hx⟩:∃ x,ys[b.toNat]?=some x:=⟨ys[b.toNat]'(by omega),zB _⟩
  obtain⟨tr,htr,a0,rfl,ha⟩:=h2.pb.gt hx
  have eg:W.be.getD b.toNat (0,0,0)=tr:=by rw[zA,htr]; rfl
  obtain⟨q1,q2,q3,q4,q5,q6⟩:=ok.bel tr (zE htr)
  have eb:b=(b.toNat:Int):=by omega
  refine⟨_,(@pss_cons _ _ _ _ _ (ps_set (i:=4) nd rfl (by nofun) (@pe_ix _ _ _ _ _ _ _ (ix_listK (K:=K) rfl) (@pe_ix _ _ _ _ _ _ _ (ix_tupK (K:=K) rfl) (pv 0) pe_int (fun _ _=>rfl)) (@pe_ix _ _ _ _ _ _ _ (ix_tupK (K:=K) rfl) (pv 1) pe_int (fun _ _=>rfl)) (fun _ _=>rfl)))
   (@pss_one _ _ _ (@ps_ret _ _ _ _ (@pe_tup _ _ _ _ _ (@pa_cons _ _ _ _ _ (@pe_ix _ _ _ _ _ _ _ (ix_tupK (K:=K) rfl) (pv 4) pe_int (fun _ _=>rfl)) (@pa_cons _ _ _ _ _ (@pe_tup _ _ _ _ _ (@pa_cons _ _ _ _ _ (pe_op op_add (pv 2) (@pe_ix _ _ _ _ _ _ _ (ix_tupK (K:=K) rfl) (pv 4) pe_int (fun _ _=>rfl))) (@pa_cons _ _ _ _ _ (@pe_ix _ _ _ _ _ _ _ (ix_tupK (K:=K) rfl) (pv 1) pe_int (fun _ _=>rfl)) (@pa_cons _ _ _ _ _ (@pe_ix _ _ _ _ _ _ _ (ix_tupK (K:=K) rfl) (pv 1) pe_int (fun _ _=>rfl)) pa_nil (by rfl)) (by rfl)) (by rfl))) (@pa_cons _ _ _ _ _ (pv 3) pa_nil (by rfl)) (by rfl)) (by rfl)))))),?_⟩
  refine⟨_,rfl,⟨_,_,_,_,rfl,rfl,SqT.of h1,(atI_nat (j:=1) rfl),_,rfl,⟨_,_,_,_,rfl,rfl,SqT.of hp,(atI_nat (j:=0) rfl),⟨_,_,_,_,rfl,rfl,SqL.of h2.hb,(by rw[eb]; exact atI_nat hx),?_⟩⟩⟩⟩
  refine⟨_,rfl,⟨_,_,_,_,rfl,rfl,SqT.of ha,(atI_nat (j:=1) rfl),_,rfl,_,rfl,⟨_,_,_,_,rfl,rfl,SqT.of ha,(atI_nat (j:=2) rfl),_,_,rfl,rfl,_,rfl,⟨_,_,_,_,rfl,rfl,SqT.of hp,(atI_nat (j:=0) rfl),_,rfl,⟨_,_,_,_,rfl,rfl,SqT.of hp,(atI_nat (j:=1) rfl),(by show 3≤sizeLine; decide),fun pe npe=>?_⟩⟩⟩⟩⟩
  have s1:Same H (upd H pe (.tup [.int (t + tr.2.2),.int b,.int y])):=Same.new npe
  refine⟨_,rfl,(by show 3≤sizeLine; decide),fun pa npa=>?_⟩
  have s2:=Same.new (o:=.tup [.int tr.2.1,.ref pe,.ref c]) npa
  refine q _ _ ⟨pa,.ref pe,.ref c,rfl,?_,⟨pe,rfl,?_⟩,⟨c,rfl,(s1.trans s2) _ _ hci⟩⟩ (s1.trans s2)
  ·rw[upd_same]
   show some (HO.tup [V.int tr.2.1,_,_])=some (HO.tup [V.int (((W.be.getD b.toNat (0,0,0)).2.1).toNat:Int),_,_])
   rw[eg,Int.toNat_of_nonneg q3]
  ·rw[s2 _ _ upd_same]
   show some (HO.tup [V.int (t + tr.2.2),V.int b,V.int y])=some (HO.tup (triV (t + (W.be.getD b.toNat (0,0,0)).2.2,b,y)))
   rw[eg]
   rfl
end
end Oc
namespace Oc
open PySem L2
def cauD:Cau→PyData
 | none=>.none
 | some c=>.tuple [.int c.1,.int c.2]
def arD (a:AR):PyData:=.tuple [.int (a.s:Int),triD a.e,cauD a.c]
theorem IsCau.dt {K:PySem.W.Frag} {H:Hp} {x:V}:∀ {c:Cau},IsCau H x c→Dt K H 1 x (cauD c)
 | none,h=>by cases h; exact .non 1
 | some _,⟨p,e,q⟩=>by subst e; exact .tup (SqT.of q) (.cons (.int _ _) (.cons (.int _ _) (.nil _)))
theorem IsArr.dt {K:PySem.W.Frag} {H:Hp} {x:V} {a:AR} (h:IsArr H x a):Dt K H 2 x (arD a):=by
 obtain⟨p,xe,xc,rfl,e,r1,r2⟩:=h
 exact .tup (SqT.of e) (.cons (.int _ _) (.cons r1.dt (.cons r2.dt (.nil _))))
theorem eqv_key {a b:AR} (h:PyData.eqv (arD a) (arD b)=true):a.key=b.key:=by
 unfold arD triD at h
 simp only [PyData.eqv,PyData.eqvAll,yK,beq_iff_eq] at h
 obtain⟨_,⟨h1,h2,_⟩,_⟩:=h
 unfold AR.key
 rw[h1,h2]
theorem kLt_le {a b c:Int × Int} (h1:kLt a b=true) (h2:kLt c b=false):kLt a c=true:=by
 have n:¬ (c.1 < b.1∨(c.1=b.1∧c.2 < b.2)):=fun q=>by rw[(kLt_iff c b).mpr q] at h2; cases h2
 rw[kLt_iff] at h1 ⊢
 rcases Int.lt_trichotomy b.1 c.1 with q|q|q
 ·rcases h1 with h|⟨h,_⟩
  ·exact .inl (Int.lt_trans h q)
  ·exact .inl (by rw[h]; exact q)
 ·have g:b.2≤c.2:=kL.mp fun z=>n (.inr ⟨q.symm,z⟩)
  rcases h1 with h|⟨h,h'⟩
  ·exact .inl (by rw[← q]; exact h)
  ·exact .inr ⟨h.trans q,qP h' g⟩
 ·exact absurd (.inl q) n
theorem best_first (ks:List (Int × Int)) (n:Nat):∀ m,m < argBest (fun i j=>kLt (ks.getD i (0,0)) (ks.getD j (0,0))) n→kLt (ks.getD (argBest (fun i j=>kLt (ks.getD i (0,0)) (ks.getD j (0,0))) n) (0,0)) (ks.getD m (0,0))=true:=by
 induction n with
 | zero=>intro m h; exact absurd h (qH _)
 | succ n ih =>
  intro m h
  have hb:=best_lt (fun i j=>kLt (ks.getD i (0,0)) (ks.getD j (0,0))) n
  simp only [argBest] at h ⊢
  by_cases e:kLt (ks.getD (n + 1) (0,0)) (ks.getD (argBest (fun i j=>kLt (ks.getD i (0,0)) (ks.getD j (0,0))) n) (0,0))=true
  ·rw[if_pos e] at h ⊢
   exact kLt_le e (best_min ks n m (by omega))
  ·rw[if_neg e] at h ⊢
   exact ih m h
theorem at_lt {S:CS} {a:AR} (h:S.first=some a):S.at < S.ar.length:=(zC.mp h).1
theorem first_only {S:CS} {a:AR} (h:S.first=some a):∀ m,m < S.at→PyData.eqv ((S.ar.map arD).getD m .none) (arD a)=false:=fun m hm=>by
 have hl:=at_lt h
 have em:S.ar[m]?=some (S.ar[m]'(by omega)):=zB _
 rw[zA,zF,em]
 show PyData.eqv (arD S.ar[m]) (arD a)=false
 cases q:PyData.eqv (arD S.ar[m]) (arD a) with
 | false=>rfl
 | true =>
  have hk:=eqv_key q
  have hb:=best_first (S.ar.map AR.key) ((S.ar.map AR.key).length - 1) m hm
  have e1:(S.ar.map AR.key).getD m (0,0)=(S.ar[m]'(by omega)).key:=by rw[zA,zF,em]; rfl
  have e2:(S.ar.map AR.key).getD S.at (0,0)=a.key:=by
   rw[zA,zF]
   show((S.first).map AR.key).getD _=_
   rw[h]
   rfl
  have hb':kLt ((S.ar.map AR.key).getD S.at (0,0)) ((S.ar.map AR.key).getD m (0,0))=true:=hb
  rw[e1,e2,hk,kLt_irrefl] at hb'
  cases hb'
theorem ar_can (a:AR):(arD a).canLay0=true:=by
 unfold arD triD
 cases a.c <;> rfl
theorem first_is {S:CS} {a:AR} (h:S.first=some a):PyData.eqv ((S.ar.map arD).getD S.at .none) (arD a)=true:=by
 rw[zA,zF]
 show PyData.eqv (((S.first).map arD).getD .none) (arD a)=true
 rw[h]
 exact SeqAt.eqv_refl _ (ar_can a)
end Oc
namespace Oc
open PySem L2
inductive spTr (Pd:Addr) (vs:List V) (H:Hp) (Q:VK) (x_3:XK):Prop where
 | mk (w:Addr) (u:Int) (W:Wk) (M:List (List Cell)) (h_0:vs=[.ref w,.int u]) (h_1:Hc H M) (h_2:NoT M) (h_3:WkIn M w W) (h_4:W.Ok) (h_5:DoorT Pd H) (h_6:u≤60) (h_7:∀(R:CS) (t D1 D2:Addr) (ea oa:List Addr) (evv ogv:List (List V)) (H':Hp),Runs W u W.cs R→CSok W R→Hc H' ([(t,.tup [.ref D1,.ref D2])]::[(D2,.lst (oa.map V.ref))]::liC oa ogv::[(D1,.lst (ea.map V.ref))]::liC ea evv::M)→ea.length=evv.length→oa.length=ogv.length→Paired (fun us ts=>Paired (IsTri H') us ts) evv R.ev→Paired (fun us ts=>Paired (IsCau H') us ts) ogv R.og→Tp Pd H H'→DoorT Pd H'→(∀ us ∈ evv,us.length≤30000)→Q (.ref t) H'):spTr Pd vs H Q x_3
theorem paired_map {α β γ:Type} {F:α→β→Prop} {G:α→γ→Prop} {f:β→γ}:∀ {l:List α} {m:List β},(∀ a,∀ b ∈ m,F a b→G a (f b))→Paired F l m→Paired G l (m.map f)
 | _,_,_,.nil=>.nil
 | _,_,h,.cons p r=>.cons (h _ _ zH p) (paired_map (fun a b hb=>h a b (zJ _ hb)) r)
structure Lp (cs:Cs) (Pd:Addr) (W:Wk) (u:Int) (M:List (List Cell)) (D D1 D2 D3:Addr) (ea oa:List Addr) (H H5:Hp) (S:CS) (srs:List SR) (evv ogv:List (List V)) (xs:List V) (k:Nat):Prop where
 hc:Hc H5 ([(D3,.lst xs)]::[(D2,.lst (oa.map V.ref))]::liC oa ogv::[(D1,.lst (ea.map V.ref))]::liC ea evv::[(D,.lst (srefs srs))]::stC cs srs::M)
 st:srs.map SR.pu=S.st
 so:∀ r ∈ srs,SOk k r
 km:k + S.meas u≤30000
 le:∀ us ∈ evv,us.length≤k
 lo:∀ us ∈ ogv,us.length≤k
 lx:xs.length≤480
 ar:Paired (IsArr H5) xs S.ar
 ev:Paired (fun us ts=>Paired (IsTri H5) us ts) evv S.ev
 og:Paired (fun us ts=>Paired (IsCau H5) us ts) ogv S.og
 ok:CSok W S
 rn:∀ R,Runs W u S R→Runs W u W.cs R
 tp:Tp Pd H H5
 dT:DoorT Pd H5
 l1:ea.length=evv.length
 l2:oa.length=ogv.length
theorem Wk.de_time {W:Wk} (ok:W.Ok) {s:Int} {e:Tri} (h:e ∈ W.de s):0≤e.1∧e.2.1=-1∧∃ f ∈ W.fe,f.1=s∧e=(f.2.1,-1,f.2.2):=by
 unfold Wk.de Wk.dr at h
 obtain⟨p,hp,rfl⟩:=yC.mp h
 obtain⟨f,hf,rfl⟩:=yC.mp hp
 obtain⟨h1,h2⟩:=W.drs_mem hf
 obtain⟨_,_,q3,_⟩:=ok.fee f h1
 exact⟨q3,rfl,f,h1,h2,rfl⟩
theorem ars_in {W:Wk} {n:Nat} {a:AR} (h:a ∈ W.ars n):a.s < n∧a.e ∈ W.de (a.s:Int)∧a.c=none:=by
 unfold Wk.ars at h
 obtain⟨s,hs,ha⟩:=qW.mp h
 obtain⟨e,he,rfl⟩:=yC.mp ha
 exact⟨yU.mp hs,he,rfl⟩
theorem cs_ok {W:Wk} (ok:W.Ok):CSok W W.cs:=by
 refine⟨?_,?_,?_,fun s p hs=>?_,fun a ha=>?_⟩
 ·show((List.range W.st.length).map W.sp).length=_; rw[zD,yZ]
 ·show(W.st.map fun _=>([]:List Tri)).length=_; rw[zD]
 ·show(W.st.map fun _=>([]:List Cau)).length=_; rw[zD]
 ·have hs':((List.range W.st.length).map W.sp)[s]?=some p:=hs
  rw[zF] at hs'
  cases e:(List.range W.st.length)[s]? with
  | none=>rw[e] at hs'; cases hs'
  | some s' =>
   rw[e] at hs'
   cases hs'
   have:s'=s:=by
    have h1:=(zC.mp e).2
    rw[j3] at h1
    exact h1.symm
   rw[this]
   exact⟨rfl,rfl⟩
 ·obtain⟨h1,h2,_⟩:=ars_in ha
  obtain⟨_,h3,f,hf,h4,_⟩:=W.de_time ok h2
  refine⟨h1,?_⟩
  rw[h3]
  unfold Wk.wy
  rw[if_pos (List.any_eq_true.mpr ⟨f,hf,by simpa using h4⟩)]
  exact yV _ zH
theorem sum_le {α:Type} {f:α→Nat} {l:List α} {b:Nat} (h:∀ x ∈ l,f x≤b):(l.map f).sum≤l.length * b:=by
 induction l with
 | nil=>exact z5 _
 | cons x l ih =>
  have h1:=h x zH
  have h2:=ih fun y hy=>h y (zJ _ hy)
  rw[yG,y7,zX,vG,vF]
  omega
theorem meas0 {W:Wk} (ok:W.Ok) {u:Int} (hu:u≤60) (h1:(W.ars W.st.length).length≤480):W.cs.meas u≤30000:=by
 have h2:((W.ars W.st.length).map (arM u)).sum≤(W.ars W.st.length).length * 62:=sum_le fun a ha=>by
  obtain⟨_,h2,_⟩:=ars_in ha
  obtain⟨h3,_⟩:=W.de_time ok h2
  show(u + 2 - a.e.1).toNat≤62
  omega
 show((W.ars W.st.length).map (arM u)).sum≤30000
 have h3:(W.ars W.st.length).length * 62≤480 * 62:=Nat.mul_le_mul_right _ h1
 omega
section
variable {P:Program} {w:World} {K:PySem.W.Frag} {mg:Str→Option Value} {base:Heap}
theorem sc_tr:FnScope ["works","until","takers","events","origins","arrivals","first","station","event","put"] ["works","until"] (defScope (top 29)):=⟨rfl,rfl,rfl,by decide +kernel,rfl,by decide +kernel,by decide +kernel⟩
theorem ok_tr {f fR Pd:Addr} {cs:Cs} {fd:FuncData} (F:Fun K "traced" "traced" (top 29) f fd) (T:Txt K mg) (cc:CsOk K cs) (aV:FnAt P w K mg base 4 "station_of" ["works","station"] (spSo cs)) (bZ:FnAt P w K mg base 3 "at_doors" ["works"] (spAtD Pd))
  (aW:FnAt P w K mg base 1 "arrival_of" ["works","put","time","cause"] spArr) (rf:mg "rank"=some (.ref fR)) (qv:∀ A:Around,A.depth < recursionLimit→PairFn P w K A.in1 fR) (G_take:∀ k,MethAt P w K mg base 2 (cs.of k) "take" ["self","way","piece"] (spTk cs k)) :
  FnOk P w K mg base CX0 5 f fd ["works","until"] (spTr Pd):=by
 have nd:=sc_tr.nd
 refine F.ok sc_tr (fun vs H Q E h=>?_) (fun cdv A outer s H vs Q E hr h=>?_)
 ·obtain⟨w,u,W,M,rfl,_⟩:=h
  rfl
 ·obtain⟨w,u,W,M,rfl,hc,nT,hw,ok,hT,hu,q⟩:=h
  have hw0:=hw H hc
  obtain⟨sa,ba,fa,xs0,ys0,zs0,h1,h2⟩:=id hw0.ex
  have ls:=h2.ps.length
  have s8:=ok.s8
  refine⟨_,(@pss_cons _ _ _ _ _ (ps_setC (i:=2) nd rfl (Or.inl rfl) rfl (own:=["station"]) (fr:=["works"]) (js:=[0]) (by and_intros) (pi_range1 rfl T.n_range (@pa_cons _ _ _ _ _ (pe_callB (call_len_seqK (K:=K) rfl) (by rfl) T.n_len bt_len (@pa_cons _ _ _ _ _ (@pe_ix _ _ _ _ _ _ _ (ix_tupK (K:=K) rfl) (pv 0) pe_int (fun _ _=>rfl)) pa_nil (by rfl))) pa_nil (by rfl))) (fun _ _ _ _=>(pg_name (i:=0) (show List.Nodup (["station","works"]:List Str) from by decide +kernel) rfl (by nofun))) (fun _ _ _ _=>pts_nil) (fun _ _ _ _=>(pe_fn aV (hr.mono (by decide)) (by rfl) (@pa_cons _ _ _ _ _ (pv 1) (@pa_cons _ _ _ _ _ (pv 0) pa_nil (by rfl)) (by rfl)))))
   (@pss_cons _ _ _ _ _ (ps_setC (i:=3) nd rfl (Or.inl rfl) rfl (own:=["taker"]) (fr:=[]) (js:=[]) (by and_intros) (pi_listK (K:=K) rfl (pv 2)) (fun _ _ _ _=>(pg_name (i:=0) (show List.Nodup (["taker"]:List Str) from by decide +kernel) rfl (by nofun))) (fun _ _ _ _=>pts_nil) (fun _ _ _ _=>(@pe_lst _ _ _ _ pa_nil)))
   (@pss_cons _ _ _ _ _ (ps_setC (i:=4) nd rfl (Or.inl rfl) rfl (own:=["taker"]) (fr:=[]) (js:=[]) (by and_intros) (pi_listK (K:=K) rfl (pv 2)) (fun _ _ _ _=>(pg_name (i:=0) (show List.Nodup (["taker"]:List Str) from by decide +kernel) rfl (by nofun))) (fun _ _ _ _=>pts_nil) (fun _ _ _ _=>(@pe_lst _ _ _ _ pa_nil)))
   (@pss_cons _ _ _ _ _ (ps_set (i:=5) nd rfl (by nofun) (pe_fn bZ (hr.mono (by decide)) (by rfl) (@pa_cons _ _ _ _ _ (pv 0) pa_nil (by rfl))))
   (@pss_cons _ _ _ _ _ (ps_while PassesOwn.never (pt_cmpR op_gt (pe_callB (call_len_seqK (K:=K) rfl) (by rfl) T.n_len bt_len (@pa_cons _ _ _ _ _ (pv 5) pa_nil (by rfl))) pe_int (nomark _)) (@pss_cons _ _ _ _ _ (ps_set (i:=6) nd rfl (by nofun) (pe_minKF rfl hr (by rfl) T.n_min bt_min (by rfl) rf (qv _ hr.depth) (pv 5)))
   (@pss_cons _ _ _ _ _ (ps_set (i:=7) nd rfl (by nofun) (@pe_ix _ _ _ _ _ _ _ (ix_tupK (K:=K) rfl) (pv 6) pe_int (fun _ _=>rfl)))
   (@pss_cons _ _ _ _ _ (ps_set (i:=8) nd rfl (by nofun) (@pe_ix _ _ _ _ _ _ _ (ix_tupK (K:=K) rfl) (pv 6) pe_int (fun _ _=>rfl)))
   (@pss_cons _ _ _ _ _ (ps_if (pt_cmpR op_gt (@pe_ix _ _ _ _ _ _ _ (ix_tupK (K:=K) rfl) (pv 8) pe_int (fun _ _=>rfl)) (pv 1) (nomark _)) (@pss_one _ _ _ ps_break) pss_nil)
   (@pss_cons _ _ _ _ _ (ps_expr (pe_bm PySem.F.plainAttrs_list PySem.F.slot_list_remove PySem.F.type_list_remove (mt_remove hr.units) (pv 5) (@pa_cons _ _ _ _ _ (pv 6) pa_nil (by rfl))))
   (@pss_cons _ _ _ _ _ (ps_set (i:=9) nd rfl (by nofun) (pe_mthU (cls:=cs.of) (sp:=spTk cs) G_take (hr.mono (by decide)) (@pe_ix _ _ _ _ _ _ _ (ix_listK (K:=K) rfl) (pv 2) (pv 7) (fun _ _=>rfl)) (@pa_cons _ _ _ _ _ (@pe_ix _ _ _ _ _ _ _ (ix_tupK (K:=K) rfl) (pv 8) pe_int (fun _ _=>rfl)) (@pa_cons _ _ _ _ _ (@pe_ix _ _ _ _ _ _ _ (ix_tupK (K:=K) rfl) (pv 8) pe_int (fun _ _=>rfl)) pa_nil (by rfl)) (by rfl))))
   (@pss_cons _ _ _ _ _ (ps_if (pt_cmpR op_notN (pv 9) pe_non (nomark _)) (@pss_one _ _ _ (ps_expr (pe_bm PySem.F.plainAttrs_list PySem.F.slot_list_append PySem.F.type_list_append mt_append (pv 5) (@pa_cons _ _ _ _ _ (pe_fn aW (hr.mono (by decide)) (by rfl) (@pa_cons _ _ _ _ _ (pv 0) (@pa_cons _ _ _ _ _ (pv 9) (@pa_cons _ _ _ _ _ (@pe_ix _ _ _ _ _ _ _ (ix_tupK (K:=K) rfl) (pv 8) pe_int (fun _ _=>rfl)) (@pa_cons _ _ _ _ _ (@pe_tup _ _ _ _ _ (@pa_cons _ _ _ _ _ (pv 7) (@pa_cons _ _ _ _ _ (pe_callB (call_len_seqK (K:=K) rfl) (by rfl) T.n_len bt_len (@pa_cons _ _ _ _ _ (@pe_ix _ _ _ _ _ _ _ (ix_listK (K:=K) rfl) (pv 3) (pv 7) (fun _ _=>rfl)) pa_nil (by rfl))) pa_nil (by rfl)) (by rfl))) pa_nil (by rfl)) (by rfl)) (by rfl)) (by rfl))) pa_nil (by rfl))))) pss_nil)
   (@pss_cons _ _ _ _ _ (ps_expr (pe_bm PySem.F.plainAttrs_list PySem.F.slot_list_append PySem.F.type_list_append mt_append (@pe_ix _ _ _ _ _ _ _ (ix_listK (K:=K) rfl) (pv 3) (pv 7) (fun _ _=>rfl)) (@pa_cons _ _ _ _ _ (pv 8) pa_nil (by rfl))))
   (@pss_one _ _ _ (ps_expr (pe_bm PySem.F.plainAttrs_list PySem.F.slot_list_append PySem.F.type_list_append mt_append (@pe_ix _ _ _ _ _ _ _ (ix_listK (K:=K) rfl) (pv 4) (pv 7) (fun _ _=>rfl)) (@pa_cons _ _ _ _ _ (@pe_ix _ _ _ _ _ _ _ (ix_tupK (K:=K) rfl) (pv 6) pe_int (fun _ _=>rfl)) pa_nil (by rfl))))))))))))))
   (@pss_one _ _ _ (@ps_ret _ _ _ _ (@pe_tup _ _ _ _ _ (@pa_cons _ _ _ _ _ (pv 3) (@pa_cons _ _ _ _ _ (pv 4) pa_nil (by rfl)) (by rfl)))))))))),?_⟩
  refine⟨_,rfl,⟨_,_,_,_,rfl,rfl,SqT.of h1,(atI_nat (j:=0) rfl),sa,xs0,rfl,.inl (SqL.of h2.hs),_,rfl,by rw[p62]; omega,by rw[p62]; omega,fun D nD=>?_⟩⟩
  refine comp_range (lo:=0) (n:=(xs0.length:Int).toNat) (fun i H4=>∃ srs:List SR,Same H H4∧Hc H4 ([(D,.lst (srefs srs))]::stC cs srs::M)∧srs.length=i∧∀ j r,srs[j]?=some r→Made W j r) ⟨[],Same.new nD,(hc.new nD (.lst [])).pad.swap,rfl,fun j r h=>by cases h⟩ ?_ ?_
  ·rintro i H4 m Wf hi ⟨srs,s4,hc4,l4,mk4⟩ nx
   rw[qD]
   refine⟨_,rfl,_,rfl,w,W,i,_,rfl,hw0.same s4,ok,by omega,hc4,fun r H5 s5 hc5 mk=>?_⟩
   have g5:=hc5.get 1 0 rfl rfl
   refine⟨_,g5,small1000 (by unfold srefs; rw[zD]; omega),nx _ ⟨srs++[r],(s4.trans s5).upd nD,?_,by rw[zM,l4]; rfl,getAll_snoc mk4 (by rw[l4]; exact mk)⟩⟩
   have:=hc5.put 1 0 rfl rfl (.lst (srefs srs++[.ref r.x]))
   rw[show srefs (srs++[r])=srefs srs++[.ref r.x] from zL,stC_snoc]
   exact(Hc.join (this.pick 2 rfl)).swap
  ·rintro H4 ⟨srs,s4,hc4,l4,mk4⟩
   have lsr:srs.length=W.st.length:=by omega
   have hD4:=hc4.get 0 0 rfl rfl
   have lsf:(srefs srs).length=srs.length:=zD _
   refine⟨_,rfl,D,rfl,⟨_,SqL.of hD4⟩,fun D1 nD1=>?_⟩
   refine comp_list (a:=D) (xs:=srefs srs) (fun i H5=>∃ ea:List Addr,Same H4 H5∧Hc H5 ([(D1,.lst (ea.map V.ref))]::liC ea (ea.map fun _=>[])::[(D,.lst (srefs srs))]::stC cs srs::M)∧ea.length=i)
    ⟨[],Same.new nD1,(hc4.new nD1 (.lst [])).pad.swap,rfl⟩ (fun i H5 _ ⟨_,s5,_⟩=>SqL.of (s5 _ _ hD4)) ?_ ?_
   ·rintro i x H5 m Wf hx ⟨ea,s5,hc5,l5⟩ nx
    have hi:=(zC.mp hx).1
    refine⟨z5 _,fun pn npn=>?_⟩
    have hc6:=hc5.new npn (.lst [])
    have g6:=hc6.get 1 0 rfl rfl
    refine⟨_,g6,small1000 (by rw[zD]; omega),nx _ ⟨ea++[pn],(s5.trans (Same.new npn)).upd nD1,?_,by rw[zM,l5]; rfl⟩⟩
    have:=hc6.put 1 0 rfl rfl (.lst (ea.map V.ref++[.ref pn]))
    rw[zL,zL]
    have e:=liC_snoc (ls:=ea) (vs:=ea.map fun _=>[]) (by rw[zD]) pn []
    show Hc _ (_::liC (ea++[pn]) ((ea.map fun _=>[])++[[]])::_)
    rw[e]
    exact(Hc.join (this.pick 2 rfl)).swap
   ·rintro H5 ⟨ea,s5,hc5,l5⟩
    have hD5:=hc5.get 2 0 rfl rfl
    refine⟨_,rfl,D,rfl,⟨_,SqL.of hD5⟩,fun D2 nD2=>?_⟩
    refine comp_list (a:=D) (xs:=srefs srs) (fun i H6=>∃ oa:List Addr,Same H5 H6∧Hc H6 ([(D2,.lst (oa.map V.ref))]::liC oa (oa.map fun _=>[])::[(D1,.lst (ea.map V.ref))]::liC ea (ea.map fun _=>[])::[(D,.lst (srefs srs))]::stC cs srs::M)∧oa.length=i)
     ⟨[],Same.new nD2,(hc5.new nD2 (.lst [])).pad.swap,rfl⟩ (fun i H6 _ ⟨_,s6,_⟩=>SqL.of (s6 _ _ hD5)) ?_ ?_
    ·rintro i x H6 m Wf hx ⟨oa,s6,hc6,l6⟩ nx
     have hi:=(zC.mp hx).1
     refine⟨z5 _,fun pn npn=>?_⟩
     have hc7:=hc6.new npn (.lst [])
     have g7:=hc7.get 1 0 rfl rfl
     refine⟨_,g7,small1000 (by rw[zD]; omega),nx _ ⟨oa++[pn],(s6.trans (Same.new npn)).upd nD2,?_,by rw[zM,l6]; rfl⟩⟩
     have:=hc7.put 1 0 rfl rfl (.lst (oa.map V.ref++[.ref pn]))
     rw[zL,zL]
     have e:=liC_snoc (ls:=oa) (vs:=oa.map fun _=>[]) (by rw[zD]) pn []
     show Hc _ (_::liC (oa++[pn]) ((oa.map fun _=>[])++[[]])::_)
     rw[e]
     exact(Hc.join (this.pick 2 rfl)).swap
    ·rintro H6 ⟨oa,s6,hc6,l6⟩
     have S06:=s4.trans (s5.trans s6)
     have nT6:NoT ([(D2,.lst (oa.map V.ref))]::liC oa (oa.map fun _=>[])::[(D1,.lst (ea.map V.ref))]::liC ea (ea.map fun _=>[])::[(D,.lst (srefs srs))]::stC cs srs::M):=((((nT.cons (noT_st cs srs)).lst).cons noT_rows).lst.cons noT_rows).lst
     refine⟨_,rfl,w,W,_,rfl,hc6,nT6,hw0.same S06,ok,hT.same S06,fun D3 xs H7 hc7 pr7 sm7 hT7 l480=>?_⟩
     have lx7:=pr7.length
     have L0:Lp cs Pd W u M D D1 D2 D3 ea oa H H7 W.cs srs (ea.map fun _=>[]) (oa.map fun _=>[]) xs 0:=by
      refine⟨hc7,?_,fun r hr'=>?_,by have:=meas0 ok hu (by omega); omega,fun us hus=>?_,fun us hus=>?_,l480,pr7,pairs_nil .nil (by omega),pairs_nil .nil (by omega),cs_ok ok,fun R r=>r,(Tp.of S06).trans (Tp.sm sm7),hT7,by rw[zD],by rw[zD]⟩
      ·refine qT fun i=>?_
       show(srs.map SR.pu)[i]?=((List.range W.st.length).map W.sp)[i]?
       rw[zF,zF]
       cases e:srs[i]? with
       | none =>
        have:=qY.mp e
        rw[yE (by rw[yZ]; omega)]
        rfl
       | some r =>
        have hi:=(zC.mp e).1
        rw[yX (by omega)]
        show some r.pu=some (W.sp i)
        rw[(mk4 i r e).pu]
      ·obtain⟨j,hj⟩:=yN hr'
       exact(mk4 j r hj).ok
      ·obtain⟨_,_,rfl⟩:=yC.mp hus; exact zI _
      ·obtain⟨_,_,rfl⟩:=yC.mp hus; exact zI _
     refine⟨fun m σ H5=>∃(S:CS) (srs:List SR) (evv ogv:List (List V)) (xs:List V) (k:Nat) (v6 v7 v8 v9:Option V),σ=[some (.ref w),some (.int u),some (.ref D),some (.ref D1),some (.ref D2),some (.ref D3),v6,v7,v8,v9]∧m=S.meas u∧Lp cs Pd W u M D D1 D2 D3 ea oa H H5 S srs evv ogv xs k,
      ⟨_,_,_,_,_,_,_,_,_,_,_,rfl,rfl,L0⟩,?_⟩
     clear L0 hc7 pr7 lx7 l480 xs sm7 hT7 nT6 hc6 l6 s6 hD5 hc5 s5 hD4 lsf hc4 mk4 s4 S06
     rintro m σ H8 ⟨S,srs',evv,ogv,xs,k,v6,v7,v8,v9,rfl,rfl,L⟩
     have hD3:=L.hc.get 0 0 rfl rfl
     have lxa:=L.ar.length
     refine⟨_,rfl,D3,xs,rfl,.inl (SqL.of hD3),_,_,rfl,rfl,_,rfl,?_⟩
     refine iteB (fun hb=>?_) (fun hb=>?_)
     rotate_left
     ·-- nothing is left
      have hb':¬ (0:Int) < (xs.length:Int):=of_decide_eq_false hb
      have hs:∀ a,S.first=some a→u < a.e.1:=fun a ha=>by have:=at_lt ha; omega
      refine⟨_,rfl,_,rfl,(by show 2≤sizeLine; decide),fun t nt=>?_⟩
      have sT:Same H8 (upd H8 t (.tup [.ref D1,.ref D2])):=Same.new nt
      have hcF:=(((L.hc.tl).pick 4 rfl).tl.pick 4 rfl).tl.new nt (.tup [.ref D1,.ref D2])
      exact q S t D1 D2 ea oa evv ogv _ (L.rn S (.stop hs)) L.ok hcF L.l1 L.l2 (evs_tp (Pd:=Pd) (Tp.of sT) L.ev) (ogs_tp (Pd:=Pd) (Tp.of sT) L.og) (L.tp.trans (Tp.of sT)) (L.dT.same sT) (fun us hus=>by have:=L.le us hus; have:=L.km; omega)
     have hb':(0:Int) < (xs.length:Int):=of_decide_eq_true hb
     refine⟨fun σ' H'=>∃ m',m' < S.meas u∧∃(S:CS) (srs:List SR) (evv ogv:List (List V)) (xs:List V) (k:Nat) (v6 v7 v8 v9:Option V),σ'=[some (.ref w),some (.int u),some (.ref D),some (.ref D1),some (.ref D2),some (.ref D3),v6,v7,v8,v9]∧m'=S.meas u∧Lp cs Pd W u M D D1 D2 D3 ea oa H H' S srs evv ogv xs k,fun _ _ h=>h,?_⟩
     refine⟨_,rfl,D3,xs,S.ar.map AR.key,rfl,SqL.of hD3,by rw[zD]; omega,(fun e=>by rw[e] at hb'; exact absurd hb' (by decide)),fun j x kk hj hk=>?_,fun x hx=>?_⟩
     ·obtain⟨a,ha,p,xe,xc,rfl,e,⟨p2,rfl,e2⟩,_⟩:=L.ar.gt hj
      rw[zF,ha] at hk
      cases hk
      exact⟨p,_,p2,_,rfl,SqT.of e,rfl,SqT.of e2,rfl,rfl⟩
     obtain⟨a,ha,p,xe,xc,rfl,hp,⟨pe,rfl,hpe⟩,hcau⟩:=L.ar.gt hx
     replace ha:S.first=some a:=ha
     have harr:IsArr H8 (.ref p) a:=⟨p,.ref pe,xc,rfl,hp,⟨pe,rfl,hpe⟩,hcau⟩
     refine⟨_,rfl,⟨_,_,_,_,rfl,rfl,SqT.of hp,atI_nat (j:=0) rfl,_,rfl,⟨_,_,_,_,rfl,rfl,SqT.of hp,atI_nat (j:=1) rfl,?_⟩⟩⟩
     refine⟨_,rfl,⟨_,_,_,_,rfl,rfl,SqT.of hpe,atI_nat (j:=0) rfl,_,rfl,_,_,rfl,rfl,_,rfl,?_⟩⟩
     refine iteB (fun hgt=>?_) (fun hgt=>?_)
     ·-- beyond the moment
      have hs:∀ a',S.first=some a'→u < a'.e.1:=fun a' ha'=>by rw[ha] at ha'; cases ha'; exact of_decide_eq_true hgt
      refine⟨_,rfl,_,rfl,(by show 2≤sizeLine; decide),fun t nt=>?_⟩
      have sT:Same H8 (upd H8 t (.tup [.ref D1,.ref D2])):=Same.new nt
      have hcF:=(((L.hc.tl).pick 4 rfl).tl.pick 4 rfl).tl.new nt (.tup [.ref D1,.ref D2])
      exact q S t D1 D2 ea oa evv ogv _ (L.rn S (.stop hs)) L.ok hcF L.l1 L.l2 (evs_tp (Pd:=Pd) (Tp.of sT) L.ev) (ogs_tp (Pd:=Pd) (Tp.of sT) L.og) (L.tp.trans (Tp.of sT)) (L.dT.same sT) (fun us hus=>by have:=L.le us hus; have:=L.km; omega)
     have hle:a.e.1≤u:=kL.mp (of_decide_eq_false hgt)
     refine⟨_,rfl,tyL hD3,_,rfl,D3,xs,.ref p,S.ar.map arD,arD a,2,S.at,rfl,rfl,hD3,paired_map (fun _ _ _ h=>h.dt) L.ar,harr.dt,by decide,by have:=at_lt ha; omega,first_is ha,first_only ha,?_⟩
     have hc9:=L.hc.put 0 0 rfl rfl (.lst (xs.eraseIdx S.at))
     have tp9:Tp Pd H8 (upd H8 D3 (.lst (xs.eraseIdx S.at))):=(Tp.refl _).put hD3
     have dT9:DoorT Pd (upd H8 D3 (.lst (xs.eraseIdx S.at))):=L.dT.updL hD3
     generalize (upd H8 D3 (.lst (xs.eraseIdx S.at)))=H9 at hc9 tp9 dT9 ⊢
     have ham:=zE ha
     obtain⟨hs1,hs2⟩:=L.ok.ar a ham
     have lst:srs'.length=W.st.length:=by rw[← L.ok.l1,← L.st,zD]
     obtain⟨r,hr'⟩:∃ r,srs'[a.s]?=some r:=⟨srs'[a.s]'(by omega),zB _⟩
     have hpu:S.st[a.s]?=some r.pu:=by rw[← L.st,zF,hr']; rfl
     have hgd:S.st.getD a.s sp0=r.pu:=by rw[zA,hpu]; rfl
     have hws:r.ws=W.wy a.s:=(L.ok.ws _ _ hpu).1
     have hbs:r.bs=W.lv a.s:=(L.ok.ws _ _ hpu).2
     have hjm:r.ws[r.ws.idxOf a.e.2.1]?=some a.e.2.1:=by
      have hlt:r.ws.idxOf a.e.2.1 < r.ws.length:=kT.mpr (by rw[hws]; exact hs2)
      rw[zB hlt,List.getElem_idxOf]
     have hpe9:=tp9.tup hpe
     obtain⟨A',B',eAB,lA⟩:=cut_at hr'
     have hcT:=st_take (by rw[← eAB]; exact hc9.pick 6 rfl)
     have hk3:=L.km
     refine⟨_,rfl,_,rfl,⟨_,_,_,_,rfl,rfl,SqL.of (hc9.get 5 0 rfl rfl),atI_nat (srefs_at hr'),r.x,r.k,r.dx,_,rfl,hcT.get 0 0 rfl rfl,r.flds_no (by decide +kernel) (by decide +kernel) (by decide +kernel) (by decide +kernel) (by decide +kernel) (by decide +kernel),_,rfl,⟨_,_,_,_,rfl,rfl,SqT.of hpe9,atI_nat (j:=1) rfl,_,rfl,⟨_,_,_,_,rfl,rfl,SqT.of hpe9,atI_nat (j:=2) rfl,?_⟩⟩⟩⟩
     refine⟨r,r.ws.idxOf a.e.2.1,k,a.e.2.1,a.e.2.2,_,rfl,rfl,hcT,L.so r (zE hr'),by omega,hjm,fun v ft H10 hput hc10 tk10=>?_⟩
     have tp10:=tp9.trans (Tp.tk tk10)
     have dT10:=dT9.tk tk10
     have eset:srs'.set a.s (r.nxt (r.ws.idxOf a.e.2.1) a.e.2.2)=A'++r.nxt (r.ws.idxOf a.e.2.1) a.e.2.2::B':=by rw[eAB,← lA]; exact set_cut
     have erefs:srefs (srs'.set a.s (r.nxt (r.ws.idxOf a.e.2.1) a.e.2.2))=srefs srs':=map_set_same hr' (by rw[(r.nxt_x _ _).1])
     have hcS:Hc H10 (ft::[(D3,.lst (xs.eraseIdx S.at))]::[(D2,.lst (oa.map V.ref))]::liC oa ogv::[(D1,.lst (ea.map V.ref))]::liC ea evv::[(D,.lst (srefs (srs'.set a.s (r.nxt (r.ws.idxOf a.e.2.1) a.e.2.2))))]::stC cs (srs'.set a.s (r.nxt (r.ws.idxOf a.e.2.1) a.e.2.2))::M):=by
      rw[erefs,eset]
      have h1:Hc H10 (srC cs (r.nxt (r.ws.idxOf a.e.2.1) a.e.2.2)::(stC cs A'++stC cs B')::ft::[(D3,.lst (xs.eraseIdx S.at))]::[(D2,.lst (oa.map V.ref))]::liC oa ogv::[(D1,.lst (ea.map V.ref))]::liC ea evv::[(D,.lst (srefs srs'))]::M):=(hc10.pick 2 rfl).pick 2 rfl
      have h2:=st_back h1
      exact((((((((h2.pick 7 rfl).pick 7 rfl).pick 7 rfl).pick 7 rfl).pick 7 rfl).pick 7 rfl).pick 7 rfl))
     clear hc10 hcT
     obtain⟨us,hus⟩:∃ us,evv[a.s]?=some us:=⟨evv[a.s]'(by have:=L.ev.length; have:=L.ok.l2; omega),zB _⟩
     obtain⟨os,hos⟩:∃ os,ogv[a.s]?=some os:=⟨ogv[a.s]'(by have:=L.og.length; have:=L.ok.l3; omega),zB _⟩
     obtain⟨la',hla⟩:=get_like L.l1.symm hus
     obtain⟨lo',hlo⟩:=get_like L.l2.symm hos
     obtain⟨tu,htu,hpu1⟩:=L.ev.gt hus
     obtain⟨to,hto,hpo1⟩:=L.og.gt hos
     have eu:S.ev.getD a.s []=tu:=by rw[zA,htu]; rfl
     have eo:S.og.getD a.s []=to:=by rw[zA,hto]; rfl
     have lus:=L.le us (zE hus)
     have los:=L.lo os (zE hos)
     have ltu:=hpu1.length
     have fin:∀(xs':List V) (H11:Hp) (v9':Option V),Hc H11 ([(D3,.lst xs')]::[(D2,.lst (oa.map V.ref))]::liC oa ogv::[(D1,.lst (ea.map V.ref))]::liC ea evv::[(D,.lst (srefs (srs'.set a.s (r.nxt (r.ws.idxOf a.e.2.1) a.e.2.2))))]::stC cs (srs'.set a.s (r.nxt (r.ws.idxOf a.e.2.1) a.e.2.2))::M)→Tp Pd H8 H11→DoorT Pd H11 →
       Paired (IsArr H11) xs' (S.step W a).ar→xs'.length≤480 →
       (∃ hl:H11 la'=some (.lst us),∃ hl2:(upd H11 la' (.lst (us++[.ref pe]))) lo'=some (.lst os),∃ m',m' < S.meas u∧∃(S:CS) (srs:List SR) (evv ogv:List (List V)) (xs:List V) (k:Nat) (v6 v7 v8 v9:Option V),[some (.ref w),some (.int u),some (.ref D),some (.ref D1),some (.ref D2),some (.ref D3),some (V.ref p),some (V.int (a.s:Int)),some (V.ref pe),v9']=[some (.ref w),some (.int u),some (.ref D),some (.ref D1),some (.ref D2),some (.ref D3),v6,v7,v8,v9]∧m'=S.meas u∧Lp cs Pd W u M D D1 D2 D3 ea oa H (upd (upd H11 la' (.lst (us++[.ref pe]))) lo' (.lst (os++[xc]))) S srs evv ogv xs k):=by
      intro xs' H11 v9' hc11 tp11 dT11 par11 l11
      have hl:H11 la'=some (.lst us):=hc11.get 4 a.s rfl (li_cell hla hus)
      have hc12:=hc11.put 4 a.s rfl (li_cell hla hus) (.lst (us++[.ref pe]))
      rw[liC_set hla] at hc12
      have t12:Tp Pd H11 (upd H11 la' (.lst (us++[.ref pe]))):=(Tp.refl _).put hl
      have d12:DoorT Pd (upd H11 la' (.lst (us++[.ref pe]))):=dT11.updL hl
      have hl2:(upd H11 la' (.lst (us++[.ref pe]))) lo'=some (.lst os):=hc12.get 2 a.s rfl (li_cell hlo hos)
      have hc13:=hc12.put 2 a.s rfl (li_cell hlo hos) (.lst (os++[xc]))
      rw[liC_set hlo] at hc13
      have t13:Tp Pd (upd H11 la' (.lst (us++[.ref pe]))) (upd (upd H11 la' (.lst (us++[.ref pe]))) lo' (.lst (os++[xc]))):=(Tp.refl _).put hl2
      have d13:=d12.updL (o:=.lst (os++[xc])) hl2
      have tp:=(tp11.trans t12).trans t13
      have ms:=CS.meas_step ok L.ok ha hle
      refine⟨hl,hl2,_,ms,S.step W a,srs'.set a.s (r.nxt (r.ws.idxOf a.e.2.1) a.e.2.2),evv.set a.s (us++[.ref pe]),ogv.set a.s (os++[xc]),xs',k + 1,_,_,_,_,rfl,rfl,?_⟩
      refine⟨hc13,?_,?_,by omega,all_set (fun z hz=>j4 (L.le z hz)) (by rw[zM]; exact j9 lus),all_set (fun z hz=>j4 (L.lo z hz)) (by rw[zM]; exact j9 los),l11,
       pairedMono (fun _ _ h=>IsArr.tp (t12.trans t13) h) par11,?_,?_,CSok.step ok L.ok ha,fun R rr=>L.rn R (.step a ha hle rr),L.tp.trans tp,d13,by rw[z4]; exact L.l1,by rw[z4]; exact L.l2⟩
      ·rw[jE,L.st,SR.nxt_pu]
       show _=S.st.set a.s ((S.st.getD a.s sp0).nxt ((S.st.getD a.s sp0).ws.idxOf a.e.2.1) a.e.2.2)
       rw[hgd]
       rfl
      ·exact all_set (fun z hz=>(L.so z hz).le (y3 _)) ((L.so r (zE hr')).nxt _ _)
      ·show Paired _ _ (S.ev.set a.s (S.ev.getD a.s []++[a.e]))
       rw[eu]
       exact paired_set (evs_tp tp L.ev) (paired_app (pairedMono (fun _ _ h=>IsTri.tp tp h) hpu1) (.cons ⟨pe,rfl,tp.tup hpe⟩ .nil))
      ·show Paired _ _ (S.og.set a.s (S.og.getD a.s []++[a.c]))
       rw[eo]
       exact paired_set (ogs_tp tp L.og) (paired_app (pairedMono (fun _ _ h=>IsCau.tp tp h) hpo1) (.cons (hcau.tp tp) .nil))
     have lex:(xs.eraseIdx S.at).length≤479:=by
      have:=List.length_eraseIdx_of_lt (l:=xs) (i:=S.at) (by have:=at_lt ha; omega)
      have:=L.lx
      omega
     have p10:Paired (IsArr H10) (xs.eraseIdx S.at) (S.ar.eraseIdx S.at):=pairedMono (fun _ _ h=>IsArr.tp tp10 h) (paired_erase L.ar)
     have hstep:(S.step W a).ar=S.ar.eraseIdx S.at++putA W (r.out (r.ws.idxOf a.e.2.1) a.e.2.2) a.e.1 ((a.s:Int),(us.length:Int)):=by
      show S.ar.eraseIdx S.at++putA W ((S.st.getD a.s sp0).out ((S.st.getD a.s sp0).ws.idxOf a.e.2.1) a.e.2.2) a.e.1 ((a.s:Int),((S.ev.getD a.s []).length:Int))=_
      rw[hgd,eu,ltu]
      rfl
     have hout:∀ b y,r.out (r.ws.idxOf a.e.2.1) a.e.2.2=some (b,y)→0≤b∧b < W.be.length:=fun b y e=>by
      have:=SP.out_in (p:=r.pu) e
      rw[show r.pu.bs=r.bs from rfl,hbs] at this
      obtain⟨x1,x2,_⟩:=Wk.lv_goal ok this
      exact⟨x1,x2⟩
     generalize r.out (r.ws.idxOf a.e.2.1) a.e.2.2=oo at hput hstep hout
     cases hput with
     | no =>
      refine⟨_,rfl,rfl,_,rfl,iteF ?_⟩
      obtain⟨hl,hl2,fn⟩:=fin (xs.eraseIdx S.at) H10 (some .non) hcS.tl tp10 dT10 (by rw[hstep]; show Paired _ _ (_++[]); rw[zP]; exact p10) (by omega)
      have gD1:=hcS.get 4 0 rfl rfl
      have gD2:(upd H10 la' (.lst (us++[.ref pe]))) D2=some (.lst (oa.map V.ref)):=by
       have:=(hcS.put 5 a.s rfl (li_cell hla hus) (.lst (us++[.ref pe]))).get 2 0 rfl rfl
       exact this
      refine⟨_,rfl,_,rfl,⟨_,_,_,_,rfl,rfl,SqL.of gD1,atI_nat (refs_at hla),tyL hl,_,rfl,_,_,_,rfl,rfl,hl,smallM (by omega),?_⟩⟩
      refine⟨_,rfl,_,rfl,⟨_,_,_,_,rfl,rfl,SqL.of gD2,atI_nat (refs_at hlo),tyL hl2,_,rfl,⟨_,_,_,_,rfl,rfl,SqT.of ((Tp.put tp10 hl).tup hp),atI_nat (j:=2) rfl,_,_,_,rfl,rfl,hl2,smallM (by omega),?_⟩⟩⟩
      exact fn
     | yes b y t =>
      refine⟨_,rfl,rfl,_,rfl,iteT ?_⟩
      obtain⟨b0,b1⟩:=hout b y rfl
      have gD3:=hcS.get 1 0 rfl rfl
      have gD1:=hcS.get 4 0 rfl rfl
      have gla:=hcS.get 5 a.s rfl (li_cell hla hus)
      have gt:=hcS.get 0 0 rfl rfl
      have hw10:=hw H10 (hc_drop (As:=[_,_,_,_,_,_,_,_]) hcS)
      refine⟨_,rfl,tyL gD3,_,rfl,_,rfl,_,rfl,⟨_,_,_,_,rfl,rfl,SqT.of (tp10.tup hpe),atI_nat (j:=0) rfl,_,rfl,_,rfl,_,rfl,⟨_,_,_,_,rfl,rfl,SqL.of gD1,atI_nat (refs_at hla),la',us,rfl,.inl (SqL.of gla),(by show 2≤sizeLine; decide),fun pc npc=>?_⟩⟩⟩
      have s11:Same H10 (upd H10 pc (.tup [.int (a.s:Int),.int (us.length:Int)])):=Same.new npc
      refine⟨w,t,pc,W,b,y,a.e.1,((a.s:Int),(us.length:Int)),rfl,hw10.same s11,ok,s11 _ _ gt,b0,b1,upd_same,fun x H11 hx11 s12=>?_⟩
      have s1012:=s11.trans s12
      have hc11:=(hcS.same s1012).tl
      have g11:=hc11.get 0 0 rfl rfl
      refine⟨_,_,_,rfl,rfl,g11,smallM (by omega),?_⟩
      have hc12:=hc11.put 0 0 rfl rfl (.lst (xs.eraseIdx S.at++[x]))
      have t12:Tp Pd H10 (upd H11 D3 (.lst (xs.eraseIdx S.at++[x]))):=(Tp.of s1012).put g11
      have t12':Tp Pd H11 (upd H11 D3 (.lst (xs.eraseIdx S.at++[x]))):=(Tp.refl _).put g11
      have d12:DoorT Pd (upd H11 D3 (.lst (xs.eraseIdx S.at++[x]))):=(dT10.same s1012).updL g11
      generalize (upd H11 D3 (.lst (xs.eraseIdx S.at++[x])))=H12 at hc12 t12 t12' d12 ⊢
      obtain⟨hl,hl2,fn⟩:=fin (xs.eraseIdx S.at++[x]) H12 (some (.ref t)) hc12 (tp10.trans t12) d12 (by rw[hstep]; exact paired_app (pairedMono (fun _ _ h=>IsArr.tp t12 h) p10) (.cons (hx11.tp t12') .nil)) (by rw[zM]; show _ + 1≤480; omega)
      have gD1':=hc12.get 3 0 rfl rfl
      have gD2:(upd H12 la' (.lst (us++[.ref pe]))) D2=some (.lst (oa.map V.ref)):=(hc12.put 4 a.s rfl (li_cell hla hus) (.lst (us++[.ref pe]))).get 1 0 rfl rfl
      refine⟨_,rfl,_,rfl,⟨_,_,_,_,rfl,rfl,SqL.of gD1',atI_nat (refs_at hla),tyL hl,_,rfl,_,_,_,rfl,rfl,hl,smallM (by omega),?_⟩⟩
      refine⟨_,rfl,_,rfl,⟨_,_,_,_,rfl,rfl,SqL.of gD2,atI_nat (refs_at hlo),tyL hl2,_,rfl,⟨_,_,_,_,rfl,rfl,SqT.of ((Tp.put (tp10.trans t12) hl).tup hp),atI_nat (j:=2) rfl,_,_,_,rfl,rfl,hl2,smallM (by omega),?_⟩⟩⟩
      exact fn
end
end Oc
namespace Oc
open PySem L2
inductive spRun (Pd:Addr) (vs:List V) (H:Hp) (Q:VK) (x_3:XK):Prop where
 | mk (w:Addr) (u:Int) (W:Wk) (M:List (List Cell)) (h_0:vs=[.ref w,.int u]) (h_1:Hc H M) (h_2:NoT M) (h_3:WkIn M w W) (h_4:W.Ok) (h_5:DoorT Pd H) (h_6:u≤60) (h_7:∀(R:CS) (D1:Addr) (ea:List Addr) (evv:List (List V)) (H':Hp),Runs W u W.cs R→CSok W R→Hc H' ([(D1,.lst (ea.map V.ref))]::liC ea evv::M)→ea.length=evv.length→Paired (fun us ts=>Paired (IsTri H') us ts) evv R.ev→Tp Pd H H'→DoorT Pd H'→(∀ us ∈ evv,us.length≤30000)→Q (.ref D1) H'):spRun Pd vs H Q x_3
section
variable {P:Program} {w:World} {K:PySem.W.Frag} {mg:Str→Option Value} {base:Heap}
theorem oh:FnScope ["works","until"] ["works","until"] (defScope (top 30)):=⟨rfl,rfl,rfl,by decide +kernel,rfl,by decide +kernel,by decide +kernel⟩
theorem rX {f Pd:Addr} {fd:FuncData} (F:Fun K "run" "run" (top 30) f fd) (fc:FnAt P w K mg base 5 "traced" ["works","until"] (spTr Pd)):FnOk P w K mg base CX0 6 f fd ["works","until"] (spRun Pd):=by
 have nd:=oh.nd
 refine F.ok oh (fun vs H Q E h=>?_) (fun cdv A outer s H vs Q E hr h=>?_)
 ·obtain⟨w,u,W,M,rfl,_⟩:=h
  rfl
 ·obtain⟨w,u,W,M,rfl,hc,nT,hw,ok,hT,hu,q⟩:=h
  refine⟨_,(@pss_one _ _ _ (@ps_ret _ _ _ _ (@pe_ix _ _ _ _ _ _ _ (ix_tupK (K:=K) rfl) (pe_fn fc (hr.mono (by decide)) (by rfl) (@pa_cons _ _ _ _ _ (pv 0) (@pa_cons _ _ _ _ _ (pv 1) pa_nil (by rfl)) (by rfl))) pe_int (fun _ _=>rfl)))),?_⟩
  refine⟨_,rfl,_,rfl,w,u,W,M,rfl,hc,nT,hw,ok,hT,hu,fun R t D1 D2 ea oa evv ogv H' r cok hc' l1 l2 pe po tp dT le=>?_⟩
  refine⟨_,_,_,_,rfl,rfl,SqT.of (hc'.get 0 0 rfl rfl),atI_nat (j:=0) rfl,?_⟩
  exact q R D1 ea evv H' r cok hc'.tl.tl.tl l1 pe tp dT le
end
end Oc
namespace Oc
open PySem L2
def kLe (a b:Int × Int):Prop:=kLt b a=false
theorem kLe_iff (a b:Int × Int):kLe a b ↔ a.1 < b.1∨(a.1=b.1∧a.2≤b.2):=by
 unfold kLe
 have h:=kLt_iff b a
 cases e:kLt b a with
 | true =>
  rw[e] at h; have:=h.mp rfl; constructor
  ·intro z; cases z
  ·intro z; exfalso; omega
 | false =>
  rw[e] at h
  have:¬ (b.1 < a.1∨(b.1=a.1∧b.2 < a.2)):=fun z=>by have:=h.mpr z; cases this
  constructor
  ·intro _; omega
  ·intro _; rfl
structure Ord (W:Wk) (A:OA):Prop where
 lg:A.ge.length=W.st.length
 so:∀ s,(A.ge.getD s []).Pairwise fun a b=>kLe (tkey a) (tkey b)
 wy:∀ s:Nat,∀ t ∈ A.ge.getD s [],t.2.1 ∈ W.wy s
 bd:∀ s:Nat,∀ t ∈ A.ge.getD s [],∀ w ∈ W.wy s,∀ x,A.e s w=some x→kLe (tkey t) (x,w)
theorem Tkn.bd {A:OA} {s:Nat} {ws:List Int} {t:Tri} (h:Tkn A s ws t) (wok:∀ w ∈ ws,w=-1∨0≤w) (hway:∀ w ∈ ws,∀ u,(evAt A.de A.re s w).head?=some u→u.2.1=w):∀ w ∈ ws,∀ x,A.e s w=some x→kLe (tkey t) (x,w):=fun w hw x hx=>by
 unfold OA.e at hx
 cases ev:evAt A.de A.re s w with
 | cons u r =>
  rw[ev] at hx
  cases hx
  have e:=h.min w hw u (by rw[ev]; rfl)
  have e2:=hway w hw u (by rw[ev]; rfl)
  unfold tkey at e ⊢
  rw[e2] at e
  exact e
 | nil =>
  rw[ev] at hx
  replace hx:(if w=-1 then none else A.pr.getD w.toNat none)=some x:=hx
  split at hx
  ·cases hx
  ·rename_i n1
   have em:A.re.getD w.toNat []=[]:=by unfold evAt at ev; rw[if_neg n1] at ev; exact ev
   have z:=h.may w hw n1 em x hx
   have w0:=(wok w hw).resolve_left n1
   rw[kLe_iff]
   unfold tkey
   dsimp only
   omega
theorem way_at {m:Nat} {A:OA} (h:AOk m A) {s:Nat} {w:Int} (w0:w=-1∨0≤w) {u:Tri} (hh:(evAt A.de A.re s w).head?=some u):u.2.1=w:=by
 have hin:u ∈ evAt A.de A.re s w:=jW hh
 unfold evAt at hin
 split at hin
 ·rename_i z
  rw[z]
  exact getD_row (p:=fun row=>∀ t ∈ row,t.2.1=-1) (fun _ z=>absurd z zK) h.d u hin
 ·rename_i z
  have w1:=w0.resolve_left z
  rw[zA] at hin
  cases er:A.re[w.toNat]? with
  | none=>rw[er] at hin; exact absurd hin zK
  | some row =>
   rw[er] at hin
   have:=h.r w.toNat row er u hin
   omega
theorem rps_flag (now:Option Int):∀(bs:List Int) (B:OA) (c:Bool),((bs.foldl (fun p b=>((p.1.rp1 now b.toNat).1,p.2 || (p.1.rp1 now b.toNat).2)) (B,c)).2=c∧(bs.foldl (fun p b=>((p.1.rp1 now b.toNat).1,p.2 || (p.1.rp1 now b.toNat).2)) (B,c)).1=B) ∨
  ((bs.foldl (fun p b=>((p.1.rp1 now b.toNat).1,p.2 || (p.1.rp1 now b.toNat).2)) (B,c)).2=true∧∃ b ∈ bs,¬ oLe ((bs.foldl (fun p b=>((p.1.rp1 now b.toNat).1,p.2 || (p.1.rp1 now b.toNat).2)) (B,c)).1.pr.getD b.toNat none) (B.pr.getD b.toNat none))
 | [],B,c=>.inl ⟨rfl,rfl⟩
 | b::bs,B,c=>by
  rw[List.foldl_cons]
  have R1:=rp1_is now B b
  have hb:((B.rp1 now b.toNat).2=false∧(B.rp1 now b.toNat).1=B)∨((B.rp1 now b.toNat).2=true∧¬ oLe ((B.rp1 now b.toNat).1.pr.getD b.toNat none) (B.pr.getD b.toNat none)):=by
   unfold OA.rp1
   split
   ·exact .inl ⟨rfl,rfl⟩
   ·rename_i h
    refine .inr ⟨rfl,?_⟩
    show ¬ oLe ((B.pr.set _ _).getD _ none) _
    unfold OA.stays at h
    cases e:B.pr.getD b.toNat none with
    | none=>rw[e] at h; exact absurd rfl h
    | some p =>
     have hl:b.toNat < B.pr.length:=by
      rw[zA] at e
      cases e2:B.pr[b.toNat]? with
      | none=>rw[e2] at e; cases e
      | some _=>exact(zC.mp e2).1
     rw[e] at h
     rw[getD_set',if_pos ⟨rfl,hl⟩]
     cases e3:B.new now b.toNat with
     | none=>exact fun z=>z
     | some n =>
      rw[e3] at h
      intro z
      exact h (decide_eq_true (show n≤p from z))
  rcases rps_flag now bs (B.rp1 now b.toNat).1 (c || (B.rp1 now b.toNat).2) with ⟨h1,h2⟩|⟨h1,b',hb',h2⟩
  ·rcases hb with ⟨g1,g2⟩|⟨g1,g2⟩
   ·exact .inl ⟨by rw[h1,g1,Bool.or_false],by rw[h2,g2]⟩
   ·refine .inr ⟨by rw[h1,g1,Bool.or_true],b,zH,?_⟩
    rw[h2]
    exact g2
  ·refine .inr ⟨h1,b',zJ _ hb',fun z=>h2 (oLe_trans z (R1.le _))⟩
inductive Wrd (W:Wk) (A C:OA) (s:Nat):Str→Prop
 | took (t:Tri) (ge:C.ge=A.ge.set s (A.ge.getD s []++[t])) (ck:A.clk s (W.wy s)=some t.1):Wrd W A C s "took"
 | raised (ge:C.ge=A.ge) (b:Nat) (bt:Tri) (hb:W.be[b]?=some bt) (hs:bt.1=(s:Int)) (ne:C.pr.getD b none ≠ A.pr.getD b none):Wrd W A C s "raised"
 | non (e:C=A):Wrd W A C s "none"
theorem step_wrd {W:Wk} {A:OA} {m:Nat} (I:Inv W A) (ao:AOk m A) {s:Nat} (hs:s < W.st.length):Wrd W A (A.step s).1 s (A.step s).2:=by
 obtain⟨p,hp⟩:∃ p,A.srs[s]?=some p:=⟨A.srs[s]'(by rw[I.st]; exact hs),zB _⟩
 have ep:A.srs.getD s sp0=p:=by rw[zA,hp]; rfl
 have hws:=(I.sp s p hp).1
 have hbs:=(I.sp s p hp).2
 unfold OA.step OA.stp
 rw[ep]
 dsimp only
 cases e:A.tkn s p with
 | none =>
  have ea:A.aft s p=A:=by unfold OA.aft; rw[e]
  rw[ea,if_neg (by decide)]
  rcases rps_flag (A.clk s p.ws) p.bs A false with ⟨h1,h2⟩|⟨h1,b,hb,h2⟩
  ·have e1:(A.rsd s p).2=false:=h1
   have e2:(A.rsd s p).1=A:=h2
   rw[e1,e2,if_neg (by decide)]
   exact .non rfl
  ·have e1:(A.rsd s p).2=true:=h1
   rw[e1,if_pos rfl]
   rw[hbs] at hb
   obtain⟨k,bt,g1,g2,g3⟩:=Wk.lv_mem hb
   have ek:b.toNat=k:=by omega
   rw[ek] at h2
   refine .raised (rsd_is A s p).ge k bt g1 g2 fun z=>h2 ?_
   have z':((A.rsd s p).1).pr.getD k none=A.pr.getD k none:=z
   have z2:(p.bs.foldl (fun q b=>((q.1.rp1 (A.clk s p.ws) b.toNat).1,q.2 || (q.1.rp1 (A.clk s p.ws) b.toNat).2)) (A,false)).1.pr.getD k none=A.pr.getD k none:=z'
   rw[z2]
   exact oLe_refl _
 | some t =>
  have ea:A.aft s p=A.take s p t:=by unfold OA.aft; rw[e]
  rw[ea,if_pos (show(some t).isSome=true from rfl)]
  have wok:∀ w ∈ p.ws,w=-1∨0≤w:=fun w hw=>by rw[hws] at hw; exact Wk.wy_ok hw
  have T:=tkn_is ao wok e
  refine .took t ?_ (by rw[← hws]; exact T.clk)
  rw[(rsd_is (A.take s p t) s p).ge]
  exact(take_same A s p t).2.2.2
theorem step_ord {W:Wk} {A:OA} {m:Nat} (ok:W.Ok) (I:Inv W A) (ao:AOk m A) (O:Ord W A) {s:Nat} (hs:s < W.st.length):Ord W (A.step s).1:=by
 have mono:∀(j:Nat) (w:Int),(w=-1∨0≤w)→oLe (A.e j w) ((A.step s).1.e j w):=by
  obtain⟨p,hp⟩:∃ p,A.srs[s]?=some p:=⟨A.srs[s]'(by rw[I.st]; exact hs),zB _⟩
  have ep:A.srs.getD s sp0=p:=by rw[zA,hp]; rfl
  intro j w hw
  unfold OA.step OA.stp
  rw[ep]
  refine oLe_trans (b:=(A.aft s p).e j w) ?_ ((rsd_is (A.aft s p) s p).mono j w)
  cases e:A.tkn s p with
  | none =>
   have ea:A.aft s p=A:=by unfold OA.aft; rw[e]
   rw[ea]; exact oLe_refl _
  | some t =>
   have ea:A.aft s p=A.take s p t:=by unfold OA.aft; rw[e]
   rw[ea]
   exact take_mono ok I hp (tkn_is ao (fun w hw=>by rw[(I.sp s p hp).1] at hw; exact Wk.wy_ok hw) e) hw
 have up:∀(j:Nat) (t:Tri),(∀ w ∈ W.wy j,∀ x,A.e j w=some x→kLe (tkey t) (x,w))→∀ w ∈ W.wy j,∀ x,(A.step s).1.e j w=some x→kLe (tkey t) (x,w):=fun j t h w hw x hx=>by
  have m1:=mono j w (Wk.wy_ok hw)
  rw[hx] at m1
  cases e:A.e j w with
  | none=>rw[e] at m1; exact m1.elim
  | some y =>
   rw[e] at m1
   have:=h w hw y e
   rw[kLe_iff] at this ⊢
   have yx:y≤x:=m1
   dsimp only at this ⊢
   omega
 have wd:=step_wrd I ao hs
 have same:(A.step s).1.ge=A.ge→Ord W (A.step s).1:=fun e=>⟨by rw[e]; exact O.lg,by rw[e]; exact O.so,by rw[e]; exact O.wy,by rw[e]; exact fun j t ht=>up j t (O.bd j t ht)⟩
 obtain⟨p,hp⟩:∃ p,A.srs[s]?=some p:=⟨A.srs[s]'(by rw[I.st]; exact hs),zB _⟩
 have ep:A.srs.getD s sp0=p:=by rw[zA,hp]; rfl
 have hws:=(I.sp s p hp).1
 cases e:A.tkn s p with
 | none =>
  have ea:A.aft s p=A:=by unfold OA.aft; rw[e]
  refine same ?_
  unfold OA.step OA.stp
  rw[ep,ea]
  exact(rsd_is A s p).ge
 | some t =>
  have ea:A.aft s p=A.take s p t:=by unfold OA.aft; rw[e]
  have wok:∀ w ∈ p.ws,w=-1∨0≤w:=fun w hw=>by rw[hws] at hw; exact Wk.wy_ok hw
  have T:=tkn_is ao wok e
  have eg:(A.step s).1.ge=A.ge.set s (A.ge.getD s []++[t]):=by
   unfold OA.step OA.stp
   rw[ep,ea]
   exact(rsd_is (A.take s p t) s p).ge.trans (take_same A s p t).2.2.2
  have tb:∀ w ∈ W.wy s,∀ x,A.e s w=some x→kLe (tkey t) (x,w):=by
   rw[← hws]
   exact T.bd wok fun w hw u hu=>way_at ao (wok w hw) hu
  have te:A.e s t.2.1=some t.1:=by
   unfold OA.e
   cases ev:evAt A.de A.re s t.2.1 with
   | nil=>have z:=T.hd; rw[ev] at z; cases z
   | cons u r=>have z:=T.hd; rw[ev] at z; cases z; rfl
  have tw:t.2.1 ∈ W.wy s:=by rw[← hws]; exact T.w
  have at_:∀ j,(A.step s).1.ge.getD j []=if s=j then A.ge.getD j []++[t] else A.ge.getD j []:=fun j=>by
   rw[eg,getD_set']
   by_cases h:s=j
   ·subst h; rw[if_pos ⟨rfl,by rw[O.lg]; exact hs⟩,if_pos rfl]
   ·rw[if_neg (fun z=>h z.1),if_neg h]
  refine⟨by rw[eg,z4]; exact O.lg,fun j=>?_,fun j u hu=>?_,fun j u hu=>?_⟩
  ·rw[at_]
   split
   ·rename_i h
    subst h
    refine yM.mpr ⟨O.so s,jB _ _,fun a ha b hb=>?_⟩
    rw[zG.mp hb]
    exact O.bd s a ha t.2.1 tw t.1 te
   ·exact O.so j
  ·rw[at_] at hu
   split at hu
   ·rename_i h
    subst h
    rcases zW.mp hu with z|z
    ·exact O.wy s u z
    ·rw[zG.mp z]; exact tw
   ·exact O.wy j u hu
  ·refine up j u fun w hw x hx=>?_
   rw[at_] at hu
   split at hu
   ·rename_i h
    subst h
    rcases zW.mp hu with z|z
    ·exact O.bd s u z w hw x hx
    ·rw[zG.mp z]; exact tb w hw x hx
   ·exact O.bd j u hu w hw x hx
theorem new_ord (W:Wk):Ord W W.oa:=by
 have e:∀ s,W.oa.ge.getD s []=[]:=fun s=>by
  show(W.st.map fun _=>([]:List Tri)).getD s []=[]
  rw[zA,zF]
  cases W.st[s]? <;> rfl
 exact⟨zD _,fun s=>by rw[e]; exact .nil,fun s t ht=>by rw[e] at ht; exact absurd ht zK,fun s t ht=>by rw[e] at ht; exact absurd ht zK⟩
end Oc
namespace Oc
open PySem L2
theorem drs_sorted (W:Wk) (s:Int):(W.drs s).Pairwise fun a b=>a.2.1≤b.2.1:=by
 unfold Wk.drs
 refine jV.mpr ⟨fun t _=>?_,?_⟩
 ·refine List.pairwise_iff_forall_sublist.mpr fun {a b} h=>?_
  have ha:=(zV.mp (h.subset zH)).2
  have hb:=(zV.mp (h.subset (zJ _ zH))).2
  rw[yK,beq_iff_eq,beq_iff_eq] at ha hb
  omega
 ·refine List.Pairwise.imp_of_mem (fun {i j} _ _ hij a ha b hb=>?_) jC
  have ha:=(zV.mp ha).2
  have hb:=(zV.mp hb).2
  rw[yK,beq_iff_eq,beq_iff_eq] at ha hb
  omega
theorem de_sorted (W:Wk) (s:Int):(W.de s).Pairwise fun a b=>a.1≤b.1:=by
 unfold Wk.de Wk.dr
 rw[j6]
 exact List.pairwise_map.mpr (drs_sorted W s)
theorem getD_nils {α:Type} (l:List α) (j:Nat):(l.map fun _=>([]:List Tri)).getD j []=[]:=by
 rw[zA,zF]
 cases l[j]? <;> rfl
theorem de_nn {W:Wk} (ok:W.Ok) (s:Int):∀ t ∈ W.de s,0≤t.1:=fun t ht=>by
 unfold Wk.de Wk.dr at ht
 rw[j6] at ht
 obtain⟨f,hf,rfl⟩:=yC.mp ht
 have:=(ok.fee f (Wk.drs_mem hf).1).2.2.1
 exact this
theorem des_at {W:Wk} (j:Nat):W.des.getD j []=[]∨W.des.getD j []=W.de (j:Int):=by
 unfold Wk.des
 rw[zA,zF]
 cases h:(List.range W.st.length)[j]? with
 | none=>exact .inl rfl
 | some k =>
  have:=zC.mp h
  obtain⟨_,e⟩:=this
  rw[j3] at e
  subst e
  exact .inr rfl
theorem new_inv {W:Wk} (ok:W.Ok):Inv W W.oa:=by
 refine⟨by show((List.range _).map _).length=_; rw[zD,yZ],fun s p hp=>?_,rfl,zD _,zD _,by show((List.range _).map _).length=_; rw[zD,yZ],fun s=>?_,fun b=>?_,fun b t ht=>?_,fun b bt hb=>?_⟩
 ·have:((List.range W.st.length).map W.sp)[s]?=some p:=hp
  rw[zF] at this
  obtain⟨k,hk,e⟩:=yQ.mp this
  have e2:=(zC.mp hk).2
  rw[j3] at e2
  rw[← e,← e2]
  exact⟨rfl,rfl⟩
 ·show(W.des.getD s []).Pairwise _
  rcases des_at (W:=W) s with e|e
  ·rw[e]; exact .nil
  ·rw[e]; exact de_sorted W s
 ·show((W.be.map fun _=>([]:List Tri)).getD b []).Pairwise _
  rw[getD_nils]; exact .nil
 ·replace ht:t ∈ (W.be.map fun _=>([]:List Tri)).getD b []:=ht
  rw[getD_nils] at ht
  exact absurd ht zK
 ·have e1:W.oa.pr.getD b none=some bt.2.2:=by
   show(W.be.map fun t=>some t.2.2).getD b none=_
   rw[zA,zF,hb]; rfl
  rw[e1]
  have key:oLe (some 0) (W.oa.clk bt.1.toNat (W.wy bt.1)):=by
   refine le_min (f:=W.oa.e bt.1.toNat) fun w hw=>?_
   unfold OA.e
   cases ev:evAt W.oa.de W.oa.re bt.1.toNat w with
   | cons u r =>
    show(0:Int)≤u.1
    unfold evAt at ev
    split at ev
    ·replace ev:W.des.getD bt.1.toNat []=u::r:=ev
     rcases des_at (W:=W) bt.1.toNat with e|e
     ·rw[e] at ev; cases ev
     ·rw[e] at ev
      exact de_nn ok _ u (by rw[ev]; exact zH)
    ·replace ev:(W.be.map fun _=>([]:List Tri)).getD w.toNat []=u::r:=ev
     rw[getD_nils] at ev
     cases ev
   | nil =>
    show oLe (some 0) (if w=-1 then none else W.oa.pr.getD w.toNat none)
    split
    ·exact oLe_none _
    ·show oLe (some 0) ((W.be.map fun t=>some t.2.2).getD w.toNat none)
     rw[zA,zF]
     cases h:W.be[w.toNat]? with
     | none=>exact oLe_none _
     | some c =>
      have:=(ok.bel c (zE h)).2.2.2.2.1
      show(0:Int)≤c.2.2
      omega
  have:=oAdd_le (d:=bt.2.2) key
  have e0:oAdd (some 0) bt.2.2=some bt.2.2:=by show some (0 + bt.2.2)=_; rw[qD]
  rw[e0] at this
  exact this
theorem argB_le (f:Nat→Nat→Bool):∀ n,argBest f n≤n
 | 0=>zI _
 | n + 1=>by
  have:=argB_le f n
  simp only [argBest]
  split
  ·exact zI _
  ·omega
theorem upc_some {A:OA} {s:Nat} {ws:List Int} (h:A.hds s ws ≠ []):∃ t,A.upc s ws=some t:=by
 have l:0 < (A.hds s ws).length:=j0.mpr h
 have b:=argB_le (fun i j=>kLt (((A.hds s ws).map tkey).getD i (0,0)) (((A.hds s ws).map tkey).getD j (0,0))) (((A.hds s ws).map tkey).length - 1)
 have k:bestK ((A.hds s ws).map tkey) < (A.hds s ws).length:=by
  unfold bestK
  rw[zD] at b ⊢
  omega
 exact⟨(A.hds s ws)[bestK ((A.hds s ws).map tkey)]'k,zB k⟩
theorem upc_min {A:OA} {s:Nat} {ws:List Int} {t:Tri} (eu:A.upc s ws=some t) {w':Int} (hw':w' ∈ ws) {u:Tri} (hu:(evAt A.de A.re s w').head?=some u):kLt (tkey u) (tkey t)=false:=by
 have hu2:u ∈ A.hds s ws:=yP.mpr ⟨w',hw',hu⟩
 obtain⟨j,hj⟩:=yN hu2
 have lj:=(zC.mp hj).1
 have b:=best_min ((A.hds s ws).map tkey) (((A.hds s ws).map tkey).length - 1) j (by rw[zD]; omega)
 have e1:((A.hds s ws).map tkey).getD j (0,0)=tkey u:=by rw[zA,zF,hj]; rfl
 have e2:((A.hds s ws).map tkey).getD (bestK ((A.hds s ws).map tkey)) (0,0)=tkey t:=by
  rw[zA,zF]
  unfold OA.upc at eu
  rw[eu]; rfl
 unfold bestK at e2
 rw[e1,e2] at b
 exact b
end Oc
namespace Oc
open PySem L2
def OA.go (A:OA) (ts:List Nat):OA:=ts.foldl (fun A s=>(A.step s).1) A
theorem go_snoc (A:OA) (ts:List Nat) (s:Nat):A.go (ts++[s])=((A.go ts).step s).1:=jI
theorem tk_snoc {α:Type} {l:List α} {i:Nat} {x:α} (h:l[i]?=some x):l.take (i + 1)=l.take i++[x]:=by
 rw[yS,h]; rfl
theorem OwnF.stp {W:Wk} {m:Nat} {H:Hp} {o:OR} {A:OA} (f:OwnF W m H o A) {s:Nat} {r:SR} (hr:o.srs[s]?=some r):A.stp s r.pu=A.step s:=by
 unfold OA.step
 rw[← f.is.s,zA,zF,hr]
 rfl
theorem OwnF.nxt {cs:Cs} {C Pu:Addr} {M:List (List Cell)} {W:Wk} {m:Nat} {H H':Hp} {o o':OR} {A:OA} (f:OwnF W m H o A) {s:Nat} {r:SR} (hr:o.srs[s]?=some r) (st:OSt cs C Pu M m H H' o o' (A.stp s r.pu).1):OwnF W (m + 1) H' o' (A.step s).1:=by
 rw[f.stp hr] at st
 exact⟨st.ok,st.is,st.so,st.ao,by rw[st.l]; exact f.ns,by rw[st.d]; exact f.nb⟩
def natV (ts:List Nat):List V:=ts.map fun t:Nat=>V.int (t:Int)
theorem natV_at {ts:List Nat} {i:Nat} {x:V} (h:(natV ts)[i]?=some x):∃ t,ts[i]?=some t∧x=.int (t:Int):=by
 unfold natV at h
 rw[zF] at h
 obtain⟨t,ht,e⟩:=yQ.mp h
 exact⟨t,ht,e.symm⟩
structure Wo (cs:Cs) (C Pd Pu:Addr) (W:Wk) (M:List (List Cell)) (H0 H:Hp) (o:OR) (A:OA) (m:Nat):Prop where
 hc:Hc H (ownCs cs C o++M)
 fo:OwnF W m H o A
 dr:DoorT Pd H
 up:UpT Pu H
 tri:∀ x t,IsTri H0 x t→IsTri H x t
 inv:Inv W A
inductive spWov (cs:Cs) (C Pd Pu:Addr) (vs:List V) (H:Hp) (Q:VK) (x_3:XK):Prop where
 | mk (w t:Addr) (W:Wk) (ts:List Nat) (M:List (List Cell)) (h_0:vs=[.ref w,.ref t]) (h_1:Hc H M) (h_2:NoT M) (h_3:(∀ H',Hc H' M→WkAt H' w W∧H' t=some (.lst (natV ts)))) (h_4:W.Ok) (h_5:(∀ t ∈ ts,t < W.st.length)) (h_6:ts.length≤90000) (h_7:DoorT Pd H) (h_8:UpT Pu H) (h_9:Pd ≠ Pu) (h_10:∀(o:OR) (H':Hp),Wo cs C Pd Pu W M H H' o (W.oa.go ts) ts.length→Q (.ref o.x) H'):spWov cs C Pd Pu vs H Q x_3
section
variable {P:Program} {w:World} {K:PySem.W.Frag} {mg:Str→Option Value} {base:Heap} {cs:Cs} {C Pd Pu:Addr}
theorem sc_wov:FnScope ["works","turns","own","station"] ["works","turns"] (defScope (top 19)):=⟨rfl,rfl,rfl,by decide +kernel,rfl,by decide +kernel,by decide +kernel⟩
theorem ok_wov {f:Addr} {fd:FuncData} (F:Fun K "woven" "woven" (top 19) f fd) (M_Own:MkAt P w K mg base 5 "Own" C ["self","works"] (spOwI K cs C Pd)) (G_step:MethAt P w K mg base 5 C "step" ["self","station"] (spStep cs C Pu)):FnOk P w K mg base CX0 7 f fd ["works","turns"] (spWov cs C Pd Pu):=by
 have nd:=sc_wov.nd
 refine F.ok sc_wov (fun vs H Q E h=>?_) (fun cdv A outer s H vs Q E hr h=>?_)
 ·obtain⟨w,t,W,ts,M,rfl,_⟩:=h
  rfl
 ·obtain⟨w,t,W,ts,M,rfl,k,nM,back,ok,tin,l9,hT,hU,nePP,q⟩:=h
  refine⟨_,(@pss_cons _ _ _ _ _ (ps_set (i:=2) nd rfl (by nofun) (pe_mk M_Own (hr.mono (by decide)) (by rfl) (@pa_cons _ _ _ _ _ (pv 0) pa_nil (by rfl))))
   (@pss_cons _ _ _ _ _ (ps_for PassesOwn.never rfl (pi_listK (K:=K) rfl (pv 1)) (pg_name (i:=3) nd rfl (by nofun)) (@pss_one _ _ _ (ps_expr (pe_mth G_step (hr.mono (by decide)) (pv 2) (@pa_cons _ _ _ _ _ (pv 3) pa_nil (by rfl))))))
   (@pss_one _ _ _ (@ps_ret _ _ _ _ (pv 2))))),?_⟩
  refine⟨_,rfl,fun x dx nx ndx nex=>?_⟩
  have kF:=(k.same (Same.new (o:=.own x) ndx)).new (p:=x) (by rw[upd_ne (Ne.symm nex)]; exact nx) (.ins C dx [])
  have tF:Same H (upd (upd H dx (.own x)) x (.ins C dx [])):=(Same.new ndx).upd nx
  have hTF:=hT.same tF
  have hUF:=hU.same tF
  generalize (upd (upd H dx (.own x)) x (.ins C dx []))=HF at kF hTF hUF tF ⊢
  refine⟨x,w,dx,W,_,rfl,kF,nM,(back HF kF.tl).1,ok,hTF,fun o1 H5 ex1 hc5 kp5 hT5 new5 ev5=>⟨rfl,?_⟩⟩
  subst ex1
  have L0:Wo cs C Pd Pu W M H H5 o1 (W.oa.go (ts.take 0)) 0:=⟨hc5,new_own new5 ev5,hT5,LamT.kpd hUF kp5 (Ne.symm nePP) (kF.get 0 0 rfl rfl),fun x t h=>IsTri.kpd kp5 (kF.get 0 0 rfl rfl) (IsTri.same tF h),new_inv ok⟩
  refine⟨_,rfl,t,rfl,⟨_,SqL.of (back H5 hc5.drop).2⟩,for_list (K:=K) (a:=t) (xs:=natV ts) (fun i σ H5=>∃(v3:Option V) (o:OR),σ=[some (.ref w),some (.ref t),some (.ref o.x),v3]∧Wo cs C Pd Pu W M H H5 o (W.oa.go (ts.take i)) i) ⟨_,_,rfl,L0⟩ (fun i σ H5 _ ⟨_,_,_,L⟩=>SqL.of (back H5 L.hc.drop).2) ?_ ?_⟩
  ·rintro i x σ H6 hi ⟨v3,o,rfl,L⟩
   obtain⟨sn,hsn,rfl⟩:=natV_at hi
   have hl:=(zC.mp hsn).1
   have hs1:=tin sn (zE hsn)
   have e1:=L.fo.ns
   obtain⟨r,hr'⟩:∃ r,o.srs[sn]?=some r:=⟨o.srs[sn]'(by omega),zB _⟩
   refine⟨_,rfl,o.x,o.dx,o.flds,rfl,L.hc.get 0 0 rfl rfl,f_m (by decide +kernel),_,rfl,o,_,sn,i,_,r,rfl,L.hc,nM,L.fo.ok,L.fo.is,hr',L.fo.so,(by omega),L.fo.ao,L.up,fun o' HB st=>?_⟩
   have f':=L.fo.nxt hr' st
   have i':=(step_stp ok L.inv L.fo.ao hs1).inv
   rw[← go_snoc,← tk_snoc hsn] at f' i'
   exact⟨_,o',by rw[st.x]; rfl,⟨st.hc,f',LamT.tkp L.dr st.tk nePP L.up,st.up,fun x t h=>IsTri.tkp st.tk L.up (L.tri x t h),i'⟩⟩
  ·rintro σ H6 ⟨v3,o,rfl,L⟩
   have ln:(natV ts).length=ts.length:=zD _
   rw[ln,yD] at L
   exact⟨_,rfl,q o H6 L⟩
end
end Oc
namespace Oc
open PySem L2
def bhd (c:Option Int) (t:Int):Bool:=match c with
 | none=>false
 | some x=>decide (x≤t)
def OA.bhs (A:OA) (n:Nat) (t:Int):List Nat:=(List.range n).filter fun s=>bhd (A.clk s (A.srs.getD s sp0).ws) t
theorem bhs_snoc (A:OA) (i:Nat) (t:Int):A.bhs (i + 1) t=A.bhs i t++if bhd (A.clk i (A.srs.getD i sp0).ws) t=true then [i] else []:=by
 unfold OA.bhs
 rw[y9,zN]
 congr 1
 by_cases h:bhd (A.clk i (A.srs.getD i sp0).ws) t=true
 ·rw[if_pos h,z6 (p:=fun s=>bhd (A.clk s (A.srs.getD s sp0).ws) t) h]; rfl
 ·rw[if_neg h,yB (p:=fun s=>bhd (A.clk s (A.srs.getD s sp0).ws) t) h]; rfl
theorem bhs_len (A:OA) (n:Nat) (t:Int):(A.bhs n t).length≤n:=by
 have:=qF (fun s=>bhd (A.clk s (A.srs.getD s sp0).ws) t) (List.range n)
 rw[yZ] at this
 exact this
theorem OIs.at {H:Hp} {o:OR} {A:OA} (h:OIs H o A) {i:Nat} {r:SR} (hr:o.srs[i]?=some r):(A.srs.getD i sp0).ws=r.ws:=by
 rw[← h.s,zA,zF,hr]
 rfl
def intV (ts:List Nat):List V:=ts.map fun t:Nat=>V.int (t:Int)
inductive spIb (cs:Cs) (C:Addr) (vs:List V) (H:Hp) (Q:VK) (x_3:XK):Prop where
 | mk (o:OR) (M:List (List Cell)) (s:Nat) (r:SR) (A:OA) (t:Int) (h_0:vs=[.ref o.x,.int s,.int t]) (h_1:Hc H (ownCs cs C o++M)) (h_2:OOk o) (h_3:o.srs[s]?=some r) (h_4:r.ws.length≤100) (h_5:OIs H o A) (h_6:∀ H',Same H H'→Q (.bl (bhd (A.clk s r.ws) t)) H'):spIb cs C vs H Q x_3
inductive spBhd (cs:Cs) (C:Addr) (vs:List V) (H:Hp) (Q:VK) (x_3:XK):Prop where
 | mk (o:OR) (M:List (List Cell)) (w:Addr) (W:Wk) (A:OA) (t:Int) (h_0:vs=[.ref o.x,.ref w,.int t]) (h_1:Hc H (ownCs cs C o++M)) (h_2:OOk o) (h_3:OIs H o A) (h_4:(∀ r ∈ o.srs,r.ws.length≤100)) (h_5:WkAt H w W) (h_6:W.st.length=o.srs.length) (h_7:∀(l:Addr) (H':Hp),H l=none→Same H H'→H' l=some (.lst (intV (A.bhs W.st.length t)))→Q (.ref l) H'):spBhd cs C vs H Q x_3
section
variable {P:Program} {w:World} {K:PySem.W.Frag} {mg:Str→Option Value} {base:Heap} {cs:Cs} {C:Addr}
theorem sc_ib:FnScope ["own","station","until","now"] ["own","station","until"] (defScope (top 20)):=⟨rfl,rfl,rfl,by decide +kernel,rfl,by decide +kernel,by decide +kernel⟩
theorem ok_ib {f:Addr} {fd:FuncData} (F:Fun K "is_behind" "is_behind" (top 20) f fd) (G_clock:MethAt P w K mg base 3 C "clock" ["self","station"] (spClk cs C)):FnOk P w K mg base CX0 4 f fd ["own","station","until"] (spIb cs C):=by
 have nd:=sc_ib.nd
 refine F.ok sc_ib (fun vs H Q E h=>?_) (fun cdv A outer s H vs Q E hr h=>?_)
 ·obtain⟨o,M,s,r,A,t,rfl,_⟩:=h
  rfl
 ·obtain⟨o,M,s,r,A,t,rfl,hc,ok,hr',l1,is,q⟩:=h
  refine⟨_,(@pss_cons _ _ _ _ _ (ps_set (i:=3) nd rfl (by nofun) (pe_mth G_clock (hr.mono (by decide)) (pv 0) (@pa_cons _ _ _ _ _ (pv 1) pa_nil (by rfl))))
   (@pss_one _ _ _ (@ps_ret _ _ _ _ (pe_and (pe_cmpR op_notN (pv 3) pe_non (nomark _)) (pe_one (pe_cmpR op_le (pv 3) (pv 2) (nomark _))))))),?_⟩
  refine⟨_,rfl,o.x,o.dx,o.flds,rfl,hc.get 0 0 rfl rfl,f_m (by decide +kernel),_,rfl,o,M,s,r,A.de,A.re,A.ge,rfl,hc,ok,hr',l1,is.e,fun H1 s1=>?_⟩
  rw[is.clk]
  replace q:=q H1 s1
  revert q
  cases A.clk s r.ws with
  | none =>
   intro q
   refine⟨_,rfl,rfl,_,rfl,?_⟩
   exact iteF q
  | some c =>
   intro q
   refine⟨_,rfl,rfl,_,rfl,?_⟩
   exact iteT ⟨_,rfl,_,rfl,_,_,rfl,rfl,q⟩
theorem sc_bhd:FnScope ["own","works","until"] ["own","works","until"] (defScope (top 21)):=⟨rfl,rfl,rfl,by decide +kernel,rfl,by decide +kernel,by decide +kernel⟩
theorem ok_bhd {f:Addr} {fd:FuncData} (F:Fun K "behind" "behind" (top 21) f fd) (T:Txt K mg) (a6:FnAt P w K mg base 4 "is_behind" ["own","station","until"] (spIb cs C)):FnOk P w K mg base CX0 5 f fd ["own","works","until"] (spBhd cs C):=by
 have nd:=sc_bhd.nd
 refine F.ok sc_bhd (fun vs H Q E h=>?_) (fun cdv A outer s H vs Q E hr h=>?_)
 ·obtain⟨o,M,w,W,A,t,rfl,_⟩:=h
  rfl
 ·obtain⟨o,M,w,W,A,t,rfl,hc,ok,is,l100,hw,eS,q⟩:=h
  obtain⟨sa,ba,fa,xs,ys,zs,h1,h2⟩:=hw.ex
  have s8:=ok.s8
  have lx:=h2.ps.length
  refine⟨_,(@pss_one _ _ _ (@ps_ret _ _ _ _ (pe_comp (own:=["station"]) (fr:=["own","until"]) (js:=[0,2]) (by and_intros) (pi_range1 rfl T.n_range (@pa_cons _ _ _ _ _ (pe_callB (call_len_seqK (K:=K) rfl) (by rfl) T.n_len bt_len (@pa_cons _ _ _ _ _ (@pe_ix _ _ _ _ _ _ _ (ix_tupK (K:=K) rfl) (pv 1) pe_int (fun _ _=>rfl)) pa_nil (by rfl))) pa_nil (by rfl))) (fun _ _ _ _=>(pg_name (i:=0) (show List.Nodup (["station","own","until"]:List Str) from by decide +kernel) rfl (by nofun))) (fun _ _ _ _=>(pts_one (pt_val (pe_fn a6 (hr.mono (by decide)) (by rfl) (@pa_cons _ _ _ _ _ (pv 1) (@pa_cons _ _ _ _ _ (pv 0) (@pa_cons _ _ _ _ _ (pv 2) pa_nil (by rfl)) (by rfl)) (by rfl)))))) (fun _ _ _ _=>(pv 0))))),?_⟩
  refine⟨_,rfl,⟨_,_,_,_,rfl,rfl,SqT.of h1,(atI_nat (j:=0) rfl),sa,_,rfl,.inl (SqL.of h2.hs),_,rfl,by rw[p62]; omega,by rw[p62]; omega,fun D nD=>?_⟩⟩
  refine comp_range (lo:=0) (n:=((xs.length:Nat):Int).toNat) (fun i H8=>Same H H8∧H8 D=some (.lst (intV (A.bhs i t)))) ⟨Same.new nD,upd_same⟩ ?_ ?_
  ·rintro i H8 m Wf hi ⟨s8',h8⟩ nx
   have ez:(0:Int) + (i:Int)=(i:Int):=qD _
   rw[ez]
   obtain⟨r,hr'⟩:∃ r,o.srs[i]?=some r:=⟨o.srs[i]'(by omega),zB _⟩
   have er:=is.at hr'
   refine⟨_,rfl,_,rfl,_,rfl,o,M,i,r,A,t,rfl,hc.same s8',ok,hr',l100 r (zE hr'),is.tk (Tk.of s8'),fun H9 s9=>⟨_,rfl,?_⟩⟩
   have bs:=bhs_snoc A i t
   rw[er] at bs
   have bl:=bhs_len A i t
   cases hb:bhd (A.clk i r.ws) t with
   | true =>
    rw[hb] at bs
    refine iteT ⟨_,rfl,_,s9 _ _ h8,small1000 (by unfold intV; rw[zD]; omega),nx _ ⟨(s8'.trans s9).upd nD,?_⟩⟩
    rw[upd_same,bs,if_pos rfl]
    unfold intV
    rw[zL]
    rfl
   | false =>
    rw[hb] at bs
    refine iteF (nx _ ⟨s8'.trans s9,?_⟩)
    rw[bs,if_neg (fun z=>nomatch z),zP]
    exact s9 _ _ h8
  ·rintro H8 ⟨s8',h8⟩
   rw[zT,lx] at h8
   exact q D H8 nD s8' h8
end
end Oc
namespace Oc
open PySem L2
theorem bhs_nil {A:OA} {n:Nat} {t:Int}:(A.bhs n t).isEmpty=true ↔ ∀ s < n,bhd (A.clk s (A.srs.getD s sp0).ws) t=false:=by
 unfold OA.bhs
 rw[List.isEmpty_iff,yF]
 refine⟨fun h s hs=>?_,fun h s hs=>?_⟩
 ·have:=h s (yU.mpr hs)
  simpa using this
 ·rw[h s (yU.mp hs)]
  exact fun z=>nomatch z
theorem Inv.ws {W:Wk} {A:OA} (I:Inv W A) {s:Nat} (hs:s < W.st.length):(A.srs.getD s sp0).ws=W.wy s:=by
 obtain⟨p,hp⟩:∃ p,A.srs[s]?=some p:=⟨A.srs[s]'(by rw[I.st]; exact hs),zB _⟩
 rw[zA,hp]
 exact(I.sp s p hp).1
end Oc
namespace Oc
open PySem L2
def cntP (p:Tri→Bool) (rows:List (List Tri)):Nat:=(rows.map fun r=>r.countP p).sum
def OA.wt (A:OA) (p:Tri→Bool):Nat:=cntP p A.de + cntP p A.re
theorem cnt_set (p:Tri→Bool):∀(rows:List (List Tri)) (i:Nat) (r:List Tri),i < rows.length→cntP p (rows.set i r) + (rows.getD i []).countP p=cntP p rows + r.countP p
 | x::rows,0,r,_=>by
  unfold cntP
  simp only [List.set_cons_zero,yG,y7,List.getD_cons_zero]
  omega
 | x::rows,i + 1,r,h=>by
  have:=cnt_set p rows i r (by simpa using h)
  unfold cntP at this ⊢
  simp only [List.set_cons_succ,yG,y7,List.getD_cons_succ]
  omega
theorem cnt_zero {p:Tri→Bool}:∀ {rows:List (List Tri)},(∀ i,∀ t ∈ rows.getD i [],p t=false)→cntP p rows=0
 | [],_=>rfl
 | x::rows,h=>by
  have h0:x.countP p=0:=List.countP_eq_zero.mpr fun t ht=>by
   have:=h 0 t ht
   rw[this]
   exact fun z=>nomatch z
  have:=cnt_zero (p:=p) (rows:=rows) fun i t ht=>h (i + 1) t ht
  unfold cntP at this ⊢
  rw[yG,y7,h0,this]
theorem step_wt {W:Wk} {A:OA} {m:Nat} (I:Inv W A) (ao:AOk m A) {s:Nat} (hs:s < W.st.length) (q:Tri→Bool):((A.step s).1.de=A.de∧(A.step s).1.re=A.re∧∀ p,A.srs[s]?=some p→A.tkn s p=none)∨∃(t:Tri) (k:Nat),Tkn A s (W.wy s) t∧(A.step s).1.wt q + (if q t=true then 1 else 0)=A.wt q + k∧k≤1∧(k=1→∃(e:Tri) (b:Nat) (bt:Tri),W.be[b]?=some bt∧q e=true∧∃ g,A.pr.getD b none=some g∧g≤e.1):=by
 obtain⟨p,hp⟩:∃ p,A.srs[s]?=some p:=⟨A.srs[s]'(by rw[I.st]; exact hs),zB _⟩
 have ep:A.srs.getD s sp0=p:=by rw[zA,hp]; rfl
 have hws:=(I.sp s p hp).1
 have hbs:=(I.sp s p hp).2
 cases e:A.tkn s p with
 | none =>
  have ea:(A.step s).1=(A.rsd s p).1:=by
   have ea:A.aft s p=A:=by unfold OA.aft; rw[e]
   unfold OA.step OA.stp
   rw[ep,ea]
  have R:=rsd_is A s p
  rw[ea]
  exact .inl ⟨R.de,R.re,fun p' hp'=>by rw[hp] at hp'; cases hp'; exact e⟩
 | some t =>
  have wok:∀ w ∈ p.ws,w=-1∨0≤w:=fun w hw=>by rw[hws] at hw; exact Wk.wy_ok hw
  have T:=tkn_is ao wok e
  have t0:=wok _ T.w
  have tw:t.2.1 ∈ W.wy s:=by rw[← hws]; exact T.w
  have R:=rsd_is (A.take s p t) s p
  have ec:(A.step s).1=((A.take s p t).rsd s p).1:=by
   have ea:A.aft s p=A.take s p t:=by unfold OA.aft; rw[e]
   unfold OA.step OA.stp
   rw[ep,ea]
  have hw:(A.step s).1.wt q=(A.take s p t).wt q:=by
   unfold OA.wt
   rw[ec,R.de,R.re]
  rw[hw]
  have hd:∃ r,evAt A.de A.re s t.2.1=t::r:=by
   have z:=T.hd
   cases ev:evAt A.de A.re s t.2.1 with
   | nil=>rw[ev] at z; cases z
   | cons u r=>rw[ev] at z; cases z; exact⟨r,rfl⟩
  obtain⟨r,er⟩:=hd
  have pop:(A.pop s t.2.1).wt q + (if q t=true then 1 else 0)=A.wt q:=by
   unfold evAt at er
   unfold OA.pop OA.wt
   by_cases wd:t.2.1=-1
   ·rw[if_pos wd] at er ⊢
    have:=cnt_set q A.de s (A.de.getD s []).tail (by rw[I.ld]; exact hs)
    rw[er,jD] at this
    show cntP q (A.de.set s (A.de.getD s []).tail) + cntP q A.re + _=_
    rw[er]
    rw[List.tail_cons] at this ⊢
    split <;> split at this <;> omega
   ·rw[if_neg wd] at er ⊢
    obtain⟨b,bt,hb,eb,_⟩:=(Wk.wy_mem tw).resolve_left wd
    have hbl:=(zC.mp hb).1
    have:=cnt_set q A.re t.2.1.toNat (A.re.getD t.2.1.toNat []).tail (by rw[I.lr]; omega)
    rw[er,jD] at this
    show cntP q A.de + cntP q (A.re.set t.2.1.toNat (A.re.getD t.2.1.toNat []).tail) + _=_
    rw[er]
    rw[List.tail_cons] at this ⊢
    split <;> split at this <;> omega
  rw[hws] at T
  have lre:(A.pop s t.2.1).re.length=W.be.length:=by rw[← I.lr]; unfold OA.pop; split <;> simp
  have edl:(A.pop s t.2.1).dl=W.dels:=by rw[← I.dl]; unfold OA.pop; split <;> rfl
  cases eo:p.out (p.ws.idxOf t.2.1) t.2.2 with
  | none =>
   refine .inr ⟨t,0,T,?_,z5 _,fun z=>nomatch z⟩
   have:(A.take s p t).wt q=(A.pop s t.2.1).wt q:=by
    unfold OA.take
    rw[eo]
    rfl
   rw[this]
   exact pop
  | some o =>
   have hb':o.1 ∈ W.lv s:=by rw[← hbs]; exact SP.out_in (y:=o.2) eo
   obtain⟨b,bt,g1,g2,g3⟩:=Wk.lv_mem hb'
   have hbl:=(zC.mp g1).1
   have eb:o.1.toNat=b:=by omega
   refine .inr ⟨t,if q (t.1 + W.dels.getD b 0,o.1,o.2)=true then 1 else 0,T,?_,(by split <;> omega),fun z=>?_⟩
   ·have put:(A.take s p t).wt q=(A.pop s t.2.1).wt q + (if q (t.1 + W.dels.getD b 0,o.1,o.2)=true then 1 else 0):=by
     have e1:(A.take s p t).de=(A.pop s t.2.1).de:=by unfold OA.take; rw[(put_same _ _ _).1]; rfl
     have e2:(A.take s p t).re=(A.pop s t.2.1).re.set b ((A.pop s t.2.1).re.getD b []++[(t.1 + W.dels.getD b 0,o.1,o.2)]):=by
      unfold OA.take
      rw[eo]
      show(A.pop s t.2.1).re.set o.1.toNat ((A.pop s t.2.1).re.getD o.1.toNat []++[(t.1 + (A.pop s t.2.1).dl.getD o.1.toNat 0,o.1,o.2)])=_
      rw[eb,edl]
     unfold OA.wt
     rw[e1,e2]
     have:=cnt_set q (A.pop s t.2.1).re b ((A.pop s t.2.1).re.getD b []++[(t.1 + W.dels.getD b 0,o.1,o.2)]) (by omega)
     rw[List.countP_append,List.countP_singleton] at this
     omega
    rw[put]
    omega
   ·split at z
    ·rename_i hq
     refine⟨_,b,bt,g1,hq,?_⟩
     have pc:=I.pc b bt g1
     rw[g2,zT,T.clk] at pc
     rw[Wk.dl_at g1]
     cases eg:A.pr.getD b none with
     | none=>rw[eg] at pc; exact pc.elim
     | some g=>rw[eg] at pc; exact⟨g,rfl,pc⟩
    ·cases z
end Oc
namespace Oc
open PySem L2
theorem step_is {W:Wk} {A:OA} (I:Inv W A) {s:Nat} (hs:s < W.st.length):∃ p,A.srs[s]?=some p∧p.ws=W.wy s∧p.bs=W.lv s∧((A.tkn s p=none∧(A.step s).1=(A.rsd s p).1)∨∃ t,A.tkn s p=some t∧(A.step s).1=((A.take s p t).rsd s p).1):=by
 obtain⟨p,hp⟩:∃ p,A.srs[s]?=some p:=⟨A.srs[s]'(by rw[I.st]; exact hs),zB _⟩
 have ep:A.srs.getD s sp0=p:=by rw[zA,hp]; rfl
 refine⟨p,hp,(I.sp s p hp).1,(I.sp s p hp).2,?_⟩
 cases e:A.tkn s p with
 | none =>
  refine .inl ⟨rfl,?_⟩
  have ea:A.aft s p=A:=by unfold OA.aft; rw[e]
  unfold OA.step OA.stp
  rw[ep,ea]
 | some t =>
  refine .inr ⟨t,rfl,?_⟩
  have ea:A.aft s p=A.take s p t:=by unfold OA.aft; rw[e]
  unfold OA.step OA.stp
  rw[ep,ea]
theorem step_ao {W:Wk} {A:OA} {m:Nat} (I:Inv W A) (ao:AOk m A) {s:Nat} (hs:s < W.st.length):AOk (m + 1) (A.step s).1:=by
 have go_:∀ {B C:OA},AOk (m + 1) B→C.de=B.de→C.re=B.re→C.ge=B.ge→AOk (m + 1) C:=fun {B C} h e1 e2 e3=>⟨by rw[e1]; exact h.d,by rw[e2]; exact h.r,by rw[e2]; exact h.lr,by rw[e3]; exact h.lg⟩
 obtain⟨p,hp,e1,e2,h⟩:=step_is I hs
 rcases h with ⟨_,e⟩|⟨t,_,e⟩
 ·rw[e]
  have R:=rsd_is A s p
  exact go_ (ao.le (y3 m)) R.de R.re R.ge
 ·rw[e]
  have R:=rsd_is (A.take s p t) s p
  refine go_ (ao.take s p t fun b hb=>?_) R.de R.re R.ge
  rw[e2] at hb
  obtain⟨j,_,_,_,h3⟩:=Wk.lv_mem hb
  omega
def Gt (W:Wk) (A:OA) (c:Int) (k:Nat):Prop:=∀(b:Nat) bt,W.be[b]?=some bt→bt.1 < (k:Int)→∀ g,A.pr.getD b none=some g→c < g
def Clo (W:Wk) (A:OA) (c:Int):Prop:=∀ s:Nat,s < W.st.length→∀ x,A.clk s (W.wy s)=some x→c≤x
def Zro (W:Wk) (A:OA) (c:Int) (j:Nat):Prop:=∀ w ∈ W.wy j,∀ t ∈ evAt A.de A.re j w,c < t.1
section
variable {W:Wk} {A:OA} {m s:Nat} {c:Int}
theorem clo_step (ok:W.Ok) (I:Inv W A) (ao:AOk m A) (hs:s < W.st.length) (h:Clo W A c):Clo W (A.step s).1 c:=fun j hj x hx=>by
 have:=(step_stp ok I ao hs).clk j
 rw[hx] at this
 cases e:A.clk j (W.wy j) with
 | none=>rw[e] at this; exact this.elim
 | some y=>rw[e] at this; exact j7 (h j hj y e) this
theorem gt_step (ok:W.Ok) (I:Inv W A) (ao:AOk m A) (hs:s < W.st.length) {k:Nat} (h:Gt W A c k):Gt W (A.step s).1 c k:=fun b bt hb hk g hg=>by
 have:=((step_stp ok I ao hs).belt b bt hb).le
 rw[hg] at this
 cases e:A.pr.getD b none with
 | none=>rw[e] at this; exact this.elim
 | some y=>rw[e] at this; exact qP (h b bt hb hk y e) this
theorem gt_raise (ok:W.Ok) (I:Inv W A) (ao:AOk m A) (hs:s < W.st.length) (h:Clo W A c) (g:Gt W A c s):Gt W (A.step s).1 c (s + 1):=fun b bt hb hk x hx=>by
 by_cases z:bt.1 < (s:Int)
 ·exact gt_step ok I ao hs g b bt hb z x hx
 ·have es:bt.1=(s:Int):=by omega
  obtain⟨b1,b2,b3,b4,b5,b6⟩:=ok.bel bt (zE hb)
  obtain⟨p,hp,e1,e2,hh⟩:=step_is I hs
  have mem:((b:Nat):Int) ∈ p.bs:=by
   rw[e2]
   have:=idx_has (fun t:Tri=>t.1 == (s:Int)) W.be 0 hb (by rw[es]; exact beq_self_eq_true _)
   rw[qO] at this
   exact this
  have hbl:=(zC.mp hb).1
  have fin:∀ B:OA,(A.step s).1=(B.rsd s p).1→B.pr.length=W.be.length→B.dl=W.dels→oLe (A.clk s (W.wy s)) (B.clk s (W.wy s))→c < x:=fun B e lp ed le=>by
   have R:=rsd_is B s p
   rw[← e] at R
   have g2:=R.ge2 b ⟨(b:Int),mem,zT b⟩ (by rw[lp]; exact hbl)
   rw[hx,e1] at g2
   unfold OA.new at g2
   rw[ed,Wk.dl_at hb] at g2
   cases ec:B.clk s (W.wy s) with
   | none=>rw[ec] at g2; exact g2.elim
   | some n =>
    rw[ec] at g2 le
    have g2:n + bt.2.2≤x:=g2
    cases ea:A.clk s (W.wy s) with
    | none=>rw[ea] at le; exact le.elim
    | some y =>
     rw[ea] at le
     have le:y≤n:=le
     have:=h s hs y ea
     omega
  rcases hh with ⟨_,e⟩|⟨t,et,e⟩
  ·exact fin A e I.lp I.dl (oLe_refl _)
  ·have wok:∀ w ∈ p.ws,w=-1∨0≤w:=fun w hw=>by rw[e1] at hw; exact Wk.wy_ok hw
   have T:=tkn_is ao wok et
   refine fin _ e (by rw[(take_same A s p t).1]; exact I.lp) (by rw[(take_same A s p t).2.1]; exact I.dl) (clk_mono fun w hw=>take_mono ok I hp T (Wk.wy_ok hw))
theorem zro_step (I:Inv W A) (ao:AOk m A) (hs:s < W.st.length) (g:Gt W A c W.st.length) (ok:W.Ok) {j:Nat} (h:Zro W A c j):Zro W (A.step s).1 c j:=fun w hw t ht=>by
 obtain⟨p,hp,e1,e2,hh⟩:=step_is I hs
 rcases hh with ⟨_,e⟩|⟨u,eu,e⟩
 ·have R:=rsd_is A s p
  rw[e,R.de,R.re] at ht
  exact h w hw t ht
 ·have R:=rsd_is (A.take s p u) s p
  rw[e,R.de,R.re] at ht
  have wok:∀ w ∈ p.ws,w=-1∨0≤w:=fun w hw=>by rw[e1] at hw; exact Wk.wy_ok hw
  have T:=tkn_is ao wok eu
  have old:=h w hw
  unfold evAt at ht old
  by_cases wd:w=-1
  ·rw[if_pos wd] at ht old
   rw[take_de] at ht
   split at ht
   ·exact old t (qU ht)
   ·exact old t ht
  ·rw[if_neg wd] at ht old
   rw[take_re A s p u (wok _ T.w)] at ht
   rcases zW.mp ht with z|z
   ·split at z
    ·exact old t (qU z)
    ·exact old t z
   ·cases eo:p.out (p.ws.idxOf u.2.1) u.2.2 with
    | none=>rw[eo] at z; exact absurd z zK
    | some o =>
     rw[eo] at z
     unfold putR at z
     dsimp only at z
     split at z
     ·rename_i y
      have hb':o.1 ∈ W.lv s:=by rw[← e2]; exact SP.out_in (y:=o.2) eo
      obtain⟨k,bt,g1,g2,g3⟩:=Wk.lv_mem hb'
      have ek:k=w.toNat:=by omega
      rw[← ek] at z
      have pc:=I.pc k bt g1
      rw[g2,zT,← e1,T.clk] at pc
      rw[zG.mp z,I.dl,Wk.dl_at g1]
      obtain⟨b1,b2,b3,b4,b5,b6⟩:=ok.bel bt (zE g1)
      cases eg:A.pr.getD k none with
      | none=>rw[eg] at pc; exact pc.elim
      | some x =>
       rw[eg] at pc
       exact qP (g k bt g1 (by omega) x eg) pc
     ·exact absurd z zK
theorem ev_sorted (I:Inv W A) (j:Nat) (w:Int):(evAt A.de A.re j w).Pairwise fun a b=>a.1≤b.1:=by
 unfold evAt
 split
 ·exact I.sd j
 ·exact I.sr _
theorem zro_of (I:Inv W A) {j:Nat} (h:∀ w ∈ W.wy j,∀ u,(evAt A.de A.re j w).head?=some u→c < u.1):Zro W A c j:=fun w hw t ht=>by
 have so:=ev_sorted I j w
 have hh:=h w hw
 cases e:evAt A.de A.re j w with
 | nil=>rw[e] at ht; exact absurd ht zK
 | cons u r =>
  rw[e] at ht so hh
  have:=hh u rfl
  rcases zS.mp ht with z|z
  ·rw[z]; exact this
  ·exact qP this ((yO.mp so).1 t z)
theorem take_or (ok:W.Ok) (I:Inv W A) (ao:AOk m A) (hs:s < W.st.length) (g:Gt W A c W.st.length):(A.step s).1.wt (fun t=>decide (t.1≤c)) < A.wt (fun t=>decide (t.1≤c))∨((A.step s).1.wt (fun t=>decide (t.1≤c))=A.wt (fun t=>decide (t.1≤c))∧Zro W A c s):=by
 rcases step_wt I ao hs (fun t=>decide (t.1≤c)) with ⟨e1,e2,e3⟩|⟨t,k,T,e1,e2,e3⟩
 ·refine .inr ⟨by unfold OA.wt; rw[e1,e2],zro_of I fun w hw u hu=>?_⟩
  refine Int.lt_of_not_ge fun le=>?_
  obtain⟨p,hp,h1,h2,_⟩:=step_is I hs
  have et:=e3 p hp
  have hin:u ∈ A.hds s (W.wy s):=yP.mpr ⟨w,hw,hu⟩
  obtain⟨t,eu⟩:=upc_some (A:=A) (s:=s) (ws:=W.wy s) (fun z=>by rw[z] at hin; exact absurd hin zK)
  have mn:=upc_min eu hw hu
  have tle:t.1≤c:=by
   have:=mt (kLt_iff (tkey u) (tkey t)).mpr (by rw[mn]; exact fun z=>nomatch z)
   unfold tkey at this
   omega
  have hm:A.may (W.wy s) t=true:=by
   unfold OA.may
   refine List.all_eq_true.mpr fun w' hw'=>?_
   obtain⟨m1,m2⟩:=zV.mp hw'
   have n1:w' ≠ -1:=by simpa using m2
   obtain⟨j,bt,hb,_,rfl⟩:=(Wk.wy_mem m1).resolve_left n1
   obtain⟨b1,b2,b3,b4,b5,b6⟩:=ok.bel bt (zE hb)
   rw[zT]
   unfold OA.lets
   split
   ·cases eg:A.pr.getD j none with
    | none=>rfl
    | some x =>
     have:=g j bt hb (by omega) x eg
     exact(kLt_iff (t.1,t.2.1) (x,(j:Int))).mpr (.inl (by show t.1 < x; omega))
   ·rfl
  unfold OA.tkn at et
  rw[h1,eu] at et
  dsimp only at et
  rw[if_pos hm] at et
  cases et
 ·have k0:k=0:=by
   refine Classical.byContradiction fun z=>?_
   obtain⟨e,b,bt,hb,q,x,hx,le⟩:=e3 (by omega)
   obtain⟨b1,b2,b3,b4,b5,b6⟩:=ok.bel bt (zE hb)
   have:=g b bt hb (by omega) x hx
   have:=of_decide_eq_true q
   omega
  by_cases tc:t.1≤c
  ·rw[if_pos (decide_eq_true tc)] at e1
   exact .inl (by omega)
  ·rw[if_neg (fun z=>tc (of_decide_eq_true z))] at e1
   refine .inr ⟨by omega,zro_of I fun w hw u hu=>?_⟩
   have:=T.min w hw u hu
   have n:¬ (kLt (tkey u) (tkey t)=true):=by rw[this]; exact zZ
   rw[kLt_iff] at n
   unfold tkey at n
   omega
theorem clo_of (I:Inv W A) (ok:W.Ok) (g:Gt W A c W.st.length) (h:∀ j:Nat,j < W.st.length→Zro W A c j):Clo W A (c + 1):=fun s hs x hx=>by
 unfold OA.clk at hx
 obtain⟨w,hw,he⟩:=yP.mp (qE.mp hx).1
 have z:=h s hs w hw
 cases ev:evAt A.de A.re s w with
 | cons u r =>
  rw[ev] at he z
  have:=z u zH
  replace he:some u.1=some x:=he
  cases he
  omega
 | nil =>
  rw[ev] at he
  replace he:(if w=-1 then none else A.pr.getD w.toNat none)=some x:=he
  split at he
  ·cases he
  ·rename_i w1
   obtain⟨j,bt,hb,_,rfl⟩:=(Wk.wy_mem hw).resolve_left w1
   obtain⟨b1,b2,b3,b4,b5,b6⟩:=ok.bel bt (zE hb)
   rw[zT] at he
   have:=g j bt hb (by omega) x he
   omega
end
def OA.rnd (A:OA) (k:Nat):OA:=(List.range k).foldl (fun B s=>(B.step s).1) A
theorem rnd_succ (A:OA) (k:Nat):A.rnd (k + 1)=((A.rnd k).step k).1:=by
 unfold OA.rnd
 rw[y9,jI]
 rfl
structure Rb (W:Wk) (F:Nat) (A:OA):Prop where
 inv:Inv W A
 ao:∃ m,AOk m A
 wt:A.wt (fun _=>true)≤F
section
variable {W:Wk} {A:OA} {F:Nat} {c:Int}
theorem rb_step (ok:W.Ok) (h:Rb W F A) {s:Nat} (hs:s < W.st.length):Rb W F (A.step s).1:=by
 obtain⟨m,ao⟩:=h.ao
 refine⟨(step_stp ok h.inv ao hs).inv,⟨_,step_ao h.inv ao hs⟩,?_⟩
 have:=h.wt
 rcases step_wt h.inv ao hs (fun _=>true) with ⟨e1,e2,_⟩|⟨t,k,_,e1,e2,_⟩
 ·unfold OA.wt at this ⊢
  rw[e1,e2]
  exact this
 ·rw[if_pos rfl] at e1
  omega
theorem rb_rnd (ok:W.Ok) (h:Rb W F A):∀ k,k≤W.st.length→Rb W F (A.rnd k)
 | 0,_=>h
 | k + 1,hk=>by rw[rnd_succ]; exact rb_step ok (rb_rnd ok h k (by omega)) (by omega)
theorem clo_rnd (ok:W.Ok) (h:Rb W F A) (cl:Clo W A c):∀ k,k≤W.st.length→Clo W (A.rnd k) c∧Gt W (A.rnd k) c k
 | 0,_=>⟨cl,fun b bt hb hk=>by
  have:=(ok.bel bt (zE hb)).1
  exact absurd hk (by omega)⟩
 | k + 1,hk=>by
  obtain⟨h1,h2⟩:=clo_rnd ok h cl k (by omega)
  have r:=rb_rnd ok h k (by omega)
  obtain⟨m,ao⟩:=r.ao
  rw[rnd_succ]
  exact⟨clo_step ok r.inv ao (by omega) h1,gt_raise ok r.inv ao (by omega) h1 h2⟩
theorem rnd_or (ok:W.Ok) (h:Rb W F A) (g:Gt W A c W.st.length):∀ k,k≤W.st.length→Gt W (A.rnd k) c W.st.length∧((A.rnd k).wt (fun t=>decide (t.1≤c)) < A.wt (fun t=>decide (t.1≤c))∨((A.rnd k).wt (fun t=>decide (t.1≤c))=A.wt (fun t=>decide (t.1≤c))∧∀ j < k,Zro W (A.rnd k) c j))
 | 0,_=>⟨g,.inr ⟨rfl,fun j z=>absurd z (qH j)⟩⟩
 | k + 1,hk=>by
  obtain⟨h1,h2⟩:=rnd_or ok h g k (by omega)
  have r:=rb_rnd ok h k (by omega)
  obtain⟨m,ao⟩:=r.ao
  rw[rnd_succ]
  have hk':k < W.st.length:=by omega
  refine⟨gt_step ok r.inv ao hk' h1,?_⟩
  rcases take_or ok r.inv ao hk' h1 with t|⟨t,z⟩
  ·rcases h2 with h2|⟨h2,_⟩
   ·exact .inl (by omega)
   ·exact .inl (by omega)
  ·rcases h2 with h2|⟨h2,h3⟩
   ·exact .inl (by omega)
   ·refine .inr ⟨by omega,fun j hj=>?_⟩
    by_cases e:j=k
    ·rw[e]; exact zro_step r.inv ao hk' h1 ok z
    ·exact zro_step r.inv ao hk' h1 ok (h3 j (by omega))
end
def OA.rnds (A:OA) (k:Nat):Nat→OA
 | 0=>A
 | r + 1=>(A.rnds k r).rnd k
theorem wt_le (A:OA) (q:Tri→Bool):A.wt q≤A.wt (fun _=>true):=by
 have h:∀ rows:List (List Tri),cntP q rows≤cntP (fun _=>true) rows:=fun rows=>by
  induction rows with
  | nil=>exact zI _
  | cons x rows ih =>
   unfold cntP at ih ⊢
   rw[yG,yG,y7,y7]
   have:x.countP q≤x.countP (fun _=>true):=vD fun _ _ _=>rfl
   omega
 unfold OA.wt
 exact Nat.add_le_add (h _) (h _)
section
variable {W:Wk} {A:OA} {F:Nat} {c:Int}
theorem rb_rnds (ok:W.Ok) (h:Rb W F A):∀ r,Rb W F (A.rnds W.st.length r)
 | 0=>h
 | r + 1=>rb_rnd ok (rb_rnds ok h r) _ (zI _)
theorem rnds_add (A:OA) (k:Nat) (i:Nat):∀ j,A.rnds k (i + j)=(A.rnds k i).rnds k j
 | 0=>rfl
 | j + 1=>by
  show(A.rnds k (i + j)).rnd k=((A.rnds k i).rnds k j).rnd k
  rw[rnds_add A k i j]
theorem clo_rnds (ok:W.Ok) (h:Rb W F A) (cl:Clo W A c):∀ r,Clo W (A.rnds W.st.length r) c
 | 0=>cl
 | r + 1=>(clo_rnd ok (rb_rnds ok h r) (clo_rnds ok h cl r) _ (zI _)).1
theorem go_on1 (ok:W.Ok):∀(k:Nat) {A:OA},Rb W F A→Gt W A c W.st.length→A.wt (fun t=>decide (t.1≤c))≤k→Clo W (A.rnds W.st.length (k + 1)) (c + 1):=by
 intro k
 induction k with
 | zero =>
  intro A h g le
  obtain⟨h1,h2⟩:=rnd_or ok h g _ (zI _)
  rcases h2 with h2|⟨_,h2⟩
  ·omega
  ·exact clo_of (rb_rnd ok h _ (zI _)).inv ok h1 h2
 | succ k ih =>
  intro A h g le
  obtain⟨h1,h2⟩:=rnd_or ok h g _ (zI _)
  have r:=rb_rnd ok h _ (zI _)
  have e:A.rnds W.st.length (k + 1 + 1)=(A.rnd W.st.length).rnds W.st.length (k + 1):=by
   rw[show k + 1 + 1=1 + (k + 1) by omega,rnds_add]
   rfl
  rw[e]
  rcases h2 with h2|⟨_,h2⟩
  ·exact ih r h1 (by omega)
  ·exact clo_rnds ok r (clo_of r.inv ok h1 h2) _
theorem go_on (ok:W.Ok) (h:Rb W F A) (cl:Clo W A c):Clo W (A.rnds W.st.length (F + 2)) (c + 1):=by
 have r:=rb_rnd ok h _ (zI _)
 have g:=(clo_rnd ok h cl _ (zI _)).2
 have e:A.rnds W.st.length (F + 2)=(A.rnd W.st.length).rnds W.st.length (F + 1):=by
  rw[show F + 2=1 + (F + 1) by omega,rnds_add]
  rfl
 rw[e]
 exact go_on1 ok F r g (z9 (wt_le _ _) r.wt)
theorem go_far (ok:W.Ok) (h:Rb W F A) (cl:Clo W A 0):∀ n:Nat,Clo W (A.rnds W.st.length (n * (F + 2))) (n:Int)
 | 0=>by rw[Nat.zero_mul]; exact cl
 | n + 1=>by
  rw[vG,vF,rnds_add]
  have:=go_on ok (rb_rnds ok h (n * (F + 2))) (go_far ok h cl n)
  rw[show((n + 1:Nat):Int)=(n:Int) + 1 by omega]
  exact this
end
end Oc
namespace Oc
open PySem L2
theorem cnt_two {a b c:Tri→Bool} (h:∀ x,(if a x=true then 1 else 0) + (if b x=true then 1 else 0)≤if c x=true then 1 else 0):∀ l:List Tri,l.countP a + l.countP b≤l.countP c
 | []=>zI _
 | x::l=>by
  have h1:=cnt_two h l
  have h2:=h x
  rw[jD,jD,jD]
  omega
theorem drs_len (W:Wk) (s:Int):(W.drs s).length≤W.fe.countP fun f=>f.1 == s:=by
 have key:∀ n:Nat,((List.range n).flatMap fun(t:Nat)=>W.fe.filter fun f=>f.1 == s && f.2.1 == (t:Int)).length≤W.fe.countP fun f=>f.1 == s && decide (f.2.1 < (n:Int)):=fun n=>by
  induction n with
  | zero=>exact z5 _
  | succ n ih =>
   rw[y9,qK,zM,jR,← List.countP_eq_length_filter]
   refine z9 (Nat.add_le_add_right ih _) (cnt_two (fun x=>?_) _)
   by_cases e:x.1=s
   ·by_cases e1:x.2.1 < (n:Int)
    ·simp [e,e1,show ¬ x.2.1=(n:Int) by omega,show x.2.1 < (n:Int) + 1 by omega]
    ·by_cases e2:x.2.1=(n:Int)
     ·simp [e,e2,show(n:Int) < (n:Int) + 1 by omega]
     ·simp [e,e1,e2]
   ·simp [e]
 refine z9 (key 51) (vD fun x _ h=>?_)
 simp only [yK] at h
 exact h.1
theorem wt_new (W:Wk):W.oa.wt (fun _=>true)≤W.fe.length:=by
 have e1:cntP (fun _=>true) W.oa.re=0:=cnt_zero fun i t ht=>by
  replace ht:t ∈ (W.be.map fun _=>([]:List Tri)).getD i []:=ht
  rw[getD_nils] at ht
  exact absurd ht zK
 have key:∀ n:Nat,cntP (fun _=>true) ((List.range n).map fun(s:Nat)=>W.de (s:Int))≤W.fe.countP fun f=>decide (f.1 < (n:Int)):=fun n=>by
  induction n with
  | zero=>exact z5 _
  | succ n ih =>
   unfold cntP at ih ⊢
   rw[y9,zL,zL,List.sum_append]
   have e:(W.de ((n:Nat):Int)).countP (fun _=>true)≤W.fe.countP fun f=>f.1 == ((n:Nat):Int):=by
    refine z9 vE ?_
    unfold Wk.de Wk.dr
    rw[zD,zD]
    exact drs_len W _
   simp only [yG,qX,y7,List.sum_nil,Nat.add_zero]
   refine z9 (Nat.add_le_add ih e) (cnt_two (fun x=>?_) _)
   by_cases e1:x.1 < (n:Int)
   ·simp [e1,show ¬ x.1=(n:Int) by omega,show x.1 < (n:Int) + 1 by omega]
   ·by_cases e2:x.1=(n:Int)
    ·simp [e2,show(n:Int) < (n:Int) + 1 by omega]
    ·simp [e1,e2]
 unfold OA.wt
 rw[e1]
 exact z9 (key W.st.length) vE
theorem new_rb {W:Wk} (ok:W.Ok):Rb W 60 W.oa:=⟨new_inv ok,⟨0,new_ao W⟩,z9 (wt_new W) ok.f60⟩
theorem new_clo {W:Wk} (ok:W.Ok):Clo W W.oa 0:=fun s hs x hx=>by
 unfold OA.clk at hx
 obtain⟨w,hw,he⟩:=yP.mp (qE.mp hx).1
 cases ev:evAt W.oa.de W.oa.re s w with
 | cons u r =>
  rw[ev] at he
  replace he:some u.1=some x:=he
  cases he
  unfold evAt at ev
  split at ev
  ·replace ev:W.des.getD s []=u::r:=ev
   rcases des_at (W:=W) s with e|e
   ·rw[e] at ev; cases ev
   ·rw[e] at ev
    exact de_nn ok _ u (by rw[ev]; exact zH)
  ·replace ev:(W.be.map fun _=>([]:List Tri)).getD w.toNat []=u::r:=ev
   rw[getD_nils] at ev
   cases ev
 | nil =>
  rw[ev] at he
  replace he:(if w=-1 then none else W.oa.pr.getD w.toNat none)=some x:=he
  split at he
  ·cases he
  ·replace he:(W.be.map fun t=>some t.2.2).getD w.toNat none=some x:=he
   rw[zA,zF] at he
   cases h:W.be[w.toNat]? with
   | none=>rw[h] at he; cases he
   | some c =>
    rw[h] at he
    replace he:some c.2.2=some x:=he
    cases he
    have:=(ok.bel c (zE h)).2.2.2.2.1
    omega
theorem far_bhs {W:Wk} (ok:W.Ok) {u:Int} {n:Nat} (hu:u < (n:Int)):((W.oa.rnds W.st.length (n * 62)).bhs W.st.length u).isEmpty=true:=by
 have c:=go_far ok (new_rb ok) (new_clo ok) n
 have I:=(rb_rnds ok (new_rb ok) (n * 62)).inv
 refine bhs_nil.mpr fun s hs=>?_
 rw[I.ws hs]
 cases e:(W.oa.rnds W.st.length (n * 62)).clk s (W.wy s) with
 | none=>rfl
 | some x =>
  have:=c s hs x e
  exact decide_eq_false (by omega)
theorem rnds_go (A:OA) (k:Nat):∀ r,A.rnds k r=A.go (List.replicate r (List.range k)).flatten
 | 0=>rfl
 | r + 1=>by
  show(A.rnds k r).rnd k=_
  rw[rnds_go A k r,List.replicate_succ',qJ,qC]
  unfold OA.go OA.rnd
  rw[jI]
end Oc
namespace Oc
open PySem L2
open Classical in
theorem hc_cnt {H:Hp} {A B:List (List Cell)} (h:Hc H A) (p:∀ c,A.flatten.count c=B.flatten.count c):Hc H B:=Hs.perm h (List.perm_iff_count.mpr p)
structure Ow31 (cs:Cs) (C Pd Pu:Addr) (W:Wk) (M:List (List Cell)) (H:Hp) (o:OR) (A:OA) (m:Nat):Prop where
 hc:Hc H (ownCs cs C o++M)
 fo:OwnF W m H o A
 inv:Inv W A
 dr:DoorT Pd H
 up:UpT Pu H
theorem Ow31.same {cs:Cs} {C Pd Pu:Addr} {W:Wk} {M:List (List Cell)} {H H':Hp} {o:OR} {A:OA} {m:Nat} (h:Ow31 cs C Pd Pu W M H o A m) (s:Same H H'):Ow31 cs C Pd Pu W M H' o A m:=⟨h.hc.same s,h.fo.via (fun _ _=>IsTri.same s) (zI _),h.inv,h.dr.same s,h.up.same s⟩
theorem small90 {n:Nat} (h:n≤90000):n < sizeLine:=y6 h (by decide)
def upTo (u:Int) (t:Tri):Bool:=decide (t.1≤u)
inductive spGor (cs:Cs) (C Pd Pu:Addr) (vs:List V) (H:Hp) (Q:VK) (x_3:XK):Prop where
 | mk (o:OR) (M:List (List Cell)) (m:Nat) (w:Addr) (W:Wk) (A:OA) (h_0:vs=[.ref o.x,.ref w]) (h_1:Ow31 cs C Pd Pu W M H o A m) (h_2:NoT M) (h_3:(∀ H',Hc H' M→WkAt H' w W)) (h_4:W.Ok) (h_5:m + W.st.length≤90000) (h_6:Pd ≠ Pu) (h_7:∀(o':OR) (H':Hp),o'.x=o.x→Ow31 cs C Pd Pu W M H' o' (A.rnd W.st.length) (m + W.st.length)→(∀ x t,IsTri H x t→IsTri H' x t)→Q .non H'):spGor cs C Pd Pu vs H Q x_3
inductive spTu (cs:Cs) (C:Addr) (vs:List V) (H:Hp) (Q:VK) (x_3:XK):Prop where
 | mk (o:OR) (M:List (List Cell)) (s:Nat) (us:List V) (ts:List Tri) (u:Int) (h_0:vs=[.ref o.x,.int (s:Int),.int u]) (h_1:Hc H (ownCs cs C o++M)) (h_2:OOk o) (h_3:o.gv[s]?=some us) (h_4:Paired (IsTri H) us ts) (h_5:ts.length≤90000) (h_6:∀(p:Addr) (us':List V) (H':Hp),H p=none→Same H H'→H' p=some (.lst us')→Paired (IsTri H') us' (ts.filter (upTo u))→Q (.ref p) H'):spTu cs C vs H Q x_3
structure Stl (W:Wk) (u:Int) (r:Nat):Prop where
 le:r≤(u.toNat + 1) * 62
 em:((W.oa.rnds W.st.length r).bhs W.st.length u).isEmpty=true
 ne:∀ r' < r,((W.oa.rnds W.st.length r').bhs W.st.length u).isEmpty=false
def OA.upT (A:OA) (u:Int) (n:Nat):List (List Tri):=(List.range n).map fun s=>(A.ge.getD s []).filter (upTo u)
inductive spSet (cs:Cs) (C Pd Pu:Addr) (vs:List V) (H:Hp) (Q:VK) (x_3:XK):Prop where
 | mk (w:Addr) (W:Wk) (M:List (List Cell)) (u:Int) (h_0:vs=[.ref w,.int u]) (h_1:Hc H M) (h_2:NoT M) (h_3:(∀ H',Hc H' M→WkAt H' w W)) (h_4:W.Ok) (h_5:0≤u) (h_6:u≤100) (h_7:DoorT Pd H) (h_8:UpT Pu H) (h_9:Pd ≠ Pu) (h_10:∀(t D:Addr) (bs:List Addr) (rv:List (List V)) (r:Nat) (H':Hp),Stl W u r→Hc H' ([(t,.tup [.ref D,.int (r:Int)])]::[(D,.lst (bs.map V.ref))]::liC bs rv::M)→bs.length=rv.length→Paired (fun us ts=>Paired (IsTri H') us ts) rv ((W.oa.rnds W.st.length r).upT u W.st.length)→DoorT Pd H'→UpT Pu H'→(∀ x t,IsTri H x t→IsTri H' x t)→Q (.ref t) H'):spSet cs C Pd Pu vs H Q x_3
section
variable {P:Program} {w:World} {K:PySem.W.Frag} {mg:Str→Option Value} {base:Heap} {cs:Cs} {C Pd Pu:Addr}
theorem sc_gor:FnScope ["own","works","station"] ["own","works"] (defScope (top 22)):=⟨rfl,rfl,rfl,by decide +kernel,rfl,by decide +kernel,by decide +kernel⟩
theorem ok_gor {f:Addr} {fd:FuncData} (F:Fun K "go_round" "go_round" (top 22) f fd) (T:Txt K mg) (G_step:MethAt P w K mg base 5 C "step" ["self","station"] (spStep cs C Pu)):FnOk P w K mg base CX0 6 f fd ["own","works"] (spGor cs C Pd Pu):=by
 have nd:=sc_gor.nd
 refine F.ok sc_gor (fun vs H Q E h=>?_) (fun cdv A outer s H vs Q E hr h=>?_)
 ·obtain⟨o,M,m,w,W,A,rfl,_⟩:=h
  rfl
 ·obtain⟨o,M,m,w,W,A,rfl,L,nM,back,ok,hm,nePP,q⟩:=h
  obtain⟨sa,ba,fa,xs,ys,zs,h1,h2⟩:=(back H L.hc.drop).ex
  have lx:=h2.ps.length
  have s8:=ok.s8
  refine⟨_,(@pss_one _ _ _ (ps_for PassesOwn.never rfl (pi_range1 rfl T.n_range (@pa_cons _ _ _ _ _ (pe_callB (call_len_seqK (K:=K) rfl) (by rfl) T.n_len bt_len (@pa_cons _ _ _ _ _ (@pe_ix _ _ _ _ _ _ _ (ix_tupK (K:=K) rfl) (pv 1) pe_int (fun _ _=>rfl)) pa_nil (by rfl))) pa_nil (by rfl))) (pg_name (i:=2) nd rfl (by nofun)) (@pss_one _ _ _ (ps_expr (pe_mth G_step (hr.mono (by decide)) (pv 0) (@pa_cons _ _ _ _ _ (pv 2) pa_nil (by rfl))))))),?_⟩
  refine⟨_,rfl,⟨_,_,_,_,rfl,rfl,SqT.of h1,(atI_nat (j:=0) rfl),sa,_,rfl,.inl (SqL.of h2.hs),?_⟩⟩
  rw[lx]
  refine⟨_,rfl,by rw[p62]; omega,by rw[p62]; omega,?_⟩
  refine for_range (n:=((W.st.length:Nat):Int).toNat) (fun i σ H5=>∃(v2:Option V) (o':OR),σ=[some (.ref o.x),some (.ref w),v2]∧o'.x=o.x∧Ow31 cs C Pd Pu W M H5 o' (A.rnd i) (m + i)∧∀ x t,IsTri H x t→IsTri H5 x t) ⟨_,o,rfl,rfl,L,fun _ _ h=>h⟩ ?_ ?_
  ·rintro i σ H5 hi ⟨v2,o',rfl,ex,L',tr⟩
   rw[qD]
   have hi':i < W.st.length:=by omega
   have e1:=L'.fo.ns
   obtain⟨r,hr'⟩:∃ r,o'.srs[i]?=some r:=⟨o'.srs[i]'(by omega),zB _⟩
   rw[← ex]
   refine⟨_,rfl,o'.x,o'.dx,o'.flds,rfl,L'.hc.get 0 0 rfl rfl,f_m (by decide +kernel),_,rfl,o',_,i,_,_,r,rfl,L'.hc,nM,L'.fo.ok,L'.fo.is,hr',L'.fo.so,(by omega),L'.fo.ao,L'.up,fun o2 H6 st=>?_⟩
   have f':=L'.fo.nxt hr' st
   have i':=(step_stp ok L'.inv L'.fo.ao hi').inv
   rw[← rnd_succ] at f' i'
   exact⟨_,o2,rfl,st.x,⟨st.hc,f',i',LamT.tkp L'.dr st.tk nePP L'.up,st.up⟩,fun x t h=>IsTri.tkp st.tk L'.up (tr x t h)⟩
  ·rintro σ H5 ⟨v2,o',rfl,ex,L',tr⟩
   exact q o' _ ex L' tr
theorem sc_tu:FnScope ["own","station","until"] ["own","station","until"] (defScope (top 23)):=⟨rfl,rfl,rfl,by decide +kernel,rfl,by decide +kernel,by decide +kernel⟩
theorem ok_tu {f:Addr} {fd:FuncData} (F:Fun K "taken_until" "taken_until" (top 23) f fd) (G_taken:MethAt P w K mg base 1 C "taken" ["self","station"] (spTaken cs C)):FnOk P w K mg base CX0 2 f fd ["own","station","until"] (spTu cs C):=by
 have nd:=sc_tu.nd
 refine F.ok sc_tu (fun vs H Q E h=>?_) (fun cdv A outer s H vs Q E hr h=>?_)
 ·obtain⟨o,M,s,us,ts,u,rfl,_⟩:=h
  rfl
 ·obtain⟨o,M,s,us,ts,u,rfl,hc,ook,hu,pu,hl,q⟩:=h
  have lu:=pu.length
  refine⟨_,(@pss_one _ _ _ (@ps_ret _ _ _ _ (pe_comp (own:=["event"]) (fr:=["until"]) (js:=[2]) (by and_intros) (pi_listK (K:=K) rfl (pe_mth G_taken (hr.mono (by decide)) (pv 0) (@pa_cons _ _ _ _ _ (pv 1) pa_nil (by rfl)))) (fun _ _ _ _=>(pg_name (i:=0) (show List.Nodup (["event","until"]:List Str) from by decide +kernel) rfl (by nofun))) (fun _ _ _ _=>(pts_one (pt_cmpR op_le (@pe_ix _ _ _ _ _ _ _ (ix_tupK (K:=K) rfl) (pv 0) pe_int (fun _ _=>rfl)) (pv 1) (nomark _)))) (fun _ _ _ _=>(pv 0))))),?_⟩
  refine⟨_,rfl,o.x,o.dx,o.flds,rfl,hc.get 0 0 rfl rfl,f_m (by decide +kernel),_,rfl,o,M,s,us,rfl,hc,ook,hu,fun p1 n1=>?_⟩
  have s1:=Same.new (o:=.lst us) n1
  have g1:=upd_same (H:=H) (a:=p1) (o:=.lst us)
  generalize upd H p1 (.lst us)=H1 at s1 g1 ⊢
  refine⟨p1,rfl,⟨_,SqL.of g1⟩,fun D nD=>?_⟩
  have nD0:H D=none:=by
   cases e:H D with
   | none=>rfl
   | some o=>rw[s1 _ _ e] at nD; cases nD
  have pg1:=pairedMono (fun _ _=>IsTri.same s1) pu
  refine comp_list (a:=p1) (xs:=us) (fun i H6=>∃ vs,Same H1 H6∧H6 D=some (.lst vs)∧Paired (IsTri H6) vs ((ts.take i).filter (upTo u))) ⟨[],Same.new nD,upd_same,.nil⟩ (fun i H6 _ ⟨_,s6,_⟩=>SqL.of (s6 _ _ g1)) ?_ ?_
  ·rintro i x H6 m' Wf hx ⟨vs,s6,h6,p6⟩ nx
   obtain⟨e,he,pe,rfl,hpe⟩:=pg1.gt hx
   have lv:=p6.length
   have lf:=qF (upTo u) (ts.take i)
   rw[yA] at lf
   refine⟨_,rfl,⟨_,_,_,_,rfl,rfl,SqT.of (s6 _ _ hpe),(atI_nat (j:=0) rfl),_,rfl,_,_,rfl,rfl,_,rfl,?_⟩⟩
   have tk:=take_1 he
   by_cases hh:e.1≤u
   ·rw[decide_eq_true hh]
    refine iteT ⟨_,rfl,_,h6,small90 (by omega),nx _ ⟨vs++[.ref pe],s6.upd nD,upd_same,?_⟩⟩
    rw[tk,zN,z6 (show upTo u e=true from decide_eq_true hh),yL]
    exact paired_app (pairedMono (fun _ _ h=>h.keep h6) p6) (.cons (IsTri.keep h6 ⟨pe,rfl,s6 _ _ hpe⟩) .nil)
   ·rw[decide_eq_false hh]
    refine iteF (nx _ ⟨vs,s6,h6,?_⟩)
    rw[tk,zN,yB (show ¬ upTo u e=true from fun z=>hh (of_decide_eq_true z)),yL,zP]
    exact p6
  ·rintro H6 ⟨vs,s6,h6,p6⟩
   rw[lu,yD] at p6
   exact q D vs H6 nD0 (s1.trans s6) h6 p6
theorem sc_set:FnScope ["works","until","own","rounds"] ["works","until"] (defScope (top 24)):=⟨rfl,rfl,rfl,by decide +kernel,rfl,by decide +kernel,by decide +kernel⟩
theorem ok_set {f:Addr} {fd:FuncData} (F:Fun K "settled" "settled" (top 24) f fd) (T:Txt K mg) (M_Own:MkAt P w K mg base 5 "Own" C ["self","works"] (spOwI K cs C Pd)) (fh:FnAt P w K mg base 5 "behind" ["own","works","until"] (spBhd cs C)) (cu:FnAt P w K mg base 6 "go_round" ["own","works"] (spGor cs C Pd Pu)) (aO:FnAt P w K mg base 2 "taken_until" ["own","station","until"] (spTu cs C)):FnOk P w K mg base CX0 7 f fd ["works","until"] (spSet cs C Pd Pu):=by
 have nd:=sc_set.nd
 refine F.ok sc_set (fun vs H Q E h=>?_) (fun cdv A outer s H vs Q E hr h=>?_)
 ·obtain⟨w,W,M,u,rfl,_⟩:=h
  rfl
 ·obtain⟨w,W,M,u,rfl,k,nM,back,ok,u0,u1,hT,hU,nePP,q⟩:=h
  have s8:=ok.s8
  refine⟨_,(@pss_cons _ _ _ _ _ (ps_set (i:=2) nd rfl (by nofun) (pe_mk M_Own (hr.mono (by decide)) (by rfl) (@pa_cons _ _ _ _ _ (pv 0) pa_nil (by rfl))))
   (@pss_cons _ _ _ _ _ (ps_set (i:=3) nd rfl (by nofun) pe_int)
   (@pss_cons _ _ _ _ _ (ps_while PassesOwn.never (pt_cmpR op_gt (pe_callB (call_len_seqK (K:=K) rfl) (by rfl) T.n_len bt_len (@pa_cons _ _ _ _ _ (pe_fn fh (hr.mono (by decide)) (by rfl) (@pa_cons _ _ _ _ _ (pv 2) (@pa_cons _ _ _ _ _ (pv 0) (@pa_cons _ _ _ _ _ (pv 1) pa_nil (by rfl)) (by rfl)) (by rfl))) pa_nil (by rfl))) pe_int (nomark _)) (@pss_cons _ _ _ _ _ (ps_expr (pe_fn cu (hr.mono (by decide)) (by rfl) (@pa_cons _ _ _ _ _ (pv 2) (@pa_cons _ _ _ _ _ (pv 0) pa_nil (by rfl)) (by rfl))))
   (@pss_one _ _ _ (ps_set (i:=3) nd rfl (by nofun) (pe_op op_add (pv 3) pe_int)))))
   (@pss_one _ _ _ (@ps_ret _ _ _ _ (@pe_tup _ _ _ _ _ (@pa_cons _ _ _ _ _ (pe_comp (own:=["station"]) (fr:=["own","until"]) (js:=[2,1]) (by and_intros) (pi_range1 rfl T.n_range (@pa_cons _ _ _ _ _ (pe_callB (call_len_seqK (K:=K) rfl) (by rfl) T.n_len bt_len (@pa_cons _ _ _ _ _ (@pe_ix _ _ _ _ _ _ _ (ix_tupK (K:=K) rfl) (pv 0) pe_int (fun _ _=>rfl)) pa_nil (by rfl))) pa_nil (by rfl))) (fun _ _ _ _=>(pg_name (i:=0) (show List.Nodup (["station","own","until"]:List Str) from by decide +kernel) rfl (by nofun))) (fun _ _ _ _=>pts_nil) (fun _ _ _ _=>(pe_fn aO (hr.mono (by decide)) (by rfl) (@pa_cons _ _ _ _ _ (pv 1) (@pa_cons _ _ _ _ _ (pv 0) (@pa_cons _ _ _ _ _ (pv 2) pa_nil (by rfl)) (by rfl)) (by rfl))))) (@pa_cons _ _ _ _ _ (pv 3) pa_nil (by rfl)) (by rfl)))))))),?_⟩
  refine⟨_,rfl,fun x dx nx ndx nex=>?_⟩
  have kF:=(k.same (Same.new (o:=.own x) ndx)).new (p:=x) (by rw[upd_ne (Ne.symm nex)]; exact nx) (.ins C dx [])
  have tF:Same H (upd (upd H dx (.own x)) x (.ins C dx [])):=(Same.new ndx).upd nx
  have hTF:=hT.same tF
  have hUF:=hU.same tF
  generalize (upd (upd H dx (.own x)) x (.ins C dx []))=HF at kF hTF hUF tF ⊢
  refine⟨x,w,dx,W,_,rfl,kF,nM,back HF kF.tl,ok,hTF,fun o1 H5 ex1 hc5 kp5 hT5 new5 ev5=>⟨rfl,?_⟩⟩
  subst ex1
  have L0:Ow31 cs C Pd Pu W M H5 o1 W.oa 0:=⟨hc5,new_own new5 ev5,new_inv ok,hT5,LamT.kpd hUF kp5 (Ne.symm nePP) (kF.get 0 0 rfl rfl)⟩
  have tr0:∀ x t,IsTri H x t→IsTri H5 x t:=fun x t h=>IsTri.kpd kp5 (kF.get 0 0 rfl rfl) (IsTri.same tF h)
  clear kF tF hTF hUF hc5 kp5 hT5 new5 ev5 hT hU k
  refine⟨fun mm σ H6=>∃(r:Nat) (o:OR),mm=(u.toNat + 1) * 62 - r∧σ=[some (.ref w),some (.int u),some (.ref o.x),some (.int (r:Int))]∧r≤(u.toNat + 1) * 62∧(∀ r' < r,((W.oa.rnds W.st.length r').bhs W.st.length u).isEmpty=false)∧Ow31 cs C Pd Pu W M H6 o (W.oa.rnds W.st.length r) (r * W.st.length)∧∀ x t,IsTri H x t→IsTri H6 x t,⟨_,0,o1,rfl,rfl,z5 _,(fun r' z=>absurd z (qH r')),by rw[Nat.zero_mul]; exact L0,tr0⟩,?_⟩
  clear L0 tr0
  rintro mm σ H6 ⟨r,o,rfl,rfl,rle,hne,L,tr⟩
  have rw1:r * W.st.length≤6262 * 8:=Nat.mul_le_mul (by omega) s8
  refine⟨_,rfl,_,rfl,_,rfl,o,M,w,W,_,u,rfl,L.hc,L.fo.ok,L.fo.is,(fun r hr=>(L.fo.so r hr).l1),back H6 L.hc.drop,L.fo.ns,fun l H7 nl s7 g7=>?_⟩
  refine⟨l,_,rfl,.inl (SqL.of g7),_,_,rfl,rfl,_,rfl,?_⟩
  have el:(intV ((W.oa.rnds W.st.length r).bhs W.st.length u)).length=((W.oa.rnds W.st.length r).bhs W.st.length u).length:=zD _
  rw[el]
  have L7:=L.same s7
  have tr7:∀ x t,IsTri H x t→IsTri H7 x t:=fun x t h=>IsTri.same s7 (tr x t h)
  clear L g7
  cases hb:((W.oa.rnds W.st.length r).bhs W.st.length u).isEmpty with
  | false =>
   have lp:0 < ((W.oa.rnds W.st.length r).bhs W.st.length u).length:=j0.mpr fun z=>by rw[z] at hb; cases hb
   rw[decide_eq_true (by omega)]
   have rlt:r < (u.toNat + 1) * 62:=by
    refine Nat.lt_of_le_of_ne rle fun z=>?_
    have:=far_bhs ok (u:=u) (n:=u.toNat + 1) (by omega)
    rw[← z,hb] at this
    cases this
   refine iteT ⟨fun σ' H8=>∃ o':OR,σ'=[some (.ref w),some (.int u),some (.ref o'.x),some (.int ((r + 1:Nat):Int))]∧Ow31 cs C Pd Pu W M H8 o' (W.oa.rnds W.st.length (r + 1)) ((r + 1) * W.st.length)∧∀ x t,IsTri H x t→IsTri H8 x t,?_,?_⟩
   ·rintro σ' H8 ⟨o',rfl,L8,tr8⟩
    refine⟨_,?_,r + 1,o',rfl,rfl,by omega,fun r' hr'=>?_,L8,tr8⟩
    ·omega
    ·by_cases z:r' < r
     ·exact hne r' z
     ·rw[show r'=r by omega]; exact hb
   ·refine⟨_,rfl,_,rfl,o,M,r * W.st.length,w,W,_,rfl,L7,nM,back,ok,(by omega),nePP,fun o' H8 ex L8 tr8=>?_⟩
    refine⟨_,rfl,_,_,rfl,rfl,?_⟩
    refine⟨o',by rw[ex]; rfl,?_,fun x t h=>tr8 x t (tr7 x t h)⟩
    rw[vG,vF]
    exact L8
  | true =>
   have lp:((W.oa.rnds W.st.length r).bhs W.st.length u).length=0:=by rw[List.isEmpty_iff.mp hb]; rfl
   rw[decide_eq_false (by omega)]
   refine iteF ?_
   have Sx:Stl W u r:=⟨rle,hb,hne⟩
   have nsx:=L7.fo.ns
   have lgv:=L7.fo.ok.lgv
   have hc7:=L7.hc
   have fo7:=L7.fo
   generalize eA:W.oa.rnds W.st.length r=A at fo7 L7
   obtain⟨sa,ba,fa,xs,ys,zs,h1,h2⟩:=(back H7 hc7.drop).ex
   have lx:=h2.ps.length
   refine⟨_,rfl,⟨_,_,_,_,rfl,rfl,SqT.of h1,(atI_nat (j:=0) rfl),sa,_,rfl,.inl (SqL.of h2.hs),?_⟩⟩
   rw[lx]
   refine⟨_,rfl,by rw[p62]; omega,by rw[p62]; omega,fun D nD=>?_⟩
   refine comp_range (lo:=0) (n:=((W.st.length:Nat):Int).toNat) (fun i H8=>∃(bs:List Addr) (rv:List (List V)),Same H7 H8∧Hc H8 ([(D,.lst (bs.map V.ref))]::liC bs rv::M)∧bs.length=rv.length∧rv.length=i∧Paired (fun us ts=>Paired (IsTri H8) us ts) rv (A.upT u i)) ⟨[],[],Same.new nD,(hc7.drop.pad).new nD (.lst []),rfl,rfl,.nil⟩ ?_ ?_
   ·rintro i H8 m' Wf hi ⟨bs,rv,s8',k8,lb,lr,pr⟩ nx
    rw[qD]
    obtain⟨us,hus⟩:∃ us,o.gv[i]?=some us:=⟨o.gv[i]'(by omega),zB _⟩
    obtain⟨ts,hts,pts⟩:=fo7.is.e.g.gt hus
    have lts:=fo7.ao.lg ts (zE hts)
    refine⟨_,rfl,_,rfl,_,rfl,o,M,i,us,ts,u,rfl,hc7.same s8',fo7.ok,hus,pairedMono (fun _ _=>IsTri.same s8') pts,(by omega),fun p us' H9 np s9 g9 pu=>?_⟩
    have k9:=k8.newS np g9 s9
    have gD:=k9.get 1 0 rfl rfl
    have k10:=k9.put 1 0 rfl rfl (.lst (bs.map V.ref++[.ref p]))
    have tk:Tk H9 (upd H9 D (.lst (bs.map V.ref++[.ref p]))):=(Tk.of (Same.refl _)).put gD (fun z=>z)
    refine⟨_,gD,small1000 (by rw[zD]; omega),nx _ ⟨bs++[p],rv++[us'],(s8'.trans s9).upd nD,?_,by rw[zM,zM,lb]; rfl,by rw[zM,lr]; rfl,?_⟩⟩
    ·rw[zL,liC_snoc lb]
     refine hc_cnt k10 fun c=>?_
     simp only [List.set,qJ,yH,jK,yG,qX]
     omega
    ·unfold OA.upT
     rw[y9,zL]
     refine paired_app (pairedMono (fun _ _ h=>pairedMono (fun _ _ h=>IsTri.tk tk (IsTri.same s9 h)) h) pr) (.cons ?_ .nil)
     show Paired _ us' ((A.ge.getD i []).filter (upTo u))
     rw[zA,hts]
     exact pairedMono (fun _ _ h=>IsTri.tk tk h) pu
   ·rintro H8 ⟨bs,rv,s8',k8,lb,lr,pr⟩
    rw[zT] at lr pr
    refine⟨_,rfl,(by show 2≤sizeLine; decide),fun t nt=>?_⟩
    have s9:=Same.new (o:=.tup [.ref D,.int (r:Int)]) nt
    have S9:=s8'.trans s9
    exact q t D bs rv r _ Sx (k8.new nt _) lb (by rw[eA]; exact pairedMono (fun _ _ h=>pairedMono (fun _ _=>IsTri.same s9) h) pr) (L7.dr.same S9) (L7.up.same S9) fun x t h=>IsTri.same S9 (tr7 x t h)
end
end Oc
namespace Oc
open PySem L2
def SP.put1 (p:SP) (dl:List Int) (b:Nat) (t:Tri):List Tri:=match p.out (p.ws.idxOf t.2.1) t.2.2 with
 | none=>[]
 | some o=>if o.1.toNat=b then [(t.1 + dl.getD b 0,o.1,o.2)] else []
def SP.go (p:SP) (t:Tri):SP:=p.nxt (p.ws.idxOf t.2.1) t.2.2
def SP.puts (dl:List Int) (b:Nat):SP→List Tri→List Tri
 | _,[]=>[]
 | p,t::r=>p.put1 dl b t++SP.puts dl b (p.go t) r
def SP.aft:SP→List Tri→SP
 | p,[]=>p
 | p,t::r=>(p.go t).aft r
theorem aft_app:∀(p:SP) (g h:List Tri),p.aft (g++h)=(p.aft g).aft h
 | _,[],_=>rfl
 | p,t::g,h=>aft_app (p.go t) g h
theorem puts_app (dl:List Int) (b:Nat):∀(p:SP) (g h:List Tri),p.puts dl b (g++h)=p.puts dl b g++(p.aft g).puts dl b h
 | _,[],_=>rfl
 | p,t::g,h=>by
  show p.put1 dl b t++(p.go t).puts dl b (g++h)=(p.put1 dl b t++(p.go t).puts dl b g)++_
  rw[puts_app dl b (p.go t) g h,z7]
  rfl
theorem puts_pre {dl:List Int} {b:Nat} {p:SP} {g h:List Tri} (e:g <+: h):p.puts dl b g <+: p.puts dl b h:=by
 obtain⟨r,rfl⟩:=e
 rw[puts_app]
 exact j2 _ _
theorem put1_is {p:SP} {dl:List Int} {b:Nat} {t e:Tri} (h:e ∈ p.put1 dl b t):p.put1 dl b t=[e]∧e.1=t.1 + dl.getD b 0∧e.2.1.toNat=b∧p.out (p.ws.idxOf t.2.1) t.2.2=some (e.2.1,e.2.2):=by
 unfold SP.put1 at h ⊢
 cases eo:p.out (p.ws.idxOf t.2.1) t.2.2 with
 | none=>rw[eo] at h; exact absurd h zK
 | some o =>
  rw[eo] at h
  dsimp only at h ⊢
  split at h
  ·rename_i z
   rw[if_pos z]
   rw[zG.mp h]
   exact⟨rfl,rfl,z,rfl⟩
  ·exact absurd h zK
theorem puts_cause (dl:List Int) (b:Nat):∀(p:SP) (g:List Tri) (j:Nat) (e:Tri),(p.puts dl b g)[j]?=some e→∃(i:Nat) (c:Tri),g[i]?=some c∧e.1=c.1 + dl.getD b 0∧(p.puts dl b (g.take (i + 1)))[j]?=some e
 | _,[],_,_,h=>by simp [SP.puts] at h
 | p,t::r,j,e,h=>by
  replace h:(p.put1 dl b t++(p.go t).puts dl b r)[j]?=some e:=h
  by_cases hj:j < (p.put1 dl b t).length
  ·rw[yI hj] at h
   have m:=put1_is (zE h)
   refine⟨0,t,rfl,m.2.1,?_⟩
   show(p.put1 dl b t++_)[j]?=_
   rw[yI hj]
   exact h
  ·rw[zQ (by omega)] at h
   obtain⟨i,c,h1,h2,h3⟩:=puts_cause dl b (p.go t) r _ e h
   refine⟨i + 1,c,h1,h2,?_⟩
   show(p.put1 dl b t++(p.go t).puts dl b (r.take (i + 1)))[j]?=_
   rw[zQ (by omega)]
   exact h3
def isY (w:Int) (t:Tri):Bool:=t.2.1 == w
def Wk.st0 (W:Wk) (b:Nat):Nat:=(W.be.getD b (0,0,0)).1.toNat
def OA.src (W:Wk) (A:OA) (s:Nat) (w:Int):List Tri:=if w=-1 then W.de (s:Int) else (W.sp (W.st0 w.toNat)).puts W.dels w.toNat (A.ge.getD (W.st0 w.toNat) [])
structure Cf (W:Wk) (A:OA):Prop where
 ord:Ord W A
 ev:∀ s:Nat,s < W.st.length→∀ w ∈ W.wy s,(A.ge.getD s []).filter (isY w)++evAt A.de A.re s w=A.src W s w
 nn:∀ s:Nat,∀ t ∈ A.ge.getD s [],0≤t.1
 pc:∀(b:Nat) bt,W.be[b]?=some bt→oLe (A.pr.getD b none) (oAdd (A.clk bt.1.toNat (W.wy bt.1)) bt.2.2)
def Agr (A B:OA):Prop:=∀ s:Nat,A.ge.getD s [] <+: B.ge.getD s []∨B.ge.getD s [] <+: A.ge.getD s []
theorem Agr.symm {A B:OA} (h:Agr A B):Agr B A:=fun s=>(h s).symm
theorem Agr.src {A B:OA} (h:Agr A B) (W:Wk) (s:Nat) (w:Int):A.src W s w <+: B.src W s w∨B.src W s w <+: A.src W s w:=by
 unfold OA.src
 split
 ·exact .inl (List.prefix_refl _)
 ·exact(h _).imp puts_pre puts_pre
theorem pre_at {α:Type} {l m:List α} (h:l <+: m∨m <+: l) {j:Nat} {x y:α} (h1:l[j]?=some x) (h2:m[j]?=some y):x=y:=by
 rcases h with ⟨r,rfl⟩|⟨r,rfl⟩
 ·rw[yI (zC.mp h1).1,h1] at h2
  exact Option.some.inj h2
 ·rw[yI (zC.mp h2).1,h2] at h1
  exact(Option.some.inj h1).symm
theorem filter_at {g:List Tri} {c:Tri} {rest ev src:List Tri} (e:(g++c::rest).filter (isY c.2.1)++ev=src):src[(g.filter (isY c.2.1)).length]?=some c:=by
 rw[← e,zN,z6 (show isY c.2.1 c=true from beq_self_eq_true _),z7,zQ (zI _),qI]
 rfl
theorem Wk.wy_bel {W:Wk} {s:Nat} {w:Int} (h:w ∈ W.wy s) (n:w ≠ -1):∃(b:Nat) (bt:Tri),W.be[b]?=some bt∧w=(b:Int)∧W.st0 b=bt.1.toNat:=by
 obtain⟨j,bt,h1,_,h3⟩:=(Wk.wy_mem h).resolve_left n
 refine⟨j,bt,h1,h3,?_⟩
 unfold Wk.st0
 rw[zA,h1]
 rfl
theorem src_bel {W:Wk} {A:OA} {s b:Nat} {bt:Tri} (h:W.st0 b=bt.1.toNat):A.src W s (b:Int)=(W.sp bt.1.toNat).puts W.dels b (A.ge.getD bt.1.toNat []):=by
 unfold OA.src
 rw[if_neg (by omega),zT,h]
theorem ear_nil {A:OA} {s:Nat} {b:Nat} (h:evAt A.de A.re s (b:Int)=[]):A.e s (b:Int)=A.pr.getD b none:=by
 unfold OA.e
 rw[h]
 show(if ((b:Nat):Int)=-1 then none else A.pr.getD ((b:Nat):Int).toNat none)=_
 rw[if_neg (by omega),zT]
theorem ear_cons {A:OA} {s:Nat} {w:Int} {h:Tri} {r:List Tri} (e:evAt A.de A.re s w=h::r):A.e s w=some h.1:=by
 unfold OA.e
 rw[e]
 rfl
theorem behind_is {W:Wk} (ok:W.Ok) {A B:OA} (ca:Cf W A) (cb:Cf W B) (ag:Agr A B):∀(n:Nat) (b:Nat) (bt:Tri),W.be[b]?=some bt→∀(j:Nat) (e:Tri),((W.sp bt.1.toNat).puts W.dels b (A.ge.getD bt.1.toNat []))[j]?=some e→e.1 < (n:Int)→((W.sp bt.1.toNat).puts W.dels b (B.ge.getD bt.1.toNat [])).length≤j→oLe (B.pr.getD b none) (some e.1):=by
 intro n
 induction n with
 | zero =>
  intro b bt hb j e he hn _
  obtain⟨i,c,h1,h2,_⟩:=puts_cause _ _ _ _ _ _ he
  have:=ca.nn _ c (zE h1)
  have:=Wk.dl_pos ok b
  omega
 | succ n ih =>
  intro b bt hb j e he hn hl
  obtain⟨b1,b2,b3,b4,b5,b6⟩:=ok.bel bt (zE hb)
  obtain⟨i,c,h1,h2,h3⟩:=puts_cause _ _ _ _ _ _ he
  rw[Wk.dl_at hb] at h2
  have hs0:bt.1.toNat < W.st.length:=by omega
  have ez:((bt.1.toNat:Nat):Int)=bt.1:=by omega
  rcases ag bt.1.toNat with pre|pre
  ·have:=(puts_pre (dl:=W.dels) (b:=b) (p:=W.sp bt.1.toNat) pre).length_le
   have:=(zC.mp he).1
   omega
  ·obtain⟨rest,er⟩:=pre
   have li:(B.ge.getD bt.1.toNat []).length≤i:=by
    refine Nat.le_of_not_lt fun z=>?_
    have p1:(A.ge.getD bt.1.toNat []).take (i + 1) <+: B.ge.getD bt.1.toNat []:=by
     rw[← er,List.take_append_of_le_length (by omega)]
     exact List.take_prefix _ _
    have:=(puts_pre (dl:=W.dels) (b:=b) (p:=W.sp bt.1.toNat) p1).length_le
    have:=(zC.mp h3).1
    omega
   cases rest with
   | nil =>
    have:=(zC.mp h1).1
    rw[← er,zP] at this
    omega
   | cons c' rest =>
    have so:=ca.ord.so bt.1.toNat
    have cc:c'.1≤c.1:=by
     rw[← er] at so h1
     rw[zQ li] at h1
     have so2:=(yM.mp so).2.1
     have hm:=zE h1
     rcases zS.mp hm with z|z
     ·rw[z]; exact qV _
     ·have:=(kLe_iff _ _).mp ((yO.mp so2).1 c z)
      unfold tkey at this
      omega
    have inA:c' ∈ A.ge.getD bt.1.toNat []:=by rw[← er]; exact zR _ zH
    have hw:=ca.ord.wy bt.1.toNat c' inA
    have evA:=ca.ev _ hs0 _ hw
    rw[← er] at evA
    have atA:=filter_at evA
    have evB:=cb.ev _ hs0 _ hw
    have pc:=cb.pc b bt hb
    have ck:=clk_le (A:=B) (s:=bt.1.toNat) hw
    rw[ez] at ck
    refine Classical.byContradiction fun no=>?_
    have no2:¬ oLe (B.e bt.1.toNat c'.2.1) (some c'.1):=fun z=>no (by
     have y:=oLe_trans ck z
     have x:=oLe_trans pc (oAdd_le (d:=bt.2.2) y)
     have e1:oLe (oAdd (some c'.1) bt.2.2) (some e.1):=by
      show c'.1 + bt.2.2≤e.1
      omega
     exact oLe_trans x e1)
    cases ev:evAt B.de B.re bt.1.toNat c'.2.1 with
    | nil =>
     rw[ev,zP] at evB
     by_cases wd:c'.2.1=-1
     ·unfold OA.src at atA evB
      rw[if_pos wd] at atA evB
      rw[← evB] at atA
      have:=(zC.mp atA).1
      omega
     ·obtain⟨b',bt',hb',eb,e0⟩:=Wk.wy_bel hw wd
      rw[eb] at atA evB ev no2
      rw[src_bel e0] at atA evB
      refine no2 ?_
      rw[ear_nil ev]
      exact ih b' bt' hb' _ c' atA (by omega) (by rw[← evB]; exact zI _)
    | cons h r =>
     rw[ev] at evB
     have atB:(B.src W bt.1.toNat c'.2.1)[((B.ge.getD bt.1.toNat []).filter (isY c'.2.1)).length]?=some h:=by
      rw[← evB,zQ (zI _),qI]
      rfl
     have:=pre_at (ag.src W _ _) atA atB
     refine no2 ?_
     rw[ear_cons ev,this]
     exact oLe_refl _
end Oc
namespace Oc
open PySem L2
theorem kLe_anti {a b:Tri} (h1:kLe (tkey a) (tkey b)) (h2:kLe (tkey b) (tkey a)):a.1=b.1∧a.2.1=b.2.1:=by
 rw[kLe_iff] at h1 h2
 unfold tkey at h1 h2
 omega
theorem take_alike {W:Wk} (ok:W.Ok) {A B:OA} (ca:Cf W A) (cb:Cf W B) (ag:Agr A B) {s:Nat} (hs:s < W.st.length) {a b:Tri} {rest:List Tri} (T:Tkn B s (W.wy s) b) (hway:∀ w ∈ W.wy s,∀ u,(evAt B.de B.re s w).head?=some u→u.2.1=w) (e:A.ge.getD s []=B.ge.getD s []++a::rest):a=b:=by
 have inA:a ∈ A.ge.getD s []:=by rw[e]; exact zR _ zH
 have hw:=ca.ord.wy s a inA
 have evA:=ca.ev _ hs _ hw
 rw[e] at evA
 have atA:=filter_at evA
 have evB:=cb.ev _ hs _ hw
 have k1:kLe (tkey b) (tkey a):=by
  cases ev:evAt B.de B.re s a.2.1 with
  | nil =>
   rw[ev,zP] at evB
   by_cases wd:a.2.1=-1
   ·unfold OA.src at atA evB
    rw[if_pos wd] at atA evB
    rw[← evB] at atA
    have:=(zC.mp atA).1
    omega
   ·obtain⟨b',bt',hb',eb,e0⟩:=Wk.wy_bel hw wd
    have hw':=hw
    rw[eb] at atA evB ev hw'
    rw[src_bel e0] at atA evB
    have na:=ca.nn s a inA
    have d:=behind_is ok ca cb ag (a.1.toNat + 1) b' bt' hb' _ a atA (by omega) (by rw[← evB]; exact zI _)
    cases eg:B.pr.getD b' none with
    | none=>rw[eg] at d; exact d.elim
    | some g =>
     rw[eg] at d
     replace d:g≤a.1:=d
     have em:B.re.getD ((b':Nat):Int).toNat []=[]:=by unfold evAt at ev; rw[if_neg (by omega)] at ev; exact ev
     have m:=T.may _ hw' (by omega) em g (by rw[zT]; exact eg)
     rw[kLe_iff]
     unfold tkey
     rw[zT] at m
     omega
  | cons h r =>
   rw[ev] at evB
   have atB:(B.src W s a.2.1)[((B.ge.getD s []).filter (isY a.2.1)).length]?=some h:=by
    rw[← evB,zQ (zI _),qI]
    rfl
   have:=pre_at (ag.src W _ _) atA atB
   subst this
   exact T.min _ hw a (by rw[ev]; rfl)
 have hw2:=T.w
 have hd:=T.hd
 have evA2:=ca.ev _ hs _ hw2
 have evB2:=cb.ev _ hs _ hw2
 have atB2:(B.src W s b.2.1)[((B.ge.getD s []).filter (isY b.2.1)).length]?=some b:=by
  cases ev:evAt B.de B.re s b.2.1 with
  | nil=>rw[ev] at hd; cases hd
  | cons h r =>
   rw[ev] at hd
   cases hd
   rw[← evB2,ev,zQ (zI _),qI]
   rfl
 have so:=ca.ord.so s
 rw[e] at so
 have so2:=(yM.mp so).2.1
 rw[e,zN,z7] at evA2
 have k2:kLe (tkey a) (tkey b):=by
  cases ef:(a::rest).filter (isY b.2.1) with
  | cons x y =>
   rw[ef] at evA2
   have atA2:(A.src W s b.2.1)[((B.ge.getD s []).filter (isY b.2.1)).length]?=some x:=by
    rw[← evA2,zQ (zI _),qI]
    rfl
   have eq:=pre_at (ag.src W _ _) atA2 atB2
   subst eq
   have hm:x ∈ a::rest:=(zV.mp (show x ∈ (a::rest).filter (isY x.2.1) by rw[ef]; exact zH)).1
   rcases zS.mp hm with z|z
   ·rw[z]; rw[kLe_iff]; omega
   ·exact(yO.mp so2).1 x z
  | nil =>
   rw[ef,jS] at evA2
   cases ev:evAt A.de A.re s b.2.1 with
   | cons h r =>
    rw[ev] at evA2
    have atA2:(A.src W s b.2.1)[((B.ge.getD s []).filter (isY b.2.1)).length]?=some h:=by
     rw[← evA2,zQ (zI _),qI]
     rfl
    have eq:=pre_at (ag.src W _ _) atA2 atB2
    subst eq
    exact ca.ord.bd s a inA _ hw2 _ (ear_cons ev)
   | nil =>
    rw[ev,zP] at evA2
    by_cases wd:b.2.1=-1
    ·unfold OA.src at atB2 evA2
     rw[if_pos wd] at atB2 evA2
     rw[← evA2] at atB2
     have:=(zC.mp atB2).1
     omega
    ·obtain⟨b',bt',hb',eb,e0⟩:=Wk.wy_bel hw2 wd
     have hw':=hw2
     rw[eb] at atB2 evA2 ev hw'
     rw[src_bel e0] at atB2 evA2
     have d:=behind_is ok cb ca ag.symm (b.1.toNat + 1) b' bt' hb' _ b atB2 (by omega) (by rw[← evA2]; exact zI _)
     cases eg:A.pr.getD b' none with
     | none=>rw[eg] at d; exact d.elim
     | some g =>
      rw[eg] at d
      replace d:g≤b.1:=d
      have:=ca.ord.bd s a inA _ hw' g (by rw[ear_nil ev]; exact eg)
      rw[kLe_iff] at this ⊢
      unfold tkey at this ⊢
      dsimp only at this ⊢
      omega
 obtain⟨_,ew⟩:=kLe_anti k1 k2
 rw[ew] at atB2
 exact pre_at (ag.src W _ _) atA atB2
structure Cs2 (W:Wk) (A:OA):Prop where
 cf:Cf W A
 sp:∀ s:Nat,s < W.st.length→A.srs.getD s sp0=(W.sp s).aft (A.ge.getD s [])
theorem puts_snoc (dl:List Int) (b:Nat) (p:SP) (g:List Tri) (t:Tri):p.puts dl b (g++[t])=p.puts dl b g++(p.aft g).put1 dl b t:=by
 rw[puts_app]
 show _++((p.aft g).put1 dl b t++[])=_
 rw[zP]
theorem step_cf {W:Wk} (ok:W.Ok) {A:OA} {m:Nat} (I:Inv W A) (ao:AOk m A) (c:Cs2 W A) {s:Nat} (hs:s < W.st.length):Cs2 W (A.step s).1:=by
 have S:=step_stp ok I ao hs
 have O:=step_ord ok I ao c.cf.ord hs
 have pc:=S.inv.pc
 obtain⟨p,hp⟩:∃ p,A.srs[s]?=some p:=⟨A.srs[s]'(by rw[I.st]; exact hs),zB _⟩
 have ep:A.srs.getD s sp0=p:=by rw[zA,hp]; rfl
 have hws:=(I.sp s p hp).1
 have hbs:=(I.sp s p hp).2
 have go_:∀ C:OA,C.de=A.de→C.re=A.re→C.ge=A.ge→C.srs=A.srs→Ord W C→(∀(b:Nat) bt,W.be[b]?=some bt→oLe (C.pr.getD b none) (oAdd (C.clk bt.1.toNat (W.wy bt.1)) bt.2.2))→Cs2 W C:=fun C h1 h2 h3 h4 o pc=>by
  refine⟨⟨o,fun j hj w hw=>?_,fun j t ht=>c.cf.nn j t (by rw[← h3]; exact ht),pc⟩,fun j hj=>by rw[h4,h3]; exact c.sp j hj⟩
  have:=c.cf.ev j hj w hw
  unfold OA.src at this ⊢
  rw[h1,h2,h3]
  exact this
 cases e:A.tkn s p with
 | none =>
  have ea:(A.step s).1=(A.rsd s p).1:=by
   have ea:A.aft s p=A:=by unfold OA.aft; rw[e]
   unfold OA.step OA.stp
   rw[ep,ea]
  have R:=rsd_is A s p
  rw[ea] at O pc ⊢
  exact go_ _ R.de R.re R.ge R.sp O pc
 | some t =>
  have wok:∀ w ∈ p.ws,w=-1∨0≤w:=fun w hw=>by rw[hws] at hw; exact Wk.wy_ok hw
  have T:=tkn_is ao wok e
  have t0:=wok _ T.w
  have tw:t.2.1 ∈ W.wy s:=by rw[← hws]; exact T.w
  have R:=rsd_is (A.take s p t) s p
  have ec:(A.step s).1=((A.take s p t).rsd s p).1:=by
   have ea:A.aft s p=A.take s p t:=by unfold OA.aft; rw[e]
   unfold OA.step OA.stp
   rw[ep,ea]
  rw[ec] at O pc ⊢
  have hg:((A.take s p t).rsd s p).1.ge=A.ge.set s (A.ge.getD s []++[t]):=R.ge.trans (take_same A s p t).2.2.2
  have hr:((A.take s p t).rsd s p).1.re=(A.take s p t).re:=R.re
  have hd:((A.take s p t).rsd s p).1.de=(A.take s p t).de:=R.de
  have hsr:((A.take s p t).rsd s p).1.srs=A.srs.set s (p.go t):=R.sp.trans (take_len A s p t)
  generalize ((A.take s p t).rsd s p).1=C at O pc hg hr hd hsr ⊢
  have lg:=c.cf.ord.lg
  have gj:∀ j,C.ge.getD j []=if s=j then A.ge.getD j []++[t] else A.ge.getD j []:=fun j=>by
   rw[hg,getD_set']
   by_cases h:s=j
   ·subst h; rw[if_pos ⟨rfl,by omega⟩,if_pos rfl]
   ·rw[if_neg (fun z=>h z.1),if_neg h]
  have sps:=c.sp s hs
  rw[ep] at sps
  have evs:=c.cf.ev s hs _ tw
  have hdt:∃ r,evAt A.de A.re s t.2.1=t::r:=by
   have z:=T.hd
   cases ev:evAt A.de A.re s t.2.1 with
   | nil=>rw[ev] at z; cases z
   | cons u r=>rw[ev] at z; cases z; exact⟨r,rfl⟩
  obtain⟨r,er⟩:=hdt
  have tn:0≤t.1:=by
   rw[er] at evs
   have hm:t ∈ A.src W s t.2.1:=by rw[← evs]; exact zR _ zH
   by_cases wd:t.2.1=-1
   ·unfold OA.src at hm
    rw[if_pos wd] at hm
    exact de_nn ok _ t hm
   ·obtain⟨b',bt',hb',eb,e0⟩:=Wk.wy_bel tw wd
    rw[eb,src_bel e0] at hm
    obtain⟨j,hj⟩:=yN hm
    obtain⟨i,c',h1,h2,_⟩:=puts_cause _ _ _ _ _ _ hj
    have:=c.cf.nn _ c' (zE h1)
    have:=Wk.dl_pos ok b'
    omega
  refine⟨⟨O,fun j hj w hw=>?_,fun j u hu=>?_,pc⟩,fun j hj=>?_⟩
  ·have old:=c.cf.ev j hj w hw
   rw[gj]
   by_cases wd:w=-1
   ·subst wd
    unfold OA.src evAt at old ⊢
    rw[if_pos rfl,if_pos rfl] at old ⊢
    rw[hd,take_de]
    by_cases h:s=j
    ·subst h
     rw[if_pos rfl,zN]
     by_cases tm:t.2.1=-1
     ·rw[if_pos ⟨tm,rfl⟩]
      unfold evAt at er
      rw[if_pos tm] at er
      rw[er] at old
      rw[er,z6 (show isY (-1) t=true by unfold isY; rw[tm]; rfl),yL,z7]
      exact old
     ·rw[if_neg (fun z=>tm z.1),yB (show ¬ isY (-1) t=true by unfold isY; simpa using tm),yL,zP]
      exact old
    ·rw[if_neg h,if_neg (fun z=>h z.2)]
     exact old
   ·obtain⟨b,bt,hb,eb,e0⟩:=Wk.wy_bel hw wd
    have hbj:bt.2.1=(j:Int):=by
     obtain⟨k,bt',g1,g2,g3⟩:=(Wk.wy_mem hw).resolve_left wd
     have:k=b:=by omega
     subst this
     rw[g1] at hb
     cases hb
     exact g2
    subst eb
    have ev2:∀ X:OA,evAt X.de X.re j ((b:Nat):Int)=X.re.getD b []:=fun X=>by
     unfold evAt
     rw[if_neg (by omega),zT]
    rw[src_bel e0] at old ⊢
    rw[ev2] at old ⊢
    rw[hr,take_re A s p t t0]
    have left:(if s=j then A.ge.getD j []++[t] else A.ge.getD j []).filter (isY (b:Int))++(if t.2.1=(b:Int) then (A.re.getD b []).tail else A.re.getD b [])=(A.ge.getD j []).filter (isY (b:Int))++A.re.getD b []:=by
     by_cases tb:t.2.1=(b:Int)
     ·have sj:s=j:=by
       obtain⟨k,bt',g1,g2,g3⟩:=(Wk.wy_mem tw).resolve_left (by omega)
       have:k=b:=by omega
       subst this
       rw[g1] at hb
       cases hb
       omega
      subst sj
      rw[tb,ev2] at er
      rw[if_pos rfl,if_pos tb,zN,z6 (show isY (b:Int) t=true by unfold isY; rw[tb]; exact beq_self_eq_true _),yL,er,z7]
      rfl
     ·rw[if_neg tb]
      by_cases h:s=j
      ·rw[if_pos h,zN,yB (show ¬ isY (b:Int) t=true by unfold isY; simpa using tb),yL,zP]
      ·rw[if_neg h]
    rw[← z7,left,old,gj]
    have hbl:b < W.be.length:=(zC.mp hb).1
    by_cases h:s=bt.1.toNat
    ·rw[if_pos h,puts_snoc,← h,← sps]
     congr 1
     unfold putR SP.put1
     cases p.out (p.ws.idxOf t.2.1) t.2.2 with
     | none=>rfl
     | some o =>
      dsimp only
      rw[I.dl]
      by_cases z:o.1.toNat=b
      ·rw[if_pos ⟨z,by rw[I.lr]; exact hbl⟩,if_pos z]
      ·rw[if_neg (fun y=>z y.1),if_neg z]
    ·rw[if_neg h]
     have:putR A b t (p.out (p.ws.idxOf t.2.1) t.2.2)=[]:=by
      unfold putR
      cases eo:p.out (p.ws.idxOf t.2.1) t.2.2 with
      | none=>rfl
      | some o =>
       dsimp only
       refine if_neg fun z=>?_
       have hb':o.1 ∈ W.lv s:=by rw[← hbs]; exact SP.out_in (y:=o.2) eo
       obtain⟨k,bt',g1,g2,g3⟩:=Wk.lv_mem hb'
       have:k=b:=by omega
       subst this
       rw[g1] at hb
       cases hb
       omega
     rw[this,zP]
  ·rw[gj] at hu
   split at hu
   ·rename_i h
    rcases zW.mp hu with z|z
    ·exact c.cf.nn j u z
    ·rw[zG.mp z]; exact tn
   ·exact c.cf.nn j u hu
  ·rw[hsr,gj,getD_set']
   by_cases h:s=j
   ·subst h
    rw[if_pos ⟨rfl,by rw[I.st]; exact hs⟩,if_pos rfl,aft_app,← sps]
    rfl
   ·rw[if_neg (fun z=>h z.1),if_neg h]
    exact c.sp j hj
theorem new_cf {W:Wk} (ok:W.Ok):Cs2 W W.oa:=by
 have e:∀ s,W.oa.ge.getD s []=[]:=fun s=>getD_nils W.st s
 refine⟨⟨new_ord W,fun s hs w hw=>?_,fun s t ht=>?_,(new_inv ok).pc⟩,fun s hs=>?_⟩
 ·rw[e]
  show evAt W.oa.de W.oa.re s w=W.oa.src W s w
  unfold OA.src evAt
  split
  ·show W.des.getD s []=_
   unfold Wk.des
   rw[zA,zF,yX hs]
   rfl
  ·rw[e]
   exact getD_nils W.be _
 ·rw[e] at ht
  exact absurd ht zK
 ·rw[e]
  show((List.range W.st.length).map W.sp).getD s sp0=W.sp s
  rw[zA,zF,yX hs]
  rfl
theorem step_agr {W:Wk} (ok:W.Ok) {A B:OA} {m:Nat} (ca:Cf W A) (I:Inv W B) (ao:AOk m B) (cb:Cf W B) (ag:Agr A B) {s:Nat} (hs:s < W.st.length):Agr A (B.step s).1:=by
 obtain⟨p,hp⟩:∃ p,B.srs[s]?=some p:=⟨B.srs[s]'(by rw[I.st]; exact hs),zB _⟩
 have ep:B.srs.getD s sp0=p:=by rw[zA,hp]; rfl
 have hws:=(I.sp s p hp).1
 cases e:B.tkn s p with
 | none =>
  have ea:(B.step s).1=(B.rsd s p).1:=by
   have ea:B.aft s p=B:=by unfold OA.aft; rw[e]
   unfold OA.step OA.stp
   rw[ep,ea]
  rw[ea]
  intro j
  rw[(rsd_is B s p).ge]
  exact ag j
 | some t =>
  have wok:∀ w ∈ p.ws,w=-1∨0≤w:=fun w hw=>by rw[hws] at hw; exact Wk.wy_ok hw
  have T:=tkn_is ao wok e
  have hway:∀ w ∈ W.wy s,∀ u,(evAt B.de B.re s w).head?=some u→u.2.1=w:=fun w hw u hu=>way_at ao (Wk.wy_ok hw) hu
  have ec:(B.step s).1=((B.take s p t).rsd s p).1:=by
   have ea:B.aft s p=B.take s p t:=by unfold OA.aft; rw[e]
   unfold OA.step OA.stp
   rw[ep,ea]
  have hg:(B.step s).1.ge=B.ge.set s (B.ge.getD s []++[t]):=by
   rw[ec]
   exact(rsd_is (B.take s p t) s p).ge.trans (take_same B s p t).2.2.2
  intro j
  rw[hg,getD_set']
  by_cases h:s=j
  ·subst h
   rw[if_pos ⟨rfl,by rw[cb.ord.lg]; exact hs⟩]
   rcases ag s with z|⟨rest,er⟩
   ·exact .inl (z.trans (j2 _ _))
   ·cases rest with
    | nil=>rw[zP] at er; rw[← er]; exact .inl (j2 _ _)
    | cons a rest =>
     rw[hws] at T
     have:=take_alike ok ca cb ag hs T hway er.symm
     subst this
     refine .inr ⟨rest,?_⟩
     rw[← er,z7]
     rfl
  ·rw[if_neg (fun z=>h z.1)]
   exact ag j
end Oc
namespace Oc
open PySem L2
def kLq (a b:Int × Int):Prop:=a.1 < b.1∨(a.1=b.1∧a.2≤b.2)
theorem kLq_of {a b:Int × Int} (h:kLt b a=false):kLq a b:=by
 rcases Int.lt_trichotomy a.1 b.1 with q|q|q
 ·exact .inl q
 ·refine .inr ⟨q,kL.mp fun z=>?_⟩
  rw[(kLt_iff b a).mpr (.inr ⟨q.symm,z⟩)] at h
  cases h
 ·rw[(kLt_iff b a).mpr (.inl q)] at h
  cases h
theorem kLq_tr {a b c:Int × Int} (h:kLq a b) (g:kLq b c):kLq a c:=by
 rcases h with h|⟨h1,h2⟩
 ·rcases g with g|⟨g1,_⟩
  ·exact .inl (Int.lt_trans h g)
  ·exact .inl (by rw[← g1]; exact h)
 ·rcases g with g|⟨g1,g2⟩
  ·exact .inl (by rw[h1]; exact g)
  ·exact .inr ⟨h1.trans g1,j7 h2 g2⟩
abbrev ek (e:Tri):Int × Int:=(e.1,e.2.1)
theorem CS.first_cut {S:CS} {a:AR} (h:S.first=some a):∃ pre post,S.ar=pre++a::post∧S.ar.eraseIdx S.at=pre++post∧(∀ b ∈ pre,kLt a.key b.key=true)∧∀ b ∈ pre++post,kLq a.key b.key:=by
 have hi:=(zC.mp h).1
 have hg:=(zC.mp h).2
 have hat:∀(j:Nat) (b:AR),S.ar[j]?=some b→(S.ar.map AR.key).getD j (0,0)=b.key:=fun j b e=>by rw[zA,zF,e]; rfl
 have hbest:∀(j:Nat) (b:AR),S.ar[j]?=some b→kLq a.key b.key:=fun j b e=>by
  have hj:=(zC.mp e).1
  have:=best_min (S.ar.map AR.key) ((S.ar.map AR.key).length - 1) j (by rw[zD]; omega)
  rw[hat j b e,show argBest (fun i j=>kLt ((S.ar.map AR.key).getD i (0,0)) ((S.ar.map AR.key).getD j (0,0))) ((S.ar.map AR.key).length - 1)=S.at from rfl,hat _ _ h] at this
  exact kLq_of this
 have hall:∀ b ∈ S.ar,kLq a.key b.key:=fun b hb=>let ⟨j,hj⟩:=yN hb; hbest j b hj
 refine⟨S.ar.take S.at,S.ar.drop (S.at + 1),?_,List.eraseIdx_eq_take_drop_succ ..,fun b hb=>?_,fun b hb=>hall b ?_⟩
 ·rw[← hg,List.getElem_cons_drop,List.take_append_drop]
 ·obtain⟨j,hj⟩:=yN hb
  rw[List.getElem?_take] at hj
  split at hj
  ·rename_i hlt
   have:=best_first (S.ar.map AR.key) ((S.ar.map AR.key).length - 1) j hlt
   rw[hat j b hj,show argBest (fun i j=>kLt ((S.ar.map AR.key).getD i (0,0)) ((S.ar.map AR.key).getD j (0,0))) ((S.ar.map AR.key).length - 1)=S.at from rfl,hat _ _ h] at this
   exact this
  ·cases hj
 ·rcases zW.mp hb with q|q
  ·exact List.mem_of_mem_take q
  ·exact List.mem_of_mem_drop q
def Wk.bk (W:Wk) (s:Int) (t:Nat):List Tri:=(W.fe.filter fun f=>f.1 == s && f.2.1 == (t:Int)).map fun f=>((t:Int),-1,f.2.2)
def Wk.dd (W:Wk) (s:Int) (n:Nat):List Tri:=(List.range n).flatMap (W.bk s)
theorem Wk.de_dd (W:Wk) (s:Int):W.de s=W.dd s 51:=by
 unfold Wk.de Wk.dr Wk.drs Wk.dd
 rw[kG,kG]
 congr 1
 funext t
 unfold Wk.bk
 rw[j6]
 refine List.map_congr_left fun f hf=>?_
 have h:=(zV.mp hf).2
 rw[yK] at h
 show(f.2.1,(-1:Int),f.2.2)=_
 rw[eq_of_beq h.2]
theorem Wk.bk_mem {W:Wk} {s:Int} {t:Nat} {e:Tri} (h:e ∈ W.bk s t):e.1=t∧e.2.1=-1:=by
 obtain⟨f,_,rfl⟩:=yC.mp h
 exact⟨rfl,rfl⟩
theorem Wk.bk_nil {W:Wk} (ok:W.Ok) {s:Int} {t:Nat} (h:51≤t):W.bk s t=[]:=by
 unfold Wk.bk
 rw[yF.mpr fun f hf q=>?_]
 ·rfl
 ·obtain⟨_,_,_,q4,_⟩:=ok.fee f hf
  rw[yK] at q
  have:=eq_of_beq q.2
  omega
theorem Wk.dd_succ (W:Wk) (s:Int) (n:Nat):W.dd s (n + 1)=W.dd s n++W.bk s n:=by
 unfold Wk.dd
 rw[y9,qK,jR]
theorem Wk.dd_big {W:Wk} (ok:W.Ok) (s:Int) (k:Nat):W.dd s (51 + k)=W.dd s 51:=by
 induction k with
 | zero=>rfl
 | succ k ih=>rw[← Nat.add_assoc,Wk.dd_succ,ih,Wk.bk_nil ok (by omega),zP]
theorem Wk.dd_filter (W:Wk) (s u:Int) (hu:0≤u) (n:Nat):(W.dd s n).filter (fun e=>decide (e.1≤u))=W.dd s (min n (u + 1).toNat):=by
 induction n with
 | zero=>rw[Nat.zero_min]; rfl
 | succ n ih =>
  rw[Wk.dd_succ,zN,ih]
  by_cases h:(n:Int)≤u
  ·rw[show min (n + 1) (u + 1).toNat=n + 1 by omega,Wk.dd_succ,show min n (u + 1).toNat=n by omega]
   congr 1
   exact qL.mpr fun e he=>decide_eq_true (by rw[(Wk.bk_mem he).1]; exact h)
  ·rw[show min (n + 1) (u + 1).toNat=min n (u + 1).toNat by omega,yF.mpr fun e he q=>h (by have:=of_decide_eq_true q; rw[(Wk.bk_mem he).1] at this; exact this),zP]
theorem Wk.de_until {W:Wk} (ok:W.Ok) (s u:Int) (hu:0≤u):(W.de s).filter (fun e=>decide (e.1≤u))=W.dd s (u + 1).toNat:=by
 rw[Wk.de_dd,Wk.dd_filter W s u hu]
 by_cases h:(u + 1).toNat≤51
 ·rw[Nat.min_eq_right h]
 ·rw[kJ (by omega),show(u + 1).toNat=51 + ((u + 1).toNat - 51) by omega,Wk.dd_big ok]
theorem Wk.de_so (W:Wk) (s:Int):(W.de s).Pairwise fun e f=>e.1≤f.1:=by
 rw[Wk.de_dd]
 unfold Wk.dd
 rw[jV]
 refine⟨fun t _=>?_,(jC).imp fun {a b} h e he f hf=>?_⟩
 ·refine List.Pairwise.imp_of_mem (R:=fun _ _=>True) (fun {e f} he hf _=>?_) (List.pairwise_of_forall (fun _ _=>trivial))
  rw[(Wk.bk_mem he).1,(Wk.bk_mem hf).1]
  exact qV _
 ·rw[(Wk.bk_mem he).1,(Wk.bk_mem hf).1]
  omega
abbrev isD (e:Tri):Bool:=e.2.1 == -1
abbrev isDs (s:Nat) (a:AR):Bool:=a.s == s && isD a.e
structure RI (W:Wk) (u:Int) (S:CS):Prop where
 ok:CSok W S
 tm:∀ a ∈ S.ar,0≤a.e.1
 cr:∀(s:Nat) l,S.ev[s]?=some l→∀ e ∈ l,∀ a ∈ S.ar,kLq (ek e) a.key
 so:∀(s:Nat) l,S.ev[s]?=some l→l.Pairwise fun e f=>kLq (ek e) (ek f)
 ev:∀(s:Nat) l,S.ev[s]?=some l→∀ e ∈ l,0≤e.1∧e.1≤u∧e.2.1 ∈ W.wy s
 dr:∀(s:Nat) l,S.ev[s]?=some l→l.filter isD++(S.ar.filter (isDs s)).map AR.e=W.de s
theorem ars_de {W:Wk} (s:Nat):∀ n,s < n→((W.ars n).filter (isDs s)).map AR.e=W.de s:=by
 have none_:∀ n,n≤s→(W.ars n).filter (isDs s)=[]:=fun n hn=>yF.mpr fun a ha q=>by
  obtain⟨h1,_⟩:=ars_in ha
  rw[yK] at q
  have:=eq_of_beq q.1
  omega
 intro n
 induction n with
 | zero=>intro h; exact absurd h (qH _)
 | succ n ih =>
  intro h
  have e:W.ars (n + 1)=W.ars n++(W.de (n:Int)).map fun e=>⟨n,e,none⟩:=by
   unfold Wk.ars
   rw[y9,qK,jR]
  rw[e,zN,zL]
  by_cases hs:s=n
  ·subst hs
   rw[none_ s (zI _),qL.mpr,j6]
   ·show []++(W.de (s:Int)).map (fun e=>e)=_
    rw[List.map_id'',jS]
    intro _; rfl
   ·intro a ha
    obtain⟨e,he,rfl⟩:=yC.mp ha
    rw[Wk.de_dd] at he
    unfold Wk.dd at he
    obtain⟨t,_,ht⟩:=qW.mp he
    show(s == s && e.2.1 == -1)=true
    rw[(Wk.bk_mem ht).2,beq_self_eq_true]
    rfl
  ·rw[ih (by omega),yF.mpr,qX,zP]
   intro a ha q
   obtain⟨e,_,rfl⟩:=yC.mp ha
   rw[yK] at q
   exact hs (eq_of_beq q.1).symm
theorem ri0 {W:Wk} (ok:W.Ok) {u:Int}:RI W u W.cs:=by
 have hn:∀(s:Nat) l,W.cs.ev[s]?=some l→l=[]∧s < W.st.length:=fun s l h=>by
  have h':(W.st.map fun _=>([]:List Tri))[s]?=some l:=h
  rw[zF] at h'
  obtain⟨x,hx,e⟩:=yQ.mp h'
  exact⟨e.symm,(zC.mp hx).1⟩
 refine⟨cs_ok ok,fun a ha=>?_,fun s l h e he=>?_,fun s l h=>?_,fun s l h e he=>?_,fun s l h=>?_⟩
 ·obtain⟨_,h2,_⟩:=ars_in (n:=W.st.length) ha
  exact(W.de_time ok h2).1
 ·rw[(hn s l h).1] at he; cases he
 ·rw[(hn s l h).1]; exact .nil
 ·rw[(hn s l h).1] at he; cases he
 ·rw[(hn s l h).1]
  exact ars_de s _ (hn s l h).2
theorem put_in {W:Wk} (ok:W.Ok) {S:CS} (h:CSok W S) {a:AR} (ha:S.first=some a) {c:Int × Int}:∀ b ∈ putA W ((S.st.getD a.s sp0).out ((S.st.getD a.s sp0).ws.idxOf a.e.2.1) a.e.2.2) a.e.1 c,a.e.1 < b.e.1∧0≤b.e.2.1:=by
 intro b hb
 have hm:a ∈ S.ar:=zE ha
 obtain⟨h1,h2⟩:=h.ar a hm
 have hp:=getD_at (d:=sp0) (l:=S.st) (i:=a.s) (by rw[h.l1]; exact h1)
 obtain⟨w1,w2⟩:=h.ws _ _ hp
 cases eo:(S.st.getD a.s sp0).out ((S.st.getD a.s sp0).ws.idxOf a.e.2.1) a.e.2.2 with
 | none=>rw[eo] at hb; exact absurd hb zK
 | some v =>
  obtain⟨bb,y⟩:=v
  rw[eo] at hb
  rw[zG.mp hb]
  have hbs:=SP.out_in eo
  rw[w2] at hbs
  obtain⟨q1,q2,q3,q4,q5,q6,_⟩:=Wk.lv_goal ok hbs
  refine⟨?_,q1⟩
  show a.e.1 < a.e.1 + (W.be.getD bb.toNat (0,0,0)).2.2
  omega
theorem RI.step {W:Wk} (ok:W.Ok) {u:Int} {S:CS} (h:RI W u S) {a:AR} (ha:S.first=some a) (hu:a.e.1≤u):RI W u (S.step W a):=by
 have hm:a ∈ S.ar:=zE ha
 obtain⟨h1,h2⟩:=h.ok.ar a hm
 obtain⟨pre,post,e1,e2,hpre,hall⟩:=CS.first_cut ha
 have hput:=put_in ok h.ok ha (c:=((a.s:Int),((S.ev.getD a.s []).length:Int)))
 generalize hpn:putA W ((S.st.getD a.s sp0).out ((S.st.getD a.s sp0).ws.idxOf a.e.2.1) a.e.2.2) a.e.1 ((a.s:Int),((S.ev.getD a.s []).length:Int))=new at hput
 have har:(S.step W a).ar=pre++post++new:=by rw[← e2,← hpn]; rfl
 have hin:∀ b ∈ pre++post,b ∈ S.ar:=fun b hb=>by rw[e1]; rcases zW.mp hb with q|q; exact yV _ q; exact zR _ (zJ _ q)
 have hle:∀ b ∈ (S.step W a).ar,kLq a.key b.key:=fun b hb=>by
  rw[har] at hb
  rcases zW.mp hb with q|q
  ·exact hall b q
  ·exact .inl (hput b q).1
 have hl0:S.ev[a.s]?=some (S.ev.getD a.s []):=getD_at (by rw[h.ok.l2]; exact h1)
 have hev:∀(s:Nat) l,(S.step W a).ev[s]?=some l→(s=a.s∧l=S.ev.getD a.s []++[a.e])∨(s ≠ a.s∧S.ev[s]?=some l):=fun s l hs=>by
  have hs':(S.ev.set a.s (S.ev.getD a.s []++[a.e]))[s]?=some l:=hs
  by_cases e:s=a.s
  ·subst e
   rw[yR (by rw[h.ok.l2]; exact h1)] at hs'
   exact .inl ⟨rfl,(Option.some.inj hs').symm⟩
  ·rw[yY (Ne.symm e)] at hs'
   exact .inr ⟨e,hs'⟩
 have tm0:=h.tm a hm
 refine⟨h.ok.step ok ha,fun b hb=>?_,fun s l hs e he b hb=>?_,fun s l hs=>?_,fun s l hs e he=>?_,fun s l hs=>?_⟩
 ·rw[har] at hb
  rcases zW.mp hb with q|q
  ·exact h.tm b (hin b q)
  ·have:=(hput b q).1; omega
 ·rcases hev s l hs with ⟨rfl,rfl⟩|⟨_,hs'⟩
  ·rcases zW.mp he with q|q
   ·exact kLq_tr (h.cr _ _ hl0 e q a hm) (hle b hb)
   ·rw[zG.mp q]; exact hle b hb
  ·exact kLq_tr (h.cr _ _ hs' e he a hm) (hle b hb)
 ·rcases hev s l hs with ⟨rfl,rfl⟩|⟨_,hs'⟩
  ·refine yM.mpr ⟨h.so _ _ hl0,jB _ _,fun e he f hf=>?_⟩
   rw[zG.mp hf]
   exact h.cr _ _ hl0 e he a hm
  ·exact h.so _ _ hs'
 ·rcases hev s l hs with ⟨rfl,rfl⟩|⟨_,hs'⟩
  ·rcases zW.mp he with q|q
   ·exact h.ev _ _ hl0 e q
   ·rw[zG.mp q]; exact⟨tm0,hu,h2⟩
  ·exact h.ev _ _ hs' e he
 ·have hnew:new.filter (isDs s)=[]:=yF.mpr fun b hb q=>by
   rw[yK] at q
   have:=eq_of_beq q.2
   have:=(hput b hb).2
   omega
  rw[har,zN,hnew,zP]
  rcases hev s l hs with ⟨rfl,rfl⟩|⟨hne,hs'⟩
  ·have d0:=h.dr _ _ hl0
   rw[e1,zN] at d0
   by_cases hd:isD a.e=true
   ·have hda:isDs a.s a=true:=by show(a.s == a.s && isD a.e)=true; rw[hd,beq_self_eq_true]; rfl
    rw[z6 hda,zL,yG] at d0
    have hp0:pre.filter (isDs a.s)=[]:=yF.mpr fun b hb q=>by
     have sd:=W.de_so (a.s:Int)
     rw[← d0] at sd
     have s2:=(yM.mp sd).2.1
     have s3:=(yM.mp s2).2.2 b.e (jY (zV.mpr ⟨hb,q⟩)) a.e zH
     have s4:=(kLt_iff _ _).mp (hpre b hb)
     rw[yK] at q
     have q1:b.e.2.1=-1:=eq_of_beq q.2
     have q2:a.e.2.1=-1:=eq_of_beq hd
     have s5:a.e.1 < b.e.1∨(a.e.1=b.e.1∧a.e.2.1 < b.e.2.1):=s4
     omega
    rw[hp0] at d0
    rw[zN,zN,hp0,z6 hd,yL,z7]
    exact d0
   ·have hda:¬ isDs a.s a=true:=fun q=>by rw[yK] at q; exact hd q.2
    rw[yB hda,← zN] at d0
    rw[zN,yB hd,yL,zP]
    exact d0
  ·have d0:=h.dr _ _ hs'
   have hda:¬ isDs s a=true:=fun q=>by rw[yK] at q; exact hne (eq_of_beq q.1).symm
   rw[e1,zN,yB hda,← zN] at d0
   exact d0
theorem Runs.ri {W:Wk} (ok:W.Ok) {u:Int} {S R:CS} (r:Runs W u S R):RI W u S→RI W u R∧∀ a ∈ R.ar,u < a.e.1:=by
 induction r with
 | stop h =>
  intro i
  refine⟨i,fun a ha=>?_⟩
  rename_i S
  cases e:S.first with
  | none =>
   have hlen:S.ar.length≤S.at:=qY.mp e
   have hb:=best_lt (fun i j=>kLt ((S.ar.map AR.key).getD i (0,0)) ((S.ar.map AR.key).getD j (0,0))) ((S.ar.map AR.key).length - 1)
   have hb':S.at≤(S.ar.map AR.key).length - 1:=hb
   rw[zD] at hb'
   have:0 < S.ar.length:=List.length_pos_of_mem ha
   omega
  | some b =>
   have hb:=h b e
   obtain⟨pre,post,e1,_,_,hall⟩:=CS.first_cut e
   rw[e1] at ha
   rcases zW.mp ha with q|q
   ·have:b.e.1 < a.e.1∨(b.e.1=a.e.1∧b.e.2.1≤a.e.2.1):=hall a (yV _ q)
    omega
   ·rcases zS.mp q with q|q
    ·rw[q]; exact hb
    ·have:b.e.1 < a.e.1∨(b.e.1=a.e.1∧b.e.2.1≤a.e.2.1):=hall a (zR _ q)
     omega
 | step a h hu _ ih=>intro i; exact ih (i.step ok h hu)
theorem runs_good {W:Wk} (ok:W.Ok) {u:Int} (hu:0≤u) {R:CS} (r:Runs W u W.cs R):∀(s:Nat) l,R.ev[s]?=some l→(l.Pairwise fun e f=>kLq (ek e) (ek f))∧(∀ e ∈ l,0≤e.1∧e.1≤u∧e.2.1 ∈ W.wy s)∧l.filter isD=W.dd s (u + 1).toNat:=by
 intro s l hs
 obtain⟨i,hlate⟩:=r.ri ok (ri0 ok)
 refine⟨i.so s l hs,i.ev s l hs,?_⟩
 rw[← Wk.de_until ok s u hu,← i.dr s l hs,zN]
 have h1:(l.filter isD).filter (fun e=>decide (e.1≤u))=l.filter isD:=qL.mpr fun e he=>decide_eq_true (i.ev s l hs e (zV.mp he).1).2.1
 have h2:((R.ar.filter (isDs s)).map AR.e).filter (fun e=>decide (e.1≤u))=[]:=yF.mpr fun e he q=>by
  obtain⟨a,ha,rfl⟩:=yC.mp he
  have:=hlate a (zV.mp ha).1
  have:=of_decide_eq_true q
  omega
 rw[h1,h2,zP]
end Oc
namespace Oc
open PySem L2
def SP.op (p:SP) (e:Tri):Option (Int × Int):=p.out (p.ws.idxOf e.2.1) e.2.2
def SP.fold (p:SP):List Tri→SP
 | []=>p
 | e::l=>(p.go e).fold l
theorem SP.fold_snoc (e:Tri):∀(l:List Tri) (p:SP),p.fold (l++[e])=(p.fold l).go e
 | [],_=>rfl
 | f::l,p=>SP.fold_snoc e l (p.go f)
theorem SP.fold_bs:∀(l:List Tri) (p:SP),(p.fold l).bs=p.bs
 | [],_=>rfl
 | f::l,p=>(SP.fold_bs l (p.go f)).trans (p.nxt_bs _ _)
def Wk.dl (W:Wk) (b:Int):Int:=(W.be.getD b.toNat (0,0,0)).2.2
def putE (W:Wk) (e:Tri):Option (Int × Int)→List Tri
 | none=>[]
 | some (b,y)=>[(e.1 + W.dl b,b,y)]
def ptsE (W:Wk) (p:SP):List Tri→List Tri
 | []=>[]
 | e::l=>putE W e (p.op e)++ptsE W (p.go e) l
def Wk.pts (W:Wk) (s:Nat) (l:List Tri):List Tri:=ptsE W (W.sp s) l
theorem ptsE_snoc (W:Wk) (e:Tri):∀(l:List Tri) (p:SP),ptsE W p (l++[e])=ptsE W p l++putE W e ((p.fold l).op e)
 | [],p=>by show putE W e (p.op e)++[]=[]++_; rw[zP]; rfl
 | f::l,p=>by
  show putE W f (p.op f)++ptsE W (p.go f) (l++[e])=(putE W f (p.op f)++ptsE W (p.go f) l)++putE W e (((p.go f).fold l).op e)
  rw[ptsE_snoc W e l (p.go f),z7]
theorem Wk.pts_snoc (W:Wk) (s:Nat) (l:List Tri) (e:Tri):W.pts s (l++[e])=W.pts s l++putE W e (((W.sp s).fold l).op e):=ptsE_snoc W e l _
theorem putE_in {W:Wk} {e x:Tri} {o:Option (Int × Int)} (h:x ∈ putE W e o):∃ y,o=some (x.2.1,y)∧x=(e.1 + W.dl x.2.1,x.2.1,y):=by
 cases o with
 | none=>cases h
 | some v =>
  obtain⟨b,y⟩:=v
  have:=zG.mp h
  subst this
  exact⟨y,rfl,rfl⟩
theorem ptsE_way {W:Wk} {x:Tri}:∀(l:List Tri) (p:SP),x ∈ ptsE W p l→x.2.1 ∈ p.bs∧∃ e ∈ l,x.1=e.1 + W.dl x.2.1
 | [],_,h=>by cases h
 | e::l,p,h=>by
  rcases zW.mp h with q|q
  ·obtain⟨y,h1,h2⟩:=putE_in q
   exact⟨SP.out_in h1,e,zH,by rw[h2]⟩
  ·obtain⟨h1,f,h2,h3⟩:=ptsE_way l (p.go e) q
   rw[show(p.go e).bs=p.bs from p.nxt_bs _ _] at h1
   exact⟨h1,f,zJ _ h2,h3⟩
abbrev isW (b:Int) (e:Tri):Bool:=e.2.1 == b
theorem ptsE_so {W:Wk} {b:Int}:∀(l:List Tri) (p:SP),(l.Pairwise fun e f=>kLq (ek e) (ek f))→((ptsE W p l).filter (isW b)).Pairwise fun e f=>e.1≤f.1
 | [],_,_=>.nil
 | e::l,p,h=>by
  obtain⟨h1,h2⟩:=yO.mp h
  show((putE W e (p.op e)++ptsE W (p.go e) l).filter (isW b)).Pairwise _
  rw[zN]
  refine yM.mpr ⟨?_,ptsE_so l _ h2,fun x hx y hy=>?_⟩
  ·cases p.op e with
   | none=>exact .nil
   | some v=>exact(jB _ _).sublist List.filter_sublist
  ·obtain⟨x1,x2⟩:=zV.mp hx
   obtain⟨y1,y2⟩:=zV.mp hy
   obtain⟨_,_,e1⟩:=putE_in x1
   obtain⟨_,f,hf,e2⟩:=ptsE_way l _ y1
   have w1:x.2.1=b:=eq_of_beq x2
   have w2:y.2.1=b:=eq_of_beq y2
   have:=h1 f hf
   have e1':x.1=e.1 + W.dl x.2.1:=by rw[e1]
   rw[w1] at e1'
   rw[w2] at e2
   have k:e.1 < f.1∨(e.1=f.1∧e.2.1≤f.2.1):=this
   omega
def Wk.fr (W:Wk) (b:Int):Nat:=((W.be.getD b.toNat (0,0,0)).1).toNat
def Wk.to (W:Wk) (b:Int):Nat:=((W.be.getD b.toNat (0,0,0)).2.1).toNat
theorem Wk.wy_goal {W:Wk} (ok:W.Ok) {s:Nat} {b:Int} (h:b ∈ W.wy s) (hb:0≤b):W.to b=s:=by
 unfold Wk.wy at h
 rcases zW.mp h with q|q
 ·split at q
  ·rw[zG.mp q] at hb; omega
  ·cases q
 ·obtain⟨j,t,e,ht,hf⟩:=idx_of _ _ _ _ q
  rw[qO] at e
  subst e
  unfold Wk.to
  rw[zT,zA,ht]
  show t.2.1.toNat=s
  have:=eq_of_beq hf
  omega
abbrev isWs (g:Nat) (b:Int) (a:AR):Bool:=a.s == g && isW b a.e
structure RP (W:Wk) (u:Int) (S:CS):Prop where
 ri:RI W u S
 st:∀(s:Nat) l,S.ev[s]?=some l→S.st[s]?=some ((W.sp s).fold l)
 ro:∀ b:Int,0≤b→b < W.be.length→∀ l m,S.ev[W.fr b]?=some l→S.ev[W.to b]?=some m→(W.pts (W.fr b) l).filter (isW b)=m.filter (isW b)++(S.ar.filter (isWs (W.to b) b)).map AR.e
theorem rp0 {W:Wk} (ok:W.Ok) {u:Int}:RP W u W.cs:=by
 have hn:∀(s:Nat) l,W.cs.ev[s]?=some l→l=[]∧s < W.st.length:=fun s l h=>by
  have h':(W.st.map fun _=>([]:List Tri))[s]?=some l:=h
  rw[zF] at h'
  obtain⟨x,hx,e⟩:=yQ.mp h'
  exact⟨e.symm,(zC.mp hx).1⟩
 refine⟨ri0 ok,fun s l h=>?_,fun b b0 b1 l m h1 h2=>?_⟩
 ·obtain⟨rfl,hs⟩:=hn s l h
  show((List.range W.st.length).map W.sp)[s]?=_
  rw[zF,yX hs]
  rfl
 ·obtain⟨rfl,_⟩:=hn _ l h1
  obtain⟨rfl,_⟩:=hn _ m h2
  have:(W.cs.ar.filter (isWs (W.to b) b))=[]:=yF.mpr fun a ha q=>by
   obtain⟨_,h2,_⟩:=ars_in (n:=W.st.length) ha
   obtain⟨_,h3,_⟩:=W.de_time ok h2
   rw[yK] at q
   have:a.e.2.1=b:=eq_of_beq q.2
   omega
  rw[this]
  rfl
theorem RP.step {W:Wk} (ok:W.Ok) {u:Int} {S:CS} (h:RP W u S) {a:AR} (ha:S.first=some a) (hu:a.e.1≤u):RP W u (S.step W a):=by
 have hok:=h.ri.ok
 have hm:a ∈ S.ar:=zE ha
 obtain⟨h1,h2⟩:=hok.ar a hm
 obtain⟨pre,post,e1,e2,hpre,hall⟩:=CS.first_cut ha
 have hl0:S.ev[a.s]?=some (S.ev.getD a.s []):=getD_at (by rw[hok.l2]; exact h1)
 have hst:=h.st _ _ hl0
 have hsg:S.st.getD a.s sp0=(W.sp a.s).fold (S.ev.getD a.s []):=by rw[zA,hst]; rfl
 have hev:∀(s:Nat) l,(S.step W a).ev[s]?=some l→(s=a.s∧l=S.ev.getD a.s []++[a.e])∨(s ≠ a.s∧S.ev[s]?=some l):=fun s l hs=>by
  have hs':(S.ev.set a.s (S.ev.getD a.s []++[a.e]))[s]?=some l:=hs
  by_cases e:s=a.s
  ·subst e
   rw[yR (by rw[hok.l2]; exact h1)] at hs'
   exact .inl ⟨rfl,(Option.some.inj hs').symm⟩
  ·rw[yY (Ne.symm e)] at hs'
   exact .inr ⟨e,hs'⟩
 have har:(S.step W a).ar=pre++post++putA W (((W.sp a.s).fold (S.ev.getD a.s [])).op a.e) a.e.1 ((a.s:Int),((S.ev.getD a.s []).length:Int)):=by
  rw[← e2,← hsg]; rfl
 refine⟨h.ri.step ok ha hu,fun s l hs=>?_,fun b b0 b1 l m hl hm'=>?_⟩
 ·have hg:(S.step W a).st[s]?=(S.st.set a.s ((S.st.getD a.s sp0).go a.e))[s]?:=rfl
  rw[hg]
  rcases hev s l hs with ⟨rfl,rfl⟩|⟨hne,hs'⟩
  ·rw[yR (by rw[hok.l1]; exact h1),SP.fold_snoc,hsg]
  ·rw[yY (Ne.symm hne)]
   exact h.st s l hs'
 ·-- before
  have hbl:∀ {x:Nat} {z:List Tri},(S.step W a).ev[x]?=some z→∃ z0,S.ev[x]?=some z0:=fun {x z} hz=>by
   rcases hev x z hz with ⟨rfl,_⟩|⟨_,hz'⟩
   ·exact⟨_,hl0⟩
   ·exact⟨_,hz'⟩
  obtain⟨l0,hl0'⟩:=hbl hl
  obtain⟨m0,hm0'⟩:=hbl hm'
  have old:=h.ro b b0 b1 l0 m0 hl0' hm0'
  have so:=ptsE_so (W:=W) (b:=b) l0 (W.sp (W.fr b)) (h.ri.so _ _ hl0')
  have new:(W.pts (W.fr b) l).filter (isW b)=(W.pts (W.fr b) l0).filter (isW b)++((putA W (((W.sp a.s).fold (S.ev.getD a.s [])).op a.e) a.e.1 ((a.s:Int),((S.ev.getD a.s []).length:Int))).filter (isWs (W.to b) b)).map AR.e:=by
   have hx:∀ x ∈ putE W a.e (((W.sp a.s).fold (S.ev.getD a.s [])).op a.e),W.fr x.2.1=a.s:=fun x hx=>by
    obtain⟨y,q1,q2⟩:=putE_in hx
    have:=SP.out_in q1
    rw[SP.fold_bs] at this
    obtain⟨_,_,_,_,_,_,q7⟩:=Wk.lv_goal ok (show x.2.1 ∈ W.lv (a.s:Int) from this)
    unfold Wk.fr
    rw[q7]
    exact zT _
   have hp:((putA W (((W.sp a.s).fold (S.ev.getD a.s [])).op a.e) a.e.1 ((a.s:Int),((S.ev.getD a.s []).length:Int))).filter (isWs (W.to b) b)).map AR.e=(putE W a.e (((W.sp a.s).fold (S.ev.getD a.s [])).op a.e)).filter (isW b):=by
    cases ((W.sp a.s).fold (S.ev.getD a.s [])).op a.e with
    | none=>rfl
    | some v =>
     obtain⟨bb,y⟩:=v
     show(([arrOf W bb y a.e.1 _]).filter (isWs (W.to b) b)).map AR.e=([((a.e.1 + W.dl bb,bb,y):Tri)]).filter (isW b)
     by_cases hb:bb=b
     ·subst hb
      rw[z6 (by show((W.be.getD bb.toNat (0,0,0)).2.1.toNat == W.to bb && bb == bb)=true; rw[beq_self_eq_true,Bool.and_true]; exact beq_self_eq_true _),z6 (by exact beq_self_eq_true _)]
      rfl
     ·rw[yB (by intro q; rw[yK] at q; exact hb (eq_of_beq q.2)),yB (by intro q; exact hb (eq_of_beq q))]
      rfl
   rw[hp]
   rcases hev _ l hl with ⟨ef,rfl⟩|⟨hne,hl'⟩
   ·rw[ef] at hl0' ⊢
    rw[hl0] at hl0'
    cases hl0'
    rw[Wk.pts_snoc,zN]
   ·rw[hl0'] at hl'
    cases hl'
    have hz:(putE W a.e (((W.sp a.s).fold (S.ev.getD a.s [])).op a.e)).filter (isW b)=[]:=yF.mpr fun x hx' q=>hne (by rw[← hx x hx',eq_of_beq q])
    rw[hz,zP]
  rw[new,old,har,zN,zL,← z7]
  congr 1
  rw[e1,zN]
  by_cases hd:isW b a.e=true
  ·have hto:W.to b=a.s:=by
    have:a.e.2.1=b:=eq_of_beq hd
    rw[this] at h2
    exact Wk.wy_goal ok h2 b0
   have hda:isWs (W.to b) b a=true:=by show(a.s == W.to b && isW b a.e)=true; rw[hd,hto,beq_self_eq_true]; rfl
   have hm1:m=m0++[a.e]:=by
    rcases hev _ m hm' with ⟨_,rfl⟩|⟨hne,_⟩
    ·rw[hto,hl0] at hm0'
     cases hm0'
     rfl
    ·exact absurd hto hne
   have hp0:pre.filter (isWs (W.to b) b)=[]:=yF.mpr fun c hc q=>by
    have so':((W.pts (W.fr b) l0).filter (isW b)).Pairwise fun e f=>e.1≤f.1:=so
    rw[old,e1,zN,zL,z6 hda] at so'
    have s2:=(yM.mp so').2.1
    have s3:=(yM.mp s2).2.2 c.e (jY (zV.mpr ⟨hc,q⟩)) a.e zH
    have s4:a.e.1 < c.e.1∨(a.e.1=c.e.1∧a.e.2.1 < c.e.2.1):=(kLt_iff _ _).mp (hpre c hc)
    rw[yK] at q
    have q1:c.e.2.1=b:=eq_of_beq q.2
    have q2:a.e.2.1=b:=eq_of_beq hd
    omega
   rw[hp0,hm1,zN,zN,hp0,z6 hda,z6 hd,yL,z7]
   rfl
  ·have hda:¬ isWs (W.to b) b a=true:=fun q=>by rw[yK] at q; exact hd q.2
   have hm1:m.filter (isW b)=m0.filter (isW b):=by
    rcases hev _ m hm' with ⟨ef,rfl⟩|⟨_,hm2⟩
    ·rw[ef,hl0] at hm0'
     cases hm0'
     rw[zN,yB hd,yL,zP]
    ·rw[hm0'] at hm2
     cases hm2
     rfl
   rw[yB hda,hm1,zN]
theorem Runs.rp {W:Wk} (ok:W.Ok) {u:Int} {S R:CS} (r:Runs W u S R):RP W u S→RP W u R:=by
 induction r with
 | stop h=>exact fun i=>i
 | step a h hu _ ih=>intro i; exact ih (i.step ok h hu)
theorem runs_rows {W:Wk} (ok:W.Ok) {u:Int} {R:CS} (r:Runs W u W.cs R) {b:Int} (b0:0≤b) (b1:b < W.be.length) {l m:List Tri} (hl:R.ev[W.fr b]?=some l) (hm:R.ev[W.to b]?=some m) :
  (W.pts (W.fr b) l).filter (fun e=>isW b e && decide (e.1≤u))=m.filter (isW b):=by
 have rp:=r.rp ok (rp0 ok)
 obtain⟨ri,hlate⟩:=r.ri ok (ri0 ok)
 have e:=rp.ro b b0 b1 l m hl hm
 have:(W.pts (W.fr b) l).filter (fun e=>isW b e && decide (e.1≤u))=((W.pts (W.fr b) l).filter (isW b)).filter (fun e=>decide (e.1≤u)):=by
  rw[jG]
  congr 1
  funext x
  exact kW _ _
 rw[this,e,zN]
 have h1:(m.filter (isW b)).filter (fun e=>decide (e.1≤u))=m.filter (isW b):=qL.mpr fun x hx=>decide_eq_true (ri.ev _ m hm x (zV.mp hx).1).2.1
 have h2:((R.ar.filter (isWs (W.to b) b)).map AR.e).filter (fun e=>decide (e.1≤u))=[]:=yF.mpr fun x hx q=>by
  obtain⟨a,ha,rfl⟩:=yC.mp hx
  have:=hlate a (zV.mp ha).1
  have:=of_decide_eq_true q
  omega
 rw[h1,h2,zP]
end Oc
namespace Oc
open PySem L2
theorem filt_split (u:Int):∀ {l:List Tri},(l.Pairwise fun a b=>a.1≤b.1)→l.filter (fun e=>decide (e.1≤u))++l.filter (fun e=>decide (u < e.1))=l
 | [],_=>rfl
 | x::l,h=>by
  obtain⟨h1,h2⟩:=yO.mp h
  by_cases z:x.1≤u
  ·rw[z6 (by exact decide_eq_true z),yB (by simp; omega),jQ,filt_split u h2]
  ·have e1:(x::l).filter (fun e=>decide (e.1≤u))=[]:=yF.mpr fun e he q=>by
    have q:=of_decide_eq_true q
    rcases zS.mp he with y|y
    ·rw[y] at q; exact z q
    ·have:=h1 e y; omega
   have e2:(x::l).filter (fun e=>decide (u < e.1))=x::l:=qL.mpr fun e he=>decide_eq_true (by
    rcases zS.mp he with y|y
    ·rw[y]; omega
    ·have:=h1 e y; omega)
   rw[e1,e2]
   rfl
theorem dl_is (W:Wk) (b:Nat):W.dl (b:Int)=W.dels.getD b 0:=by
 unfold Wk.dl Wk.dels
 rw[zT,zA,zA,zF]
 cases W.be[b]? <;> rfl
theorem pts_puts (W:Wk) (b:Nat):∀(l:List Tri) (p:SP),(∀ x ∈ p.bs,0≤x)→(ptsE W p l).filter (isW (b:Int))=p.puts W.dels b l
 | [],_,_=>rfl
 | e::l,p,h=>by
  show(putE W e (p.op e)++ptsE W (p.go e) l).filter (isW (b:Int))=p.put1 W.dels b e++(p.go e).puts W.dels b l
  rw[zN,pts_puts W b l (p.go e) (by unfold SP.go; rw[SP.nxt_bs]; exact h)]
  congr 1
  unfold SP.op SP.put1
  cases eo:p.out (p.ws.idxOf e.2.1) e.2.2 with
  | none=>rfl
  | some o =>
   have hb:=h _ (SP.out_in (y:=o.2) eo)
   show([(e.1 + W.dl o.1,o.1,o.2)]:List Tri).filter (isW (b:Int))=if o.1.toNat=b then [(e.1 + W.dels.getD b 0,o.1,o.2)] else []
   by_cases z:o.1.toNat=b
   ·have z':o.1=(b:Int):=by omega
    rw[if_pos z,z',dl_is,z6 (by exact beq_self_eq_true _)]
    rfl
   ·rw[if_neg z,yB (by
     intro y
     have y:o.1=(b:Int):=by simpa [isW] using y
     omega)]
    rfl
def Wk.oaR (W:Wk) (u:Int) (R:CS):OA:=⟨R.st,W.dels,W.be.map fun _=>some (u + 1),(List.range W.st.length).map fun s:Nat=>(W.de (s:Int)).filter (fun e=>decide (u < e.1)),(List.range W.be.length).map fun b:Nat=>((W.sp (W.st0 b)).puts W.dels b (R.ev.getD (W.st0 b) [])).filter (fun e=>decide (u < e.1)),R.ev⟩
section
variable {W:Wk} {u:Int} {R:CS}
theorem oaR_ev {s:Nat} {w:Int}:∀ e ∈ evAt (W.oaR u R).de (W.oaR u R).re s w,u < e.1:=fun e he=>by
 unfold evAt at he
 split at he
 ·replace he:e ∈ ((List.range W.st.length).map fun s:Nat=>(W.de (s:Int)).filter (fun e=>decide (u < e.1))).getD s []:=he
  rw[zA,zF] at he
  cases h:(List.range W.st.length)[s]? with
  | none=>rw[h] at he; exact absurd he zK
  | some k=>rw[h] at he; exact of_decide_eq_true (zV.mp he).2
 ·replace he:e ∈ ((List.range W.be.length).map fun b:Nat=>((W.sp (W.st0 b)).puts W.dels b (R.ev.getD (W.st0 b) [])).filter (fun e=>decide (u < e.1))).getD w.toNat []:=he
  rw[zA,zF] at he
  cases h:(List.range W.be.length)[w.toNat]? with
  | none=>rw[h] at he; exact absurd he zK
  | some k=>rw[h] at he; exact of_decide_eq_true (zV.mp he).2
theorem oaR_pr {b:Nat} {g:Int} (h:(W.oaR u R).pr.getD b none=some g):g=u + 1:=by
 replace h:(W.be.map fun _=>some (u + 1)).getD b none=some g:=h
 rw[zA,zF] at h
 cases e:W.be[b]? with
 | none=>rw[e] at h; cases h
 | some c=>rw[e] at h; cases h; rfl
theorem oaR_e {s:Nat} {w x:Int} (h:(W.oaR u R).e s w=some x):u < x:=by
 unfold OA.e at h
 cases ev:evAt (W.oaR u R).de (W.oaR u R).re s w with
 | cons t r =>
  rw[ev] at h
  replace h:some t.1=some x:=h
  cases h
  exact oaR_ev (s:=s) (w:=w) t (by rw[ev]; exact zH)
 | nil =>
  rw[ev] at h
  replace h:(if w=-1 then none else (W.oaR u R).pr.getD w.toNat none)=some x:=h
  split at h
  ·cases h
  ·rw[oaR_pr h]; omega
theorem run_cf (ok:W.Ok) (hu:0≤u) (r:Runs W u W.cs R) (c:CSok W R):Cf W (W.oaR u R):=by
 have good:∀ s:Nat,(R.ev.getD s []).Pairwise (fun e f=>kLq (ek e) (ek f))∧∀ e ∈ R.ev.getD s [],0≤e.1∧e.1≤u∧e.2.1 ∈ W.wy s:=fun s=>by
  rw[zA]
  cases h:R.ev[s]? with
  | none=>exact⟨.nil,fun e z=>absurd z zK⟩
  | some l=>exact⟨(runs_good ok hu r s l h).1,(runs_good ok hu r s l h).2.1⟩
 have tt:∀ s:Nat,(R.ev.getD s []).Pairwise fun a b=>a.1≤b.1:=fun s=>(good s).1.imp fun {a b} h=>by
  unfold kLq ek at h
  omega
 refine⟨⟨c.l2,fun s=>(good s).1.imp fun {a b} h=>?_,fun s t ht=>((good s).2 t ht).2.2,fun s t ht w hw x hx=>?_⟩,fun s hs w hw=>?_,fun s t ht=>((good s).2 t ht).1,fun b bt hb=>?_⟩
 ·rw[kLe_iff]
  unfold kLq ek at h
  unfold tkey
  exact h
 ·have h1:=((good s).2 t ht).2.1
  have h2:=oaR_e hx
  rw[kLe_iff]
  unfold tkey
  dsimp only
  omega
 ·have hl:R.ev[s]?=some (R.ev.getD s []):=by
   rw[zA,zB (by rw[c.l2]; exact hs)]
   rfl
  unfold OA.src evAt
  by_cases wd:w=-1
  ·rw[if_pos wd,if_pos wd]
   subst wd
   have e1:=(runs_good ok hu r s _ hl).2.2
   rw[← Wk.de_until ok s u hu] at e1
   have e2:(W.oaR u R).de.getD s []=(W.de (s:Int)).filter (fun e=>decide (u < e.1)):=by
    show((List.range W.st.length).map _).getD s []=_
    rw[zA,zF,yX hs]
    rfl
   have e3:(R.ev.getD s []).filter (isY (-1))=(W.de (s:Int)).filter (fun e=>decide (e.1≤u)):=e1
   show(R.ev.getD s []).filter (isY (-1))++_=_
   rw[e2,e3]
   exact filt_split u (Wk.de_so W _)
  ·rw[if_neg wd,if_neg wd]
   obtain⟨b,bt,hb,g2,rfl⟩:=(Wk.wy_mem hw).resolve_left wd
   have hbl:=(zC.mp hb).1
   obtain⟨b1,b2,b3,b4,b5,b6⟩:=ok.bel bt (zE hb)
   rw[zT]
   have efr:W.fr (b:Int)=W.st0 b:=by unfold Wk.fr Wk.st0; rw[zT]
   have eto:W.to (b:Int)=s:=by
    unfold Wk.to
    rw[zT,zA,hb]
    show bt.2.1.toNat=s
    omega
   have hst:W.st0 b < W.st.length:=by
    unfold Wk.st0
    rw[zA,hb]
    show bt.1.toNat < _
    omega
   have hl0:R.ev[W.fr (b:Int)]?=some (R.ev.getD (W.st0 b) []):=by
    rw[efr,zA,zB (by rw[c.l2]; exact hst)]
    rfl
   have rr:=runs_rows ok r (b:=(b:Int)) (by omega) (by omega) hl0 (by rw[eto]; exact hl)
   have e2:(W.oaR u R).re.getD b []=((W.sp (W.st0 b)).puts W.dels b (R.ev.getD (W.st0 b) [])).filter (fun e=>decide (u < e.1)):=by
    show((List.range W.be.length).map _).getD b []=_
    rw[zA,zF,yX hbl]
    rfl
   have nb:∀ x ∈ (W.sp (W.st0 b)).bs,0≤x:=fun x hx=>by
    obtain⟨j,_,_,_,h3⟩:=Wk.lv_mem (W:=W) (s:=(W.st0 b:Int)) hx
    omega
   have pp:=pts_puts W b (R.ev.getD (W.st0 b) []) (W.sp (W.st0 b)) nb
   have e3:(R.ev.getD s []).filter (isY (b:Int))=((W.sp (W.st0 b)).puts W.dels b (R.ev.getD (W.st0 b) [])).filter (fun e=>decide (e.1≤u)):=by
    rw[← pp,jG]
    show(R.ev.getD s []).filter (isW (b:Int))=_
    rw[← rr,efr]
    unfold Wk.pts
    refine jJ fun e _=>?_
    rw[kW]
   have so:((W.sp (W.st0 b)).puts W.dels b (R.ev.getD (W.st0 b) [])).Pairwise fun a b=>a.1≤b.1:=by
    rw[← pp]
    exact ptsE_so _ _ (good (W.st0 b)).1
   show(R.ev.getD s []).filter (isY (b:Int))++_=_
   rw[e2,e3]
   exact filt_split u so
 ·cases eg:(W.oaR u R).pr.getD b none with
  | none =>
   exfalso
   replace eg:(W.be.map fun _=>some (u + 1)).getD b none=none:=eg
   rw[zA,zF,hb] at eg
   cases eg
  | some g =>
   rw[oaR_pr eg]
   cases ec:(W.oaR u R).clk bt.1.toNat (W.wy bt.1) with
   | none=>exact oLe_none _
   | some x =>
    unfold OA.clk at ec
    obtain⟨w,hw,he⟩:=yP.mp (qE.mp ec).1
    have:=oaR_e (W:=W) (u:=u) (R:=R) (s:=bt.1.toNat) (w:=w) (x:=x) he
    have:=(ok.bel bt (zE hb)).2.2.2.2.1
    show u + 1≤x + bt.2.2
    omega
theorem beyond (ok:W.Ok) {A:OA} (ca:Cf W A) (cb:Cf W (W.oaR u R)) (ag:Agr A (W.oaR u R)) {s:Nat} (hs:s < W.st.length) {a:Tri} {rest:List Tri} (e:A.ge.getD s []=(W.oaR u R).ge.getD s []++a::rest):u < a.1:=by
 have inA:a ∈ A.ge.getD s []:=by rw[e]; exact zR _ zH
 have hw:=ca.ord.wy s a inA
 have evA:=ca.ev _ hs _ hw
 rw[e] at evA
 have atA:=filter_at evA
 have evB:=cb.ev _ hs _ hw
 cases ev:evAt (W.oaR u R).de (W.oaR u R).re s a.2.1 with
 | nil =>
  rw[ev,zP] at evB
  by_cases wd:a.2.1=-1
  ·unfold OA.src at atA evB
   rw[if_pos wd] at atA evB
   rw[← evB] at atA
   have:=(zC.mp atA).1
   omega
  ·obtain⟨b',bt',hb',eb,e0⟩:=Wk.wy_bel hw wd
   rw[eb] at atA evB ev
   rw[src_bel e0] at atA evB
   have d:=behind_is ok ca cb ag (a.1.toNat + 1) b' bt' hb' _ a atA (by have:=ca.nn s a inA; omega) (by rw[← evB]; exact zI _)
   cases eg:(W.oaR u R).pr.getD b' none with
   | none=>rw[eg] at d; exact d.elim
   | some g =>
    rw[eg] at d
    have:=oaR_pr eg
    have d:g≤a.1:=d
    omega
 | cons h r =>
  have hh:=oaR_ev (W:=W) (u:=u) (R:=R) (s:=s) (w:=a.2.1) h (by rw[ev]; exact zH)
  rw[ev] at evB
  have atB:((W.oaR u R).src W s a.2.1)[(((W.oaR u R).ge.getD s []).filter (isY a.2.1)).length]?=some h:=by
   rw[← evB,zQ (zI _),qI]
   rfl
  rw[pre_at (ag.src W _ _) atA atB]
  exact hh
theorem begin_at (ok:W.Ok) {A:OA} (ca:Cf W A) (cb:Cf W (W.oaR u R)) (ag:Agr A (W.oaR u R)) {s:Nat} (hs:s < W.st.length):A.ge.getD s [] <+: R.ev.getD s []∨∃ rest,A.ge.getD s []=R.ev.getD s []++rest∧∀ e ∈ rest,u < e.1:=by
 rcases ag s with z|⟨rest,er⟩
 ·exact .inl z
 ·refine .inr ⟨rest,er.symm,fun e he=>?_⟩
  cases rest with
  | nil=>exact absurd he zK
  | cons a rest =>
   have b:=beyond ok ca cb ag hs er.symm
   have so:=ca.ord.so s
   rw[← er] at so
   have so2:=(yM.mp so).2.1
   rcases zS.mp he with z|z
   ·rw[z]; exact b
   ·have:=(kLe_iff _ _).mp ((yO.mp so2).1 e z)
    unfold tkey at this
    omega
end
end Oc
namespace Oc
open PySem L2
theorem full_is {W:Wk} (ok:W.Ok) {u:Int} {R:CS} {A:OA} (ca:Cf W A) (cb:Cf W (W.oaR u R)) (ag:Agr A (W.oaR u R)) (e60:∀ s:Nat,∀ e ∈ R.ev.getD s [],e.1≤u) (far:∀ s:Nat,s < W.st.length→∀ w ∈ W.wy s,∀ x,A.e s w=some x→u < x) {s:Nat} (hs:s < W.st.length):(A.ge.getD s []).filter (upTo u)=R.ev.getD s []:=by
 have all:∀ {l:List Tri},(∀ e ∈ l,e.1≤u)→l.filter (upTo u)=l:=fun h=>qL.mpr fun e he=>decide_eq_true (h e he)
 rcases begin_at ok ca cb ag hs with ⟨rest,er⟩|⟨rest,er,hr⟩
 ·cases rest with
  | nil =>
   rw[zP] at er
   rw[er]
   exact all (e60 s)
  | cons a rest =>
   exfalso
   have inB:a ∈ R.ev.getD s []:=by rw[← er]; exact zR _ zH
   have au:=e60 s a inB
   have hw:=cb.ord.wy s a inB
   have evB:=cb.ev _ hs _ hw
   replace evB:(R.ev.getD s []).filter (isY a.2.1)++_=_:=evB
   rw[← er] at evB
   have atB:=filter_at evB
   have evA:=ca.ev _ hs _ hw
   have fr:=far s hs _ hw
   cases ev:evAt A.de A.re s a.2.1 with
   | nil =>
    rw[ev,zP] at evA
    by_cases wd:a.2.1=-1
    ·unfold OA.src at atB evA
     rw[if_pos wd] at atB evA
     rw[← evA] at atB
     have:=(zC.mp atB).1
     omega
    ·obtain⟨b',bt',hb',eb,e0⟩:=Wk.wy_bel hw wd
     rw[eb] at atB evA ev fr
     rw[src_bel e0] at atB evA
     have d:=behind_is ok cb ca ag.symm (a.1.toNat + 1) b' bt' hb' _ a atB (by have:=cb.nn s a inB; omega) (by rw[← evA]; exact zI _)
     rw[← ear_nil ev] at d
     cases eg:A.e s (b':Int) with
     | none=>rw[eg] at d; exact d.elim
     | some g =>
      rw[eg] at d
      have d:g≤a.1:=d
      have:=fr g eg
      omega
   | cons h r =>
    rw[ev] at evA
    have atA:(A.src W s a.2.1)[((A.ge.getD s []).filter (isY a.2.1)).length]?=some h:=by
     rw[← evA,zQ (zI _),qI]
     rfl
    have:=pre_at (ag.src W _ _) atA atB
    have:=fr h.1 (ear_cons ev)
    subst h
    omega
 ·rw[er,zN,all (e60 s),yF.mpr,zP]
  intro e he z
  have:=of_decide_eq_true z
  have:=hr e he
  omega
theorem go_ok {W:Wk} (ok:W.Ok) {B:OA} (cb:Cf W B):∀(ts:List Nat) (A:OA),(∀ t ∈ ts,t < W.st.length)→Inv W A→(∃ m,AOk m A)→Cs2 W A→Agr B A→Inv W (A.go ts)∧Cs2 W (A.go ts)∧Agr B (A.go ts)
 | [],_,_,I,_,c,ag=>⟨I,c,ag⟩
 | t::ts,A,h,I,⟨m,ao⟩,c,ag=>by
  have ht:=h t zH
  exact go_ok ok cb ts (A.step t).1 (fun x hx=>h x (zJ _ hx)) (step_stp ok I ao ht).inv ⟨_,step_ao I ao ht⟩ (step_cf ok I ao c ht) (step_agr ok cb I ao c.cf ag ht)
theorem new_agr {W:Wk} (B:OA):Agr B W.oa:=fun s=>.inr (by rw[show W.oa.ge.getD s []=[] from getD_nils W.st s]; exact List.nil_prefix)
theorem go_new {W:Wk} (ok:W.Ok) {B:OA} (cb:Cf W B) {ts:List Nat} (h:∀ t ∈ ts,t < W.st.length):Inv W (W.oa.go ts)∧Cs2 W (W.oa.go ts)∧Agr B (W.oa.go ts):=go_ok ok cb ts W.oa h (new_inv ok) ⟨0,new_ao W⟩ (new_cf ok) (new_agr B)
theorem rs_lt' {W:Wk} {r:Nat}:∀ t ∈ (List.replicate r (List.range W.st.length)).flatten,t < W.st.length:=fun t ht=>by
 obtain⟨l,hl,h⟩:=qN.mp ht
 rw[List.eq_of_mem_replicate hl] at h
 exact yU.mp h
theorem far_of {W:Wk} {A:OA} {u:Int} (h:∀ s:Nat,s < W.st.length→∀ x,A.clk s (W.wy s)=some x→u < x):∀ s:Nat,s < W.st.length→∀ w ∈ W.wy s,∀ x,A.e s w=some x→u < x:=fun s hs w hw x hx=>by
 have:=clk_le (A:=A) (s:=s) hw
 rw[hx] at this
 cases e:A.clk s (W.wy s) with
 | none=>rw[e] at this; exact this.elim
 | some c =>
  rw[e] at this
  exact qP (h s hs c e) this
theorem ev_le {W:Wk} (ok:W.Ok) {u:Int} (hu:0≤u) {R:CS} (r:Runs W u W.cs R):∀ s:Nat,∀ e ∈ R.ev.getD s [],e.1≤u:=fun s e he=>by
 rw[zA] at he
 cases h:R.ev[s]? with
 | none=>rw[h] at he; exact absurd he zK
 | some l=>rw[h] at he; exact((runs_good ok hu r s l h).2.1 e he).2.1
theorem set_is {W:Wk} (ok:W.Ok) {u:Int} (hu:0≤u) {R:CS} (rn:Runs W u W.cs R) (co:CSok W R) {r:Nat} (em:((W.oa.rnds W.st.length r).bhs W.st.length u).isEmpty=true) {s:Nat} (hs:s < W.st.length):((W.oa.rnds W.st.length r).ge.getD s []).filter (upTo u)=R.ev.getD s []:=by
 have cb:=run_cf ok hu rn co
 obtain⟨I,c,ag⟩:=go_new ok cb (ts:=(List.replicate r (List.range W.st.length)).flatten) rs_lt'
 rw[← rnds_go] at I c ag
 refine full_is ok c.cf cb ag.symm (ev_le ok hu rn) (far_of fun s hs x hx=>?_) hs
 have:=bhs_nil.mp em s hs
 rw[I.ws hs,hx] at this
 have:=of_decide_eq_false this
 omega
theorem run_cut {W:Wk} (ok:W.Ok) {u v:Int} (hu:0≤u) (uv:u≤v) {R R':CS} (rn:Runs W u W.cs R) (co:CSok W R) (rn':Runs W v W.cs R') (co':CSok W R') {s:Nat} (hs:s < W.st.length):(R'.ev.getD s []).filter (upTo u)=R.ev.getD s []:=by
 have hv:0≤v:=by omega
 have e1:=set_is ok hu rn co (r:=(v.toNat + 1) * 62) (s:=s) (bhs_nil.mpr fun j hj=>by
  have:=bhs_nil.mp (far_bhs ok (u:=v) (n:=v.toNat + 1) (by omega)) j hj
  revert this
  cases (OA.rnds W.oa W.st.length ((v.toNat + 1) * 62)).clk j (List.getD _ j sp0).ws with
  | none=>exact fun _=>rfl
  | some x=>exact fun z=>decide_eq_false (by have:=of_decide_eq_false z; omega)) hs
 have e2:=set_is ok hv rn' co' (r:=(v.toNat + 1) * 62) (far_bhs ok (u:=v) (n:=v.toNat + 1) (by omega)) hs
 rw[← e1,← e2,jG]
 refine jJ fun e _=>?_
 by_cases z:e.1≤u
 ·rw[show upTo u e=true from decide_eq_true z,show upTo v e=true from decide_eq_true (by omega)]; rfl
 ·rw[show upTo u e=false from decide_eq_false z]; rfl
end Oc
namespace Oc
open PySem L2
theorem paired_gr {α β:Type} {F:α→β→Prop} {l:List α} {m:List β} (h:Paired F l m):∀ {i:Nat} {b:β},m[i]?=some b→∃ a,l[i]?=some a∧F a b:=by
 induction h with
 | nil=>intro i b h; simp at h
 | cons p _ ih =>
  intro i b h
  cases i with
  | zero=>cases h; exact⟨_,rfl,p⟩
  | succ i=>exact ih h
theorem sh_if2 {b:Bool} {A B M C:Prop} (hb:b=false→C) (hM:b=true→(C→B)→M) (hB:C→B):if b=true then M else (if false=true then A else B):=by
 cases b
 ·exact iteF (iteF (hB (hb rfl)))
 ·exact iteT (hM rfl hB)
def rowD (r:List Tri):PyData:=.list (r.map triD)
theorem dt_rows {K:PySem.W.Frag} {H:Hp} {gv:List (List V)} {ge:List (List Tri)} (p:Paired (fun us ts=>Paired (IsTri H) us ts) gv ge):∀ {as:List Addr},(∀ c ∈ liC as gv,H c.1=some c.2)→as.length=gv.length→DtAll K H 2 (as.map V.ref) (ge.map rowD):=by
 induction p with
 | nil=>intro as _ l; cases as with
  | nil=>exact .nil 2
  | cons _ _=>cases l
 | @cons us ts gv ge p r ih =>
  intro as m l
  cases as with
  | nil=>cases l
  | cons a as =>
   have m':∀ c ∈ (a,HO.lst us)::liC as gv,H c.1=some c.2:=m
   exact .cons (dt_tris (m' _ zH) p) (ih (fun c hc=>m' c (zJ _ hc)) (by simpa using l))
theorem and_tl {c:Bool} {M:Prop} {tA tB:TS} {D:Ends} {σ:L2.St} {H:Hp} (R:L2.St→Hp→Prop) (hM:c=true→(∀ σ' H',R σ' H'→D.nx σ' H')→(∀(b:Bool) H1,(b=true→tA D σ H1)→(b=false→tB D σ H1)→if b=true then tA D σ H1 else tB D σ H1)→M) (hB:c=false→(∀ σ' H',R σ' H'→D.nx σ' H')→tB D σ H) (f:∀ σ' H',R σ' H'→D.nx σ' H'):if c=true then M else (if false=true then tA D σ H else tB D σ H):=by
 cases c
 ·exact iteF (iteF (hB rfl f))
 ·exact iteT (hM rfl f fun b H1 h1 h2=>by
   cases b
   ·exact iteF (h2 rfl)
   ·exact iteT (h1 rfl))
theorem mod_nat (x:Int) {M:Nat} (h:0 < M):∃ s:Nat,x % (M:Int)=(s:Int)∧s < M:=by
 have a1:=y4 x (show(M:Int) ≠ 0 by omega)
 have a2:=yW x (show 0 < (M:Int) by omega)
 exact⟨(x % (M:Int)).toNat,by omega,by omega⟩
inductive spTn (K:PySem.W.Frag) (vs:List V) (H:Hp) (Q:VK) (x_3:XK):Prop where
 | mk (a:Addr) (ns:List Int) (M:Nat) (h_0:vs=[.ref a,.int (M:Int)]) (h_1:SqL K H a (ns.map V.int)) (h_2:0 < M) (h_3:∀(p:Addr) (ts:List Nat) (H':Hp),H p=none→H' p=some (.lst (natV ts))→ts.length≤63→(∀ t ∈ ts,t < M)→Same H H'→Q (.ref p) H'):spTn K vs H Q x_3
def BgOk (u:Int) (ts ds:List Tri):Prop:=∀(k:Nat) t,ts[k]?=some t→(k < ds.length→ds[k]?=some t)∧(ds.length≤k→u < t.1)
inductive spBg (vs:List V) (H:Hp) (Q:VK) (x_3:XK):Prop where
 | mk (p q:Addr) (us us':List V) (ts ds:List Tri) (u:Int) (h_0:vs=[.ref p,.ref q,.int u]) (h_1:H p=some (.lst us)) (h_2:Paired (IsTri H) us ts) (h_3:H q=some (.lst us')) (h_4:Paired (IsTri H) us' ds) (h_5:ts.length≤90000) (h_6:BgOk u ts ds) (h_7:∀ H',Same H H'→Q (.bl true) H'):spBg vs H Q x_3
section
variable {P:Program} {w:World} {K:PySem.W.Frag} {mg:Str→Option Value} {base:Heap}
theorem sc_tn:FnScope ["script","many","way","chosen","turns","k","turn"] ["script","many"] (defScope (top 36)):=⟨rfl,rfl,rfl,by decide +kernel,rfl,by decide +kernel,by decide +kernel⟩
theorem ok_tn {f:Addr} {fd:FuncData} (F:Fun K "_law_turns" "_law_turns" (top 36) f fd) (T:Txt K mg) (af:FnAt P w K mg base 1 "_law_cell_at" ["script","k"] (spCell K)) (am:FnAt P w K mg base 1 "_law_mixed" ["cell","k"] spMix):FnOk P w K mg base CX0 2 f fd ["script","many"] (spTn K):=by
 have nd:=sc_tn.nd
 refine F.ok sc_tn (fun vs H Q E h=>?_) (fun cdv A outer s H vs Q E hr h=>?_)
 ·obtain⟨a,ns,M,rfl,_⟩:=h
  rfl
 ·obtain⟨a,ns,M,rfl,hS,hM,q⟩:=h
  have p1:(0:Int) < (M:Int):=by omega
  refine⟨_,(@pss_cons _ _ _ _ _ (ps_set (i:=2) nd rfl (by nofun) (pe_op op_mod (pe_op op_fdiv (pe_fn af (hr.mono (by decide)) (by rfl) (@pa_cons _ _ _ _ _ (pv 0) (@pa_cons _ _ _ _ _ pe_int pa_nil (by rfl)) (by rfl))) pe_int) pe_int))
   (@pss_cons _ _ _ _ _ (ps_set (i:=3) nd rfl (by nofun) (pe_op op_mod (pe_op op_fdiv (pe_fn af (hr.mono (by decide)) (by rfl) (@pa_cons _ _ _ _ _ (pv 0) (@pa_cons _ _ _ _ _ pe_int pa_nil (by rfl)) (by rfl))) pe_int) (pv 1)))
   (@pss_cons _ _ _ _ _ (ps_set (i:=4) nd rfl (by nofun) (@pe_lst _ _ _ _ pa_nil))
   (@pss_cons _ _ _ _ _ (ps_for PassesOwn.never rfl (pi_range1 rfl T.n_range (@pa_cons _ _ _ _ _ (pe_callB (call_min2 rfl) (by rfl) T.n_min bt_min (@pa_cons _ _ _ _ _ pe_int (@pa_cons _ _ _ _ _ (pe_callB (call_len_seqK (K:=K) rfl) (by rfl) T.n_len bt_len (@pa_cons _ _ _ _ _ (pv 0) pa_nil (by rfl))) pa_nil (by rfl)) (by rfl))) pa_nil (by rfl))) (pg_name (i:=5) nd rfl (by nofun)) (@pss_cons _ _ _ _ _ (ps_set (i:=6) nd rfl (by nofun) (pe_op op_mod (pe_op op_fdiv (pe_fn am (hr.mono (by decide)) (by rfl) (@pa_cons _ _ _ _ _ (@pe_ix _ _ _ _ _ _ _ (ix_listK (K:=K) rfl) (pv 0) (pv 5) (fun _ _=>rfl)) (@pa_cons _ _ _ _ _ (pe_op op_add pe_int (pv 5)) pa_nil (by rfl)) (by rfl))) pe_int) (pv 1)))
   (@pss_cons _ _ _ _ _ (ps_if ((pw_and (pt_cmpR op_eq (pv 2) pe_int (nomark _)) (pw_and1 (pt_cmpR op_eq (pv 6) (pv 3) (nomark _))))).pt (@pss_one _ _ _ (ps_set (i:=6) nd rfl (by nofun) (pe_op op_mod (pe_op op_add (pv 6) pe_int) (pv 1)))) pss_nil)
   (@pss_cons _ _ _ _ _ (ps_if ((pw_and (pt_cmpR op_eq (pv 2) pe_int (nomark _)) (pw_and1 (pt_cmpR op_gt (pe_op op_mod (@pe_ix _ _ _ _ _ _ _ (ix_listK (K:=K) rfl) (pv 0) (pv 5) (fun _ _=>rfl)) pe_int) pe_int (nomark _))))).pt (@pss_one _ _ _ (ps_set (i:=6) nd rfl (by nofun) (pv 3))) pss_nil)
   (@pss_one _ _ _ (ps_expr (pe_bm PySem.F.plainAttrs_list PySem.F.slot_list_append PySem.F.type_list_append mt_append (pv 4) (@pa_cons _ _ _ _ _ (pv 6) pa_nil (by rfl)))))))))
   (@pss_one _ _ _ (@ps_ret _ _ _ _ (pv 4))))))),?_⟩
  refine⟨_,rfl,a,ns,0,rfl,hS,by decide,fun r1=>⟨_,_,rfl,rfl,⟨by decide,by decide⟩,_,_,rfl,rfl,(show(0:Int) < 3 by decide),?_⟩⟩
  generalize r1 / 280 % 3=wy
  refine⟨_,rfl,a,ns,0,rfl,hS,by decide,fun r2=>⟨_,_,rfl,rfl,⟨by decide,by decide⟩,_,rfl,_,_,rfl,rfl,p1,?_⟩⟩
  obtain⟨ch,ech,hch⟩:=mod_nat (r2 / 840) hM
  rw[ech]
  refine⟨z5 _,fun D nD=>?_⟩
  have s1:=Same.new (o:=.lst []) nD
  refine⟨_,rfl,a,_,rfl,.inl (s1.seq hS),_,_,rfl,?_⟩
  obtain⟨m,em,lm,lm2⟩:∃ m:Nat,(if (((ns.map V.int).length:Nat):Int) < 63 then (((ns.map V.int).length:Nat):Int) else 63)=(m:Int)∧m≤ns.length∧m≤63:=by
   rw[zD]
   by_cases z:((ns.length:Nat):Int) < 63
   ·rw[if_pos z]; exact⟨_,rfl,zI _,by omega⟩
   ·rw[if_neg z]; exact⟨63,rfl,by omega,zI _⟩
  rw[em]
  refine⟨_,rfl,by rw[p62]; omega,by rw[p62]; omega,?_⟩
  refine for_range (n:=((m:Nat):Int).toNat) (fun i σ H5=>∃(v5 v6:Option V) (ts:List Nat),σ=[some (.ref a),some (.int (M:Int)),some (.int wy),some (.int (ch:Int)),some (.ref D),v5,v6]∧Same H H5∧H5 D=some (.lst (natV ts))∧ts.length=i∧∀ t ∈ ts,t < M) ⟨_,_,[],rfl,s1,upd_same,rfl,fun _ z=>absurd z zK⟩ ?_ ?_
  ·rintro i σ H5 hi ⟨v5,v6,ts,rfl,s5,h5,lt,tin⟩
   rw[qD]
   obtain⟨ce,hce⟩:∃ ce,ns[i]?=some ce:=⟨ns[i]'(by omega),zB _⟩
   have hcv:(ns.map V.int)[i]?=some (.int ce):=by rw[zF,hce]; rfl
   refine⟨_,rfl,_,rfl,⟨_,_,_,_,rfl,rfl,s5.seq hS,atI_nat hcv,_,rfl,_,_,rfl,rfl,ce,_,rfl,fun r _ _=>⟨_,_,rfl,rfl,⟨by decide,by decide⟩,_,rfl,_,_,rfl,rfl,p1,?_⟩⟩⟩
   obtain⟨t0,et0,ht0⟩:=mod_nat (r / 3) hM
   rw[et0]
   refine⟨_,rfl,rfl,_,rfl,?_⟩
   refine and_tl (fun σ' H'=>∃ t:Nat,σ'=[some (.ref a),some (.int (M:Int)),some (.int wy),some (.int (ch:Int)),some (.ref D),some (.int (i:Int)),some (.int (t:Int))]∧H'=H5∧t < M) (fun h k br=>?_) (fun h k=>k _ _ ⟨t0,rfl,rfl,ht0⟩) ?_
   ·refine⟨_,rfl,_,rfl,rfl,_,rfl,?_⟩
    refine br _ _ (fun _=>?_) (fun _=>k _ _ ⟨t0,rfl,rfl,ht0⟩)
    obtain⟨t1,et1,ht1⟩:=mod_nat ((t0:Int) + 1) hM
    refine⟨_,rfl,_,_,rfl,rfl,_,rfl,_,_,rfl,rfl,p1,?_⟩
    rw[et1]
    exact k _ _ ⟨t1,rfl,rfl,ht1⟩
   ·rintro σ' H6 ⟨t,rfl,rfl,ht⟩
    refine⟨_,rfl,rfl,_,rfl,?_⟩
    refine and_tl (fun σ' H'=>∃ t:Nat,σ'=[some (.ref a),some (.int (M:Int)),some (.int wy),some (.int (ch:Int)),some (.ref D),some (.int (i:Int)),some (.int (t:Int))]∧H'=H6∧t < M) (fun h k br=>?_) (fun h k=>k _ _ ⟨t,rfl,rfl,ht⟩) ?_
    ·refine⟨_,rfl,_,rfl,⟨_,_,_,_,rfl,rfl,s5.seq hS,atI_nat hcv,_,_,rfl,rfl,(show(0:Int) < 4 by decide),_,_,rfl,rfl,_,rfl,?_⟩⟩
     exact br _ _ (fun _=>⟨_,rfl,k _ _ ⟨ch,rfl,rfl,hch⟩⟩) (fun _=>k _ _ ⟨t,rfl,rfl,ht⟩)
    ·rintro σ' H7 ⟨t',rfl,rfl,ht'⟩
     refine⟨_,rfl,tyL h5,_,rfl,D,_,_,rfl,rfl,h5,small1000 (by unfold natV; rw[zD]; omega),?_⟩
     refine⟨_,_,ts++[t'],rfl,s5.upd nD,?_,by rw[zM,lt]; rfl,fun x hx=>?_⟩
     ·rw[upd_same]
      unfold natV
      rw[zL]
      rfl
     ·rcases zW.mp hx with z|z
      ·exact tin x z
      ·rw[zG.mp z]; exact ht'
  ·rintro σ H5 ⟨v5,v6,ts,rfl,s5,h5,lt,tin⟩
   exact⟨_,rfl,q D ts H5 nD h5 (by omega) tin s5⟩
theorem sc_bg:FnScope ["taken","due","until","k"] ["taken","due","until"] (defScope (top 37)):=⟨rfl,rfl,rfl,by decide +kernel,rfl,by decide +kernel,by decide +kernel⟩
theorem ok_bg {f:Addr} {fd:FuncData} (F:Fun K "_law_begins" "_law_begins" (top 37) f fd) (T:Txt K mg) (tt_:PySem.W.kitOne K (.type "tuple") (.type "tuple")=some true) (ll_:PySem.W.kitOne K (.type "list") (.type "list")=some true):FnOk P w K mg base CX0 1 f fd ["taken","due","until"] spBg:=by
 have nd:=sc_bg.nd
 refine F.ok sc_bg (fun vs H Q E h=>?_) (fun cdv A outer s H vs Q E hr h=>?_)
 ·obtain⟨p,q,us,us',ts,ds,u,rfl,_⟩:=h
  rfl
 ·obtain⟨p,q,us,us',ts,ds,u,rfl,hp,pt,hq,pd,lt,bo,k⟩:=h
  have l1:=pt.length
  have l2:=pd.length
  refine⟨_,(@pss_cons _ _ _ _ _ (ps_if (pt_not (pt_val (pe_callB (call_isiTK (K:=K) rfl) (by rfl) T.n_isinstance bt_isinstance (@pa_cons _ _ _ _ _ (pv 0) (@pa_cons _ _ _ _ _ (pe_bltn (v:=.ty _) (by rfl) T.n_list bt_list rfl) pa_nil (by rfl)) (by rfl))))) (@pss_one _ _ _ (@ps_ret _ _ _ _ pe_bl)) pss_nil)
   (@pss_cons _ _ _ _ _ (ps_for PassesOwn.never rfl (pi_range1 rfl T.n_range (@pa_cons _ _ _ _ _ (pe_callB (call_len_seqK (K:=K) rfl) (by rfl) T.n_len bt_len (@pa_cons _ _ _ _ _ (pv 0) pa_nil (by rfl))) pa_nil (by rfl))) (pg_name (i:=3) nd rfl (by nofun)) (@pss_cons _ _ _ _ _ (ps_if ((pw_or (pt_not (pt_val (pe_callB (call_isiTK (K:=K) rfl) (by rfl) T.n_isinstance bt_isinstance (@pa_cons _ _ _ _ _ (@pe_ix _ _ _ _ _ _ _ (ix_listK (K:=K) rfl) (pv 0) (pv 3) (fun _ _=>rfl)) (@pa_cons _ _ _ _ _ (pe_bltn (v:=.ty _) (by rfl) T.n_tuple bt_tuple rfl) pa_nil (by rfl)) (by rfl))))) (pw_or1 (pt_cmpR op_ne (pe_callB (call_len_seqK (K:=K) rfl) (by rfl) T.n_len bt_len (@pa_cons _ _ _ _ _ (@pe_ix _ _ _ _ _ _ _ (ix_listK (K:=K) rfl) (pv 0) (pv 3) (fun _ _=>rfl)) pa_nil (by rfl))) pe_int (nomark _))))).pt (@pss_one _ _ _ (@ps_ret _ _ _ _ pe_bl)) pss_nil)
   (@pss_one _ _ _ (ps_if ((pw_or ((pw_and (pt_cmpR op_lt (pv 3) (pe_callB (call_len_seqK (K:=K) rfl) (by rfl) T.n_len bt_len (@pa_cons _ _ _ _ _ (pv 1) pa_nil (by rfl))) (nomark _)) (pw_and1 (pt_cmpR (op_neDK (K:=K) rfl hr.units) (@pe_ix _ _ _ _ _ _ _ (ix_listK (K:=K) rfl) (pv 0) (pv 3) (fun _ _=>rfl)) (@pe_ix _ _ _ _ _ _ _ (ix_listK (K:=K) rfl) (pv 1) (pv 3) (fun _ _=>rfl)) (nomark _))))).pt (pw_or1 ((pw_and (pt_cmpR op_ge (pv 3) (pe_callB (call_len_seqK (K:=K) rfl) (by rfl) T.n_len bt_len (@pa_cons _ _ _ _ _ (pv 1) pa_nil (by rfl))) (nomark _)) (pw_and1 (pt_cmpR op_le (@pe_ix _ _ _ _ _ _ _ (ix_tupK (K:=K) rfl) (@pe_ix _ _ _ _ _ _ _ (ix_listK (K:=K) rfl) (pv 0) (pv 3) (fun _ _=>rfl)) pe_int (fun _ _=>rfl)) (pv 2) (nomark _))))).pt))).pt (@pss_one _ _ _ (@ps_ret _ _ _ _ pe_bl)) pss_nil))))
   (@pss_one _ _ _ (@ps_ret _ _ _ _ pe_bl)))),?_⟩
  refine⟨_,rfl,_,"list",_,true,rfl,.lst hp,ll_,_,rfl,iteF ?_⟩
  refine⟨_,rfl,p,_,rfl,.inl (SqL.of hp),_,rfl,by rw[p62]; omega,by rw[p62]; omega,?_⟩
  refine for_range (n:=((us.length:Nat):Int).toNat) (fun i σ H5=>∃ v3:Option V,σ=[some (.ref p),some (.ref q),some (.int u),v3]∧H5=H) ⟨_,rfl,rfl⟩ ?_ ?_
  ·rintro i σ H5 hi ⟨v3,rfl,rfl⟩
   rw[qD]
   obtain⟨x,hx⟩:∃ x,us[i]?=some x:=⟨us[i]'(by omega),zB _⟩
   obtain⟨e,he,pe,rfl,hpe⟩:=pt.gt hx
   obtain⟨b1,b2⟩:=bo i e he
   refine⟨_,rfl,_,rfl,⟨_,_,_,_,rfl,rfl,SqL.of hp,atI_nat hx,_,"tuple",_,true,rfl,.tup hpe,tt_,_,rfl,iteF ?_⟩⟩
   refine⟨_,rfl,_,rfl,⟨_,_,_,_,rfl,rfl,SqL.of hp,atI_nat hx,pe,_,rfl,.inr (SqT.of hpe),rfl,_,rfl,iteF ?_⟩⟩
   refine⟨_,rfl,_,rfl,q,_,rfl,.inl (SqL.of hq),_,_,rfl,rfl,_,rfl,?_⟩
   refine sh_if2 (C:=True) (fun _=>trivial) (fun hb kk=>?_) (fun _=>?_)
   ·have lk:i < ds.length:=by
     have:=of_decide_eq_true hb
     omega
    have hd:=b1 lk
    obtain⟨y,hy,pe',rfl,hpe'⟩:=paired_gr pd hd
    have d1:Dt K H5 1 (.ref pe) (triD e):=(show IsTri H5 (.ref pe) e from⟨pe,rfl,hpe⟩).dt
    refine⟨_,rfl,_,rfl,⟨_,_,_,_,rfl,rfl,SqL.of hp,atI_nat hx,_,rfl,_,rfl,⟨_,_,_,_,rfl,rfl,SqL.of hq,atI_nat hy,_,_,1,d1,(show IsTri H5 (.ref pe') e from⟨pe',rfl,hpe'⟩).dt,by decide,_,rfl,?_⟩⟩⟩
    rw[SeqAt.eqv_refl _ d1.can]
    exact iteF (kk trivial)
   refine⟨_,rfl,_,rfl,q,_,rfl,.inl (SqL.of hq),_,_,rfl,rfl,_,rfl,?_⟩
   refine sh_if2 (C:=True) (fun _=>trivial) (fun hb kk=>?_) (fun _=>?_)
   ·have lk:ds.length≤i:=by
     have:=of_decide_eq_true hb
     omega
    have hu:=b2 lk
    refine⟨_,rfl,_,rfl,⟨_,_,_,_,rfl,rfl,SqL.of hp,atI_nat hx,⟨_,_,_,_,rfl,rfl,SqT.of hpe,(atI_nat (j:=0) rfl),_,rfl,_,_,rfl,rfl,_,rfl,?_⟩⟩⟩
    rw[decide_eq_false (by omega)]
    exact iteF (kk trivial)
   ·exact⟨_,rfl,rfl⟩
  ·rintro σ H5 ⟨v3,rfl,rfl⟩
   exact k _ (Same.refl _)
end
end Oc
namespace Oc
open PySem L2
theorem noT_li (as:List Addr) (vs:List (List V)):∀ x ∈ liC as vs,∀ ps,x.2 ≠ HO.tbl ps:=fun x hx ps=>by
 obtain⟨v,_,e⟩:=yC.mp (q9 (show(x.1,x.2) ∈ as.zip (vs.map HO.lst) from hx)).2
 rw[← e]
 exact fun y=>nomatch y
theorem Ow31.less {cs:Cs} {C Pd Pu:Addr} {W:Wk} {S:List Cell} {M:List (List Cell)} {H:Hp} {o:OR} {A:OA} {m:Nat} (h:Ow31 cs C Pd Pu W (S::M) H o A m):Ow31 cs C Pd Pu W M H o A m:=by
 have k:Hc H (S::(ownCs cs C o++M)):=hc_cnt h.hc fun c=>by
  simp only [qJ,yH,jK]
  omega
 exact⟨k.tl,h.fo,h.inv,h.dr,h.up⟩
theorem Wo.ow {cs:Cs} {C Pd Pu:Addr} {W:Wk} {M:List (List Cell)} {H0 H:Hp} {o:OR} {A:OA} {m:Nat} (h:Wo cs C Pd Pu W M H0 H o A m):Ow31 cs C Pd Pu W M H o A m:=⟨h.hc,h.fo,h.inv,h.dr,h.up⟩
theorem dt_list3 {K:PySem.W.Frag} {H:Hp} {D:Addr} {bs:List Addr} {rv:List (List V)} {ge:List (List Tri)} (h:H D=some (.lst (bs.map V.ref))) (hc:∀ c ∈ liC bs rv,H c.1=some c.2) (l:bs.length=rv.length) (p:Paired (fun us ts=>Paired (IsTri H) us ts) rv ge):Dt K H 3 (.ref D) (.list (ge.map rowD)):=.lst (SqL.of h) (dt_rows p hc l)
theorem bg_of {u:Int} {ts ds:List Tri} (h:ts <+: ds∨∃ rest,ts=ds++rest∧∀ e ∈ rest,u < e.1):BgOk u ts ds:=fun k t ht=>by
 have lt:=(zC.mp ht).1
 rcases h with ⟨r,rfl⟩|⟨rest,rfl,hr⟩
 ·exact⟨fun _=>by rw[yI lt]; exact ht,fun z=>by rw[zM] at z; omega⟩
 ·refine⟨fun z=>?_,fun z=>?_⟩
  ·rw[yI z] at ht; exact ht
  ·rw[zQ z] at ht
   exact hr t (zE ht)
theorem rows_eq {n:Nat} {f:Nat→List Tri} {ev:List (List Tri)} (l:ev.length=n) (h:∀ s < n,f s=ev.getD s []):(List.range n).map f=ev:=by
 refine qT fun i=>?_
 rw[zF]
 by_cases z:i < n
 ·rw[yX z]
  show some (f i)=_
  rw[h i z,zA,zB (by omega)]
  rfl
 ·rw[yE (by rw[yZ]; omega),yE (by omega)]
  rfl
inductive spLaw (Pd Pu:Addr) (K:PySem.W.Frag) (vs:List V) (H:Hp) (Q:VK) (x_3:XK):Prop where
 | mk (a:Addr) (ns:List Int) (h_0:vs=[.ref a]) (h_1:SqL K H a (ns.map V.int)) (h_2:ns.length≤63) (h_3:DoorT Pd H) (h_4:UpT Pu H) (h_5:Pd ≠ Pu) (h_6:∀ H',Q (.bl true) H'):spLaw Pd Pu K vs H Q x_3
section
variable {P:Program} {w:World} {K:PySem.W.Frag} {mg:Str→Option Value} {base:Heap} {cs:Cs} {C Pd Pu:Addr}
theorem sc_law:FnScope ["script","works","handed","turns","own","due","station","until","found"] ["script"] (defScope (top 38)):=⟨rfl,rfl,rfl,by decide +kernel,rfl,by decide +kernel,by decide +kernel⟩
theorem ok_law {f:Addr} {fd:FuncData} (F:Fun K "law" "law" (top 38) f fd) (T:Txt K mg) (tt_:PySem.W.kitOne K (.type "tuple") (.type "tuple")=some true) (af:FnAt P w K mg base 1 "_law_cell_at" ["script","k"] (spCell K)) (aT:FnAt P w K mg base 2 "_law_works" ["script"] (spWks K)) (aU:FnAt P w K mg base 2 "_law_turns" ["script","many"] (spTn K)) (iD:FnAt P w K mg base 7 "woven" ["works","turns"] (spWov cs C Pd Pu)) (G_run:FnAt P w K mg base 6 "run" ["works","until"] (spRun Pd)) (dw:FnAt P w K mg base 7 "settled" ["works","until"] (spSet cs C Pd Pu)) (G_taken:MethAt P w K mg base 1 C "taken" ["self","station"] (spTaken cs C)) (aN:FnAt P w K mg base 1 "_law_begins" ["taken","due","until"] spBg):FnOk P w K mg base CX0 8 f fd ["script"] (spLaw Pd Pu K):=by
 have nd:=sc_law.nd
 refine F.ok sc_law (fun vs H Q E h=>?_) (fun cdv A outer s H vs Q E hr h=>?_)
 ·obtain⟨a,ns,rfl,_⟩:=h
  rfl
 ·obtain⟨a,ns,rfl,hS,hl,hT,hU,nePP,q⟩:=h
  refine⟨_,(@pss_cons _ _ _ _ _ (ps_set (i:=1) nd rfl (by nofun) (pe_fn aT (hr.mono (by decide)) (by rfl) (@pa_cons _ _ _ _ _ (pv 0) pa_nil (by rfl))))
   (@pss_cons _ _ _ _ _ (ps_set (i:=2) nd rfl (by nofun) (@pe_tup _ _ _ _ _ (@pa_cons _ _ _ _ _ (pe_callTy (call_list_ofK (K:=K) rfl) (by rfl) T.n_list bt_list (@pa_cons _ _ _ _ _ (@pe_ix _ _ _ _ _ _ _ (ix_tupK (K:=K) rfl) (pv 1) pe_int (fun _ _=>rfl)) pa_nil (by rfl))) (@pa_cons _ _ _ _ _ (pe_callTy (call_list_ofK (K:=K) rfl) (by rfl) T.n_list bt_list (@pa_cons _ _ _ _ _ (@pe_ix _ _ _ _ _ _ _ (ix_tupK (K:=K) rfl) (pv 1) pe_int (fun _ _=>rfl)) pa_nil (by rfl))) (@pa_cons _ _ _ _ _ (pe_callTy (call_list_ofK (K:=K) rfl) (by rfl) T.n_list bt_list (@pa_cons _ _ _ _ _ (@pe_ix _ _ _ _ _ _ _ (ix_tupK (K:=K) rfl) (pv 1) pe_int (fun _ _=>rfl)) pa_nil (by rfl))) pa_nil (by rfl)) (by rfl)) (by rfl))))
   (@pss_cons _ _ _ _ _ (ps_set (i:=3) nd rfl (by nofun) (pe_fn aU (hr.mono (by decide)) (by rfl) (@pa_cons _ _ _ _ _ (pv 0) (@pa_cons _ _ _ _ _ (pe_callB (call_len_seqK (K:=K) rfl) (by rfl) T.n_len bt_len (@pa_cons _ _ _ _ _ (@pe_ix _ _ _ _ _ _ _ (ix_tupK (K:=K) rfl) (pv 1) pe_int (fun _ _=>rfl)) pa_nil (by rfl))) pa_nil (by rfl)) (by rfl))))
   (@pss_cons _ _ _ _ _ (ps_set (i:=4) nd rfl (by nofun) (pe_fn iD (hr.mono (by decide)) (by rfl) (@pa_cons _ _ _ _ _ (pv 2) (@pa_cons _ _ _ _ _ (pe_callTy (call_list_ofK (K:=K) rfl) (by rfl) T.n_list bt_list (@pa_cons _ _ _ _ _ (pv 3) pa_nil (by rfl))) pa_nil (by rfl)) (by rfl))))
   (@pss_cons _ _ _ _ _ (ps_set (i:=5) nd rfl (by nofun) (pe_fn G_run (hr.mono (by decide)) (by rfl) (@pa_cons _ _ _ _ _ (pv 2) (@pa_cons _ _ _ _ _ pe_int pa_nil (by rfl)) (by rfl))))
   (@pss_cons _ _ _ _ _ (ps_for PassesOwn.never rfl (pi_range1 rfl T.n_range (@pa_cons _ _ _ _ _ (pe_callB (call_len_seqK (K:=K) rfl) (by rfl) T.n_len bt_len (@pa_cons _ _ _ _ _ (@pe_ix _ _ _ _ _ _ _ (ix_tupK (K:=K) rfl) (pv 1) pe_int (fun _ _=>rfl)) pa_nil (by rfl))) pa_nil (by rfl))) (pg_name (i:=6) nd rfl (by nofun)) (@pss_one _ _ _ (ps_if (pt_not (pt_val (pe_fn aN (hr.mono (by decide)) (by rfl) (@pa_cons _ _ _ _ _ (pe_mth G_taken (hr.mono (by decide)) (pv 4) (@pa_cons _ _ _ _ _ (pv 6) pa_nil (by rfl))) (@pa_cons _ _ _ _ _ (@pe_ix _ _ _ _ _ _ _ (ix_listK (K:=K) rfl) (pv 5) (pv 6) (fun _ _=>rfl)) (@pa_cons _ _ _ _ _ pe_int pa_nil (by rfl)) (by rfl)) (by rfl))))) (@pss_one _ _ _ (@ps_ret _ _ _ _ pe_bl)) pss_nil)))
   (@pss_cons _ _ _ _ _ (ps_set (i:=7) nd rfl (by nofun) (pe_op op_mod (pe_op op_fdiv (pe_fn af (hr.mono (by decide)) (by rfl) (@pa_cons _ _ _ _ _ (pv 0) (@pa_cons _ _ _ _ _ pe_int pa_nil (by rfl)) (by rfl))) pe_int) pe_int))
   (@pss_cons _ _ _ _ _ (ps_set (i:=8) nd rfl (by nofun) (pe_fn dw (hr.mono (by decide)) (by rfl) (@pa_cons _ _ _ _ _ (pv 2) (@pa_cons _ _ _ _ _ (pv 7) pa_nil (by rfl)) (by rfl))))
   (@pss_cons _ _ _ _ _ (ps_if ((pw_or (pt_not (pt_val (pe_callB (call_isiTK (K:=K) rfl) (by rfl) T.n_isinstance bt_isinstance (@pa_cons _ _ _ _ _ (pv 8) (@pa_cons _ _ _ _ _ (pe_bltn (v:=.ty _) (by rfl) T.n_tuple bt_tuple rfl) pa_nil (by rfl)) (by rfl))))) (pw_or (pt_cmpR op_ne (pe_callB (call_len_seqK (K:=K) rfl) (by rfl) T.n_len bt_len (@pa_cons _ _ _ _ _ (pv 8) pa_nil (by rfl))) pe_int (nomark _)) (pw_or1 (pt_cmpR (op_neDK (K:=K) rfl hr.units) (pv 2) (pv 1) (nomark _)))))).pt (@pss_one _ _ _ (@ps_ret _ _ _ _ pe_bl)) pss_nil)
   (@pss_one _ _ _ (@ps_ret _ _ _ _ (pe_chain (op_eqDK (K:=K) rfl hr.units) (op_eqDK (K:=K) rfl hr.units) (@pe_ix _ _ _ _ _ _ _ (ix_tupK (K:=K) rfl) (pv 8) pe_int (fun _ _=>rfl)) (pe_fn G_run (hr.mono (by decide)) (by rfl) (@pa_cons _ _ _ _ _ (pv 2) (@pa_cons _ _ _ _ _ (pv 7) pa_nil (by rfl)) (by rfl))) (pe_comp (own:=["row"]) (fr:=["until"]) (js:=[7]) (by and_intros) (pi_listK (K:=K) rfl (pv 5)) (fun _ _ _ _=>(pg_name (i:=0) (show List.Nodup (["row","until"]:List Str) from by decide +kernel) rfl (by nofun))) (fun _ _ _ _=>pts_nil) (fun _ _ _ _=>(pe_comp (own:=["one"]) (fr:=["until"]) (js:=[1]) (by and_intros) (pi_listK (K:=K) rfl (pv 0)) (fun _ _ _ _=>(pg_name (i:=0) (show List.Nodup (["one","until"]:List Str) from by decide +kernel) rfl (by nofun))) (fun _ _ _ _=>(pts_one (pt_cmpR op_le (@pe_ix _ _ _ _ _ _ _ (ix_tupK (K:=K) rfl) (pv 0) pe_int (fun _ _=>rfl)) (pv 1) (nomark _)))) (fun _ _ _ _=>(pv 0))))))))))))))))),?_⟩
  refine⟨_,rfl,a,ns,rfl,hS,fun wa W H3 hW ok _ s1=>?_⟩
  have hT3:=hT.same s1
  have hU3:=hU.same s1
  obtain⟨M0,sa,ba,fa,xs,ys,zs,k4,nM0,back⟩:=base_in hW (s1.seq hS)
  obtain⟨h1,h3,hS1⟩:=back H3 k4
  have ls:=h3.ps.length
  have s8:=ok.s8
  have s1p:=ok.s1
  refine⟨_,rfl,⟨_,_,_,_,rfl,rfl,SqT.of h1,(atI_nat (j:=0) rfl),sa,_,rfl,.inl (SqL.of h3.hs),fun c0 n0=>?_⟩⟩
  have t0:Same H3 (upd H3 c0 (.lst xs)):=Same.new n0
  have k5:=k4.new n0 (.lst xs)
  refine⟨_,rfl,⟨_,_,_,_,rfl,rfl,SqT.of (t0 _ _ h1),(atI_nat (j:=1) rfl),ba,_,rfl,.inl (SqL.of (t0 _ _ h3.hb)),fun c1 n1=>?_⟩⟩
  have t01:=t0.trans (Same.new (o:=.lst ys) n1)
  have k6:=k5.new n1 (.lst ys)
  refine⟨_,rfl,⟨_,_,_,_,rfl,rfl,SqT.of (t01 _ _ h1),(atI_nat (j:=2) rfl),fa,_,rfl,.inl (SqL.of (t01 _ _ h3.hf)),fun c2 n2=>?_⟩⟩
  have t02:=t01.trans (Same.new (o:=.lst zs) n2)
  have k7:=k6.new n2 (.lst zs)
  refine⟨(by show 3≤sizeLine; decide),fun ha nha=>?_⟩
  have t03:=t02.trans (Same.new (o:=.tup [.ref c0,.ref c1,.ref c2]) nha)
  have k8:=k7.new nha (.tup [.ref c0,.ref c1,.ref c2])
  generalize (upd (upd (upd (upd H3 c0 (.lst xs)) c1 (.lst ys)) c2 (.lst zs)) ha (.tup [.ref c0,.ref c1,.ref c2]))=H4 at t03 k8 ⊢
  have hT4:=hT3.same t03
  have hU4:=hU3.same t03
  have n8:NoT ([(ha,.tup [.ref c0,.ref c1,.ref c2])]::[(c2,.lst zs)]::[(c1,.lst ys)]::[(c0,.lst xs)]::M0):=(((nM0.lst).lst).lst).one fun _ z=>nomatch z
  have back8:∀ H',Hc H' ([(ha,.tup [.ref c0,.ref c1,.ref c2])]::[(c2,.lst zs)]::[(c1,.lst ys)]::[(c0,.lst xs)]::M0)→WkAt H' ha W∧H' wa=some (.tup [.ref sa,.ref ba,.ref fa])∧LsAt H' sa ba fa W xs ys zs∧SqL K H' a (ns.map V.int):=fun H' k=>by
   obtain⟨e1,e2,e3⟩:=back H' k.tl.tl.tl.tl
   exact⟨⟨c0,c1,c2,xs,ys,zs,k.get 0 0 rfl rfl,⟨k.get 3 0 rfl rfl,k.get 2 0 rfl rfl,k.get 1 0 rfl rfl,e2.ps,e2.pb,e2.pf⟩⟩,e1,e2,e3⟩
  generalize ([(ha,HO.tup [.ref c0,.ref c1,.ref c2])]::[(c2,.lst zs)]::[(c1,.lst ys)]::[(c0,.lst xs)]::M0)=N at k8 n8 back8
  clear t0 t01 t02 t03 k4 k5 k6 k7 h1 h3 hT3 hU3 back hS1 hS hW hT hU s1 nM0 n0 n1 n2 nha
  obtain⟨_,w4,l4,hS4⟩:=back8 H4 k8
  refine⟨_,rfl,_,rfl,⟨_,_,_,_,rfl,rfl,SqT.of w4,(atI_nat (j:=0) rfl),sa,_,rfl,.inl (SqL.of l4.hs),?_⟩⟩
  rw[ls]
  refine⟨a,ns,W.st.length,rfl,hS4,(by omega),fun p ts H5 np hp lts tin s5=>?_⟩
  have k5:=k8.newS np hp s5
  have hT5:=hT4.same s5
  have hU5:=hU4.same s5
  clear k8 hT4 hU4 w4 l4 hS4 s5 np
  refine⟨_,rfl,_,rfl,p,_,rfl,.inl (SqL.of hp),fun qa nqa=>?_⟩
  have s6:=Same.new (o:=.lst (natV ts)) nqa
  have k6:=k5.new nqa (.lst (natV ts))
  have n6:NoT ([(qa,.lst (natV ts))]::[(p,.lst (natV ts))]::N):=n8.lst.lst
  refine⟨ha,qa,W,ts,_,rfl,k6,n6,(fun H' k=>⟨(back8 H' k.tl.tl).1,k.get 0 0 rfl rfl⟩),ok,tin,(by omega),hT5.same s6,hU5.same s6,nePP,fun o H7 L0=>?_⟩
  have L:=L0.ow.less.less
  clear L0 k5 k6 n6 hT5 hU5 s6 hp nqa
  refine⟨_,rfl,ha,20,W,_,rfl,L.hc,noT_own n8,(fun H' k=>(back8 H' k.drop).1),ok,L.dr,by decide,fun R D1 ea evv H8 rn co k8 le pe tp hT8 l30=>?_⟩
  have hU8:UpT Pu H8:=LamT.tp L.up tp (Ne.symm nePP)
  have f8:OwnF W ts.length H8 o (W.oa.go ts):=L.fo.via (fun _ _ h=>h.tp tp) (zI _)
  have cb:Cf W (W.oaR 20 R):=run_cf ok (by decide) rn co
  obtain⟨_,c2',ag⟩:=go_new ok cb tin
  have lev:R.ev.length=W.st.length:=co.l2
  have lpe:=pe.length
  clear L
  generalize W.oa.go ts=A at f8 c2' ag
  obtain⟨_,w8,l8,hS8⟩:=back8 H8 k8.tl.tl.drop
  refine⟨_,rfl,⟨_,_,_,_,rfl,rfl,SqT.of w8,(atI_nat (j:=0) rfl),sa,_,rfl,.inl (SqL.of l8.hs),?_⟩⟩
  rw[ls]
  refine⟨_,rfl,by rw[p62]; omega,by rw[p62]; omega,?_⟩
  have k8':Hc H8 (ownCs cs C o++([(D1,.lst (ea.map V.ref))]::liC ea evv::N)):=hc_cnt k8 fun c=>by
   simp only [qJ,yH,jK]
   omega
  refine for_range (n:=((W.st.length:Nat):Int).toNat) (fun i σ H9=>∃ v6:Option V,σ=[some (.ref a),some (.ref wa),some (.ref ha),some (.ref p),some (.ref o.x),some (.ref D1),v6,none,none]∧Same H8 H9) ⟨_,rfl,Same.refl _⟩ ?_ ?_
  ·rintro i σ H9 hi ⟨v6,rfl,s9⟩
   rw[qD]
   have k9:=k8'.same s9
   have e1:=f8.ns
   have lgv:=f8.ok.lgv
   obtain⟨gs,hgs⟩:∃ gs,o.gv[i]?=some gs:=⟨o.gv[i]'(by omega),zB _⟩
   obtain⟨ge,hge,pge⟩:=f8.is.e.g.gt hgs
   have lge:=f8.ao.lg ge (zE hge)
   obtain⟨us,hus⟩:∃ us,evv[i]?=some us:=⟨evv[i]'(by omega),zB _⟩
   obtain⟨a0,ha0⟩:∃ a,ea[i]?=some a:=⟨ea[i]'(by omega),zB _⟩
   obtain⟨ds,hds,pds⟩:=pe.gt hus
   have bo:=bg_of (begin_at ok c2'.cf cb ag.symm (s:=i) (by omega))
   rw[zA,zA,hge,hds] at bo
   replace bo:BgOk 20 ge ds:=bo
   have gD:=s9 _ _ (k8.get 0 0 rfl rfl)
   have hl0:=s9 _ _ (k8.get 1 i rfl (li_cell ha0 hus))
   refine⟨_,rfl,o.x,o.dx,o.flds,rfl,k9.get 0 0 rfl rfl,f_m (by decide +kernel),_,rfl,o,_,i,gs,rfl,k9,f8.ok,hgs,fun p2 n2=>?_⟩
   have s2:=Same.new (o:=.lst gs) n2
   have g2:=upd_same (H:=H9) (a:=p2) (o:=.lst gs)
   generalize upd H9 p2 (.lst gs)=HB at s2 g2 ⊢
   have S2:=s9.trans s2
   refine⟨_,rfl,_,rfl,⟨_,_,_,_,rfl,rfl,SqL.of (s2 _ _ gD),atI_nat (refs_at ha0),?_⟩⟩
   refine⟨p2,a0,gs,us,ge,ds,20,rfl,g2,pairedMono (fun _ _=>IsTri.same S2) pge,s2 _ _ hl0,pairedMono (fun _ _=>IsTri.same S2) pds,(by omega),bo,fun HC sC=>⟨_,rfl,iteF ?_⟩⟩
   exact⟨_,rfl,S2.trans sC⟩
  rintro σ H9 ⟨v6,rfl,s9⟩
  have k9:Hc H9 ([(D1,.lst (ea.map V.ref))]::liC ea evv::N):=(k8'.same s9).drop
  have hT9:=hT8.same s9
  have hU9:=hU8.same s9
  have pe9:=pairedMono (fun _ _ h=>pairedMono (fun _ _=>IsTri.same s9) h) pe
  clear k8 k8' hT8 hU8 pe f8 c2' ag w8 l8 hS8 s9
  obtain⟨_,_,_,hS9⟩:=back8 H9 k9.tl.tl
  refine⟨_,rfl,a,ns,0,rfl,hS9,by decide,fun r0=>⟨_,_,rfl,rfl,⟨by decide,by decide⟩,_,_,rfl,rfl,(show(0:Int) < 10 by decide),?_⟩⟩
  have u0:0≤r0 / 4200 % 10:=by omega
  have u9:r0 / 4200 % 10≤9:=by omega
  generalize r0 / 4200 % 10=u at u0 u9 ⊢
  have n9:NoT ([(D1,.lst (ea.map V.ref))]::liC ea evv::N):=(n8.cons (noT_li ea evv)).lst
  refine⟨_,rfl,_,rfl,ha,W,_,u,rfl,k9,n9,(fun H' k=>(back8 H' k.tl.tl).1),ok,u0,(by omega),hT9,hU9,nePP,fun t D bs rv r H10 sx k10 lb pr hT10 hU10 tr=>?_⟩
  have pe10:=pairedMono (fun _ _ h=>pairedMono (fun _ _ h=>tr _ _ h) h) pe9
  clear k9 hT9 hU9 pe9 hS9 tr
  have ht:=k10.get 0 0 rfl rfl
  refine⟨_,rfl,_,"tuple",_,true,rfl,.tup ht,tt_,_,rfl,iteF ?_⟩
  refine⟨_,rfl,t,_,rfl,.inr (SqT.of ht),rfl,_,rfl,iteF ?_⟩
  obtain⟨w1,w2,w3,_⟩:=back8 H10 k10.tl.tl.tl.tl.tl
  have d1:Dt K H10 3 (.ref ha) W.d:=w1.dt ok.sta
  refine⟨_,rfl,_,rfl,W.d,W.d,3,d1,(show WkAt H10 wa W from⟨sa,ba,fa,xs,ys,zs,w2,w3⟩).dt ok.sta,by decide,_,rfl,?_⟩
  rw[SeqAt.eqv_refl _ d1.can]
  refine iteF ?_
  clear d1 w1 w2 w3
  refine⟨_,rfl,⟨_,_,_,_,rfl,rfl,SqT.of ht,(atI_nat (j:=0) rfl),?_⟩⟩
  have n10:NoT ([(t,.tup [.ref D,.int (r:Int)])]::[(D,.lst (bs.map V.ref))]::liC bs rv::[(D1,.lst (ea.map V.ref))]::liC ea evv::N):=((n9.cons (noT_li bs rv)).lst).one fun _ z=>nomatch z
  refine⟨_,rfl,_,rfl,ha,u,W,_,rfl,k10,n10,(fun H' k=>(back8 H' k.tl.tl.tl.tl.tl).1),ok,hT10,(by omega),fun R2 D5 ea5 evv5 H11 rn5 co5 k11 le5 pe5 tp5 hT11 l305=>?_⟩
  have pr11:=pairedMono (fun _ _ h=>pairedMono (fun _ _ h=>IsTri.tp tp5 h) h) pr
  have pe11:=pairedMono (fun _ _ h=>pairedMono (fun _ _ h=>IsTri.tp tp5 h) h) pe10
  have cA:∀ c ∈ liC bs rv,H11 c.1=some c.2:=fun c hc=>k11.2 c (qN.mpr ⟨_,zE (i:=4) rfl,hc⟩)
  have cB:∀ c ∈ liC ea5 evv5,H11 c.1=some c.2:=fun c hc=>k11.2 c (qN.mpr ⟨_,zE (i:=1) rfl,hc⟩)
  have eA:(W.oa.rnds W.st.length r).upT u W.st.length=R2.ev:=rows_eq co5.l2 fun s hs=>set_is ok u0 rn5 co5 sx.em hs
  rw[eA] at pr11
  have dA:=dt_list3 (K:=K) (k11.get 3 0 rfl rfl) cA lb pr11
  have dB:=dt_list3 (K:=K) (k11.get 0 0 rfl rfl) cB le5 pe5
  refine⟨_,_,3,dA,dB,by decide,?_⟩
  rw[SeqAt.eqv_refl _ dA.can]
  refine⟨true,rfl,iteT ?_⟩
  clear dA cA pr11 pr pe10 k10 hT10 hU10 ht n10 eA tp5 hT11
  have hD1:=k11.get 5 0 rfl rfl
  have cE:∀ c ∈ liC ea evv,H11 c.1=some c.2:=fun c hc=>k11.2 c (qN.mpr ⟨_,zE (i:=6) rfl,hc⟩)
  refine⟨_,rfl,D1,rfl,⟨_,SqL.of hD1⟩,fun D2 nD2=>?_⟩
  refine comp_list (a:=D1) (xs:=ea.map V.ref) (fun i H12=>∃(bs2:List Addr) (rv2:List (List V)),Same H11 H12∧Hc H12 ([(D2,.lst (bs2.map V.ref))]::[liC bs2 rv2])∧bs2.length=rv2.length∧rv2.length=i∧Paired (fun us ts=>Paired (IsTri H12) us ts) rv2 ((R.ev.take i).map fun l=>l.filter (upTo u))) ⟨[],[],Same.new nD2,(Hc.nil.pad).new nD2 (.lst []),rfl,rfl,.nil⟩ (fun i H12 _ ⟨_,_,s12,_⟩=>SqL.of (s12 _ _ hD1)) ?_ ?_
  ·rintro i x H12 m' Wf hx ⟨bs2,rv2,s12,k12,lb2,lr2,pr2⟩ nx
   rw[zF] at hx
   obtain⟨a0,ha0,rfl⟩:=yQ.mp hx
   have li:=(zC.mp ha0).1
   obtain⟨us,hus⟩:∃ us,evv[i]?=some us:=⟨evv[i]'(by omega),zB _⟩
   obtain⟨ds,hds,pds⟩:=pe11.gt hus
   have lus:=l30 us (zE hus)
   have lds:=pds.length
   have hl0:=s12 _ _ (cE _ (zE (li_cell ha0 hus)))
   refine⟨_,rfl,a0,rfl,⟨_,SqL.of hl0⟩,fun E2 nE2=>?_⟩
   have pd12:=pairedMono (fun _ _=>IsTri.same s12) pds
   refine comp_list (a:=a0) (xs:=us) (fun j H6=>∃ vs,Same H12 H6∧H6 E2=some (.lst vs)∧Paired (IsTri H6) vs ((ds.take j).filter (upTo u))) ⟨[],Same.new nE2,upd_same,.nil⟩ (fun j H6 _ ⟨_,s6,_⟩=>SqL.of (s6 _ _ hl0)) ?_ ?_
   ·rintro j x H6 m'' Wf' hx ⟨vs,s6,h6,p6⟩ nx'
    obtain⟨e,he,pe',rfl,hpe⟩:=pd12.gt hx
    have lv:=p6.length
    have lf:=qF (upTo u) (ds.take j)
    rw[yA] at lf
    refine⟨_,rfl,⟨_,_,_,_,rfl,rfl,SqT.of (s6 _ _ hpe),(atI_nat (j:=0) rfl),_,rfl,_,_,rfl,rfl,_,rfl,?_⟩⟩
    have tk:=take_1 he
    by_cases hh:e.1≤u
    ·rw[decide_eq_true hh]
     refine iteT ⟨_,rfl,_,h6,small90 (by omega),nx' _ ⟨vs++[.ref pe'],s6.upd nE2,upd_same,?_⟩⟩
     rw[tk,zN,z6 (show upTo u e=true from decide_eq_true hh),yL]
     exact paired_app (pairedMono (fun _ _ h=>h.keep h6) p6) (.cons (IsTri.keep h6 ⟨pe',rfl,s6 _ _ hpe⟩) .nil)
    ·rw[decide_eq_false hh]
     refine iteF (nx' _ ⟨vs,s6,h6,?_⟩)
     rw[tk,zN,yB (show ¬ upTo u e=true from fun z=>hh (of_decide_eq_true z)),yL,zP]
     exact p6
   ·rintro H6 ⟨vs,s6,h6,p6⟩
    rw[lds,yD] at p6
    have k13:=k12.newS nE2 h6 s6
    have gD:=k13.get 1 0 rfl rfl
    have k14:=k13.put 1 0 rfl rfl (.lst (bs2.map V.ref++[.ref E2]))
    have tk:Tk H6 (upd H6 D2 (.lst (bs2.map V.ref++[.ref E2]))):=(Tk.of (Same.refl _)).put gD (fun z=>z)
    refine⟨_,gD,small1000 (by rw[zD]; omega),nx _ ⟨bs2++[E2],rv2++[vs],(s12.trans s6).upd nD2,?_,by rw[zM,zM,lb2]; rfl,by rw[zM,lr2]; rfl,?_⟩⟩
    ·rw[zL,liC_snoc lb2]
     refine hc_cnt k14 fun c=>?_
     simp only [List.set,qJ,yH,jK,yG,qX]
     omega
    ·rw[take_1 hds,zL]
     exact paired_app (pairedMono (fun _ _ h=>pairedMono (fun _ _ h=>IsTri.tk tk (IsTri.same s6 h)) h) pr2) (.cons (pairedMono (fun _ _ h=>IsTri.tk tk h) p6) .nil)
  ·rintro H12 ⟨bs2,rv2,s12,k12,lb2,lr2,pr2⟩
   rw[zD,vA (by omega)] at pr2
   have eR:(R.ev.map fun l=>l.filter (upTo u))=R2.ev:=by
    refine qT fun i=>?_
    rw[zF]
    by_cases z:i < W.st.length
    ·have e1:=run_cut ok u0 (show u≤20 by omega) rn5 co5 rn co z
     have l2:=co5.l2
     rw[zA,zA,zB (by omega),zB (by omega)] at e1
     rw[zB (by omega),zB (by omega)]
     exact congrArg some e1
    ·have l2:=co5.l2
     rw[yE (by omega),yE (by omega)]
     rfl
   rw[eR] at pr2
   have c2':∀ c ∈ liC bs2 rv2,H12 c.1=some c.2:=fun c hc=>k12.2 c (qN.mpr ⟨_,zE (i:=1) rfl,hc⟩)
   have dC:=dt_list3 (K:=K) (k12.get 0 0 rfl rfl) c2' lb2 pr2
   have dB':=Oc.Dt.same s12 dB
   refine⟨_,_,3,dB',dC,by decide,?_⟩
   rw[SeqAt.eqv_refl _ dC.can]
   exact q _
end
end Oc
namespace Oc
open PySem L2
inductive FnF (K:PySem.W.Frag) (s:Stmt) (m q:Str) (f:Addr) (cd:Value):Prop where
 | mk {oc:Value} {od an:Option Addr} {sl:Array (Option Value)} {kV dc pm ct:Value} (l:K.lookup f=some ⟨oc,od,.func (PySem.W.fnOf m q (defArgs s) (defBody s) (defScope s) .none kV dc pm an cd ct),sl⟩) (c:PySem.W.codeIn K cd q=true) (k:PySem.W.keepIn K (.ref f)=true):FnF K s m q f cd
theorem FnF.fn {K:PySem.W.Frag} {s:Stmt} {m q:Str} {f:Addr} {cd:Value} (h:FnF K s m q f cd):∃ fd,Fun K m q s f fd∧PySem.W.keepIn K (.ref f)=true∧fd.code=cd:=by
 obtain⟨l,c,k⟩:=h
 exact⟨_,fun_mk l c k,k,rfl⟩
def MtF (K:PySem.W.Frag) (C:Addr) (m:Str) (f:Addr):Prop:=PySem.W.findIn K (.ref C) m=some (some (.ref f))∧PySem.W.isFn K (.ref f)=true
set_option hygiene false in
local macro_rules | `(tactic| injections) => `(tactic| (intro _ _ _ _ _ _ us hl; first | (obtain ⟨_, rfl⟩ := len1 hl; rfl) | (obtain ⟨_, _, rfl⟩ := len2 hl; rfl) | (obtain ⟨_, _, _, rfl⟩ := len3 hl; rfl) | (obtain ⟨_, _, _, _, rfl⟩ := len4 hl; rfl) | (obtain ⟨_, _, _, _, _, rfl⟩ := len5 hl; rfl)))
theorem all_mk {l:PySem.W.OpenLaw} {w:World} {K:PySem.W.Frag} {h:Heap} {mg:Str→Option Value} {fa ai ae ad aa ab ah C_Own oe g_ mx aj aH al aR cT bX aI a8 aM bW cF nG bV bu dH hE bB dG bg eE a9 aF aB aS fN jx eF c7 i4 f_run bv c5 aZ c6 cR bT dF i9 ma eM bU gX f_law:Addr} (X:K.In h) (G:h.Ns mainGlobals mg) (hfa:mg "law"=some (.ref fa))
  {px qf od_law an_law:Option Addr} {pi sl_law:Array (Option Value)} {pQ lF n_ bJ dJ bF cG gw fM bL dS cq dX gm mi eK dU iN kr dP hV aX iZ dM bz aY cH je pA pR qd pG me qm iV gE ni rT dL gL dR gk f_ fw iL mz oQ jf fH k_ oc_law kV_law dc_law pm_law cd_law ct_law cg:Value} {tkD:Tok} {cD PD cU PU:Addr}
  (kc:PySem.W.nsIn K mainGlobals "Station"=some (some (.ref ai)))
  (nS:PySem.W.nsIn K mainGlobals "Relay"=some (some (.ref ae)))
  (mS:PySem.W.nsIn K mainGlobals "Sorter"=some (some (.ref ad)))
  (kh:PySem.W.nsIn K mainGlobals "Thinner"=some (some (.ref aa)))
  (m6:PySem.W.nsIn K mainGlobals "Joiner"=some (some (.ref ab)))
  (pS:PySem.W.nsIn K mainGlobals "Sink"=some (some (.ref ah)))
  (rL:PySem.W.nsIn K mainGlobals "Own"=some (some (.ref C_Own)))
  (rQ:PySem.W.nsIn K mainGlobals "ways"=some (some (.ref oe)))
  (rN:FnF K (top 3) "ways" "ways" oe pQ)
  (nu:PySem.W.nsIn K mainGlobals "leaving"=some (some (.ref g_)))
  (mK:FnF K (top 6) "leaving" "leaving" g_ lF)
  (pj:PySem.W.nsIn K mainGlobals "sides"=some (some (.ref mx)))
  (pH:FnF K (top 7) "sides" "sides" mx n_)
  (cw:MtF K ai "__init__" aj)
  (cC:FnF K (inClass (top 9) 0) "__init__" "Station.__init__" aj bJ)
  (fk:MtF K ai "take" aH)
  (fG:FnF K (inClass (top 9) 1) "take" "Station.take" aH dJ)
  (cy:MtF K ai "on_first" al)
  (b_:FnF K (inClass (top 9) 2) "on_first" "Station.on_first" al bF)
  (dm:MtF K ae "__init__" aR)
  (du:FnF K (inClass (top 10) 0) "__init__" "Relay.__init__" aR cG)
  (iH:MtF K ae "take" cT)
  (io:FnF K (inClass (top 10) 1) "take" "Relay.take" cT gw)
  (gu:MtF K ad "take" bX)
  (gO:FnF K (inClass (top 11) 0) "take" "Sorter.take" bX fM)
  (bY:MtF K aa "__init__" aI)
  (b9:FnF K (inClass (top 12) 0) "__init__" "Thinner.__init__" aI bL)
  (fq:MtF K aa "take" a8)
  (fu:FnF K (inClass (top 12) 1) "take" "Thinner.take" a8 dS)
  (cQ:MtF K ab "__init__" aM)
  (cM:FnF K (inClass (top 13) 0) "__init__" "Joiner.__init__" aM cq)
  (gd:MtF K ab "take" bW)
  (gU:FnF K (inClass (top 13) 1) "take" "Joiner.take" bW dX)
  (iw:PySem.W.nsIn K mainGlobals "station_of"=some (some (.ref cF)))
  (ig:FnF K (top 15) "station_of" "station_of" cF gm)
  (rV:PySem.W.nsIn K mainGlobals "door"=some (some (.ref nG)))
  (rj:FnF K (top 4) "door" "door" nG mi)
  (gp:PySem.W.nsIn K mainGlobals "door_events"=some (some (.ref bV)))
  (gR:FnF K (top 5) "door_events" "door_events" bV eK)
  (f6:MtF K C_Own "__init__" bu)
  (eX:FnF K (inClass (top 17) 0) "__init__" "Own.__init__" bu dU)
  (iW:MtF K C_Own "taken" dH)
  (i6:FnF K (inClass (top 17) 1) "taken" "Own.taken" dH iN)
  (mD:MtF K C_Own "row" hE)
  (mV:FnF K (inClass (top 17) 6) "row" "Own.row" hE kr)
  (eT:MtF K C_Own "earliest" bB)
  (dY:FnF K (inClass (top 17) 7) "earliest" "Own.earliest" bB dP)
  (i5:MtF K C_Own "clock" dG)
  (ja:FnF K (inClass (top 17) 4) "clock" "Own.clock" dG hV)
  (d7:MtF K C_Own "upcoming" bg)
  (eV:FnF K (inClass (top 17) 8) "upcoming" "Own.upcoming" bg aX)
  (lL:MtF K C_Own "lets" eE)
  (jz:FnF K (inClass (top 17) 10) "lets" "Own.lets" eE iZ)
  (d5:MtF K C_Own "may_take" a9)
  (eG:FnF K (inClass (top 17) 9) "may_take" "Own.may_take" a9 dM)
  (bE:MtF K C_Own "raise_promise" aF)
  (bH:FnF K (inClass (top 17) 13) "raise_promise" "Own.raise_promise" aF bz)
  (bi:MtF K C_Own "raise_promises" aB)
  (bC:FnF K (inClass (top 17) 12) "raise_promises" "Own.raise_promises" aB aY)
  (dj:MtF K C_Own "take_event" aS)
  (dy:FnF K (inClass (top 17) 11) "take_event" "Own.take_event" aS cH)
  (lT:MtF K C_Own "step" fN)
  (lW:FnF K (inClass (top 17) 5) "step" "Own.step" fN je)
  (rB:PySem.W.nsIn K mainGlobals "rank"=some (some (.ref jx)))
  (nQ:K.lookup jx=some ⟨pA,px,.func (PySem.W.fnOf "rank" "rank" (defArgs (top 28)) (defBody (top 28)) (defScope (top 28)) .none pR qd pG qf me qm),pi⟩)
  (nZ:PySem.W.codeIn K me "rank"=true)
  (r6:PySem.W.keepIn K (.ref jx)=true)
  (lI:PySem.W.nsIn K mainGlobals "at_doors"=some (some (.ref eF)))
  (jw:FnF K (top 26) "at_doors" "at_doors" eF iV)
  (h_:PySem.W.nsIn K mainGlobals "arrival_of"=some (some (.ref c7)))
  (iA:FnF K (top 27) "arrival_of" "arrival_of" c7 gE)
  (oJ:PySem.W.nsIn K mainGlobals "traced"=some (some (.ref i4)))
  (nL:FnF K (top 29) "traced" "traced" i4 ni)
  (a_run:PySem.W.nsIn K mainGlobals "run"=some (some (.ref f_run)))
  (x_run:FnF K (top 30) "run" "run" f_run rT)
  (fY:PySem.W.nsIn K mainGlobals "_law_cell_at"=some (some (.ref bv)))
  (d6:FnF K (top 32) "_law_cell_at" "_law_cell_at" bv dL)
  (iz:PySem.W.nsIn K mainGlobals "_law_mixed"=some (some (.ref c5)))
  (hZ:FnF K (top 33) "_law_mixed" "_law_mixed" c5 gL)
  (eL:PySem.W.nsIn K mainGlobals "_law_station"=some (some (.ref aZ)))
  (fL:FnF K (top 34) "_law_station" "_law_station" aZ dR)
  (iI:PySem.W.nsIn K mainGlobals "_law_works"=some (some (.ref c6)))
  (iP:FnF K (top 35) "_law_works" "_law_works" c6 gk)
  (ii:PySem.W.nsIn K mainGlobals "_law_turns"=some (some (.ref cR)))
  (im:FnF K (top 36) "_law_turns" "_law_turns" cR f_)
  (f9:PySem.W.nsIn K mainGlobals "_law_begins"=some (some (.ref bT)))
  (gJ:FnF K (top 37) "_law_begins" "_law_begins" bT fw)
  (jb:PySem.W.nsIn K mainGlobals "is_behind"=some (some (.ref dF)))
  (iU:FnF K (top 20) "is_behind" "is_behind" dF iL)
  (oU:PySem.W.nsIn K mainGlobals "behind"=some (some (.ref i9)))
  (oM:FnF K (top 21) "behind" "behind" i9 mz)
  (qk:PySem.W.nsIn K mainGlobals "woven"=some (some (.ref ma)))
  (qb:FnF K (top 19) "woven" "woven" ma oQ)
  (lU:PySem.W.nsIn K mainGlobals "go_round"=some (some (.ref eM)))
  (lS:FnF K (top 22) "go_round" "go_round" eM jf)
  (gA:PySem.W.nsIn K mainGlobals "taken_until"=some (some (.ref bU)))
  (gB:FnF K (top 23) "taken_until" "taken_until" bU fH)
  (nr:PySem.W.nsIn K mainGlobals "settled"=some (some (.ref gX)))
  (m8:FnF K (top 24) "settled" "settled" gX k_)
  (a_law:PySem.W.nsIn K mainGlobals "law"=some (some (.ref f_law)))
  (l_law:K.lookup f_law=some ⟨oc_law,od_law,.func (PySem.W.fnOf "law" "law" (defArgs (top 38)) (defBody (top 38)) (defScope (top 38)) .none kV_law dc_law pm_law an_law cd_law ct_law),sl_law⟩)
  (c_law:PySem.W.codeIn K cd_law "law"=true)
  (k_law:PySem.W.keepIn K (.ref f_law)=true)
  (dg:PySem.W.findIn K (.ref ae) "on_first"=some (some (.ref al)))
  (cz:PySem.W.findIn K (.ref aa) "on_first"=some (some (.ref al)))
  (c3:PySem.W.findIn K (.ref ab) "on_first"=some (some (.ref al)))
  (cK:PySem.W.findIn K (.ref ad) "__init__"=some (some (.ref aj)))
  (dO:PySem.W.findIn K (.ref ah) "__init__"=some (some (.ref aj)))
  (i7:PySem.W.findIn K (.ref ah) "take"=some (some (.ref aH)))
  (ky:PySem.W.specialIn K (.ref ai) "__getattribute__"=some (some (.builtin "type.__getattribute__")))
  (rK:PySem.W.typeIn K (.ref ai)=some cg)
  (kx:PySem.W.readsIn K ai cg=true)
  (bM:PySem.W.findCls K (.ref ai) cg "__init__"=some (.val (.ref aj)))
  (lQ:PySem.W.plainGet K ai Str.empty=true)
  (kg:PySem.W.hasDictIn K ai=true)
  (kt:PySem.W.plainOver K ai=true)
  (ku:PySem.W.findIn K (.ref ai) "__setattr__"=some (some (.builtin "object.__setattr__")))
  (rD:PySem.W.makesIn K ai=true)
  (rz:PySem.W.keepIn K (.ref ai)=true)
  (oE:PySem.W.findIn K (.ref ai) "ways"=some none)
  (nv:PySem.W.findIn K (.ref ai) "belts"=some none)
  (oH:PySem.W.plainGet K ae Str.empty=true)
  (oj:PySem.W.hasDictIn K ae=true)
  (oK:PySem.W.plainOver K ae=true)
  (ou:PySem.W.findIn K (.ref ae) "__setattr__"=some (some (.builtin "object.__setattr__")))
  (oN:PySem.W.makesIn K ae=true)
  (ox:PySem.W.keepIn K (.ref ae)=true)
  (iy:PySem.W.findIn K (.ref ae) "ways"=some none)
  (gM:PySem.W.findIn K (.ref ae) "belts"=some none)
  (iK:PySem.W.findIn K (.ref ae) "more"=some none)
  (mC:PySem.W.plainGet K ad Str.empty=true)
  (mW:PySem.W.hasDictIn K ad=true)
  (mP:PySem.W.plainOver K ad=true)
  (m7:PySem.W.findIn K (.ref ad) "__setattr__"=some (some (.builtin "object.__setattr__")))
  (mO:PySem.W.makesIn K ad=true)
  (mY:PySem.W.keepIn K (.ref ad)=true)
  (gN:PySem.W.findIn K (.ref ad) "ways"=some none)
  (d3:PySem.W.findIn K (.ref ad) "belts"=some none)
  (lH:PySem.W.plainGet K aa Str.empty=true)
  (jy:PySem.W.hasDictIn K aa=true)
  (kf:PySem.W.plainOver K aa=true)
  (lY:PySem.W.findIn K (.ref aa) "__setattr__"=some (some (.builtin "object.__setattr__")))
  (lR:PySem.W.makesIn K aa=true)
  (lK:PySem.W.keepIn K (.ref aa)=true)
  (fv:PySem.W.findIn K (.ref aa) "ways"=some none)
  (dN:PySem.W.findIn K (.ref aa) "belts"=some none)
  (dQ:PySem.W.findIn K (.ref aa) "every"=some none)
  (fZ:PySem.W.findIn K (.ref aa) "seen"=some none)
  (mF:PySem.W.plainGet K ab Str.empty=true)
  (nh:PySem.W.hasDictIn K ab=true)
  (mH:PySem.W.plainOver K ab=true)
  (m4:PySem.W.findIn K (.ref ab) "__setattr__"=some (some (.builtin "object.__setattr__")))
  (mE:PySem.W.makesIn K ab=true)
  (mZ:PySem.W.keepIn K (.ref ab)=true)
  (gH:PySem.W.findIn K (.ref ab) "ways"=some none)
  (fz:PySem.W.findIn K (.ref ab) "belts"=some none)
  (gy:PySem.W.findIn K (.ref ab) "kept"=some none)
  (pI:PySem.W.plainGet K ah Str.empty=true)
  (pz:PySem.W.hasDictIn K ah=true)
  (qh:PySem.W.plainOver K ah=true)
  (pM:PySem.W.findIn K (.ref ah) "__setattr__"=some (some (.builtin "object.__setattr__")))
  (p9:PySem.W.makesIn K ah=true)
  (pF:PySem.W.keepIn K (.ref ah)=true)
  (jh:PySem.W.findIn K (.ref ah) "ways"=some none)
  (iG:PySem.W.findIn K (.ref ah) "belts"=some none)
  (rA:PySem.W.plainGet K C_Own Str.empty=true)
  (rq:PySem.W.hasDictIn K C_Own=true)
  (rY:PySem.W.plainOver K C_Own=true)
  (rG:PySem.W.findIn K (.ref C_Own) "__setattr__"=some (some (.builtin "object.__setattr__")))
  (q_:PySem.W.makesIn K C_Own=true)
  (qy:PySem.W.keepIn K (.ref C_Own)=true)
  (d8:PySem.W.findIn K (.ref C_Own) "stations"=some none)
  (ia:PySem.W.findIn K (.ref C_Own) "delays"=some none)
  (iS:PySem.W.findIn K (.ref C_Own) "doors"=some none)
  (lz:PySem.W.findIn K (.ref C_Own) "rows"=some none)
  (fg:PySem.W.findIn K (.ref C_Own) "promises"=some none)
  (j_:PySem.W.findIn K (.ref C_Own) "logs"=some none)
  (aD_:PySem.W.nsIn K mainGlobals "DOOR"=some (some (.int (-1) tkD)))
  (cd_is:mi=.ref cD)
  (cu_is:aX=.ref cU)
  (tt_:PySem.W.kitOne K (.type "tuple") (.type "tuple")=some true)
  (ll_:PySem.W.kitOne K (.type "list") (.type "list")=some true)
  (z_tuple:PySem.W.nsIn K mainGlobals "tuple"=some none)
  (z_len:PySem.W.nsIn K mainGlobals "len"=some none)
  (z_range:PySem.W.nsIn K mainGlobals "range"=some none)
  (z_list:PySem.W.nsIn K mainGlobals "list"=some none)
  (z_isinstance:PySem.W.nsIn K mainGlobals "isinstance"=some none)
  (z_bool:PySem.W.nsIn K mainGlobals "bool"=some none)
  (z_int:PySem.W.nsIn K mainGlobals "int"=some none)
  (z_any:PySem.W.nsIn K mainGlobals "any"=some none)
  (z_min:PySem.W.nsIn K mainGlobals "min"=some none)
  (z_enumerate:PySem.W.nsIn K mainGlobals "enumerate"=some none)
  (z_sorted:PySem.W.nsIn K mainGlobals "sorted"=some none)
  (z_sum:PySem.W.nsIn K mainGlobals "sum"=some none)
  (z_all:PySem.W.nsIn K mainGlobals "all"=some none) :
  ∃ fd:FuncData,(∀(s:Shared) (v:Value),BindsTo s fd ⟨[v],[]⟩ [("script",v)])∧∀ base:Heap,K.In base→base.Ns mainGlobals mg→Tab K mg base cD PD→Tab K mg base cU PU→FnOk l.prog w K mg base CX0 8 fa fd ["script"] (spLaw PD PU K):=by
 have e:=hfa.symm.trans (PySem.W.mg_of X G a_law)
 cases e
 have T:Txt K mg:=⟨PySem.W.mg_none_of X G z_tuple,PySem.W.mg_none_of X G z_len,PySem.W.mg_none_of X G z_range,PySem.W.mg_none_of X G z_list,PySem.W.mg_none_of X G z_isinstance,PySem.W.mg_none_of X G z_bool,PySem.W.mg_none_of X G z_int,PySem.W.mg_none_of X G z_any,PySem.W.mg_none_of X G z_min,PySem.W.mg_none_of X G z_enumerate,PySem.W.mg_none_of X G z_sorted,PySem.W.mg_none_of X G z_sum,PySem.W.mg_none_of X G z_all⟩
 obtain⟨sJ,nR,rc,sH⟩:=rN.fn
 have rJ:=nR.binds (ps:=["works","station"]) (by injections)
 have qx:=PySem.W.mg_of X G rQ
 obtain⟨r_,gZ,ng,sq⟩:=mK.fn
 have nj:=gZ.binds (ps:=["works","station"]) (by injections)
 have mT:=PySem.W.mg_of X G nu
 obtain⟨sG,mw,qj,sE⟩:=pH.fn
 have pT:=mw.binds (ps:=["works","station"]) (by injections)
 have p_:=PySem.W.mg_of X G pj
 obtain⟨ju,aq,cx,kj⟩:=cC.fn
 obtain⟨lN,aJ⟩:=cw
 have ay:=aq.binds (ps:=["self","ways","belts"]) (by injections)
 obtain⟨oO,bc,fU,oi⟩:=fG.fn
 obtain⟨nV,dW⟩:=fk
 have d9:=bc.binds (ps:=["self","way","piece"]) (by injections)
 obtain⟨lq,ap,az,lO⟩:=b_.fn
 obtain⟨lc,ax⟩:=cy
 have aA:=ap.binds (ps:=["self","piece"]) (by injections)
 obtain⟨my,aP,mQ,mI⟩:=du.fn
 obtain⟨c_,c8⟩:=dm
 have di:=aP.binds (ps:=["self","ways","belts","more"]) (by injections)
 obtain⟨pU,cX,ik,pK⟩:=io.fn
 obtain⟨ie,hJ⟩:=iH
 have iO:=cX.binds (ps:=["self","way","piece"]) (by injections)
 obtain⟨o9,bO,gP,o8⟩:=gO.fn
 obtain⟨gq,gr⟩:=gu
 have gT:=bO.binds (ps:=["self","way","piece"]) (by injections)
 obtain⟨lV,aK,jv,kn⟩:=b9.fn
 obtain⟨cm,cj⟩:=bY
 have cp:=aK.binds (ps:=["self","ways","belts","every"]) (by injections)
 obtain⟨oB,a_,eD,oV⟩:=fu.fn
 obtain⟨fy,eQ⟩:=fq
 have fj:=a_.binds (ps:=["self","way","piece"]) (by injections)
 obtain⟨lZ,aL,mo,mq⟩:=cM.fn
 obtain⟨cW,cZ⟩:=cQ
 have cI:=aL.binds (ps:=["self","ways","belts"]) (by injections)
 obtain⟨o6,bR,gQ,o4⟩:=gU.fn
 obtain⟨gz,gh⟩:=gd
 have gK:=bR.binds (ps:=["self","way","piece"]) (by injections)
 obtain⟨p0,cY,iB,pL⟩:=ig.fn
 have iM:=cY.binds (ps:=["works","station"]) (by injections)
 have iC:=PySem.W.mg_of X G iw
 obtain⟨sI,oR,rg,qw⟩:=rj.fn
 replace cd_is:=qw.trans cd_is
 have rO:=oR.binds (ps:=["works","station"]) (by injections)
 have qz:=PySem.W.mg_of X G rV
 obtain⟨oY,bP,gG,o0⟩:=gR.fn
 have gx:=bP.binds (ps:=["works","station"]) (by injections)
 have f7:=PySem.W.mg_of X G gp
 obtain⟨nC,bw,nF,nJ⟩:=eX.fn
 obtain⟨d_,fx⟩:=f6
 have fQ:=bw.binds (ps:=["self","works"]) (by injections)
 obtain⟨qr,dI,ji,qt⟩:=i6.fn
 obtain⟨i_,jg⟩:=iW
 have iT:=dI.binds (ps:=["self","station"]) (by injections)
 obtain⟨sh,hG,mB,sf⟩:=mV.fn
 obtain⟨m3,mG⟩:=mD
 have mJ:=hG.binds (ps:=["self","station","way"]) (by injections)
 obtain⟨nY,bj,fK,nO⟩:=dY.fn
 obtain⟨fV,eZ⟩:=eT
 have e_:=bj.binds (ps:=["self","station","way"]) (by injections)
 obtain⟨qq,dD,jm,qu⟩:=ja.fn
 obtain⟨iY,iQ⟩:=i5
 have jj:=dD.binds (ps:=["self","station"]) (by injections)
 obtain⟨oF,bD,fm,fP⟩:=eV.fn
 obtain⟨d4,fX⟩:=d7
 replace cu_is:=fP.trans cu_is
 have eJ:=bD.binds (ps:=["self","station"]) (by injections)
 obtain⟨rH,dZ,ke,rM⟩:=jz.fn
 obtain⟨lJ,lM⟩:=lL
 have lG:=dZ.binds (ps:=["self","belt","event"]) (by injections)
 obtain⟨oS,bh,fW,ot⟩:=eG.fn
 obtain⟨eY,d2⟩:=d5
 have eW:=bh.binds (ps:=["self","station","event"]) (by injections)
 obtain⟨jr,aE,bK,jt⟩:=bH.fn
 obtain⟨bG,bI⟩:=bE
 have bN:=aE.binds (ps:=["self","belt","now"]) (by injections)
 obtain⟨iR,aC,bf,jp⟩:=bC.fn
 obtain⟨a7,bx⟩:=bi
 have bA:=aC.binds (ps:=["self","station"]) (by injections)
 obtain⟨m_,aQ,dn,nq⟩:=dy.fn
 obtain⟨dk,c9⟩:=dj
 have dh:=aQ.binds (ps:=["self","station","event"]) (by injections)
 obtain⟨rF,fI,ll,rU⟩:=lW.fn
 obtain⟨lE,lP⟩:=lT
 have ka:=fI.binds (ps:=["self","station"]) (by injections)
 have rE:=fun_mk (st:=(top 28)) nQ nZ r6
 have sK:=rE.binds (ps:=["arrival"]) (by injections)
 have rP:=PySem.W.mg_of X G rB
 obtain⟨rh,eB,kl,rR⟩:=jw.fn
 have ko:=eB.binds (ps:=["works"]) (by injections)
 have ly:=PySem.W.mg_of X G lI
 obtain⟨pw,cN,iu,qi⟩:=iA.fn
 have ib:=cN.binds (ps:=["works","put","time","cause"]) (by injections)
 have iF:=PySem.W.mg_of X G h_
 obtain⟨su,jq,oA,sA⟩:=nL.fn
 have nI:=jq.binds (ps:=["works","until"]) (by injections)
 have nA:=PySem.W.mg_of X G oJ
 obtain⟨d_run,F_run,k_run,e_run⟩:=x_run.fn
 have b_run:=F_run.binds (ps:=["works","until"]) (by injections)
 have m_run:=PySem.W.mg_of X G a_run
 obtain⟨ny,bq,fb,om⟩:=d6.fn
 have eI:=bq.binds (ps:=["script","k"]) (by injections)
 have e7:=PySem.W.mg_of X G fY
 obtain⟨pD,cJ,iJ,pZ⟩:=hZ.fn
 have h9:=cJ.binds (ps:=["cell","k"]) (by injections)
 have ij:=PySem.W.mg_of X G iz
 obtain⟨nU,bp,eP,oy⟩:=fL.fn
 have fF:=bp.binds (ps:=["cell"]) (by injections)
 have eU:=PySem.W.mg_of X G eL
 obtain⟨pE,cP,il,pO⟩:=iP.fn
 have iE:=cP.binds (ps:=["script"]) (by injections)
 have ip:=PySem.W.mg_of X G iI
 obtain⟨pX,cV,iq,pN⟩:=im.fn
 have ir:=cV.binds (ps:=["script","many"]) (by injections)
 have ic:=PySem.W.mg_of X G ii
 obtain⟨oZ,bQ,gC,o7⟩:=gJ.fn
 have gF:=bQ.binds (ps:=["taken","due","until"]) (by injections)
 have gc:=PySem.W.mg_of X G f9
 obtain⟨qo,dz,jc,qp⟩:=iU.fn
 have i8:=dz.binds (ps:=["own","station","until"]) (by injections)
 have jl:=PySem.W.mg_of X G jb
 obtain⟨sy,jo,oz,sB⟩:=oM.fn
 have oq:=jo.binds (ps:=["own","works","until"]) (by injections)
 have oP:=PySem.W.mg_of X G oU
 obtain⟨sF,mf,qc,sD⟩:=qb.fn
 have pJ:=mf.binds (ps:=["works","turns"]) (by injections)
 have qe:=PySem.W.mg_of X G qk
 obtain⟨rZ,ff,lB,rm⟩:=lS.fn
 have lC:=ff.binds (ps:=["own","works"]) (by injections)
 have kq:=PySem.W.mg_of X G lU
 obtain⟨o_,bS,gf,ph⟩:=gB.fn
 have gb:=bS.binds (ps:=["own","station","until"]) (by injections)
 have gn:=PySem.W.mg_of X G gA
 obtain⟨r9,gY,mU,sg⟩:=m8.fn
 have m5:=gY.binds (ps:=["works","until"]) (by injections)
 have mR:=PySem.W.mg_of X G nr
 have F_law:=fun_mk (st:=(top 38)) l_law c_law k_law
 have b_law:=F_law.binds (ps:=["script"]) (by injections)
 have m_law:=PySem.W.mg_of X G a_law
 have aw:=PySem.W.mg_of X G kc
 have rd:Cls K ai:=⟨lQ,kg,kt,ku⟩
 have pC:=PySem.W.mg_of X G nS
 have ei:Cls K ae:=⟨oH,oj,oK,ou⟩
 have oX:=PySem.W.mg_of X G mS
 have gW:Cls K ad:=⟨mC,mW,mP,m7⟩
 have mL:=PySem.W.mg_of X G kh
 have cn:Cls K aa:=⟨lH,jy,kf,lY⟩
 have oT:=PySem.W.mg_of X G m6
 have df:Cls K ab:=⟨mF,nh,mH,m4⟩
 have rW:=PySem.W.mg_of X G pS
 have ml:Cls K ah:=⟨pI,pz,qh,pM⟩
 have g_Own:=PySem.W.mg_of X G rL
 have aD:Cls K C_Own:=⟨rA,rq,rY,rG⟩
 refine⟨PySem.W.fnOf "law" "law" (defArgs (top 38)) (defBody (top 38)) (defScope (top 38)) .none kV_law dc_law pm_law an_law cd_law ct_law,fun s v=>.of_eq rfl,fun base _ _ tb tu=>?_⟩
 have g_DOOR:=PySem.W.mg_of X G aD_
 have c:CsOk K ⟨ae,ad,aa,ab,ah⟩:=⟨⟨⟨ei,iy,gM⟩,iK⟩,⟨gW,gN,d3⟩,⟨⟨cn,fv,dN⟩,dQ,fZ⟩,⟨⟨df,gH,fz⟩,gy⟩,⟨ml,jh,iG⟩⟩
 have L1:ClsAt l.prog w K mg base 1 ai "__init__" ["self","ways","belts"] (spStI K):=⟨⟨_,_,ok_stI aq T,⟨ky,⟨_,kx,bM⟩,cx⟩,ay⟩⟩
 have O1:MethAt l.prog w K mg base 1 ae "on_first" ["self","piece"] (spOne K):=⟨⟨_,_,ok_one ap T,⟨dg,ax,az⟩,aA⟩,ei⟩
 have O3:MethAt l.prog w K mg base 1 aa "on_first" ["self","piece"] (spOne K):=⟨⟨_,_,ok_one ap T,⟨cz,ax,az⟩,aA⟩,cn⟩
 have O4:MethAt l.prog w K mg base 1 ab "on_first" ["self","piece"] (spOne K):=⟨⟨_,_,ok_one ap T,⟨c3,ax,az⟩,aA⟩,df⟩
 have K1:MethAt l.prog w K mg base 2 ae "take" ["self","way","piece"] (spRlT ae):=⟨⟨_,_,ok_rlT cX c.rl O1,⟨ie,hJ,ik⟩,iO⟩,ei⟩
 have K2:MethAt l.prog w K mg base 1 ad "take" ["self","way","piece"] (spSrT ad):=⟨⟨_,_,ok_srT bO T c.so,⟨gq,gr,gP⟩,gT⟩,gW⟩
 have K3:MethAt l.prog w K mg base 2 aa "take" ["self","way","piece"] (spThT aa):=⟨⟨_,_,ok_thT a_ c.th O3,⟨fy,eQ,eD⟩,fj⟩,cn⟩
 have K4:MethAt l.prog w K mg base 2 ab "take" ["self","way","piece"] (spJnT ab):=⟨⟨_,_,ok_jnT bR T c.jn O4,⟨gz,gh,gQ⟩,gK⟩,df⟩
 have K5:MethAt l.prog w K mg base 1 ah "take" ["self","way","piece"] spNon:=⟨⟨_,_,ok_stT bc,⟨i7,dW,fU⟩,d9⟩,ml⟩
 have TK:=take_all (cs:=⟨ae,ad,aa,ab,ah⟩) K1 K2 K3 K4 K5
 have M1:MkAt l.prog w K mg base 2 "Relay" ae ["self","ways","belts","more"] (spRlI K):=⟨⟨_,_,ok_rlI aP aw L1,⟨oN,c_,c8,ox⟩,di⟩,pC⟩
 have M2:MkAt l.prog w K mg base 1 "Sorter" ad ["self","ways","belts"] (spStI K):=⟨⟨_,_,ok_stI aq T,⟨mO,cK,aJ,mY⟩,ay⟩,oX⟩
 have M3:MkAt l.prog w K mg base 2 "Thinner" aa ["self","ways","belts","every"] (spThI K):=⟨⟨_,_,ok_thI aK aw L1,⟨lR,cm,cj,lK⟩,cp⟩,mL⟩
 have M4:MkAt l.prog w K mg base 2 "Joiner" ab ["self","ways","belts"] (spJnI K):=⟨⟨_,_,ok_jnI aL aw L1,⟨mE,cW,cZ,mZ⟩,cI⟩,oT⟩
 have M5:MkAt l.prog w K mg base 1 "Sink" ah ["self","ways","belts"] (spStI K):=⟨⟨_,_,ok_stI aq T,⟨p9,dO,aJ,pF⟩,ay⟩,rW⟩
 have GW:FnAt l.prog w K mg base 1 "ways" ["works","station"] spWays:=⟨⟨_,_,pB nR T g_DOOR,qx,rc,rJ⟩⟩
 have GL:FnAt l.prog w K mg base 1 "leaving" ["works","station"] spLeav:=⟨⟨_,_,ok_leav gZ T,mT,ng,nj⟩⟩
 have GS:FnAt l.prog w K mg base 2 "sides" ["works","station"] spSides:=⟨⟨_,_,oG mw GW GL,p_,qj,pT⟩⟩
 have GO:FnAt l.prog w K mg base 4 "station_of" ["works","station"] (spSo ⟨ae,ad,aa,ab,ah⟩):=⟨⟨_,_,ok_so cY c GS M1 M2 M3 M4 M5,iC,iB,iM⟩⟩
 have cO:OwC K C_Own:=⟨aD,d8,ia,iS,lz,fg,j_⟩
 have lD:FnAt l.prog w K mg base 1 "door" ["works","station"] (spDoor PD):=⟨⟨_,_,pP oR cd_is tb T,qz,rg,rO⟩⟩
 have av:FnAt l.prog w K mg base 2 "door_events" ["works","station"] (spDE PD):=⟨⟨_,_,ok_de bP g_DOOR lD,f7,gG,gx⟩⟩
 have MO:MkAt l.prog w K mg base 5 "Own" C_Own ["self","works"] (spOwI K ⟨ae,ad,aa,ab,ah⟩ C_Own PD):=⟨⟨_,_,ok_owI bw T cO GO av,⟨q_,d_,fx,qy⟩,fQ⟩,g_Own⟩
 have O_taken:MethAt l.prog w K mg base 1 C_Own "taken" ["self","station"] (spTaken ⟨ae,ad,aa,ab,ah⟩ C_Own):=⟨⟨_,_,ok_taken dI T cO,⟨i_,jg,ji⟩,iT⟩,aD⟩
 have O_row:MethAt l.prog w K mg base 1 C_Own "row" ["self","station","way"] (spRow ⟨ae,ad,aa,ab,ah⟩ C_Own):=⟨⟨_,_,ok_orow hG g_DOOR cO,⟨m3,mG,mB⟩,mJ⟩,aD⟩
 have O_earliest:MethAt l.prog w K mg base 2 C_Own "earliest" ["self","station","way"] (spEar ⟨ae,ad,aa,ab,ah⟩ C_Own):=⟨⟨_,_,ok_ear bj T g_DOOR cO O_row,⟨fV,eZ,fK⟩,e_⟩,aD⟩
 have O_clock:MethAt l.prog w K mg base 3 C_Own "clock" ["self","station"] (spClk ⟨ae,ad,aa,ab,ah⟩ C_Own):=⟨⟨_,_,ok_clk dD T cO c O_earliest,⟨iY,iQ,jm⟩,jj⟩,aD⟩
 have O_upcoming:MethAt l.prog w K mg base 2 C_Own "upcoming" ["self","station"] (spUpc ⟨ae,ad,aa,ab,ah⟩ C_Own PU):=⟨⟨_,_,ok_upc bD cu_is tu T cO c O_row,⟨d4,fX,fm⟩,eJ⟩,aD⟩
 have O_lets:MethAt l.prog w K mg base 1 C_Own "lets" ["self","belt","event"] (spLets ⟨ae,ad,aa,ab,ah⟩ C_Own):=⟨⟨_,_,ok_lets dZ T cO,⟨lJ,lM,ke⟩,lG⟩,aD⟩
 have O_may_take:MethAt l.prog w K mg base 2 C_Own "may_take" ["self","station","event"] (spMay ⟨ae,ad,aa,ab,ah⟩ C_Own):=⟨⟨_,_,ok_may bh T g_DOOR cO c O_lets,⟨eY,d2,fW⟩,eW⟩,aD⟩
 have O_raise_promise:MethAt l.prog w K mg base 1 C_Own "raise_promise" ["self","belt","now"] (spRp ⟨ae,ad,aa,ab,ah⟩ C_Own):=⟨⟨_,_,ok_rp aE cO,⟨bG,bI,bK⟩,bN⟩,aD⟩
 have O_raise_promises:MethAt l.prog w K mg base 4 C_Own "raise_promises" ["self","station"] (spRps ⟨ae,ad,aa,ab,ah⟩ C_Own):=⟨⟨_,_,ok_rps aC cO c O_clock O_raise_promise,⟨a7,bx,bf⟩,bA⟩,aD⟩
 have O_take_event:MethAt l.prog w K mg base 3 C_Own "take_event" ["self","station","event"] (spTE ⟨ae,ad,aa,ab,ah⟩ C_Own):=⟨⟨_,_,ok_te aQ T cO c O_row TK,⟨dk,c9,dn⟩,dh⟩,aD⟩
 have O_step:MethAt l.prog w K mg base 5 C_Own "step" ["self","station"] (spStep ⟨ae,ad,aa,ab,ah⟩ C_Own PU):=⟨⟨_,_,ok_step fI O_upcoming O_may_take O_take_event O_raise_promises,⟨lE,lP,ll⟩,ka⟩,aD⟩
 have bZ:FnAt l.prog w K mg base 3 "at_doors" ["works"] (spAtD PD):=⟨⟨_,_,ok_atd eB T av,ly,kl,ko⟩⟩
 have aW:FnAt l.prog w K mg base 1 "arrival_of" ["works","put","time","cause"] (spArr):=⟨⟨_,_,ok_arr cN,iF,iu,ib⟩⟩
 have fc:FnAt l.prog w K mg base 5 "traced" ["works","until"] (spTr PD):=⟨⟨_,_,ok_tr jq T c GO bZ aW rP (fun A hA=>pair_fn (A:=A.in1) nQ nZ rfl rfl rfl rfl (by decide) hA rfl (fun _ _=>.of_eq rfl)) TK,nA,oA,nI⟩⟩
 have G_run:FnAt l.prog w K mg base 6 "run" ["works","until"] (spRun PD):=⟨⟨_,_,rX F_run fc,m_run,k_run,b_run⟩⟩
 have af:FnAt l.prog w K mg base 1 "_law_cell_at" ["script","k"] (spCell K):=⟨⟨_,_,ok_cell bq T,e7,fb,eI⟩⟩
 have am:FnAt l.prog w K mg base 1 "_law_mixed" ["cell","k"] (spMix):=⟨⟨_,_,ok_mix cJ,ij,iJ,h9⟩⟩
 have aG:FnAt l.prog w K mg base 1 "_law_station" ["cell"] (spSta):=⟨⟨_,_,ok_sta bp,eU,eP,fF⟩⟩
 have aT:FnAt l.prog w K mg base 2 "_law_works" ["script"] (spWks K):=⟨⟨_,_,ok_wks cP T af am aG,ip,il,iE⟩⟩
 have aU:FnAt l.prog w K mg base 2 "_law_turns" ["script","many"] (spTn K):=⟨⟨_,_,ok_tn cV T af am,ic,iq,ir⟩⟩
 have aN:FnAt l.prog w K mg base 1 "_law_begins" ["taken","due","until"] (spBg):=⟨⟨_,_,ok_bg bQ T tt_ ll_,gc,gC,gF⟩⟩
 have a6:FnAt l.prog w K mg base 4 "is_behind" ["own","station","until"] (spIb ⟨ae,ad,aa,ab,ah⟩ C_Own):=⟨⟨_,_,ok_ib dz O_clock,jl,jc,i8⟩⟩
 have fh:FnAt l.prog w K mg base 5 "behind" ["own","works","until"] (spBhd ⟨ae,ad,aa,ab,ah⟩ C_Own):=⟨⟨_,_,ok_bhd jo T a6,oP,oz,oq⟩⟩
 have iD:FnAt l.prog w K mg base 7 "woven" ["works","turns"] (spWov ⟨ae,ad,aa,ab,ah⟩ C_Own PD PU):=⟨⟨_,_,ok_wov mf MO O_step,qe,qc,pJ⟩⟩
 have cu:FnAt l.prog w K mg base 6 "go_round" ["own","works"] (spGor ⟨ae,ad,aa,ab,ah⟩ C_Own PD PU):=⟨⟨_,_,ok_gor ff T O_step,kq,lB,lC⟩⟩
 have aO:FnAt l.prog w K mg base 2 "taken_until" ["own","station","until"] (spTu ⟨ae,ad,aa,ab,ah⟩ C_Own):=⟨⟨_,_,ok_tu bS O_taken,gn,gf,gb⟩⟩
 have dw:FnAt l.prog w K mg base 7 "settled" ["works","until"] (spSet ⟨ae,ad,aa,ab,ah⟩ C_Own PD PU):=⟨⟨_,_,ok_set gY T MO fh cu aO,mR,mU,m5⟩⟩
 exact ok_law F_law T tt_ af aT aU iD G_run dw O_taken aN
def CodeIn (_:PySem.W.Frag) (_ _:Str) (_ _:Addr):Prop:=True
theorem codeIn_of {K:PySem.W.Frag} {y x:Str} {C f c P:Addr} {oc oc':Value} {od od':Option Addr} {fd:FuncData} {vs:Array Value} {sl sl':Array (Option Value)} (_:PySem.W.nsIn K mainGlobals y=some (some (.ref C))) (_:PySem.W.findIn K (.ref C) x=some (some (.ref f))) (_:K.lookup f=some ⟨oc,od,.func fd,sl⟩) (_:fd.code=.ref c)
  (_:K.lookup c=some ⟨oc',od',.fields vs,sl'⟩) (_:vs[11]?=some (.ref P)):CodeIn K y x c P:=trivial
theorem walk {l:PySem.W.OpenLaw} {q:Program} {loose:List Str} {XP:(Str→Option Value)→Heap→Prop} {YP:World→Heap→Prop} {d:DefRec} {K:Params→PySem.W.Frag} {ts:List Addr} {cD PD cU PU:Addr} (hn:l.most=some 63) (hdf:d.params.defaults=[])
  (hY:∀(w:World) (h:Heap),YP w h→(K w.params).In h) (hYt:∀(w:World) (h:Heap),YP w h→∀ P ∈ ts,h.get? P=some (PySem.W.tabObj #[]))
  (_:∀ w:World,PySem.W.tabIn (K w.params) "door"=some (cD,PD)) (_:∀ w:World,CodeIn (K w.params) "Own" "upcoming" cU PU)
  (hN1:PD ∈ ts∧∀ w:World,PySem.W.codeHdIn (K w.params) cD PD=true∧(K w.params).lookup PD=none) (hN2:PU ∈ ts∧∀ w:World,PySem.W.codeHdIn (K w.params) cU PU=true∧(K w.params).lookup PU=none) (ne:PD ≠ PU)
  (F:∀(w:World) (mg:Str→Option Value) (fa:Addr) (h:Heap),(K w.params).In h→h.Ns mainGlobals mg→mg d.name=some (.ref fa) →
   ∃ fd:FuncData,(∀(s:Shared) (u:Value),BindsTo s fd ⟨[u],[]⟩ [("script",u)])∧∀ base:Heap,(K w.params).In base→base.Ns mainGlobals mg→Tab (K w.params) mg base cD PD→Tab (K w.params) mg base cU PU→FnOk l.prog w (K w.params) mg base CX0 8 fa fd ["script"] (spLaw PD PU (K w.params))) :
  PySem.W.WalkO q loose XP YP l.row.toRowW d [] (fun f vs=>PySem.call f vs):=by
 refine Att.attach_call hn hdf fun w s₀ s₁ mg mb fa o pm cd doc a vs ns G Y ho hd hcd hmg hobj hints hlen hg=>?_
 have KX:=hY w _ Y
 obtain⟨fd,hb,hF⟩:=F w mg fa _ KX G.T.g hmg
 have mk:∀ {c P:Addr},P ∈ ts→PySem.W.codeHdIn (K w.params) c P=true→(K w.params).lookup P=none→Tab (K w.params) mg s₁.heap c P∧s₁.heap.get? P=some (PySem.W.tabObj #[])∧(K w.params).lookup P=none:=fun {c P} h1 h2 h3=>by
  have hP:=hYt w _ Y P h1
  obtain⟨bm,ob,b1,b2,b3,b4,b5,b6⟩:=G.T.bmain
  have hbP:bm ≠ P:=fun q=>by rw[q,hP] at b3; cases b3; cases b4
  have hbG:bm ≠ mainGlobals:=fun q=>by
   obtain⟨o,es,ep,e,hd,_⟩:=G.T.g
   rw[q,e] at b3; cases b3; rw[hd] at b6; cases b6
  exact⟨⟨PySem.W.codeHd_of_K KX h2,⟨bm,ob,b1,b2,hbG,hbP,b3,b4,b5,b6⟩⟩,hP,h3⟩
 refine L2.law_callT (k:=8) (x:="script") (CX:=CX0) (sp:=spLaw PD PU (K w.params)) (tabs:=[(cD,PD),(cU,PU)]) KX G.T.g G.T.b G.T.builtins G.T.nolimit hg hobj hints (z9 hlen (by decide)) ⟨rfl,by decide,by decide⟩ (fun t ht=>?_) (fun base kb nb hTb=>hF base kb nb (hTb _ zH) (hTb _ (zJ _ zH))) hb (fun H hO hS=>?_) fun H e s' z=>z
 ·rcases zS.mp ht with e|e
  ·rw[e]; exact mk hN1.1 (hN1.2 w).1 (hN1.2 w).2
  ·rw[zG.mp e]; exact mk hN2.1 (hN2.2 w).1 (hN2.2 w).2
 ·have tb:∀ P ∈ [PD,PU],H P=some (.tbl #[]):=fun P hP=>by
   rcases hO P with ⟨_,h⟩|⟨h,_⟩
   ·exact h
   ·exact absurd hP h
  exact⟨a,ns,rfl,hS,hlen,.inl (tb PD zH),.inl (tb PU (zJ _ zH)),ne,fun _=>rfl⟩
end Oc
namespace Oc
open PySem PySem.W PyProof.Rows PySem.Calls
abbrev pW:Program:=PySem.Challenge.pw_ownclocks_k33_whole_any_weaving
noncomputable def hEnv:Env:={ scope:=pW.main.scope,locals:=mainNs,globals:=mainNs,cells:=[],code:=.ref 13,frame:=some 14 }
noncomputable def hB:List Stmt:=behindTheImports pW
noncomputable def hC:Code:=.body hB hEnv
noncomputable def hF:List Frame:=[topFrame ⟨0,0,0,0⟩]
noncomputable def o11:Obj:=⟨.type "tuple",none,.seq #[] 0,#[]⟩
noncomputable def o12:Obj:=⟨.none,none,.fields #[],#[]⟩
noncomputable def o13:Obj:=⟨.type "code",none,.fields #[.str "<module>" 182,.str "<module>" 183,.str "/claim/cut.py" 184,.int 1 0,.int 0 0,.int 0 0,.int 0 0,.int 0 0,.ref 11,.bool false,.int 181 0,.ref 12,.none,.none,.none,.none,.int 185 0,.int 1 0,.str "/claim/cut.py" 186],#[]⟩
noncomputable def o14:Obj:=⟨.type "frame",none,.plain,#[some (.ref 13),some (.ref 3),some (.ref 3),none,some (.str "__main__" 164),none,some (.ref 0)]⟩
noncomputable def hT (P:Params):BT:=(.node (boot_o_0 P) (.node (boot_o_1 P) (.node (boot_o_3 P) (.node (boot_o_7 P) .nil .nil) (.node o11 .nil .nil)) (.node (boot_o_5 P) (.node (boot_o_9 P) .nil .nil) (.node o13 .nil .nil))) (.node (boot_o_2 P) (.node (boot_o_4 P) (.node (boot_o_8 P) .nil .nil) (.node o12 .nil .nil)) (.node (boot_o_6 P) (.node (boot_o_10 P) .nil .nil) (.node o14 .nil .nil))))
noncomputable def hS (w:World) (os:OsState):SharedT:=⟨hT w.params,15,(boot_heap w.params).life,#[],boot_drawn,187,os⟩
theorem h_fin (w:World) (s:SharedT) (q:Pos):topRun treeTable pW w 11 (some (.ref 6)) 2 s.abs ⟨doneF .next,hC,q,hF⟩=some s.abs:=rfl
theorem h_block (w:World) (os:OsState):segRunT treeTable pW w 11 (some (.ref 6)) 1 1 (hS w os) (blockOf hB hEnv hC ⟨0,0,0,0⟩ hF)=some (.next,hS w os,hC,⟨0,0,0,0⟩):=by
 kernel_rfl
theorem h_pre (w:World) (os:OsState):topGo treeTable pW w 11 (some (.ref 6)) 12 ⟨boot_heap w.params,#[],boot_drawn,boot_toks,os⟩ (topStub pW)=some ((hS w os).abs,⟨denote treeTable hC,hC,⟨0,0,0,0⟩,hF⟩):=by
 kernel_rfl
noncomputable def dE (P:Params) (k:Str) (t:Nat) (v:Value):DictEntry:=⟨PyData.keyHash P k,.str k t,v⟩
noncomputable def cO (nm ql:Str) (t ln ac fl:Nat) (tp:Addr) (b:Bool) (tb:Addr) (x y z:Value) (T:Nat):Obj:=⟨.type "code",none,.fields #[.str nm t,.str ql (t + 1),.str "/claim/cut.py" (t + 2),.int ln 0,.int ac 0,.int 0 0,.int 0 0,.int fl 0,.ref tp,.bool b,.int 181 0,.ref tb,.none,x,y,z,.int T 0,.int ln 0,.str "/claim/cut.py" (T + 1)],#[]⟩
noncomputable def fO (s:Stmt) (nm ql:Str) (pm cd:Value):Obj:=⟨.type "function",none,.func (fnOf nm ql (L2.defArgs s) (L2.defBody s) (L2.defScope s) .none .none .none pm none cd .none),#[]⟩
noncomputable def cL (nm:Str) (bs mr:List Value) (ns:Addr) (ql:Str) (hd:Bool) (sub:List Value):ClassData:={ name:=nm,bases:=bs,mro:=mr,ns:=ns,qualname:=ql,hasDict:=hd,subclasses:=sub }
noncomputable def hK:Params→Frag:=fun P=>(nat_lit 2,⟨.none,none,.dict #[] 0,#[]⟩) ::
 (nat_lit 3,⟨.type "dict",none,.dict #[dE P "__name__" 165 (.str "law_ownclocks_k33_whole_any_weaving" 681),dE P "__doc__" 166 (.none),dE P "__package__" 167 (.none),dE P "__loader__" 168 (.builtin "__main__.__loader__#opaque"),dE P "__spec__" 169 (.none),dE P "__annotations__" 170 (.ref 6),dE P "__builtins__" 171 (.ref 4),dE P "__file__" 173 (.str "/claim/cut.py" 172),dE P "__cached__" 174 (.none),dE P "_wall" 193 (.ref 21),dE P "DOOR" 198 (.int (-1) 197),dE P "ways" 204 (.ref 26),dE P "door" 210 (.ref 31),dE P "door_events" 216 (.ref 36),dE P "leaving" 222 (.ref 41),dE P "sides" 230 (.ref 48),dE P "Station" 280 (.ref 79),dE P "Relay" 316 (.ref 107),dE P "Sorter" 341 (.ref 126),dE P "Thinner" 378 (.ref 152),dE P "Joiner" 411 (.ref 176),dE P "Sink" 427 (.ref 188),dE P "station_of" 438 (.ref 197),dE P "Own" 587 (.ref 297),dE P "woven" 599 (.ref 308),dE P "is_behind" 609 (.ref 315),dE P "behind" 615 (.ref 320),dE P "go_round" 624 (.ref 327),dE P "taken_until" 630 (.ref 332),dE P "settled" 636 (.ref 337),dE P "at_doors" 648 (.ref 344),dE P "arrival_of" 659 (.ref 351),dE P "rank" 666 (.ref 358),dE P "traced" 672 (.ref 363),dE P "run" 680 (.ref 370),dE P "_law_cell_at" 690 (.ref 377),dE P "_law_mixed" 699 (.ref 384),dE P "_law_station" 707 (.ref 391),dE P "_law_works" 713 (.ref 396),dE P "_law_turns" 726 (.ref 403),dE P "_law_begins" 736 (.ref 410),dE P "law" 742 (.ref 415)] 42,#[]⟩) ::
 (nat_lit 13,cO "<module>" "<module>" 182 1 0 0 11 false 12 (.none) (.none) (.none) 185) ::
 (nat_lit 20,cO "_wall" "_wall" 187 1 1 3 15 true 16 (.ref 17) (.ref 18) (.ref 19) 191) ::
 (nat_lit 21,fO (top 0) "_wall" "_wall" (.str "__main__" 164) (.ref 20)) ::
 (nat_lit 25,cO "ways" "ways" 199 6 2 3 22 true 23 (.none) (.none) (.ref 24) 202) ::
 (nat_lit 26,fO (top 3) "ways" "ways" (.str "ownclocks.works" 194) (.ref 25)) ::
 (nat_lit 30,cO "door" "door" 205 10 2 3 27 true 28 (.none) (.none) (.ref 29) 208) ::
 (nat_lit 31,fO (top 4) "door" "door" (.str "ownclocks.works" 194) (.ref 30)) ::
 (nat_lit 35,cO "door_events" "door_events" 211 13 2 3 32 true 33 (.none) (.none) (.ref 34) 214) ::
 (nat_lit 36,fO (top 5) "door_events" "door_events" (.str "ownclocks.works" 194) (.ref 35)) ::
 (nat_lit 40,cO "leaving" "leaving" 217 15 2 3 37 true 38 (.none) (.none) (.ref 39) 220) ::
 (nat_lit 41,fO (top 6) "leaving" "leaving" (.str "ownclocks.works" 194) (.ref 40)) ::
 (nat_lit 47,cO "sides" "sides" 223 17 2 3 42 true 43 (.ref 44) (.ref 45) (.ref 46) 228) ::
 (nat_lit 48,fO (top 7) "sides" "sides" (.str "ownclocks.works" 194) (.ref 47)) ::
 (nat_lit 54,cO "Station" "Station" 235 20 0 0 52 false 53 (.none) (.none) (.none) 238) ::
 (nat_lit 61,cO "__init__" "Station.__init__" 245 22 3 3 56 true 57 (.ref 58) (.ref 59) (.ref 60) 251) ::
 (nat_lit 62,fO (L2.inClass (top 9) 0) "__init__" "Station.__init__" (.str "ownclocks.kinds" 231) (.ref 61)) ::
 (nat_lit 68,cO "take" "Station.take" 254 26 3 3 63 true 64 (.ref 65) (.ref 66) (.ref 67) 260) ::
 (nat_lit 69,fO (L2.inClass (top 9) 1) "take" "Station.take" (.str "ownclocks.kinds" 231) (.ref 68)) ::
 (nat_lit 75,cO "on_first" "Station.on_first" 263 29 2 3 70 true 71 (.ref 72) (.ref 73) (.ref 74) 268) ::
 (nat_lit 76,fO (L2.inClass (top 9) 2) "on_first" "Station.on_first" (.str "ownclocks.kinds" 231) (.ref 75)) ::
 (nat_lit 78,⟨.type "dict",none,.dict #[dE P "__module__" 240 (.str "ownclocks.kinds" 231),dE P "__firstlineno__" 244 (.int 20 243),dE P "__init__" 253 (.ref 62),dE P "take" 262 (.ref 69),dE P "on_first" 270 (.ref 76),dE P "__static_attributes__" 273 (.ref 77),dE P "__dict__" 275 (.ref 80),dE P "__weakref__" 277 (.ref 81),dE P "__doc__" 278 (.none)] 4,#[]⟩) ::
 (nat_lit 79,⟨.type "type",none,.cls (cL "Station" [.type "object"] [.ref 79,.type "object"] 78 "Station" true [.ref 107,.ref 126,.ref 152,.ref 176,.ref 188]),#[none,none,some (.str "Station" 233),some (.str "Station" 241),some (.builtin "object.__new__"),some (.bool true)]⟩) ::
 (nat_lit 80,⟨.type "getset_descriptor",none,.fields #[.str "__dict__" 274,.ref 79,.builtin "function.__dict__",.builtin "function.__dict__#set"],#[]⟩) ::
 (nat_lit 81,⟨.type "getset_descriptor",none,.fields #[.str "__weakref__" 276,.ref 79,.builtin "ExceptionGroup.__weakref__",.none],#[]⟩) ::
 (nat_lit 84,⟨.type "tuple",none,.seq #[.ref 79] 0,#[]⟩) ::
 (nat_lit 89,cO "Relay" "Relay" 283 31 0 0 87 false 88 (.none) (.none) (.none) 286) ::
 (nat_lit 96,cO "__init__" "Relay.__init__" 293 33 4 3 91 true 92 (.ref 93) (.ref 94) (.ref 95) 300) ::
 (nat_lit 97,fO (L2.inClass (top 10) 0) "__init__" "Relay.__init__" (.str "ownclocks.kinds" 231) (.ref 96)) ::
 (nat_lit 103,cO "take" "Relay.take" 303 37 3 3 98 true 99 (.ref 100) (.ref 101) (.ref 102) 309) ::
 (nat_lit 104,fO (L2.inClass (top 10) 1) "take" "Relay.take" (.str "ownclocks.kinds" 231) (.ref 103)) ::
 (nat_lit 106,⟨.type "dict",none,.dict #[dE P "__module__" 288 (.str "ownclocks.kinds" 231),dE P "__firstlineno__" 292 (.int 31 291),dE P "__init__" 302 (.ref 97),dE P "take" 311 (.ref 104),dE P "__static_attributes__" 313 (.ref 105),dE P "__doc__" 314 (.none)] 2,#[]⟩) ::
 (nat_lit 107,⟨.type "type",none,.cls (cL "Relay" [.ref 79] [.ref 107,.ref 79,.type "object"] 106 "Relay" true []),#[some (.ref 84),none,some (.str "Relay" 281),some (.str "Relay" 289),some (.builtin "object.__new__"),some (.bool true)]⟩) ::
 (nat_lit 110,⟨.type "tuple",none,.seq #[.ref 79] 0,#[]⟩) ::
 (nat_lit 115,cO "Sorter" "Sorter" 319 39 0 0 113 false 114 (.none) (.none) (.none) 322) ::
 (nat_lit 122,cO "take" "Sorter.take" 329 41 3 3 117 true 118 (.ref 119) (.ref 120) (.ref 121) 335) ::
 (nat_lit 123,fO (L2.inClass (top 11) 0) "take" "Sorter.take" (.str "ownclocks.kinds" 231) (.ref 122)) ::
 (nat_lit 125,⟨.type "dict",none,.dict #[dE P "__module__" 324 (.str "ownclocks.kinds" 231),dE P "__firstlineno__" 328 (.int 39 327),dE P "take" 337 (.ref 123),dE P "__static_attributes__" 338 (.ref 124),dE P "__doc__" 339 (.none)] 2,#[]⟩) ::
 (nat_lit 126,⟨.type "type",none,.cls (cL "Sorter" [.ref 79] [.ref 126,.ref 79,.type "object"] 125 "Sorter" true []),#[some (.ref 110),none,some (.str "Sorter" 317),some (.str "Sorter" 325),some (.builtin "object.__new__"),some (.bool true)]⟩) ::
 (nat_lit 129,⟨.type "tuple",none,.seq #[.ref 79] 0,#[]⟩) ::
 (nat_lit 134,cO "Thinner" "Thinner" 344 45 0 0 132 false 133 (.none) (.none) (.none) 347) ::
 (nat_lit 141,cO "__init__" "Thinner.__init__" 354 47 4 3 136 true 137 (.ref 138) (.ref 139) (.ref 140) 361) ::
 (nat_lit 142,fO (L2.inClass (top 12) 0) "__init__" "Thinner.__init__" (.str "ownclocks.kinds" 231) (.ref 141)) ::
 (nat_lit 148,cO "take" "Thinner.take" 364 52 3 3 143 true 144 (.ref 145) (.ref 146) (.ref 147) 370) ::
 (nat_lit 149,fO (L2.inClass (top 12) 1) "take" "Thinner.take" (.str "ownclocks.kinds" 231) (.ref 148)) ::
 (nat_lit 151,⟨.type "dict",none,.dict #[dE P "__module__" 349 (.str "ownclocks.kinds" 231),dE P "__firstlineno__" 353 (.int 45 352),dE P "__init__" 363 (.ref 142),dE P "take" 372 (.ref 149),dE P "__static_attributes__" 375 (.ref 150),dE P "__doc__" 376 (.none)] 2,#[]⟩) ::
 (nat_lit 152,⟨.type "type",none,.cls (cL "Thinner" [.ref 79] [.ref 152,.ref 79,.type "object"] 151 "Thinner" true []),#[some (.ref 129),none,some (.str "Thinner" 342),some (.str "Thinner" 350),some (.builtin "object.__new__"),some (.bool true)]⟩) ::
 (nat_lit 155,⟨.type "tuple",none,.seq #[.ref 79] 0,#[]⟩) ::
 (nat_lit 160,cO "Joiner" "Joiner" 381 57 0 0 158 false 159 (.none) (.none) (.none) 384) ::
 (nat_lit 167,cO "__init__" "Joiner.__init__" 391 59 3 3 162 true 163 (.ref 164) (.ref 165) (.ref 166) 398) ::
 (nat_lit 168,fO (L2.inClass (top 13) 0) "__init__" "Joiner.__init__" (.str "ownclocks.kinds" 231) (.ref 167)) ::
 (nat_lit 172,cO "take" "Joiner.take" 401 65 3 3 169 true 170 (.none) (.none) (.ref 171) 404) ::
 (nat_lit 173,fO (L2.inClass (top 13) 1) "take" "Joiner.take" (.str "ownclocks.kinds" 231) (.ref 172)) ::
 (nat_lit 175,⟨.type "dict",none,.dict #[dE P "__module__" 386 (.str "ownclocks.kinds" 231),dE P "__firstlineno__" 390 (.int 57 389),dE P "__init__" 400 (.ref 168),dE P "take" 406 (.ref 173),dE P "__static_attributes__" 408 (.ref 174),dE P "__doc__" 409 (.none)] 2,#[]⟩) ::
 (nat_lit 176,⟨.type "type",none,.cls (cL "Joiner" [.ref 79] [.ref 176,.ref 79,.type "object"] 175 "Joiner" true []),#[some (.ref 155),none,some (.str "Joiner" 379),some (.str "Joiner" 387),some (.builtin "object.__new__"),some (.bool true)]⟩) ::
 (nat_lit 179,⟨.type "tuple",none,.seq #[.ref 79] 0,#[]⟩) ::
 (nat_lit 184,cO "Sink" "Sink" 414 73 0 0 182 false 183 (.none) (.none) (.none) 417) ::
 (nat_lit 187,⟨.type "dict",none,.dict #[dE P "__module__" 419 (.str "ownclocks.kinds" 231),dE P "__firstlineno__" 423 (.int 73 422),dE P "__static_attributes__" 424 (.ref 186),dE P "__doc__" 425 (.none)] 2,#[]⟩) ::
 (nat_lit 188,⟨.type "type",none,.cls (cL "Sink" [.ref 79] [.ref 188,.ref 79,.type "object"] 187 "Sink" true []),#[some (.ref 179),none,some (.str "Sink" 412),some (.str "Sink" 420),some (.builtin "object.__new__"),some (.bool true)]⟩) ::
 (nat_lit 196,cO "station_of" "station_of" 428 75 2 3 191 true 192 (.ref 193) (.ref 194) (.ref 195) 436) ::
 (nat_lit 197,fO (top 15) "station_of" "station_of" (.str "ownclocks.kinds" 231) (.ref 196)) ::
 (nat_lit 203,cO "Own" "Own" 443 89 0 0 201 false 202 (.none) (.none) (.none) 446) ::
 (nat_lit 208,cO "__init__" "Own.__init__" 453 91 2 3 205 true 206 (.none) (.none) (.ref 207) 456) ::
 (nat_lit 209,fO (L2.inClass (top 17) 0) "__init__" "Own.__init__" (.str "ownclocks.own" 439) (.ref 208)) ::
 (nat_lit 215,cO "taken" "Own.taken" 459 99 2 3 210 true 211 (.ref 212) (.ref 213) (.ref 214) 464) ::
 (nat_lit 216,fO (L2.inClass (top 17) 1) "taken" "Own.taken" (.str "ownclocks.own" 439) (.ref 215)) ::
 (nat_lit 222,cO "waiting" "Own.waiting" 467 102 2 3 217 true 218 (.ref 219) (.ref 220) (.ref 221) 472) ::
 (nat_lit 223,fO (L2.inClass (top 17) 2) "waiting" "Own.waiting" (.str "ownclocks.own" 439) (.ref 222)) ::
 (nat_lit 229,cO "promise" "Own.promise" 475 105 2 3 224 true 225 (.ref 226) (.ref 227) (.ref 228) 480) ::
 (nat_lit 230,fO (L2.inClass (top 17) 3) "promise" "Own.promise" (.str "ownclocks.own" 439) (.ref 229)) ::
 (nat_lit 234,cO "clock" "Own.clock" 483 108 2 3 231 true 232 (.none) (.none) (.ref 233) 486) ::
 (nat_lit 235,fO (L2.inClass (top 17) 4) "clock" "Own.clock" (.str "ownclocks.own" 439) (.ref 234)) ::
 (nat_lit 241,cO "step" "Own.step" 489 112 2 3 236 true 237 (.ref 238) (.ref 239) (.ref 240) 497) ::
 (nat_lit 242,fO (L2.inClass (top 17) 5) "step" "Own.step" (.str "ownclocks.own" 439) (.ref 241)) ::
 (nat_lit 248,cO "row" "Own.row" 500 122 3 3 243 true 244 (.ref 245) (.ref 246) (.ref 247) 506) ::
 (nat_lit 249,fO (L2.inClass (top 17) 6) "row" "Own.row" (.str "ownclocks.own" 439) (.ref 248)) ::
 (nat_lit 255,cO "earliest" "Own.earliest" 509 125 3 3 250 true 251 (.ref 252) (.ref 253) (.ref 254) 516) ::
 (nat_lit 256,fO (L2.inClass (top 17) 7) "earliest" "Own.earliest" (.str "ownclocks.own" 439) (.ref 255)) ::
 (nat_lit 260,cO "upcoming" "Own.upcoming" 519 131 2 3 257 true 258 (.none) (.none) (.ref 259) 522) ::
 (nat_lit 261,fO (L2.inClass (top 17) 8) "upcoming" "Own.upcoming" (.str "ownclocks.own" 439) (.ref 260)) ::
 (nat_lit 265,cO "may_take" "Own.may_take" 525 136 3 3 262 true 263 (.none) (.none) (.ref 264) 528) ::
 (nat_lit 266,fO (L2.inClass (top 17) 9) "may_take" "Own.may_take" (.str "ownclocks.own" 439) (.ref 265)) ::
 (nat_lit 272,cO "lets" "Own.lets" 531 139 3 3 267 true 268 (.ref 269) (.ref 270) (.ref 271) 538) ::
 (nat_lit 273,fO (L2.inClass (top 17) 10) "lets" "Own.lets" (.str "ownclocks.own" 439) (.ref 272)) ::
 (nat_lit 279,cO "take_event" "Own.take_event" 541 145 3 3 274 true 275 (.ref 276) (.ref 277) (.ref 278) 549) ::
 (nat_lit 280,fO (L2.inClass (top 17) 11) "take_event" "Own.take_event" (.str "ownclocks.own" 439) (.ref 279)) ::
 (nat_lit 286,cO "raise_promises" "Own.raise_promises" 552 153 2 3 281 true 282 (.ref 283) (.ref 284) (.ref 285) 560) ::
 (nat_lit 287,fO (L2.inClass (top 17) 12) "raise_promises" "Own.raise_promises" (.str "ownclocks.own" 439) (.ref 286)) ::
 (nat_lit 293,cO "raise_promise" "Own.raise_promise" 563 161 3 3 288 true 289 (.ref 290) (.ref 291) (.ref 292) 571) ::
 (nat_lit 294,fO (L2.inClass (top 17) 13) "raise_promise" "Own.raise_promise" (.str "ownclocks.own" 439) (.ref 293)) ::
 (nat_lit 296,⟨.type "dict",none,.dict #[dE P "__module__" 448 (.str "ownclocks.own" 439),dE P "__firstlineno__" 452 (.int 89 451),dE P "__init__" 458 (.ref 209),dE P "taken" 466 (.ref 216),dE P "waiting" 474 (.ref 223),dE P "promise" 482 (.ref 230),dE P "clock" 488 (.ref 235),dE P "step" 499 (.ref 242),dE P "row" 508 (.ref 249),dE P "earliest" 518 (.ref 256),dE P "upcoming" 524 (.ref 261),dE P "may_take" 530 (.ref 266),dE P "lets" 540 (.ref 273),dE P "take_event" 551 (.ref 280),dE P "raise_promises" 562 (.ref 287),dE P "raise_promise" 573 (.ref 294),dE P "__static_attributes__" 580 (.ref 295),dE P "__dict__" 582 (.ref 298),dE P "__weakref__" 584 (.ref 299),dE P "__doc__" 585 (.none)] 4,#[]⟩) ::
 (nat_lit 297,⟨.type "type",none,.cls (cL "Own" [.type "object"] [.ref 297,.type "object"] 296 "Own" true []),#[none,none,some (.str "Own" 441),some (.str "Own" 449),some (.builtin "object.__new__"),some (.bool true)]⟩) ::
 (nat_lit 298,⟨.type "getset_descriptor",none,.fields #[.str "__dict__" 581,.ref 297,.builtin "function.__dict__",.builtin "function.__dict__#set"],#[]⟩) ::
 (nat_lit 299,⟨.type "getset_descriptor",none,.fields #[.str "__weakref__" 583,.ref 297,.builtin "ExceptionGroup.__weakref__",.none],#[]⟩) ::
 (nat_lit 307,cO "woven" "woven" 590 169 2 3 302 true 303 (.ref 304) (.ref 305) (.ref 306) 597) ::
 (nat_lit 308,fO (top 19) "woven" "woven" (.str "ownclocks.together" 588) (.ref 307)) ::
 (nat_lit 314,cO "is_behind" "is_behind" 600 174 3 3 309 true 310 (.ref 311) (.ref 312) (.ref 313) 607) ::
 (nat_lit 315,fO (top 20) "is_behind" "is_behind" (.str "ownclocks.together" 588) (.ref 314)) ::
 (nat_lit 319,cO "behind" "behind" 610 177 3 3 316 true 317 (.none) (.none) (.ref 318) 613) ::
 (nat_lit 320,fO (top 21) "behind" "behind" (.str "ownclocks.together" 588) (.ref 319)) ::
 (nat_lit 326,cO "go_round" "go_round" 616 179 2 3 321 true 322 (.ref 323) (.ref 324) (.ref 325) 622) ::
 (nat_lit 327,fO (top 22) "go_round" "go_round" (.str "ownclocks.together" 588) (.ref 326)) ::
 (nat_lit 331,cO "taken_until" "taken_until" 625 182 3 3 328 true 329 (.none) (.none) (.ref 330) 628) ::
 (nat_lit 332,fO (top 23) "taken_until" "taken_until" (.str "ownclocks.together" 588) (.ref 331)) ::
 (nat_lit 336,cO "settled" "settled" 631 184 2 3 333 true 334 (.none) (.none) (.ref 335) 634) ::
 (nat_lit 337,fO (top 24) "settled" "settled" (.str "ownclocks.together" 588) (.ref 336)) ::
 (nat_lit 343,cO "at_doors" "at_doors" 639 192 1 3 338 true 339 (.ref 340) (.ref 341) (.ref 342) 646) ::
 (nat_lit 344,fO (top 26) "at_doors" "at_doors" (.str "ownclocks.clock" 637) (.ref 343)) ::
 (nat_lit 350,cO "arrival_of" "arrival_of" 649 198 4 3 345 true 346 (.ref 347) (.ref 348) (.ref 349) 657) ::
 (nat_lit 351,fO (top 27) "arrival_of" "arrival_of" (.str "ownclocks.clock" 637) (.ref 350)) ::
 (nat_lit 357,cO "rank" "rank" 660 201 1 3 352 true 353 (.ref 354) (.ref 355) (.ref 356) 664) ::
 (nat_lit 358,fO (top 28) "rank" "rank" (.str "ownclocks.clock" 637) (.ref 357)) ::
 (nat_lit 362,cO "traced" "traced" 667 203 2 3 359 true 360 (.none) (.none) (.ref 361) 670) ::
 (nat_lit 363,fO (top 29) "traced" "traced" (.str "ownclocks.clock" 637) (.ref 362)) ::
 (nat_lit 369,cO "run" "run" 673 221 2 3 364 true 365 (.ref 366) (.ref 367) (.ref 368) 678) ::
 (nat_lit 370,fO (top 30) "run" "run" (.str "ownclocks.clock" 637) (.ref 369)) ::
 (nat_lit 376,cO "_law_cell_at" "_law_cell_at" 683 224 2 3 371 true 372 (.ref 373) (.ref 374) (.ref 375) 688) ::
 (nat_lit 377,fO (top 32) "_law_cell_at" "_law_cell_at" (.str "law_ownclocks_k33_whole_any_weaving" 681) (.ref 376)) ::
 (nat_lit 383,cO "_law_mixed" "_law_mixed" 691 228 2 3 378 true 379 (.ref 380) (.ref 381) (.ref 382) 697) ::
 (nat_lit 384,fO (top 33) "_law_mixed" "_law_mixed" (.str "law_ownclocks_k33_whole_any_weaving" 681) (.ref 383)) ::
 (nat_lit 390,cO "_law_station" "_law_station" 700 232 1 3 385 true 386 (.ref 387) (.ref 388) (.ref 389) 705) ::
 (nat_lit 391,fO (top 34) "_law_station" "_law_station" (.str "law_ownclocks_k33_whole_any_weaving" 681) (.ref 390)) ::
 (nat_lit 395,cO "_law_works" "_law_works" 708 239 1 3 392 true 393 (.none) (.none) (.ref 394) 711) ::
 (nat_lit 396,fO (top 35) "_law_works" "_law_works" (.str "law_ownclocks_k33_whole_any_weaving" 681) (.ref 395)) ::
 (nat_lit 402,cO "_law_turns" "_law_turns" 714 252 2 3 397 true 398 (.ref 399) (.ref 400) (.ref 401) 724) ::
 (nat_lit 403,fO (top 36) "_law_turns" "_law_turns" (.str "law_ownclocks_k33_whole_any_weaving" 681) (.ref 402)) ::
 (nat_lit 409,cO "_law_begins" "_law_begins" 727 264 3 3 404 true 405 (.ref 406) (.ref 407) (.ref 408) 734) ::
 (nat_lit 410,fO (top 37) "_law_begins" "_law_begins" (.str "law_ownclocks_k33_whole_any_weaving" 681) (.ref 409)) ::
 (nat_lit 414,cO "law" "law" 737 273 1 3 411 true 412 (.none) (.none) (.ref 413) 740) ::
 (nat_lit 415,fO (top 38) "law" "law" (.str "law_ownclocks_k33_whole_any_weaving" 681) (.ref 414))::[]
noncomputable def hA:List Addr:=[2,3,13,20,21,25,26,30,31,35,36,40,41,47,48,54,61,62,68,69,75,76,78,79,80,81,84,89,96,97,103,104,106,107,110,115,122,123,125,126,129,134,141,142,148,149,151,152,155,160,167,168,172,173,175,176,179,184,187,188,196,197,203,208,209,215,216,222,223,229,230,234,235,241,242,248,249,255,256,260,261,265,266,272,273,279,280,286,287,293,294,296,297,298,299,307,308,314,315,319,320,326,327,331,332,336,337,343,344,350,351,357,358,362,363,369,370,376,377,383,384,390,391,395,396,402,403,409,410,414,415]
noncomputable def hTs:List Addr:=[28,258]
noncomputable def hL:List Str:=["_wall","DOOR","ways","door","door_events","leaving","sides","Station","Relay","Sorter","Thinner","Joiner","Sink","station_of","Own","woven","is_behind","behind","go_round","taken_until","settled","at_doors","arrival_of","rank","traced","run","_law_cell_at","_law_mixed","_law_station","_law_works","_law_turns","_law_begins"]
noncomputable def hQ:Program:={ pW with main:={ pW.main with body:=[top 38] } }
noncomputable def hX (s:Shared):Bool:=recOk [] s
noncomputable def hYf (s:Shared):List (Option Obj) × List (Option Obj):=(hA.map s.heap.get?,hTs.map s.heap.get?)
noncomputable def hYa (w:World):List (Option Obj) × List (Option Obj):=((hK w.params).map fun p=>some p.2,hTs.map fun _=>some (tabObj #[]))
noncomputable def hLook (w:World) (s:Shared):=(staticsOk (importedModules pW.main.body) (boot_heap w.params) s.heap && namesBound pW s.heap && gensDone s && laidKept (boot_heap w.params) s.heap,openSeen hQ hL (importedModules pW.main.body) hX true s,hYf s)
theorem h_run (w:World) (os:OsState):(segRunT treeTable pW w 11 (some (.ref 6)) 1 3025 (hS w os) (piecesOf hB hEnv hC ⟨0,0,0,0⟩ hF)).map (fun r=>(r.1,r.2.2.1,r.2.2.2,hLook w r.2.1.abs))=some (.next,hC,⟨273,0,286,101⟩,true,openGood hQ hL,hYa w):=by
 unfold hLook
 rw[Fast.te10110043849684766642,Fast.te14364793385576792824,Fast.te4187177175401517315,Fast.te5923862056798008813]
 kernel_rfl
theorem left_run {p q:Program} {loose:List Str} {Xt:Shared→Bool} {α:Type} {Yf:Shared→α} {Ya:World→α} {N:Nat} {g0:Bool} {H₀:Params→Heap} {gs₀:Array GenState} {d₀:Drawn} {k₀ m₀:Nat} {ann:Option Value} {M:Nat}
  (open_:∀ w:World,(fencedOpening treeTable p w N).map (fun s=>(s.heap,s.gens,s.drawn,s.toks))=some (H₀ w.params,gs₀,d₀,k₀))
  (size:∀ w:World,((H₀ w.params).isNs mainGlobals && gs₀.size == 0,(H₀ w.params).objs.size,(H₀ w.params).nsMap mainGlobals "__annotations__")=(true,m₀,ann)) (le:Nat.ble M N=true)
  (run:∀(w:World) (os:OsState),∃ s₁,topRun treeTable p w m₀ ann M ⟨H₀ w.params,gs₀,d₀,k₀,os⟩ (topStub p)=some s₁ ∧
   (staticsOk (importedModules p.main.body) (H₀ w.params) s₁.heap && namesBound p s₁.heap && gensDone s₁ && laidKept (H₀ w.params) s₁.heap)=true∧openSeen q loose (importedModules p.main.body) Xt g0 s₁=openGood q loose∧Yf s₁=Ya w):LeftO p q loose Xt Yf Ya N g0:=fun w=>by
 obtain⟨⟨h,gs,d,k,os⟩,e,e'⟩:=yQ.mp (open_ w)
 obtain⟨rfl,rfl,rfl,rfl⟩:h=H₀ w.params∧gs=gs₀∧d=d₀∧k=k₀:=by simpa using e'
 obtain⟨z1,z2,z3⟩:_∧_∧_:=by simpa only [Prod.mk.injEq] using size w
 obtain⟨s₁,hr,l1,l2,l3⟩:=run w os
 have r:=topRun_mono (N - M) _ _ _ _ hr
 rw[show M + (N - M)=N by have:=Nat.le_of_ble_eq_true le; omega] at r
 have t:topFrom treeTable p w N ⟨H₀ w.params,gs,d,k,os⟩=some s₁:=by
  unfold topFrom
  dsimp only
  rw[z1,z2,z3,r]
  show(match staticsOk (importedModules p.main.body) (H₀ w.params) s₁.heap && namesBound p s₁.heap && gensDone s₁ && laidKept (H₀ w.params) s₁.heap with|true=>_|false=>_)=_
  rw[l1]
 unfold openEnds
 rw[e]
 show(topFrom treeTable p w N _).map _=_
 rw[t]
 exact congrArg some (Prod.ext l2 l3)
theorem h_left:LeftO pW hQ hL hX hYf hYa 6174:=by
 refine left_run (M:=12 + (1 + (3025 + 2))) (boot_open (by kernel_rfl) rfl (fun s=>rfl)) (m₀:=11) (ann:=some (.ref 6)) (fun w=>by kernel_rfl) rfl fun w os=>?_
 obtain⟨⟨f,s',c,q⟩,e,e'⟩:=yQ.mp (h_run w os)
 simp only [Prod.mk.injEq] at e'
 obtain⟨rfl,rfl,rfl,l⟩:=e'
 have k:=piece_app (rest:=[]) (segRun_of e) (piece_nil (h_fin w s' _))
 rw[zP] at k
 have k2:=go_top (h_pre w os) (piece_block (segRun_of (h_block w os)) k)
 unfold hLook at l
 simp only [Prod.mk.injEq] at l
 exact⟨_,k2,l.1,l.2.1,l.2.2⟩
theorem walkX_H {q:Program} {loose:List Str} {XP:(Str→Option Value)→Heap→Prop} {r:RowW} {d:DefRec} {kwd:List (Str × PySem.Expr)} {run:Value→List Value→Sem Value} {K:Params→Frag} {as ts:List Addr} (e:∀ P,as=(K P).map (·.1))
  (h:WalkO q loose XP (fun w h=>InK K w h∧∀ P ∈ ts,h.get? P=some (tabObj #[])) r d kwd run):WalkX q loose XP (fun s=>(as.map s.heap.get?,ts.map s.heap.get?)) (fun w=>((K w.params).map fun p=>some p.2,ts.map fun _=>some (tabObj #[]))) r d kwd run:=by
 intro w s₀ s₁ mg mb G y fa o pm cd doc dV kV ho hd hcd hD hmg hg args vals as' L hpre hlay hrd hwl hlo
 exact h w s₀ s₁ mg mb G ⟨InK.keeps w _ _ (InK.of e w s₀ (congrArg Prod.fst y)) L.keeps,fun P hP=>L.keeps _ _ (List.map_inj_left.mp (congrArg Prod.snd y) P hP)⟩ fa o pm cd doc dV kV ho hd hcd hD hmg hg args vals as' hpre hlay hrd hwl hlo
end Oc
open PySem PySem.W PySem.W.X PyProof.Rows
set_option maxRecDepth 100000 in
set_option maxHeartbeats 0 in
theorem PySem.Challenge.cw_ownclocks_k33_whole_any_weaving_holds : PySem.Challenge.rw_ownclocks_k33_whole_any_weaving.Holds := by
 refine holds_law (by kernel_rfl) fun said=>?_
 refine holds_openX (q:=Oc.hQ) (loose:=Oc.hL) (Xt:=Oc.hX) (XP:=fun _ _=>True) (Yf:=Oc.hYf) (Ya:=Oc.hYa) (N:=6174) Oc.h_left (fun _ _=>trivial) (fun _ _ _ h _=>h) (by rfl) (by rfl) (by rfl) (fun s e=>recFacts_of e) (by rfl) said (by decide +kernel) ⟨rfl,rfl,rfl,rfl,rfl,by decide +kernel⟩ ?hw ?hc
 case hw=>w_witness2
 refine Oc.walkX_H (K:=Oc.hK) (as:=Oc.hA) (ts:=Oc.hTs) (fun _=>rfl) ?_
 k_fill
 refine' Oc.walk (l:=PySem.Challenge.rw_ownclocks_k33_whole_any_weaving) rfl rfl (fun w h Y=>Y.1) (fun w h Y=>Y.2) ?U1 ?U2 ?N1 ?N2 ?N3 ?F
 case U1 =>
  intro w
  refine' L2.tabIn_of ?e1 ?e2 ?e3 ?e4 ?e5
  (case e1=>first|k_is|kit_is)
  (case e2=>first|k_is|kit_is)
  (case e3=>exact rfl)
  (case e4=>first|k_is|kit_is)
  (case e5=>exact rfl)
 case U2 =>
  intro w
  refine' Oc.codeIn_of ?e0 ?e1 ?e2 ?e3 ?e4 ?e5
  (case e0=>first|k_is|kit_is)
  (case e1=>first|k_is|kit_is)
  (case e2=>first|k_is|kit_is)
  (case e3=>exact rfl)
  (case e4=>first|k_is|kit_is)
  (case e5=>exact rfl)
 case N1=>exact⟨by decide,fun w=>⟨by kernel_rfl,by kernel_rfl⟩⟩
 case N2=>exact⟨by decide,fun w=>⟨by kernel_rfl,by kernel_rfl⟩⟩
 case N3=>decide
 case F =>
  intro w mg fa h KX G hmg
  refine' Oc.all_mk KX G hmg ?_ ?_ ?_ ?_ ?_ ?_ ?_ ?_ ?_ ?_ ?_ ?_ ?_ ?_ ?_ ?_ ?_ ?_ ?_ ?_ ?_ ?_ ?_ ?_ ?_ ?_ ?_ ?_ ?_ ?_ ?_ ?_ ?_ ?_ ?_ ?_ ?_ ?_ ?_ ?_ ?_ ?_ ?_ ?_ ?_ ?_ ?_ ?_ ?_ ?_ ?_ ?_ ?_ ?_ ?_ ?_ ?_ ?_ ?_ ?_ ?_ ?_ ?_ ?_ ?_ ?_ ?_ ?_ ?_ ?_ ?_ ?_ ?_ ?_ ?_ ?_ ?_ ?_ ?_ ?_ ?_ ?_ ?_ ?_ ?_ ?_ ?_ ?_ ?_ ?_ ?_ ?_ ?_ ?_ ?_ ?_ ?_ ?_ ?_ ?_ ?_ ?_ ?_ ?_ ?_ ?_ ?_ ?_ ?_ ?_ ?_ ?_ ?_ ?_ ?_ ?_ ?_ ?_ ?_ ?_ ?_ ?_ ?_ ?_ ?_ ?_ ?_ ?_ ?_ ?_ ?_ ?_ ?_ ?_ ?_ ?_ ?_ ?_ ?_ ?_ ?_ ?_ ?_ ?_ ?_ ?_ ?_ ?_ ?_ ?_ ?_ ?_ ?_ ?_ ?_ ?_ ?_ ?_ ?_ ?_ ?_ ?_ ?_ ?_ ?_ ?_ ?_ ?_ ?_ ?_ ?_ ?_ ?_ ?_ ?_ ?_ ?_ ?_ ?_ ?_ ?_ ?_ ?_ ?_ ?_ ?_ ?_ ?_ ?_ ?_ ?_ ?_ ?_ ?_ ?_
  all_goals (try first|k_is|kit_is|exact rfl|(refine⟨?_,?_⟩ <;> k_is))
  all_goals (try first|k_is|kit_is|exact rfl|(refine' Oc.FnF.mk ?l ?c ?k; (case l=>k_is); (case c=>k_is); (case k=>k_is)))
  all_goals first|k_is|kit_is|exact rfl|(refine' Oc.FnF.mk ?l ?c ?k; (case l=>k_is); (case c=>k_is); (case k=>k_is))
#print axioms PySem.Challenge.cw_ownclocks_k33_whole_any_weaving_holds
