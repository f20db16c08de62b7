import PyProof.Rows.All
import Wide.All
import OpenK.AllK
import Wide.FinOn
import Lean
import PyProof.EqAt
import PyProof.EqKinds
import PyProof.TupleCall
import PyProof.NeData
import PyProof.P3Eq
import PySem.Challenge.RW_ownclocks_k32_whole_settled_as_by_one_cl
set_option Elab.async false
set_option linter.all false
set_option maxRecDepth 100000
set_option maxHeartbeats 4000000
local macro_rules | `(tactic| omega) => `(tactic| lia)
set_option hygiene false in
local macro_rules | `(tactic| and_intros) => `(tactic| exact ⟨rfl, rfl, by decide +kernel, by decide +kernel, by repeat (first | exact Each.nil | refine Each.cons rfl ?_), by repeat (first | exact Each.nil | refine Each.cons rfl ?_), by repeat (first | exact Paired.nil | refine Paired.cons ⟨rfl, by first | exact Or.inl rfl | exact Or.inr rfl, by first | exact Or.inl rfl | exact Or.inr rfl⟩ ?_), rfl⟩)
set_option hygiene false in
local macro_rules | `(tactic| nofun) => `(tactic| first | exact Or.inl rfl | exact Or.inr rfl)
set_option hygiene false in
local macro_rules | `(tactic| ac_rfl) => `(tactic| (first | (refine tvC rfl ?_) | (refine tvO rfl ?_) | (refine tvK rfl ?_) | (refine tv rfl ?_) | (refine ⟨_, rfl, ?_⟩)))
set_option hygiene false in
local macro_rules | `(tactic| infer_instance) => `(tactic| repeat (first | (refine ⟨_, rfl, ?_⟩) | (refine ⟨_, _, rfl, rfl, ⟨by decide, by decide⟩, ?_⟩) | (refine ⟨_, _, rfl, rfl, .inl ⟨by decide, by decide⟩, ?_⟩) | (refine ⟨_, _, rfl, rfl, .inr ⟨by decide, by decide⟩, ?_⟩) | (refine ⟨_, _, rfl, rfl, (show (0 : Int) < _ from by decide), ?_⟩) | (refine ⟨_, _, rfl, rfl, ?_⟩) | (refine ⟨rfl, ?_⟩)))
set_option Elab.async false
set_option linter.all false
set_option maxRecDepth 100000
abbrev zA:=@List.getD_eq_getElem?_getD
abbrev zB:=@List.getElem?_eq_getElem
abbrev zC:=@List.length_map
abbrev zD:=@List.getElem?_eq_some_iff
abbrev zE:=@List.mem_of_getElem?
abbrev zF:=@List.getElem?_map
abbrev zG:=@List.mem_singleton
abbrev zH:=@Nat.le_refl
abbrev zI:=@List.not_mem_nil
abbrev zJ:=@List.mem_cons_self
abbrev zK:=@List.map_append
abbrev zL:=@List.mem_cons_of_mem
abbrev zM:=@List.length_append
abbrev zN:=@List.getElem?_append_right
abbrev zO:=@List.mem_append_right
abbrev zP:=@List.append_nil
abbrev zQ:=@Bool.false_ne_true
abbrev zR:=@List.mem_cons
abbrev zS:=@Nat.lt_of_lt_of_le
abbrev zT:=@List.size_toArray
abbrev zU:=@Int.toNat_natCast
abbrev zV:=@Nat.zero_le
abbrev zW:=@Nat.ne_of_lt
abbrev zX:=@List.length_cons
abbrev zY:=@List.length_take
abbrev zZ:=@List.length_set
abbrev z0:=@Nat.le_trans
abbrev z9:=@List.append_assoc
abbrev yA:=@List.mem_append
abbrev yB:=@List.take_length
abbrev yC:=@List.length_range
abbrev yD:=@List.flatten_cons
abbrev yE:=@List.map_cons
abbrev yF:=@List.getElem?_append_left
abbrev yG:=@List.mem_filter
abbrev yH:=@List.getElem?_eq_none
abbrev yI:=@List.mem_map
abbrev yJ:=@List.filter_append
abbrev yK:=@Bool.false_eq_true
abbrev yL:=@List.getElem?_of_mem
abbrev yM:=@Option.map_eq_some_iff
abbrev yN:=@List.filter_nil
abbrev yO:=@List.mem_range
abbrev yP:=@Int.emod_lt_of_pos
abbrev yQ:=@List.mem_singleton_self
abbrev yR:=@List.getElem?_range
abbrev yS:=@List.pairwise_cons
abbrev yT:=@List.mem_filterMap
abbrev yU:=@List.range_succ
abbrev yV:=@List.take_add_one
abbrev yW:=@Int.emod_nonneg
abbrev yX:=@List.filter_cons_of_pos
abbrev yY:=@Nat.le_of_lt
abbrev yZ:=@Nat.le_succ
abbrev y6:=@List.filter_cons_of_neg
abbrev y7:=@Nat.lt_succ_of_lt
abbrev y8:=@List.length_filter_le
abbrev y9:=@Array.getElem?_toList
abbrev qA:=@Option.isSome_iff_exists
abbrev qB:=@Nat.sub_self
abbrev qC:=@Int.zero_add
abbrev qD:=@List.pairwise_append
abbrev qE:=@List.mem_append_left
abbrev qF:=@List.nodup_cons
abbrev qG:=@List.find?_cons
abbrev qH:=@List.flatMap_append
abbrev qI:=@Array.length_toList
abbrev qJ:=@List.getElem?_set_self
abbrev qK:=@List.flatten_singleton
abbrev qL:=@Nat.lt_of_le_of_lt
abbrev qM:=@List.min?_eq_some_iff
abbrev qN:=@Nat.not_lt_zero
abbrev qO:=@Int.le_refl
abbrev qP:=@Nat.lt_irrefl
abbrev qQ:=@List.any_cons
abbrev qR:=@List.flatten_append
abbrev qS:=@List.countP_cons
abbrev qT:=@Array.getElem?_eq_none
abbrev qU:=@List.length_nil
abbrev qV:=@List.sum_cons
abbrev qW:=@List.mem_of_mem_tail
abbrev qX:=@List.getElem?_set_ne
abbrev qY:=@Nat.lt_succ_self
abbrev qZ:=@Bool.and_eq_true
abbrev q8:=@List.filterMap_cons
abbrev q9:=@Array.swapIfInBounds_def
abbrev jA:=@List.find?_eq_none
abbrev jB:=@Int.lt_of_lt_of_le
abbrev jC:=@List.pairwise_singleton
abbrev jD:=@List.find?_append
abbrev jE:=@List.ext_getElem?
abbrev jF:=@List.count_append
abbrev jG:=@List.mem_flatten
abbrev jH:=@List.cons_append
abbrev jI:=@List.any_eq_true
abbrev jJ:=@List.of_mem_zip
abbrev jK:=@List.nil_append
abbrev jL:=@Bool.eq_iff_iff
abbrev jM:=@Nat.zero_add
abbrev jN:=@List.map_set
abbrev jO:=@List.zip_cons_cons
abbrev jP:=@List.getElem?_eq_none_iff
abbrev jQ:=@Nat.le_of_lt_succ
abbrev jR:=@List.mem_flatMap
abbrev jS:=@List.pairwise_lt_range
abbrev jT:=@List.map_nil
abbrev jU:=@List.any_map
abbrev jV:=@List.perm_append_comm
abbrev jW:=@List.mem_of_mem_head?
abbrev jX:=@List.filterMap_append
abbrev jY:=@List.countP_mono_left
abbrev jZ:=@List.tail_cons
abbrev j0:=@List.map_eq_nil_iff
abbrev j1:=@List.length_pos_iff
abbrev j2:=@List.all_cons
abbrev j3:=@List.prefix_append
abbrev j4:=@Nat.le_of_eq
abbrev j5:=@List.foldl_append
abbrev j6:=@List.flatMap_cons
abbrev j7:=@Nat.succ_ne_self
abbrev j8:=@List.lookup_cons
abbrev j9:=@List.length_tail
abbrev kG:=@List.getElem_mem
abbrev kH:=@List.flatten_nil
abbrev kI:=@List.all_eq_true
abbrev kJ:=@List.eq_nil_of_length_eq_zero
abbrev kK:=@List.zip_append
abbrev kL:=@List.count_nil
abbrev kM:=@Array.perm_iff_toList_perm
abbrev kN:=@List.sublist_append_right
abbrev kO:=@List.mem_or_eq_of_mem_set
abbrev kP:=@List.getElem?_zip_eq_some
abbrev kQ:=@Array.getElem?_eq_getElem
abbrev kR:=@List.length_filterMap_le
abbrev kT:=@List.idxOf_lt_length_iff
abbrev kU:=@List.getElem?_take_of_lt
abbrev kW:=@List.eraseIdx_cons_succ
abbrev kX:=@Nat.ne_of_gt
abbrev kY:=@Nat.min_self
abbrev kZ:=@Nat.lt_trans
abbrev k4:=@List.take_of_length_le
abbrev k6:=@List.range_succ_eq_map
abbrev vA:=@List.map_map
abbrev vB:=@List.filter_eq_nil_iff
abbrev vC:=@List.all_map
abbrev vD:=@Int.le_trans
abbrev vE:=@List.pairwise_flatMap
abbrev vF:=@List.countP_singleton
abbrev vG:=@List.countP_le_length
namespace L2
open PySem PySem.Spec PyProof.Rows
abbrev Key:=Sum Int Str
def keyIs:Key->Value->Bool
 | .inl k,v=>Value.isInt k v
 | .inr x,v=>Value.isStrOf x v
def keyH(w:World):Key->Int
 | .inl k=>hashInt k
 | .inr x=>hashStr w x
theorem tI:∀{k:Key}{v:Value},keyIs k v=true->(∃i t,k=Sum.inl i/\v=Value.int i t)\/(∃x t,k=Sum.inr x/\v=Value.str x t)
 | .inl i,v,h=>by
  obtain⟨t,e⟩:=Value.isInt_shape (k:=i) (v:=v) h
  exact .inl ⟨i,t,rfl,e⟩
 | .inr x,v,h=>by
  obtain⟨t,e⟩:=Value.isStrOf_shape (x:=x) (v:=v) h
  exact .inr ⟨x,t,rfl,e⟩
theorem Bn(i:Int)(t:Tok):keyIs (.inl i) (.int i t)=true:=by simp [keyIs,Value.isInt]
theorem Bj(x:Str)(t:Tok):keyIs (.inr x) (.str x t)=true:=by simp [keyIs,Value.isStrOf]
theorem FH(a b:Int):decide ((Sum.inl a:Key)=Sum.inl b)=(a==b):=by
 by_cases e:a=b
 ·subst e;simp
 ·have h:¬(Sum.inl a:Key)=Sum.inl b:=λq=>e (Sum.inl.inj q)
  rw[decide_eq_false h]
  exact(beq_eq_false_iff_ne.mpr e).symm
theorem E6(a b:Str):decide ((Sum.inr a:Key)=Sum.inr b)=decide (a=b):=by
 by_cases e:a=b
 ·subst e;simp
 ·have h:¬(Sum.inr a:Key)=Sum.inr b:=λq=>e (Sum.inr.inj q)
  rw[decide_eq_false h,decide_eq_false e]
theorem Fj(a:Int)(b:Str):decide ((Sum.inl a:Key)=Sum.inr b)=false:=decide_eq_false (λq=>nomatch q)
theorem E2(a:Str)(b:Int):decide ((Sum.inr a:Key)=Sum.inl b)=false:=decide_eq_false (λq=>nomatch q)
def mixKind(prog:Program)(w:World):PySem.KeyKind prog w Key where
 is:=keyIs
 hash:=keyH w
 inj:=λv a b ha hb=>by
  rcases tI ha with ⟨i,t,rfl,rfl⟩|⟨x,t,rfl,rfl⟩
  ·rcases tI hb with ⟨j,u,rfl,e⟩|⟨y,u,rfl,e⟩
   ·injection e with e1 _;rw[e1]
   ·exact nomatch e
  ·rcases tI hb with ⟨j,u,rfl,e⟩|⟨y,u,rfl,e⟩
   ·exact nomatch e
   ·injection e with e1 _;rw[e1]
 byValue:=λk v h=>by
  rcases tI h with ⟨i,t,rfl,rfl⟩|⟨x,t,rfl,rfl⟩ <;>rfl
 pyHash:=λhv h=>by
  rcases tI hv with ⟨i,t,rfl,rfl⟩|⟨x,t,rfl,rfl⟩
  ·exact wpAny_pyHash_int h
  ·exact wpAny_pyHash_str h
 eqBool:=λhu hv h=>by
  rcases tI hu with ⟨i,t,rfl,rfl⟩|⟨x,t,rfl,rfl⟩
  ·rcases tI hv with ⟨j,u,rfl,rfl⟩|⟨y,u,rfl,rfl⟩
   ·rw[FH]at h;exact wpAny_eqBool_int h
   ·rw[Fj]at h;exact SeqAt.EqAt.int_str i t y u _ _ _ _ h
  ·rcases tI hv with ⟨j,u,rfl,rfl⟩|⟨y,u,rfl,rfl⟩
   ·rw[E2]at h;exact SeqAt.EqAt.str_int x t j u _ _ _ _ h
   ·rw[E6]at h;exact wpAny_eqBool_str h
 «strs»:=λk x t v h=>by
  rcases tI h with ⟨i,u,rfl,e⟩|⟨y,u,rfl,e⟩
  ·exact nomatch e
  ·injection e with e1 _
   subst e1
   cases v <;>rfl
theorem Av(prog:Program)(w:World)(k:Key)(v:Value):(mixKind prog w).is k v=keyIs k v:=rfl
theorem y_(prog:Program)(w:World)(i:Int)(t:Tok):(mixKind prog w).is (.inl i) (.int i t)=true:=Bn i t
theorem yg(prog:Program)(w:World)(x:Str)(t:Tok):(mixKind prog w).is (.inr x) (.str x t)=true:=Bj x t
end L2
namespace L2
open PySem PySem.Spec PyProof.Rows
inductive V where
 | non|bl (b:Bool)|int (i:Int)|str (x:Str)|byt (b:Array UInt8)|flt (b:UInt64)|ref (a:Addr)|ty (n:String)
 deriving DecidableEq
def RelV:V->Value->Prop
 | .non,u=>u=Value.none
 | .bl b,u=>u=Value.bool b
 | .int i,u=>∃t,u=Value.int i t
 | .str x,u=>∃t,u=Value.str x t
 | .byt b,u=>∃t,u=Value.bytes b t
 | .flt b,u=>∃t,u=Value.float b t
 | .ref a,u=>u=Value.ref a
 | .ty n,u=>u=Value.type n
abbrev Vals:List V->List Value->Prop:=Paired RelV
theorem Vals.length{xs:List V}{us:List Value}(r:Vals xs us):xs.length=us.length:=Paired.length r
theorem Vals.get:∀{xs:List V}{us:List Value}{i:Nat}{x:V},Vals xs us->xs[i]?=some x->∃u,us[i]?=some u/\RelV x u
 | _,_,_,_,.nil,e=>by simp at e
 | _,_,0,_,.cons r _,e=>by simp at e;subst e;exact⟨_,rfl,r⟩
 | _,_,i+1,x,.cons _ t,e=>by
  obtain⟨u,h1,h2⟩:=Vals.get (i:=i) (x:=x) t (by simpa using e)
  exact⟨u,by simpa using h1,h2⟩
theorem Vals.set{x:V}{u:Value}(r:RelV x u):∀{xs:List V}{us:List Value}(i:Nat),Vals xs us->Vals (xs.set i x) (us.set i u)
 | _,_,_,.nil=>.nil
 | _,_,0,.cons _ t=>.cons r t
 | _,_,i+1,.cons q t=>.cons q (Vals.set r i t)
theorem Vals.append:∀{xs ys:List V}{us ws:List Value},Vals xs us->Vals ys ws->Vals (xs++ys) (us++ws)
 | _,_,_,_,.nil,s=>s
 | _,_,_,_,.cons r t,s=>.cons r (Vals.append t s)
def RelO:Option V->Option Value->Prop
 | some v,some u=>RelV v u
 | none,none=>True
 | _,_=>False
def KV{κ:Type}:List (κ×V)->List (κ×Value)->Prop:=Paired λ(p:κ×V)(q:κ×Value)=>p.1=q.1/\RelV p.2 q.2
def kV:Key->V
 | .inl i=>.int i
 | .inr x=>.str x
inductive HO where
  | lst (xs:List V)
  | tup (xs:List V)
  | dK (kvs:List (Key×V))|dT (kvs:List (List Key×V))
  | set (S:Int->Bool) (n:Nat)
  | ins (C dx:Addr) (fs:List (Str×V))
  | own (x:Addr)
  | xd (fs:List (Str×V))
  | met (f x:Addr)
  | rng (lo hi:Int)
  | frz (o:Obj) (u:HO)
  | tbl (ps:Array Value)
  | ext (φ:Heap->Prop)
abbrev Hp:=Addr->Option HO
def upd(H:Hp)(a:Addr)(o:HO):Hp:=λb=>if b=a then some o else H b
theorem ss{H:Hp}{a:Addr}{o:HO}:upd H a o a=some o:=by unfold upd;rw[if_pos rfl]
theorem sD{H:Hp}{a b:Addr}{o:HO}(h:b≠a):upd H a o b=H b:=by unfold upd;rw[if_neg h]
theorem tR{H:Hp}{a b:Addr}{o u:HO}(h:H a=some o)(h':H b=some u)(d:o≠u):a≠b:=by
 intro e;subst e;rw[h]at h';exact d (Option.some.inj h')
theorem sC{H:Hp}{a b:Addr}{o:HO}(h:H a=some o)(h':H b=none):a≠b:=by
 intro e;subst e;rw[h]at h';cases h'
section
variable(P:Program)(w:World)
def ObjOk(H:Hp)(h:Heap)(a:Addr):HO->Prop
 | .lst xs=>xs.length<=sizeLine/\∃(its:List Value)(n:Nat),Vals xs its/\h.get? a=some { cls:=.type "list",data:=.seq its.toArray n }
 | .tup xs=>xs.length<=sizeLine/\∃its:List Value,Vals xs its/\IsTup h a its.toArray
 | .dK kvs=>kvs.length<=sizeLine/\(a==sysModules)=false/\∃vs,KV kvs vs/\h.DictOf (mixKind P w) a vs
 | .dT kvs=>kvs.length<=sizeLine/\(a==sysModules)=false/\∃xs:List (List Key×Addr×Value),
   Paired (λ(p:List Key×V)(q:List Key×Addr×Value)=>p.1=q.1/\H q.2.1=some (.tup (p.1.map kV))/\RelV p.2 q.2.2) kvs xs /\
   ∃o es ep,h.get? a=some o/\o.ExactDict/\o.data=.dict es ep/\es.toList=xs.map (entryOfKey (tupleKind (mixKind P w)))/\(xs.map (·.1)).Nodup
 | .set S n=>h.SetOf (intKind P w) a S n
 | .ins C dx fs=>H dx=some (.own a)/\fs.length<=1000/\dx≠a/\h.get? a=some (PySem.W.instObj C dx) /\
   ∃mA,h.Ns1 dx mA/\(∀f,RelO (fs.lookup f) (mA f))/\PySem.Within mA (fs.map (·.1))
 | .own _=>∃o,h.get? a=some o
 | .xd fs=>∃mA,h.Ns1 a mA/\∀f,RelO (fs.lookup f) (mA f)
 | .rng lo hi=>∃t u v,h.get? a=some { cls:=.type "range",data:=.fields #[.int lo t,.int hi u,.int 1 v] }
 | .frz o u=>h.get? a=some o/\ObjOk H h a u
 | .tbl ps=>h.get? a=some { cls:=.none,data:=.fields ps }
 | .met f x=>h.get? a=some (PySem.W.methodObj (.ref f) (.ref x))
 | .ext φ=>φ h/\(∃o,h.get? a=some o)/\∀h1 h2:Heap,φ h1->(∀o,h1.get? a=some o->h2.get? a=some o)->φ h2
def HOk(H:Hp)(h:Heap):Prop:=∀a o,H a=some o->ObjOk P w H h a o
end
section
variable{P:Program}{w:World}{H H':Hp}{h h':Heap}{a:Addr}{o:HO}
theorem ObjOk.lt(x:ObjOk P w H h a o):a<h.objs.size:=by
 cases o with
 | lst xs=>obtain⟨_,_,_,_,e⟩:=x;exact Heap.lt_size e
 | tup xs=>obtain⟨_,_,_,p⟩:=x;exact p.lt
 | dK kvs=>obtain⟨_,_,_,_,o,_,_,e,_⟩:=x;exact Heap.lt_size e
 | dT kvs=>obtain⟨_,_,_,_,o,_,_,e,_⟩:=x;exact Heap.lt_size e
 | set S n=>obtain⟨o,_,_,_,e,_⟩:=x;exact Heap.lt_size e
 | ins C dx fs=>obtain⟨_,_,_,e,_⟩:=x;exact Heap.lt_size e
 | own y=>obtain⟨_,e⟩:=x;exact Heap.lt_size e
 | xd fs=>obtain⟨_,⟨_,_,_,e,_⟩,_⟩:=x;exact Heap.lt_size e
 | rng lo hi=>obtain⟨_,_,_,e⟩:=x;exact Heap.lt_size e
 | frz ob u=>obtain⟨e,_⟩:=x;exact Heap.lt_size e
 | tbl ps=>exact Heap.lt_size (show h.get? a=some _ from x)
 | met f y=>exact Heap.lt_size (show h.get? a=some _ from x)
 | ext φ=>obtain⟨_,⟨_,e⟩,_⟩:=x;exact Heap.lt_size e
theorem Paired.mapP{α β:Type}{F G:α->β->Prop}:∀{l₁:List α}{l₂:List β},Paired F l₁ l₂->(∀a b,F a b->G a b)->Paired G l₁ l₂
 | _,_,.nil,_=>.nil
 | _,_,.cons r t,f=>.cons (f _ _ r) (Paired.mapP t f)
theorem ObjOk.stay(x:ObjOk P w H h a o)(k:∀b u,(b=a\/H b=some (.own a))->h.get? b=some u->h'.get? b=some u)
  (ho:∀b,H b=some (.own a)->H' b=some (.own a)) (ht:∀b xs,H b=some (.tup xs)->H' b=some (.tup xs)):ObjOk P w H' h' a o:=by
 induction o with
 | lst xs=>obtain⟨z,its,n,r,e⟩:=x;exact⟨z,its,n,r,k _ _ (.inl rfl) e⟩
 | tup xs=>obtain⟨z,its,r,ob,e,c⟩:=x;exact⟨z,its,r,ob,k _ _ (.inl rfl) e,c⟩
 | dK kvs=>obtain⟨z,y,vs,r,ob,es,ep,e,c⟩:=x;exact⟨z,y,vs,r,ob,es,ep,k _ _ (.inl rfl) e,c⟩
 | dT kvs =>
  obtain⟨z,y,xs,r,ob,es,ep,e,c⟩:=x
  exact⟨z,y,xs,Paired.mapP r λp q z=>⟨z.1,ht _ _ z.2.1,z.2.2⟩,ob,es,ep,k _ _ (.inl rfl) e,c⟩
 | set S n=>obtain⟨ob,es,ep,t,e,c⟩:=x;exact⟨ob,es,ep,t,k _ _ (.inl rfl) e,c⟩
 | ins C dx fs =>
  obtain⟨d,z,ne,e,mA,⟨od,es,ep,e2,c⟩,r⟩:=x
  exact⟨ho _ d,z,ne,k _ _ (.inl rfl) e,mA,⟨od,es,ep,k _ _ (.inr d) e2,c⟩,r⟩
 | own y=>obtain⟨ob,e⟩:=x;exact⟨ob,k _ _ (.inl rfl) e⟩
 | xd fs=>obtain⟨mA,⟨od,es,ep,e,c⟩,r⟩:=x;exact⟨mA,⟨od,es,ep,k _ _ (.inl rfl) e,c⟩,r⟩
 | rng lo hi=>obtain⟨t,u,v,e⟩:=x;exact⟨t,u,v,k _ _ (.inl rfl) e⟩
 | frz ob u ih=>obtain⟨e,q⟩:=x;exact⟨k _ _ (.inl rfl) e,ih q⟩
 | tbl ps =>
  have e:h.get? a=some { cls:=.none,data:=.fields ps }:=x
  show h'.get? a=some { cls:=.none,data:=.fields ps }
  exact k a _ (.inl rfl) e
 | met f y =>
  have e:h.get? a=some (PySem.W.methodObj (.ref f) (.ref y)):=x
  show h'.get? a=some (PySem.W.methodObj (.ref f) (.ref y))
  exact k a _ (.inl rfl) e
 | ext φ=>obtain⟨p,⟨o,e⟩,st⟩:=x;exact⟨st _ _ p λo q=>k _ _ (.inl rfl) q,⟨o,k _ _ (.inl rfl) e⟩,st⟩
theorem HOk.lt(x:HOk P w H h)(e:H a=some o):a<h.objs.size:=(x a o e).lt
theorem HOk.fresh(x:HOk P w H h)(e:h.objs.size<=a):H a=none:=by
 cases q:H a with
 | none=>rfl
 | some u=>exact absurd (zS (x.lt q) e) (qP _)
theorem HOk.kept(x:HOk P w H h)(k:∀b u,h.get? b=some u->h'.get? b=some u):HOk P w H h':=λa o e =>
 (x a o e).stay (λb u _ q=>k b u q) (λ_ q=>q) λ_ _ q=>q
theorem HOk.laid(x:HOk P w H h)(k:∀b u,h.get? b=some u->h'.get? b=some u)(hp:h.objs.size<=a)(new:ObjOk P w (upd H a o) h' a o):HOk P w (upd H a o) h':=λb u e=>by
 have hn:=x.fresh hp
 by_cases hb:b=a
 ·subst hb;rw[ss]at e;cases e;exact new
 ·rw[sD hb]at e
  exact(x b u e).stay (λc v _ q=>k c v q) (λc q=>by rw[sD (sC q hn)];exact q) λc xs q=>by rw[sD (sC q hn)];exact q
end
def Rd(H:Hp)(a:Addr)(u:HO):Prop:=H a=some u\/∃o,H a=some (.frz o u)
theorem Rd.ok{P:Program}{w:World}{H:Hp}{h:Heap}{a:Addr}{u:HO}(r:Rd H a u)(x:HOk P w H h):ObjOk P w H h a u:=by
 rcases r with r|⟨o,r⟩
 ·exact x a u r
 ·obtain⟨_,q⟩:=x a _ r
  exact q
def Mut:Option HO->Prop
 | some (.lst _)=>True
 | some (.dK _)=>True
 | some (.dT _)=>True
 | some (.set _ _)=>True
 | some (.ins _ _ _)=>True
 | some (.ext _)=>True
 | _=>False
section
variable{P:Program}{w:World}{H:Hp}{h h':Heap}{x e:Addr}{o':HO}
theorem HOk.write(ok:HOk P w H h)(mu:Mut (H x))(he:e=x\/H e=some (.own x))(k:∀b u,b≠e->h.get? b=some u->h'.get? b=some u)(heo:∃u,h'.get? e=some u)
  (new:ObjOk P w (upd H x o') h' x o'):HOk P w (upd H x o') h':=λb u q=>by
 have nown:∀c y,H c=some (.own y)->c≠x:=λc y r z=>by subst z;rw[r]at mu;exact mu
 have ntup:∀c xs,H c=some (.tup xs)->c≠x:=λc xs r z=>by subst z;rw[r]at mu;exact mu
 by_cases hb:b=x
 ·subst hb;rw[ss]at q;cases q;exact new
 ·rw[sD hb]at q
  by_cases hbe:b=e
  ·have q':H b=some (.own x):=by
    rcases he with z|z
    ·exact absurd (hbe.trans z) hb
    ·rw[hbe];exact z
   rw[q]at q';cases q'
   obtain⟨v,hv⟩:=heo
   exact⟨v,by rw[hbe];exact hv⟩
  ·refine(ok b u q).stay (λc v hc r=>k c v ?_ r) (λc r=>by rw[sD (nown c b r)];exact r) λc xs r=>by rw[sD (ntup c xs r)];exact r
   rcases hc with rfl|hc
   ·exact hbe
   ·rintro rfl
    rcases he with z|z
    ·exact nown c b hc z
    ·rw[hc]at z;cases z;exact hb rfl
end
structure Un(fs ex:List Addr)(H H':Hp)(h h':Heap):Prop where
 keep:∀b o,h.get? b=some o->H b=none->b∉fs->b∉ex->h'.get? b=some o
 slot:∀b o,h.get? b=some o->H b=none->b∈fs->b∉ex->∃sl,h'.get? b=some { o with slots:=sl }
 free:∀b o,h.get? b=some o->H b=none->b∉ex->H' b=none
 there:∀b o,h.get? b=some o->b∉ex->∃o',h'.get? b=some o'
 tups:∀b xs,H b=some (.tup xs)->H' b=some (.tup xs)
 frzs:∀b o u,H b=some (.frz o u)->H' b=some (.frz o u)
 tbls:∀b ps,H b=some (.tbl ps)->∃more,H' b=some (.tbl (ps++more))
section
variable{fs fs' ex ex':List Addr}{H H1 H2:Hp}{h h1 h2 h':Heap}{a x e:Addr}{o:HO}
theorem Un.any(u:Un fs ex H H1 h h1){b:Addr}{ob:Obj}(q:h.get? b=some ob)(n:H b=none)(hx:b∉ex):∃sl,h1.get? b=some { ob with slots:=sl }:=by
 by_cases hb:b∈fs
 ·exact u.slot b ob q n hb hx
 ·exact⟨ob.slots,u.keep b ob q n hb hx⟩
theorem Un.kept(k:∀b u,h.get? b=some u->h'.get? b=some u):Un fs ex H H h h' :=
 ⟨λb ob q _ _ _=>k b ob q,λb ob q _ _ _=>⟨ob.slots,k b ob q⟩,λ_ _ _ n _=>n,λb ob q _=>⟨ob,k b ob q⟩,λ_ _ q=>q,λ_ _ _ q=>q,λ_ ps q=>⟨#[],by rw[q];simp⟩⟩
theorem Un.refl:Un fs ex H H h h:=Un.kept λ_ _ q=>q
theorem Un.laid(k:∀b u,h.get? b=some u->h'.get? b=some u)(hp:h.objs.size<=a)(hn:H a=none):Un fs ex H (upd H a o) h h' where
 keep:=λb u q _ _ _=>k b u q
 slot:=λb u q _ _ _=>⟨u.slots,k b u q⟩
 free:=λb u q n _=>by rw[sD (zW (zS (Heap.lt_size q) hp))];exact n
 there:=λb u q _=>⟨u,k b u q⟩
 tups:=λb xs q=>by rw[sD (sC q hn)];exact q
 frzs:=λb u xs q=>by rw[sD (sC q hn)];exact q
 tbls:=λb ps q=>⟨#[],by rw[sD (sC q hn),q];simp⟩
theorem Un.write(mu:Mut (H x))(he:e=x\/H e=some (.own x))(k:∀b u,b≠e->h.get? b=some u->h'.get? b=some u)(heo:∃u,h'.get? e=some u):Un fs ex H (upd H x o) h h':=by
 have hx:∀b,H b=none->b≠x:=λb n z=>by subst z;rw[n]at mu;exact mu
 have hb:∀b,H b=none->b≠e:=λb n z=>by
  subst z
  rcases he with r|r
  ·exact hx b n r
  ·rw[n]at r;cases r
 have hm:∀b u,H b=some u->¬Mut (some u)->b≠x:=λb u q nm z=>by subst z;rw[q]at mu;exact nm mu
 refine⟨λb u q n _ _=>k b u (hb b n) q,λb u q n _ _=>⟨u.slots,k b u (hb b n) q⟩,λb u q n _=>by rw[sD (hx b n)];exact n,λb u q _=>?_,
  λb xs q=>by rw[sD (hm b _ q λz=>z)];exact q,λb u xs q=>by rw[sD (hm b _ q λz=>z)];exact q,λb ps q=>⟨#[],by rw[sD (hm b _ q λz=>z),q];simp⟩⟩
 by_cases hbe:b=e
 ·subst hbe;exact heo
 ·exact⟨u,k b u hbe q⟩
end
def trk(h:Heap)(H:Hp):List Addr:=(List.range h.objs.size).filter λa=>(H a).isSome
def hidT(h:Heap)(H:Hp):Heap:=PySem.W.hideAll h (trk h H)
theorem BE(h:Heap)(H:Hp):(hidT h H).objs.size=h.objs.size:=PySem.W.hideAll_size _ _
theorem BP{h:Heap}{H:Hp}{b:Addr}{o:Obj}(e:h.get? b=some o)(n:H b=none):(hidT h H).get? b=some o :=
 PySem.W.hideAll_get _ e λhm=>by
  have q:(H b).isSome=true:=(yG.mp hm).2
  rw[n]at q;simp at q
theorem Ey{h:Heap}{H:Hp}{b:Addr}{o:Obj}(e:(hidT h H).get? b=some o):h.get? b=some o/\H b=none:=by
 have e':h.get? b=some o:=PySem.W.of_hideAll (trk h H) e
 refine⟨e',?_⟩
 cases q:H b with
 | none=>rfl
 | some x =>
  have hm:b∈trk h H:=yG.mpr ⟨yO.mpr (Heap.lt_size e'),by simp [q]⟩
  have z:(hidT h H).get? b=none:=PySem.W.hideAll_none (trk h H) hm
  rw[z]at e;cases e
end L2
namespace L2
open PySem PySem.Spec PyProof.Rows
structure Mod(K:PySem.W.Frag)(mg:Str->Option Value)(base:Heap):Prop where
 kin:K.In base
 glob:base.Ns mainGlobals mg
 blt:∃mb,base.Ns builtinsNs mb/\∀x:Str,x ≠ "__name__"->mb x=bootBuiltins x
 nolimit:base.NoLimit
set_option genInjectivity false in
set_option genSizeOf false in
structure Cx where
 prog:Program
 w:World
 K:PySem.W.Frag
 mg:Str->Option Value
 base:Heap
 A:Around
 N:List Str
 s₀:Shared
 H₀:Hp
 env:Env
 outer:List Env
 stack:List Env
 ex:List Addr
 fn:Str->Bool
 calm:Bool
 pn:List (Addr×Obj)
 xe:Value->Shared->Prop
def frs(l:List Env):List Addr:=l.filterMap (·.frame)
abbrev Cx.fs(X:Cx):List Addr:=frs X.outer
def Vis(sc:Scope)(x:Str):Prop:=sc.names.lookup x=some .local\/sc.names.lookup x=some .cell\/sc.names.lookup x=some .free
def Loc(sc:Scope)(x:Str):Prop:=sc.names.lookup x=some .local\/sc.names.lookup x=some .cell
def Look(env:Env)(h:Heap)(m:Str->Option Value)(x:Str)(u:Value):Prop :=
 (env.kindOf x=some .local/\m x=some u)\/((env.kindOf x=some .cell\/env.kindOf x=some .free)/\∃c,env.cells.lookup x=some c/\h.IsCell c (some u))
structure Cx.Ok(X:Cx):Prop where
 mod:Mod X.K X.mg X.base
 kind:X.env.scope.kind=.function
 glob:X.env.globals=mainGlobals
 blt:X.env.builtins=builtinsNs
 above:X.s₀.heap.objs.size<=X.env.locals
 inj:∀x y c,X.env.cells.lookup x=some c->X.env.cells.lookup y=some c->x=y
 has:∀x,(X.env.kindOf x=some .cell\/X.env.kindOf x=some .free)->∃c,X.env.cells.lookup x=some c
 cab:∀x c,X.fn x=true->X.env.cells.lookup x=some c->X.s₀.heap.objs.size<=c
 hd:X.calm=true->X.A.handled=none
 frames:X.A.frames=some X.stack
 stk:X.stack=X.outer\/(X.stack=X.env::X.outer/\X.env.frame=some X.env.locals)
 exf:∀b∈X.ex,b≠X.env.locals/\∀x c,X.env.cells.lookup x=some c->c≠b
 bs:∀b o,X.base.get? b=some o->X.s₀.heap.get? b=some o/\X.H₀ b=none
 bsz:X.base.objs.size<=X.s₀.heap.objs.size
 noex:∀b o,X.base.get? b=some o->b∉X.ex
 exfs:∀b∈X.ex,b∉X.fs
 funs:X.s₀.heap.FunFrames X.base X.outer
 frf:∀b∈X.fs,X.H₀ b=none
structure Inv(X:Cx)(pins:List (Addr×Obj))(σ:List (Option V))(H:Hp)(s:Shared):Prop where
 ok:X.Ok
 os:s.os=X.s₀.os
 bare:AllBare s.gens
 base:Un X.fs X.ex X.H₀ H X.s₀.heap s.heap
 loc:∃m,s.heap.Ns X.env.locals m/\∀(i:Nat)(x:Str)(v:V),X.N[i]?=some x->σ[i]?=some (some v)->Vis X.env.scope x->∃u,RelV v u/\Look X.env s.heap m x u
 cell:∀x c,X.env.cells.lookup x=some c->∃v,s.heap.IsCell c v
 free:H X.env.locals=none
 freeC:∀x c,X.env.cells.lookup x=some c->H c=none
 pin:∀p∈X.pn++pins,s.heap.get? p.1=some p.2/\H p.1=none/\p.1≠X.env.locals/\p.1∉X.fs/\∀v,p.2.data≠.cell v
 hok:HOk X.prog X.w H s.heap
 len:σ.length=X.N.length
section
variable{X:Cx}{pins:List (Addr×Obj)}{σ:List (Option V)}{H H':Hp}{s:Shared}{h':Heap}
theorem Cx.Ok.nofr(ok:X.Ok){b:Addr}{o:Obj}(e:X.base.get? b=some o):b∉X.fs:=λhb=>by
 have:=(ok.funs.mem hb).1
 rw[e]at this;cases this
theorem Inv.bs(I:Inv X pins σ H s):∀b o,X.base.get? b=some o->s.heap.get? b=some o/\H b=none:=λb o e =>
 ⟨I.base.keep b o (I.ok.bs b o e).1 (I.ok.bs b o e).2 (I.ok.nofr e) (I.ok.noex b o e),I.base.free b o (I.ok.bs b o e).1 (I.ok.bs b o e).2 (I.ok.noex b o e)⟩
theorem Inv.bk(I:Inv X pins σ H s):∀b o,X.base.get? b=some o->s.heap.get? b=some o:=λb o e=>(I.bs b o e).1
theorem Inv.mod(I:Inv X pins σ H s):Mod X.K X.mg X.base:=I.ok.mod
theorem Inv.kIn(I:Inv X pins σ H s):X.K.In s.heap:=I.ok.mod.kin.keeps I.bk
theorem Inv.nolimit(I:Inv X pins σ H s):s.heap.NoLimit:=I.ok.mod.nolimit.keeps I.bk
theorem Inv.lt(I:Inv X pins σ H s):X.env.locals<s.heap.objs.size:=let ⟨_,hn,_⟩:=I.loc;hn.lt
theorem Inv.sz(I:Inv X pins σ H s):X.s₀.heap.objs.size<=s.heap.objs.size:=z0 I.ok.above (yY I.lt)
theorem Inv.nofs(I:Inv X pins σ H s){a:Addr}(h:s.heap.objs.size<=a):a∉X.fs:=λhb=>by
 obtain⟨_,o,ho,_⟩:=I.ok.funs.mem hb
 exact absurd (zS (Heap.lt_size ho) (z0 I.sz h)) (qP _)
theorem Inv.cne(I:Inv X pins σ H s):∀x c,X.env.cells.lookup x=some c->c≠X.env.locals:=λx c e z=>by
 obtain⟨v,o,ho,hd⟩:=I.cell x c e
 obtain⟨m,⟨o',es,ep,ho',hd',_⟩,_⟩:=I.loc
 rw[z,ho']at ho;cases ho;rw[hd']at hd;cases hd
theorem Inv.funs(I:Inv X pins σ H s):s.heap.FunFrames X.base X.outer:=by
 have all:∀(l:List Env),(∀b∈frs l,b∈X.fs)->X.s₀.heap.FunFrames X.base l->s.heap.FunFrames X.base l:=by
  intro l
  induction l with
  | nil=>intro _ _;trivial
  | cons env r ih =>
   intro hs hl
   obtain⟨hk,⟨L,o,hf,hn,ho,hd⟩,hr⟩:=hl
   have hL:L∈X.fs:=hs L (by unfold frs;rw[q8,hf];exact zJ)
   obtain⟨sl,e⟩:=I.base.slot L o ho (I.ok.frf L hL) hL λz=>I.ok.exfs L z hL
   exact⟨hk,⟨L,_,hf,hn,e,hd⟩,ih (λb hb=>hs b (by unfold frs;rw[q8,hf];exact zL _ hb)) hr⟩
 exact all X.outer (λ_ hb=>hb) I.ok.funs
theorem Inv.stack(I:Inv X pins σ H s):s.heap.FunFrames X.base X.stack:=by
 rcases I.ok.stk with e|⟨e,hf⟩
 ·rw[e];exact I.funs
 ·rw[e]
  obtain⟨m,hn,_⟩:=I.loc
  refine .cons (by rw[I.ok.kind];decide) hf hn ?_ I.funs
  exact Heap.get?_none_of_le (z0 I.ok.bsz I.ok.above)
theorem Inv.stkSub(I:Inv X pins σ H s):∀b∈frs X.stack,b∈X.env.locals::X.fs:=λb hb=>by
 rcases I.ok.stk with e|⟨e,hf⟩
 ·rw[e]at hb;exact zL _ hb
 ·rw[e]at hb
  unfold frs at hb
  rw[q8,hf]at hb
  exact hb
theorem Inv.stkFree(I:Inv X pins σ H s):∀b∈frs X.stack,H b=none:=λb hb=>by
 rcases zR.mp (I.stkSub b hb)with e|hb
 ·rw[e];exact I.free
 ·obtain⟨_,o,ho,_⟩:=I.ok.funs.mem hb
  exact I.base.free b o ho (I.ok.frf b hb) λz=>I.ok.exfs b z hb
theorem Inv.step{g':Array GenState}{t':Nat}{d':Drawn}{ch:List Addr}(I:Inv X pins σ H s)
  (hch:∀b∈ch,(b∈X.ex\/X.s₀.heap.objs.size<=b)/\b≠X.env.locals/\(∀x c,X.env.cells.lookup x=some c->c≠b)/\∀p∈X.pn++pins,p.1≠b)
  (keep:∀b o,b≠X.env.locals->b∉X.fs->b∉ch->s.heap.get? b=some o->H b=none->h'.get? b=some o)
  (slot:∀b o,b≠X.env.locals->b∈X.fs->b∉ch->s.heap.get? b=some o->H b=none->∃sl,h'.get? b=some { o with slots:=sl }) (free:∀b o,b∉ch->s.heap.get? b=some o->H b=none->H' b=none)
  (there:∀b o,b∉ch->s.heap.get? b=some o->∃o',h'.get? b=some o')
  (tups:∀b xs,H b=some (.tup xs)->H' b=some (.tup xs)) (frzs:∀b o u,H b=some (.frz o u)->H' b=some (.frz o u)) (tbls:∀b ps,H b=some (.tbl ps)->∃more,H' b=some (.tbl (ps++more)))
  (ns:∀m,s.heap.Ns X.env.locals m->h'.Ns X.env.locals m) (hok:HOk X.prog X.w H' h') (hg:AllBare g') :
  Inv X pins σ H' { s with heap:=h',gens:=g',drawn:=d',toks:=t' }:=by
 have neL:∀b o,X.s₀.heap.get? b=some o->b≠X.env.locals:=λb o e=>zW (zS (Heap.lt_size e) I.ok.above)
 have neC:∀b o,X.s₀.heap.get? b=some o->b∉X.ex->b∉ch:=λb o e hx hb=>by
  rcases(hch b hb).1 with z|z
  ·exact hx z
  ·exact absurd (zS (Heap.lt_size e) z) (qP _)
 have cellK:∀x c,X.env.cells.lookup x=some c->∀v,s.heap.IsCell c v->h'.IsCell c v:=λx c e v ⟨o,ho,hd⟩=>by
  have nch:c∉ch:=λz=>(hch c z).2.2.1 x c e rfl
  by_cases hc:c∈X.fs
  ·obtain⟨sl,q⟩:=slot c o (I.cne x c e) hc nch ho (I.freeC x c e)
   exact⟨_,q,hd⟩
  ·exact⟨o,keep c o (I.cne x c e) hc nch ho (I.freeC x c e),hd⟩
 refine⟨I.ok,I.os,hg,⟨λb o e n hb hx=>?_,λb o e n hb hx=>?_,λb o e n hx=>?_,λb o e hx=>?_,λb xs e=>tups b xs (I.base.tups b xs e),λb o xs e=>frzs b o xs (I.base.frzs b o xs e),λb ps e=>?_⟩,?_,λx c e=>?_,?_,λx c e=>?_,λp hp=>?_,hok,I.len⟩
 ·exact keep b o (neL b o e) hb (neC b o e hx) (I.base.keep b o e n hb hx) (I.base.free b o e n hx)
 ·obtain⟨sl,e1⟩:=I.base.slot b o e n hb hx
  obtain⟨sl',e2⟩:=slot b _ (neL b o e) hb (neC b o e hx) e1 (I.base.free b o e n hx)
  exact⟨sl',e2⟩
 ·obtain⟨o',e1⟩:=I.base.there b o e hx
  exact free b o' (neC b o e hx) e1 (I.base.free b o e n hx)
 ·obtain⟨o',e1⟩:=I.base.there b o e hx
  exact there b o' (neC b o e hx) e1
 ·obtain⟨m1,e1⟩:=I.base.tbls b ps e
  obtain⟨m2,e2⟩:=tbls b _ e1
  exact⟨m1++m2,by rw[e2,Array.append_assoc]⟩
 ·obtain⟨m,hn,hl⟩:=I.loc
  refine⟨m,ns m hn,λi x v e1 e2 e3=>?_⟩
  obtain⟨u,r,l⟩:=hl i x v e1 e2 e3
  refine⟨u,r,?_⟩
  rcases l with l|⟨k,c,e,z⟩
  ·exact .inl l
  ·exact .inr ⟨k,c,e,cellK x c e _ z⟩
 ·obtain⟨v,z⟩:=I.cell x c e
  exact⟨v,cellK x c e v z⟩
 ·obtain⟨m,⟨o,_,_,ho,_⟩,_⟩:=I.loc
  exact free _ o (λz=>(hch _ z).2.1 rfl) ho I.free
 ·obtain⟨v,o,ho,hd⟩:=I.cell x c e
  exact free c o (λz=>(hch c z).2.2.1 x c e rfl) ho (I.freeC x c e)
 ·obtain⟨e,n,ne,nf,d⟩:=I.pin p hp
  have nch:p.1∉ch:=λz=>(hch p.1 z).2.2.2 p hp rfl
  exact⟨keep p.1 p.2 ne nf nch e n,free p.1 p.2 nch e n,ne,nf,d⟩
theorem Inv.un{t':Nat}(I:Inv X pins σ H s)(u:Un X.fs [] H H' s.heap h')(hok:HOk X.prog X.w H' h'):Inv X pins σ H' { s with heap:=h',toks:=t' }:=by
 obtain⟨m,⟨o,es,ep,ho,r⟩,_⟩:=id I.loc
 obtain⟨sl,hL⟩:=u.any ho I.free (by simp)
 exact I.step (g':=s.gens) (d':=s.drawn) (ch:=[]) (λ_ z=>nomatch z) (λb o _ hb _ e n=>u.keep b o e n hb (by simp)) (λb o _ hb _ e n=>u.slot b o e n hb (by simp)) (λb o _ e n=>u.free b o e n (by simp)) (λb o _ e=>u.there b o e (by simp)) u.tups u.frzs u.tbls (λm' hm=>by
  obtain⟨o',es',ep',ho',r'⟩:=hm
  rw[ho]at ho';cases ho'
  exact⟨_,es',ep',hL,r'⟩) hok I.bare
theorem Inv.call{g':Array GenState}{t':Nat}{d':Drawn}{ch:List Addr}(I:Inv X pins σ H s)(u:Un (frs X.stack) ch H H' s.heap h')(hok:HOk X.prog X.w H' h')(hg:AllBare g')
  (hch:∀b∈ch,(b∈X.ex\/X.s₀.heap.objs.size<=b)/\b≠X.env.locals/\(∀x c,X.env.cells.lookup x=some c->c≠b)/\∀p∈X.pn++pins,p.1≠b) :
  Inv X pins σ H' { s with heap:=h',gens:=g',drawn:=d',toks:=t' }:=by
 obtain⟨m,⟨o,es,ep,ho,r⟩,_⟩:=id I.loc
 obtain⟨sl,hL⟩:=u.any ho I.free λz=>(hch _ z).2.1 rfl
 exact I.step (ch:=ch) hch (λb o hL hb hc e n=>u.keep b o e n (λz=>(zR.mp (I.stkSub b z)).elim hL hb) hc) (λb o _ _ hc e n=>u.any e n hc) (λb o hc e n=>u.free b o e n hc) (λb o hc e=>u.there b o e hc) u.tups u.frzs u.tbls (λm' hm=>by
  obtain⟨o',es',ep',ho',r'⟩:=hm
  rw[ho]at ho';cases ho'
  exact⟨_,es',ep',hL,r'⟩) hok hg
theorem Inv.turned{t':Nat}{it:Addr}(I:Inv X pins σ H s)(k:∀b o,b≠it->s.heap.get? b=some o->h'.get? b=some o)(hn:H it=none)(hL:it≠X.env.locals)
  (h1:it∈X.ex\/X.s₀.heap.objs.size<=it) (h2:∀x c,X.env.cells.lookup x=some c->c≠it) (h3:∀p∈X.pn++pins,p.1≠it):Inv X pins σ H { s with heap:=h',toks:=t' }:=by
 have nit:∀b u,H b=some u->b≠it:=λb u e z=>by rw[z,hn]at e;cases e
 refine I.step (g':=s.gens) (d':=s.drawn) (ch:=[it]) (λb hb=>?_) (λb o _ _ hc e _=>k b o (λz=>hc (by simp [z])) e) (λb o _ _ hc e _=>⟨o.slots,k b o (λz=>hc (by simp [z])) e⟩) (λ_ _ _ _ n=>n)
  (λb o hc e=>⟨o,k b o (λz=>hc (by simp [z])) e⟩) (λ_ _ e=>e) (λ_ _ _ e=>e) (λb ps e=>⟨#[],by rw[e];simp⟩) (λm hm=>?_) (λb u e=>?_) I.bare
 ·have e:b=it:=by simpa using hb
  subst e
  exact⟨h1,hL,h2,h3⟩
 ·obtain⟨o,es,ep,ho,r⟩:=hm
  exact⟨o,es,ep,k _ o (Ne.symm hL) ho,r⟩
 ·refine(I.hok b u e).stay (λc v hc q=>k c v ?_ q) (λ_ q=>q) λ_ _ q=>q
  rcases hc with z|z
  ·rw[z];exact nit b u e
  ·exact nit c _ z
theorem Inv.tok(I:Inv X pins σ H s)(t:Nat):Inv X pins σ H { s with toks:=t }:=I.un (h':=s.heap) (t':=t) Un.refl I.hok
theorem Inv.kept{t':Nat}(I:Inv X pins σ H s)(k:∀b u,s.heap.get? b=some u->h'.get? b=some u):Inv X pins σ H { s with heap:=h',toks:=t' }:=I.un (Un.kept k) (I.hok.kept k)
theorem Inv.laid{a:Addr}{o:HO}{t':Nat}(I:Inv X pins σ H s)(k:∀b u,s.heap.get? b=some u->h'.get? b=some u)(hp:s.heap.objs.size<=a)(new:ObjOk X.prog X.w (upd H a o) h' a o) :
  Inv X pins σ (upd H a o) { s with heap:=h',toks:=t' }:=I.un (Un.laid k hp (I.hok.fresh hp)) (I.hok.laid k hp new)
theorem Inv.write{x e:Addr}{o:HO}{t':Nat}(I:Inv X pins σ H s)(mu:Mut (H x))(he:e=x\/H e=some (.own x))(k:∀b u,b≠e->s.heap.get? b=some u->h'.get? b=some u)(heo:∃u,h'.get? e=some u)
  (new:ObjOk X.prog X.w (upd H x o) h' x o):Inv X pins σ (upd H x o) { s with heap:=h',toks:=t' }:=I.un (Un.write mu he k heo) (I.hok.write mu he k heo new)
theorem Inv.pins_of{pins':List (Addr×Obj)}(I:Inv X pins σ H s)(h:∀p∈pins',s.heap.get? p.1=some p.2/\H p.1=none/\p.1≠X.env.locals/\p.1∉X.fs/\∀v,p.2.data≠.cell v):Inv X pins' σ H s :=
 ⟨I.ok,I.os,I.bare,I.base,I.loc,I.cell,I.free,I.freeC,λp hp=>(yA.mp hp).elim (λz=>I.pin p (qE _ z)) (h p),I.hok,I.len⟩
theorem zm{N:List Str}(hN:N.Nodup){i j:Nat}{x:Str}(a:N[i]?=some x)(b:N[j]?=some x):i=j:=by
 obtain⟨h1,e1⟩:=zD.mp a
 obtain⟨h2,e2⟩:=zD.mp b
 exact(List.getElem_inj hN).mp (e1.trans e2.symm)
theorem BD{M:Model}{A:Around}{E:Value->Shared->Prop}{i:Nat}{x:Str}{v:V}{u:Value}{Q:Unit->Shared->Prop}(I:Inv X pins σ H s)(hN:X.N.Nodup)(hi:X.N[i]?=some x)(hx:Loc X.env.scope x)(r:RelV v u)
  (h:∀s',Inv X pins (σ.set i (some v)) H s'->(∃a,Heap.SameBut a s.heap s'.heap/\(a=X.env.locals\/X.env.cells.lookup x=some a))->Q () s') (hf:X.fn x=true\/X.env.scope.names.lookup x=some .local:=by first|exact .inl rfl|exact .inr rfl|assumption):wpAny M A (storeName X.env x u) Q E s:=by
 obtain⟨m,hn,hl⟩:=id I.loc
 have hcls:(X.env.scope.kind==.class||(X.env.scope.kind==.module&&X.env.locals != X.env.globals))=false:=by rw[I.ok.kind];rfl
 have hiσ:i < σ.length:=by rw[I.len];exact(zD.mp hi).1
 have cne:=I.cne
 have tracked:∀{a:Addr}{h':Heap},(∃o,s.heap.get? a=some o/\H a=none)->Heap.SameBut a s.heap h'->HOk X.prog X.w H h':=fun {a h'} ha hs b ob e=>by
  obtain⟨_,_,hfree⟩:=ha
  refine(I.hok b ob e).stay (λc w' hc q=>(hs.2 c ?_).trans q) (λ_ q=>q) λ_ _ q=>q
  rintro rfl
  rcases hc with rfl|hc
  ·rw[hfree]at e;cases e
  ·rw[hfree]at hc;cases hc
 rcases hx with hk|hk
 ·refine wpAny_storeName_local hk hn (λh' hn' hs=>?_) hcls
  obtain⟨oL,_,_,hoL,_⟩:=id hn
  refine h _ ⟨I.ok,I.os,I.bare,⟨λb o e n hb hx=>?_,λb o e n hb hx=>?_,I.base.free,λb o e hx=>?_,I.base.tups,I.base.frzs,I.base.tbls⟩,⟨_,hn',λj y v' e1 e2 e3=>?_⟩,λy c e=>?_,I.free,I.freeC,λp hp=>?_,tracked ⟨oL,hoL,I.free⟩ hs,by simpa using I.len⟩ ⟨_,hs,.inl rfl⟩
  ·exact(hs.2 b (zW (zS (Heap.lt_size e) I.ok.above))).trans (I.base.keep b o e n hb hx)
  ·obtain⟨sl,e1⟩:=I.base.slot b o e n hb hx
   exact⟨sl,(hs.2 b (zW (zS (Heap.lt_size e) I.ok.above))).trans e1⟩
  ·obtain⟨o',e1⟩:=I.base.there b o e hx
   exact⟨o',(hs.2 b (zW (zS (Heap.lt_size e) I.ok.above))).trans e1⟩
  ·by_cases hj:j=i
   ·subst hj
    rw[hi]at e1;cases e1
    rw[qJ hiσ]at e2
    cases e2
    exact⟨u,r,.inl ⟨hk,by simp⟩⟩
   ·rw[qX (Ne.symm hj)]at e2
    obtain⟨u',r',q⟩:=hl j y v' e1 e2 e3
    refine⟨u',r',?_⟩
    rcases q with ⟨k,e⟩|⟨k,c,e,z⟩
    ·refine .inl ⟨k,?_⟩
     have:y≠x:=λe=>hj (zm hN e1 (e▸hi))
     simp [this,e]
    ·exact .inr ⟨k,c,e,z.sameBut hs (cne y c e)⟩
  ·obtain⟨w',z⟩:=I.cell y c e
   exact⟨w',z.sameBut hs (cne y c e)⟩
  ·obtain⟨e,n,ne,nf,d⟩:=I.pin p hp
   exact⟨(hs.2 p.1 ne).trans e,n,ne,nf,d⟩
 ·have hfn:X.fn x=true:=by
   rcases hf with z|z
   ·exact z
   ·rw[z]at hk;cases hk
  obtain⟨c,hc⟩:=I.ok.has x (.inl hk)
  obtain⟨w',z⟩:=I.cell x c hc
  refine wpAny_storeName_cell I.ok.kind hk hc z (λh' hc' hs=>?_)
  obtain⟨oc,hoc,hocd⟩:=id z
  refine h { s with heap:=h' } ⟨I.ok,I.os,I.bare,⟨λb o e n hb hx=>?_,λb o e n hb hx=>?_,I.base.free,λb o e hx=>?_,I.base.tups,I.base.frzs,I.base.tbls⟩,⟨m,hn.sameBut hs (Ne.symm (cne x c hc)),λj y v' e1 e2 e3=>?_⟩,λy c' e=>?_,I.free,I.freeC,λp hp=>?_,tracked ⟨oc,hoc,I.freeC x c hc⟩ hs,by simpa using I.len⟩ ⟨c,hs,.inr hc⟩
  ·exact(hs.2 b (zW (zS (Heap.lt_size e) (I.ok.cab x c hfn hc)))).trans (I.base.keep b o e n hb hx)
  ·obtain⟨sl,e1⟩:=I.base.slot b o e n hb hx
   exact⟨sl,(hs.2 b (zW (zS (Heap.lt_size e) (I.ok.cab x c hfn hc)))).trans e1⟩
  ·obtain⟨o',e1⟩:=I.base.there b o e hx
   exact⟨o',(hs.2 b (zW (zS (Heap.lt_size e) (I.ok.cab x c hfn hc)))).trans e1⟩
  ·by_cases hj:j=i
   ·subst hj
    rw[hi]at e1;cases e1
    rw[qJ hiσ]at e2
    cases e2
    exact⟨u,r,.inr ⟨.inl hk,c,hc,hc'⟩⟩
   ·rw[qX (Ne.symm hj)]at e2
    obtain⟨u',r',q⟩:=hl j y v' e1 e2 e3
    refine⟨u',r',?_⟩
    rcases q with q|⟨k,c',e,z'⟩
    ·exact .inl q
    ·refine .inr ⟨k,c',e,z'.sameBut hs ?_⟩
     rintro rfl
     exact hj (zm hN e1 (I.ok.inj _ _ _ e hc▸hi))
  ·by_cases hcc:c'=c
   ·subst hcc;exact⟨_,hc'⟩
   ·obtain⟨w2,z2⟩:=I.cell y c' e
    exact⟨w2,z2.sameBut hs hcc⟩
  ·obtain⟨e,n,ne,nf,d⟩:=I.pin p hp
   refine⟨(hs.2 p.1 ?_).trans e,n,ne,nf,d⟩
   intro q
   rw[q,hoc]at e
   have q':oc=p.2:=Option.some.inj e
   exact d w' (by rw[←q'];exact hocd)
theorem yo{M:Model}{A:Around}{E:Value->Shared->Prop}{i:Nat}{x:Str}{v:V}{u:Value}{Q:Unit->Shared->Prop}(I:Inv X pins σ H s)(hN:X.N.Nodup)(hi:X.N[i]?=some x)(hx:Loc X.env.scope x)(r:RelV v u)
  (h:∀s',Inv X pins (σ.set i (some v)) H s'->Q () s') (hf:X.fn x=true\/X.env.scope.names.lookup x=some .local:=by first|exact .inl rfl|exact .inr rfl|assumption):wpAny M A (storeName X.env x u) Q E s :=
 BD I hN hi hx r (λs' I' _=>h s' I') hf
theorem Inv.call'{s':Shared}{ch:List Addr}(I:Inv X pins σ H s)(ho:s'.os=s.os)(u:Un (frs X.stack) ch H H' s.heap s'.heap)(hok:HOk X.prog X.w H' s'.heap)(hg:AllBare s'.gens)
  (hch:∀b∈ch,(b∈X.ex\/X.s₀.heap.objs.size<=b)/\b≠X.env.locals/\(∀x c,X.env.cells.lookup x=some c->c≠b)/\∀p∈X.pn++pins,p.1≠b):Inv X pins σ H' s':=by
 obtain⟨h',g',d',t',o'⟩:=s'
 have e:o'=s.os:=ho
 subst e
 exact I.call (g':=g') (t':=t') (d':=d') u hok hg hch
end
abbrev XK:=Value->Option Addr->Hp->Prop
abbrev St:=List (Option V)
abbrev VK:=V->Hp->Prop
abbrev TE:=St->Hp->VK->Prop
abbrev TT:=St->Hp->(Bool->Hp->Prop)->Prop
abbrev TA:=St->Hp->(List V->Hp->Prop)->Prop
set_option genInjectivity false in
set_option genSizeOf false in
structure Ends where
 nx:St->Hp->Prop
 rt:VK
 bk:St->Hp->Prop:=λ_ _=>False
 ct:St->Hp->Prop:=λ_ _=>False
abbrev TS:=Ends->St->Hp->Prop
inductive EP(X:Cx)(pins:List (Addr×Obj))(σ:St)(Q:VK)(u:Value)(s':Shared):Prop where
 | mk (v H':_) (h_0:Inv X pins σ H' s') (h_1:RelV v u) (h_2:Q v H'):EP X pins σ Q u s'
inductive TP(X:Cx)(pins:List (Addr×Obj))(σ:St)(Q:Bool->Hp->Prop)(b:Bool)(s':Shared):Prop where
 | mk (H':_) (h_0:Inv X pins σ H' s') (h_1:Q b H'):TP X pins σ Q b s'
inductive AP(X:Cx)(pins:List (Addr×Obj))(σ:St)(Q:List V->Hp->Prop)(us:List Value)(s':Shared):Prop where
 | mk (vs H':_) (h_0:Inv X pins σ H' s') (h_1:Vals vs us) (h_2:Q vs H'):AP X pins σ Q us s'
def SP(X:Cx)(pins:List (Addr×Obj))(D:Ends)(f:Flow)(s':Shared):Prop :=
 match f with
 | .next=>∃σ' H',Inv X pins σ' H' s'/\D.nx σ' H'
 | .brk=>∃σ' H',Inv X pins σ' H' s'/\D.bk σ' H'
 | .cont=>∃σ' H',Inv X pins σ' H' s'/\D.ct σ' H'
 | .ret u=>∃v σ' H',Inv X pins σ' H' s'/\RelV v u/\D.rt v H'
def PE(X:Cx)(e:Expr)(t:TE):Prop :=
 ∀(pins:List (Addr×Obj))(s:Shared)(σ:St)(H:Hp)(Q:VK),Inv X pins σ H s->t σ H Q->wpAny (model X.prog X.w) X.A (eval e X.env) (EP X pins σ Q) X.xe s
def PT(X:Cx)(e:Expr)(t:TT):Prop :=
 ∀(pins:List (Addr×Obj))(s:Shared)(σ:St)(H:Hp)(Q:Bool->Hp->Prop),Inv X pins σ H s->t σ H Q->wpAny (model X.prog X.w) X.A (isTrue e X.env (eval e X.env)) (TP X pins σ Q) X.xe s
def PW(X:Cx)(e:Expr)(t:TT):Prop :=
 ∀(whole:Sem Value)(pins:List (Addr×Obj))(s:Shared)(σ:St)(H:Hp)(Q:Bool->Hp->Prop),Inv X pins σ H s->t σ H Q->wpAny (model X.prog X.w) X.A (isTrue e X.env whole) (TP X pins σ Q) X.xe s
theorem PW.pt{X:Cx}{e:Expr}{t:TT}(h:PW X e t):PT X e t:=h _
def PA(X:Cx)(es:List Expr)(t:TA):Prop :=
 ∀(pos:Pos)(pins:List (Addr×Obj))(s:Shared)(σ:St)(H:Hp)(Q:List V->Hp->Prop),Inv X pins σ H s->t σ H Q->wpAny (model X.prog X.w) X.A (spliced (backTo pos (starEach es X.env))) (AP X pins σ Q) X.xe s
def PS(X:Cx)(st:Stmt)(t:TS):Prop :=
 ∀(pins:List (Addr×Obj))(s:Shared)(σ:St)(H:Hp)(D:Ends),Inv X pins σ H s->t D σ H->wpAny (model X.prog X.w) X.A (exec st X.env) (SP X pins D) X.xe s
def PSs(X:Cx)(st:List Stmt)(t:TS):Prop :=
 ∀(pins:List (Addr×Obj))(s:Shared)(σ:St)(H:Hp)(D:Ends),Inv X pins σ H s->t D σ H->wpAny (model X.prog X.w) X.A (execs st X.env) (SP X pins D) X.xe s
theorem thn{α:Type}{t:Sem α}{Q Q':α->Shared->Prop}{M:Model}{A:Around}{E:Value->Shared->Prop}{s:Shared}(h:wpAny M A t Q E s)(hQ:∀a s,Q a s->Q' a s):wpAny M A t Q' E s:=wpAny_mono h hQ λ_ _ x=>x
end L2
namespace L2
open PySem PySem.Spec PyProof.Rows
section
variable{X:Cx}
inductive tVar(i:Nat)(σ:St)(H:Hp)(Q:VK):Prop where
 | mk (v:_) (h_0:σ[i]?=some (some v)) (h_1:Q v H):tVar i σ H Q
def tC(v:V):TE:=λ_ H Q=>Q v H
theorem Fv{i:Nat}{x:Str}{pos:Pos}(hN:X.N[i]?=some x)(hv:Vis X.env.scope x)(hd:(x==("__debug__":Str))=false:=by decide)(hcd:(x==("__classdict__":Str))=false:=by decide):PE X (.Name x pos) (tVar i):=by
 intro pins s σ H Q I h
 obtain⟨v,e,h⟩:=h
 obtain⟨m,hn,hl⟩:=I.loc
 obtain⟨u,r,l⟩:=hl i x v hN e hv
 have fin:EP X pins σ Q u s:=⟨v,H,I,r,h⟩
 rcases l with ⟨hk,hm⟩|⟨hk,c,hc,hcell⟩
 ·exact wpAny_Name (wpAny_loadName_local I.ok.kind hk hn hm fin) hd
 ·rcases hk with hk|hk
  ·exact wpAny_Name (wpAny_loadName_cell I.ok.kind hk hc hcell fin) hd
  ·exact wpAny_Name (wpAny_loadName_free I.ok.kind hk hc hcell fin hcd) hd
theorem sg{i j pos}:PE X (.Constant (.int i) j pos) (tC (.int i)):=λ_ _ _ H _ I h=>wpAny_Constant_int ⟨.int i,H,I.tok _,⟨_,rfl⟩,h⟩
theorem wo{b j pos}:PE X (.Constant (.bool b) j pos) (tC (.bl b)):=λ_ _ _ H _ I h=>Constant_bool ⟨.bl b,H,I,rfl,h⟩
theorem tY{j pos}:PE X (.Constant .none j pos) (tC .non):=λ_ _ _ H _ I h=>Constant_none ⟨.non,H,I,rfl,h⟩
theorem tW{x j pos}:PE X (.Constant (.str x) j pos) (tC (.str x)):=λ_ _ _ H _ I h=>Calls.Constant_str ⟨.str x,H,I.tok _,⟨_,rfl⟩,h⟩
def Gl(X:Cx)(x:Str):Prop:=X.env.kindOf x=some .globalImplicit
theorem wu{E:Value->Shared->Prop}{pins:List (Addr×Obj)}{s:Shared}{σ:St}{H:Hp}{x:Str}{u:Value}{pos:Pos}{Q:Value->Shared->Prop}(I:Inv X pins σ H s)(hg:Gl X x)(hm:X.mg x=some u)(h:Q u s)
  (hd:(x==("__debug__":Str))=false:=by decide):wpAny (model X.prog X.w) X.A (eval (.Name x pos) X.env) Q E s :=
 Calls.Name_function_global I.ok.kind hg (Calls.loadGlobal_global (by rw[I.ok.glob];exact I.mod.glob.keeps I.bk) hm h) hd
theorem uJ{E:Value->Shared->Prop}{pins:List (Addr×Obj)}{s:Shared}{σ:St}{H:Hp}{x:Str}{u:Value}{pos:Pos}{Q:Value->Shared->Prop}(I:Inv X pins σ H s)(hg:Gl X x)(hm:X.mg x=none)(hv:bootBuiltins x=some u)(h:Q u s)
  (hn:x ≠ "__name__":=by decide) (hd:(x==("__debug__":Str))=false:=by decide):wpAny (model X.prog X.w) X.A (eval (.Name x pos) X.env) Q E s:=by
 obtain⟨mb,h1,h2⟩:=I.mod.blt
 exact Calls.Name_function_global I.ok.kind hg (Calls.loadGlobal_builtin (by rw[I.ok.glob];exact I.mod.glob.keeps I.bk) hm (by rw[I.ok.blt];exact h1.keeps I.bk) ((h2 x hn).trans hv) h) hd
theorem vQ{x:Str}{v:V}{u:Value}{pos:Pos}(hg:Gl X x)(hm:X.mg x=some u)(r:RelV v u)(hd:(x==("__debug__":Str))=false:=by decide):PE X (.Name x pos) (tC v) :=
 λ_ _ _ H _ I h=>wu I hg hm ⟨v,H,I,r,h⟩ hd
theorem x9{x:Str}{v:V}{u:Value}{pos:Pos}(hg:Gl X x)(hm:X.mg x=none)(hv:bootBuiltins x=some u)(r:RelV v u)(hn:x ≠ "__name__":=by decide)(hd:(x==("__debug__":Str))=false:=by decide):PE X (.Name x pos) (tC v) :=
 λ_ _ _ H _ I h=>uJ I hg hm hv ⟨v,H,I,r,h⟩ hn hd
variable{a b:Expr}{ta tb:TE}{pos:Pos}
inductive tB_(Q:Bool->Hp->Prop)(x:V)(H1:Hp):Prop where
 | mk (c:_) (h_0:x=.bl c) (h_1:Q c H1):tB_ Q x H1
def tB(t:TE):TT:=fun σ H Q=>t σ H λx H1=>tB_ Q x H1
theorem uI{e:Expr}{t:TE}(h:PE X e t)(he:∀whole,isTrue e X.env whole=(do let v ←whole;standAt e.pos;holding [v] (truthy v)):=by intro _;rfl):PT X e (tB t):=by
 intro pins s σ H Q I hw
 refine isTrue_plain (thn (h pins s σ H _ I hw) λv s1 ⟨x,H1,I1,r1,q1⟩=>?_) (he _)
 obtain⟨d,rfl,q⟩:=q1
 cases r1
 exact wpAny_truthy_bool ⟨H1,I1,q⟩
variable{tA tB':TT}{rest:List Expr}
def tAnd(t u:TT):TT:=fun σ H Q=>t σ H λc H1=>if c=true then u σ H1 Q else Q false H1
def tOr(t u:TT):TT:=fun σ H Q=>t σ H λc H1=>if c=true then Q true H1 else u σ H1 Q
def tNot(t:TT):TT:=fun σ H Q=>t σ H λc H1=>Q (!c) H1
theorem wA(ha:PT X a tA):PW X (.BoolOp .And [a] pos) tA:=by
 intro wh pins s σ H Q I h
 refine isTrue_and (thn (ha pins s σ H Q I h) λc s1 e=>?_)
 cases c with
 | true=>exact isTrue_and_nil e
 | false=>exact e
theorem xM(ha:PT X a tA):PW X (.BoolOp .Or [a] pos) tA:=by
 intro wh pins s σ H Q I h
 refine isTrue_or (thn (ha pins s σ H Q I h) λc s1 e=>?_)
 cases c with
 | false=>exact isTrue_or_nil e
 | true=>exact e
theorem xF(ha:PT X a tA)(hb:PW X (.BoolOp .And (b::rest) pos) tB'):PW X (.BoolOp .And (a::b::rest) pos) (tAnd tA tB'):=by
 intro wh pins s σ H Q I h
 refine isTrue_and (thn (ha pins s σ H _ I h) λc s1 ⟨H1,I1,q1⟩=>?_)
 cases c with
 | true=>exact hb wh pins s1 σ H1 Q I1 q1
 | false=>exact⟨H1,I1,q1⟩
theorem Ba(ha:PT X a tA)(hb:PW X (.BoolOp .Or (b::rest) pos) tB'):PW X (.BoolOp .Or (a::b::rest) pos) (tOr tA tB'):=by
 intro wh pins s σ H Q I h
 refine isTrue_or (thn (ha pins s σ H _ I h) λc s1 ⟨H1,I1,q1⟩=>?_)
 cases c with
 | true=>exact⟨H1,I1,q1⟩
 | false=>exact hb wh pins s1 σ H1 Q I1 q1
theorem C7(ha:PT X a tA):PT X (.UnaryOp .Not a pos) (tNot tA):=by
 intro pins s σ H Q I h
 exact isTrue_not (thn (ha pins s σ H (λc H1=>Q (!c) H1) I h) λc s' ⟨H',I',q'⟩=>⟨H',I',q'⟩)
inductive tAndV_(tb:TE)(σ:St)(Q:VK)(x:V)(H1:Hp):Prop where
 | mk (c:_) (h_0:x=.bl c) (h_1:if c=true then tb σ H1 Q else Q (.bl false) H1):tAndV_ tb σ Q x H1
def tAndV(ta tb:TE):TE:=fun σ H Q=>ta σ H λx H1=>tAndV_ tb σ Q x H1
inductive tOrV_(tb:TE)(σ:St)(Q:VK)(x:V)(H1:Hp):Prop where
 | mk (c:_) (h_0:x=.bl c) (h_1:if c=true then Q (.bl true) H1 else tb σ H1 Q):tOrV_ tb σ Q x H1
def tOrV(ta tb:TE):TE:=fun σ H Q=>ta σ H λx H1=>tOrV_ tb σ Q x H1
theorem Ae{op}{t:TE}(h:PE X a t):PE X (.BoolOp op [a] pos) t:=λpins s σ H Q I hw=>BoolOp_one (h pins s σ H Q I hw)
theorem Cl(ha:PE X a ta)(hb:PE X (.BoolOp .And (b::rest) pos) tb):PE X (.BoolOp .And (a::b::rest) pos) (tAndV ta tb):=by
 intro pins s σ H Q I h
 refine BoolOp_and (thn (ha pins s σ H _ I h) λv s1 ⟨x,H1,I1,r1,q1⟩=>?_)
 obtain⟨c,rfl,q1⟩:=q1
 cases r1
 refine wpAny_truthy_bool ?_
 cases c with
 | true=>exact hb pins s1 σ H1 Q I1 q1
 | false=>exact⟨.bl false,H1,I1,rfl,q1⟩
theorem Gs(ha:PE X a ta)(hb:PE X (.BoolOp .Or (b::rest) pos) tb):PE X (.BoolOp .Or (a::b::rest) pos) (tOrV ta tb):=by
 intro pins s σ H Q I h
 refine BoolOp_or (thn (ha pins s σ H _ I h) λv s1 ⟨x,H1,I1,r1,q1⟩=>?_)
 obtain⟨c,rfl,q1⟩:=q1
 cases r1
 refine wpAny_truthy_bool ?_
 cases c with
 | false=>exact hb pins s1 σ H1 Q I1 q1
 | true=>exact⟨.bl true,H1,I1,rfl,q1⟩
def tIf(t:TT)(ta tb:TE):TE:=fun σ H Q=>t σ H λc H1=>if c=true then ta σ H1 Q else tb σ H1 Q
theorem uM{c:Expr}(hc:PT X c tA)(ha:PE X a ta)(hb:PE X b tb):PE X (.IfExp c a b pos) (tIf tA ta tb):=by
 intro pins s σ H Q I h
 refine wpAny_IfExp (thn (hc pins s σ H _ I h) λd s1 ⟨H1,I1,q1⟩=>?_)
 cases d with
 | true=>exact ha pins s1 σ H1 Q I1 q1
 | false=>exact hb pins s1 σ H1 Q I1 q1
end
end L2
namespace L2
open PySem PySem.Spec PyProof.Rows
def SqL(K:PySem.W.Frag)(H:Hp)(a:Addr)(xs:List V):Prop :=
 Rd H a (.lst xs) \/
  ∃(o:Obj)(its:Array Value)(n:Nat),K.lookup a=some o/\o.cls=.type "list"/\o.dict=none/\o.data=.seq its n/\its.size<=sizeLine/\Vals xs its.toList
def SqT(K:PySem.W.Frag)(H:Hp)(a:Addr)(xs:List V):Prop :=
 Rd H a (.tup xs) \/
  ∃(o:Obj)(its:Array Value)(n:Nat),K.lookup a=some o/\o.cls=.type "tuple"/\o.data=.seq its n/\its.size<=sizeLine/\Vals xs its.toList
def absV:Value->Option V
 | .none=>some .non
 | .bool b=>some (.bl b)
 | .int i _=>some (.int i)
 | .str x _=>some (.str x)
 | .bytes b _=>some (.byt b)
 | .float b _=>some (.flt b)
 | .ref a=>some (.ref a)
 | .type n=>some (.ty n)
 | _=>none
theorem RelV.abs{x:V}{u:Value}(r:RelV x u):absV u=some x:=by
 cases x with
 | non=>cases r;rfl
 | bl _=>cases r;rfl
 | int _=>obtain⟨t,rfl⟩:=r;rfl
 | str _=>obtain⟨t,rfl⟩:=r;rfl
 | byt _=>obtain⟨t,rfl⟩:=r;rfl
 | flt _=>obtain⟨t,rfl⟩:=r;rfl
 | ref _=>cases r;rfl
 | ty _=>cases r;rfl
theorem RelV.inj{x y:V}{u:Value}(r:RelV x u)(q:RelV y u):x=y:=Option.some.inj (r.abs.symm.trans q.abs)
theorem Vals.inj:∀{xs ys:List V}{us:List Value},Vals xs us->Vals ys us->xs=ys
 | _,_,_,.nil,.nil=>rfl
 | _,_,_,.cons r t,.cons r' t'=>by rw[r.inj r',Vals.inj t t']
section
variable{X:Cx}{pins:List (Addr×Obj)}{σ:St}{H:Hp}{s:Shared}{a:Addr}{xs ys:List V}
theorem SqL.of{K:PySem.W.Frag}(h:H a=some (.lst xs)):SqL K H a xs:=.inl (.inl h)
theorem SqT.of{K:PySem.W.Frag}(h:H a=some (.tup xs)):SqT K H a xs:=.inl (.inl h)
theorem Inv.list(I:Inv X pins σ H s)(h:SqL X.K H a xs):∃its:List Value,Vals xs its/\PlainL s.heap a its.toArray/\xs.length<=sizeLine:=by
 rcases h with h|⟨o,its,n,hk,hc,hd,hs,hz,r⟩
 ·obtain⟨z,its,n,r,e⟩:=h.ok I.hok
  exact⟨its,r,⟨_,n,e,rfl,rfl,rfl⟩,z⟩
 ·refine⟨its.toList,r,⟨o,n,I.kIn a o hk,hc,hd,by simpa using hs⟩,?_⟩
  have e:=r.length
  simp only [qI]at e
  omega
theorem Inv.tuple(I:Inv X pins σ H s)(h:SqT X.K H a xs):∃its:List Value,Vals xs its/\IsTup s.heap a its.toArray/\xs.length<=sizeLine:=by
 rcases h with h|⟨o,its,n,hk,hc,hs,hz,r⟩
 ·obtain⟨z,its,r,p⟩:=h.ok I.hok
  exact⟨its,r,p,z⟩
 ·refine⟨its.toList,r,⟨o,I.kIn a o hk,hc,n,by simpa using hs⟩,?_⟩
  have e:=r.length
  simp only [qI]at e
  omega
theorem Inv.list_inj(I:Inv X pins σ H s)(h:SqL X.K H a xs)(h':SqL X.K H a ys):xs=ys:=by
 obtain⟨its,r,⟨o,n,e,_,_,d⟩,_⟩:=I.list h
 obtain⟨its',r',⟨o',n',e',_,_,d'⟩,_⟩:=I.list h'
 rw[e]at e';cases e'
 rw[d]at d'
 injection d' with d1 _
 have:its=its':=by simpa using congrArg Array.toList d1
 subst this
 exact r.inj r'
theorem Inv.tuple_inj(I:Inv X pins σ H s)(h:SqT X.K H a xs)(h':SqT X.K H a ys):xs=ys:=by
 obtain⟨its,r,⟨o,e,_,n,d⟩,_⟩:=I.tuple h
 obtain⟨its',r',⟨o',e',_,n',d'⟩,_⟩:=I.tuple h'
 rw[e]at e';cases e'
 rw[d]at d'
 injection d' with d1 _
 have:its=its':=by simpa using congrArg Array.toList d1
 subst this
 exact r.inj r'
end
abbrev Cx.wish(X:Cx)(E:Value->Shared->Prop):Cx:={ X with xe:=E }
abbrev Cx.nox(X:Cx):Cx:=X.wish λ_ _=>False
theorem Cx.Ok.wish{X:Cx}(ok:X.Ok)(E:Value->Shared->Prop):(X.wish E).Ok :=
 ⟨ok.mod,ok.kind,ok.glob,ok.blt,ok.above,ok.inj,ok.has,ok.cab,ok.hd,ok.frames,ok.stk,ok.exf,ok.bs,ok.bsz,ok.noex,ok.exfs,ok.funs,ok.frf⟩
theorem Cx.Ok.unwish{X:Cx}{E:Value->Shared->Prop}(ok:(X.wish E).Ok):X.Ok :=
 ⟨ok.mod,ok.kind,ok.glob,ok.blt,ok.above,ok.inj,ok.has,ok.cab,ok.hd,ok.frames,ok.stk,ok.exf,ok.bs,ok.bsz,ok.noex,ok.exfs,ok.funs,ok.frf⟩
section
variable{X:Cx}{pins:List (Addr×Obj)}{σ:St}{H:Hp}{s:Shared}{E:Value->Shared->Prop}
theorem Inv.wish(I:Inv X pins σ H s)(E:Value->Shared->Prop):Inv (X.wish E) pins σ H s:=⟨I.ok.wish E,I.os,I.bare,I.base,I.loc,I.cell,I.free,I.freeC,I.pin,I.hok,I.len⟩
theorem Inv.unwish(I:Inv (X.wish E) pins σ H s):Inv X pins σ H s:=⟨I.ok.unwish,I.os,I.bare,I.base,I.loc,I.cell,I.free,I.freeC,I.pin,I.hok,I.len⟩
theorem SP.unwish{D:Ends}{f:Flow}{s':Shared}(h:SP (X.wish E) pins D f s'):SP X pins D f s':=by
 cases f with
 | next=>obtain⟨σ',H',I,q⟩:=h;exact⟨σ',H',I.unwish,q⟩
 | brk=>obtain⟨σ',H',I,q⟩:=h;exact⟨σ',H',I.unwish,q⟩
 | cont=>obtain⟨σ',H',I,q⟩:=h;exact⟨σ',H',I.unwish,q⟩
 | ret u=>obtain⟨v,σ',H',I,r,q⟩:=h;exact⟨v,σ',H',I.unwish,r,q⟩
theorem PSs.nox{st:List Stmt}{t:TS}(h:PSs X.nox st t):PSs X st t:=λpins s σ H D I hw =>
 wpAny_mono (h pins s σ H D (I.wish _) hw) (λ_ _ q=>q.unwish) λ_ _ z=>False.elim z
end
section
variable{X:Cx}{st:Stmt}{rest:List Stmt}{t u:TS}{e:Expr}{te:TE}{pos:Pos}
def tNext:TS:=λD σ H=>D.nx σ H
def tSeq(t u:TS):TS:=λD σ H=>t { D with nx:=u D } σ H
theorem sS:PSs X [] tNext:=λ_ _ σ H _ I h=>wpAny_execs_nil ⟨σ,H,I,h⟩
theorem sq(h1:PS X st t)(h2:PSs X rest u):PSs X (st::rest) (tSeq t u):=by
 intro pins s σ H D I h
 refine wpAny_execs_cons (thn (h1 pins s σ H { D with nx:=u D } I h) λf s1 q=>?_)
 cases f with
 | next =>
  obtain⟨σ',H',I',q⟩:=q
  exact h2 pins s1 σ' H' D I' q
 | ret v=>exact q
 | brk=>exact q
 | cont=>exact q
theorem sy(h1:PS X st t):PSs X [st] t:=by
 intro pins s σ H D I h
 refine wpAny_execs_cons (thn (h1 pins s σ H D I h) λf s1 q=>?_)
 cases f with
 | next=>exact wpAny_execs_nil q
 | ret v=>exact q
 | brk=>exact q
 | cont=>exact q
theorem Inv.quiet{pins:List (Addr×Obj)}{σ:St}{H:Hp}{s:Shared}(I:Inv X pins σ H s):interactive X.env=false:=by simp [interactive,I.ok.kind]
def tDrop(te:TE):TS:=λD σ H=>te σ H λ_ H1=>D.nx σ H1
theorem tM(he:PE X e te)(hs:swapsWith e none pos.line X.env=pure false:=by rfl):PS X (.Expr e pos) (tDrop te):=by
 intro pins s σ H D I h
 exact wpAny_Expr_any (thn (he pins s σ H _ I h) λv s1 ⟨x,H1,I1,r1,q1⟩=>⟨σ,H1,I1,q1⟩) I.quiet hs
def tRet(te:TE):TS:=λD σ H=>te σ H D.rt
theorem sN(he:PE X e te):PS X (.Return (some e) pos) (tRet te):=by
 intro pins s σ H D I h
 exact wpAny_Return_some (thn (he pins s σ H _ I h) λv s1 ⟨x,H1,I1,r1,q1⟩=>⟨x,σ,H1,I1,r1,q1⟩)
def tIfS(c:TT)(t u:TS):TS:=λD σ H=>c σ H λb H1=>if b=true then t D σ H1 else u D σ H1
theorem tG{c:Expr}{a b:List Stmt}{tc:TT}(hc:PT X c tc)(ha:PSs X a t)(hb:PSs X b u):PS X (.If c a b pos) (tIfS tc t u):=by
 intro pins s σ H D I h
 refine wpAny_If (thn (hc pins s σ H _ I h) λd s1 ⟨H1,I1,q1⟩=>?_)
 cases d with
 | true=>exact ha pins s1 σ H1 D I1 q1
 | false=>exact hb pins s1 σ H1 D I1 q1
end
abbrev TG:=V->St->Hp->(St->Hp->Prop)->Prop
abbrev TGs:=List V->St->Hp->(St->Hp->Prop)->Prop
def PG(X:Cx)(target:Expr)(t:TG):Prop :=
 ∀(pins:List (Addr×Obj))(s:Shared)(σ:St)(H:Hp)(v:V)(u:Value)(Q:St->Hp->Prop),Inv X pins σ H s->RelV v u->t v σ H Q ->
  wpAny (model X.prog X.w) X.A (assign target X.env u) (λ_ s'=>∃σ' H',Inv X pins σ' H' s'/\Q σ' H') X.xe s
def PGs(X:Cx)(ts:List Expr)(t:TGs):Prop :=
 ∀(pins:List (Addr×Obj))(s:Shared)(σ:St)(H:Hp)(vs:List V)(us:List Value)(Q:St->Hp->Prop),Inv X pins σ H s->Vals vs us->t vs σ H Q ->
  wpAny (model X.prog X.w) X.A (assignInOrder ((assignEach ts X.env).map (·.2)) us) (λ_ s'=>∃σ' H',Inv X pins σ' H' s'/\Q σ' H') X.xe s
abbrev TSet:=V->V->V->Hp->(Hp->Prop)->Prop
def PSet(X:Cx)(t:TSet):Prop :=
 ∀(pins:List (Addr×Obj))(s:Shared)(σ:St)(H:Hp)(o i v:V)(ov iv u:Value)(Q:Hp->Prop),Inv X pins σ H s->RelV o ov->RelV i iv->RelV v u->t o i v H Q ->
  wpAny (model X.prog X.w) X.A (setItem ov iv u) (λ_ s'=>∃H',Inv X pins σ H' s'/\Q H') X.xe s
section
variable{X:Cx}{pos:Pos}
def gName(i:Nat):TG:=λv σ H Q=>Q (σ.set i (some v)) H
theorem sH{i:Nat}{x:Str}(hN:X.N.Nodup)(hi:X.N[i]?=some x)(hx:Loc X.env.scope x)(hf:X.fn x=true\/X.env.scope.names.lookup x=some .local:=by first|exact .inl rfl|exact .inr rfl|assumption):PG X (.Name x pos) (gName i):=by
 intro pins s σ H v u Q I r h
 exact wpAny_assign_Name (yo I hN hi hx r (λs' I'=>⟨_,H,I',h⟩) hf)
def gNil:TGs:=λvs σ H Q=>vs=[]/\Q σ H
inductive gCons(t:TG)(u:TGs)(vs:List V)(σ:St)(H:Hp)(Q:St->Hp->Prop):Prop where
 | mk (v r:_) (h_0:vs=v::r) (h_1:t v σ H fun σ' H'=>u r σ' H' Q):gCons t u vs σ H Q
theorem x_:PGs X [] gNil:=by
 intro pins s σ H vs us Q I r h
 obtain⟨e,h⟩:=h
 subst e
 cases r
 exact assignInOrder_nil ⟨σ,H,I,h⟩
theorem ux{e:Expr}{es:List Expr}{t:TG}{u:TGs}(h1:PG X e t)(h2:PGs X es u)
  (hs:(assignEach (e::es) X.env).map (·.2)=assign e X.env::(assignEach es X.env).map (·.2):=by rfl):PGs X (e::es) (gCons t u):=by
 intro pins s σ H vs us Q I r h
 obtain⟨v,vr,e1,h⟩:=h
 subst e1
 cases r with
 | cons r rr =>
  rw[hs]
  refine assignInOrder_cons (thn (h1 pins s σ H _ _ _ I r h) λ_ s1 ⟨σ1,H1,I1,q1⟩=>?_)
  exact h2 pins s1 σ1 H1 _ _ Q I1 rr q1
inductive gTup(K:PySem.W.Frag)(n:Nat)(t:TGs)(v:V)(σ:St)(H:Hp)(Q:St->Hp->Prop):Prop where
 | mk (a xs:_) (h_0:v=.ref a) (h_1:SqT K H a xs) (h_2:xs.length=n) (h_3:t xs σ H Q):gTup K n t v σ H Q
theorem Cy{es:List Expr}{k:Nat}{t:TGs}{n:Nat}(hc:X.calm=true)(h:PGs X es t)
  (hn:(assignEach es X.env).length=n:=by rfl) (hst:(assignEach es X.env).findIdx? (·.1)=none:=by rfl):PG X (.Tuple es k pos) (gTup X.K n t):=by
 intro pins s σ H v u Q I r hw
 obtain⟨a,xs,e1,hq,hl,hw⟩:=hw
 subst e1
 cases r
 obtain⟨its,rv,ht,hz⟩:=I.tuple hq
 refine assign_Tuple_tuple (I.ok.hd hc) ht (by simp [hn,←hl,rv.length]) hst λh' hx=>?_
 have I1:Inv X pins σ H { s with heap:=h' }:=I.kept (t':=s.toks) λb o e=>hx b o (zW (Heap.lt_size e)) e
 exact h pins _ σ H xs _ Q I1 (by simpa using rv) hw
def gSub(to ti:TE)(t:TSet):TG:=λv σ H Q=>to σ H λo H1=>ti σ H1 λi H2=>t o i v H2 λH3=>Q σ H3
theorem FI{o i:Expr}{to ti:TE}{t:TSet}(ho:PE X o to)(hi:PE X i ti)(hs:PSet X t)
  (ha:∀v,assign (.Subscript o i pos) X.env v=(do
   let ov ←holding [v] (eval o X.env)
   let iv ←holding [v,ov] (eval i X.env)
   standAt pos
   holding [v,ov,iv] (setItem ov iv v)
   release [v,ov,iv] []):=by intro _;rfl):PG X (.Subscript o i pos) (gSub to ti t):=by
 intro pins s σ H v u Q I r h
 rw[ha]
 refine wpAny_bind (wpAny_holding (thn (ho pins s σ H _ I h) λov s1 ⟨x,H1,I1,r1,q1⟩=>?_))
 refine wpAny_bind (wpAny_holding (thn (hi pins s1 σ H1 _ I1 q1) λiv s2 ⟨y,H2,I2,r2,q2⟩=>?_))
 refine wpAny_bind (wpAny_standAt (wpAny_bind (wpAny_holding (thn (hs pins s2 σ H2 x y v ov iv u _ I2 r1 r2 r q2) λ_ s3 ⟨H3,I3,q3⟩=>?_))))
 exact wpAny_release ⟨σ,H3,I3,q3⟩
def tAsg(te:TE)(g:TG):TS:=λD σ H=>te σ H λx H1=>g x σ H1 D.nx
theorem EU{tg e:Expr}{te:TE}{g:TG}(he:PE X e te)(hg:PG X tg g)(hs:swapsWithSole [tg] e pos.line X.env=pure false:=by rfl)(hw:swappedStores [tg] e X.env=pure none:=by rfl)
  (h1:(assignEach [tg] X.env).map (·.2)=[assign tg X.env]:=by rfl):PS X (.Assign [tg] e pos) (tAsg te g):=by
 intro pins s σ H D I h
 refine wpAny_Assign_stores (thn (he pins s σ H _ I h) λv s1 ⟨x,H1,I1,r1,q1⟩=>?_) hs hw
 rw[h1]
 exact thn (hg pins s1 σ H1 x v _ I1 r1 q1) λ_ s2 q=>q
theorem sL{i:Nat}{x:Str}{e:Expr}{te:TE}{pos':Pos}(hN:X.N.Nodup)(hi:X.N[i]?=some x)(hx:Loc X.env.scope x)(he:PE X e te)(hs:swapsWith e (some (.Name x pos')) pos.line X.env=pure false:=by rfl)(hf:X.fn x=true\/X.env.scope.names.lookup x=some .local:=by first|exact .inl rfl|exact .inr rfl|assumption) :
  PS X (.Assign [.Name x pos'] e pos) (tAsg te (gName i)):=by
 intro pins s σ H D I h
 refine wpAny_Assign_Name (thn (he pins s σ H _ I h) λv s1 ⟨y,H1,I1,r1,q1⟩=>?_) hs
 exact yo I1 hN hi hx r1 (λs2 I2=>⟨_,H1,I2,q1⟩) hf
end
section
variable{X:Cx}{pos:Pos}
def tWhile(c:TT)(tb:TS):TS:=λD σ H=>∃W:Nat->St->Hp->Prop,(∃m,W m σ H)/\∀m σ H,W m σ H ->
 c σ H λb H1=>if b=true then ∃N:St->Hp->Prop,(∀σ' H',N σ' H'->∃m',m'<m/\W m' σ' H')/\tb { D with nx:=N,ct:=N,bk:=D.nx } σ H1 else D.nx σ H1
theorem zd{c:Expr}{body:List Stmt}{tc:TT}{tb:TS}(hp:PassesOwn (model X.prog X.w) X.A X.env X.xe)(hc:PT X c tc)(hb:PSs X body tb):PS X (.While c body [] pos) (tWhile tc tb):=by
 intro pins s σ H D I h
 obtain⟨W,⟨m0,w0⟩,turn⟩:=h
 refine wpAny_While (codeAny_whileLoop (λn s'=>∃σ' H',Inv X pins σ' H' s'/\W n σ' H') ?_ m0 ⟨σ,H,I,w0⟩)
 rintro n s1 ⟨σ1,H1,I1,w1⟩
 refine wpAny_passesOwn hp (thn (hc pins s1 σ1 H1 _ I1 (turn n σ1 H1 w1)) λb s2 ⟨H2,I2,q2⟩=>?_)
 cases b with
 | true =>
  obtain⟨N,hN,q2⟩:=q2
  rw[if_pos rfl]
  refine wpAny_passesOwn hp (thn (hb pins s2 σ1 H2 _ I2 q2) λf s3 q3=>?_)
  cases f with
  | next =>
   obtain⟨σ3,H3,I3,n3⟩:=q3
   obtain⟨m',hm,w3⟩:=hN σ3 H3 n3
   exact⟨m',hm,σ3,H3,I3,w3⟩
  | cont =>
   obtain⟨σ3,H3,I3,n3⟩:=q3
   obtain⟨m',hm,w3⟩:=hN σ3 H3 n3
   exact⟨m',hm,σ3,H3,I3,w3⟩
  | brk=>exact q3
  | ret v=>exact q3
 | false =>
  rw[if_neg zQ]
  exact wpAny_execs_nil ⟨σ1,H2,I2,q2⟩
end
structure It where
 go:Nat->Hp->Prop
 yld:Nat->Hp->V->Hp->Prop
 stop:Nat->Hp->Prop
def FpOk(X:Cx)(pins:List (Addr×Obj))(H:Hp)(b:Addr):Prop :=
 H b=none/\b≠X.env.locals/\b∉X.fs/\(b∈X.ex\/X.s₀.heap.objs.size<=b)/\(∀x c,X.env.cells.lookup x=some c->c≠b)/\∀p∈X.pn++pins,p.1≠b
theorem Inv.fpOk{X:Cx}{pins:List (Addr×Obj)}{σ:St}{H H':Hp}{s:Shared}{b:Addr}(I:Inv X pins σ H s)(hb:s.heap.objs.size<=b)(hn:H' b=none):FpOk X pins H' b:=by
 refine⟨hn,kX (zS I.lt hb),I.nofs hb,.inr (z0 I.sz hb),λx c e z=>?_,λp hp z=>?_⟩
 ·obtain⟨v,q⟩:=I.cell x c e
  exact absurd (zS q.lt (by rw[z];exact hb)) (qP _)
 ·exact absurd (zS (Heap.lt_size (I.pin p hp).1) (by rw[z];exact hb)) (qP _)
structure Turn(P:Program)(w:World)(K:PySem.W.Frag)(tg:Expr)(J:It)(fp:List Addr)(it:Addr)(tn:Nat->Heap->Prop):Prop where
 mem:it∈fp
 obj:∀i h,tn i h->∀b∈fp,∃o,h.get? b=some o/\∀v,o.data≠.cell v
 keep:∀i h h',tn i h->(∀b∈fp,∀o,h.get? b=some o->h'.get? b=some o)->tn i h'
 item:∀(X:Cx),X.prog=P->X.w=w->X.K=K->X.calm=true->∀(i:Nat)(pins:List (Addr×Obj))(s:Shared)(σ:St)(H:Hp)(E:Value->Shared->Prop),Inv X pins σ H s->(∀b∈fp,FpOk X pins H b)->tn i s.heap->J.go i H ->
  wpAny (model P w) X.A (pyNext (.ref it)) (λr s1=>∃u,r=some u /\
   wpAny (model P w) X.A (letOwnedTupleGo tg (.ref it) u) (λ_ s2=>∃x H',Inv X pins σ H' s2/\RelV x u/\J.yld i H x H'/\tn (i+1) s2.heap/\∀b∈fp,H' b=none) E s1) E s
 done:∀(X:Cx),X.prog=P->X.w=w->X.K=K->X.calm=true->∀(i:Nat)(pins:List (Addr×Obj))(s:Shared)(σ:St)(H:Hp)(E:Value->Shared->Prop),Inv X pins σ H s->(∀b∈fp,FpOk X pins H b)->tn i s.heap->J.stop i H ->
  wpAny (model P w) X.A (pyNext (.ref it)) (λr s1=>r=none/\Inv X pins σ H s1) E s
 self:∀(A:Around)(i:Nat)(s:Shared)(Q:Value->Shared->Prop)(E:Value->Shared->Prop),tn i s.heap->Q (.ref it) s->wpAny (model P w) A (pyIter (.ref it)) Q E s
abbrev TI:=St->Hp->(It->Hp->Prop)->Prop
def PIE(X:Cx)(pins:List (Addr×Obj))(σ:St)(tg:Expr)(R:It->Hp->Prop)(itv:Value)(s2:Shared):Prop :=
 ∃(it:Addr)(fp:List Addr)(tn:Nat->Heap->Prop)(J:It)(H':Hp),itv=.ref it/\Inv X pins σ H' s2/\Turn X.prog X.w X.K tg J fp it tn/\tn 0 s2.heap/\(∀b∈fp,FpOk X pins H' b)/\R J H'
def PI(X:Cx)(tg iter:Expr)(wi:TI):Prop :=
 ∀(pins:List (Addr×Obj))(s:Shared)(σ:St)(H:Hp)(R:It->Hp->Prop),Inv X pins σ H s->wi σ H R ->
  wpAny (model X.prog X.w) X.A (eval iter X.env) (λv s1=>wpAny (model X.prog X.w) X.A (pyIter v) (PIE X pins σ tg R) X.xe s1) X.xe s
theorem Db{M:Model}{A:Around}{E:Value->Shared->Prop}{s:Shared}{tg:Expr}{it:Addr}{u:Value}{o:Obj}{n:String}{vs:Array Value}{Q:Unit->Shared->Prop}(ho:s.heap.get? it=some o)(hc:o.cls=.type n)(hd:o.data=.fields vs)
  (hn:["enumerate","zip","dict_itemiterator","dict_reverseitemiterator","odict_iterator","itertools.zip_longest","itertools.pairwise"].contains n=false) (hQ:Q () s):wpAny M A (letOwnedTupleGo tg (.ref it) u) Q E s:=by
 unfold letOwnedTupleGo
 cases tg <;>first
  | exact wpAny_pure hQ
  | (cases u <;>first
    | exact wpAny_pure hQ
    | (refine wpAny_bind (wpAny_load ho ?_)
       rw[hc,hd]
       show wpAny M A (if (["enumerate","zip","dict_itemiterator","dict_reverseitemiterator","odict_iterator","itertools.zip_longest","itertools.pairwise"].contains n&&vs[0]?==some (rawInt _))=true then _ else _) Q E s
       rw[if_neg (by intro h;rw[hn,Bool.false_and]at h;cases h)]
       exact wpAny_pure hQ))
def Itl(K:PySem.W.Frag)(a:Addr):It :=
 ⟨λi H=>∃xs x,SqL K H a xs/\xs[i]?=some x,λi H x H'=>H'=H/\∀xs,SqL K H a xs->xs[i]?=some x,λi H=>∃xs,SqL K H a xs/\xs.length<=i⟩
def Itt(K:PySem.W.Frag)(a:Addr):It :=
 ⟨λi H=>∃xs x,SqT K H a xs/\xs[i]?=some x,λi H x H'=>H'=H/\∀xs,SqT K H a xs->xs[i]?=some x,λi H=>∃xs,SqT K H a xs/\xs.length<=i⟩
def Itr(lo:Int)(n:Nat):It:=⟨λi _=>i<n,λi H x H'=>H'=H/\x=.int (lo+i),λi _=>n<=i⟩
theorem Bi{P:Program}{w:World}{K:PySem.W.Frag}{tg:Expr}(a it:Addr):Turn P w K tg (Itl K a) [it] it (λi h=>h.IsListIter it a i) where
 mem:=by simp
 obj:=λi h st b hb=>by
  have e:b=it:=by simpa using hb
  subst e
  obtain⟨o,e,c,d⟩:=st
  exact⟨o,e,λv z=>by rw[d]at z;cases z⟩
 keep:=λi h h' st k=>st.at λo e=>k it (by simp) o e
 item:=by
  intro X hP hw hK hc i pins s σ H E I hf st hg
  subst hP hw hK
  obtain⟨xs,x,hq,hx⟩:=hg
  obtain⟨its,rv,p,hz⟩:=I.list hq
  obtain⟨u,hu,ru⟩:=rv.get hx
  obtain⟨f0,f1,f2,f3,f4,f5⟩:=hf it (by simp)
  refine wpAny_pyNext_list_item st p.isList (x:=u) (by simpa using hu) λh' st' sb=>?_
  have I1:Inv X pins σ H { s with heap:=h' }:=I.turned (t':=s.toks) (λb o hb e=>(sb.2 b hb).trans e) f0 f1 f3 f4 f5
  obtain⟨o,e,c,d⟩:=id st'
  exact⟨u,rfl,Db (s:={ s with heap:=h' }) e c d (by decide) ⟨x,H,I1,ru,⟨rfl,λys hy=>by rw[I.list_inj hy hq];exact hx⟩,st',λb hb=>(hf b hb).1⟩⟩
 done:=by
  intro X hP hw hK hc i pins s σ H E I hf st hg
  subst hP hw hK
  obtain⟨xs,hq,hx⟩:=hg
  obtain⟨its,rv,p,hz⟩:=I.list hq
  obtain⟨f0,f1,f2,f3,f4,f5⟩:=hf it (by simp)
  have hl:=rv.length
  exact wpAny_pyNext_list_end (I.ok.hd hc) st p.isList (by simp;omega) λh' eb=>⟨rfl,I.turned (t':=s.toks) (λb o hb e=>eb b o hb e) f0 f1 f3 f4 f5⟩
 self:=λ_ _ _ _ _ st h=>wpAny_pyIter_listiter st h
theorem zq{P:Program}{w:World}{K:PySem.W.Frag}{tg:Expr}(a it:Addr):Turn P w K tg (Itt K a) [it] it (λi h=>h.IsTupleIter it a i) where
 mem:=by simp
 obj:=λi h st b hb=>by
  have e:b=it:=by simpa using hb
  subst e
  obtain⟨o,e,c,d⟩:=st
  exact⟨o,e,λv z=>by rw[d]at z;cases z⟩
 keep:=λi h h' st k=>st.at λo e=>k it (by simp) o e
 item:=by
  intro X hP hw hK hc i pins s σ H E I hf st hg
  subst hP hw hK
  obtain⟨xs,x,hq,hx⟩:=hg
  obtain⟨its,rv,p,hz⟩:=I.tuple hq
  obtain⟨u,hu,ru⟩:=rv.get hx
  obtain⟨f0,f1,f2,f3,f4,f5⟩:=hf it (by simp)
  refine wpAny_pyNext_tuple_item st (show s.heap.IsTuple a its.toArray from p) (x:=u) (by simpa using hu) λh' st' sb=>?_
  have I1:Inv X pins σ H { s with heap:=h' }:=I.turned (t':=s.toks) (λb o hb e=>(sb.2 b hb).trans e) f0 f1 f3 f4 f5
  obtain⟨o,e,c,d⟩:=id st'
  exact⟨u,rfl,Db (s:={ s with heap:=h' }) e c d (by decide) ⟨x,H,I1,ru,⟨rfl,λys hy=>by rw[I.tuple_inj hy hq];exact hx⟩,st',λb hb=>(hf b hb).1⟩⟩
 done:=by
  intro X hP hw hK hc i pins s σ H E I hf st hg
  subst hP hw hK
  obtain⟨xs,hq,hx⟩:=hg
  obtain⟨its,rv,p,hz⟩:=I.tuple hq
  obtain⟨f0,f1,f2,f3,f4,f5⟩:=hf it (by simp)
  have hl:=rv.length
  exact wpAny_pyNext_tuple_end (I.ok.hd hc) st (show s.heap.IsTuple a its.toArray from p) (by simp;omega) λh' eb=>⟨rfl,I.turned (t':=s.toks) (λb o hb e=>eb b o hb e) f0 f1 f3 f4 f5⟩
 self:=λ_ _ _ _ _ st h=>wpAny_pyIter_tupleiter st h
theorem Al{P:Program}{w:World}{K:PySem.W.Frag}{tg:Expr}(it:Addr)(lo:Int)(n:Nat):Turn P w K tg (Itr lo n) [it] it (λi h=>IsRangeIter h it (lo+(i:Nat)*1) ((n:Int)-(i:Nat)) 1) where
 mem:=by simp
 obj:=λi h st b hb=>by
  have e:b=it:=by simpa using hb
  subst e
  exact⟨_,st,λv z=>by
   have z':Data.fields _=Data.cell v:=z
   cases z'⟩
 keep:=λi h h' st k=>k it (by simp) _ st
 item:=by
  intro X hP hw hK hc i pins s σ H E I hf st hg
  subst hP hw hK
  obtain⟨f0,f1,f2,f3,f4,f5⟩:=hf it (by simp)
  have W:=Walks.range (prog:=X.prog) (w:=X.w) (I.ok.hd hc) it lo 1 n
  refine W.item i s _ _ hg st λv h' tk hv st' kk=>?_
  obtain⟨t,rfl⟩:=hv
  have I1:Inv X pins σ H { s with heap:=h',toks:=tk }:=I.turned (λb o hb e=>kk b o (by simpa using hb) e) f0 f1 f3 f4 f5
  refine⟨_,rfl,Db (s:={ s with heap:=h',toks:=tk }) (n:="range_iterator") st' rfl rfl (by decide) ⟨.int (lo+i),H,I1,⟨t,?_⟩,⟨rfl,rfl⟩,st',λb hb=>(hf b hb).1⟩⟩
  rw[Int.mul_one]
 done:=by
  intro X hP hw hK hc i pins s σ H E I hf st hg
  subst hP hw hK
  obtain⟨f0,f1,f2,f3,f4,f5⟩:=hf it (by simp)
  exact wpAny_pyNext_range_end (I.ok.hd hc) st (by have:n<=i:=hg;omega) λh' eb=>⟨rfl,I.turned (t':=s.toks) (λb o hb e=>eb b o hb e) f0 f1 f3 f4 f5⟩
 self:=λ_ _ _ _ _ st h=>wpAny_pyIter_rangeiter st h
end L2
namespace L2
open PySem PySem.Spec PyProof.Rows
section
variable{X:Cx}{tg:Expr}
inductive iList_(K:PySem.W.Frag)(R:It->Hp->Prop)(x:V)(H1:Hp):Prop where
 | mk (a:_) (h_0:x=.ref a) (h_1:(∃xs,SqL K H1 a xs)) (h_2:R (Itl K a) H1):iList_ K R x H1
def iList(K:PySem.W.Frag)(tl:TE):TI:=fun σ H R=>tl σ H λx H1=>iList_ K R x H1
inductive iTup_(K:PySem.W.Frag)(R:It->Hp->Prop)(x:V)(H1:Hp):Prop where
 | mk (a:_) (h_0:x=.ref a) (h_1:(∃xs,SqT K H1 a xs)) (h_2:R (Itt K a) H1):iTup_ K R x H1
def iTup(K:PySem.W.Frag)(tl:TE):TI:=fun σ H R=>tl σ H λx H1=>iTup_ K R x H1
theorem El{l:Expr}{tl:TE}(hl:PE X l tl):PI X tg l (iList X.K tl):=by
 intro pins s σ H R I h
 refine thn (hl pins s σ H _ I h) λv s1 ⟨x,H1,I1,r1,q1⟩=>?_
 obtain⟨a,e,⟨xs,hq⟩,q⟩:=q1
 subst e
 cases r1
 obtain⟨its,rv,p,hz⟩:=I1.list hq
 refine wpAny_pyIter_list p.isList ?_
 refine⟨s1.heap.objs.size,[s1.heap.objs.size],_,_,H1,rfl,I1.kept (t':=s1.toks) λb o e=>Heap.get?_push_of_some _ e,Bi a _,⟨_,Heap.get?_push_size _ rfl,rfl,rfl⟩,λb hb=>?_,q⟩
 have e:b=s1.heap.objs.size:=by simpa using hb
 subst e
 exact I1.fpOk (zH _) (I1.hok.fresh (zH _))
theorem Fm{l:Expr}{tl:TE}(hl:PE X l tl):PI X tg l (iTup X.K tl):=by
 intro pins s σ H R I h
 refine thn (hl pins s σ H _ I h) λv s1 ⟨x,H1,I1,r1,q1⟩=>?_
 obtain⟨a,e,⟨xs,hq⟩,q⟩:=q1
 subst e
 cases r1
 obtain⟨its,rv,p,hz⟩:=I1.tuple hq
 refine wpAny_pyIter_tuple (show s1.heap.IsTuple a its.toArray from p) ?_
 refine⟨s1.heap.objs.size,[s1.heap.objs.size],_,_,H1,rfl,I1.kept (t':=s1.toks) λb o e=>Heap.get?_push_of_some _ e,zq a _,⟨_,Heap.get?_push_size _ rfl,rfl,rfl⟩,λb hb=>?_,q⟩
 have e:b=s1.heap.objs.size:=by simpa using hb
 subst e
 exact I1.fpOk (zH _) (I1.hok.fresh (zH _))
theorem yq{pins:List (Addr×Obj)}{σ:St}{H:Hp}{s:Shared}{R:It->Hp->Prop}{E:Value->Shared->Prop}{lo hi:Int}{t u v:Tok}{tk:Nat}(I:Inv X pins σ H s)(h1:-(2 ^ 62)<=lo)(h2:lo<2 ^ 62)(h3:-(2 ^ 62)<=hi)(h4:hi<2 ^ 62)
  (q:R (Itr lo (hi-lo).toNat) H):wpAny (model X.prog X.w) X.A (pyIter (.ref s.heap.objs.size)) (PIE X pins σ tg R) E { s with heap:=s.heap.push { cls:=.type "range",data:=.fields #[.int lo t,.int hi u,.int 1 v] },toks:=tk }:=by
 refine wpAny_pyIter_range (IsRange.new ..) (small_one h1 h2 h3 h4) ?_
 have I1:Inv X pins σ H { s with heap:=s.heap.push { cls:=.type "range",data:=.fields #[.int lo t,.int hi u,.int 1 v] },toks:=tk }:=I.kept λb o e=>Heap.get?_push_of_some _ e
 refine⟨(s.heap.push { cls:=.type "range",data:=.fields #[.int lo t,.int hi u,.int 1 v] }).objs.size,[(s.heap.push { cls:=.type "range",data:=.fields #[.int lo t,.int hi u,.int 1 v] }).objs.size],_,_,H,rfl,
  I1.kept (t':=tk) λb o e=>Heap.get?_push_of_some _ e,Al _ lo (hi-lo).toNat,?_,λb hb=>?_,q⟩
 ·have e1:lo+((0:Nat):Int)*1=lo:=by simp
  have e2:(((hi-lo).toNat:Nat):Int)-((0:Nat):Int)=Builtin.Range.rangeSize lo hi 1:=by rw[rangeSize_one];split <;>omega
  show IsRangeIter _ _ (lo+((0:Nat):Int)*1) ((((hi-lo).toNat:Nat):Int)-((0:Nat):Int)) 1
  rw[e1,e2]
  exact Heap.get?_push_size _ rfl
 ·have e:b=(s.heap.push { cls:=.type "range",data:=.fields #[.int lo t,.int hi u,.int 1 v] }).objs.size:=by simpa using hb
  subst e
  exact I1.fpOk (zH _) (I1.hok.fresh (zH _))
inductive iRng1_(R:It->Hp->Prop)(vs:List V)(H1:Hp):Prop where
 | mk (j:Int) (h_0:vs=[.int j]) (h_1:-(2 ^ 62)<=j) (h_2:j<2 ^ 62) (h_3:R (Itr 0 j.toNat) H1):iRng1_ R vs H1
def iRng1(ta:TA):TI:=fun σ H R=>ta σ H λvs H1=>iRng1_ R vs H1
inductive iRng2_(R:It->Hp->Prop)(vs:List V)(H1:Hp):Prop where
 | mk (i j:Int) (h_0:vs=[.int i,.int j]) (h_1:(-(2 ^ 62)<=i/\i<2 ^ 62/\-(2 ^ 62)<=j/\j<2 ^ 62)) (h_2:R (Itr i (j-i).toNat) H1):iRng2_ R vs H1
def iRng2(ta:TA):TI:=fun σ H R=>ta σ H λvs H1=>iRng2_ R vs H1
theorem s_{a:Expr}{ta:TA}{p pos:Pos}(hg:Gl X "range")(hm:X.mg "range"=none)(ha:PA X [a] ta)(hs:starEach [a] X.env=[(false,eval a X.env)]:=by rfl):PI X tg (.Call (.Name "range" p) [a] [] pos) (iRng1 ta):=by
 intro pins s σ H R I h
 refine Call_ (uJ I hg hm boot_range (PyProof.Rows.callWith_type1 (thn (ha pos pins s σ H _ I h) λus s1 ⟨vs,H1,I1,r1,q1⟩=>?_) hs rfl))
 obtain⟨j,e,q1,q2,q⟩:=q1
 subst e
 cases r1 with
 | cons r rr =>
  cases rr
  obtain⟨t,rfl⟩:=r
  exact call_range_1 (yq I1 (by omega) (by omega) q1 q2 (by simpa using q))
theorem Bd{a b:Expr}{ta:TA}{p pos:Pos}(hg:Gl X "range")(hm:X.mg "range"=none)(ha:PA X [a,b] ta)(hs:starEach [a,b] X.env=[(false,eval a X.env),(false,eval b X.env)]:=by rfl)(hs2:starEach [b] X.env=[(false,eval b X.env)]:=by rfl) :
  PI X tg (.Call (.Name "range" p) [a,b] [] pos) (iRng2 ta):=by
 intro pins s σ H R I h
 refine Call_ (uJ I hg hm boot_range (PyProof.Rows.callWith_type1 (thn (ha pos pins s σ H _ I h) λus s1 ⟨vs,H1,I1,r1,q1⟩=>?_) (by rw[hs,hs2]) (by rw[hs2];rfl)))
 obtain⟨i,j,e,⟨q1,q2,q3,q4⟩,q⟩:=q1
 subst e
 cases r1 with
 | cons r rr =>
  cases rr with
  | cons r' rr =>
   cases rr
   obtain⟨t,rfl⟩:=r
   obtain⟨t',rfl⟩:=r'
   exact call_range_2 (yq I1 q1 q2 q3 q4 q)
def tFor(wi:TI)(g:TG)(tb:TS):TS:=λD σ H=>wi σ H λJ H1=>∃W:Nat->Nat->St->Hp->Prop,(∃m,W 0 m σ H1)/\∀i m σ H,W i m σ H ->
 (J.stop i H/\D.nx σ H)\/(J.go i H/\∃N:St->Hp->Prop,(∀σ' H',N σ' H'->∃m',m'<m/\W (i+1) m' σ' H')/\∀x H',J.yld i H x H'->g x σ H' fun σ2 H2=>tb { D with nx:=N,ct:=N,bk:=D.nx } σ2 H2)
def pinsAt(fp:List Addr)(h:Heap):List (Addr×Obj):=fp.filterMap λb=>(h.get? b).map λo=>(b,o)
theorem ui{fp:List Addr}{h:Heap}{b:Addr}{o:Obj}(hb:b∈fp)(e:h.get? b=some o):(b,o)∈pinsAt fp h:=yT.mpr ⟨b,hb,by rw[e];rfl⟩
theorem BH{fp:List Addr}{h:Heap}{p:Addr×Obj}(hp:p∈pinsAt fp h):p.1∈fp/\h.get? p.1=some p.2:=by
 obtain⟨b,hb,e⟩:=yT.mp hp
 cases q:h.get? b with
 | none=>rw[q]at e;cases e
 | some o =>
  rw[q]at e
  have e':(b,o)=p:=Option.some.inj e
  subst e'
  exact⟨hb,q⟩
theorem Inv.pinned{pins:List (Addr×Obj)}{σ:St}{H:Hp}{s:Shared}{fp:List Addr}(I:Inv X pins σ H s)(hf:∀b∈fp,FpOk X pins H b)(ho:∀b∈fp,∃o,s.heap.get? b=some o/\∀v,o.data≠.cell v):Inv X (pins++pinsAt fp s.heap) σ H s :=
 I.pins_of λp hp=>(yA.mp hp).elim (λz=>I.pin p (zO _ z)) λz=>by
  obtain⟨hb,e⟩:=BH z
  obtain⟨f0,f1,f2,_⟩:=hf p.1 hb
  obtain⟨o,e',d⟩:=ho p.1 hb
  rw[e]at e';cases e'
  exact⟨e,f0,f1,f2,d⟩
theorem Inv.unpinned{pins pl:List (Addr×Obj)}{σ:St}{H:Hp}{s:Shared}(I:Inv X (pins++pl) σ H s):Inv X pins σ H s:=I.pins_of λp hp=>I.pin p (zO _ (qE _ hp))
theorem ub{iter:Expr}{body:List Stmt}{wi:TI}{g:TG}{tb:TS}{pos:Pos}(hp:PassesOwn (model X.prog X.w) X.A X.env X.xe)(hc:X.calm=true)(hi:PI X tg iter wi)(hg:PG X tg g)(hb:PSs X body tb)
  (hs:∀x,foldedSetIterable iter X.env x=pure x:=by intro _;rfl):PS X (.For tg iter body [] pos) (tFor wi g tb):=by
 intro pins s σ H D I h
 refine wpAny_For (thn (hi pins s σ H _ I h) λv s1 h1=>thn h1 λitv s2 h2=>?_) hs
 obtain⟨it,fp,tn,J,H2,e,I2,T,st2,f2,W,⟨m0,w0⟩,turn⟩:=h2
 subst e
 have stat:∀{H':Hp},(∀b∈fp,H' b=none)->∀b∈fp,FpOk X pins H' b:=λhn b hb=>⟨hn b hb,(f2 b hb).2⟩
 refine codeAny_forLoop_any (λn s'=>∃i σ' H',Inv X pins σ' H' s'/\tn i s'.heap/\(∀b∈fp,H' b=none)/\W i n σ' H') ?_ m0 ⟨0,σ,H2,I2,st2,λb hb=>(f2 b hb).1,w0⟩
 rintro n s3 ⟨i,σ3,H3,I3,st3,fr3,w3⟩
 rcases turn i n σ3 H3 w3 with ⟨stop,qn⟩|⟨go,N,hN,step⟩
 ·refine wpAny_passesOwn hp (thn (T.done X rfl rfl rfl hc i pins s3 σ3 H3 X.xe I3 (stat fr3) st3 stop) λr s4 ⟨hr,I4⟩=>?_)
  subst hr
  exact wpAny_execs_nil ⟨σ3,H3,I4,qn⟩
 ·refine wpAny_passesOwn hp (thn (T.item X rfl rfl rfl hc i pins s3 σ3 H3 X.xe I3 (stat fr3) st3 go) λr s4 ⟨u,hr,h4⟩=>?_)
  subst hr
  refine wpAny_passesOwn hp (thn h4 λ_ s5 ⟨x,H5,I5,r5,y5,st5,fr5⟩=>?_)
  have I5':=I5.pinned (stat fr5) (T.obj _ _ st5)
  refine wpAny_passesOwn hp (thn (hg _ s5 σ3 H5 x u _ I5' r5 (step x H5 y5)) λ_ s6 ⟨σ6,H6,I6,q6⟩=>?_)
  refine wpAny_passesOwn hp (thn (hb _ s6 σ6 H6 _ I6 q6) λf s7 q7=>?_)
  have again:∀{σ7:St}{H7:Hp},Inv X (pins++pinsAt fp s5.heap) σ7 H7 s7->N σ7 H7->∃m,m<n/\∃i σ' H',Inv X pins σ' H' s7/\tn i s7.heap/\(∀b∈fp,H' b=none)/\W i m σ' H':=fun {σ7 H7} I7 n7=>by
   obtain⟨m',hm,w7⟩:=hN σ7 H7 n7
   refine⟨m',hm,i+1,σ7,H7,I7.unpinned,T.keep _ _ _ st5 λb hb o e=>(I7.pin (b,o) (zO _ (zO _ (ui hb e)))).1,λb hb=>?_,w7⟩
   obtain⟨o,e,d⟩:=T.obj _ _ st5 b hb
   exact(I7.pin (b,o) (zO _ (zO _ (ui hb e)))).2.1
  cases f with
  | next=>obtain⟨σ7,H7,I7,n7⟩:=q7;exact again I7 n7
  | cont=>obtain⟨σ7,H7,I7,n7⟩:=q7;exact again I7 n7
  | brk=>obtain⟨σ7,H7,I7,q7⟩:=q7;exact⟨σ7,H7,I7.unpinned,q7⟩
  | ret v=>obtain⟨x7,σ7,H7,I7,r7,q7⟩:=q7;exact⟨x7,σ7,H7,I7.unpinned,r7,q7⟩
end
theorem vS{K:PySem.W.Frag}{a:Addr}{xs:List V}{g:TG}{tb:TS}{D:Ends}{σ:St}{H:Hp}(Pv:Nat->St->Hp->Prop)(h0:Pv 0 σ H)(hl:∀i σ H,i<=xs.length->Pv i σ H->SqL K H a xs)
  (hs:∀i x σ H,xs[i]?=some x->Pv i σ H->g x σ H fun σ2 H2=>tb { D with nx:=Pv (i+1),ct:=Pv (i+1),bk:=D.nx } σ2 H2) (hd:∀σ H,Pv xs.length σ H->D.nx σ H) :
  ∃W:Nat->Nat->St->Hp->Prop,(∃m,W 0 m σ H)/\∀i m σ H,W i m σ H ->
   ((Itl K a).stop i H/\D.nx σ H)\/((Itl K a).go i H/\∃N:St->Hp->Prop,(∀σ' H',N σ' H'->∃m',m'<m/\W (i+1) m' σ' H')/\∀x H',(Itl K a).yld i H x H'->g x σ H' fun σ2 H2=>tb { D with nx:=N,ct:=N,bk:=D.nx } σ2 H2):=by
 refine⟨λi m σ H=>m=xs.length-i/\i<=xs.length/\Pv i σ H,⟨xs.length,by simp,zV _,h0⟩,?_⟩
 rintro i m σ H ⟨rfl,hi,p⟩
 have q:=hl i σ H hi p
 by_cases hlt:i<xs.length
 ·refine .inr ⟨⟨xs,xs[i],q,by simp [hlt]⟩,Pv (i+1),fun σ' H' p'=>⟨xs.length-(i+1),by omega,rfl,hlt,p'⟩,λx H' y=>?_⟩
  obtain⟨e,y⟩:=y
  subst e
  exact hs i x σ _ (y xs q) p
 ·have e:i=xs.length:=by omega
  subst e
  exact .inl ⟨⟨xs,q,zH _⟩,hd σ H p⟩
theorem xS{K:PySem.W.Frag}{a:Addr}{xs:List V}{g:TG}{tb:TS}{D:Ends}{σ:St}{H:Hp}(Pv:Nat->St->Hp->Prop)(h0:Pv 0 σ H)(hl:∀i σ H,i<=xs.length->Pv i σ H->SqT K H a xs)
  (hs:∀i x σ H,xs[i]?=some x->Pv i σ H->g x σ H fun σ2 H2=>tb { D with nx:=Pv (i+1),ct:=Pv (i+1),bk:=D.nx } σ2 H2) (hd:∀σ H,Pv xs.length σ H->D.nx σ H) :
  ∃W:Nat->Nat->St->Hp->Prop,(∃m,W 0 m σ H)/\∀i m σ H,W i m σ H ->
   ((Itt K a).stop i H/\D.nx σ H)\/((Itt K a).go i H/\∃N:St->Hp->Prop,(∀σ' H',N σ' H'->∃m',m'<m/\W (i+1) m' σ' H')/\∀x H',(Itt K a).yld i H x H'->g x σ H' fun σ2 H2=>tb { D with nx:=N,ct:=N,bk:=D.nx } σ2 H2):=by
 refine⟨λi m σ H=>m=xs.length-i/\i<=xs.length/\Pv i σ H,⟨xs.length,by simp,zV _,h0⟩,?_⟩
 rintro i m σ H ⟨rfl,hi,p⟩
 have q:=hl i σ H hi p
 by_cases hlt:i<xs.length
 ·refine .inr ⟨⟨xs,xs[i],q,by simp [hlt]⟩,Pv (i+1),fun σ' H' p'=>⟨xs.length-(i+1),by omega,rfl,hlt,p'⟩,λx H' y=>?_⟩
  obtain⟨e,y⟩:=y
  subst e
  exact hs i x σ _ (y xs q) p
 ·have e:i=xs.length:=by omega
  subst e
  exact .inl ⟨⟨xs,q,zH _⟩,hd σ H p⟩
theorem t4{lo:Int}{n:Nat}{g:TG}{tb:TS}{D:Ends}{σ:St}{H:Hp}(Pv:Nat->St->Hp->Prop)(h0:Pv 0 σ H)
  (hs:∀i σ H,i<n->Pv i σ H->g (.int (lo+i)) σ H fun σ2 H2=>tb { D with nx:=Pv (i+1),ct:=Pv (i+1),bk:=D.nx } σ2 H2) (hd:∀σ H,Pv n σ H->D.nx σ H) :
  ∃W:Nat->Nat->St->Hp->Prop,(∃m,W 0 m σ H)/\∀i m σ H,W i m σ H ->
   ((Itr lo n).stop i H/\D.nx σ H)\/((Itr lo n).go i H/\∃N:St->Hp->Prop,(∀σ' H',N σ' H'->∃m',m'<m/\W (i+1) m' σ' H')/\∀x H',(Itr lo n).yld i H x H'->g x σ H' fun σ2 H2=>tb { D with nx:=N,ct:=N,bk:=D.nx } σ2 H2):=by
 refine⟨λi m σ H=>m=n-i/\i<=n/\Pv i σ H,⟨n,by simp,zV _,h0⟩,?_⟩
 rintro i m σ H ⟨rfl,hi,p⟩
 by_cases hlt:i<n
 ·refine .inr ⟨hlt,Pv (i+1),fun σ' H' p'=>⟨n-(i+1),by omega,rfl,hlt,p'⟩,λx H' y=>?_⟩
  obtain⟨e,y⟩:=y
  subst e y
  exact hs i σ _ hlt p
 ·have e:i=n:=by omega
  subst e
  exact .inl ⟨zH _,hd σ H p⟩
end L2
namespace L2
open PySem PySem.Spec PyProof.Rows
abbrev R2:=V->V->Hp->VK->Prop
def OpR(X:Cx)(f:Value->Value->Sem Value)(r:R2):Prop :=
 ∀(pins:List (Addr×Obj))(s:Shared)(σ:St)(H:Hp)(x y:V)(v u:Value)(Q:VK),Inv X pins σ H s->RelV x v->RelV y u->r x y H Q ->
  wpAny (model X.prog X.w) X.A (f v u) (EP X pins σ Q) X.xe s
def UnR(X:Cx)(f:Value->Sem Value)(r:V->Hp->VK->Prop):Prop :=
 ∀(pins:List (Addr×Obj))(s:Shared)(σ:St)(H:Hp)(x:V)(v:Value)(Q:VK),Inv X pins σ H s->RelV x v->r x H Q ->
  wpAny (model X.prog X.w) X.A (f v) (EP X pins σ Q) X.xe s
def CallR(X:Cx)(f:Value)(r:List V->Hp->VK->Prop):Prop :=
 ∀(pins:List (Addr×Obj))(s:Shared)(σ:St)(H:Hp)(xs:List V)(us:List Value)(Q:VK),Inv X pins σ H s->Vals xs us->r xs H Q ->
  wpAny (model X.prog X.w) X.A (call f us) (EP X pins σ Q) X.xe s
def tOp(r:R2)(ta tb:TE):TE:=fun σ H Q=>ta σ H λx H1=>tb σ H1 λy H2=>r x y H2 Q
def tUn(r:V->Hp->VK->Prop)(ta:TE):TE:=fun σ H Q=>ta σ H λx H1=>r x H1 Q
inductive rI(C:Int->Int->Prop)(g:Int->Int->V)(x:V)(y:V)(H:Hp)(Q:VK):Prop where
 | mk (i j:_) (h_0:x=.int i) (h_1:y=.int j) (h_2:C i j) (h_3:Q (g i j) H):rI C g x y H Q
inductive rI0(g:Int->Int->V)(x:V)(y:V)(H:Hp)(Q:VK):Prop where
 | mk (i j:_) (h_0:x=.int i) (h_1:y=.int j) (h_2:Q (g i j) H):rI0 g x y H Q
inductive rU(g:Int->V)(x:V)(H:Hp)(Q:VK):Prop where
 | mk (i:_) (h_0:x=.int i) (h_1:Q (g i) H):rU g x H Q
section
variable{X:Cx}{a b c:Expr}{ta tb tc:TE}{pos:Pos}
theorem binT(ha:PE X a ta)(hb:PE X b tb){pins:List (Addr×Obj)}{s:Shared}{σ:St}{H:Hp}{R:V->V->Hp->Prop}(I:Inv X pins σ H s)
  (h:ta σ H λx H1=>tb σ H1 λy H2=>R x y H2) {Q:Value->Shared->Prop} {f:Value->Value->Sem Value}
  (hf:∀v u s2 x y H2,Inv X pins σ H2 s2->RelV x v->RelV y u->R x y H2->wpAny (model X.prog X.w) X.A (f v u) Q X.xe s2) :
  wpAny (model X.prog X.w) X.A (eval a X.env) (λv s₁=>wpAny (model X.prog X.w) X.A (eval b X.env) (λu s₂=>wpAny (model X.prog X.w) X.A (f v u) Q X.xe s₂) X.xe s₁) X.xe s:=by
 refine thn (ha pins s σ H _ I h) λv s1 ⟨x,H1,I1,r1,q1⟩=>?_
 refine thn (hb pins s1 σ H1 _ I1 q1) λu s2 ⟨y,H2,I2,r2,q2⟩=>?_
 exact hf v u s2 x y H2 I2 r1 r2 q2
theorem sK{op:Operator}{r:R2}(ho:OpR X (binaryOp op) r)(ha:PE X a ta)(hb:PE X b tb):PE X (.BinOp a op b pos) (tOp r ta tb):=by
 intro pins s σ H Q I h
 exact wpAny_BinOp (binT ha hb I h λv u s2 x y H2 I2 rx ry q=>ho pins s2 σ H2 x y v u Q I2 rx ry q)
theorem AH{op:UnaryOp}{r:V->Hp->VK->Prop}(ho:UnR X (unaryOp op) r)(ha:PE X a ta):PE X (.UnaryOp op a pos) (tUn r ta):=by
 intro pins s σ H Q I h
 exact UnaryOp_ (thn (ha pins s σ H _ I h) λv s1 ⟨x,H1,I1,r1,q1⟩=>ho pins s1 σ H1 x v Q I1 r1 q1)
theorem opI{f:Value->Value->Sem Value}{C:Int->Int->Prop}{g:Int->Int->Int}
  (rule:∀(i j:Int)(t u:Tok)(s:Shared)(Q:Value->Shared->Prop)(E:Value->Shared->Prop),C i j->Q (.int (g i j) s.toks) { s with toks:=s.toks+1 }->wpAny (model X.prog X.w) X.A (f (.int i t) (.int j u)) Q E s) :
  OpR X f (rI C λi j=>.int (g i j)):=by
 intro pins s σ H x y v u Q I rx ry h
 obtain⟨i,j,rfl,rfl,hc,q⟩:=h
 obtain⟨t,rfl⟩:=rx
 obtain⟨t',rfl⟩:=ry
 exact rule i j t t' s _ _ hc ⟨.int (g i j),H,I.tok _,⟨_,rfl⟩,q⟩
theorem opI0{f:Value->Value->Sem Value}{g:Int->Int->Int}
  (rule:∀(i j:Int)(t u:Tok)(s:Shared)(Q:Value->Shared->Prop)(E:Value->Shared->Prop),Q (.int (g i j) s.toks) { s with toks:=s.toks+1 }->wpAny (model X.prog X.w) X.A (f (.int i t) (.int j u)) Q E s) :
  OpR X f (rI0 λi j=>.int (g i j)):=by
 intro pins s σ H x y v u Q I rx ry h
 obtain⟨i,j,rfl,rfl,q⟩:=h
 obtain⟨t,rfl⟩:=rx
 obtain⟨t',rfl⟩:=ry
 exact rule i j t t' s _ _ ⟨.int (g i j),H,I.tok _,⟨_,rfl⟩,q⟩
theorem opB0{f:Value->Value->Sem Value}{g:Int->Int->Bool}
  (rule:∀(i j:Int)(t u:Tok)(s:Shared)(Q:Value->Shared->Prop)(E:Value->Shared->Prop),Q (.bool (g i j)) s->wpAny (model X.prog X.w) X.A (f (.int i t) (.int j u)) Q E s) :
  OpR X f (rI0 λi j=>.bl (g i j)):=by
 intro pins s σ H x y v u Q I rx ry h
 obtain⟨i,j,rfl,rfl,q⟩:=h
 obtain⟨t,rfl⟩:=rx
 obtain⟨t',rfl⟩:=ry
 exact rule i j t t' s _ _ ⟨.bl (g i j),H,I,rfl,q⟩
def CDiv(i j:Int):Prop:=0<j/\j<1073741824
def CPow(i j:Int):Prop:=0<=j/\j<=1000000/\i.natAbs<2 ^ 64
def CMul(i j:Int):Prop:=(-(2 ^ 64)<i/\i<2 ^ 64)\/(-(2 ^ 64)<j/\j<2 ^ 64)
theorem CMul.ok{i j:Int}(h:CMul i j):IntMulOk i j:=by
 rcases h with ⟨h1,h2⟩|⟨h1,h2⟩
 ·exact .of_left (intBits_le_64 h1 h2)
 ·exact .of_right (intBits_le_64 h1 h2)
theorem tH:OpR X (binaryOp .Add) (rI0 λi j=>.int (i+j)):=opI0 λ_ _ _ _ _ _ _ q=>add_int q
theorem xN:OpR X (binaryOp .Sub) (rI0 λi j=>.int (i-j)):=opI0 λ_ _ _ _ _ _ _ q=>sub_int q
theorem vY:OpR X (binaryOp .Mult) (rI CMul λi j=>.int (i*j)):=opI λ_ _ _ _ _ _ _ hc q=>mul_int q hc.ok
theorem DC:OpR X (binaryOp .FloorDiv) (rI CDiv λi j=>.int (i / j)):=opI λi j _ _ _ _ _ hc q=>by
 have h1:(0:Int)<j:=hc.1
 have h2:j<1073741824:=hc.2
 exact floordiv_int (by omega) (by rw[Int.fdiv_eq_ediv_of_nonneg i (by omega)];exact q) (.inl (PyProof.noPylong_small (by omega)))
theorem sV:OpR X (binaryOp .Mod) (rI (λ_ j=>0<j) λi j=>.int (i%j)):=opI λi j _ _ _ _ _ hc q=>by
 have h1:(0:Int)<j:=hc
 exact mod_int' (by omega) (by rw[Int.fmod_eq_emod_of_nonneg i (by omega)];exact q)
theorem ye:OpR X (binaryOp .Pow) (rI CPow λi j=>.int (i ^ j.toNat)):=opI λ_ _ _ _ _ _ _ hc q=>pow_int_small hc.1 hc.2.1 hc.2.2 q
theorem unI{f:Value->Sem Value}{g:Int->Int}
  (rule:∀(i:Int)(t:Tok)(s:Shared)(Q:Value->Shared->Prop)(E:Value->Shared->Prop),Q (.int (g i) s.toks) { s with toks:=s.toks+1 }->wpAny (model X.prog X.w) X.A (f (.int i t)) Q E s) :
  UnR X f (rU λi=>.int (g i)):=by
 intro pins s σ H x v Q I rx h
 obtain⟨i,rfl,q⟩:=h
 obtain⟨t,rfl⟩:=rx
 exact rule i t s _ _ ⟨.int (g i),H,I.tok _,⟨_,rfl⟩,q⟩
theorem xE:UnR X (unaryOp .USub) (rU λi=>.int (-i)):=unI λ_ _ _ _ _ q=>neg_int q
end
def scal:V->V->Bool
 | .non,.non=>true|.non,.int _=>true|.int _,.non=>true|.non,.bl _=>true|.bl _,.non=>true|.non,.str _=>true|.str _,.non=>true
 | .int _,.int _=>true|.bl _,.bl _=>true|.str _,.str _=>true|.byt _,.byt _=>true
 | .int _,.str _=>true|.str _,.int _=>true|.bl _,.str _=>true|.str _,.bl _=>true
 | _,_=>false
def rEq:R2:=λx y H Q=>scal x y=true/\Q (.bl (decide (x=y))) H
def rNe:R2:=λx y H Q=>scal x y=true/\Q (.bl (!decide (x=y))) H
theorem tS{i j:Int}:decide (V.int i=V.int j)=(i==j):=by
 rw[jL]
 simp
theorem CU{i j:Bool}:decide (V.bl i=V.bl j)=(i==j):=by
 rw[jL]
 simp
theorem AD{i j:Str}:decide (V.str i=V.str j)=(i==j):=by
 rw[jL]
 simp
theorem AY{i j:Array UInt8}:decide (V.byt i=V.byt j)=(i.toList==j.toList):=by
 rw[jL]
 cases i
 cases j
 simp
section
variable{X:Cx}{a b c:Expr}{ta tb tc:TE}{pos:Pos}
theorem sZ{pins:List (Addr×Obj)}{σ:St}{H:Hp}{s:Shared}{Q:VK}{k k':Bool}(I:Inv X pins σ H s)(q:Q (.bl k) H)(e:k=k'):EP X pins σ Q (.bool k') s:=by
 subst e
 exact⟨.bl k,H,I,rfl,q⟩
theorem tN:OpR X (compareOp .Eq) rEq:=by
 intro pins s σ H x y v u Q I rx ry h
 obtain⟨hs,q⟩:=h
 cases x with
 | non =>
  cases rx
  cases y with
  | non=>cases ry;exact PySem.EqNone.eq_none_none (sZ I q (by simp))
  | bl j=>cases ry;exact PySem.EqNone.eq_none_bool (sZ I q (by simp))
  | int j=>obtain⟨t',rfl⟩:=ry;exact PySem.EqNone.eq_none_int (sZ I q (by simp))
  | str j=>obtain⟨t',rfl⟩:=ry;exact PySem.EqNone.eq_none_str (sZ I q (by simp))
  | _=>exact absurd (show false=true from hs) zQ
 | bl i =>
  cases rx
  cases y with
  | non=>cases ry;exact PySem.EqNone.eq_bool_none (sZ I q (by simp))
  | bl j=>cases ry;exact eq_bool (sZ I q CU)
  | str j=>obtain⟨t',rfl⟩:=ry;exact PySem.EqMixed.eq_bool_str (sZ I q (by simp))
  | _=>exact absurd (show false=true from hs) zQ
 | int i =>
  obtain⟨t,rfl⟩:=rx
  cases y with
  | non=>cases ry;exact PySem.EqNone.eq_int_none (sZ I q (by simp))
  | int j=>obtain⟨t',rfl⟩:=ry;exact eq_int (sZ I q tS)
  | str j=>obtain⟨t',rfl⟩:=ry;exact PySem.EqMixed.eq_int_str (sZ I q (by simp))
  | _=>exact absurd (show false=true from hs) zQ
 | str i =>
  obtain⟨t,rfl⟩:=rx
  cases y with
  | non=>cases ry;exact PySem.EqNone.eq_str_none (sZ I q (by simp))
  | bl j=>cases ry;exact PySem.EqMixed.eq_str_bool (sZ I q (by simp))
  | int j=>obtain⟨t',rfl⟩:=ry;exact PySem.EqMixed.eq_str_int (sZ I q (by simp))
  | str j=>obtain⟨t',rfl⟩:=ry;exact eq_str (sZ I q AD)
  | _=>exact absurd (show false=true from hs) zQ
 | byt i =>
  obtain⟨t,rfl⟩:=rx
  cases y with
  | byt j=>obtain⟨t',rfl⟩:=ry;exact PySem.W.eq_bytes (sZ I q AY)
  | _=>exact absurd (show false=true from hs) zQ
 | _=>cases y <;>exact absurd (show false=true from hs) zQ
theorem CD:OpR X (compareOp .NotEq) rNe:=by
 intro pins s σ H x y v u Q I rx ry h
 obtain⟨hs,q⟩:=h
 cases x with
 | non =>
  cases rx
  cases y with
  | non=>cases ry;exact PySem.EqNone.ne_none_none (sZ I q (by simp))
  | bl j=>cases ry;exact PySem.EqNone.ne_none_bool (sZ I q (by simp))
  | int j=>obtain⟨t',rfl⟩:=ry;exact PySem.EqNone.ne_none_int (sZ I q (by simp))
  | str j=>obtain⟨t',rfl⟩:=ry;exact PySem.EqNone.ne_none_str (sZ I q (by simp))
  | _=>exact absurd (show false=true from hs) zQ
 | bl i =>
  cases rx
  cases y with
  | non=>cases ry;exact PySem.EqNone.ne_bool_none (sZ I q (by simp))
  | bl j=>cases ry;exact ne_bool (sZ I q (congrArg not CU))
  | str j=>obtain⟨t',rfl⟩:=ry;exact PySem.EqMixed.ne_bool_str (sZ I q (by simp))
  | _=>exact absurd (show false=true from hs) zQ
 | int i =>
  obtain⟨t,rfl⟩:=rx
  cases y with
  | non=>cases ry;exact PySem.EqNone.ne_int_none (sZ I q (by simp))
  | int j=>obtain⟨t',rfl⟩:=ry;exact ne_int (sZ I q (congrArg not tS))
  | str j=>obtain⟨t',rfl⟩:=ry;exact PySem.EqMixed.ne_int_str (sZ I q (by simp))
  | _=>exact absurd (show false=true from hs) zQ
 | str i =>
  obtain⟨t,rfl⟩:=rx
  cases y with
  | non=>cases ry;exact PySem.EqNone.ne_str_none (sZ I q (by simp))
  | bl j=>cases ry;exact PySem.EqMixed.ne_str_bool (sZ I q (by simp))
  | int j=>obtain⟨t',rfl⟩:=ry;exact PySem.EqMixed.ne_str_int (sZ I q (by simp))
  | str j=>obtain⟨t',rfl⟩:=ry;exact ne_str (sZ I q (congrArg not AD))
  | _=>exact absurd (show false=true from hs) zQ
 | byt i =>
  obtain⟨t,rfl⟩:=rx
  cases y with
  | byt j=>obtain⟨t',rfl⟩:=ry;exact PySem.W.ne_bytes (sZ I q (congrArg not AY))
  | _=>exact absurd (show false=true from hs) zQ
 | _=>cases y <;>exact absurd (show false=true from hs) zQ
theorem CA:OpR X (compareOp .LtE) (rI0 λi j=>.bl (decide (i<=j))):=opB0 λ_ _ _ _ _ _ _ q=>le_int q
theorem yl:OpR X (compareOp .Gt) (rI0 λi j=>.bl (decide (j<i))):=opB0 λ_ _ _ _ _ _ _ q=>gt_int q
theorem zt:OpR X (compareOp .Is) (λx y H Q=>y=.non/\Q (.bl (decide (x=.non))) H):=by
 intro pins s σ H x y v u Q I rx ry h
 obtain⟨rfl,q⟩:=h
 cases ry
 refine is_none_gen (sZ I q ?_)
 cases x <;>first
  | (cases rx;rfl)
  | (obtain⟨t,rfl⟩:=rx;rfl)
theorem u_:OpR X (compareOp .IsNot) (λx y H Q=>y=.non/\Q (.bl (!decide (x=.non))) H):=by
 intro pins s σ H x y v u Q I rx ry h
 obtain⟨rfl,q⟩:=h
 cases ry
 refine isnot_none_gen (sZ I q ?_)
 cases x <;>first
  | (cases rx;rfl)
  | (obtain⟨t,rfl⟩:=rx;rfl)
theorem sP(b:Expr){op:CmpOp}(h:op≠.In:=by decide)(h2:op≠.NotIn:=by decide):behindInMarks op b=false:=by
 have e1:(op==CmpOp.In)=false:=by cases op <;>first|rfl|exact absurd rfl h
 have e2:(op==CmpOp.NotIn)=false:=by cases op <;>first|rfl|exact absurd rfl h2
 cases b <;>simp [behindInMarks,e1,e2]
theorem uR{op:CmpOp}{r:R2}(ho:OpR X (compareOp op) r)(ha:PE X a ta)(hb:PE X b tb)(hm:behindInMarks op b=false):PE X (.Compare a [op] [b] pos) (tOp r ta tb):=by
 intro pins s σ H Q I h
 exact wpAny_Compare1 (binT ha hb I h λv u s2 x y H2 I2 rx ry q=>ho pins s2 σ H2 x y v u Q I2 rx ry q) hm
inductive tTest_(Q:Bool->Hp->Prop)(x:V)(H':Hp):Prop where
 | mk (k:_) (h_0:x=.bl k) (h_1:Q k H'):tTest_ Q x H'
def tTest(t:TE):TT:=fun σ H Q=>t σ H λx H'=>tTest_ Q x H'
theorem sJ{op:CmpOp}{r:R2}(ho:OpR X (compareOp op) r)(ha:PE X a ta)(hb:PE X b tb)(hm:behindInMarks op b=false):PT X (.Compare a [op] [b] pos) (tTest (tOp r ta tb)):=by
 intro pins s σ H Q I h
 refine wpAny_isTrue_Compare1 (thn (ha pins s σ H _ I h) λv s1 ⟨x,H1,I1,r1,q1⟩=>thn (hb pins s1 σ H1 _ I1 q1) λu s2 ⟨y,H2,I2,r2,q2⟩ =>
  thn (ho pins s2 σ H2 x y v u _ I2 r1 r2 q2) λc s3 ⟨z,H3,I3,r3,k,e,q3⟩=>?_) hm
 subst e
 cases r3
 exact wpAny_truthy_bool ⟨H3,I3,q3⟩
theorem wV:(sizeLine:Nat)<2 ^ 63:=by rw[sizeLine_eq];decide
theorem vj{x:V}{us:List Value}(r:Vals [x] us):∃u,us=[u]/\RelV x u:=by
 cases r with
 | cons r1 r2=>cases r2;exact⟨_,rfl,r1⟩
theorem Ga{x y:V}{us:List Value}(r:Vals [x,y] us):∃u w',us=[u,w']/\RelV x u/\RelV y w':=by
 cases r with
 | cons r1 r2 =>
  cases r2 with
  | cons r3 r4=>cases r4;exact⟨_,_,rfl,r1,r3⟩
end
end L2
namespace L2
open PySem PySem.Spec PyProof.Rows
structure ObjM(h:Heap)(x dx C:Addr)(mA:Str->Option Value):Prop where
 obj:h.get? x=some (PySem.W.instObj C dx)
 ns:h.Ns1 dx mA
 ne:dx≠x
theorem Bp{h:Heap}{dx:Addr}{mA:Str->Option Value}(n:h.Ns1 dx mA):∃od,h.get? dx=some od/\∀name,PySem.W.lookIn name od=some (mA name):=by
 obtain⟨o,es,ep,ho,hd,hk,_,hm⟩:=n
 refine⟨o,ho,λname=>?_⟩
 have e:=hm name
 unfold nsFind findBy at e
 rw[←Array.find?_toList]at e
 unfold PySem.W.lookIn
 rw[hd]
 dsimp only
 split
 ·rename_i y q
  rw[q]at e
  exact congrArg some e
 ·rename_i q
  rw[q]at e
  have a:es.toList.any (·.refKey)=false:=by
   rw[List.any_eq_false]
   intro y hy
   obtain⟨z,t,hkey⟩:=hk y (Array.mem_toList_iff.mp hy)
   simp [DictEntry.refKey,hkey]
  have a':¬es.toList.any (·.refKey)=true:=by rw[a];exact zQ
  rw[if_neg a']
  exact congrArg some e
theorem ObjM.look{h:Heap}{x dx C:Addr}{mA:Str->Option Value}(I:ObjM h x dx C mA):∃od,PySem.W.InstAt h x (PySem.W.instObj C dx) C (some od)/\∀name,PySem.W.lookIn name od=some (mA name) :=
 let ⟨od,ho,hl⟩:=Bp I.ns
 ⟨od,⟨I.obj,rfl,rfl,ho⟩,hl⟩
section
variable{prog:Program}{w:World}{A:Around}{E:Value->Shared->Prop}{s:Shared}{K:PySem.W.Frag}{x dx C f:Addr}{mA:Str->Option Value}{name:Str}{v:Value}
theorem Ek{expr:Bool}{Q:Value->Shared->Prop}(X:K.In s.heap)(I:ObjM s.heap x dx C mA)(hg:PySem.W.plainGet K C name=true)(hh:PySem.W.hasDictIn K C=true)
  (ha:PySem.W.findIn K (.ref C) name=some none) (hv:mA name=some v) (hv':PySem.W.handedIn v=true) (h:Q v { s with toks:=s.toks+1 }) :
  wpAny (model prog w) A (getAttr (.ref x) name expr) Q E s:=by
 obtain⟨od,J,hl⟩:=I.look
 exact PySem.W.get_value X J (PySem.W.plainGet_of hg).1 (PySem.W.findObj_own hh ha rfl (by rw[hl,hv])) hv' h
theorem B_{pl:Sem Bool}{Q:Value×List Value->Shared->Prop}(X:K.In s.heap)(I:ObjM s.heap x dx C mA)(hg:PySem.W.plainGet K C name=true)
  (hf:PySem.W.findIn K (.ref C) name=some (some (.ref f))) (ht:PySem.W.isFn K (.ref f)=true) (hv:mA name=none) (h:Q (.ref f,[.ref x]) s) :
  wpAny (model prog w) A (getMethod (.ref x) name pl) Q E s:=by
 obtain⟨od,J,hl⟩:=I.look
 exact PySem.W.method_fn X J (PySem.W.plainGet_of hg).1 (PySem.W.plainGet_of hg).2 hf (beq_iff_eq.mp ht) (by show(PySem.W.lookIn name od).map (·.isSome)=some false;rw[hl,hv];rfl) h
theorem Es{ns:List Str}{Q:Unit->Shared->Prop}(X:K.In s.heap)(I:ObjM s.heap x dx C mA)
  (hs:PySem.W.findIn K (.ref C) "__setattr__"=some (some (.builtin "object.__setattr__"))) (hp:PySem.W.plainOver K C=true) (ht:PySem.W.takerIn K C name=some none) (hh:PySem.W.hasDictIn K C=true)
  (hw:PySem.Within mA ns) (hsz:ns.length<=sizeLine)
  (h:∀h',ObjM h' x dx C (λy=>if y=name then some v else mA y)->Heap.SameBut dx s.heap h'->Q () { s with heap:=h',toks:=s.toks+2 }) :
  wpAny (model prog w) A (setAttr (.ref x) name v) Q E s:=by
 obtain⟨od,J,hl⟩:=I.look
 refine PySem.W.set_plain X J hs (PySem.W.osa_open (s:={ s with toks:=s.toks+1 }) (r:=none) X J hp ht λb=>?_)
 obtain⟨cd,hc,hd'⟩:=PySem.W.any_some hh
 have hx:s.heap.get? x=some ⟨.ref C,some dx,.plain,#[]⟩:=I.obj
 refine wpAny_bind (wpAny_pure (wpAny_bind (wpAny_bind (wpAny_loadPart hx (wpAny_bind (PySem.W.Looks.here (s:={ s with toks:=s.toks+1 }) (PySem.W.looks_clsIn X hc) ?_))))))
 rw[hd']
 refine wpAny_pure (a:=some dx) (wpAny_bind (wpAny_pure (wpAny_bind ?_)))
 refine wpAny_nsSet1 (s:={ s with toks:=s.toks+1 }) I.ns λh' hn2 hs2=>?_
 obtain⟨oD,esD,epD,hoD,hdD,hcD⟩:=hn2.count (PySem.Within.cons name v hw)
 refine wpAny_bind (wpAny_lookBehind hoD (by rw[hdD];exact pastItsLine_dict (z0 hcD (by rw[zX];omega))) ?_)
 exact wpAny_pure (h _ ⟨(hs2.2 _ (Ne.symm I.ne)).trans I.obj,hn2,I.ne⟩ hs2)
theorem BM{R:Result->Shared->Prop}{vs:List Value}{kw:List (Str×Value)}(X:K.In s.heap)(hm:PySem.W.makesIn K C=true)
  (hi:PySem.W.findIn K (.ref C) "__init__"=some (some (.ref f))) (hf:PySem.W.typeIn K (.ref f)=some (.type "function"))
  (h:codeAny (model prog w) (A.under (.builtin "type.__call__" ⟨.ref C::vs,kw⟩)) (.call (.ref f) ⟨.ref (s.heap.objs.size+1)::vs,kw⟩) (PySem.W.InitBack (s.heap.objs.size+1) R)
   { s with heap:=(s.heap.push PySem.W.emptyDict).push (PySem.W.instObj C s.heap.objs.size) }) :
  codeAny (model prog w) A (.call (.ref C) ⟨vs,kw⟩) R s:=by
 obtain⟨hh,g,d,t,os⟩:=s
 exact PySem.W.make_core (PySem.W.makes_of X hm) (PySem.W.looks_findIn X hi) (λself=>PySem.W.bind_fn X self hf) (.inl rfl) h
end
def putF(f:Str)(v:V):List (Str×V)->List (Str×V)
 | []=>[(f,v)]
 | (g,x)::r=>if g=f then (g,v)::r else (g,x)::putF f v r
theorem sI(f g:Str)(v:V):∀fs:List (Str×V),(putF f v fs).lookup g=if g=f then some v else fs.lookup g
 | []=>by
  show List.lookup g [(f,v)]=_
  by_cases h:g=f
  ·have hb:(g==f)=true:=beq_iff_eq.mpr h
   simp only [List.lookup,hb,if_pos h]
  ·have hb:(g==f)=false:=beq_eq_false_iff_ne.mpr h
   simp only [List.lookup,hb,if_neg h]
 | (k,x)::r=>by
  have ih:=sI f g v r
  rw[show putF f v ((k,x)::r)=(if k=f then (k,v)::r else (k,x)::putF f v r)from rfl]
  by_cases hk:k=f
  ·rw[if_pos hk]
   by_cases h:g=k
   ·have hb:(g==k)=true:=beq_iff_eq.mpr h
    simp only [List.lookup,hb,if_pos (h.trans hk)]
   ·have hb:(g==k)=false:=beq_eq_false_iff_ne.mpr h
    simp only [List.lookup,hb,if_neg (λe:g=f=>h (e.trans hk.symm))]
  ·rw[if_neg hk]
   by_cases h:g=k
   ·have hb:(g==k)=true:=beq_iff_eq.mpr h
    simp only [List.lookup,hb,if_neg (λe:g=f=>hk (h.symm.trans e))]
   ·have hb:(g==k)=false:=beq_eq_false_iff_ne.mpr h
    simp only [List.lookup,hb]
    exact ih
theorem wf(f:Str)(v:V):∀fs:List (Str×V),f∈(putF f v fs).map (·.1)/\∀g,g∈fs.map (·.1)->g∈(putF f v fs).map (·.1)
 | []=>⟨by simp [putF],λg h=>by simp at h⟩
 | (k,x)::r=>by
  obtain⟨i1,i2⟩:=wf f v r
  rw[show putF f v ((k,x)::r)=(if k=f then (k,v)::r else (k,x)::putF f v r)from rfl]
  by_cases hk:k=f
  ·rw[if_pos hk]
   subst hk
   exact⟨by simp,λg h=>by simpa using h⟩
  ·rw[if_neg hk]
   refine⟨?_,λg h=>?_⟩
   ·rw[yE]
    exact zL _ i1
   ·rw[yE]at h ⊢
    rcases zR.mp h with e|e
    ·exact zR.mpr (.inl e)
    ·exact zL _ (i2 g e)
theorem tO(f:Str)(v:V):∀fs:List (Str×V),(putF f v fs).length<=fs.length+1
 | []=>by simp [putF]
 | (k,x)::r=>by
  have ih:=tO f v r
  rw[show putF f v ((k,x)::r)=(if k=f then (k,v)::r else (k,x)::putF f v r)from rfl]
  by_cases hk:k=f
  ·rw[if_pos hk,zX,zX];omega
  ·rw[if_neg hk,zX,zX];omega
theorem RelO.some_of{v:V}{o:Option Value}(r:RelO (some v) o):∃u,o=some u/\RelV v u:=by
 cases o with
 | none=>exact(show False from r).elim
 | some u=>exact⟨u,rfl,r⟩
theorem RelO.none_of{o:Option Value}(r:RelO none o):o=none:=by
 cases o with
 | none=>rfl
 | some u=>exact(show False from r).elim
theorem Bw{v:V}{u:Value}(r:RelV v u):PySem.W.handedIn u=true:=by
 cases v with
 | non=>cases (show u=Value.none from r);rfl
 | bl b=>cases (show u=Value.bool b from r);rfl
 | int i=>obtain⟨t,e⟩:=(show ∃t,u=Value.int i t from r);cases e;rfl
 | str x=>obtain⟨t,e⟩:=(show ∃t,u=Value.str x t from r);cases e;rfl
 | byt b=>obtain⟨t,e⟩:=(show ∃t,u=Value.bytes b t from r);cases e;rfl
 | flt b=>obtain⟨t,e⟩:=(show ∃t,u=Value.float b t from r);cases e;rfl
 | ref a=>cases (show u=Value.ref a from r);rfl
 | ty n=>cases (show u=Value.type n from r);rfl
section
variable{P:Program}{w:World}{H H':Hp}{h h':Heap}{a C dx:Addr}{fs fs':List (Str×V)}
theorem wC(hok:HOk P w H h)(e:H a=some (.ins C dx fs)):∃mA,ObjM h a dx C mA/\(∀f,RelO (fs.lookup f) (mA f))/\PySem.Within mA (fs.map (·.1))/\fs.length<=1000/\H dx=some (.own a):=by
 obtain⟨d,z,ne,ob,mA,n,r,q⟩:=(show ObjOk P w H h a (.ins C dx fs)from hok a _ e)
 exact⟨mA,⟨ob,n,ne⟩,r,q,z,d⟩
end
structure Cls(K:PySem.W.Frag)(C:Addr):Prop where
 pg:PySem.W.plainGet K C Str.empty=true
 hd:PySem.W.hasDictIn K C=true
 po:PySem.W.plainOver K C=true
 sa:PySem.W.findIn K (.ref C) "__setattr__"=some (some (.builtin "object.__setattr__"))
theorem Cls.get{K:PySem.W.Frag}{C:Addr}(c:Cls K C)(f:Str):PySem.W.plainGet K C f=true:=c.pg
def NoAttr(K:PySem.W.Frag)(C:Addr)(f:Str):Prop:=PySem.W.findIn K (.ref C) f=some none
theorem NoAttr.taker{K:PySem.W.Frag}{C:Addr}{f:Str}(n:NoAttr K C f):PySem.W.takerIn K C f=some none:=by
 unfold PySem.W.takerIn
 rw[show PySem.W.findIn K (.ref C) f=some none from n]
 rfl
structure Meth(K:PySem.W.Frag)(C:Addr)(m:Str)(f:Addr):Prop where
 at_:PySem.W.findIn K (.ref C) m=some (some (.ref f))
 fn:PySem.W.isFn K (.ref f)=true
 kp:PySem.W.keepIn K (.ref f)=true
section
variable{X:Cx}{pins:List (Addr×Obj)}{σ:St}{H:Hp}{s:Shared}{a C dx:Addr}{fs:List (Str×V)}{f:Str}{v:V}{A:Around}{E:Value->Shared->Prop}
theorem zr{b:Bool}{Q:Value->Shared->Prop}(I:Inv X pins σ H s)(e:H a=some (.ins C dx fs))(c:Cls X.K C)(n:NoAttr X.K C f)(l:fs.lookup f=some v)
  (h:∀u s',Inv X pins σ H s'->RelV v u->Q u s'):wpAny (model X.prog X.w) A (getAttr (.ref a) f b) Q E s:=by
 obtain⟨mA,O,r,_,_,_⟩:=wC I.hok e
 obtain⟨u,hu,ru⟩:=RelO.some_of (v:=v) (o:=mA f) (by rw[←l];exact r f)
 exact Ek I.kIn O (c.get f) c.hd n hu (Bw ru) (h u _ (I.tok _) ru)
theorem wN{m:Str}{g:Addr}{pl:Sem Bool}{Q:Value×List Value->Shared->Prop}(I:Inv X pins σ H s)(e:H a=some (.ins C dx fs))(c:Cls X.K C)(k:Meth X.K C m g)(l:fs.lookup m=none)
  (h:Q (.ref g,[.ref a]) s):wpAny (model X.prog X.w) A (getMethod (.ref a) m pl) Q E s:=by
 obtain⟨mA,O,r,_,_,_⟩:=wC I.hok e
 have hn:mA m=none:=RelO.none_of (by rw[←l];exact r m)
 exact B_ I.kIn O (c.get m) k.at_ k.fn hn h
theorem zw{y:V}{u:Value}{Q:Unit->Shared->Prop}(I:Inv X pins σ H s)(e:H a=some (.ins C dx fs))(c:Cls X.K C)(n:NoAttr X.K C f)(hl:fs.length<1000)(ry:RelV y u)
  (h:∀s',Inv X pins σ (upd H a (.ins C dx (putF f y fs))) s'->Q () s'):wpAny (model X.prog X.w) A (setAttr (.ref a) f u) Q E s:=by
 obtain⟨mA,O,r,wi,_,ho⟩:=wC I.hok e
 have hz:(fs.map (·.1)).length<=sizeLine:=by rw[zC,sizeLine_eq];omega
 refine Es I.kIn O c.sa c.po n.taker c.hd wi hz λh' O' sb=>h _ ?_
 have hd:∃o,h'.get? dx=some o:=let ⟨o,_,_,e',_⟩:=O'.ns;⟨o,e'⟩
 refine I.write (x:=a) (e:=dx) (by rw[e];exact True.intro) (.inr ho) (λb q hb z=>(sb.2 b hb).trans z) hd ?_
 refine⟨by rw[sD O.ne];exact ho,?_,O.ne,O'.obj,_,O'.ns,λg=>?_,λg hg=>?_⟩
 ·have:=tO f y fs;omega
 ·show RelO ((putF f y fs).lookup g) (if g=f then some u else mA g)
  rw[sI]
  by_cases q:g=f
  ·rw[if_pos q,if_pos q];exact ry
  ·rw[if_neg q,if_neg q];exact r g
 ·by_cases q:g=f
  ·rw[q];exact(wf f y fs).1
  ·refine(wf f y fs).2 g (wi g λz=>hg ?_)
   show(if g=f then some u else mA g)=none
   rw[if_neg q];exact z
theorem Inv.made(I:Inv X pins σ H s):Inv X pins σ (upd (upd H s.heap.objs.size (.own (s.heap.objs.size+1))) (s.heap.objs.size+1) (.ins C s.heap.objs.size []))
  { s with heap:=(s.heap.push PySem.W.emptyDict).push (PySem.W.instObj C s.heap.objs.size) }:=by
 have e1:(s.heap.push PySem.W.emptyDict).get? s.heap.objs.size=some PySem.W.emptyDict:=Heap.get?_push_size s.heap rfl
 have e2:((s.heap.push PySem.W.emptyDict).push (PySem.W.instObj C s.heap.objs.size)).get? (s.heap.objs.size+1)=some (PySem.W.instObj C s.heap.objs.size):=by
  have:=Heap.get?_push_size (s.heap.push PySem.W.emptyDict) (o:=PySem.W.instObj C s.heap.objs.size) rfl
  rwa [Heap.size_push]at this
 have e3:(s.heap.push PySem.W.emptyDict).Ns s.heap.objs.size (λ_=>none):=⟨PySem.W.emptyDict,#[],_,e1,rfl,(λe he=>absurd he (by simp)),λ_=>rfl⟩
 have I1:=I.laid (a:=s.heap.objs.size) (o:=.own (s.heap.objs.size+1)) (h':=s.heap.push PySem.W.emptyDict) (t':=s.toks) (λb u q=>Heap.get?_push_of_some _ q) (zH _) ⟨_,e1⟩
 refine I1.laid (a:=s.heap.objs.size+1) (o:=.ins C s.heap.objs.size []) (t':=s.toks) (λb u q=>Heap.get?_push_of_some _ q) (j4 (Heap.size_push _ _)) ?_
 have ne:s.heap.objs.size≠s.heap.objs.size+1:=zW (qY _)
 refine⟨by rw[sD ne,ss],zV _,ne,e2,λ_=>none,(Heap.Ns1.of_empty e3).at λo q=>Heap.get?_push_of_some _ q,λ_=>True.intro,λy hy=>absurd rfl hy⟩
theorem Ei{prog:Program}{w:World}{env:Env}{e:Expr}{f:Str}{pos:Pos}{s:Shared}{Q:Value->Shared->Prop}(hb:attributeBase e f env (eval e env)=eval e env)
  (h:wpAny (model prog w) A (eval e env) (λo s₁=>wpAny (model prog w) A (getAttr o f true) Q E s₁) E s):wpAny (model prog w) A (eval (.Attribute e f pos) env) Q E s :=
 Attribute_any_ h (by rw[arm_eval_Attribute,hb])
end
inductive tFld_(K:PySem.W.Frag)(f:Str)(Q:VK)(x:V)(H1:Hp):Prop where
 | mk (a C dx fs v:_) (h_0:x=.ref a) (h_1:H1 a=some (.ins C dx fs)) (h_2:Cls K C) (h_3:NoAttr K C f) (h_4:fs.lookup f=some v) (h_5:Q v H1):tFld_ K f Q x H1
def tFld(K:PySem.W.Frag)(ta:TE)(f:Str):TE:=fun σ H Q=>ta σ H λx H1=>tFld_ K f Q x H1
inductive sFld_(K:PySem.W.Frag)(f:Str)(D:Ends)(σ:St)(y:V)(x:V)(H2:Hp):Prop where
 | mk (a C dx fs:_) (h_0:x=.ref a) (h_1:H2 a=some (.ins C dx fs)) (h_2:Cls K C) (h_3:NoAttr K C f) (h_4:fs.length<1000) (h_5:D.nx σ (upd H2 a (.ins C dx (putF f y fs)))):sFld_ K f D σ y x H2
def sFld(K:PySem.W.Frag)(ta tv:TE)(f:Str):TS:=λD σ H=>tv σ H λy H1=>ta σ H1 λx H2=>sFld_ K f D σ y x H2
section
variable{X:Cx}{o e value:Expr}{f:Str}{pos pos' tpos:Pos}{ta tv:TE}
theorem Fn(he:PE X e ta)(hb:attributeBase e f X.env (eval e X.env)=eval e X.env):PE X (.Attribute e f pos) (tFld X.K ta f):=by
 intro pins s σ H Q I h
 refine Ei hb (thn (he pins s σ H _ I h) λu s1 ⟨x,H1,I1,rx,a,C,dx,fs,v,ex,ea,c,n,l,q⟩=>?_)
 subst ex
 obtain rfl:u=Value.ref a:=rx
 exact zr I1 ea c n l λu' s2 I2 ru=>⟨v,H1,I2,ru,q⟩
theorem ug(ha:PE X o ta)(hv:PE X value tv)(hs:swapsWith value (some (.Attribute o f pos')) pos.line X.env=pure false):PS X (.Assign [.Attribute o f pos'] value pos) (sFld X.K ta tv f):=by
 intro pins s σ H D I h
 refine plainObj_wpAny_Assign_Attribute (thn (hv pins s σ H _ I h) λu s1 ⟨y,H1,I1,ry,q⟩=>thn (ha pins s1 σ H1 _ I1 q) λov s2 ⟨x,H2,I2,rx,a,C,dx,fs,ex,ea,c,n,l,q2⟩=>?_) hs
 subst ex
 obtain rfl:ov=Value.ref a:=rx
 exact zw I2 ea c n l ry λs3 I3=>⟨σ,_,I3,q2⟩
end
section
variable{X:Cx}{pins:List (Addr×Obj)}{σ:St}{H:Hp}{s:Shared}{A:Around}{E:Value->Shared->Prop}{Q:Value->Shared->Prop}{c:Value}{b:Bool}
inductive TyOf(K:PySem.W.Frag)(H:Hp):V->Value->Prop where
 | non:TyOf K H .non (.type "NoneType")
 | bl (x:Bool):TyOf K H (.bl x) (.type "bool")
 | int (i:Int):TyOf K H (.int i) (.type "int")
 | str (x:Str):TyOf K H (.str x) (.type "str")
 | flt (x:UInt64):TyOf K H (.flt x) (.type "float")
 | lst {a:Addr} {xs:List V} (e:H a=some (.lst xs)):TyOf K H (.ref a) (.type "list")
 | frz {a:Addr} {o:Obj} {xs:List V} (e:H a=some (.frz o (.lst xs))):TyOf K H (.ref a) (.type "list")
 | tup {a:Addr} {xs:List V} (e:H a=some (.tup xs)):TyOf K H (.ref a) (.type "tuple")
 | dK {a:Addr} {kvs:List (Key×V)} (e:H a=some (.dK kvs)):TyOf K H (.ref a) (.type "dict")
 | dT {a:Addr} {kvs:List (List Key×V)} (e:H a=some (.dT kvs)):TyOf K H (.ref a) (.type "dict")
 | ins {a C dx:Addr} {fs:List (Str×V)} (e:H a=some (.ins C dx fs)) (cl:Cls K C) (ha:PySem.W.findIn K (.ref C) "__class__"=some (some (.builtin "object.__class__")))
   (hn:PySem.W.specialIn K (.builtin "object.__class__") "__get__"=some (some (.builtin "getset_descriptor.__get__"))) (htk:PySem.W.takesIn K (.builtin "object.__class__")=some true)
   (hm:PySem.W.mroIn K C (.type "object")=some true):TyOf K H (.ref a) (.ref C)
theorem Bt{x:V}{u t:Value}(I:Inv X pins σ H s)(rx:RelV x u)(ty:TyOf X.K H x t)(e:PySem.W.kitOne X.K t c=some b)(h:∀tk,Q (.bool b) { s with toks:=tk }) :
  wpAny (model X.prog X.w) A (call (.builtin "isinstance") [u,c]) Q E s:=by
 cases ty with
 | non=>cases (show u=Value.none from rx);exact PySem.W.kia_one PySem.W.kitx_none I.kIn True.intro e (λz=>nomatch z) h
 | bl y=>cases (show u=Value.bool y from rx);exact PySem.W.kia_one PySem.W.kitx_bool I.kIn True.intro e (λz=>nomatch z) h
 | int i=>obtain⟨t,q⟩:=(show ∃t,u=Value.int i t from rx);cases q;exact PySem.W.kia_one PySem.W.kitx_int I.kIn True.intro e (λz=>nomatch z) h
 | str y=>obtain⟨t,q⟩:=(show ∃t,u=Value.str y t from rx);cases q;exact PySem.W.kia_one PySem.W.kitx_str I.kIn True.intro e (λz=>nomatch z) h
 | flt y=>obtain⟨t,q⟩:=(show ∃t,u=Value.float y t from rx);cases q;exact PySem.W.kia_one PySem.W.kitx_float I.kIn True.intro e (λz=>nomatch z) h
 | @lst a xs ea =>
  cases (show u=Value.ref a from rx)
  obtain⟨_,_,n,_,h1⟩:=(show ObjOk X.prog X.w H s.heap a (.lst xs)from I.hok a _ ea)
  exact PySem.W.kia_one PySem.W.kitx_list I.kIn ⟨_,h1,rfl⟩ e (λz=>nomatch z) h
 | @frz a ob xs ea =>
  cases (show u=Value.ref a from rx)
  obtain⟨_,_,_,n,_,h1⟩:=(show ObjOk X.prog X.w H s.heap a (.frz ob (.lst xs))from I.hok a _ ea)
  exact PySem.W.kia_one PySem.W.kitx_list I.kIn ⟨_,h1,rfl⟩ e (λz=>nomatch z) h
 | @tup a xs ea =>
  cases (show u=Value.ref a from rx)
  obtain⟨_,_,_,p⟩:=(show ObjOk X.prog X.w H s.heap a (.tup xs)from I.hok a _ ea)
  obtain⟨o,h1,h2,_⟩:=p
  exact PySem.W.kia_one PySem.W.kitx_tuple I.kIn ⟨o,h1,h2⟩ e (λz=>nomatch z) h
 | @dK a kvs ea =>
  cases (show u=Value.ref a from rx)
  obtain⟨_,_,vs,_,p⟩:=(show ObjOk X.prog X.w H s.heap a (.dK kvs)from I.hok a _ ea)
  obtain⟨o,es,ep,h1,h2,_⟩:=p
  exact PySem.W.kia_one PySem.W.kitx_dict I.kIn ⟨o,h1,h2.1⟩ e (λz=>nomatch z) h
 | @dT a kvs ea =>
  cases (show u=Value.ref a from rx)
  obtain⟨_,_,xs,_,o,es,ep,h1,h2,_⟩:=(show ObjOk X.prog X.w H s.heap a (.dT kvs)from I.hok a _ ea)
  exact PySem.W.kia_one PySem.W.kitx_dict I.kIn ⟨o,h1,h2.1⟩ e (λz=>nomatch z) h
 | @ins a C dx fs ea cl ha hn htk hm =>
  cases (show u=Value.ref a from rx)
  obtain⟨mA,O,_⟩:=wC I.hok ea
  obtain⟨od,J,_⟩:=O.look
  exact PySem.W.kia_one (PySem.W.kitx_own (cl.get _) cl.hd ha hn htk hm) I.kIn J e (λz=>nomatch z) h
end
end L2
namespace L2
open PySem PySem.Spec PyProof.Rows
structure Room(k:Nat)(A:Around):Prop where
 hd:A.handled=none
 dp:A.depth+3*k+5<recursionLimit
 un:A.units+16*k+200<cLine
theorem Room.mono{j k:Nat}{A:Around}(r:Room k A)(h:j<=k):Room j A:=⟨r.hd,by have:=r.dp;omega,by have:=r.un;omega⟩
theorem Room.deeper{k:Nat}{A:Around}(r:Room (k+1) A)(env:Env):Room k (A.deeper env) :=
 ⟨r.hd,by have:=r.dp;show A.depth+1+3*k+5<_;omega,by have:=r.un;show A.units+3+16*k+200<_;omega⟩
theorem Ag{A:Around}{C:Addr}{us:List Value}{kw:List (Str×Value)}:(A.under (.builtin "type.__call__" ⟨.ref C::us,kw⟩)).depth=A.depth+1:=by
 first|rfl|simp [Around.under,Code.weight,Code.isCreation,Code.isGuard,Code.isCaller,Code.frames,Code.isFrame,guardIds]
theorem zx{A:Around}{C:Addr}{us:List Value}{kw:List (Str×Value)}:(A.under (.builtin "type.__call__" ⟨.ref C::us,kw⟩)).units=A.units+1:=by
 first|rfl|simp [Around.under,Code.cUnits,Code.frames,Code.isFrame]
theorem Room.make{k:Nat}{A:Around}(r:Room (k+1) A)(C:Addr)(us:List Value)(kw:List (Str×Value)):Room k (A.under (.builtin "type.__call__" ⟨.ref C::us,kw⟩)) :=
 ⟨r.hd,by have:=r.dp;rw[Ag];omega,by have:=r.un;rw[zx];omega⟩
theorem Room.depth{k:Nat}{A:Around}(r:Room k A):A.depth<recursionLimit:=by have:=r.dp;omega
theorem Room.units{k:Nat}{A:Around}(r:Room k A):A.units+64<cLine:=by have:=r.un;omega
def tNil:TA:=λ_ H Q=>Q [] H
def tCons(ta:TE)(tr:TA):TA:=fun σ H Q=>ta σ H λx H1=>tr σ H1 λxs H2=>Q (x::xs) H2
section
variable{X:Cx}{e:Expr}{es:List Expr}{te:TE}{t:TA}{pos:Pos}
theorem sh:PA X [] tNil:=λ_ _ _ _ H Q I h=>Calls.spliced_nil ⟨[],H,I,.nil,h⟩
theorem sf(ha:PE X e te)(hr:PA X es t)(hs:starEach (e::es) X.env=(false,eval e X.env)::starEach es X.env:=by rfl):PA X (e::es) (tCons te t):=by
 intro pos pins s σ H Q I h
 rw[hs]
 show wpAny _ _ (spliced ((false,eval e X.env)::backTo pos (starEach es X.env))) _ _ s
 refine Calls.spliced_cons (thn (ha pins s σ H _ I h) λu s1 ⟨x,H1,I1,r1,q1⟩=>?_)
 exact thn (hr pos pins s1 σ H1 _ I1 q1) λus s2 ⟨xs,H2,I2,r2,q2⟩=>⟨x::xs,H2,I2,.cons r1 r2,q2⟩
def tTup(t:TA):TE:=fun σ H Q=>t σ H λxs H1=>xs.length<=sizeLine/\∀p,H1 p=none->Q (.ref p) (upd H1 p (.tup xs))
def tLst(t:TA):TE:=fun σ H Q=>t σ H λxs H1=>xs.length<=sizeLine/\∀p,H1 p=none->Q (.ref p) (upd H1 p (.lst xs))
theorem tj{x1}(h:PA X es t):PE X (.Tuple es x1 pos) (tTup t):=by
 intro pins s σ H Q I hq
 refine wpAny_Tuple_spliced (thn (h pos pins s σ H _ I hq) λus s1 ⟨xs,H1,I1,r,z,q⟩=>⟨by rw[←r.length];exact z,?_⟩)
 have hf:H1 s1.heap.objs.size=none:=I1.hok.fresh (zH _)
 refine⟨.ref s1.heap.objs.size,upd H1 s1.heap.objs.size (.tup xs),I1.laid (t':=s1.toks) (λb u e=>Heap.get?_push_of_some _ e) (zH _) ?_,rfl,q _ hf⟩
 exact⟨z,us,r,⟨_,Heap.get?_push_size _ rfl,rfl,_,rfl⟩⟩
theorem tJ(h:PA X es t):PE X (.List es pos) (tLst t):=by
 intro pins s σ H Q I hq
 refine wpAny_List_spliced (thn (h pos pins s σ H _ I hq) λus s1 ⟨xs,H1,I1,r,z,q⟩=>⟨by rw[←r.length];exact z,?_⟩)
 have hf:H1 s1.heap.objs.size=none:=I1.hok.fresh (zH _)
 refine⟨.ref s1.heap.objs.size,upd H1 s1.heap.objs.size (.lst xs),I1.laid (t':=s1.toks) (λb u e=>Heap.get?_push_of_some _ e) (zH _) ?_,rfl,q _ hf⟩
 exact⟨z,us,0,r,Heap.get?_push_size _ rfl⟩
end
abbrev Sp:=List V->Hp->VK->XK->Prop
abbrev CXT:=List Env->Hp->Shared->XK->Value->Shared->Prop
structure Env0(P:Program)(w:World)(K:PySem.W.Frag)(mg:Str->Option Value)(base:Heap)(A:Around)(outer:List Env)(s:Shared)(H:Hp):Prop where
 frames:A.frames=some outer
 mod:Mod K mg base
 bs:∀b o,base.get? b=some o->s.heap.get? b=some o/\H b=none
 bsz:base.objs.size<=s.heap.objs.size
 funs:s.heap.FunFrames base outer
 frf:∀b∈frs outer,H b=none
 hok:HOk P w H s.heap
 bare:AllBare s.gens
def CE(outer:List Env)(P:Program)(w:World)(H:Hp)(s:Shared)(Q:VK)(u:Value)(s':Shared):Prop :=
 ∃v H',s'.os=s.os/\AllBare s'.gens/\Un (frs outer) [] H H' s.heap s'.heap/\HOk P w H' s'.heap/\RelV v u/\Q v H'
def CR(CX:CXT)(outer:List Env)(P:Program)(w:World)(H:Hp)(s:Shared)(Q:VK)(E:XK)(r:Result)(s':Shared):Prop :=
 match r with
 | .ok (.ret u)=>CE outer P w H s Q u s'
 | .ok _=>False
 | .error e=>CX outer H s E e s'
structure FnOk(P:Program)(w:World)(K:PySem.W.Frag)(mg:Str->Option Value)(base:Heap)(CX:CXT)(k:Nat)(f:Addr)(fd:FuncData)(ps:List Str)(sp:Sp):Prop where
 len:∀vs H Q E,sp vs H Q E->vs.length=ps.length
 run:∀(A:Around)(outer:List Env)(s:Shared)(H:Hp)(args:Args)(us:List Value)(vs:List V)(Q:VK)(E:XK),Room k A->Env0 P w K mg base A outer s H->BindsTo s fd args (ps.zip us)->Vals vs us->sp vs H Q E ->
  codeAny (model P w) A (.call (.ref f) args) (CR CX outer P w H s Q E) s
theorem FnOk.mono{P:Program}{w:World}{K:PySem.W.Frag}{mg:Str->Option Value}{base:Heap}{CX:CXT}{j k:Nat}{f:Addr}{fd:FuncData}{ps:List Str}{sp:Sp}(F:FnOk P w K mg base CX j f fd ps sp)(h:j<=k) :
  FnOk P w K mg base CX k f fd ps sp:=⟨F.len,λA outer s H args us vs Q E hr=>F.run A outer s H args us vs Q E (hr.mono h)⟩
theorem FnOk.imp{P:Program}{w:World}{K:PySem.W.Frag}{mg:Str->Option Value}{base:Heap}{CX:CXT}{k:Nat}{f:Addr}{fd:FuncData}{ps:List Str}{sp sp':Sp}(F:FnOk P w K mg base CX k f fd ps sp)
  (h:∀vs H Q E,sp' vs H Q E->sp vs H Q E):FnOk P w K mg base CX k f fd ps sp' :=
 ⟨λvs H Q E q=>F.len vs H Q E (h _ _ _ _ q),λA outer s H args us vs Q E hr he hb hv hs=>F.run A outer s H args us vs Q E hr he hb hv (h _ _ _ _ hs)⟩
theorem Env0.make{P:Program}{w:World}{K:PySem.W.Frag}{mg:Str->Option Value}{base:Heap}{A:Around}{outer:List Env}{s:Shared}{H:Hp}(e:Env0 P w K mg base A outer s H)(C:Addr)(us:List Value)(kw:List (Str×Value)) :
  Env0 P w K mg base (A.under (.builtin "type.__call__" ⟨.ref C::us,kw⟩)) outer s H:=⟨by first|exact e.frames|(simpa [Around.under,Code.envs,Code.isFrame,pushEnvs]using e.frames),e.mod,e.bs,e.bsz,e.funs,e.frf,e.hok,e.bare⟩
section
variable{X:Cx}{pins:List (Addr×Obj)}{σ:St}{H:Hp}{s s':Shared}
theorem Inv.env0(I:Inv X pins σ H s):Env0 X.prog X.w X.K X.mg X.base X.A X.stack s H :=
 ⟨I.ok.frames,I.ok.mod,I.bs,z0 I.ok.bsz I.sz,I.stack,I.stkFree,I.hok,I.bare⟩
theorem Inv.after{Q:VK}{u:Value}(I:Inv X pins σ H s)(h:CE X.stack X.prog X.w H s Q u s'):EP X pins σ Q u s':=by
 obtain⟨v,H',os,bare,un,hok,r,q⟩:=h
 obtain⟨hh,g,d,t,os'⟩:=s'
 obtain rfl:os'=s.os:=os
 exact⟨v,H',I.call (h':=hh) (g':=g) (d':=d) (t':=t) (ch:=[]) un hok bare (λb z=>absurd z (by simp)),r,q⟩
end
def tCall(sp:Sp)(dvs:List V)(E:XK)(t:TA):TE:=fun σ H Q=>t σ H λvs H1=>sp (vs++dvs) H1 Q E
inductive tMeth_(C:Addr)(m:Str)(sp:Sp)(dvs:List V)(E:XK)(t:TA)(σ:St)(Q:VK)(x:V)(H1:Hp):Prop where
 | mk (a dx fs:_) (h_0:x=.ref a) (h_1:H1 a=some (.ins C dx fs)) (h_2:fs.lookup m=none) (h_3:t σ H1 λvs H2=>sp (x::(vs++dvs)) H2 Q E):tMeth_ C m sp dvs E t σ Q x H1
def tMeth(C:Addr)(m:Str)(sp:Sp)(dvs:List V)(E:XK)(ta:TE)(t:TA):TE:=fun σ H Q=>ta σ H λx H1=>tMeth_ C m sp dvs E t σ Q x H1
def tMake(C:Addr)(sp:Sp)(dvs:List V)(E:XK)(t:TA):TE:=fun σ H Q=>t σ H λvs H1=>∀x dx,H1 x=none->H1 dx=none->dx≠x ->
 sp (.ref x::(vs++dvs)) (upd (upd H1 dx (.own x)) x (.ins C dx [])) (λv H2=>v=.non/\Q (.ref x) H2) E
def Binds(K:PySem.W.Frag)(fd:FuncData)(ps:List Str)(ds:List Value):Prop :=
 ∀(s:Shared)(us:List Value),K.In s.heap->(us++ds).length=ps.length->BindsTo s fd ⟨us,[]⟩ (ps.zip (us++ds))
theorem Binds.all{K:PySem.W.Frag}{fd:FuncData}{ps:List Str}(h:∀us:List Value,us.length=ps.length->bindArgs fd ⟨us,[]⟩=pure (ps.zip us)):Binds K fd ps []:=λs us _ hl=>by
 rw[zP]at hl ⊢
 exact .of_eq (h us hl)
def Passes(CX:CXT)(X:Cx)(E:XK):Prop:=∀(pins:List (Addr×Obj))(σ:St)(H:Hp)(s:Shared)(e:Value)(s':Shared),Inv X pins σ H s->CX X.stack H s E e s'->X.xe e s'
section
variable{X:Cx}{CX:CXT}{k:Nat}{f C:Addr}{fd:FuncData}{ps:List Str}{sp:Sp}{dvs:List V}{ds:List Value}{E:XK}{x m:Str}{p pos apos:Pos}{e o:Expr}{es:List Expr}{ta:TE}{t:TA}
theorem xZ{pins:List (Addr×Obj)}{σ:St}{H:Hp}{s:Shared}{Q:VK}{us:List Value}{vs:List V}(F:FnOk X.prog X.w X.K X.mg X.base CX k f fd ps sp)(hr:Room k X.A)(hb:Binds X.K fd ps ds)(hd:Vals dvs ds)(hx:Passes CX X E)
  (I:Inv X pins σ H s) (r:Vals vs us) (h:sp (vs++dvs) H Q E):wpAny (model X.prog X.w) X.A (call (.ref f) us) (EP X pins σ Q) X.xe s:=by
 have r2:Vals (vs++dvs) (us++ds):=r.append hd
 have hl:(us++ds).length=ps.length:=by rw[←r2.length];exact F.len _ _ _ _ h
 refine wpAny_call (codeAny_mono (F.run X.A X.stack s H ⟨us,[]⟩ (us++ds) (vs++dvs) Q E hr I.env0 (hb s us I.kIn hl) r2 h) λr s' hq=>?_)
 cases r with
 | error e=>exact hx pins σ H s e s' I hq
 | ok fl =>
  cases fl with
  | ret u=>exact I.after hq
  | next=>exact False.elim hq
  | brk=>exact False.elim hq
  | cont=>exact False.elim hq
theorem DZ(F:FnOk X.prog X.w X.K X.mg X.base CX k f fd ps sp)(hr:Room k X.A)(hg:Gl X x)(hm:X.mg x=some (.ref f))(hk:PySem.W.keepIn X.K (.ref f)=true)(hb:Binds X.K fd ps ds)(hd:Vals dvs ds)(hx:Passes CX X E)
  (ha:PA X (e::es) t) (hdb:(x==("__debug__":Str))=false:=by decide) (he:starEach (e::es) X.env=(false,eval e X.env)::starEach es X.env:=by rfl) (hpl:(backTo pos (starEach es X.env)).any (·.1)=false:=by rfl) :
  PE X (.Call (.Name x p) (e::es) [] pos) (tCall sp dvs E t):=by
 intro pins s σ H Q I h
 refine wpAny_Call_Name_kw (wu I hg hm ?_ hdb)
 refine PySem.W.callWith_K (h₀:=X.base) I.ok.mod.kin hk (thn (ha pos pins s σ H _ I h) λus s1 ⟨vs,H1,I1,r,q⟩=>⟨I1.kIn,?_⟩) he hpl
 exact xZ F hr hb hd hx I1 r q
theorem Dr{pl:Sem Bool}(he:PE X o ta)(c:Cls X.K C)(hm:Meth X.K C m f)(F:FnOk X.prog X.w X.K X.mg X.base CX k f fd ps sp)(hr:Room k X.A)(hb:Binds X.K fd ps ds)(hd:Vals dvs ds)(hx:Passes CX X E)(ha:PA X (e::es) t)
  (hst:starEach (e::es) X.env=(false,eval e X.env)::starEach es X.env:=by rfl) (hpl:(backTo pos (starEach es X.env)).any (·.1)=false:=by rfl)
  (ht:eval (.Call (.Attribute o m apos) (e::es) [] pos) X.env=(do
   let ov ←eval o X.env
   standAt apos.atName
   let (f,first) ←holding [ov] (getMethod ov m pl)
   callWith pos f first (backTo pos (starEach (e::es) X.env)) (backToKw pos (keywordEach [] X.env))):=by rfl) :
  PE X (.Call (.Attribute o m apos) (e::es) [] pos) (tMeth C m sp dvs E ta t):=by
 intro pins s σ H Q I h
 refine PySem.W.methodCall_KW (pl:=pl) (thn (he pins s σ H _ I h) λu s1 ⟨x,H1,I1,rx,a,dx,fs,ex,ea,l,q⟩=>?_) ht
 subst ex
 obtain rfl:u=Value.ref a:=rx
 refine wN I1 ea c hm l ?_
 refine PySem.W.callWith_K (first:=[.ref a]) (h₀:=X.base) I.ok.mod.kin hm.kp (thn (ha pos pins s1 σ H1 _ I1 q) λus s2 ⟨vs,H2,I2,r,q2⟩=>⟨I2.kIn,?_⟩) hst hpl
 exact xZ (us:=.ref a::us) (vs:=.ref a::vs) F hr hb hd hx I2 (.cons rfl r) q2
structure Mk(K:PySem.W.Frag)(C f:Addr):Prop where
 makes:PySem.W.makesIn K C=true
 init:PySem.W.findIn K (.ref C) "__init__"=some (some (.ref f))
 fn:PySem.W.isFn K (.ref f)=true
 kp:PySem.W.keepIn K (.ref C)=true
theorem Cq{pins:List (Addr×Obj)}{σ:St}{H:Hp}{s:Shared}{Q:VK}{us:List Value}{vs:List V}(M:Mk X.K C f)(F:FnOk X.prog X.w X.K X.mg X.base CX k f fd ps sp)(hr:Room (k+1) X.A)(hb:Binds X.K fd ps ds)(hd:Vals dvs ds)
  (hx:Passes CX X E) (I:Inv X pins σ H s) (r:Vals vs us)
  (h:∀x dx,H x=none->H dx=none->dx≠x->sp (.ref x::(vs++dvs)) (upd (upd H dx (.own x)) x (.ins C dx [])) (λv H2=>v=.non/\Q (.ref x) H2) E) :
  wpAny (model X.prog X.w) X.A (call (.ref C) us) (EP X pins σ Q) X.xe s:=by
 have hq:=h (s.heap.objs.size+1) s.heap.objs.size (I.hok.fresh (yZ _)) (I.hok.fresh (zH _)) (zW (qY _))
 have I2:=Inv.made (C:=C) I
 have r2:Vals (V.ref (s.heap.objs.size+1)::(vs++dvs)) (Value.ref (s.heap.objs.size+1)::(us++ds)):=.cons rfl (r.append hd)
 have hl:(Value.ref (s.heap.objs.size+1)::us++ds).length=ps.length:=by
  have e:=r2.length
  rw[F.len _ _ _ _ hq]at e
  exact e.symm
 refine wpAny_call (BM (f:=f) I.kIn M.makes M.init (beq_iff_eq.mp M.fn) (codeAny_mono (F.run _ X.stack _ _ ⟨Value.ref (s.heap.objs.size+1)::us,[]⟩ (Value.ref (s.heap.objs.size+1)::(us++ds)) _ _ E (hr.make C us [])
  (I2.env0.make C us []) (hb _ (Value.ref (s.heap.objs.size+1)::us) I2.kIn hl) r2 hq) λr s' hq'=>?_))
 cases r with
 | error e=>exact hx pins σ _ _ e s' I2 hq'
 | ok fl =>
  cases fl with
  | ret u =>
   obtain⟨v,H',I3,rv,ev,q3⟩:=I2.after hq'
   subst ev
   exact⟨rv,⟨V.ref (s.heap.objs.size+1),H',I3,rfl,q3⟩⟩
  | next=>exact False.elim hq'
  | brk=>exact False.elim hq'
  | cont=>exact False.elim hq'
theorem Do(M:Mk X.K C f)(F:FnOk X.prog X.w X.K X.mg X.base CX k f fd ps sp)(hr:Room (k+1) X.A)(hg:Gl X x)(hm:X.mg x=some (.ref C))(hb:Binds X.K fd ps ds)(hd:Vals dvs ds)(hx:Passes CX X E)
  (ha:PA X (e::es) t) (hdb:(x==("__debug__":Str))=false:=by decide) (he:starEach (e::es) X.env=(false,eval e X.env)::starEach es X.env:=by rfl) (hpl:(backTo pos (starEach es X.env)).any (·.1)=false:=by rfl) :
  PE X (.Call (.Name x p) (e::es) [] pos) (tMake C sp dvs E t):=by
 intro pins s σ H Q I h
 refine wpAny_Call_Name_kw (wu I hg hm ?_ hdb)
 refine PySem.W.callWith_K (h₀:=X.base) I.ok.mod.kin M.kp (thn (ha pos pins s σ H _ I h) λus s1 ⟨vs,H1,I1,r,q⟩=>⟨I1.kIn,?_⟩) he hpl
 exact Cq M F hr hb hd hx I1 r q
end
section
variable{X:Cx}{CX:CXT}{k:Nat}{f C:Addr}{fd:FuncData}{ps ks:List Str}{sp:Sp}{E:XK}{x m:Str}{p pos apos kpos:Pos}{e o:Expr}{es:List Expr}{kws:List Keyword}{te ta:TE}{t tk:TA}{nm:Option Str}
variable{g:List Value->List Value->List Value}{gV:List V->List V->List V}
end
structure FnScope(N P:List Str)(sc:Scope):Prop where
 kind:sc.kind=.function
 co:sc.isCoroutine=false
 gen:sc.isGenerator=false
 nd:N.Nodup
 pre:N.take P.length=P
 par:∀x∈P,sc.names.lookup x=some .local\/sc.names.lookup x=some .cell
 nofree:∀y∈sc.names,y.2≠.free
theorem xx{kindOf:Str->Option NameKind}{x:Str}:∀{binds:List (Str×Value)}{m:Str->Option Value},(∀v,(x,v)∉binds)->bindL kindOf binds m x=m x
 | [],_,_=>rfl
 | (n,v)::r,m,h=>by
  unfold bindL
  rw[xx λw hw=>h w (zL _ hw)]
  split
  ·have:x≠n:=by rintro rfl;exact h v zJ
   simp [this]
  ·rfl
theorem xo{kindOf:Str->Option NameKind}{x:Str}:∀{binds:List (Str×Value)}{m:Str->Option Value},(∀v,(x,v)∉binds)->bindC kindOf binds m x=m x
 | [],_,_=>rfl
 | (n,v)::r,m,h=>by
  unfold bindC
  rw[xo λw hw=>h w (zL _ hw)]
  split
  ·rfl
  ·have:x≠n:=by rintro rfl;exact h v zJ
   simp [this]
theorem xy{kindOf:Str->Option NameKind}{x:Str}{v:Value}:∀{P:List Str}{vs:List Value}{i:Nat}{m:Str->Option Value},P.Nodup->P[i]?=some x->vs[i]?=some v->kindOf x=some .local ->
  bindL kindOf (P.zip vs) m x=some v
 | [],_,_,_,_,h,_,_=>by simp at h
 | _::_,[],_,_,_,_,h,_=>by simp at h
 | p::P,w::vs,0,m,nd,h1,h2,hk=>by
  simp at h1 h2;subst h1;subst h2
  show bindL kindOf ((p,w)::P.zip vs) m p=_
  unfold bindL
  rw[xx λv hv=>(qF.mp nd).1 (jJ hv).1,if_pos hk]
  simp
 | p::P,w::vs,i+1,m,nd,h1,h2,hk=>by
  show bindL kindOf ((p,w)::P.zip vs) m x=_
  unfold bindL
  exact xy (i:=i) (qF.mp nd).2 (by simpa using h1) (by simpa using h2) hk
theorem xg{kindOf:Str->Option NameKind}{x:Str}{v:Value}:∀{P:List Str}{vs:List Value}{i:Nat}{m:Str->Option Value},P.Nodup->P[i]?=some x->vs[i]?=some v->kindOf x≠some .local ->
  bindC kindOf (P.zip vs) m x=some v
 | [],_,_,_,_,h,_,_=>by simp at h
 | _::_,[],_,_,_,_,h,_=>by simp at h
 | p::P,w::vs,0,m,nd,h1,h2,hk=>by
  simp at h1 h2;subst h1;subst h2
  show bindC kindOf ((p,w)::P.zip vs) m p=_
  unfold bindC
  rw[xo λv hv=>(qF.mp nd).1 (jJ hv).1,if_neg hk]
  simp
 | p::P,w::vs,i+1,m,nd,h1,h2,hk=>by
  show bindC kindOf ((p,w)::P.zip vs) m x=_
  unfold bindC
  exact xg (i:=i) (qF.mp nd).2 (by simpa using h1) (by simpa using h2) hk
def start(N:List Str)(vs:List V):St:=vs.map some++List.replicate (N.length-vs.length) none
def cxOf(CX:CXT)(P:Program)(w:World)(K:PySem.W.Frag)(mg:Str->Option Value)(base:Heap)(N:List Str)(qual:Str)(scope:Scope)(f:Addr)(cd:Value)(A:Around)(outer:List Env)(s:Shared)(H:Hp)(E:XK):Cx where
 prog:=P
 w:=w
 K:=K
 mg:=mg
 base:=base
 A:=A.deeper (envOfC qual scope s.heap.objs.size f cd)
 N:=N
 s₀:=s
 H₀:=H
 env:=envOfC qual scope s.heap.objs.size f cd
 outer:=outer
 stack:=envOfC qual scope s.heap.objs.size f cd::outer
 ex:=[]
 calm:=true
 fn:=λ_=>true
 pn:=[]
 xe:=λe s'=>wpAny (model P w) (A.deeper (envOfC qual scope s.heap.objs.size f cd)) (leaving (envOfC qual scope s.heap.objs.size f cd) e) (λ_ s''=>CX outer H s E e s'') (λe' s''=>CX outer H s E e' s'') s'
theorem yw{sc:Scope}{n:Nat}{x:Str}(h:sc.names.lookup x=some .cell):∃c,(cellsFrom n sc.names []).lookup x=some c:=by
 have q:=PySem.W.cellsFrom_some sc.names n [] (.inl h)
 exact qA.mp q
theorem Bb{CX:CXT}{P:Program}{w:World}{K:PySem.W.Frag}{mg:Str->Option Value}{base:Heap}{N ps:List Str}{qual:Str}{scope:Scope}{f:Addr}{cd:Value}{A:Around}{outer:List Env}{s s1:Shared}{H:Hp}{E:XK}{us:List Value}{vs:List V}
  (S:FnScope N ps scope) (hd:A.handled=none) (e0:Env0 P w K mg base A outer s H) (hl:vs.length=ps.length) (r:Vals vs us)
  (x:InCallC s s.heap.objs.size (bindL (envOfC qual scope s.heap.objs.size f cd).kindOf (ps.zip us) λ_=>none) (cellsFrom (s.heap.objs.size+1) scope.names []) (bindC (envOfC qual scope s.heap.objs.size f cd).kindOf (ps.zip us) λ_=>none) s1) :
  Inv (cxOf CX P w K mg base N qual scope f cd A outer s H E) [] (start N vs) H s1:=by
 have hpl:ps.length<=N.length:=by have:=congrArg List.length S.pre;rw[zY]at this;omega
 obtain⟨h1,tk,rfl,hk⟩:=x.done
 have noA:∀b:Addr,b∉(cxOf CX P w K mg base N qual scope f cd A outer s H E).ex:=λb z=>absurd (show b∈([]:List Addr)from z) (by simp)
 refine⟨⟨e0.mod,S.kind,rfl,rfl,zH _,λy z c h1 h2=>?_,λy hy=>?_,λy c _ h=>?_,λ_=>hd,Around.frames_deeper e0.frames,.inr ⟨rfl,rfl⟩,λb z=>absurd z (noA b),e0.bs,e0.bsz,λb _ _=>noA b,λb z=>absurd z (noA b),e0.funs,e0.frf⟩,
  rfl,e0.bare,Un.kept hk,⟨_,x.toInCall.ns,λi y v h1 h2 h3=>?_⟩,λy c h=>⟨_,x.cell y c h⟩,e0.hok.fresh (zH _),λy c h=>?_,λp hp=>absurd (show p∈([]:List (Addr×Obj))from hp) (by simp),e0.hok.kept hk,?_⟩
 ·exact name_of_addr x.apart (PySem.mem_of_lookup h1) (PySem.mem_of_lookup h2)
 ·have hy:scope.names.lookup y=some .cell\/scope.names.lookup y=some .free:=hy
  rcases hy with hy|hy
  ·exact yw hy
  ·exact absurd rfl (S.nofree _ (PySem.mem_of_lookup hy))
 ·exact yY (x.above y c (PySem.mem_of_lookup h))
 ·have hi:i<vs.length:=by
   unfold start at h2
   by_cases hi:i<vs.length
   ·exact hi
   ·rw[zN (by simpa using hi)]at h2
    rw[List.getElem?_replicate]at h2
    split at h2 <;>cases h2
  have ha:vs[i]?=some v:=by
   unfold start at h2
   rw[yF (by simpa using hi),zF]at h2
   cases e:vs[i]? with
   | none=>rw[e]at h2;cases h2
   | some a=>rw[e]at h2;cases h2;rfl
  obtain⟨u,hu,rv⟩:=r.get ha
  have hp:ps[i]?=some y:=by
   rw[←S.pre,kU (by omega)];exact h1
  have ndP:ps.Nodup:=by rw[←S.pre];exact S.nd.sublist (List.take_sublist _ _)
  refine⟨u,rv,?_⟩
  rcases S.par y (zE hp)with k|k
  ·exact .inl ⟨k,xy ndP hp hu k⟩
  ·obtain⟨c,e⟩:=yw (n:=s.heap.objs.size+1) k
   refine .inr ⟨.inl k,c,e,?_⟩
   have q:=x.cell y c e
   rw[xg ndP hp hu (by show scope.names.lookup y≠_;rw[k];decide)]at q
   exact q
 ·exact e0.hok.fresh (yY (x.above y c (PySem.mem_of_lookup h)))
 ·unfold start
  show _=N.length
  rw[zM,zC,List.length_replicate]
  omega
theorem EE{CX:CXT}{P:Program}{w:World}{K:PySem.W.Frag}{mg:Str->Option Value}{base:Heap}{k:Nat}{f:Addr}{name qual:Str}{params:Arguments}{body:List Stmt}{scope:Scope}{dV kV doc pm cdv ct oc:Value}{an od:Option Addr}
  {osl:Array (Option Value)} {N ps:List Str} {sp:Sp} (lk:K.lookup f=some ⟨oc,od,.func (PySem.W.fnOf name qual params body scope dV kV doc pm an cdv ct),osl⟩) (hcd:PySem.W.codeIn K cdv qual=true) (S:FnScope N ps scope)
  (len:∀vs H Q E,sp vs H Q E->vs.length=ps.length)
  (hbody:∀(A:Around)(outer:List Env)(s:Shared)(H:Hp)(vs:List V)(Q:VK)(E:XK),Room k (A.deeper (envOfC qual scope s.heap.objs.size f cdv))->sp vs H Q E ->
   ∃t,PSs (cxOf CX P w K mg base N qual scope f cdv A outer s H E) body t/\t { nx:=λ_ H'=>Q .non H',rt:=Q } (start N vs) H) :
  FnOk P w K mg base CX (k+1) f (PySem.W.fnOf name qual params body scope dV kV doc pm an cdv ct) ps sp:=by
 refine⟨len,λA outer s H args us vs Q E hr e0 hb r hsp=>?_⟩
 have hl:=len _ _ _ _ hsp
 have KX:K.In s.heap:=e0.mod.kin.keeps λb o e=>(e0.bs b o e).1
 have lim:s.heap.NoLimit:=e0.mod.nolimit.keeps λb o e=>(e0.bs b o e).1
 have hkind:∀y∈ps.zip us,scope.names.lookup y.1=some .local\/(scope.names.lookup y.1=some .cell/\((cellsFrom (s.heap.objs.size+1) scope.names []).lookup y.1).isSome=true):=λ⟨n,v⟩ hy=>by
  rcases S.par n (jJ hy).1 with q|q
  ·exact .inl q
  ·exact .inr ⟨q,PySem.W.cellsFrom_some _ _ _ (.inl q)⟩
 refine codeAny_call_function hr.depth (KX _ _ lk) rfl S.co S.gen rfl (PySem.W.codeRec_of KX hcd) (hb _ _ _ _ ?_)
 refine wpAny_newFunctionEnv_cells S.kind hkind λenv he s1 x=>?_
 subst he
 refine⟨lim.keeps x.toInCall.keep,codeAny_func ?_⟩
 obtain⟨t,ht,hq⟩:=hbody A outer s H vs Q E (hr.deeper _) hsp
 have I:Inv (cxOf CX P w K mg base N qual scope f cdv A outer s H E) [] (start N vs) H s1:=Bb S hr.hd e0 hl r x
 refine wpAny_mono (ht [] s1 (start N vs) H _ I hq) (λfl s' hs=>?_) λe s' hs=>hs
 have fin:∀{σ':St}{H':Hp}{v:V}{u:Value},Inv (cxOf CX P w K mg base N qual scope f cdv A outer s H E) [] σ' H' s'->RelV v u->Q v H'->CE outer P w H s Q u s' :=
  fun {σ' H' v u} J rv q=>⟨v,H',J.os,J.bare,J.base,J.hok,rv,q⟩
 cases fl with
 | ret u =>
  obtain⟨v,σ',H',J,rv,q⟩:=hs
  exact fin J rv q
 | next =>
  obtain⟨σ',H',J,q⟩:=hs
  exact fin (v:=V.non) (u:=Value.none) J rfl q
 | brk =>
  obtain⟨_,_,_,q⟩:=hs
  exact False.elim q
 | cont =>
  obtain⟨_,_,_,q⟩:=hs
  exact False.elim q
end L2
namespace L2
open PySem PySem.Spec PyProof.Rows
section
variable{X:Cx}{x:Str}{p pos:Pos}{e:Expr}{es:List Expr}{t:TA}{id T:String}{r:List V->Hp->VK->Prop}
def tCB(r:List V->Hp->VK->Prop)(t:TA):TE:=fun σ H Q=>t σ H λvs H1=>r vs H1 Q
theorem sR(hc:CallR X (.builtin id) r)(hg:Gl X x)(hm:X.mg x=none)(hv:bootBuiltins x=some (.builtin id))(ha:PA X (e::es) t)(hn:x ≠ "__name__":=by decide)(hdb:(x==("__debug__":Str))=false:=by decide)
  (he:starEach (e::es) X.env=(false,eval e X.env)::starEach es X.env:=by rfl) (hpl:(backTo pos (starEach es X.env)).any (·.1)=false:=by rfl):PE X (.Call (.Name x p) (e::es) [] pos) (tCB r t):=by
 intro pins s σ H Q I h
 refine wpAny_Call_Name_kw (uJ I hg hm hv ?_ hn hdb)
 exact PyProof.Rows.callWith_builtin1 (thn (ha pos pins s σ H _ I h) λus s1 ⟨vs,H1,I1,r1,q1⟩=>hc pins s1 σ H1 vs us Q I1 r1 q1) he hpl
theorem vc(hc:CallR X (.type T) r)(hg:Gl X x)(hm:X.mg x=none)(hv:bootBuiltins x=some (.type T))(ha:PA X (e::es) t)(hn:x ≠ "__name__":=by decide)(hdb:(x==("__debug__":Str))=false:=by decide)
  (he:starEach (e::es) X.env=(false,eval e X.env)::starEach es X.env:=by rfl) (hpl:(backTo pos (starEach es X.env)).any (·.1)=false:=by rfl):PE X (.Call (.Name x p) (e::es) [] pos) (tCB r t):=by
 intro pins s σ H Q I h
 refine wpAny_Call_Name_kw (uJ I hg hm hv ?_ hn hdb)
 exact PyProof.Rows.callWith_type1 (thn (ha pos pins s σ H _ I h) λus s1 ⟨vs,H1,I1,r1,q1⟩=>hc pins s1 σ H1 vs us Q I1 r1 q1) he hpl
end
end L2
namespace L2
open PySem PySem.Spec PyProof.Rows
section
variable{κ:Type}[DecidableEq κ]
def valV(kvs:List (κ×V))(k:κ):Option V:=(kvs.find? λkv=>decide (kv.1=k)).map (·.2)
def putK(kvs:List (κ×V))(k:κ)(v:V):List (κ×V) :=
 if (kvs.any λkv=>decide (kv.1=k))=true then kvs.map (λkv=>if kv.1=k then (kv.1,v)else kv)else kvs++[(k,v)]
theorem uL{p:κ×V}{r:List (κ×V)}{k:κ}(e:p.1=k):valV (p::r) k=some p.2:=by simp [valV,qG,e]
theorem u7{p:κ×V}{r:List (κ×V)}{k:κ}(e:¬p.1=k):valV (p::r) k=valV r k:=by simp [valV,qG,e]
theorem wS(k:κ):∀kvs:List (κ×V),(kvs.any λkv=>decide (kv.1=k))=(valV kvs k).isSome
 | []=>rfl
 | p::r=>by
  rw[qQ]
  by_cases e:p.1=k
  ·simp only [uL e,decide_eq_true e,Bool.true_or,Option.isSome_some]
  ·rw[u7 e,decide_eq_false e,Bool.false_or];exact wS k r
theorem wq(kvs:List (κ×V))(k:κ)(v:V):(putK kvs k v).length<=kvs.length+1:=by
 unfold putK
 split
 ·rw[zC];omega
 ·rw[zM,zX,qU];omega
theorem vw{kvs:List (κ×V)}{k:κ}(v:V)(h:valV kvs k=none):putK kvs k v=kvs++[(k,v)]:=by
 unfold putK
 rw[wS,h]
 exact if_neg (by decide)
theorem RelO.isSome_eq{o:Option V}{u:Option Value}(r:RelO o u):o.isSome=u.isSome:=by
 cases o with
 | none=>cases u with
  | none=>rfl
  | some _=>exact(show False from r).elim
 | some _=>cases u with
  | none=>exact(show False from r).elim
  | some _=>rfl
theorem RelO.getD{o:Option V}{u:Option Value}{d:V}{d':Value}(r:RelO o u)(rd:RelV d d'):RelV (o.getD d) (u.getD d'):=by
 cases o with
 | none=>cases u with
  | none=>exact rd
  | some _=>exact(show False from r).elim
 | some _=>cases u with
  | none=>exact(show False from r).elim
  | some _=>exact r
theorem KV.val{kvs:List (κ×V)}{vs:List (κ×Value)}(r:KV kvs vs)(k:κ):RelO (valV kvs k) (valueAt vs k):=by
 unfold KV at r
 induction r with
 | nil=>exact True.intro
 | @cons p q ps qs h t ih =>
  obtain⟨h1,h2⟩:=h
  by_cases e:p.1=k
  ·have e':q.1=k:=h1.symm.trans e
   have b:valueAt (q::qs) k=some q.2:=by simp [valueAt,qG,e']
   rw[uL e,b];exact h2
  ·have e':¬q.1=k:=λz=>e (h1.trans z)
   have b:valueAt (q::qs) k=valueAt qs k:=by simp [valueAt,qG,e']
   rw[u7 e,b];exact ih
theorem KV.any{kvs:List (κ×V)}{vs:List (κ×Value)}(r:KV kvs vs)(k:κ):(kvs.any λkv=>decide (kv.1=k))=vs.any λkv=>decide (kv.1=k):=by
 unfold KV at r
 induction r with
 | nil=>rfl
 | cons h t ih=>rw[qQ,qQ,ih,h.1]
theorem KV.repl{kvs:List (κ×V)}{vs:List (κ×Value)}(r:KV kvs vs)(k:κ){y:V}{u:Value}(ry:RelV y u) :
  KV (kvs.map λkv=>if kv.1=k then (kv.1,y)else kv) (vs.map λkv=>if kv.1=k then (kv.1,u)else kv):=by
 unfold KV at r ⊢
 induction r with
 | nil=>exact .nil
 | @cons p q ps qs h t ih =>
  rw[yE,yE]
  refine .cons ?_ ih
  obtain⟨h1,h2⟩:=h
  by_cases e:p.1=k
  ·rw[if_pos e,if_pos (h1.symm.trans e)];exact⟨h1,ry⟩
  ·rw[if_neg e,if_neg (λz=>e (h1.trans z))];exact⟨h1,h2⟩
theorem KV.put{kvs:List (κ×V)}{vs:List (κ×Value)}(r:KV kvs vs)(k:κ){y:V}{u:Value}(ry:RelV y u):KV (putK kvs k y) (stored vs k u):=by
 unfold putK stored
 rw[r.any k]
 by_cases e:(vs.any λkv=>decide (kv.1=k))=true
 ·rw[if_pos e,if_pos e];exact r.repl k ry
 ·rw[if_neg e,if_neg e];exact Paired.snoc r ⟨rfl,ry⟩
theorem KV.keys{kvs:List (κ×V)}{vs:List (κ×Value)}(r:KV kvs vs):kvs.map (·.1)=vs.map (·.1):=by
 unfold KV at r
 induction r with
 | nil=>rfl
 | cons h t ih=>rw[yE,yE,ih,h.1]
theorem KV.length{kvs:List (κ×V)}{vs:List (κ×Value)}(r:KV kvs vs):kvs.length=vs.length:=Paired.length r
end
theorem A8{P:Program}{w:World}{k:Key}{u:Value}(r:RelV (kV k) u):(mixKind P w).is k u=true:=by
 cases k with
 | inl i=>obtain⟨t,e⟩:=(show ∃t,u=Value.int i t from r);subst e;exact y_ P w i t
 | inr x=>obtain⟨t,e⟩:=(show ∃t,u=Value.str x t from r);subst e;exact yg P w x t
theorem xh{P:Program}{w:World}:∀{ks:List Key}{us:List Value},Vals (ks.map kV) us->ItemsAre (mixKind P w) ks us
 | [],_,r=>by rw[jT]at r;cases r;exact .nil
 | k::ks,_,r=>by
  rw[yE]at r
  cases r with
  | cons h t=>exact .cons (A8 h) (xh t)
abbrev KT(H:Hp):List (List Key×V)->List (List Key×Addr×Value)->Prop:=Paired λp q=>p.1=q.1/\H q.2.1=some (.tup (p.1.map kV))/\RelV p.2 q.2.2
theorem KT.val{H:Hp}{kvs:List (List Key×V)}{xs:List (List Key×Addr×Value)}(r:KT H kvs xs)(k:List Key):RelO (valV kvs k) ((atKey xs k).map (·.2)):=by
 induction r with
 | nil=>exact True.intro
 | @cons p q ps qs h t ih =>
  obtain⟨h1,_,h2⟩:=h
  by_cases e:p.1=k
  ·have e':q.1=k:=h1.symm.trans e
   have b:atKey (q::qs) k=some q.2:=by simp [atKey,qG,e']
   rw[uL e,b];exact h2
  ·have e':¬q.1=k:=λz=>e (h1.trans z)
   have b:atKey (q::qs) k=atKey qs k:=by simp [atKey,qG,e']
   rw[u7 e,b];exact ih
theorem KT.repl{H:Hp}{kvs:List (List Key×V)}{xs:List (List Key×Addr×Value)}(r:KT H kvs xs)(k:List Key){y:V}{u:Value}(ry:RelV y u) :
  KT H (kvs.map λkv=>if kv.1=k then (kv.1,y)else kv) (xs.map (putAt k u)):=by
 induction r with
 | nil=>exact .nil
 | @cons p q ps qs h t ih =>
  rw[yE,yE]
  refine .cons ?_ ih
  obtain⟨h1,h2,h3⟩:=h
  unfold putAt
  by_cases e:p.1=k
  ·rw[if_pos e,if_pos (h1.symm.trans e)];exact⟨h1,h2,ry⟩
  ·rw[if_neg e,if_neg (λz=>e (h1.trans z))];exact⟨h1,h2,h3⟩
theorem KT.put{H:Hp}{kvs:List (List Key×V)}{xs:List (List Key×Addr×Value)}(r:KT H kvs xs)(k:List Key){b:Addr}{y:V}{u:Value}(hb:H b=some (.tup (k.map kV)))(ry:RelV y u) :
  KT H (putK kvs k y) (storedH xs k b u):=by
 have e:(kvs.any λkv=>decide (kv.1=k))=(atKey xs k).isSome:=by
  rw[wS,(r.val k).isSome_eq,Option.isSome_map]
 unfold putK storedH
 rw[e]
 by_cases q:(atKey xs k).isSome=true
 ·rw[if_pos q,if_pos q];exact r.repl k ry
 ·rw[if_neg q,if_neg q];exact Paired.snoc r ⟨rfl,hb,ry⟩
theorem KT.keeps{H H':Hp}{kvs:List (List Key×V)}{xs:List (List Key×Addr×Value)}(r:KT H kvs xs)(ht:∀b ys,H b=some (.tup ys)->H' b=some (.tup ys)):KT H' kvs xs :=
 Paired.mapP r λ_ _ z=>⟨z.1,ht _ _ z.2.1,z.2.2⟩
section
variable{P:Program}{w:World}{H:Hp}{h:Heap}{a:Addr}
theorem EK{u:HO}(ok:HOk P w H h)(e:Rd H a u):ObjOk P w H h a u:=e.ok ok
theorem zc{kvs:List (Key×V)}(ok:HOk P w H h)(e:Rd H a (.dK kvs)):kvs.length<=sizeLine/\(a==sysModules)=false/\∃vs,KV kvs vs/\h.DictOf (mixKind P w) a vs :=
 show ObjOk P w H h a (.dK kvs)from EK ok e
theorem Gp{kvs:List (Key×V)}(ok:HOk P w H h)(e:H a=some (.dK kvs)):kvs.length<=sizeLine/\(a==sysModules)=false/\∃vs,KV kvs vs/\h.DictOf (mixKind P w) a vs:=zc ok (.inl e)
theorem yf{ks:List Key}(ok:HOk P w H h)(e:H a=some (.tup (ks.map kV))):(tupleKind (mixKind P w)).is h ks a:=by
 obtain⟨_,its,r,o,h1,h2,n,h3⟩:=(show ObjOk P w H h a (.tup (ks.map kV))from ok a _ e)
 exact⟨o,its.toArray,n,h1,h2,h3,by simpa using xh r⟩
theorem zh{kvs:List (List Key×V)}(ok:HOk P w H h)(e:Rd H a (.dT kvs)):kvs.length<=sizeLine/\(a==sysModules)=false /\
  ∃xs,KT H kvs xs/\h.DictOfH (tupleKind (mixKind P w)) a xs:=by
 obtain⟨z,y,xs,r,o,es,ep,h1,h2,h3,h4,h5⟩:=(show ObjOk P w H h a (.dT kvs)from EK ok e)
 refine⟨z,y,xs,r,o,es,ep,h1,h2,h3,h4,λx hx=>?_,h5⟩
 have all:∀{l:List (List Key×V)}{m:List (List Key×Addr×Value)},KT H l m->∀x∈m,(tupleKind (mixKind P w)).is h x.1 x.2.1:=by
  intro l m q
  induction q with
  | nil=>intro x hx;exact nomatch hx
  | @cons p q ps qs hq t ih =>
   intro x hx
   rcases zR.mp hx with e|hx
   ·subst e
    exact yf ok (by rw[←hq.1];exact hq.2.1)
   ·exact ih x hx
 exact all r x hx
theorem Gd{kvs:List (List Key×V)}(ok:HOk P w H h)(e:H a=some (.dT kvs)):kvs.length<=sizeLine/\(a==sysModules)=false /\
  ∃xs,KT H kvs xs/\h.DictOfH (tupleKind (mixKind P w)) a xs:=zh ok (.inl e)
end
def DGet(H:Hp)(a:Addr)(y:V)(r:Option V):Prop :=
 (∃kvs k,Rd H a (.dK kvs)/\y=kV k/\r=valV kvs k)\/∃kvs k b,Rd H a (.dT kvs)/\y=.ref b/\H b=some (.tup (k.map kV))/\r=valV kvs k
def DPut(H:Hp)(a:Addr)(y v:V)(H':Hp):Prop :=
 (∃kvs k,H a=some (.dK kvs)/\y=kV k/\kvs.length<sizeLine/\H'=upd H a (.dK (putK kvs k v))) \/
 ∃kvs k b,H a=some (.dT kvs)/\y=.ref b/\H b=some (.tup (k.map kV))/\kvs.length<sizeLine/\H'=upd H a (.dT (putK kvs k v))
theorem DGet.k{H:Hp}{a:Addr}{kvs:List (Key×V)}{k:Key}(e:H a=some (.dK kvs)):DGet H a (kV k) (valV kvs k):=.inl ⟨kvs,k,.inl e,rfl,rfl⟩
theorem DGet.t{H:Hp}{a b:Addr}{kvs:List (List Key×V)}{k:List Key}(e:H a=some (.dT kvs))(eb:H b=some (.tup (k.map kV))):DGet H a (.ref b) (valV kvs k):=.inr ⟨kvs,k,b,.inl e,rfl,eb,rfl⟩
theorem DPut.k{H:Hp}{a:Addr}{kvs:List (Key×V)}{k:Key}{v:V}(e:H a=some (.dK kvs))(hl:kvs.length<sizeLine):DPut H a (kV k) v (upd H a (.dK (putK kvs k v))):=.inl ⟨kvs,k,e,rfl,hl,rfl⟩
theorem DPut.t{H:Hp}{a b:Addr}{kvs:List (List Key×V)}{k:List Key}{v:V}(e:H a=some (.dT kvs))(eb:H b=some (.tup (k.map kV)))(hl:kvs.length<sizeLine) :
  DPut H a (.ref b) v (upd H a (.dT (putK kvs k v))):=.inr ⟨kvs,k,b,e,rfl,eb,hl,rfl⟩
section
variable{X:Cx}{pins:List (Addr×Obj)}{σ:St}{H:Hp}{s:Shared}{a:Addr}{y v:V}{u r:Value}{o:Option V}{A:Around}{E:Value->Shared->Prop}
theorem Inv.big(I:Inv X pins σ H s):sysModules<s.heap.objs.size:=by
 have h:mainGlobals<s.heap.objs.size:=(I.mod.glob.keeps I.bk).lt
 exact kZ (by decide) h
theorem Bq{Q:Value->Shared->Prop}(hu:A.units+1<cLine)(I:Inv X pins σ H s)(g:DGet H a y (some v))(ry:RelV y u)(h:∀w' s',Inv X pins σ H s'->RelV v w'->Q w' s') :
  wpAny (model X.prog X.w) A (getItem (.ref a) u) Q E s:=by
 rcases g with ⟨kvs,k,e,ey,l⟩|⟨kvs,k,b,e,ey,eb,l⟩
 ·subst ey
  obtain⟨z,hd,vs,rel,dd⟩:=zc I.hok e
  obtain⟨w',hw,rw'⟩:=RelO.some_of (v:=v) (o:=valueAt vs k) (by rw[l];exact rel.val k)
  exact wpAny_getItem_of (A8 ry) dd.mapOf hw (h w' _ (I.tok _) rw')
 ·subst ey
  cases (show u=Value.ref b from ry)
  obtain⟨z,hd,xs,rel,dd⟩:=zh I.hok e
  obtain⟨w',hw,rw'⟩:=RelO.some_of (v:=v) (o:=(atKey xs k).map (·.2)) (by rw[l];exact rel.val k)
  obtain⟨p,hp,hp2⟩:=yM.mp hw
  refine wpAny_getItem_heap (tupleKind_room_in1 hu) (yf I.hok eb) dd hp ?_
  rw[hp2]
  exact h w' _ (I.tok _) rw'
theorem A1{h':Heap}{t':Nat}{ob:HO}(I:Inv X pins σ H s)(mu:Mut (H a))(hs:Heap.SameBut a s.heap h')(he:∃q,h'.get? a=some q)(new:ObjOk X.prog X.w (upd H a ob) h' a ob) :
  Inv X pins σ (upd H a ob) { s with heap:=h',toks:=t' } :=
 I.write (x:=a) (e:=a) mu (.inl rfl) (λb q hb z=>(hs.2 b hb).trans z) he new
theorem E4{P:Program}{w:World}{H':Hp}{h':Heap}{kvs:List (Key×V)}{vs:List (Key×Value)}(z:kvs.length<=sizeLine)(hd:(a==sysModules)=false)(rel:KV kvs vs)(dd:h'.DictOf (mixKind P w) a vs) :
  ObjOk P w H' h' a (.dK kvs):=⟨z,hd,vs,rel,dd⟩
theorem BC{H':Hp}{Q:Unit->Shared->Prop}(hu:A.units+1<cLine)(I:Inv X pins σ H s)(g:DPut H a y v H')(ry:RelV y u)(rv:RelV v r)(h:∀s',Inv X pins σ H' s'->Q () s') :
  wpAny (model X.prog X.w) A (setItem (.ref a) u r) Q E s:=by
 rcases g with ⟨kvs,k,e,ey,l,eH⟩|⟨kvs,k,b,e,ey,eb,l,eH⟩
 ·subst ey eH
  obtain⟨z,hd,vs,rel,dd⟩:=Gp I.hok e
  have hz:vs.length<=sizeLine:=by rw[←rel.length];exact z
  have hl:(putK kvs k v).length<=sizeLine:=by have:=wq kvs k v;omega
  refine wpAny_setItem_pairs (hsz:=hz) (A8 ry) dd λh' dd' hs=>h _ ?_
  have he:∃q,h'.get? a=some q:=let ⟨q,_,_,hq,_⟩:=dd';⟨q,hq⟩
  exact A1 I (by rw[e];exact True.intro) hs he (E4 hl hd (rel.put k rv) dd')
 ·subst ey eH
  cases (show u=Value.ref b from ry)
  obtain⟨z,hd,xs,rel,dd⟩:=Gd I.hok e
  have hz:xs.length<=sizeLine:=by rw[←Paired.length rel];exact z
  have hl:(putK kvs k v).length<=sizeLine:=by have:=wq kvs k v;omega
  refine wpAny_setItem_heap (hsz:=hz) (tupleKind_room_in1 hu) (yf I.hok eb) dd λh' dd' hs=>h _ ?_
  obtain⟨q,es,ep,hq,h2,h3,h4,_,h5⟩:=dd'
  refine A1 I (by rw[e];exact True.intro) hs ⟨q,hq⟩ ⟨hl,hd,_,(rel.put k eb rv).keeps λc ys ec=>?_,q,es,ep,hq,h2,h3,h4,h5⟩
  rw[sD (tR ec e (λz=>nomatch z))]
  exact ec
end
section
variable{X:Cx}{pins:List (Addr×Obj)}{σ:St}{H:Hp}{s:Shared}{a:Addr}{kvs:List (Key×V)}{k:Key}{u:Value}{A:Around}{E:Value->Shared->Prop}
end
def NoSl(i:Expr):Prop:=∀ov iv,subscripted i false ov iv=operate [ov,iv] (getItem ov iv)
theorem En{prog:Program}{w:World}{A:Around}{E:Value->Shared->Prop}{s:Shared}{env:Env}{value slice:Expr}{pos:Pos}{T id:String}{Q:Value->Shared->Prop}
  (hl:typeLookup (.type T) "__getitem__"=pure (some (.builtin id))) (hs:NoSl slice)
  (h:wpAny (model prog w) A (eval value env) (λo s₁=>wpAny (model prog w) A (eval slice env) (λi s₂=>s₂.TypeIs o T/\wpAny (model prog w) A (getItem o i) Q E s₂) E s₁) E s) :
  wpAny (model prog w) A (eval (.Subscript value slice pos) env) Q E s:=by
 refine Subscript_ (wpAny_mono h (λo s₁ h₁=>wpAny_mono h₁ (λi s₂ h₂=>?_) λ_ _ x=>x) λ_ _ x=>x)
 obtain⟨hT,h₂⟩:=h₂
 unfold subscriptTail
 refine wpAny_bind ?_
 rw[getitemInPython_of_ne hT.not_modules]
 refine wpAny_bind (wpAny_specialOf hT hl ?_)
 have fin:wpAny (model prog w) A (subscripted slice false o i) (λr s₃=>wpAny (model prog w) A (letTemporaryGo value o r >>= λ_=>pure r) Q E s₃) E s₂:=by
  rw[hs o i]
  exact wpAny_operating (wpAny_mono h₂ (λr s₃ h₃=>wpAny_bind (wpAny_letTemporaryGo (wpAny_pure h₃))) λ_ _ x=>x)
 first
  | exact wpAny_pure (wpAny_bind fin)
  | exact wpAny_bind (wpAny_pure (wpAny_bind fin))
  | exact wpAny_bind fin
theorem yn{X:Cx}{pins:List (Addr×Obj)}{σ:St}{H:Hp}{s:Shared}{a:Addr}{y:V}{o:Option V}(I:Inv X pins σ H s)(g:DGet H a y o):s.TypeIs (.ref a) "dict":=by
 rcases g with ⟨kvs,k,e,_,_⟩|⟨kvs,k,b,e,_,_,_⟩
 ·obtain⟨_,_,vs,_,dd⟩:=zc I.hok e
  exact dd.typeIs
 ·obtain⟨_,_,xs,_,dd⟩:=zh I.hok e
  exact dd.typeIs
inductive tDGet_(Q:VK)(x:V)(y:V)(H2:Hp):Prop where
 | mk (a v:_) (h_0:x=.ref a) (h_1:DGet H2 a y (some v)) (h_2:Q v H2):tDGet_ Q x y H2
def tDGet(td ty:TE):TE:=fun σ H Q=>td σ H λx H1=>ty σ H1 λy H2=>tDGet_ Q x y H2
inductive sDPut_(D:Ends)(σ:St)(v:V)(x:V)(y:V)(H3:Hp):Prop where
 | mk (a H4:_) (h_0:x=.ref a) (h_1:DPut H3 a y v H4) (h_2:D.nx σ H4):sDPut_ D σ v x y H3
def sDPut(td ty tv:TE):TS:=λD σ H=>tv σ H λv H1=>td σ H1 λx H2=>ty σ H2 λy H3=>sDPut_ D σ v x y H3
section
variable{X:Cx}{o i e value:Expr}{pos pos' tpos:Pos}{td ty tv:TE}
theorem uz(hu:X.A.units+1<cLine)(ho:PE X o td)(hi:PE X i ty)(hs:NoSl i):PE X (.Subscript o i pos) (tDGet td ty):=by
 intro pins s σ H Q I h
 refine En PySem.F.slot_dict_getitem.lookup hs (thn (ho pins s σ H _ I h) λu s1 ⟨x,H1,I1,rx,q1⟩=>thn (hi pins s1 σ H1 _ I1 q1) λiv s2 ⟨y,H2,I2,ry,a,v,ex,g,q2⟩=>?_)
 subst ex
 obtain rfl:u=Value.ref a:=rx
 exact⟨yn I2 g,Bq hu I2 g ry λw' s3 I3 rw'=>⟨v,H2,I3,rw',q2⟩⟩
theorem u9(hu:X.A.units+1<cLine)(ho:PE X o td)(hi:PE X i ty)(hv:PE X value tv)(hs:swapsWith value (some (.Subscript o i pos')) pos.line X.env=pure false) :
  PS X (.Assign [.Subscript o i pos'] value pos) (sDPut td ty tv):=by
 intro pins s σ H D I h
 refine wpAny_Assign_Subscript (thn (hv pins s σ H _ I h) λr s1 ⟨v,H1,I1,rv,q1⟩=>thn (ho pins s1 σ H1 _ I1 q1) λu s2 ⟨x,H2,I2,rx,q2⟩=>thn (hi pins s2 σ H2 _ I2 q2) λiv s3 ⟨y,H3,I3,ry,a,H4,ex,g,q3⟩=>?_) hs
 subst ex
 obtain rfl:u=Value.ref a:=rx
 exact BC hu I3 g ry rv λs4 I4=>⟨σ,H4,I4,q3⟩
end
theorem Dd{P:Program}{w:World}{H:Hp}(h:Heap)(hb:sysModules<h.objs.size):ObjOk P w H (h.push { cls:=.type "dict",data:=.dict #[] }) h.objs.size (.dK []) :=
 ⟨zV _,beq_eq_false_iff_ne.mpr (Ne.symm (zW hb)),[],.nil,Heap.DictOf.new h⟩
theorem B0{P:Program}{w:World}{H:Hp}(h:Heap)(hb:sysModules<h.objs.size):ObjOk P w H (h.push { cls:=.type "dict",data:=.dict #[] }) h.objs.size (.dT []) :=
 ⟨zV _,beq_eq_false_iff_ne.mpr (Ne.symm (zW hb)),[],.nil,_,#[],0,Heap.get?_push_size _ rfl,⟨rfl,rfl,rfl⟩,rfl,rfl,List.nodup_nil⟩
def tDNewK:TE:=λ_ H Q=>∀p,H p=none->Q (.ref p) (upd H p (.dK []))
def tDNewT:TE:=λ_ H Q=>∀p,H p=none->Q (.ref p) (upd H p (.dT []))
section
variable{X:Cx}{pos:Pos}
theorem yz:PE X (.Dict [] [] pos) tDNewK:=λpins s σ H Q I h =>
 wpAny_Dict_empty ⟨.ref s.heap.objs.size,_,I.laid (a:=s.heap.objs.size) (o:=.dK []) (t':=s.toks) (λ_ _ q=>Heap.get?_push_of_some _ q) (zH _) (Dd s.heap I.big),rfl,h _ (I.hok.fresh (zH _))⟩
theorem Cb:PE X (.Dict [] [] pos) tDNewT:=λpins s σ H Q I h =>
 wpAny_Dict_empty ⟨.ref s.heap.objs.size,_,I.laid (a:=s.heap.objs.size) (o:=.dT []) (t':=s.toks) (λ_ _ q=>Heap.get?_push_of_some _ q) (zH _) (B0 s.heap I.big),rfl,h _ (I.hok.fresh (zH _))⟩
end
structure M2(X:Cx)(o:Expr)(m:Str)(apos:Pos)(e f:Expr)(cpos:Pos):Prop where
 base:attributeBase o m X.env (eval o X.env)=eval o X.env
 few:((backTo cpos (starEach [e,f] X.env)).all (λx=>!x.1)&&(backToKw cpos (keywordEach [] X.env)).all (λx=>x.1.isSome)
  && decide (([e,f]:List Expr).length+([]:List Keyword).length+(if ([]:List Keyword).isEmpty then 0 else 1)<30))=true
 line:(apos.endLine==cpos.line)=true
 trees:backTo cpos (starEach [e,f] X.env)=[(false,eval e X.env),(false,eval f X.env)]
def IsD(H:Hp)(a:Addr):Prop:=(∃kvs,Rd H a (.dK kvs))\/∃kvs,Rd H a (.dT kvs)
theorem E7{X:Cx}{pins:List (Addr×Obj)}{σ:St}{H:Hp}{s:Shared}{a:Addr}(I:Inv X pins σ H s)(d:IsD H a) :
  s.TypeIs (.ref a) "dict"/\(∀b,Value.ref a=.ref b->∃ob,s.heap.get? b=some ob/\ob.dict=none)/\(a==sysModules)=false:=by
 rcases d with ⟨kvs,e⟩|⟨kvs,e⟩
 ·obtain⟨_,hd,vs,_,dd⟩:=zc I.hok e
  refine⟨dd.typeIs,λb q=>?_,hd⟩
  cases q
  obtain⟨ob,_,_,h1,h2,_⟩:=dd
  exact⟨ob,h1,h2.2.1⟩
 ·obtain⟨_,hd,xs,_,dd⟩:=zh I.hok e
  refine⟨dd.typeIs,λb q=>?_,hd⟩
  cases q
  obtain⟨ob,_,_,h1,h2,_⟩:=dd
  exact⟨ob,h1,h2.2.1⟩
section
variable{X:Cx}{pins:List (Addr×Obj)}{σ:St}{H:Hp}{s:Shared}{a:Addr}{y d:V}{u r:Value}{o:Option V}{A:Around}{E:Value->Shared->Prop}
theorem Fx{Q:Value->Shared->Prop}(hu:A.units+1<cLine)(I:Inv X pins σ H s)(g:DGet H a y o)(ry:RelV y u)(rd:RelV d r)(h:∀w' s',Inv X pins σ H s'->RelV (o.getD d) w'->Q w' s') :
  wpAny (model X.prog X.w) A (call (.builtin "dict.get") [.ref a,u,r]) Q E s:=by
 rcases g with ⟨kvs,k,e,ey,l⟩|⟨kvs,k,b,e,ey,eb,l⟩
 ·subst ey
  obtain⟨z,hd,vs,rel,dd⟩:=zc I.hok e
  refine call_meetsIn PySem.F.slot_dict_get dd.typeIs PySem.F.entry_dict_get (PySem.F.args_dict_get_3 _ _ _) (meets_dict_get_default (mixKind X.prog X.w) a (A8 ry) hd r) ⟨_,dd.mapOf,h _ _ (I.tok _) ?_⟩
  rw[l]
  exact(rel.val k).getD rd
 ·subst ey
  cases (show u=Value.ref b from ry)
  obtain⟨z,hd,xs,rel,dd⟩:=zh I.hok e
  refine call_meetsIn PySem.F.slot_dict_get dd.typeIs PySem.F.entry_dict_get (PySem.F.args_dict_get_3 _ _ _) (meetsH_dict_get_default (tupleKind (mixKind X.prog X.w)) a b hd r) ⟨tupleKind_room_in1 hu,k,xs,yf I.hok eb,dd,h _ _ (I.tok _) ?_⟩
  rw[l]
  exact(rel.val k).getD rd
end
inductive tDGet2_(ty tx:TE)(σ:St)(Q:VK)(x:V)(H1:Hp):Prop where
 | mk (a:_) (h_0:x=.ref a) (h_1:IsD H1 a) (h_2:ty σ H1 λy H2=>tx σ H2 λz H3=>∃o,DGet H3 a y o/\Q (o.getD z) H3):tDGet2_ ty tx σ Q x H1
def tDGet2(td ty tx:TE):TE:=fun σ H Q=>td σ H λx H1=>tDGet2_ ty tx σ Q x H1
section
variable{X:Cx}{o e f:Expr}{apos cpos:Pos}{td ty tx:TE}
theorem yk(hu:X.A.units+1<cLine)(ho:PE X o td)(he:PE X e ty)(hf:PE X f tx)(m:M2 X o "get" apos e f cpos):PE X (.Call (.Attribute o "get" apos) [e,f] [] cpos) (tDGet2 td ty tx):=by
 intro pins s σ H Q I h
 refine wpAny_Call_method m.base m.few m.line PySem.F.plainAttrs_dict PySem.F.slot_dict_get PySem.F.type_dict_get (thn (ho pins s σ H _ I h) λu s1 ⟨x,H1,I1,rx,a,ex,d,q1⟩=>?_)
 subst ex
 obtain rfl:u=Value.ref a:=rx
 obtain⟨t1,t2,_⟩:=E7 I1 d
 refine⟨t1,t2,?_⟩
 rw[m.trees]
 refine Calls.callWith_builtin rfl (Calls.evalArgs_plain (Calls.spliced_cons (thn (he pins s1 σ H1 _ I1 q1) λiv s2 ⟨y,H2,I2,ry,q2⟩ =>
  Calls.spliced_cons (thn (hf pins s2 σ H2 _ I2 q2) λfv s3 ⟨z,H3,I3,rz,ov,g,q3⟩=>Calls.spliced_nil ?_))))
 exact Fx hu I3 g ry rz λw' s4 I4 rw'=>⟨_,H3,I4,rw',q3⟩
end
section
variable{X:Cx}{pins:List (Addr×Obj)}{σ:St}{H:Hp}{s:Shared}{a:Addr}{kvs:List (Key×V)}{A:Around}{E:Value->Shared->Prop}
end
section
variable{X:Cx}{pins:List (Addr×Obj)}{σ:St}{H:Hp}{s:Shared}{a:Addr}{y:V}{u:Value}{A:Around}{E:Value->Shared->Prop}
end
end L2
namespace HT
open PySem PyProof.Rows
def lexLt:List Int->List Int->Bool
 | [],[]=>false
 | [],_::_=>true
 | _::_,[]=>false
 | x::xs,y::ys=>if x=y then lexLt xs ys else decide (x<y)
theorem lexLt_cons(x y:Int)(xs ys:List Int):lexLt (x::xs) (y::ys)=if x=y then lexLt xs ys else decide (x<y):=rfl
theorem lexLt_nil_nil:lexLt [] []=false:=rfl
theorem lexLt_nil_cons(y:Int)(ys:List Int):lexLt [] (y::ys)=true:=rfl
theorem lexLt_cons_nil(x:Int)(xs:List Int):lexLt (x::xs) []=false:=rfl
theorem eqAt_int(A:Around)(s:Shared)(a:Int)(t:Tok)(c:Int)(u:Tok):∃e,SeqAt.EqAt A s (.int a t) (.int c u) e/\(e=true↔a=c) :=
 ⟨(a==c),SeqAt.EqAt.int_int a t c u,by simp⟩
theorem C9(A:Around)(s:Shared)(a:Int)(t:Tok)(c:Int)(u:Tok)(prog:Program)(w:World)(E:Value->Shared->Prop)(Q:Value->Shared->Prop)(h:Q (.bool (decide (a<c))) s) :
  wpAny (model prog w) A (richCompare .Lt (.int a t) (.int c u)) Q E s :=
 (PyProof.Rows.lt_int h:wpAny (model prog w) A (compareOp .Lt (.int a t) (.int c u)) Q E s)
section
open PySem.SeqAt
open PySem.AutoSeq1 (wpAny_loadPart')
open PySem.MeetsSeq PySem.MeetsSeq2 PySem.MeetsSeq3
theorem w6(l b:Addr)(items items2:Array Value)(n n2:Nat)(dd dd2:Option Addr)(sl sl2:Array (Option Value))(ns ms:List Int)(hi:IntsAre items.toList ns)(hj:IntsAre items2.toList ms) :
  Meets (Builtin.«tuple.__lt__» ⟨[.ref l,.ref b],[]⟩)
   (λ_ R s=>s.heap.get? l=some { cls:=.type "tuple",dict:=dd,data:=.seq items n,slots:=sl }/\s.heap.get? b=some { cls:=.type "tuple",dict:=dd2,data:=.seq items2 n2,slots:=sl2 } /\
    R (.ok (.ret (.bool (lexLt ns ms)))) s) :=
 .of_wp λprog w A R s h=>by
  obtain⟨hp,g,d,tk,os⟩:=s;obtain⟨hl,hb,h⟩:=h
  have f2:=AutoSeq1.sub_tuple_tuple
  have z1:items.size=ns.length:=by rw[←hi.length];simp
  have z2:items2.size=ms.length:=by rw[←hj.length];simp
  wp_walk using wpAny_loadPart' hl,wpAny_loadPart' hb,wpAny_forIn_list _ (λrest b s'=>b.1=none/\s'=⟨hp,g,d,tk,os⟩/\∃(vs ws:List Value)(ns' ms':List Int),rest=vs.zip ws /\
   IntsAre vs ns'/\IntsAre ws ms'/\ns'.length+items2.size=ms'.length+items.size/\R (.ok (.ret (.bool (lexLt ns' ms')))) ⟨hp,g,d,tk,os⟩) _
  case turn =>
   rintro⟨y,x⟩ rest b s' ⟨hb',rfl,vs,ws,ns',ms',hz,hvi,hwi,hlen,hR⟩
   cases hvi with
   | nil=>rw[List.zip_nil_left]at hz;cases hz
   | cons a t hvi' =>
    cases hwi with
    | nil=>rw[List.zip_nil_right]at hz;cases hz
    | cons c u hwi' =>
     rw[jO]at hz
     injection hz with hyx hrest
     injection hyx with hy hx
     subst hy hx
     rw[lexLt_cons]at hR
     simp only [zX]at hlen
     obtain⟨e,he,hiff⟩:=eqAt_int A.in1 ⟨hp,g,d,tk,os⟩ a t c u
     refine wpAny_bind (he prog w _ _ ?_)
     cases e with
     | true =>
      rw[if_pos (hiff.mp rfl)]at hR
      wp_walk
      exact⟨rfl,rfl,_,_,_,_,hrest,hvi',hwi',by omega,hR⟩
     | false =>
      rw[if_neg (λq=>absurd (hiff.mpr q) zQ)]at hR
      have hri:=C9 A.in1 ⟨hp,g,d,tk,os⟩ a t c u prog w
      wp_walk using hri
      exact⟨_,rfl,by simpa using hR⟩
  case fin =>
   rintro⟨b1,b2⟩ s' ⟨hb',rfl,vs,ws,ns',ms',hz,hvi,hwi,hlen,hR⟩
   simp only at hb'
   subst hb'
   have hv:lexLt ns' ms'=decide (items.size<items2.size):=by
    cases hvi with
    | nil =>
     cases hwi with
     | nil =>
      simp only [qU]at hlen
      rw[lexLt_nil_nil]
      exact(decide_eq_false (by omega)).symm
     | cons c u hw =>
      simp only [qU,zX]at hlen
      rw[lexLt_nil_cons]
      exact(decide_eq_true (by omega)).symm
    | cons a t hv =>
     cases hwi with
     | nil =>
      simp only [qU,zX]at hlen
      rw[lexLt_cons_nil]
      exact(decide_eq_false (by omega)).symm
     | cons c u hw =>
      rw[jO]at hz
      cases hz
   rw[hv]at hR
   wp_walk
   exact⟨_,rfl,by simpa [Builtin.Tuple.tupleCompareSizes]using hR⟩
  case h =>
   exact⟨rfl,rfl,items.toList,items2.toList,ns,ms,rfl,hi,hj,by omega,h⟩
end
section
variable{prog:Program}{w:World}{A:Around}{E:Value->Shared->Prop}{s:Shared}
theorem lt_tupInts{l b:Addr}{items items2:Array Value}{ns ms:List Int}{Q:Value->Shared->Prop}(hl:IsTup s.heap l items)(hb:IsTup s.heap b items2)(hi:IntsAre items.toList ns)(hj:IntsAre items2.toList ms)
  (hu:A.units<cLine) (h:Q (.bool (lexLt ns ms)) s):wpAny (model prog w) A (compareOp .Lt (.ref l) (.ref b)) Q E s:=by
 obtain⟨⟨cls,dd,data,sl⟩,ho,hc,n,hd⟩:=id hl
 obtain⟨⟨cls2,dd2,data2,sl2⟩,ho2,hc2,n2,hd2⟩:=id hb
 simp only at hc hd hc2 hd2
 subst hc hd hc2 hd2
 exact richCompare_meets_room (op:=.Lt) ⟨_,ho,rfl⟩ ⟨_,ho2,rfl⟩ PySem.F.slot_tuple_lt PySem.F.entry_tuple_lt (PySem.F.args_tuple_lt_2 _ _) (w6 l b items items2 n n2 dd dd2 sl sl2 ns ms hi hj)
  ⟨ho,ho2,show Value.bool (lexLt ns ms)≠Value.notImplemented/\Q (.bool (lexLt ns ms)) s from⟨(λx=>nomatch x),h⟩⟩ hu
end
end HT
namespace L2
open PySem PySem.Spec PyProof.Rows
abbrev TO:=St->Hp->(Option Int->Hp->Prop)->Prop
def PO(X:Cx)(e:Option Expr)(t:TO):Prop :=
 ∀(pins:List (Addr×Obj))(s:Shared)(σ:St)(H:Hp)(Q:Option Int->Hp->Prop),Inv X pins σ H s->t σ H Q ->
  wpAny (model X.prog X.w) X.A (evalPart e X.env) (λu s'=>∃o H',Inv X pins σ H' s'/\IsPart u o/\Q o H') X.xe s
inductive tPart_(Q:Option Int->Hp->Prop)(x:V)(H1:Hp):Prop where
 | mk (i:_) (h_0:x=.int i) (h_1:Q (some i) H1):tPart_ Q x H1
def tPart(t:TE):TO:=fun σ H Q=>t σ H λx H1=>tPart_ Q x H1
theorem uw{ns:List Int}:∀{us:List Value},Vals (ns.map V.int) us->IntsAre us ns:=by
 induction ns with
 | nil=>intro us r;rw[jT]at r;cases r;exact .nil
 | cons n ns ih =>
  intro us r
  rw[yE]at r
  cases r with
  | cons r1 r2 =>
   obtain⟨t,e⟩:=r1
   subst e
   exact .cons n t (ih r2)
section
variable{X:Cx}{e:Expr}{te:TE}{lo hi:Option Expr}{tl th:TO}{pos p2:Pos}
theorem xG(h:PE X e te):PO X (some e) (tPart te):=by
 intro pins s σ H Q I hw
 rw[evalPart_some]
 refine thn (h pins s σ H _ I hw) λu s1 ⟨x,H1,I1,r1,q1⟩=>?_
 obtain⟨i,rfl,q⟩:=q1
 obtain⟨t,rfl⟩:=r1
 exact⟨some i,H1,I1,.int i t,q⟩
end
end L2
namespace L2
open PySem PySem.Spec PyProof.Rows
def ixN(n:Nat)(i:Int):Option Nat:=if 0<=i then (if i<n then some i.toNat else none)else if -(n:Int)<=i then some (i+n).toNat else none
def atI{α:Type}(xs:List α)(i:Int):Option α:=(ixN xs.length i).bind λj=>xs[j]?
theorem AJ{n:Nat}{i:Int}{j:Nat}(h:ixN n i=some j):seqIndex? i n=some j/\j<n/\-(n:Int)<=i/\i<n:=by
 unfold ixN at h
 by_cases h0:0<=i
 ·rw[if_pos h0]at h
  by_cases h1:i<n
  ·rw[if_pos h1]at h
   have e:i.toNat=j:=Option.some.inj h
   exact⟨by rw[seqIndex_of h0 h1,e],by omega,by omega,h1⟩
  ·rw[if_neg h1]at h;cases h
 ·rw[if_neg h0]at h
  by_cases h1:-(n:Int)<=i
  ·rw[if_pos h1]at h
   have e:(i+n).toNat=j:=Option.some.inj h
   exact⟨by rw[seqIndex_neg (by omega) h1,e],by omega,h1,by omega⟩
  ·rw[if_neg h1]at h;cases h
theorem xC{α:Type}{xs:List α}{i:Int}{v:α}(h:atI xs i=some v):∃j,seqIndex? i xs.length=some j/\xs[j]?=some v/\j<xs.length/\-(xs.length:Int)<=i/\i<xs.length:=by
 unfold atI at h
 cases e:ixN xs.length i with
 | none=>rw[e]at h;cases h
 | some j =>
  rw[e]at h
  obtain⟨h1,h2,h3,h4⟩:=AJ e
  exact⟨j,h1,h,h2,h3,h4⟩
theorem su{α:Type}{xs:List α}{j:Nat}{v:α}(h:xs[j]?=some v):atI xs (j:Int)=some v:=by
 have hj:j<xs.length:=(zD.mp h).1
 have e:ixN xs.length (j:Int)=some j:=by
  unfold ixN
  rw[if_pos (by omega),if_pos (by omega)];simp
 unfold atI;rw[e];exact h
def PlainIx(b:Expr):Prop:=∀o i,subscripted b false o i=operate [o,i] (getItem o i)
def IxR(X:Cx)(r:R2):Prop :=
 ∀(value slice:Expr)(pins:List (Addr×Obj))(s:Shared)(σ:St)(H:Hp)(x y:V)(v u:Value)(Q:VK),Inv X pins σ H s->RelV x v->RelV y u->r x y H Q ->
  subscripted slice false v u=operate [v,u] (getItem v u)->wpAny (model X.prog X.w) X.A (subscriptTail value slice v u) (EP X pins σ Q) X.xe s
def MtR(X:Cx)(id:String)(r:V->List V->Hp->VK->Prop):Prop :=
 ∀(pins:List (Addr×Obj))(s:Shared)(σ:St)(H:Hp)(x:V)(xs:List V)(v:Value)(us:List Value)(Q:VK),Inv X pins σ H s->RelV x v->Vals xs us->r x xs H Q ->
  wpAny (model X.prog X.w) X.A (call (.builtin id) (v::us)) (EP X pins σ Q) X.xe s
section
variable{X:Cx}{a b:Expr}{ta tb:TE}{pos:Pos}
theorem sE{r:R2}(hr:IxR X r)(ha:PE X a ta)(hb:PE X b tb)(hs:PlainIx b):PE X (.Subscript a b pos) (tOp r ta tb):=by
 intro pins s σ H Q I h
 exact Subscript_ (binT ha hb I h λv u s2 x y H2 I2 rx ry q=>hr a b pins s2 σ H2 x y v u Q I2 rx ry q (hs _ _))
inductive rIxL(K:PySem.W.Frag)(x:V)(y:V)(H:Hp)(Q:VK):Prop where
 | mk (p xs i v:_) (h_0:x=.ref p) (h_1:y=.int i) (h_2:SqL K H p xs) (h_3:atI xs i=some v) (h_4:Q v H):rIxL K x y H Q
inductive rIxT(K:PySem.W.Frag)(x:V)(y:V)(H:Hp)(Q:VK):Prop where
 | mk (p xs i v:_) (h_0:x=.ref p) (h_1:y=.int i) (h_2:SqT K H p xs) (h_3:atI xs i=some v) (h_4:Q v H):rIxT K x y H Q
theorem Dz:IxR X (rIxL X.K):=by
 intro value slice pins s σ H x y v u Q I rx ry h hs
 obtain⟨p,xs,i,z,rfl,rfl,hq,he,q⟩:=h
 cases rx
 obtain⟨t,rfl⟩:=ry
 obtain⟨its,r,pl,hz⟩:=I.list hq
 obtain⟨j,h1,h2,h3,h4,h5⟩:=xC he
 obtain⟨w,ew,rw'⟩:=r.get h2
 have hl:=r.length
 have hn:=wV
 have fin:EP X pins σ Q w s:=⟨z,H,I,rw',q⟩
 by_cases h0:0<=i
 ·have hj:i.toNat=j:=by
   rw[seqIndex_of h0 h5]at h1
   exact Option.some.inj h1
  exact item_listR pl.isList h0 (by omega) (by rw[hj];simpa using ew) fin hs
 ·have hj:(i+(its.toArray.size:Int)).toNat=j:=by
   rw[seqIndex_neg (by omega) h4]at h1
   rw[zT,←hl]
   exact Option.some.inj h1
  exact subscriptTail_builtinR (x:=w) pl.isList.typeIs slot_list_getitem.lookup
   (wpAny_getItem_list_neg (Q:=λr s'=>r=w/\EP X pins σ Q r s') pl.isList (by omega) (by rw[zT] <;>omega) (by omega) (by rw[hj];simpa using ew) ⟨rfl,fin⟩) hs
theorem FP:IxR X (rIxT X.K):=by
 intro value slice pins s σ H x y v u Q I rx ry h hs
 obtain⟨p,xs,i,z,rfl,rfl,hq,he,q⟩:=h
 cases rx
 obtain⟨t,rfl⟩:=ry
 obtain⟨its,r,pl,hz⟩:=I.tuple hq
 obtain⟨j,h1,h2,h3,h4,h5⟩:=xC he
 obtain⟨w,ew,rw'⟩:=r.get h2
 have hl:=r.length
 have hn:=wV
 have fin:EP X pins σ Q w s:=⟨z,H,I,rw',q⟩
 exact subscriptTail_builtinR (x:=w) pl.typeIs slot_tuple_getitem.lookup
  (getItem_tuple (j:=j) (Q:=λr s'=>r=w/\EP X pins σ Q r s') pl (by omega) (by omega) (by rw[zT,←hl];exact h1) (by simpa using ew) ⟨rfl,fin⟩) hs
theorem Ap(its:List Value)(n j:Nat)(u:Value):Obj.mapSeq (·.setIfInBounds j u) { cls:=.type "list",data:=.seq its.toArray n }={ cls:=.type "list",data:=.seq (its.set j u).toArray n }:=by
 simp [Obj.mapSeq]
theorem Inv.lst{pins:List (Addr×Obj)}{σ:St}{H:Hp}{s:Shared}{p:Addr}{xs:List V}(I:Inv X pins σ H s)(h:H p=some (.lst xs)) :
  ∃(its:List Value)(n:Nat),Vals xs its/\s.heap.get? p=some { cls:=.type "list",data:=.seq its.toArray n }/\xs.length<=sizeLine:=by
 obtain⟨z,its,n,r,e⟩:=I.hok p _ h
 exact⟨its,n,r,e,z⟩
theorem Inv.lstUpd{pins:List (Addr×Obj)}{σ:St}{H:Hp}{s:Shared}{p:Addr}{xs ys:List V}{its its':List Value}{n n':Nat}{f:Obj->Obj}(I:Inv X pins σ H s)(h:H p=some (.lst xs))
  (ho:s.heap.get? p=some { cls:=.type "list",data:=.seq its.toArray n }) (hf:f { cls:=.type "list",data:=.seq its.toArray n }={ cls:=.type "list",data:=.seq its'.toArray n' }) (r:Vals ys its') (hz:ys.length<=sizeLine) (t:Nat) :
  Inv X pins σ (upd H p (.lst ys)) { s with heap:=s.heap.update p f,toks:=t }:=by
 have e:(s.heap.update p f).get? p=some { cls:=.type "list",data:=.seq its'.toArray n' }:=by
  rw[Heap.get?_update_self f ho (by rw[hf] <;>rfl),hf]
 refine I.write (x:=p) (e:=p) (by rw[h];trivial) (.inl rfl) (λb u hb q=>(Heap.get?_update_other _ _ (Ne.symm hb)).trans q) ⟨_,e⟩ ?_
 exact⟨hz,its',n',r,e⟩
inductive rSetL(o:V)(i:V)(v:V)(H:Hp)(Q:Hp->Prop):Prop where
 | mk (p xs k j:_) (h_0:o=.ref p) (h_1:i=.int k) (h_2:H p=some (.lst xs)) (h_3:ixN xs.length k=some j) (h_4:Q (upd H p (.lst (xs.set j v)))):rSetL o i v H Q
theorem BQ:PSet X rSetL:=by
 intro pins s σ H o i v ov iv u Q I ro ri rv h
 obtain⟨p,xs,k,j,rfl,rfl,hp,hj,q⟩:=h
 cases ro
 obtain⟨t,rfl⟩:=ri
 obtain⟨its,n,r,ho,hz⟩:=I.lst hp
 obtain⟨h1,h2,h3,h4⟩:=AJ hj
 have hl:=r.length
 have hn:=wV
 have I':Inv X pins σ (upd H p (.lst (xs.set j v))) { s with heap:=s.heap.update p (Obj.mapSeq (·.setIfInBounds j u)) } :=
  I.lstUpd hp ho (Ap its n j u) (r.set rv j) (by rw[zZ];exact hz) s.toks
 by_cases h0:0<=k
 ·have hk:k.toNat=j:=by
   rw[seqIndex_of h0 h4]at h1
   exact Option.some.inj h1
  exact PySem.W.ki_setAt ho h0 (by omega) (by rw[zT,←hl];exact h4) (by rw[hk];exact⟨_,I',q⟩)
 ·have hk:(k+(its.toArray.size:Int)).toNat=j:=by
   rw[seqIndex_neg (by omega) h3]at h1
   rw[zT,←hl]
   exact Option.some.inj h1
  exact PySem.W.ki_setBack ho (by omega) (by rw[zT,←hl];exact h3) (by omega) (by rw[hk];exact⟨_,I',q⟩)
def flatV:V->Bool
 | .non=>true
 | .bl _=>true
 | .int _=>true
 | .str _=>true
 | _=>false
def eqV:V->V->Bool
 | .non,.non=>true
 | .bl a,.bl b=>a==b
 | .bl a,.int b=>(if a then 1 else 0)==b
 | .int a,.bl b=>a==(if b then 1 else 0)
 | .int a,.int b=>a==b
 | .str a,.str b=>a==b
 | _,_=>false
theorem EY{A:Around}{s:Shared}{y x:V}{u v:Value}(ry:RelV y u)(rx:RelV x v)(fy:flatV y=true)(fx:flatV x=true):SeqAt.EqAt A s u v (eqV y x):=by
 cases y with
 | non =>
  cases ry
  cases x with
  | non=>cases rx;exact SeqAt.EqAt.same _
  | bl b=>cases rx;exact SeqAt.EqAt.none_bool b
  | int b=>obtain⟨t,rfl⟩:=rx;exact SeqAt.EqAt.none_int b t
  | str b=>obtain⟨t,rfl⟩:=rx;exact SeqAt.EqAt.none_str b t
  | _=>exact absurd (show false=true from fx) zQ
 | bl a =>
  cases ry
  cases x with
  | non=>cases rx;exact SeqAt.EqAt.bool_none a
  | bl b=>cases rx;exact SeqAt.EqAt.bool_bool a b
  | int b=>obtain⟨t,rfl⟩:=rx;exact SeqAt.EqAt.bool_int a b t
  | str b=>obtain⟨t,rfl⟩:=rx;exact SeqAt.EqAt.bool_str a b t
  | _=>exact absurd (show false=true from fx) zQ
 | int a =>
  obtain⟨t',rfl⟩:=ry
  cases x with
  | non=>cases rx;exact SeqAt.EqAt.int_none a t'
  | bl b=>cases rx;exact SeqAt.EqAt.int_bool a t' b
  | int b=>obtain⟨t,rfl⟩:=rx;exact SeqAt.EqAt.int_int a t' b t
  | str b=>obtain⟨t,rfl⟩:=rx;exact SeqAt.EqAt.int_str a t' b t
  | _=>exact absurd (show false=true from fx) zQ
 | str a =>
  obtain⟨t',rfl⟩:=ry
  cases x with
  | non=>cases rx;exact SeqAt.EqAt.str_none a t'
  | bl b=>cases rx;exact SeqAt.EqAt.str_bool a t' b
  | int b=>obtain⟨t,rfl⟩:=rx;exact SeqAt.EqAt.str_int a t' b t
  | str b=>obtain⟨t,rfl⟩:=rx;exact SeqAt.EqAt.str_str a t' b t
  | _=>exact absurd (show false=true from fx) zQ
 | _=>exact absurd (show false=true from fy) zQ
def eqU(x:V)(u:Value):Bool:=match u with
 | .none=>eqV .non x
 | .bool b=>eqV (.bl b) x
 | .int i _=>eqV (.int i) x
 | .str z _=>eqV (.str z) x
 | _=>false
theorem B3{x y:V}{u:Value}(r:RelV y u)(f:flatV y=true):eqU x u=eqV y x:=by
 cases y with
 | non=>cases r;rfl
 | bl b=>cases r;rfl
 | int i=>obtain⟨t,rfl⟩:=r;rfl
 | str z=>obtain⟨t,rfl⟩:=r;rfl
 | _=>exact absurd (show false=true from f) zQ
theorem xR{x:V}:∀{xs:List V}{us:List Value},Vals xs us->xs.all flatV=true->us.any (eqU x)=xs.any λy=>eqV y x
 | _,_,.nil,_=>rfl
 | y::xs,u::us,.cons r t,f=>by
  rw[j2,qZ]at f
  rw[qQ,qQ,B3 r f.1,xR t f.2]
theorem wZ{A:Around}{s:Shared}{x:V}{v:Value}(rx:RelV x v)(fx:flatV x=true):∀{xs:List V}{us:List Value},Vals xs us->xs.all flatV=true->∀u∈us,SeqAt.EqAt A s u v (eqU x u)
 | _,_,.nil,_=>λu hu=>by cases hu
 | y::xs,u::us,.cons r t,f=>λu' hu=>by
  rw[j2,qZ]at f
  rcases zR.mp hu with rfl|hu
  ·rw[B3 r f.1];exact EY r rx f.1 fx
  ·exact wZ rx fx t f.2 u' hu
def inV(x:V)(xs:List V):Bool:=xs.any λy=>eqV y x
inductive rIn(K:PySem.W.Frag)(neg:Bool)(x:V)(y:V)(H:Hp)(Q:VK):Prop where
 | mk (p xs:_) (h_0:y=.ref p) (h_1:(SqL K H p xs\/SqT K H p xs)) (h_2:flatV x=true) (h_3:xs.all flatV=true) (h_4:Q (.bl (if neg then !inV x xs else inV x xs)) H):rIn K neg x y H Q
theorem Bx:OpR X (compareOp .In) (rIn X.K false):=by
 intro pins s σ H x y v u Q I rx ry h
 obtain⟨p,xs,rfl,hq,fx,fs,q⟩:=h
 cases ry
 rcases hq with hq|hq
 ·obtain⟨its,r,pl,hz⟩:=I.list hq
  refine SeqAt.in_listAt (eqU x) pl.isList (λw hw=>wZ rx fx r fs w (by simpa using hw)) ⟨.bl _,H,I,rfl,?_⟩
  rw[show its.toArray.any (eqU x)=its.any (eqU x) by simp,xR r fs]
  exact q
 ·obtain⟨its,r,pl,hz⟩:=I.tuple hq
  refine SeqAt.in_tupleAt (eqU x) pl (λw hw=>wZ rx fx r fs w (by simpa using hw)) ⟨.bl _,H,I,rfl,?_⟩
  rw[show its.toArray.any (eqU x)=its.any (eqU x) by simp,xR r fs]
  exact q
theorem xK:CallR X (.builtin "len") (λxs H Q=>∃p ys,xs=[.ref p]/\(SqL X.K H p ys\/SqT X.K H p ys)/\Q (.int ys.length) H):=by
 intro pins s σ H xs us Q I r h
 obtain⟨p,ys,rfl,hq,q⟩:=h
 obtain⟨u,rfl,rx⟩:=vj r
 cases rx
 have hn:=wV
 rcases hq with hq|hq
 ·obtain⟨its,r',pl,hz⟩:=I.list hq
  have hlen:=r'.length
  exact Calls.call_len_list pl.isList (by simp only [zT] <;>omega) ⟨.int ys.length,H,I.tok _,⟨s.toks+1,by rw[zT,hlen]⟩,q⟩
 ·obtain⟨its,r',pl,hz⟩:=I.tuple hq
  have hlen:=r'.length
  exact len_tuple pl (by simp only [zT] <;>omega) ⟨.int ys.length,H,I.tok _,⟨s.toks+1,by rw[zT,hlen]⟩,q⟩
theorem xD:CallR X (.type "list") (λxs H Q=>∃p ys,xs=[.ref p]/\(SqL X.K H p ys\/SqT X.K H p ys)/\∀l,H l=none->Q (.ref l) (upd H l (.lst ys))):=by
 intro pins s σ H xs us Q I r h
 obtain⟨p,ys,rfl,hq,q⟩:=h
 obtain⟨u,rfl,rx⟩:=vj r
 cases rx
 have fin:∀(its:List Value),Vals ys its->ys.length<=sizeLine->∀(h':Heap)(c':Nat),(∀b o',s.heap.get? b=some o'->h'.get? b=some o') ->
   h'.get? s.heap.objs.size=some { cls:=.type "list",dict:=none,data:=.seq its.toArray c',slots:=#[] }->EP X pins σ Q (.ref s.heap.objs.size) { s with heap:=h' }:=λits r' hz h' c' kp e =>
  ⟨.ref s.heap.objs.size,_,I.laid (t':=s.toks) kp (zH _) (show ObjOk X.prog X.w _ h' _ (.lst ys) from⟨hz,its,c',r',e⟩),rfl,q _ (I.hok.fresh (zH _))⟩
 rcases hq with hq|hq
 ·obtain⟨its,r',pl,hz⟩:=I.list hq
  have hlen:=r'.length
  obtain⟨o,ho,hc,n,hd⟩:=pl.isList
  exact call_list_seq p (.inl rfl) ho hc hd (λh' c' kp e=>fin its r' hz h' c' kp e) (by simp only [zT] <;>omega)
 ·obtain⟨its,r',pl,hz⟩:=I.tuple hq
  have hlen:=r'.length
  obtain⟨o,ho,hc,n,hd⟩:=pl
  exact call_list_seq p (.inr rfl) ho hc hd (λh' c' kp e=>fin its r' hz h' c' kp e) (by simp only [zT] <;>omega)
theorem vh:CallR X (.type "tuple") (λxs H Q=>∃p ys,xs=[.ref p]/\((SqL X.K H p ys/\∀l,H l=none->Q (.ref l) (upd H l (.tup ys)))\/(SqT X.K H p ys/\Q (.ref p) H))):=by
 intro pins s σ H xs us Q I r h
 obtain⟨p,ys,rfl,h⟩:=h
 obtain⟨u,rfl,rx⟩:=vj r
 cases rx
 rcases h with ⟨hq,q⟩|⟨hq,q⟩
 ·obtain⟨its,r',pl,hz⟩:=I.list hq
  have hlen:=r'.length
  refine call_tuple_list pl.isList (λh' kp=>?_) (by simp only [zT] <;>omega)
  have I1:Inv X pins σ H { s with heap:=h' }:=I.kept (t':=s.toks) kp
  have I2:Inv X pins σ (upd H h'.objs.size (.tup ys)) { s with heap:=h'.push { cls:=.type "tuple",data:=.seq its.toArray } } :=
   I1.laid (t':=s.toks) (λb o e=>Heap.get?_push_of_some _ e) (zH _) (show ObjOk X.prog X.w _ _ _ (.tup ys) from⟨hz,its,r',IsTup.new _ _⟩)
  exact⟨.ref h'.objs.size,_,I2,rfl,q _ (I1.hok.fresh (zH _))⟩
 ·obtain⟨its,r',pl,hz⟩:=I.tuple hq
  exact call_tuple_same pl ⟨.ref p,H,I,rfl,q⟩
def tyV(K:PySem.W.Frag)(T:String)(x:V)(H:Hp):Prop:=match x with
 | .str _=>T="str"
 | .int _=>T="int"
 | .ref p=>(T="list"/\∃xs,SqL K H p xs)\/(T="tuple"/\∃o,K.lookup p=some o/\o.cls=.type "tuple"/\o.dict=none) \/
   (T="dict"/\((∃kvs,H p=some (.dK kvs))\/∃kvs,H p=some (.dT kvs)))\/(T="set"/\∃S n,H p=some (.set S n))
 | _=>False
theorem Fi{pins:List (Addr×Obj)}{σ:St}{H:Hp}{s:Shared}{T:String}{x:V}{v:Value}(I:Inv X pins σ H s)(r:RelV x v)(ty:tyV X.K T x H) :
  s.TypeIs v T/\∀a,v=.ref a->∃ob,s.heap.get? a=some ob/\ob.dict=none:=by
 cases x with
 | str z =>
  obtain⟨t,rfl⟩:=r
  cases (show T="str" from ty)
  exact⟨typeIs_str s z t,λ_ e=>nomatch e⟩
 | int i =>
  obtain⟨t,rfl⟩:=r
  cases (show T="int" from ty)
  exact⟨typeIs_int s i t,λ_ e=>nomatch e⟩
 | ref p =>
  cases r
  rcases ty with ⟨rfl,xs,hq⟩|⟨rfl,o,hk,hc,hd⟩|⟨rfl,hk⟩|⟨rfl,S,n,hk⟩
  ·obtain⟨its,_,pl,_⟩:=I.list hq
   refine⟨pl.isList.typeIs,λa e=>?_⟩
   cases e
   obtain⟨o,n,e,c,hd,_⟩:=pl
   exact⟨o,e,hd⟩
  ·refine⟨⟨o,I.kIn p o hk,hc⟩,λa e=>?_⟩
   cases e
   exact⟨o,I.kIn _ o hk,hd⟩
  ·have z:∃o,s.heap.get? p=some o/\o.ExactDict:=by
    rcases hk with ⟨kvs,hk⟩|⟨kvs,hk⟩
    ·obtain⟨_,_,_,_,o,_,_,e,ex,_⟩:=I.hok p _ hk
     exact⟨o,e,ex⟩
    ·obtain⟨_,_,_,_,o,_,_,e,ex,_⟩:=I.hok p _ hk
     exact⟨o,e,ex⟩
   obtain⟨o,e,ex⟩:=z
   refine⟨⟨o,e,ex.1⟩,λa e2=>?_⟩
   cases e2
   exact⟨o,e,ex.2.1⟩
  ·obtain⟨o,_,_,_,e,ex,_⟩:=I.hok p _ hk
   refine⟨⟨o,e,ex.1⟩,λa e2=>?_⟩
   cases e2
   exact⟨o,e,ex.2.1⟩
 | _=>exact False.elim ty
def tBM(K:PySem.W.Frag)(T:String)(r:V->List V->Hp->VK->Prop)(to:TE)(t:TA):TE:=fun σ H Q=>to σ H λx H1=>tyV K T x H1/\t σ H1 λxs H2=>r x xs H2 Q
variable{o e:Expr}{es:List Expr}{to:TE}{t:TA}{name:Str}{apos cpos:Pos}{T id:String}{r:V->List V->Hp->VK->Prop}
theorem uH(pa:PlainAttrs T)(slot:Slot T name id)(hty:typeOf (.builtin id)=pure (.type "method_descriptor"))(hm:MtR X id r)(ho:PE X o to)(ha:PA X (e::es) t)
  (hbase:attributeBase o name X.env (eval o X.env)=eval o X.env:=by rfl)
  (hfew:((backTo cpos (starEach (e::es) X.env)).all (λx=>!x.1)&&(backToKw cpos (keywordEach [] X.env)).all (λx=>x.1.isSome)
   && decide ((e::es).length+([]:List Keyword).length+(if ([]:List Keyword).isEmpty then 0 else 1)<30))=true:=by rfl)
  (hline:(apos.endLine==cpos.line)=true:=by rfl) (hs:starEach (e::es) X.env=(false,eval e X.env)::starEach es X.env:=by rfl) (hplain:(backTo cpos (starEach es X.env)).any (·.1)=false:=by rfl) :
  PE X (.Call (.Attribute o name apos) (e::es) [] cpos) (tBM X.K T r to t):=by
 intro pins s σ H Q I h
 refine wpAny_Call_method_late hbase hfew hline rfl (thn (ho pins s σ H _ I h) λv s1 ⟨x,H1,I1,r1,ty,q1⟩=>?_)
 obtain⟨h1,h2⟩:=Fi I1 r1 ty
 refine⟨T,id,pa,slot,hty,h1,h2,?_⟩
 have hA:=ha cpos pins s1 σ H1 _ I1 q1
 rw[hs]at hA ⊢
 refine Calls.callWith_builtin (by show(false||(backTo cpos (starEach es X.env)).any (·.1))=false;rw[hplain] <;>rfl) (Calls.evalArgs_plain ?_)
 exact thn hA λus s2 ⟨vs,H2,I2,r2,q2⟩=>hm pins s2 σ H2 x vs v us Q I2 r1 r2 q2
/- xs.append(e),list.index on a module's tuple .. are MtR facts of 06m -/
end
end L2
namespace L2
open PySem PySem.Spec PyProof.Rows
def MtM(X:Cx)(id:String)(r:V->List V->Hp->VK->Prop):Prop :=
 ∀(pins:List (Addr×Obj))(s:Shared)(σ:St)(H:Hp)(x:V)(xs:List V)(v:Value)(us:List Value)(Q:VK),Inv X pins σ H s->RelV x v->Vals xs us->r x xs H Q ->
  wpAny (model X.prog X.w) X.A (call (.builtin id) (v::us)) (EP X pins σ Q) X.xe s
theorem B6{α β:Type}{F:α->β->Prop}{x:α}{l:List α}{m:List β}(h:Paired F (x::l) m):∃y r,m=y::r/\F x y/\Paired F l r:=by
 cases h with
 | cons p r=>exact⟨_,_,rfl,p,r⟩
theorem Vals.one{x:V}{us:List Value}(h:Vals [x] us):∃u,us=[u]/\RelV x u:=by
 obtain⟨u,r,rfl,q,h2⟩:=B6 h
 cases h2
 exact⟨u,rfl,q⟩
theorem Vals.eraseIdx:∀{xs:List V}{us:List Value}(i:Nat),Vals xs us->Vals (xs.eraseIdx i) (us.eraseIdx i)
 | _,_,_,.nil=>.nil
 | _,_,0,.cons _ t=>t
 | _,_,i+1,.cons r t=>.cons r (Vals.eraseIdx i t)
theorem xn{α:Type}:∀(l:List α)(i:Nat),(l.eraseIdx i).length<=l.length
 | [],_=>zH _
 | _::_,0=>yZ _
 | _::r,i+1=>Nat.succ_le_succ (xn r i)
section
variable{X:Cx}{pins:List (Addr×Obj)}{σ:St}{H:Hp}{s:Shared}{l b:Addr}{xs ys zs:List V}
theorem Inv.lset{its its':List Value}{n:Nat}{f:Array Value->Array Value}{t':Nat}(I:Inv X pins σ H s)(hH:H l=some (.lst xs))
  (e:s.heap.get? l=some { cls:=.type "list",data:=.seq its.toArray n }) (hf:f its.toArray=its'.toArray) (hv:Vals ys its') (hz:ys.length<=sizeLine) :
  Inv X pins σ (upd H l (.lst ys)) { s with heap:=s.heap.update l (Obj.mapSeq f),toks:=t' }:=by
 have q:=PySem.IsL.update e f
 rw[hf]at q
 refine I.write (x:=l) (e:=l) (by rw[hH];exact trivial) (.inl rfl) (λb' u hb hu=>(Heap.get?_update_other s.heap (Obj.mapSeq f) (Ne.symm hb)).trans hu) ⟨_,q⟩ ?_
 exact⟨hz,its',_,hv,q⟩
theorem Inv.lnew{its:List Value}{t':Nat}(I:Inv X pins σ H s)(hv:Vals ys its)(hz:ys.length<=sizeLine) :
  Inv X pins σ (upd H s.heap.objs.size (.lst ys)) { s with heap:=s.heap.push { cls:=.type "list",data:=.seq its.toArray },toks:=t' } :=
 I.laid (λ_ _ q=>Heap.get?_push_of_some _ q) (zH _) ⟨hz,its,0,hv,Heap.get?_push_size _ rfl⟩
theorem Inv.fresh(I:Inv X pins σ H s):H s.heap.objs.size=none:=I.hok.fresh (zH _)
theorem Inv.lstM(I:Inv X pins σ H s)(hH:H l=some (.lst xs)):xs.length<=sizeLine/\∃(its:List Value)(n:Nat),Vals xs its/\xs.length=its.length/\s.heap.get? l=some { cls:=.type "list",data:=.seq its.toArray n }:=by
 obtain⟨z,its,n,r,e⟩:=I.hok l _ hH
 exact⟨z,its,n,r,r.length,e⟩
end
section
variable{X:Cx}
inductive rAppend(x:V)(vs:List V)(H:Hp)(Q:VK):Prop where
 | mk (l xs y:_) (h_0:x=.ref l) (h_1:vs=[y]) (h_2:H l=some (.lst xs)) (h_3:xs.length<sizeLine) (h_4:Q .non (upd H l (.lst (xs++[y])))):rAppend x vs H Q
theorem tL:MtM X "list.append" rAppend:=by
 intro pins s σ H x vs v us Q I rx rv h
 obtain⟨l,xs,y,rfl,rfl,hH,hz,q⟩:=h
 cases rx
 obtain⟨u,rfl,ru⟩:=rv.one
 obtain⟨z,its,n,r,hl,e⟩:=I.lstM hH
 refine call_meets F.slot_list_append ⟨_,e,rfl⟩ F.entry_list_append (F.args_list_append_2 _ _) (PySem.list_append l its.toArray n u (by rw[zT];omega)) ⟨e,?_⟩
 refine⟨.non,_,I.lset (its':=its++[u]) hH e (by simp) (r.append (.cons ru .nil)) ?_,rfl,q⟩
 rw[zM,List.length_singleton]
 omega
inductive rPopAt(x:V)(vs:List V)(H:Hp)(Q:VK):Prop where
 | mk (l xs i k y:_) (h_0:x=.ref l) (h_1:vs=[.int i]) (h_2:H l=some (.lst xs)) (h_3:-(2 ^ 63)<=i) (h_4:i<2 ^ 63) (h_5:seqIndex? i xs.length=some k) (h_6:xs[k]?=some y) (h_7:Q y (upd H l (.lst (xs.eraseIdx k)))):rPopAt x vs H Q
theorem vv:MtM X "list.pop" rPopAt:=by
 intro pins s σ H x vs v us Q I rx rv h
 obtain⟨l,xs,i,k,y,rfl,rfl,hH,h1,h2,hk,hy,q⟩:=h
 cases rx
 obtain⟨u,rfl,ru⟩:=rv.one
 obtain⟨t,rfl⟩:=ru
 obtain⟨z,its,n,r,hl,e⟩:=I.lstM hH
 obtain⟨w,hw,rw'⟩:=r.get hy
 refine call_meets F.slot_list_pop ⟨_,e,rfl⟩ F.entry_list_pop (F.args_list_pop_2 _ _)
  (MeetsSeq.list_pop_at l its.toArray n i t k w (fitsIndex_both h1 h2) (by rw[zT,←hl];exact hk) (by rw[←y9];exact hw) (by rw[zT];omega)) ⟨e,?_⟩
 refine⟨y,_,I.lset (its':=its.eraseIdx k) hH e ?_ (r.eraseIdx k) ?_,rw',q⟩
 ·show its.toArray.eraseIdxIfInBounds k=(its.eraseIdx k).toArray
  rw[List.eraseIdxIfInBounds_toArray]
 ·have:=xn xs k
  omega
inductive rCat(x:V)(y:V)(H:Hp)(Q:VK):Prop where
 | mk (l b xs zs:_) (h_0:x=.ref l) (h_1:y=.ref b) (h_2:H l=some (.lst xs)) (h_3:H b=some (.lst zs)) (h_4:xs.length+zs.length<=sizeLine) (h_5:∀p,H p=none->Q (.ref p) (upd H p (.lst (xs++zs)))):rCat x y H Q
theorem F8:OpR X (binaryOp .Add) rCat:=by
 intro pins s σ H x y v u Q I rx ry h
 obtain⟨l,b,xs,zs,rfl,rfl,hH,hB,hz,q⟩:=h
 cases rx
 cases ry
 obtain⟨z,its,n,r,hl,e⟩:=I.lstM hH
 obtain⟨z2,its2,n2,r2,hl2,e2⟩:=I.lstM hB
 refine PySem.P.add_list e e2 ?_ (by rw[zT,zT];omega)
 have ea:its.toArray++its2.toArray=(its++its2).toArray:=by simp
 rw[ea]
 exact⟨.ref _,_,I.lnew (t':=s.toks) (r.append r2) (by rw[zM];omega),rfl,q _ I.fresh⟩
end
section
variable{prog:Program}{w:World}{A:Around}{E:Value->Shared->Prop}{s:Shared}
end
section
variable{X:Cx}
end
end L2
namespace Att
open PySem PySem.W PySem.Calls PyProof.Rows
theorem wr{P:Params}{h:Heap}:∀(ns:List Int)(vs:List Value),WellAll P h vs (ns.map WData.int)->IntsAre vs ns:=by
 intro ns
 induction ns with
 | nil =>
  intro vs w
  rw[jT]at w
  cases w
  exact .nil
 | cons n ns ih =>
  intro vs w
  rw[yE]at w
  cases w with
  | cons a b =>
   cases a
   exact .cons _ _ (ih _ b)
theorem Bl{l:OpenLaw}{n:Nat}(hn:l.most=some n){P:Params}{h:Heap}{args:List WData}{vals:List Value}
  (hpre:l.row.toRowW.claim.pre args=true) (hwl:WellAll P h vals args) :
  ∃a vs ns,vals=[Value.ref a]/\args=[WData.list (ns.map WData.int)]/\h.get? a=some { cls:=.type "list",data:=.seq vs.toArray }/\IntsAre vs ns/\ns.length<=n:=by
 have hsh:WShape.hasAll [] args [.list .int]=true:=(pre_splitW hpre).1
 have hc:l.pre.holds [] { args:=args }=true:=(pre_splitW hpre).2
 obtain⟨d,r,rfl,h1,h2⟩:=hasAllW_cons hsh
 obtain rfl:=hasAllW_nil h2
 obtain⟨xs,rfl,h3⟩:=hasW_list h1
 obtain⟨ns,rfl⟩:=items_int h3
 have hlen:ns.length<=n:=by
  unfold OpenLaw.pre at hc
  have h4:(WTm.not (.lt (.lit (.int (n:Int))) (.len (.arg 0)))).holds [] { args:=[.list (ns.map .int)] }=true:=by
   have h4:=(holds_andW hc).1
   rw[hn]at h4
   exact h4
  have h5:=condW_of h4 (w_not (w_lt w_lit (w_len_list (w_arg rfl))))
  rw[zC]at h5
  refine Nat.le_of_not_lt λq=>?_
  have q':(n:Int)<((ns.length:Nat):Int):=by omega
  first
   | (rw[decide_eq_true q']at h5;exact absurd h5 (by decide))
   | (simp at h5;omega)
 cases hwl with
 | cons w1 w2 =>
  cases w2
  cases w1 with
  | list ho hall=>exact⟨_,_,ns,rfl,rfl,ho,wr ns _ hall,hlen⟩
theorem BF(l:OpenLaw)(args:List WData):l.row.toRowW.claim.post args (.bool true) args=true :=
 postW_of (r:=l.row.toRowW) (X:=(true==true))
  (show WShape.has [] (.bool true) .bool=true by first|rfl|decide|simp [WShape.has,WShape.arms,WShape.armsAll])
  (show(WTm.eq .res (.lit (.bool true))).value [] { args:=args,res:=some (.bool true),after:=args }=some (.bool (true==true))from w_eq_bool (w_res rfl) w_lit) rfl
theorem attach_call{l:OpenLaw}{n:Nat}{q:Program}{loose:List Str}{XP:(Str->Option Value)->Heap->Prop}{YP:World->Heap->Prop}{d:DefRec}
  (hn:l.most=some n) (hdf:d.params.defaults=[])
  (call:∀(w:World)(s₀ s₁:Shared)(mg mb:Str->Option Value)(fa:Addr)(o:Obj)(pm cd doc:Value)(a:Addr)(vs:List Value)(ns:List Int),
   Ground q loose [] XP w s₀ mg mb s₁.heap->YP w s₁.heap ->
   s₁.heap.get? fa=some o->o.data=.func (docDef d.name d.params d.body d.scope pm cd doc)->s₁.heap.CodeRec cd d.name->mg d.name=some (.ref fa) ->
   s₁.heap.get? a=some { cls:=.type "list",data:=.seq vs.toArray }->IntsAre vs ns->ns.length<=n->s₁.gens=#[] ->
   codeAny (model l.prog w) callerA (.call (.ref fa) ⟨[.ref a],[]⟩) (λr s'=>r=.ok (.ret (.bool true))/\OldK s₁.heap s'.heap/\s'.os=s₁.os/\AllBare s'.gens) s₁) :
  WalkO q loose XP YP l.row.toRowW d [] (λf vs=>PySem.call f vs):=by
 intro w s₀ s₁ mg mb G Y fa o pm cd doc dV kV ho hd hcd hD hmg hg args vals as hpre hlay hrd hwl hlo
 obtain rfl:dV=.none:=Dflts.none hD hdf
 obtain rfl:kV=.none:=Dflts.noKw hD
 obtain⟨a,vs,ns,rfl,rfl,hobj,hints,hlen⟩:=Bl hn hpre hwl
 refine enter_call (codeAny_mono (call w s₀ s₁ mg mb fa o pm cd doc a vs ns G Y ho (fd_plain hd) hcd hmg hobj hints hlen hg) λr s' hq=>?_)
 obtain⟨rfl,h2,h3,h4⟩:=hq
 exact⟨.inl ⟨.bool true,.bool true,[],rfl,λ_=>rfl,.bool true,BF l _,λ_=>⟨List.Pairwise.nil,λ_ hm=>(nomatch hm)⟩⟩,h2,h3,h4⟩
section
variable{prog:Program}{w:World}{A:Around}{E:Value->Shared->Prop}{s:Shared}{K:Frag}
end
end Att
namespace L2
open PySem PySem.Spec PyProof.Rows
theorem u8:∀{vs:List Value}{ns:List Int},IntsAre vs ns->Vals (ns.map V.int) vs
 | _,_,.nil=>.nil
 | _,_,.cons n t h=>.cons ⟨t,rfl⟩ (u8 h)
end L2
namespace L2
open PySem PySem.Spec PyProof.Rows
end L2
/- THE LAST THEOREM (shape;LID,My.* are yours):
   My.Adr: a structure of the addresses that your layer names (classes,functions);My.Txt K t: a structure (Prop) of the equations over K;
   My.txt_mk:{K} {implicit addresses ..} (e1:nsIn K mainGlobals "law"=some (some (.ref f))) (e2:K.lookup f=some ⟨oc,od,.func (fnOf "law" "law" params body scope dV kV doc pm an cdv ct),sl⟩) (e3:codeIn K cdv "law"=true) ..:∃t,My.Txt K t
set_option maxRecDepth 100000 in
set_option maxHeartbeats 0 in
theorem PySem.Challenge.cw_LID_holds : PySem.Challenge.rw_LID.Holds := by
 w_on;o_law;k_head;(case hw=>w_witness2)
 k_fill
 refine L2.walk_of (l:=PySem.Challenge.rw_LID) (n:=63) (k:=40) (x:="script") (CX:=λw=>..) (sp:=λ_=>My.sp_law) rfl (by decide) rfl ⟨rfl,by decide,by decide⟩ (λw h Y=>PySem.W.kIn_of Y) ?F ?S ?C
 case F =>
  intro w mg fa h KX G hmg
  have T:∃t,My.Txt (L2.KOf KX) t:=by
   dsimp only [L2.KOf]                          -- K must stand as «<heap const> w.params» for k_is
   refine' My.txt_mk ?e1 ?e2 ?e3 ..
   (case e1=>PySem.W.k_is)                    -- in the order: a name -> its address -> its object -> its parts
   (case e2=>PySem.W.k_is)
   ..
  obtain⟨t,T⟩:=T
  have e0:=hmg.symm.trans (PySem.W.mg_of KX G T.law)
  cases e0                                       -- fa is the law's own address
  exact⟨_,λs u=>.of_eq rfl,λbase kb nb=>My.law_fn T kb nb⟩     -- if «.of_eq rfl» comes too early: refine' ⟨_,?b,λbase kb nb=>My.law_fn T kb nb⟩;exact λs u=>.of_eq rfl
 case S=>exact λw H a ns hl hO hS=>..
 case C=>exact ..
(the tactic k_is has no namespace: write k_is) -/
namespace L2
open PySem PySem.Spec PyProof.Rows
def inClass(s:Stmt)(j:Nat):Stmt:=match s with
 | .ClassDef _ _ _ body _ _ _ _ _ _ _=>body.getD j (.Pass ⟨0,0,0,0⟩)
 | _=>.Pass ⟨0,0,0,0⟩
def defArgs(s:Stmt):Arguments:=match s with
 | .FunctionDef _ a _ _ _ _ _ _ _ _=>a
 | _=>{ posonlyargs:=[],args:=[],vararg:=none,kwonlyargs:=[],kw_defaults:=[],kwarg:=none,defaults:=[] }
def defBody(s:Stmt):List Stmt:=match s with
 | .FunctionDef _ _ b _ _ _ _ _ _ _=>b
 | _=>[]
def defScope(s:Stmt):Scope:=match s with
 | .FunctionDef _ _ _ _ _ _ sc _ _ _=>sc
 | _=>{ kind:=.function,names:=[],isGenerator:=false,isCoroutine:=false }
abbrev CX0:CXT:=λ_ _ _ _ _ _=>False
abbrev E0:XK:=λ_ _ _=>False
theorem zk{X:Cx}:Passes CX0 X E0:=λ_ _ _ _ _ _ _ h=>h.elim
structure Fun(K:PySem.W.Frag)(x qual:Str)(st:Stmt)(f:Addr)(fd:FuncData):Prop where
 ex:∃(oc:Value)(od:Option Addr)(kV doc pm:Value)(an:Option Addr)(cdv ct:Value)(osl:Array (Option Value)),
  fd=PySem.W.fnOf x qual (defArgs st) (defBody st) (defScope st) .none kV doc pm an cdv ct/\K.lookup f=some ⟨oc,od,.func fd,osl⟩/\PySem.W.codeIn K cdv qual=true
 kp:PySem.W.keepIn K (.ref f)=true
section
variable{P:Program}{w:World}{K:PySem.W.Frag}{mg:Str->Option Value}{base:Heap}
theorem Fun.ok{x qual:Str}{st:Stmt}{f:Addr}{fd:FuncData}{N ps:List Str}{k:Nat}{sp:Sp}(F:Fun K x qual st f fd)(S:FnScope N ps (defScope st))(len:∀vs H Q E,sp vs H Q E->vs.length=ps.length)
  (hbody:∀(cdv:Value)(A:Around)(outer:List Env)(s:Shared)(H:Hp)(vs:List V)(Q:VK)(E:XK),Room k (A.deeper (envOfC qual (defScope st) s.heap.objs.size f cdv))->sp vs H Q E ->
   ∃t,PSs (cxOf CX0 P w K mg base N qual (defScope st) f cdv A outer s H E).nox (defBody st) t/\t { nx:=λ_ H'=>Q .non H',rt:=Q } (start N vs) H):FnOk P w K mg base CX0 (k+1) f fd ps sp:=by
 obtain⟨oc,od,kV,doc,pm,an,cdv,ct,osl,rfl,lk,hcd⟩:=F.ex
 refine EE lk hcd S len λA outer s H vs Q E hr hsp=>?_
 obtain⟨t,h,q⟩:=hbody cdv A outer s H vs Q E hr hsp
 exact⟨t,h.nox,q⟩
theorem Fun.binds{x qual:Str}{st:Stmt}{f:Addr}{fd:FuncData}{ps:List Str}(F:Fun K x qual st f fd)
  (h:∀(kV doc pm:Value)(an:Option Addr)(cdv ct:Value)(us:List Value),us.length=ps.length->bindArgs (PySem.W.fnOf x qual (defArgs st) (defBody st) (defScope st) .none kV doc pm an cdv ct) ⟨us,[]⟩=pure (ps.zip us)):Binds K fd ps []:=by
 obtain⟨oc,od,kV,doc,pm,an,cdv,ct,osl,rfl,lk,hcd⟩:=F.ex
 exact .all (h kV doc pm an cdv ct)
theorem C3{x qual:Str}{st:Stmt}{f:Addr}{oc:Value}{od an:Option Addr}{osl:Array (Option Value)}{kV doc pm cdv ct:Value}(l:K.lookup f=some ⟨oc,od,.func (PySem.W.fnOf x qual (defArgs st) (defBody st) (defScope st) .none kV doc pm an cdv ct),osl⟩)
  (c:PySem.W.codeIn K cdv qual=true) (k:PySem.W.keepIn K (.ref f)=true):Fun K x qual st f (PySem.W.fnOf x qual (defArgs st) (defBody st) (defScope st) .none kV doc pm an cdv ct):=⟨⟨oc,od,kV,doc,pm,an,cdv,ct,osl,rfl,l,c⟩,k⟩
end
theorem xf{A:Around}{k:Nat}(hr:Room k A):A.units+1<cLine:=qL (Nat.add_le_add_left (by decide:1<=64) _) hr.units
theorem sG{n:Nat}(h:n<=1000):n<sizeLine:=qL h (by decide)
section
variable{X:Cx}
theorem pv(i:Nat){x:Str}{pos:Pos}(hN:X.N[i]?=some x:=by rfl)(hv:Vis X.env.scope x:=by first|exact Or.inl rfl|exact Or.inr (Or.inl rfl)|exact Or.inr (Or.inr rfl))(hd:(x==("__debug__":Str))=false:=by decide)
  (hcd:(x==("__classdict__":Str))=false:=by decide):PE X (.Name x pos) (tVar i):=Fv hN hv hd hcd
end
theorem iteF{A B:Prop}(h:B):if false=true then A else B:=by
 rw[if_neg zQ]
 exact h
theorem iteT{A B:Prop}(h:A):if true=true then A else B:=by
 rw[if_pos rfl]
 exact h
theorem ite2{c A B:Prop}[Decidable c](h1:c->A)(h2:¬c->B):if c then A else B:=by
 by_cases h:c
 ·rw[if_pos h]
  exact h1 h
 ·rw[if_neg h]
  exact h2 h
def Same(H H':Hp):Prop:=∀b o,H b=some o->H' b=some o
theorem Same.refl(H:Hp):Same H H:=λ_ _ h=>h
theorem Same.trans{H H1 H2:Hp}(a:Same H H1)(b:Same H1 H2):Same H H2:=λc o h=>b c o (a c o h)
theorem Same.free{H H':Hp}(e:Same H H'){l:Addr}(h:H' l=Option.none):H l=Option.none:=by
 cases q:H l with
 | none=>rfl
 | some o =>
  rw[e l o q]at h
  cases h
theorem Same.seq{K:PySem.W.Frag}{H H':Hp}{a:Addr}{xs:List V}(e:Same H H')(h:SqL K H a xs):SqL K H' a xs:=by
 rcases h with (h|⟨o,h⟩)|h
 ·exact .inl (.inl (e _ _ h))
 ·exact .inl (.inr ⟨o,e _ _ h⟩)
 ·exact .inr h
end L2
namespace L2
open PySem PySem.Spec PyProof.Rows
section
variable{X:Cx}
end
section
variable{κ:Type}[DecidableEq κ]
end
end L2
namespace L2
open PySem PySem.Spec PyProof.Rows
theorem iteB{c:Bool}{A B:Prop}(h1:c=true->A)(h2:c=false->B):if c=true then A else B:=by
 cases c with
 | true=>exact iteT (h1 rfl)
 | false=>exact iteF (h2 rfl)
mutual
inductive Dt(K:PySem.W.Frag)(H:Hp):Nat->V->PyData->Prop
 | non (n:Nat):Dt K H n .non .none
 | bl (n:Nat) (b:Bool):Dt K H n (.bl b) (.bool b)
 | int (n:Nat) (i:Int):Dt K H n (.int i) (.int i)
 | str (n:Nat) (x:Str) (h:PyData.canLay0 (.str x)=true):Dt K H n (.str x) (.str x)
 | lst {n:Nat} {a:Addr} {xs:List V} {ds:List PyData} (h:SqL K H a xs) (r:DtAll K H n xs ds):Dt K H (n+1) (.ref a) (.list ds)
 | tup {n:Nat} {a:Addr} {xs:List V} {ds:List PyData} (h:SqT K H a xs) (r:DtAll K H n xs ds):Dt K H (n+1) (.ref a) (.tuple ds)
inductive DtAll(K:PySem.W.Frag)(H:Hp):Nat->List V->List PyData->Prop
 | nil (n:Nat):DtAll K H n [] []
 | cons {n:Nat} {x:V} {d:PyData} {xs:List V} {ds:List PyData} (h:Dt K H n x d) (r:DtAll K H n xs ds):DtAll K H n (x::xs) (d::ds)
end
mutual
theorem Dt.reads{X:Cx}{pins:List (Addr×Obj)}{σ:St}{H:Hp}{s:Shared}(I:Inv X pins σ H s):∀{n:Nat}{x:V}{d:PyData}{u:Value},Dt X.K H n x d->RelV x u->(∃as,Reads s.heap u d as)/\d.canLay0=true/\d.depth<=n
 | _,_,_,_,.non n,r=>by cases r;exact⟨⟨_,.none⟩,rfl,by simp [PyData.depth]⟩
 | _,_,_,_,.bl n b,r=>by cases r;exact⟨⟨_,.bool b⟩,rfl,by simp [PyData.depth]⟩
 | _,_,_,_,.int n i,r=>by obtain⟨t,rfl⟩:=r;exact⟨⟨_,.int i t⟩,rfl,by simp [PyData.depth]⟩
 | _,_,_,_,.str n x h,r=>by obtain⟨t,rfl⟩:=r;exact⟨⟨_,.str x t⟩,h,by simp [PyData.depth]⟩
 | _,_,_,_,.lst h ra,r=>by
  cases r
  obtain⟨its,rv,pl,_⟩:=I.list h
  obtain⟨⟨as,q⟩,c,dp⟩:=DtAll.reads I ra rv
  obtain⟨o,ho,hc,k,hd⟩:=pl.isList
  exact⟨⟨_,.list ho hc hd (by simpa using q)⟩,c,by simp only [PyData.depth];omega⟩
 | _,_,_,_,.tup h ra,r=>by
  cases r
  obtain⟨its,rv,pl,_⟩:=I.tuple h
  obtain⟨⟨as,q⟩,c,dp⟩:=DtAll.reads I ra rv
  obtain⟨o,ho,hc,k,hd⟩:=pl
  exact⟨⟨_,.tuple ho hc hd (by simpa using q)⟩,c,by simp only [PyData.depth];omega⟩
theorem DtAll.reads{X:Cx}{pins:List (Addr×Obj)}{σ:St}{H:Hp}{s:Shared}(I:Inv X pins σ H s):∀{n:Nat}{xs:List V}{ds:List PyData}{us:List Value},DtAll X.K H n xs ds->Vals xs us ->
  (∃as,ReadsAll s.heap us ds as)/\PyData.canLayAll0 ds=true/\PyData.depthAll ds<=n
 | _,_,_,_,.nil n,r=>by cases r;exact⟨⟨_,.nil⟩,rfl,by simp [PyData.depthAll]⟩
 | _,_,_,_,.cons h ra,r=>by
  cases r with
  | cons r1 r2 =>
   obtain⟨⟨as,q⟩,c,dp⟩:=Dt.reads I h r1
   obtain⟨⟨bs,q2⟩,c2,dp2⟩:=DtAll.reads I ra r2
   exact⟨⟨_,.cons q q2⟩,by simp [PyData.canLayAll0,c,c2],by simp only [PyData.depthAll];omega⟩
end
theorem DtAll.ints{K:PySem.W.Frag}{H:Hp}(n:Nat):∀ns:List Int,DtAll K H n (ns.map V.int) (ns.map PyData.int)
 | []=>.nil n
 | i::ns=>.cons (.int n i) (DtAll.ints n ns)
theorem Dt.ints{K:PySem.W.Frag}{H:Hp}{a:Addr}{ns:List Int}(n:Nat)(h:SqL K H a (ns.map V.int)):Dt K H (n+1) (.ref a) (.list (ns.map PyData.int)):=.lst h (.ints n ns)
section
variable{X:Cx}
inductive rEqD(K:PySem.W.Frag)(x:V)(y:V)(H:Hp)(Q:VK):Prop where
 | mk (d e n:_) (h_0:Dt K H n x d) (h_1:Dt K H n y e) (h_2:n<=64) (h_3:Q (.bl (PyData.eqv d e)) H):rEqD K x y H Q
inductive rNeD(K:PySem.W.Frag)(x:V)(y:V)(H:Hp)(Q:VK):Prop where
 | mk (d e n:_) (h_0:Dt K H n x d) (h_1:Dt K H n y e) (h_2:n<=64) (h_3:Q (.bl (!PyData.eqv d e)) H):rNeD K x y H Q
theorem Ff(hu:X.A.units+64<cLine):OpR X (compareOp .Eq) (rEqD X.K):=by
 intro pins s σ H x y v u Q I rx ry h
 obtain⟨d,e,n,hd,he,hn,q⟩:=h
 obtain⟨⟨as,ra⟩,ca,da⟩:=hd.reads I rx
 obtain⟨⟨bs,rb⟩,cb,db⟩:=he.reads I ry
 exact SeqAt.compareEq_reads ra rb ca cb (by omega) ⟨.bl _,H,I,rfl,q⟩
theorem EZ(hu:X.A.units+64<cLine):OpR X (compareOp .NotEq) (rNeD X.K):=by
 intro pins s σ H x y v u Q I rx ry h
 obtain⟨d,e,n,hd,he,hn,q⟩:=h
 obtain⟨⟨as,ra⟩,ca,da⟩:=hd.reads I rx
 obtain⟨⟨bs,rb⟩,cb,db⟩:=he.reads I ry
 exact SeqAt.rcNeAt_reads ra rb ca cb (by omega) X.prog X.w X.xe _ ⟨.bl _,H,I,rfl,q⟩
inductive rIsiT(K:PySem.W.Frag)(xs:List V)(H:Hp)(Q:VK):Prop where
 | mk (x n t b:_) (h_0:xs=[x,.ty n]) (h_1:TyOf K H x t) (h_2:PySem.W.kitOne K t (.type n)=some b) (h_3:Q (.bl b) H):rIsiT K xs H Q
theorem BJ:CallR X (.builtin "isinstance") (rIsiT X.K):=by
 intro pins s σ H xs us Q I r h
 obtain⟨x,n,t,b,rfl,ty,e,q⟩:=h
 obtain⟨v,w',rfl,rv,rw'⟩:=Ga r
 cases rw'
 exact Bt I rv ty e λtk=>⟨.bl b,H,I.tok tk,rfl,q⟩
def tSl3(K:PySem.W.Frag)(te:TE)(tl th ts:TO):TE:=fun σ H Q=>te σ H λx H1=>tl σ H1 λl H2=>th σ H2 λu H3=>ts σ H3 λk H4 =>
 ∃a ns,x=.ref a/\SqL K H4 a (ns.map V.int)/\k≠some 0/\∀p ms,ms=pickNums ns l u k->ms.length<=ns.length->H4 p=none->Q (.ref p) (upd H4 p (.lst (ms.map V.int)))
theorem BG{e:Expr}{te:TE}{lo hi st:Option Expr}{tl th ts:TO}{pos p2:Pos}(he:PE X e te)(hl:PO X lo tl)(hu:PO X hi th)(hk:PO X st ts)
  (hsub:∀o i,∃ops,subscripted (.Slice lo hi st p2) false o i=operate ops (getItem o i):=by intro _ _;exact⟨_,by with_unfolding_all rfl⟩) :
  PE X (.Subscript e (.Slice lo hi st p2) pos) (tSl3 X.K te tl th ts):=by
 intro pins s σ H Q I h
 refine Subscript_ (thn (he pins s σ H _ I h) λv s1 ⟨x,H1,I1,r1,q1⟩=>?_)
 refine wpAny_Slice (thn (hl pins s1 σ H1 _ I1 q1) λvl s2 ⟨l,H2,I2,pl,q2⟩=>thn (hu pins s2 σ H2 _ I2 q2) λvu s3 ⟨u,H3,I3,pu,q3⟩=>thn (hk pins s3 σ H3 _ I3 q3) λvk s4 ⟨k,H4,I4,pk,q4⟩=>?_)
 obtain⟨a,ns,rfl,hx,k0,q⟩:=q4
 cases r1
 have I5:Inv X pins σ H4 { s4 with heap:=s4.heap.push { cls:=.type "slice",data:=.fields #[vl,vu,vk] } }:=I4.kept (t':=s4.toks) λb ob q=>Heap.get?_push_of_some _ q
 obtain⟨its,r,ht,hz⟩:=I5.list hx
 have hi:=uw r
 have hlen:=hi.length
 have hp:=hi.pick l u k
 have hle:=length_pickNums_le hi l u k
 rw[zC]at hz
 obtain⟨ops,hops⟩:=hsub (.ref a) (.ref s4.heap.objs.size)
 refine tail_any (ops:=ops) ht.isList.typeIs slot_list_getitem.lookup (wpAny_getItem_list_slice ht.isList (Heap.IsSliceOf.new ..) pl pu pk k0 ?_ (by rw[zT];omega)) hops
 refine⟨.ref _,_,I5.laid (t':=s4.toks) (o:=.lst ((pickNums ns l u k).map V.int)) (λb ob q=>Heap.get?_push_of_some _ q) (zH _) ?_,rfl,q _ _ rfl hle (I5.hok.fresh (zH _))⟩
 refine⟨by rw[zC];omega,(slicePick its.toArray l u k).toList,0,u8 hp,?_⟩
 exact Heap.get?_push_size _ rfl
structure ClsM(K:PySem.W.Frag)(C:Addr)(m:Str)(f:Addr):Prop where
 ga:PySem.W.specialIn K (.ref C) "__getattribute__"=some (some (.builtin "type.__getattribute__"))
 mc:∃mc,PySem.W.readsIn K C mc=true/\PySem.W.findCls K (.ref C) mc m=some (.val (.ref f))
 kp:PySem.W.keepIn K (.ref f)=true
theorem Ev{CX:CXT}{k:Nat}{f C:Addr}{fd:FuncData}{ps:List Str}{sp:Sp}{dvs:List V}{ds:List Value}{E:XK}{x m:Str}{p pos apos:Pos}{e:Expr}{es:List Expr}{t:TA}{pl:Sem Bool}
  (hg:Gl X x) (hm:X.mg x=some (.ref C)) (c:ClsM X.K C m f) (F:FnOk X.prog X.w X.K X.mg X.base CX k f fd ps sp) (hr:Room k X.A) (hb:Binds X.K fd ps ds) (hd:Vals dvs ds) (hx:Passes CX X E) (ha:PA X (e::es) t)
  (hdb:(x==("__debug__":Str))=false:=by decide) (hst:starEach (e::es) X.env=(false,eval e X.env)::starEach es X.env:=by rfl) (hpl:(backTo pos (starEach es X.env)).any (·.1)=false:=by rfl)
  (ht:eval (.Call (.Attribute (.Name x p) m apos) (e::es) [] pos) X.env=(do
   let ov ←eval (.Name x p) X.env
   standAt apos.atName
   let (f,first) ←holding [ov] (getMethod ov m pl)
   callWith pos f first (backTo pos (starEach (e::es) X.env)) (backToKw pos (keywordEach [] X.env))):=by rfl) :
  PE X (.Call (.Attribute (.Name x p) m apos) (e::es) [] pos) (tCall sp dvs E t):=by
 intro pins s σ H Q I h
 refine PySem.W.methodCall_KW (pl:=pl) (wu I hg hm ?_ hdb) ht
 obtain⟨mc,h1,h2⟩:=c.mc
 refine PySem.W.method_cls I.kIn c.ga (PySem.W.cls_value I.kIn h1 h2 rfl ?_)
 have I1:Inv X pins σ H { s with toks:=s.toks+1 }:=I.tok _
 refine PySem.W.callWith_K (first:=[]) (h₀:=X.base) I.ok.mod.kin c.kp (thn (ha pos pins _ σ H _ I1 h) λus s2 ⟨vs,H2,I2,r,q2⟩=>⟨I2.kIn,?_⟩) hst hpl
 exact xZ (us:=us) (vs:=vs) F hr hb hd hx I2 r q2
end
end L2
namespace L2
open PySem PySem.Spec PyProof.Rows
theorem tX:bootBuiltins "len"=some (.builtin "len"):=by decide +kernel
theorem uK:bootBuiltins "isinstance"=some (.builtin "isinstance"):=by decide +kernel
theorem AX:bootBuiltins "list"=some (.type "list"):=by decide +kernel
theorem vP:bootBuiltins "tuple"=some (.type "tuple"):=by decide +kernel
theorem Dv:bootBuiltins "bool"=some (.type "bool"):=by decide +kernel
theorem CV:bootBuiltins "min"=some (.builtin "min"):=by decide +kernel
theorem B1:bootBuiltins "sum"=some (.builtin "sum"):=by decide +kernel
theorem CF:bootBuiltins "any"=some (.builtin "any"):=by decide +kernel
theorem E5:bootBuiltins "all"=some (.builtin "all"):=by decide +kernel
theorem xt:bootBuiltins "sorted"=some (.builtin "sorted"):=by decide +kernel
structure FnAt(P:Program)(w:World)(K:PySem.W.Frag)(mg:Str->Option Value)(base:Heap)(k:Nat)(x:Str)(ps:List Str)(sp:Sp):Prop where
 ex:∃(f:Addr)(fd:FuncData),FnOk P w K mg base CX0 k f fd ps sp/\mg x=some (.ref f)/\PySem.W.keepIn K (.ref f)=true/\Binds K fd ps []
structure MethAt(P:Program)(w:World)(K:PySem.W.Frag)(mg:Str->Option Value)(base:Heap)(k:Nat)(C:Addr)(m:Str)(ps:List Str)(sp:Sp):Prop where
 ex:∃(f:Addr)(fd:FuncData),FnOk P w K mg base CX0 k f fd ps sp/\Meth K C m f/\Binds K fd ps []
 cls:Cls K C
structure MkAt(P:Program)(w:World)(K:PySem.W.Frag)(mg:Str->Option Value)(base:Heap)(k:Nat)(x:Str)(C:Addr)(ps:List Str)(sp:Sp):Prop where
 ex:∃(f:Addr)(fd:FuncData),FnOk P w K mg base CX0 k f fd ps sp/\Mk K C f/\Binds K fd ps []
 mg:mg x=some (.ref C)
structure ClsAt(P:Program)(w:World)(K:PySem.W.Frag)(mg:Str->Option Value)(base:Heap)(k:Nat)(C:Addr)(m:Str)(ps:List Str)(sp:Sp):Prop where
 ex:∃(f:Addr)(fd:FuncData),FnOk P w K mg base CX0 k f fd ps sp/\ClsM K C m f/\Binds K fd ps []
section
variable{X:Cx}{k:Nat}{ps:List Str}{sp:Sp}{x m:Str}{C:Addr}{p pos apos:Pos}{e o:Expr}{es:List Expr}{t:TA}{ta:TE}
theorem sU(G:FnAt X.prog X.w X.K X.mg X.base k x ps sp)(hr:Room k X.A)(hg:Gl X x)(ha:PA X (e::es) t)(hdb:(x==("__debug__":Str))=false:=by decide)
  (he:starEach (e::es) X.env=(false,eval e X.env)::starEach es X.env:=by rfl) (hpl:(backTo pos (starEach es X.env)).any (·.1)=false:=by rfl) :
  PE X (.Call (.Name x p) (e::es) [] pos) (tCall sp [] E0 t):=by
 obtain⟨f,fd,F,hm,hk,hb⟩:=G.ex
 exact DZ F hr hg hm hk hb .nil zk ha hdb he hpl
theorem uc{pl:Sem Bool}(G:MethAt X.prog X.w X.K X.mg X.base k C m ps sp)(hr:Room k X.A)(he:PE X o ta)(ha:PA X (e::es) t)
  (hst:starEach (e::es) X.env=(false,eval e X.env)::starEach es X.env:=by rfl) (hpl:(backTo pos (starEach es X.env)).any (·.1)=false:=by rfl)
  (ht:eval (.Call (.Attribute o m apos) (e::es) [] pos) X.env=(do
   let ov ←eval o X.env
   standAt apos.atName
   let (f,first) ←holding [ov] (getMethod ov m pl)
   callWith pos f first (backTo pos (starEach (e::es) X.env)) (backToKw pos (keywordEach [] X.env))):=by rfl) :
  PE X (.Call (.Attribute o m apos) (e::es) [] pos) (tMeth C m sp [] E0 ta t):=by
 obtain⟨f,fd,F,hm,hb⟩:=G.ex
 exact Dr (pl:=pl) he G.cls hm F hr hb .nil zk ha hst hpl ht
theorem xA(M:MkAt X.prog X.w X.K X.mg X.base k x C ps sp)(hr:Room (k+1) X.A)(hg:Gl X x)(ha:PA X (e::es) t)(hdb:(x==("__debug__":Str))=false:=by decide)
  (he:starEach (e::es) X.env=(false,eval e X.env)::starEach es X.env:=by rfl) (hpl:(backTo pos (starEach es X.env)).any (·.1)=false:=by rfl) :
  PE X (.Call (.Name x p) (e::es) [] pos) (tMake C sp [] E0 t):=by
 obtain⟨f,fd,F,hm,hb⟩:=M.ex
 exact Do hm F hr hg M.mg hb .nil zk ha hdb he hpl
theorem wW{pl:Sem Bool}(hg:Gl X x)(hm:X.mg x=some (.ref C))(G:ClsAt X.prog X.w X.K X.mg X.base k C m ps sp)(hr:Room k X.A)(ha:PA X (e::es) t)
  (hdb:(x==("__debug__":Str))=false:=by decide) (hst:starEach (e::es) X.env=(false,eval e X.env)::starEach es X.env:=by rfl) (hpl:(backTo pos (starEach es X.env)).any (·.1)=false:=by rfl)
  (ht:eval (.Call (.Attribute (.Name x p) m apos) (e::es) [] pos) X.env=(do
   let ov ←eval (.Name x p) X.env
   standAt apos.atName
   let (f,first) ←holding [ov] (getMethod ov m pl)
   callWith pos f first (backTo pos (starEach (e::es) X.env)) (backToKw pos (keywordEach [] X.env))):=by rfl) :
  PE X (.Call (.Attribute (.Name x p) m apos) (e::es) [] pos) (tCall sp [] E0 t):=by
 obtain⟨f,fd,F,c,hb⟩:=G.ex
 exact Ev (pl:=pl) hg hm c F hr hb .nil zk ha hdb hst hpl ht
end
def Keep(L:List Addr)(H H':Hp):Prop:=∀b o,H b=some o->b∉L->H' b=some o
theorem Same.upd{H H':Hp}{p:Addr}{o:HO}(h:Same H H')(n:H p=none):Same H (upd H' p o):=λb u e=>by
 rw[sD (sC e n)]
 exact h b u e
theorem Same.new{H:Hp}{p:Addr}{o:HO}(n:H p=none):Same H (L2.upd H p o):=(Same.refl H).upd n
theorem ul{ns:List Int}{i:Nat}{y:V}(h:(ns.map V.int)[i]?=some y):∃z,y=V.int z/\ns[i]?=some z:=by
 rw[zF]at h
 cases e:ns[i]? with
 | none=>rw[e]at h;cases h
 | some z=>rw[e]at h;exact⟨z,(Option.some.inj h).symm,rfl⟩
end L2
namespace L2
open PySem PySem.Spec PyProof.Rows
theorem ixT{K:PySem.W.Frag}{H:Hp}{p:Addr}{xs:List V}{i:Int}{v:V}{Q:VK}(h:H p=some (.tup xs))(e:atI xs i=some v)(q:Q v H):rIxT K (.ref p) (.int i) H Q:=⟨p,xs,i,v,rfl,rfl,SqT.of h,e,q⟩
theorem tyL{K:PySem.W.Frag}{H:Hp}{p:Addr}{xs:List V}(h:H p=some (.lst xs)):tyV K "list" (.ref p) H:=.inl ⟨rfl,xs,SqL.of h⟩
theorem DG{α β:Type}{rs:List α}{f:α->β}{k:Int}{j:Nat}{r:α}(hk:k=(j:Int))(h:rs[j]?=some r):atI (rs.map f) k=some (f r):=by
 rw[hk]
 exact su (by rw[zF,h];rfl)
theorem Keep.same{L:List Addr}{H H':Hp}(h:Same H H'):Keep L H H':=λb o e _=>h b o e
theorem Keep.upd{L:List Addr}{H H':Hp}{a:Addr}{o:HO}(h:Keep L H H')(ha:a∈L):Keep L H (L2.upd H' a o):=λb u e hb=>by
 rw[sD (λz=>hb (by rw[z];exact ha))]
 exact h b u e hb
theorem Keep.new{L:List Addr}{H H':Hp}{a:Addr}{o:HO}(h:Keep L H H')(n:H a=none):Keep L H (L2.upd H' a o):=λb u e hb=>by
 rw[sD (sC e n)]
 exact h b u e hb
end L2
namespace L2
open PySem PySem.Spec PyProof.Rows
inductive Each{α:Type}(P:α->Prop):List α->Prop
 | nil:Each P []
 | cons {a:α} {l:List α}:P a->Each P l->Each P (a::l)
theorem Each.mem{α:Type}{P:α->Prop}:∀{l:List α},Each P l->∀a∈l,P a
 | _,.nil,_,h=>absurd h zI
 | _,.cons p r,a,h=>by
  rcases zR.mp h with e|e
  ·rw[e];exact p
  ·exact r.mem a e
def Cx.comp(X:Cx)(scope:Scope)(cl:List (Str×Addr))(C:Addr)(fp:List Addr)(N':List Str)(s2:Shared)(H2:Hp):Cx where
 prog:=X.prog
 w:=X.w
 K:=X.K
 mg:=X.mg
 base:=X.base
 A:=X.A
 N:=N'
 s₀:=s2
 H₀:=H2
 env:=compEnvC scope cl C X.env
 outer:=X.stack
 stack:=X.stack
 ex:=fp
 fn:=λ_=>false
 calm:=X.calm
 pn:=[]
 xe:=λ_ _=>False
structure CompOk(X:Cx)(scope:Scope)(cl:List (Str×Addr))(own fr:List Str)(js:List Nat):Prop where
 kind:scope.kind=.function
 clos:closureFor scope X.env=pure cl
 nocell:∀y∈scope.names,y.2≠.cell
 names:∀y∈scope.names,y.2=.local->scope.names.lookup y.1=some .local
 cells:Each (λ(p:Str×Addr)=>X.env.cells.lookup p.1=some p.2) cl
 has:Each (λ(p:Str×NameKind)=>((p.2 != .cell&&p.2 != .free)||(cl.lookup p.1).isSome)=true) (relabel scope X.env).names
 fr:Paired (λ(x:Str)(j:Nat)=>X.N[j]?=some x/\(X.env.kindOf x=some .cell\/X.env.kindOf x=some .free)/\((relabel scope X.env).names.lookup x=some .cell\/(relabel scope X.env).names.lookup x=some .free)) fr js
 calm:X.calm=true
def blk(own:List Str)(js:List Nat)(σ:St):St:=own.map (λ_=>none)++js.map λj=>(σ[j]?).join
theorem _root_.PySem.Paired.getL{α β:Type}{F:α->β->Prop}:∀{l₁:List α}{l₂:List β}{i:Nat}{a:α},Paired F l₁ l₂->l₁[i]?=some a->∃b,l₂[i]?=some b/\F a b
 | _,_,_,_,.nil,e=>by simp at e
 | _,_,0,_,.cons r _,e=>by simp at e;subst e;exact⟨_,rfl,r⟩
 | _,_,i+1,a,.cons _ t,e=>by
  obtain⟨u,h1,h2⟩:=PySem.Paired.getL (i:=i) (a:=a) t (by simpa using e)
  exact⟨u,by simpa using h1,h2⟩
section
variable{X:Cx}{scope:Scope}{cl:List (Str×Addr)}{own fr:List Str}{js:List Nat}{pins:List (Addr×Obj)}{σ:St}{H:Hp}{s:Shared}
theorem CompOk.cell(c:CompOk X scope cl own fr js){x:Str}{a:Addr}(h:cl.lookup x=some a):X.env.cells.lookup x=some a:=c.cells.mem _ (PySem.mem_of_lookup h)
theorem Inv.block(c:CompOk X scope cl own fr js)(I:Inv X pins σ H s){fp:List Addr}(hf:∀b∈fp,FpOk X pins H b/\b<s.heap.objs.size){h':Heap}{C D:Addr}{m:Str->Option Value}{t':Nat}
  (k:∀b o,s.heap.get? b=some o->h'.get? b=some o) (hC:s.heap.objs.size<=C) (hD:s.heap.objs.size<=D) (hDC:D≠C) (ns:h'.Ns C m) (hl:h'.get? D=some { cls:=.type "list",data:=.seq #[] }) :
  Inv (X.comp scope cl C fp (own++fr) s H) [] (blk own js σ) (upd H D (.lst [])) { s with heap:=h',toks:=t' }:=by
 have fC:H C=none:=I.hok.fresh hC
 have lt:∀{b:Addr}{o:Obj},s.heap.get? b=some o->b<s.heap.objs.size:=λe=>Heap.lt_size e
 have cne:∀x a,cl.lookup x=some a->∃v,s.heap.IsCell a v:=λx a e=>I.cell x a (c.cell e)
 refine⟨⟨I.ok.mod,c.kind,I.ok.glob,I.ok.blt,hC,λx y a h1 h2=>I.ok.inj x y a (c.cell h1) (c.cell h2),λx hx=>?_,λx a z=>(by cases z),I.ok.hd,I.ok.frames,.inl rfl,λb hb=>⟨?_,λx a e=>?_⟩,I.bs,z0 I.ok.bsz I.sz,λb o e hb=>?_,λb hb hz=>?_,I.stack,I.stkFree⟩,
  rfl,I.bare,?_,⟨m,ns,λi x v h1 h2 h3=>?_⟩,λx a e=>?_,?_,λx a e=>?_,λp hp=>absurd (show p∈([]:List (Addr×Obj))from hp) zI,?_,?_⟩
 ·have hx':(relabel scope X.env).names.lookup x=some .cell\/(relabel scope X.env).names.lookup x=some .free:=hx
  have z:∀kd,(relabel scope X.env).names.lookup x=some kd->(kd=.cell\/kd=.free)->∃a,cl.lookup x=some a:=λkd e1 e2=>by
   have q:=c.has.mem _ (PySem.mem_of_lookup e1)
   rcases e2 with e2|e2 <;>subst e2 <;>exact qA.mp q
  rcases hx' with h|h
  ·exact z _ h (.inl rfl)
  ·exact z _ h (.inr rfl)
 ·exact zW (zS (hf b hb).2 hC)
 ·exact(hf b hb).1.2.2.2.2.1 x a (c.cell e)
 ·rcases(hf b hb).1.2.2.2.1 with z|z
  ·exact I.ok.noex b o e z
  ·exact absurd (zS (Heap.lt_size e) (z0 I.ok.bsz z)) (qP _)
 ·rcases zR.mp (I.stkSub b hz)with z|z
  ·exact(hf b hb).1.2.1 z
  ·exact(hf b hb).1.2.2.1 z
 ·exact Un.laid k hD (I.hok.fresh hD)
 ·-- the names that it shares
  have hi:own.length<=i:=by
   by_cases q:own.length<=i
   ·exact q
   ·unfold blk at h2
    rw[yF (by rw[zC];omega),zF]at h2
    cases e:own[i]? with
    | none=>rw[e]at h2;cases h2
    | some z=>rw[e]at h2;cases h2
  have h1':fr[i-own.length]?=some x:=by
   have q:(own++fr)[i]?=some x:=h1
   rw[zN hi]at q
   exact q
  obtain⟨j,hj,hN,hk,hr⟩:=c.fr.getL h1'
  have h2':σ[j]?=some (some v):=by
   unfold blk at h2
   rw[zN (by rw[zC];exact hi),zC,zF,hj]at h2
   have q:some ((σ[j]?).join)=some (some v):=h2
   have q':=Option.some.inj q
   cases e:σ[j]? with
   | none=>rw[e]at q';cases q'
   | some z=>rw[e]at q';rw[show z=some v from q']
  obtain⟨m0,hn0,hl0⟩:=I.loc
  obtain⟨u,r,l⟩:=hl0 j x v hN h2' (hk.elim (λz=>.inr (.inl z)) λz=>.inr (.inr z))
  refine⟨u,r,.inr ⟨hr,?_⟩⟩
  rcases l with ⟨hk',_⟩|⟨_,a,ea,ca⟩
  ·rcases hk with z|z <;>(rw[hk']at z;cases z)
  ·have hx':∃b,cl.lookup x=some b:=by
    have z:∀kd,(relabel scope X.env).names.lookup x=some kd->(kd=.cell\/kd=.free)->∃a,cl.lookup x=some a:=λkd e1 e2=>by
     have q:=c.has.mem _ (PySem.mem_of_lookup e1)
     rcases e2 with e2|e2 <;>subst e2 <;>exact qA.mp q
    rcases hr with h|h
    ·exact z _ h (.inl rfl)
    ·exact z _ h (.inr rfl)
   obtain⟨b,eb⟩:=hx'
   have eab:=c.cell eb
   rw[ea]at eab
   cases eab
   obtain⟨o,ho,hd⟩:=ca
   exact⟨a,eb,o,k _ _ ho,hd⟩
 ·obtain⟨v,o,ho,hd⟩:=cne x a e
  exact⟨v,o,k _ _ ho,hd⟩
 ·show upd H D (.lst []) C=none
  rw[sD hDC.symm];exact fC
 ·obtain⟨v,o,ho,hd⟩:=cne x a e
  rw[sD (zW (zS (lt ho) hD))]
  exact I.freeC x a (c.cell e)
 ·exact I.hok.laid k hD ⟨zV _,[],0,.nil,hl⟩
 ·unfold blk
  show _=(own++fr).length
  have:=c.fr.length
  rw[zM,zM,zC,zC]
  omega
theorem Inv.unblock(I:Inv X pins σ H s){fp:List Addr}(hf:∀b∈fp,FpOk X pins H b){N':List Str}{C:Addr}{pl:List (Addr×Obj)}{σ':St}{H':Hp}{s':Shared}
  (J:Inv (X.comp scope cl C fp N' s H) pl σ' H' s'):Inv X pins σ H' s' :=
 I.call' (ch:=fp) J.os J.base J.hok J.bare λb hb=>⟨(hf b hb).2.2.2.1,(hf b hb).2.1,(hf b hb).2.2.2.2.1,(hf b hb).2.2.2.2.2⟩
end
def PTs(X:Cx)(ifs:List Expr)(t:TT):Prop :=
 ∀(pins:List (Addr×Obj))(s:Shared)(σ:St)(H:Hp)(Q:Bool->Hp->Prop),Inv X pins σ H s->t σ H Q ->
  wpAny (model X.prog X.w) X.A (forIn ifs true λc r=>if r=true then do let ok ←isTrue c X.env (eval c X.env);pure (ForInStep.yield ok)else pure (ForInStep.yield r)) (TP X pins σ Q) X.xe s
def tTrue:TT:=λ_ H Q=>Q true H
theorem tq{X:Cx}:PTs X [] tTrue:=λ_ _ _ H _ I h=>wpAny_tests_nil ⟨H,I,h⟩
theorem uj{X:Cx}{c:Expr}{t:TT}(h:PT X c t):PTs X [c] t:=λpins s σ H Q I q=>wpAny_tests_one (h pins s σ H Q I q)
def CompW(J:It)(D:Addr)(σ0:St)(g:TG)(tc:TT)(te:TE)(H1:Hp)(Q:Hp->Prop):Prop :=
 ∃W:Nat->Nat->Hp->Prop,(∃m,W 0 m (upd H1 D (.lst [])))/\∀i m H,W i m H ->
  (J.stop i H/\Q H)\/(J.go i H/\∀x H',J.yld i H x H'->g x σ0 H' fun σ2 H2=>tc σ2 H2 λb H3 =>
   if b=true then te σ2 H3 λy H4=>∃ys,H4 D=some (.lst ys)/\ys.length<sizeLine/\∃m',m'<m/\W (i+1) m' (upd H4 D (.lst (ys++[y])))else ∃m',m'<m/\W (i+1) m' H3)
section
variable{X:Cx}{elt iter tg:Expr}{ifs:List Expr}{scope:Scope}{cl:List (Str×Addr)}{own fr:List Str}{js:List Nat}{wi:TI}{g:TG}{tc:TT}{te:TE}{pos:Pos}
theorem xr{pins:List (Addr×Obj)}{σ:St}{H1:Hp}{s1:Shared}{it:Addr}{fp:List Addr}{tn:Nat->Heap->Prop}{J:It}{C D:Addr}{h':Heap}{m:Str->Option Value}{t':Nat}{Q:Hp->Prop}{R:Result->Shared->Prop}
  (c:CompOk X scope cl own fr js) (I:Inv X pins σ H1 s1) (T:Turn X.prog X.w X.K tg J fp it tn) (st:tn 0 s1.heap) (hf:∀b∈fp,FpOk X pins H1 b)
  (hg:PG (X.comp scope cl C fp (own++fr) s1 H1) tg g) (hc:PTs (X.comp scope cl C fp (own++fr) s1 H1) ifs tc) (he:PE (X.comp scope cl C fp (own++fr) s1 H1) elt te)
  (k:∀b o,s1.heap.get? b=some o->h'.get? b=some o) (hC:s1.heap.objs.size<=C) (hD:s1.heap.objs.size<=D) (hDC:D≠C) (ns:h'.Ns C m) (hl:h'.get? D=some { cls:=.type "list",data:=.seq #[] })
  (q:CompW J D (blk own js σ) g tc te H1 Q)
  (fin:∀H' s' m',Inv X pins σ H' s'->s'.heap.Ns C m'->H' C=none->Q H'->R (.ok .next) s') :
  codeAny (model X.prog X.w) X.A (.compLoop (.ListComp elt [⟨tg,iter,ifs,0⟩] scope pos) 0 (.ref it) (.ref D) (compEnvC scope cl C X.env)) R { s1 with heap:=h',toks:=t' }:=by
 have hf2:∀b∈fp,FpOk X pins H1 b/\b<s1.heap.objs.size:=λb hb=>by
  obtain⟨o,e,_⟩:=T.obj _ _ st b hb
  exact⟨hf b hb,Heap.lt_size e⟩
 have J0:Inv (X.comp scope cl C fp (own++fr) s1 H1) [] (blk own js σ) (upd H1 D (.lst [])) { s1 with heap:=h',toks:=t' }:=I.block c hf2 k hC hD hDC ns hl
 have fpN:∀b∈fp,(upd H1 D (.lst [])) b=none:=λb hb=>by
  rw[sD (zW (zS (hf2 b hb).2 hD))]
  exact(hf b hb).1
 have st0:tn 0 h':=T.keep _ _ _ st λb _ o e=>k b o e
 obtain⟨W,⟨m0,w0⟩,turn⟩:=q
 have stat:∀{H':Hp},(∀b∈fp,H' b=none)->∀b∈fp,FpOk (X.comp scope cl C fp (own++fr) s1 H1) [] H' b:=λhn b hb=>by
  refine⟨hn b hb,zW (zS (hf2 b hb).2 hC),λz=>?_,.inl hb,λx a e=>(hf b hb).2.2.2.2.1 x a (c.cell e),λp hp=>absurd (show p∈([]:List (Addr×Obj))from hp) zI⟩
  rcases zR.mp (I.stkSub b z)with z|z
  ·exact(hf b hb).2.1 z
  ·exact(hf b hb).2.2.1 z
 refine codeAny_loop rfl (λn s'=>∃i H',Inv (X.comp scope cl C fp (own++fr) s1 H1) [] (blk own js σ) H' s'/\tn i s'.heap/\(∀b∈fp,H' b=none)/\W i n H') ?_ m0 ⟨0,_,J0,st0,fpN,w0⟩
 rintro n s3 ⟨i,H3,I3,st3,fr3,w3⟩
 show wpAny _ X.A ((compTurn (.ListComp elt [⟨tg,iter,ifs,0⟩] scope pos) 0 (.ref it) (.ref D) (compEnvC scope cl C X.env)).onRaise (λx=>do noteFrame x (compEnvC scope cl C X.env);theTreesLotGoes x)) _ _ s3
 refine wpAny_noted ?_
 rw[compTurn_list]
 have weak:∀{α:Type}{tr:Sem α}{Q':α->Shared->Prop}{E':Value->Shared->Prop}{s':Shared},wpAny (model X.prog X.w) X.A tr Q' (λ_ _=>False) s'->wpAny (model X.prog X.w) X.A tr Q' E' s':=λh=>wpAny_mono h (λ_ _ z=>z) λ_ _ z=>z.elim
 refine wpAny_bind (wpAny_standAt (wpAny_bind ?_))
 rcases turn i n H3 w3 with ⟨stop,qn⟩|⟨go,step⟩
 ·refine weak (thn (T.done (X.comp scope cl C fp (own++fr) s1 H1) rfl rfl rfl c.calm i [] s3 _ H3 _ I3 (stat fr3) st3 stop) λr s4 ⟨hr,I4⟩=>?_)
  subst hr
  refine wpAny_pure ?_
  obtain⟨m',hn',_⟩:=I4.loc
  exact fin H3 s4 m' (I.unblock hf I4) hn' I4.free qn
 ·refine weak (thn (T.item (X.comp scope cl C fp (own++fr) s1 H1) rfl rfl rfl c.calm i [] s3 _ H3 _ I3 (stat fr3) st3 go) λr s4 ⟨u,hr,h4⟩=>?_)
  subst hr
  refine wpAny_bind (weak (thn h4 λ_ s5 ⟨x,H5,I5,r5,y5,st5,fr5⟩=>?_))
  have I5':=I5.pinned (stat fr5) (T.obj _ _ st5)
  refine wpAny_bind (weak (thn (hg _ s5 _ H5 x u _ I5' r5 (step x H5 y5)) λ_ s6 ⟨σ6,H6,I6,q6⟩=>?_))
  have back:∀{σ7:St}{H7:Hp}{s7:Shared}{m':Nat},Inv (X.comp scope cl C fp (own++fr) s1 H1) ([]++pinsAt fp s5.heap) σ7 H7 s7->m'<n->W (i+1) m' H7->Inv (X.comp scope cl C fp (own++fr) s1 H1) [] (blk own js σ) H7 s7 ->
    ∃m,m<n/\∃i H',Inv (X.comp scope cl C fp (own++fr) s1 H1) [] (blk own js σ) H' s7/\tn i s7.heap/\(∀b∈fp,H' b=none)/\W i m H':=fun {σ7 H7 s7 m'} I7 hm w7 I8=>by
   refine⟨m',hm,i+1,H7,I8,T.keep _ _ _ st5 λb hb o e=>(I7.pin (b,o) (zO _ (zO _ (ui hb e)))).1,λb hb=>?_,w7⟩
   obtain⟨o,e,d⟩:=T.obj _ _ st5 b hb
   exact(I7.pin (b,o) (zO _ (zO _ (ui hb e)))).2.1
  have anew:∀{σ7:St}{H7:Hp}{s7:Shared}{pl:List (Addr×Obj)},Inv (X.comp scope cl C fp (own++fr) s1 H1) pl σ7 H7 s7->Inv (X.comp scope cl C fp (own++fr) s1 H1) [] (blk own js σ) H7 s7:=fun {σ7 H7 s7 pl} I7=>by
   have IX:=I.unblock hf I7
   obtain⟨m',hn',_⟩:=I7.loc
   obtain⟨mX,nX,lX⟩:=IX.loc
   refine⟨I7.ok,I7.os,I7.bare,I7.base,⟨m',hn',λi x v h1 h2 h3=>?_⟩,I7.cell,I7.free,I7.freeC,λp hp=>absurd (show p∈([]:List (Addr×Obj))from hp) zI,I7.hok,I3.len⟩
   have hi:own.length<=i:=by
    by_cases q:own.length<=i
    ·exact q
    ·unfold blk at h2
     rw[yF (by rw[zC];omega),zF]at h2
     cases e:own[i]? with
     | none=>rw[e]at h2;cases h2
     | some z=>rw[e]at h2;cases h2
   have h1':fr[i-own.length]?=some x:=by
    have q:(own++fr)[i]?=some x:=h1
    rw[zN hi]at q
    exact q
   obtain⟨j,hj,hN,hk,hr⟩:=c.fr.getL h1'
   have h2':σ[j]?=some (some v):=by
    unfold blk at h2
    rw[zN (by rw[zC];exact hi),zC,zF,hj]at h2
    have q:some ((σ[j]?).join)=some (some v):=h2
    have q':=Option.some.inj q
    cases e:σ[j]? with
    | none=>rw[e]at q';cases q'
    | some z=>rw[e]at q';rw[show z=some v from q']
   obtain⟨u,r,l⟩:=lX j x v hN h2' (hk.elim (λz=>.inr (.inl z)) λz=>.inr (.inr z))
   refine⟨u,r,.inr ⟨hr,?_⟩⟩
   rcases l with ⟨hk',_⟩|⟨_,a,ea,ca⟩
   ·rcases hk with z|z <;>(rw[hk']at z;cases z)
   ·obtain⟨b,eb⟩:=I7.ok.has x hr
    have eab:=c.cell eb
    rw[ea]at eab
    cases eab
    exact⟨a,eb,ca⟩
  refine wpAny_bind (weak (thn (hc _ s6 σ6 H6 _ I6 q6) λok s7 ⟨H7,I7,q7⟩=>?_))
  cases ok with
  | false =>
   have q7':=(if_neg (by decide:¬(false=true))).mp q7
   obtain⟨m',hm,w7⟩:=q7'
   exact wpAny_pure ⟨rfl,back I7 hm w7 (anew I7)⟩
  | true =>
   have q7':=(if_pos (rfl:true=true)).mp q7
   refine wpAny_bind (wpAny_bind (weak (thn (he _ s7 σ6 H7 _ I7 q7') λy s8 ⟨v8,H8,I8,r8,ys,e8,z8,m',hm,w8⟩=>?_)))
   refine wpAny_bind (weak (thn (tL (X:=X.comp scope cl C fp (own++fr) s1 H1) _ s8 σ6 H8 (.ref D) [v8] (.ref D) [y] (λ_ H9=>H9=upd H8 D (.lst (ys++[v8]))) I8 rfl (.cons r8 .nil) ⟨D,ys,v8,rfl,rfl,e8,z8,rfl⟩) λ_ s9 ⟨_,H9,I9,_,e9⟩=>?_))
   subst e9
   exact wpAny_pure (wpAny_pure ⟨rfl,back I9 hm w8 (anew I9)⟩)
end
end L2
namespace L2
open PySem PySem.Spec PyProof.Rows
section
variable{X:Cx}{elt iter tg:Expr}{ifs:List Expr}{scope:Scope}{cl:List (Str×Addr)}{own fr:List Str}{js:List Nat}{wi:TI}{g:TG}{tc:TT}{te:TE}{pos:Pos}
def tComp(wi:TI)(own:List Str)(js:List Nat)(g:TG)(tc:TT)(te:TE):TE:=fun σ H Q=>wi σ H λJ H1=>∀D,H1 D=none->CompW J D (blk own js σ) g tc te H1 λH2=>Q (.ref D) H2
theorem tE(c:CompOk X scope cl own fr js)(hi:PI X tg iter wi)(hg:∀C fp s H,PG (X.comp scope cl C fp (own++fr) s H) tg g)(hc:∀C fp s H,PTs (X.comp scope cl C fp (own++fr) s H) ifs tc)
  (he:∀C fp s H,PE (X.comp scope cl C fp (own++fr) s H) elt te) (hs:∀x,foldedSetIterable iter X.env x=pure x:=by intro _;rfl) :
  PE X (.ListComp elt [⟨tg,iter,ifs,0⟩] scope pos) (tComp wi own js g tc te):=by
 intro pins s σ H Q I h
 rw[eval_ListComp]
 refine wpAny_comprehension_free (use:=none) rfl hs c.clos c.kind c.names (thn (hi pins s σ H _ I h) λv s1 h1=>thn h1 λitv s2 h2=>?_)
 obtain⟨it,fp,tn,J,H2,rfl,I2,T,st2,f2,q⟩:=h2
 refine wpAny_newObj_type (wpAny_newFunctionEnv c.nocell (by intro y hy;simp at hy) (λh₁ hns₁ hsb₁=>?_) c.kind)
 dsimp only at hns₁ hsb₁ ⊢
 generalize hH2:s2.heap.push { cls:=.type "list",dict:=none,data:=.seq ([]:List Value).toArray }=hp at hns₁ hsb₁ ⊢
 have hC:hp.objs.size=s2.heap.objs.size+1:=by rw[←hH2,Heap.size_push]
 have hDC:s2.heap.objs.size≠hp.objs.size:=by rw[hC];exact zW (qY _)
 have hCle:s2.heap.objs.size<=hp.objs.size:=by rw[hC];exact yZ _
 have old:∀b o,s2.heap.get? b=some o->h₁.get? b=some o:=λb o e=>hsb₁.extBut b o (by rw[hC];exact zW (y7 (Heap.lt_size e))) (Heap.get?_push_of_some _ (hH2▸Heap.get?_push_of_some _ e))
 have hl:h₁.get? s2.heap.objs.size=some { cls:=.type "list",data:=.seq #[] }:=hsb₁.extBut _ _ hDC (Heap.get?_push_of_some _ (hH2▸Heap.get?_push_size _ rfl))
 have loop:∀t',codeAny (model X.prog X.w) X.A (.compLoop (.ListComp elt [⟨tg,iter,ifs,0⟩] scope pos) 0 (.ref it) (.ref s2.heap.objs.size) (compEnvC scope cl hp.objs.size X.env))
   (compPost (model X.prog X.w) X.A X.xe none (EP X pins σ Q) (.ref s2.heap.objs.size) hp.objs.size) { s2 with heap:=h₁,toks:=t' }:=λt' =>
  xr c I2 T st2 f2 (hg _ _ _ _) (hc _ _ _ _) (he _ _ _ _) old hCle (zH _) hDC hns₁ hl (q _ (I2.hok.fresh (zH _))) λH' s' m' I' hn' hCn qn=>by
   refine⟨m',hn',λh'' hs''=>⟨.ref s2.heap.objs.size,H',?_,rfl,qn⟩⟩
   obtain⟨f0,f1,_,f3,f4,f5⟩:=I2.fpOk hCle hCn
   exact I'.turned (t':=s'.toks) (λb o hb e=>hs''.extBut b o hb e) f0 f1 f3 f4 f5
 have st1:tn 0 h₁:=T.keep _ _ _ st2 λb _ o e=>old b o e
 exact codeAny_compStart_list (loop _) (T.self _ 0 _ _ _ st1 (loop _))
theorem ue{i:Nat}{y:Str}{py spos:Pos}(hN:X.N.Nodup)(hiy:X.N[i]?=some y)(hx:Loc X.env.scope y)
  (hsw:swapsWith (.ListComp elt [⟨tg,iter,ifs,0⟩] scope pos) (some (.Name y py)) spos.line X.env=pure true)
  (c:CompOk X scope cl own fr js) (hi:PI X tg iter wi) (hg:∀C fp s H,PG (X.comp scope cl C fp (own++fr) s H) tg g) (hc:∀C fp s H,PTs (X.comp scope cl C fp (own++fr) s H) ifs tc)
  (he:∀C fp s H,PE (X.comp scope cl C fp (own++fr) s H) elt te) (hs:∀x,foldedSetIterable iter X.env x=pure x:=by intro _;rfl)
  (hfn:X.fn y=true\/X.env.scope.names.lookup y=some .local:=by first|exact .inl rfl|exact .inr rfl|assumption) :
  PS X (.Assign [.Name y py] (.ListComp elt [⟨tg,iter,ifs,0⟩] scope pos) spos) (tAsg (tComp wi own js g tc te) (gName i)):=by
 intro pins s σ H D I h
 rw[exec_Assign_Name_used _ _ _ _ hsw]
 refine wpAny_bind (wpAny_standAt (wpAny_bind ?_))
 show wpAny _ X.A (do let _ ←comprehension (.ListComp elt [⟨tg,iter,ifs,0⟩] scope pos) scope X.env _ (newList []) false (eval iter X.env) (some (assign (.Name y py) X.env))) _ _ s
 refine wpAny_bind (wpAny_mono (wpAny_comprehension_free (use:=some (assign (.Name y py) X.env)) (Q:=λ_ s'=>SP X pins D .next s') rfl hs c.clos c.kind c.names
  (thn (hi pins s σ H _ I h) λv s1 h1=>thn h1 λitv s2 h2=>?_)) (λ_ s' hq=>wpAny_pure (wpAny_pure hq)) λ_ _ e=>e)
 obtain⟨it,fp,tn,J,H2,rfl,I2,T,st2,f2,q⟩:=h2
 refine wpAny_newObj_type (wpAny_newFunctionEnv c.nocell (by intro y hy;simp at hy) (λh₁ hns₁ hsb₁=>?_) c.kind)
 dsimp only at hns₁ hsb₁ ⊢
 generalize hH2:s2.heap.push { cls:=.type "list",dict:=none,data:=.seq ([]:List Value).toArray }=hp at hns₁ hsb₁ ⊢
 have hC:hp.objs.size=s2.heap.objs.size+1:=by rw[←hH2,Heap.size_push]
 have hDC:s2.heap.objs.size≠hp.objs.size:=by rw[hC];exact zW (qY _)
 have hCle:s2.heap.objs.size<=hp.objs.size:=by rw[hC];exact yZ _
 have old:∀b o,s2.heap.get? b=some o->h₁.get? b=some o:=λb o e=>hsb₁.extBut b o (by rw[hC];exact zW (y7 (Heap.lt_size e))) (Heap.get?_push_of_some _ (hH2▸Heap.get?_push_of_some _ e))
 have hl:h₁.get? s2.heap.objs.size=some { cls:=.type "list",data:=.seq #[] }:=hsb₁.extBut _ _ hDC (Heap.get?_push_of_some _ (hH2▸Heap.get?_push_size _ rfl))
 have loop:∀t',codeAny (model X.prog X.w) X.A (.compLoop (.ListComp elt [⟨tg,iter,ifs,0⟩] scope pos) 0 (.ref it) (.ref s2.heap.objs.size) (compEnvC scope cl hp.objs.size X.env))
   (compPost (model X.prog X.w) X.A X.xe (some (assign (.Name y py) X.env)) (λ_ s'=>SP X pins D .next s') (.ref s2.heap.objs.size) hp.objs.size) { s2 with heap:=h₁,toks:=t' }:=λt' =>
  xr c I2 T st2 f2 (hg _ _ _ _) (hc _ _ _ _) (he _ _ _ _) old hCle (zH _) hDC hns₁ hl (q _ (I2.hok.fresh (zH _))) λH' s' m' I' hn' hCn qn=>by
   obtain⟨f0,f1,f2',f3,f4,f5⟩:=I2.fpOk hCle hCn
   obtain⟨oC,es,ep,eC,dC,rC⟩:=id hn'
   have I'':Inv X (pins++[(hp.objs.size,oC)]) σ H' s':=I'.pins_of λp hpp=>(yA.mp hpp).elim (λz=>I'.pin p (zO _ z)) λz=>by
    rw[zG]at z
    subst z
    exact⟨eC,f0,f1,f2',λv z=>by rw[dC]at z;cases z⟩
   show wpAny _ X.A (assign (.Name y py) X.env (.ref s2.heap.objs.size)) _ _ s'
   refine thn (sH (i:=i) hN hiy hx hfn _ s' σ H' (.ref s2.heap.objs.size) (.ref s2.heap.objs.size) _ I'' rfl qn) λ_ s7 ⟨σ7,H7,I7,q7⟩=>?_
   have p7:=I7.pin (hp.objs.size,oC) (zO _ (zO _ (yQ _)))
   refine⟨m',⟨oC,es,ep,p7.1,dC,rC⟩,λh'' hs''=>⟨σ7,H7,?_,q7⟩⟩
   exact I7.unpinned.turned (t':=s7.toks) (λb o hb e=>hs''.extBut b o hb e) p7.2.1 f1 f3 f4 f5
 have st1:tn 0 h₁:=T.keep _ _ _ st2 λb _ o e=>old b o e
 exact codeAny_compStart_list (loop _) (T.self _ 0 _ _ _ st1 (loop _))
end
section
variable{g:TG}{tc:TT}{te:TE}{D:Addr}{σ0:St}{H1:Hp}{Q:Hp->Prop}
theorem s0{K:PySem.W.Frag}{a:Addr}{xs:List V}(Pv:Nat->Hp->Prop)(h0:Pv 0 (upd H1 D (.lst [])))(hl:∀i H,i<=xs.length->Pv i H->SqL K H a xs)
  (hs:∀i x H (m:Nat) (W:Nat->Nat->Hp->Prop),xs[i]?=some x->Pv i H->(∀H',Pv (i+1) H'->∃m',m'<m/\W (i+1) m' H')->g x σ0 H fun σ2 H2=>tc σ2 H2 λb H3 =>
   if b=true then te σ2 H3 λy H4=>∃ys,H4 D=some (.lst ys)/\ys.length<sizeLine/\∃m',m'<m/\W (i+1) m' (upd H4 D (.lst (ys++[y])))else ∃m',m'<m/\W (i+1) m' H3)
  (hd:∀H,Pv xs.length H->Q H):CompW (Itl K a) D σ0 g tc te H1 Q:=by
 refine⟨λi m H=>m=xs.length-i/\i<=xs.length/\Pv i H,⟨xs.length,by simp,zV _,h0⟩,?_⟩
 rintro i m H ⟨rfl,hi,p⟩
 have q:=hl i H hi p
 by_cases hlt:i<xs.length
 ·refine .inr ⟨⟨xs,xs[i],q,by simp [hlt]⟩,λx H' y=>?_⟩
  obtain⟨e,y⟩:=y
  subst e
  exact hs i x _ (xs.length-i) (λi m H=>m=xs.length-i/\i<=xs.length/\Pv i H) (y xs q) p λH' p'=>⟨xs.length-(i+1),by omega,rfl,hlt,p'⟩
 ·have e:i=xs.length:=by omega
  subst e
  exact .inl ⟨⟨xs,q,zH _⟩,hd H p⟩
theorem u3{K:PySem.W.Frag}{a:Addr}{xs:List V}(Pv:Nat->Hp->Prop)(h0:Pv 0 (upd H1 D (.lst [])))(hl:∀i H,i<=xs.length->Pv i H->SqT K H a xs)
  (hs:∀i x H (m:Nat) (W:Nat->Nat->Hp->Prop),xs[i]?=some x->Pv i H->(∀H',Pv (i+1) H'->∃m',m'<m/\W (i+1) m' H')->g x σ0 H fun σ2 H2=>tc σ2 H2 λb H3 =>
   if b=true then te σ2 H3 λy H4=>∃ys,H4 D=some (.lst ys)/\ys.length<sizeLine/\∃m',m'<m/\W (i+1) m' (upd H4 D (.lst (ys++[y])))else ∃m',m'<m/\W (i+1) m' H3)
  (hd:∀H,Pv xs.length H->Q H):CompW (Itt K a) D σ0 g tc te H1 Q:=by
 refine⟨λi m H=>m=xs.length-i/\i<=xs.length/\Pv i H,⟨xs.length,by simp,zV _,h0⟩,?_⟩
 rintro i m H ⟨rfl,hi,p⟩
 have q:=hl i H hi p
 by_cases hlt:i<xs.length
 ·refine .inr ⟨⟨xs,xs[i],q,by simp [hlt]⟩,λx H' y=>?_⟩
  obtain⟨e,y⟩:=y
  subst e
  exact hs i x _ (xs.length-i) (λi m H=>m=xs.length-i/\i<=xs.length/\Pv i H) (y xs q) p λH' p'=>⟨xs.length-(i+1),by omega,rfl,hlt,p'⟩
 ·have e:i=xs.length:=by omega
  subst e
  exact .inl ⟨⟨xs,q,zH _⟩,hd H p⟩
theorem t9{lo:Int}{n:Nat}(Pv:Nat->Hp->Prop)(h0:Pv 0 (upd H1 D (.lst [])))
  (hs:∀i H (m:Nat) (W:Nat->Nat->Hp->Prop),i<n->Pv i H->(∀H',Pv (i+1) H'->∃m',m'<m/\W (i+1) m' H')->g (.int (lo+i)) σ0 H fun σ2 H2=>tc σ2 H2 λb H3 =>
   if b=true then te σ2 H3 λy H4=>∃ys,H4 D=some (.lst ys)/\ys.length<sizeLine/\∃m',m'<m/\W (i+1) m' (upd H4 D (.lst (ys++[y])))else ∃m',m'<m/\W (i+1) m' H3)
  (hd:∀H,Pv n H->Q H):CompW (Itr lo n) D σ0 g tc te H1 Q:=by
 refine⟨λi m H=>m=n-i/\i<=n/\Pv i H,⟨n,by simp,zV _,h0⟩,?_⟩
 rintro i m H ⟨rfl,hi,p⟩
 by_cases hlt:i<n
 ·refine .inr ⟨hlt,λx H' y=>?_⟩
  obtain⟨e,y⟩:=y
  subst e y
  exact hs i _ (n-i) (λi m H=>m=n-i/\i<=n/\Pv i H) hlt p λH' p'=>⟨n-(i+1),by omega,rfl,hlt,p'⟩
 ·have e:i=n:=by omega
  subst e
  exact .inl ⟨zH _,hd H p⟩
end
end L2
namespace L2
open PySem PySem.Spec PyProof.Rows
theorem xH:bootBuiltins "enumerate"=some (.type "enumerate"):=by decide +kernel
theorem CC:bootBuiltins "range"=some (.type "range"):=by decide +kernel
def Ite(K:PySem.W.Frag)(a:Addr):It :=
 ⟨λi H=>∃xs x,SqL K H a xs/\xs[i]?=some x,λi H x H'=>∃p v,x=.ref p/\H p=none/\(∀xs,SqL K H a xs->xs[i]?=some v)/\H'=upd H p (.tup [.int i,v]),λi H=>∃xs,SqL K H a xs/\xs.length<=i⟩
theorem Bk{P:Program}{w:World}{K:PySem.W.Frag}{elts:List Expr}{x1:Nat}{tpos:Pos}(a e it:Addr)(hne:e≠it) :
  Turn P w K (.Tuple elts x1 tpos) (Ite K a) [e,it] e (λi h=>∃old,IsEnum h e it i old/\h.IsListIter it a i) where
 mem:=by simp
 obj:=λi h st b hb=>by
  obtain⟨old,h1,h2⟩:=st
  rcases zR.mp hb with r|r
  ·subst r
   exact⟨_,h1,λv z=>by cases z⟩
  ·have r:=zG.mp r
   subst r
   obtain⟨o,e2,c,d⟩:=h2
   exact⟨o,e2,λv z=>by rw[d]at z;cases z⟩
 keep:=λi h h' st k=>by
  obtain⟨old,h1,h2⟩:=st
  exact⟨old,k e (by simp) _ h1,h2.at λo q=>k it (by simp) o q⟩
 item:=by
  intro X hP hw hK hc i pins s σ H E I hf st hg
  subst hP hw hK
  obtain⟨xs,x,hq,hx⟩:=hg
  obtain⟨its,rv,p,hz⟩:=I.list hq
  obtain⟨u,hu,ru⟩:=rv.get hx
  obtain⟨old,h1,h2⟩:=st
  have fe:=hf e (by simp)
  have fi:=hf it (by simp)
  refine wpAny_pyNext_enum_item h1 h2 p.isList (x:=u) (by simpa using hu) hne λh' out it' tup sz k=>?_
  refine⟨_,rfl,wpAny_letOwnedTupleGo_enum out λh'' en sb=>?_⟩
  have np:H s.heap.objs.size=none:=I.hok.fresh (zH _)
  have lt:∀{b:Addr}{o:Obj},s.heap.get? b=some o->b≠s.heap.objs.size:=λq=>zW (Heap.lt_size q)
  have kk:∀b o,b≠e->b≠it->s.heap.get? b=some o->h''.get? b=some o:=λb o n1 n2 q=>sb.extBut b o n1 (k b o n1 n2 q)
  have pe:s.heap.objs.size≠e:=Ne.symm (lt h1)
  have pit:s.heap.objs.size≠it:=by
   obtain⟨o,e2,_⟩:=h2
   exact Ne.symm (lt e2)
  have tup2:h''.get? s.heap.objs.size=some { cls:=.type "tuple",data:=.seq #[.int i s.toks,u] }:=sb.extBut _ _ pe tup
  have it2:h''.IsListIter it a (i+1):=it'.at λo q=>sb.extBut it o (Ne.symm hne) q
  have nch:∀{b:Addr},b∉[e,it]->b≠e/\b≠it:=λhb=>⟨λz=>hb (by simp [z]),λz=>hb (by simp [z])⟩
  have trk:∀{b:Addr}{o:HO},H b=some o->b≠e/\b≠it:=λq=>⟨λz=>(by rw[z,fe.1]at q;cases q),λz=>(by rw[z,fi.1]at q;cases q)⟩
  have I1:Inv X pins σ (upd H s.heap.objs.size (.tup [.int i,x])) { s with heap:=h'',toks:=s.toks+1 }:=by
   refine I.step (g':=s.gens) (d':=s.drawn) (ch:=[e,it]) (λb hb=>?_) (λb o _ _ hcc q _=>kk b o (nch hcc).1 (nch hcc).2 q) (λb o _ _ hcc q _=>⟨o.slots,kk b o (nch hcc).1 (nch hcc).2 q⟩)
    (λb o _ q n=>by rw[sD (lt q)];exact n) (λb o hcc q=>⟨o,kk b o (nch hcc).1 (nch hcc).2 q⟩) (λb ys q=>by rw[sD (sC q np)];exact q) (λb o y q=>by rw[sD (sC q np)];exact q)
    (λb ps q=>⟨#[],by rw[sD (sC q np),q];simp⟩) (λm hm=>?_) (λb o q=>?_) I.bare
   ·rcases zR.mp hb with r|r
    ·rw[r];exact⟨fe.2.2.2.1,fe.2.1,fe.2.2.2.2.1,fe.2.2.2.2.2⟩
    ·rw[zG.mp r];exact⟨fi.2.2.2.1,fi.2.1,fi.2.2.2.2.1,fi.2.2.2.2.2⟩
   ·obtain⟨o,es,ep,ho,r⟩:=hm
    exact⟨o,es,ep,kk _ o (Ne.symm fe.2.1) (Ne.symm fi.2.1) ho,r⟩
   ·by_cases hb:b=s.heap.objs.size
    ·subst hb
     rw[ss]at q
     cases q
     exact⟨(by show 2<=sizeLine;decide),[.int i s.toks,u],.cons ⟨_,rfl⟩ (.cons ru .nil),⟨_,tup2,rfl,_,rfl⟩⟩
    ·rw[sD hb]at q
     refine(I.hok b o q).stay (λc v hcc z=>?_) (λc z=>by rw[sD (sC z np)];exact z) λc ys z=>by rw[sD (sC z np)];exact z
     rcases hcc with r|r
     ·rw[r]at z ⊢;exact kk _ _ (trk q).1 (trk q).2 z
     ·exact kk _ _ (trk r).1 (trk r).2 z
  have en2:IsEnum h'' e it ((i+1:Nat):Int) u:=en
  refine⟨.ref s.heap.objs.size,_,I1,rfl,⟨_,x,rfl,np,λys hy=>by rw[I.list_inj hy hq];exact hx,rfl⟩,⟨u,en2,it2⟩,λb hb=>?_⟩
  rcases zR.mp hb with r|r
  ·rw[r,sD pe.symm];exact fe.1
  ·rw[zG.mp r,sD pit.symm];exact fi.1
 done:=by
  intro X hP hw hK hc i pins s σ H E I hf st hg
  subst hP hw hK
  obtain⟨xs,hq,hx⟩:=hg
  obtain⟨its,rv,p,hz⟩:=I.list hq
  obtain⟨old,h1,h2⟩:=st
  obtain⟨f0,f1,f2,f3,f4,f5⟩:=hf it (by simp)
  have hl:=rv.length
  exact wpAny_pyNext_enum_end (I.ok.hd hc) h1 h2 p.isList (by simp;omega) λh' eb=>⟨rfl,I.turned (t':=s.toks) (λb o hb q=>eb b o hb q) f0 f1 f3 f4 f5⟩
 self:=λ_ _ _ _ _ st h=>by
  obtain⟨old,h1,_⟩:=st
  exact wpAny_pyIter_enum h1 h
section
variable{X:Cx}
inductive iEnum_(K:PySem.W.Frag)(R:It->Hp->Prop)(vs:List V)(H1:Hp):Prop where
 | mk (a:_) (h_0:vs=[.ref a]) (h_1:(∃xs,SqL K H1 a xs)) (h_2:R (Ite K a) H1):iEnum_ K R vs H1
def iEnum(K:PySem.W.Frag)(ta:TA):TI:=fun σ H R=>ta σ H λvs H1=>iEnum_ K R vs H1
theorem AN{l:Expr}{ta:TA}{p pos:Pos}{elts:List Expr}{x1:Nat}{tpos:Pos}(hg:Gl X "enumerate")(hm:X.mg "enumerate"=none)(ha:PA X [l] ta)(hs:starEach [l] X.env=[(false,eval l X.env)]:=by rfl) :
  PI X (.Tuple elts x1 tpos) (.Call (.Name "enumerate" p) [l] [] pos) (iEnum X.K ta):=by
 intro pins s σ H R I h
 refine Call_ (uJ I hg hm xH (PyProof.Rows.callWith_type1 (thn (ha pos pins s σ H _ I h) λus s1 ⟨vs,H1,I1,r1,q1⟩=>?_) hs rfl))
 obtain⟨a,rfl,⟨xs,hq⟩,q⟩:=q1
 obtain⟨u,rfl,ru⟩:=vj r1
 cases ru
 obtain⟨its,rv,pl,hz⟩:=I1.list hq
 refine call_enumerate_list pl.isList λh' en it sz k=>?_
 refine wpAny_pyIter_enum en ?_
 have I2:Inv X pins σ H1 { s1 with heap:=h' }:=I1.kept (t':=s1.toks) k
 refine⟨s1.heap.objs.size+1,[s1.heap.objs.size+1,s1.heap.objs.size],_,_,H1,rfl,I2,Bk a _ _ (j7 _),⟨_,en,it⟩,λb hb=>?_,q⟩
 rcases zR.mp hb with r|r
 ·rw[r];exact I1.fpOk (yZ _) (I1.hok.fresh (yZ _))
 ·rw[zG.mp r];exact I1.fpOk (zH _) (I1.hok.fresh (zH _))
theorem xm{K:PySem.W.Frag}{a:Addr}{xs:List V}{g:TG}{tc:TT}{te:TE}{D:Addr}{σ0:St}{H1:Hp}{Q:Hp->Prop}(Pv:Nat->Hp->Prop)(h0:Pv 0 (upd H1 D (.lst [])))(hl:∀i H,i<=xs.length->Pv i H->SqL K H a xs)
  (hs:∀i x H (m:Nat) (W:Nat->Nat->Hp->Prop),xs[i]?=some x->Pv i H->(∀H',Pv (i+1) H'->∃m',m'<m/\W (i+1) m' H')->∀p,H p=none->g (.ref p) σ0 (upd H p (.tup [.int i,x])) fun σ2 H2=>tc σ2 H2 λb H3 =>
   if b=true then te σ2 H3 λy H4=>∃ys,H4 D=some (.lst ys)/\ys.length<sizeLine/\∃m',m'<m/\W (i+1) m' (upd H4 D (.lst (ys++[y])))else ∃m',m'<m/\W (i+1) m' H3)
  (hd:∀H,Pv xs.length H->Q H):CompW (Ite K a) D σ0 g tc te H1 Q:=by
 refine⟨λi m H=>m=xs.length-i/\i<=xs.length/\Pv i H,⟨xs.length,by simp,zV _,h0⟩,?_⟩
 rintro i m H ⟨rfl,hi,p⟩
 have q:=hl i H hi p
 by_cases hlt:i<xs.length
 ·refine .inr ⟨⟨xs,xs[i],q,by simp [hlt]⟩,λx H' y=>?_⟩
  obtain⟨pp,v,rfl,np,hx,rfl⟩:=y
  exact hs i v _ (xs.length-i) (λi m H=>m=xs.length-i/\i<=xs.length/\Pv i H) (hx xs q) p (λH' p'=>⟨xs.length-(i+1),by omega,rfl,hlt,p'⟩) pp np
 ·have e:i=xs.length:=by omega
  subst e
  exact .inl ⟨⟨xs,q,zH _⟩,hd H p⟩
mutual
theorem Dt.can{K:PySem.W.Frag}{H:Hp}:∀{n:Nat}{x:V}{d:PyData},Dt K H n x d->d.canLay0=true
 | _,_,_,.non _=>rfl
 | _,_,_,.bl _ _=>rfl
 | _,_,_,.int _ _=>rfl
 | _,_,_,.str _ _ h=>h
 | _,_,_,.lst _ r=>by rw[PyData.canLay0];exact DtAll.can r
 | _,_,_,.tup _ r=>by rw[PyData.canLay0];exact DtAll.can r
theorem DtAll.can{K:PySem.W.Frag}{H:Hp}:∀{n:Nat}{xs:List V}{ds:List PyData},DtAll K H n xs ds->PyData.canLayAll0 ds=true
 | _,_,_,.nil _=>rfl
 | _,_,_,.cons h r=>by rw[PyData.canLayAll0,Dt.can h,DtAll.can r];rfl
end
theorem DtAll.of{K:PySem.W.Frag}{H:Hp}{α:Type}{n:Nat}{f:α->PyData}{P:V->α->Prop}(h:∀x a,P x a->Dt K H n x (f a)):∀{xs:List V}{as:List α},Paired P xs as->DtAll K H n xs (as.map f)
 | _,_,.nil=>.nil n
 | _,_,.cons p r=>.cons (h _ _ p) (DtAll.of h r)
theorem xc(hc:X.calm=true):CallR X (.builtin "any") (λxs H Q=>∃(p:Addr)(bs:List Bool),xs=[.ref p]/\SqL X.K H p (bs.map V.bl)/\Q (.bl (bs.any id)) H):=by
 intro pins s σ H xs us Q I r h
 obtain⟨p,bs,rfl,hq,q⟩:=h
 obtain⟨u,rfl,ru⟩:=vj r
 cases ru
 obtain⟨its,rv,pl,hz⟩:=I.list hq
 have hl:=rv.length
 rw[zC]at hl
 have lt:p<s.heap.objs.size:=by obtain⟨o,e,_⟩:=pl.isList;exact Heap.lt_size e
 refine call_any_walk (wpAny_pyIter_list pl.isList ?_)
 refine⟨_,_,_,_,_,_,λi=>bs.getD i false,rfl,Walks.list (A:=X.A.in1) (I.ok.hd hc) s.heap.objs.size p (zW lt) its.toArray,⟨⟨_,Heap.get?_push_size _ rfl,rfl,rfl⟩,pl.isList.push _⟩,?_,λh' tk k=>?_⟩
 ·intro i v s' Q' E' hP hQ
  have hi:its[i]?=some v:=by simpa using hP
  have hil:i<bs.length:=by have:=(zD.mp hi).1;omega
  obtain⟨u,hu,ru⟩:=rv.get (i:=i) (x:=V.bl bs[i]) (by rw[zF,zB hil];rfl)
  rw[hi]at hu
  cases hu
  cases (show v=Value.bool bs[i]from ru)
  refine wpAny_truthy_bool ?_
  have e:bs.getD i false=bs[i]:=by rw[zA,zB hil];rfl
  rw[←e]
  exact hQ
 ·refine⟨.bl _,H,I.kept (t':=tk) λb o e=>k b o (λz=>?_) (Heap.get?_push_of_some _ e),rfl,?_⟩
  ·rw[zG.mp z]at e
   exact absurd (Heap.lt_size e) (qP _)
  ·have e:(List.range its.toArray.size).any (λi=>bs.getD i false)=bs.any id:=by
    rw[zT,←hl]
    clear q hq hl rv hz
    induction bs with
    | nil=>rfl
    | cons b bs ih=>rw[zX,k6,qQ,jU,qQ];exact congrArg (b||·) ih
   show Q (.bl _) H
   rw[e]
   exact q
inductive tRng_(Q:VK)(vs:List V)(H1:Hp):Prop where
 | mk (j:Int) (h_0:vs=[.int j]) (h_1:∀r,H1 r=none->Q (.ref r) (upd H1 r (.rng 0 j))):tRng_ Q vs H1
def tRng(ta:TA):TE:=fun σ H Q=>ta σ H λvs H1=>tRng_ Q vs H1
theorem Bs{a:Expr}{ta:TA}{p pos:Pos}(hg:Gl X "range")(hm:X.mg "range"=none)(ha:PA X [a] ta)(hs:starEach [a] X.env=[(false,eval a X.env)]:=by rfl):PE X (.Call (.Name "range" p) [a] [] pos) (tRng ta):=by
 intro pins s σ H Q I h
 refine Call_ (uJ I hg hm CC (PyProof.Rows.callWith_type1 (thn (ha pos pins s σ H _ I h) λus s1 ⟨vs,H1,I1,r1,q1⟩=>?_) hs rfl))
 obtain⟨j,rfl,q⟩:=q1
 obtain⟨u,rfl,t,rfl⟩:=vj r1
 refine call_range_1 ?_
 exact⟨.ref _,_,I1.laid (o:=.rng 0 j) (λb o e=>Heap.get?_push_of_some _ e) (zH _) ⟨_,_,_,Heap.get?_push_size _ rfl⟩,rfl,q _ (I1.hok.fresh (zH _))⟩
theorem w4(hc:X.calm=true):CallR X (.type "list") (λxs H Q=>∃r n,xs=[.ref r]/\H r=some (.rng 0 ((n:Nat):Int))/\n<=1000/\∀l,H l=none->Q (.ref l) (upd H l (.lst ((List.range n).map λ(i:Nat)=>V.int (i:Int))))):=by
 intro pins s σ H xs us Q I r h
 obtain⟨p,n,rfl,hq,hn,q⟩:=h
 obtain⟨u,rfl,ru⟩:=vj r
 cases ru
 obtain⟨t,u,v,e⟩:=I.hok p _ hq
 refine call_list_range (I.ok.hd hc) e (small_one (by decide) (by decide) (by omega) (by omega)) (n:=n) (by rw[rangeSize_one];split <;>omega) (by omega) λh' tk acc c k e' it=>?_
 refine⟨.ref _,_,I.laid (t':=tk) (o:=.lst ((List.range n).map λ(i:Nat)=>V.int (i:Int))) k (zH _) ?_,rfl,q _ (I.hok.fresh (zH _))⟩
 refine⟨by rw[zC,yC];exact yY (sG hn),acc.toList,c,?_,by simpa using e'⟩
 obtain⟨hsz,hit⟩:=it
 have gen:∀(l:List Value)(k:Nat),(∀j v,l[j]?=some v->∃t,v=Value.int ((k+j:Nat):Int) t)->Vals ((List.range' k l.length).map λ(i:Nat)=>V.int (i:Int)) l:=by
  intro l
  induction l with
  | nil=>intro k _;exact .nil
  | cons v l ih =>
   intro k hv
   rw[zX,List.range'_succ]
   refine .cons ?_ (ih (k+1) λj v hj=>?_)
   ·obtain⟨t,e⟩:=hv 0 v rfl
    exact⟨t,by simpa using e⟩
   ·obtain⟨t,e⟩:=hv (j+1) v (by simpa using hj)
    exact⟨t,by rw[e];congr 1;omega⟩
 have g:=gen acc.toList 0 λj v hj=>by
  obtain⟨t,e⟩:=hit j v (by simpa using hj)
  exact⟨t,by rw[e];congr 1;omega⟩
 rw[show acc.toList.length=n by simpa using hsz,←List.range_eq_range']at g
 exact g
end
end L2
namespace L2
open PySem PySem.Spec PyProof.Rows
section
variable{X:Cx}{K:PySem.W.Frag}{a b e o l:Expr}{es:List Expr}{ta tb te to tl:TE}{t:TA}{pos:Pos}
theorem sA(hK:X.K=K):IxR X (rIxT K):=by subst hK;exact FP
theorem sO(hK:X.K=K):IxR X (rIxL K):=by subst hK;exact Dz
theorem sQ{f:Str}(hK:X.K=K)(he:PE X e ta)(hb:attributeBase e f X.env (eval e X.env)=eval e X.env):PE X (.Attribute e f pos) (tFld K ta f):=by subst hK;exact Fn he hb
theorem sY{tg:Expr}(hK:X.K=K)(hl:PE X l tl):PI X tg l (iList K tl):=by subst hK;exact El hl
theorem uA{tg:Expr}(hK:X.K=K)(hl:PE X l tl):PI X tg l (iTup K tl):=by subst hK;exact Fm hl
theorem Ad{lo hi st:Option Expr}{tl th ts:TO}{p2:Pos}(hK:X.K=K)(he:PE X e te)(hl:PO X lo tl)(hu:PO X hi th)(hk:PO X st ts)
  (hsub:∀o i,∃ops,subscripted (.Slice lo hi st p2) false o i=operate ops (getItem o i):=by intro _ _;exact⟨_,by with_unfolding_all rfl⟩) :
  PE X (.Subscript e (.Slice lo hi st p2) pos) (tSl3 K te tl th ts):=by subst hK;exact BG he hl hu hk hsub
theorem sM(hK:X.K=K):CallR X (.builtin "len") (λxs H Q=>∃p ys,xs=[.ref p]/\(SqL K H p ys\/SqT K H p ys)/\Q (.int ys.length) H):=by subst hK;exact xK
theorem vq(hK:X.K=K):CallR X (.builtin "isinstance") (rIsiT K):=by subst hK;exact BJ
theorem w9(hK:X.K=K):CallR X (.type "list") (λxs H Q=>∃p ys,xs=[.ref p]/\(SqL K H p ys\/SqT K H p ys)/\∀l,H l=none->Q (.ref l) (upd H l (.lst ys))):=by subst hK;exact xD
theorem DE(hK:X.K=K)(hu:X.A.units+64<cLine):OpR X (compareOp .Eq) (rEqD K):=by subst hK;exact Ff hu
theorem xP(hK:X.K=K)(hu:X.A.units+64<cLine):OpR X (compareOp .NotEq) (rNeD K):=by subst hK;exact EZ hu
theorem An(hK:X.K=K):OpR X (compareOp .In) (rIn K false):=by subst hK;exact Bx
theorem AT{k:Nat}{t:TGs}{n:Nat}(hK:X.K=K)(hc:X.calm=true)(h:PGs X es t)
  (hn:(assignEach es X.env).length=n:=by rfl) (hst:(assignEach es X.env).findIdx? (·.1)=none:=by rfl):PG X (.Tuple es k pos) (gTup K n t):=by subst hK;exact Cy hc h hn hst
end
end L2
namespace L2
open PySem PySem.Spec PyProof.Rows
abbrev Cell:=Addr×HO
def Hs(H:Hp)(M:List Cell):Prop:=(M.map Prod.fst).Nodup/\∀p∈M,H p.1=some p.2
def Hc(H:Hp)(Ms:List (List Cell)):Prop:=Hs H Ms.flatten
theorem Hs.perm{H:Hp}{M N:List Cell}(h:Hs H M)(p:M.Perm N):Hs H N :=
 ⟨(p.map Prod.fst).nodup_iff.mp h.1,λc hc=>h.2 c (p.mem_iff.mpr hc)⟩
theorem Hs.sub{H:Hp}{M N:List Cell}(h:Hs H M)(s:List.Sublist N M):Hs H N :=
 ⟨h.1.sublist (s.map Prod.fst),λc hc=>h.2 c (s.subset hc)⟩
theorem Hc.get{H:Hp}{Ms:List (List Cell)}(h:Hc H Ms)(i j:Nat){c:List Cell}{a:Addr}{o:HO}(hi:Ms[i]?=some c)(hj:c[j]?=some (a,o)):H a=some o :=
 h.2 (a,o) (jG.mpr ⟨c,zE hi,zE hj⟩)
theorem xw{α:Type}:∀{Ms:List (List α)}{i:Nat}{c:List α},Ms[i]?=some c->Ms.flatten.Perm (c++(Ms.eraseIdx i).flatten)
 | [],i,c,h=>by simp at h
 | d::Ms,0,c,h=>by simp at h;subst h;exact List.Perm.refl _
 | d::Ms,i+1,c,h=>by
  have ih:=xw (Ms:=Ms) (i:=i) (c:=c) (by simpa using h)
  rw[yD,kW,yD]
  refine(ih.append_left d).trans ?_
  rw[←z9,←z9]
  exact(jV).append_right _
theorem yv{α:Type}:∀{Ms:List (List α)}{i:Nat}{c c':List α},Ms[i]?=some c->(Ms.set i c').flatten.Perm (c'++(Ms.eraseIdx i).flatten)
 | [],i,c,c',h=>by simp at h
 | d::Ms,0,c,c',h=>List.Perm.refl _
 | d::Ms,i+1,c,c',h=>by
  have ih:=yv (Ms:=Ms) (i:=i) (c:=c) (c':=c') (by simpa using h)
  rw[List.set_cons_succ,yD,kW,yD]
  refine(ih.append_left d).trans ?_
  rw[←z9,←z9]
  exact(jV).append_right _
theorem Hc.pick{H:Hp}{Ms:List (List Cell)}(h:Hc H Ms)(i:Nat){c:List Cell}(hi:Ms[i]?=some c):Hc H (c::Ms.eraseIdx i):=Hs.perm h (xw hi)
theorem Hc.back{H:Hp}{Ms:List (List Cell)}{i:Nat}{c c':List Cell}(h:Hc H (c'::Ms.eraseIdx i))(hi:Ms[i]?=some c):Hc H (Ms.set i c'):=Hs.perm h (yv hi).symm
theorem Hc.split{H:Hp}{a b:List Cell}{Ms:List (List Cell)}(h:Hc H ((a++b)::Ms)):Hc H (a::b::Ms):=by
 unfold Hc at h ⊢
 rw[yD,yD,←z9]
 exact h
theorem Hc.join{H:Hp}{a b:List Cell}{Ms:List (List Cell)}(h:Hc H (a::b::Ms)):Hc H ((a++b)::Ms):=by
 unfold Hc at h ⊢
 rw[yD,yD,←z9]at h
 exact h
theorem Hc.swap{H:Hp}{a b:List Cell}{Ms:List (List Cell)}(h:Hc H (a::b::Ms)):Hc H (b::a::Ms):=by
 refine Hs.perm h ?_
 rw[yD,yD,yD,yD,←z9,←z9]
 exact jV.append_right _
theorem Hc.tl{H:Hp}{c:List Cell}{Ms:List (List Cell)}(h:Hc H (c::Ms)):Hc H Ms:=by
 refine Hs.sub h ?_
 rw[yD]
 exact kN _ _
theorem Hc.same{H H':Hp}{Ms:List (List Cell)}(h:Hc H Ms)(s:Same H H'):Hc H' Ms:=⟨h.1,λp hp=>s _ _ (h.2 p hp)⟩
theorem Hc.new{H:Hp}{Ms:List (List Cell)}(h:Hc H Ms){p:Addr}(n:H p=none)(o:HO):Hc (upd H p o) ([(p,o)]::Ms):=by
 have ne:∀c∈Ms.flatten,c.1≠p:=λc hc z=>by
  have e:=h.2 c hc
  rw[z,n]at e
  cases e
 refine⟨?_,λc hc=>?_⟩
 ·show((p,o)::Ms.flatten |>.map Prod.fst).Nodup
  rw[yE,qF]
  exact⟨λz=>by obtain⟨c,hc,e⟩:=yI.mp z;exact ne c hc e,h.1⟩
 ·rcases zR.mp (show c∈(p,o)::Ms.flatten from hc)with r|r
  ·rw[r];exact ss
  ·rw[sD (ne c r)];exact h.2 c r
theorem Hc.newS{H H':Hp}{Ms:List (List Cell)}(h:Hc H Ms){p:Addr}{o:HO}(n:H p=none)(e:H' p=some o)(s:Same H H'):Hc H' ([(p,o)]::Ms):=by
 have ne:∀c∈Ms.flatten,c.1≠p:=λc hc z=>by
  have e:=h.2 c hc
  rw[z,n]at e
  cases e
 refine⟨?_,λc hc=>?_⟩
 ·show((p,o)::Ms.flatten |>.map Prod.fst).Nodup
  rw[yE,qF]
  exact⟨λz=>by obtain⟨c,hc,e⟩:=yI.mp z;exact ne c hc e,h.1⟩
 ·rcases zR.mp (show c∈(p,o)::Ms.flatten from hc)with r|r
  ·rw[r];exact e
  ·exact s _ _ (h.2 c r)
theorem Hs.put{H:Hp}{A:List Cell}{a:Addr}{o o':HO}{B:List Cell}(h:Hs H (A++(a,o)::B)):Hs (upd H a o') (A++(a,o')::B):=by
 have ek:(A++(a,o')::B).map Prod.fst=(A++(a,o)::B).map Prod.fst:=by simp
 have nd:=h.1
 refine⟨by rw[ek];exact nd,λc hc=>?_⟩
 rw[zK,yE,List.nodup_append]at nd
 obtain⟨_,n2,n3⟩:=nd
 rw[qF]at n2
 rcases yA.mp hc with r|r
 ·have:c.1≠a:=n3 c.1 (yI.mpr ⟨c,r,rfl⟩) a zJ
  rw[sD this]
  exact h.2 c (qE _ r)
 ·rcases zR.mp r with r|r
  ·rw[r];exact ss
  ·have:c.1≠a:=λz=>n2.1 (z▸yI.mpr ⟨c,r,rfl⟩)
   rw[sD this]
   exact h.2 c (zO _ (zL _ r))
theorem ya{α:Type}:∀{l:List α}{j:Nat}{x:α},l[j]?=some x->∃A B,l=A++x::B/\A.length=j
 | [],j,x,h=>by simp at h
 | y::l,0,x,h=>by simp at h;subst h;exact⟨[],l,rfl,rfl⟩
 | y::l,j+1,x,h=>by
  obtain⟨A,B,e,n⟩:=ya (l:=l) (j:=j) (x:=x) (by simpa using h)
  exact⟨y::A,B,by rw[e];rfl,by rw[zX,n]⟩
theorem vK{α:Type}:∀{A B:List α}{x y:α},(A++x::B).set A.length y=A++y::B
 | [],_,_,_=>rfl
 | a::A,B,x,y=>by
  show a::(A++x::B).set A.length y=a::(A++y::B)
  rw[vK]
theorem Hc.put{H:Hp}{Ms:List (List Cell)}(h:Hc H Ms)(i j:Nat){c:List Cell}{a:Addr}{o:HO}(hi:Ms[i]?=some c)(hj:c[j]?=some (a,o))(o':HO):Hc (upd H a o') (Ms.set i (c.set j (a,o'))):=by
 obtain⟨A,B,e,n⟩:=ya hj
 subst e
 subst n
 rw[vK]
 refine Hc.back (c:=A++(a,o)::B) ?_ hi
 have h1:Hs H ((A++(a,o)::B)++(Ms.eraseIdx i).flatten):=h.pick i hi
 rw[z9,jH]at h1
 have h2:=h1.put (o':=o')
 show Hs (upd H a o') ((A++(a,o')::B)++(Ms.eraseIdx i).flatten)
 rw[z9,jH]
 exact h2
def rowsC(ls:List Addr)(os:List HO):List Cell:=ls.zip os
theorem xl{ls:List Addr}{os:List HO}{j:Nat}{l:Addr}{o:HO}(h1:ls[j]?=some l)(h2:os[j]?=some o):(rowsC ls os)[j]?=some (l,o):=by
 unfold rowsC
 rw[kP]
 exact⟨h1,h2⟩
theorem v1:∀{ls:List Addr}{os:List HO}{j:Nat}{l:Addr}{o:HO},ls[j]?=some l->(rowsC ls os).set j (l,o)=rowsC ls (os.set j o)
 | [],_,_,_,_,h=>by simp at h
 | _::_,[],_,_,_,_=>by simp [rowsC]
 | a::ls,u::os,0,l,o,h=>by simp at h;subst h;rfl
 | a::ls,u::os,j+1,l,o,h=>by
  show(a,u)::(rowsC ls os).set j (l,o)=(a,u)::rowsC ls (os.set j o)
  rw[v1 (by simpa using h)]
theorem Hc.pad{H:Hp}{Ms:List (List Cell)}(h:Hc H Ms):Hc H ([]::Ms):=h
theorem vI{α β:Type}{f:α->β}{l:List α}{j:Nat}{r r':α}(h:l[j]?=some r)(e:f r'=f r):(l.set j r').map f=l.map f:=by
 rw[jN,e]
 have:(l.map f)[j]?=some (f r):=by rw[zF,h];rfl
 obtain⟨hj,he⟩:=zD.mp this
 rw[←he]
 exact List.set_getElem_self hj
end L2
namespace L2
open PySem PySem.Spec PyProof.Rows
theorem Keep.new'{L:List Addr}{H H':Hp}{q:Addr}{o:HO}(k:Keep L H H')(n:H' q=none):Keep L H (L2.upd H' q o):=λb u e hb=>by
 have h:=k b u e hb
 rw[sD (sC h n)]
 exact h
theorem Keep.free1{H H':Hp}{p q:Addr}{u:HO}(k:Keep [p] H H')(hp:H' p=some u)(n:H' q=none):H q=none:=by
 cases e:H q with
 | none=>rfl
 | some o =>
  have:=k q o e (λz=>by rw[zG.mp z,hp]at n;cases n)
  rw[n]at this
  cases this
section
variable{X:Cx}
theorem xa(hc:X.calm=true):CallR X (.builtin "sum") (λxs H Q=>∃(p:Addr)(ns:List Int),xs=[.ref p]/\SqL X.K H p (ns.map V.int)/\Q (.int ns.sum) H):=by
 intro pins s σ H xs us Q I r h
 obtain⟨p,ns,rfl,hq,q⟩:=h
 obtain⟨u,rfl,ru⟩:=vj r
 cases ru
 obtain⟨its,rv,pl,hz⟩:=I.list hq
 have hi:=uw rv
 obtain⟨ys,e⟩:=hi.allInts.items
 have hns:ns=ys.toList.map (·.1):=by
  rw[←hi.numsOf,←nums_intItems,←e]
 have hl:=pl.isList
 rw[e]at hl
 refine sum_intListG (I.ok.hd hc) hl λh' tk t' hk=>?_
 refine⟨.int _,H,I.kept (t':=tk) hk,⟨t',?_⟩,q⟩
 rw[preSum_eq,k4 (by simp),hns]
end
end L2
namespace L2
open PySem PySem.Spec PyProof.Rows
inductive tMethU_{ι:Type}(cls:ι->Addr)(m:Str)(sp:ι->Sp)(E:XK)(t:TA)(σ:St)(Q:VK)(x:V)(H1:Hp):Prop where
 | mk (a i dx fs:_) (h_0:x=.ref a) (h_1:H1 a=some (.ins (cls i) dx fs)) (h_2:fs.lookup m=none) (h_3:t σ H1 λvs H2=>sp i (x::vs) H2 Q E):tMethU_ cls m sp E t σ Q x H1
def tMethU{ι:Type}(cls:ι->Addr)(m:Str)(sp:ι->Sp)(E:XK)(ta:TE)(t:TA):TE:=fun σ H Q=>ta σ H λx H1=>tMethU_ cls m sp E t σ Q x H1
section
variable{X:Cx}{k:Nat}{ps:List Str}{ι:Type}{cls:ι->Addr}{sp:ι->Sp}{m:Str}{pos apos:Pos}{e o:Expr}{es:List Expr}{t:TA}{ta:TE}
theorem Dq{pl:Sem Bool}(G:∀i,MethAt X.prog X.w X.K X.mg X.base k (cls i) m ps (sp i))(hr:Room k X.A)(he:PE X o ta)(ha:PA X (e::es) t)
  (hst:starEach (e::es) X.env=(false,eval e X.env)::starEach es X.env:=by rfl) (hpl:(backTo pos (starEach es X.env)).any (·.1)=false:=by rfl)
  (ht:eval (.Call (.Attribute o m apos) (e::es) [] pos) X.env=(do
   let ov ←eval o X.env
   standAt apos.atName
   let (f,first) ←holding [ov] (getMethod ov m pl)
   callWith pos f first (backTo pos (starEach (e::es) X.env)) (backToKw pos (keywordEach [] X.env))):=by rfl) :
  PE X (.Call (.Attribute o m apos) (e::es) [] pos) (tMethU cls m sp E0 ta t):=by
 intro pins s σ H Q I h
 refine PySem.W.methodCall_KW (pl:=pl) (thn (he pins s σ H _ I h) λu s1 ⟨x,H1,I1,rx,a,i,dx,fs,ex,ea,l,q⟩=>?_) ht
 obtain⟨f,fd,F,hm,hb⟩:=(G i).ex
 subst ex
 obtain rfl:u=Value.ref a:=rx
 refine wN I1 ea (G i).cls hm l ?_
 refine PySem.W.callWith_K (first:=[.ref a]) (h₀:=X.base) I.ok.mod.kin hm.kp (thn (ha pos pins s1 σ H1 _ I1 q) λus s2 ⟨vs,H2,I2,r,q2⟩=>⟨I2.kIn,?_⟩) hst hpl
 exact xZ (us:=.ref a::us) (vs:=.ref a::vs) (ds:=[]) (dvs:=[]) F hr hb .nil zk I2 (.cons rfl r) (by rw[zP];exact q2)
end
section
variable{X:Cx}{K:PySem.W.Frag}{o e:Expr}{es:List Expr}{to:TE}{t:TA}{name:Str}{apos cpos:Pos}{T id:String}{r:V->List V->Hp->VK->Prop}
theorem Fw(hK:X.K=K)(pa:PlainAttrs T)(slot:Slot T name id)(hty:typeOf (.builtin id)=pure (.type "method_descriptor"))(hm:MtR X id r)(ho:PE X o to)(ha:PA X (e::es) t)
  (hbase:attributeBase o name X.env (eval o X.env)=eval o X.env:=by rfl)
  (hfew:((backTo cpos (starEach (e::es) X.env)).all (λx=>!x.1)&&(backToKw cpos (keywordEach [] X.env)).all (λx=>x.1.isSome)
   && decide ((e::es).length+([]:List Keyword).length+(if ([]:List Keyword).isEmpty then 0 else 1)<30))=true:=by rfl)
  (hline:(apos.endLine==cpos.line)=true:=by rfl) (hs:starEach (e::es) X.env=(false,eval e X.env)::starEach es X.env:=by rfl) (hplain:(backTo cpos (starEach es X.env)).any (·.1)=false:=by rfl) :
  PE X (.Call (.Attribute o name apos) (e::es) [] cpos) (tBM K T r to t):=by
 subst hK
 exact uH pa slot hty hm ho ha hbase hfew hline hs hplain
end
theorem MethAt.imp{P:Program}{w:World}{K:PySem.W.Frag}{mg:Str->Option Value}{base:Heap}{k:Nat}{C:Addr}{m:Str}{ps:List Str}{sp sp':Sp}(G:MethAt P w K mg base k C m ps sp)(h:∀vs H Q E,sp' vs H Q E->sp vs H Q E):MethAt P w K mg base k C m ps sp':=by
 obtain⟨f,fd,F,hm,hb⟩:=G.ex
 exact⟨⟨f,fd,F.imp h,hm,hb⟩,G.cls⟩
theorem MethAt.mono{P:Program}{w:World}{K:PySem.W.Frag}{mg:Str->Option Value}{base:Heap}{j k:Nat}{C:Addr}{m:Str}{ps:List Str}{sp:Sp}(G:MethAt P w K mg base j C m ps sp)(h:j<=k):MethAt P w K mg base k C m ps sp:=by
 obtain⟨f,fd,F,hm,hb⟩:=G.ex
 exact⟨⟨f,fd,F.mono h,hm,hb⟩,G.cls⟩
end L2
namespace L2
open PySem PySem.Spec PyProof.Rows
section
variable{X:Cx}{pins:List (Addr×Obj)}{σ:St}{H:Hp}{s:Shared}{d:Addr}
end
section
variable{X:Cx}{l tg:Expr}{td:TE}{g:TG}{tb:TS}{apos cpos pos:Pos}{body:List Stmt}
end
end L2
namespace L2
open PySem PySem.Spec PyProof.Rows
structure SrtS where
 arr:Array Keyed
 kf:Nat->Int
 kd:SortKind
structure SBk(a₀:SrtS)(st:SortSt):Prop where
 perm:(arrOf st).Perm a₀.arr
 kind:kindOf st=a₀.kd
 failed:failedOf st=none
 pend:pendingOf st=#[]
theorem SBk.size{a₀:SrtS}{st:SortSt}(h:SBk a₀ st):(arrOf st).size=a₀.arr.size:=h.perm.size_eq
theorem SBk.setArr{a₀:SrtS}{st:SortSt}(h:SBk a₀ st){xs:Array Keyed}(hp:xs.Perm (arrOf st)):SBk a₀ (PyProof.Rows.setArr st xs):=⟨hp.trans h.perm,h.kind,h.failed,h.pend⟩
def intS(a:Array Keyed):SrtS:=⟨a,PyProof.Rows.K a,oneType'⟩
section
variable(a₀:SrtS)
def kAt(p:Nat):Int:=a₀.kf p
def lexP(p q:Nat):Prop:=kAt a₀ p<kAt a₀ q\/(kAt a₀ p=kAt a₀ q/\p<q)
structure Gh(st:SortSt)(g:Array Nat):Prop where
 base:SBk a₀ st
 size:g.size=a₀.arr.size
 at':∀k:Nat,(arrOf st)[k]?=(g[k]?).bind λ(p:Nat)=>a₀.arr[p]?
 perm:g.toList.Perm (List.range a₀.arr.size)
def gAt(g:Array Nat)(k:Nat):Nat:=(g[k]?).getD 0
def SortedL(g:Array Nat)(n:Nat):Prop:=∀i j,i<j->j<n->lexP a₀ (gAt g i) (gAt g j)
def DescL(g:Array Nat)(n:Nat):Prop:=∀i j,i<j->j<n->lexP a₀ (gAt g j) (gAt g i)
structure Rest(g:Array Nat)(n:Nat):Prop where
 low:∀k,k<n->gAt g k<n
 same:∀k,n<=k->k<a₀.arr.size->gAt g k=k
end
section
variable{a₀:SrtS}{st:SortSt}{g:Array Nat}
theorem wm{α:Type}(xs:Array α)(i j:Nat):(xs.swapIfInBounds i j).size=xs.size:=Array.size_swapIfInBounds
theorem By{xs:Array Keyed}{g:Array Nat}(hs:xs.size=g.size)(h:∀k:Nat,xs[k]?=(g[k]?).bind λ(p:Nat)=>a₀.arr[p]?)(i j:Nat):∀k:Nat,(xs.swapIfInBounds i j)[k]?=((g.swapIfInBounds i j)[k]?).bind λ(p:Nat)=>a₀.arr[p]?:=λk=>by
 by_cases hi:i<xs.size
 ·by_cases hj:j<xs.size
  ·rw[getElem?_swapIB hi hj,getElem?_swapIB (by omega) (by omega)]
   split
   ·exact h i
   ·split
    ·exact h j
    ·exact h k
  ·rw[q9,q9,dif_pos hi,dif_pos (by omega:i<g.size),dif_neg hj,dif_neg (by omega)]
   exact h k
 ·rw[q9,q9,dif_neg hi,dif_neg (by omega)]
  exact h k
theorem vo{β:Type}(p q:β->Nat):∀(l:List β)(xs:Array Keyed)(g:Array Nat),xs.size=g.size->(∀k:Nat,xs[k]?=(g[k]?).bind λ(p:Nat)=>a₀.arr[p]?) ->
  ∀k:Nat,(l.foldl (λa k=>a.swapIfInBounds (p k) (q k)) xs)[k]?=((l.foldl (λa k=>a.swapIfInBounds (p k) (q k)) g)[k]?).bind λ(p:Nat)=>a₀.arr[p]?
 | [],_,_,_,h=>h
 | x::l,xs,g,hs,h=>vo p q l _ _ (by rw[wm,wm];exact hs) (By hs h (p x) (q x))
theorem Gh.mirror(G:Gh a₀ st g)(i j d:Nat):Gh a₀ (setArr st (mirror (arrOf st) i j d)) (mirror g i j d) :=
 ⟨G.base.setArr (mirror_perm _ _ _ _),by rw[mirror_size];exact G.size,vo _ _ _ _ _ (by rw[G.base.size,G.size]) G.at',(kM.mp (mirror_perm g i j d)).trans G.perm⟩
theorem Gh.bubble(G:Gh a₀ st g)(src d:Nat):Gh a₀ (setArr st (bubble (arrOf st) src d)) (bubble g src d) :=
 ⟨G.base.setArr (bubble_perm _ _ _),by rw[bubble_size];exact G.size,vo _ _ _ _ _ (by rw[G.base.size,G.size]) G.at',(kM.mp (bubble_perm g src d)).trans G.perm⟩
theorem tQ{g:Array Nat}{i j:Nat}(hj:j<=g.size)(k:Nat):gAt (mirror g i j ((j-i) / 2)) k=if i<=k/\k<j then gAt g (i+j-1-k)else gAt g k:=by
 unfold gAt
 rw[getElem?_mirror_all hj]
 split <;>rfl
theorem uX{g:Array Nat}{src d:Nat}(hs:src<g.size)(hd:d<=src)(k:Nat):gAt (bubble g src d) k=if k=src-d then gAt g src else if src-d<k/\k<=src then gAt g (k-1)else gAt g k:=by
 unfold gAt
 rw[getElem?_bubble hs d hd]
 split
 ·rfl
 ·split <;>rfl
theorem Rest.mirror{g:Array Nat}{n i j:Nat}(R:Rest a₀ g n)(hj:j<=n)(hn:j<=g.size):Rest a₀ (mirror g i j ((j-i) / 2)) n:=by
 refine⟨λk hk=>?_,λk h1 h2=>?_⟩
 ·rw[tQ hn]
  split
  ·exact R.low _ (by omega)
  ·exact R.low _ hk
 ·rw[tQ hn,if_neg (by omega)]
  exact R.same k h1 h2
end
section
variable{prog:Program}{w:World}{A:Around}{E:Value->Shared->Prop}{s:Shared}{a₀:SrtS}
def LtOk(prog:Program)(w:World)(A:Around)(E:Value->Shared->Prop)(s:Shared)(a₀:SrtS):Prop:=∀{st:SortSt}{g:Array Nat}{i j:Nat}{Q:Option Bool->SortSt->Prop},Gh a₀ st g->i<a₀.arr.size->j<a₀.arr.size->Q (some (decide (kAt a₀ (gAt g i)<kAt a₀ (gAt g j)))) st->wpS (model prog w) A E s (ltAt' i j) Q st
theorem vz{st:SortSt}{g:Array Nat}{i j:Nat}{Q:Option Bool->SortSt->Prop}(G:Gh a₀ st g)(h0:LtOk prog w A E s a₀)(hi:i<a₀.arr.size)(hj:j<a₀.arr.size)(h:Q (some (decide (kAt a₀ (gAt g i)<kAt a₀ (gAt g j)))) st) :
  wpS (model prog w) A E s (ltAt' i j) Q st:=h0 G hi hj h
theorem Eu{a:Array Keyed}(h0:IntKeys a):LtOk prog w A E s (intS a):=fun {st g i j Q} G hi hj h=>by
 have k:∀{i:Nat},i<a.size->PyProof.Rows.K (arrOf st) i=kAt (intS a) (gAt g i):=fun {i} hi=>by
  have hg:i<g.size:=by rw[G.size];exact hi
  refine K_congr ?_
  rw[G.at' i,gAt,kQ hg]
  rfl
 refine wpS_ltK (a₀:=a) ⟨G.base.perm,G.base.kind,G.base.failed,G.base.pend⟩ h0 hi hj ?_
 rw[k hi,k hj]
 exact h
theorem zl{st:SortSt}{g:Array Nat}{a nrem:Nat}{Q:AscSt->SortSt->Prop}(h0:LtOk prog w A E s a₀)(hn:nrem<=a₀.arr.size)(ha:1<=a)(han:a<=nrem)(G:Gh a₀ st g)(hs:SortedL a₀ g a)(hr:Rest a₀ g a)
  (h:∀n,a<=n->n<=nrem->SortedL a₀ g n->Rest a₀ g n->(n=nrem\/kAt a₀ (gAt g n)<kAt a₀ (gAt g (n-1)))->Q (none,n) st):wpS (model prog w) A E s (ascLoop a nrem) Q st:=by
 unfold ascLoop
 refine wpS_forRange (I:=λx c st'=>st'=st/\c=(none,x)/\SortedL a₀ g x/\Rest a₀ g x) ?step ?fin ⟨rfl,rfl,hs,hr⟩
 case fin =>
  rintro c st' ⟨rfl,rfl,hs',hr'⟩
  rw[show max a nrem=nrem by omega]at hs' hr' ⊢
  exact h nrem han (zH _) hs' hr' (.inl rfl)
 case step =>
  rintro x c st' hax hxn ⟨rfl,rfl,hs',hr'⟩
  dsimp only
  refine wpS_bind (vz G h0 (by omega) (by omega) ?_)
  by_cases hless:kAt a₀ (gAt g x)<kAt a₀ (gAt g (x-1))
  ·simp only [hless,decide_true,if_true]
   exact wpS_pure (h x hax (by omega) hs' hr' (.inr hless))
  ·simp only [hless,decide_false,yK,if_false]
   have ex:=hr'.same x (zH _) (by omega)
   refine wpS_pure ⟨rfl,rfl,λi j hij hj=>?_,⟨λk hk=>?_,λk h1 h2=>hr'.same k (by omega) h2⟩⟩
   ·by_cases hjx:j<x
    ·exact hs' i j hij hjx
    ·have hj':j=x:=by omega
     subst hj'
     have li:=hr'.low i hij
     by_cases hi':i=j-1
     ·subst hi'
      unfold lexP
      rw[ex]at hless ⊢
      omega
     ·have l1:=hs' i (j-1) (by omega) (by omega)
      unfold lexP at l1 ⊢
      rw[ex]at hless ⊢
      omega
   ·by_cases hkx:k<x
    ·have:=hr'.low k hkx;omega
    ·have:k=x:=by omega
     subst this
     omega
theorem wG{st:SortSt}{g:Array Nat}{n nrem:Nat}{Q:Option Nat->SortSt->Prop}(h0:LtOk prog w A E s a₀)(hn:nrem<=a₀.arr.size)(h1:1<=n)(hnn:n<=nrem)(G:Gh a₀ st g)(hs:DescL a₀ g n)(hr:Rest a₀ g n)
  (h:∀m st' g',Gh a₀ st' g'->1<=m->m<=nrem->SortedL a₀ g' m->Rest a₀ g' m->Q (some m) st'):wpS (model prog w) A E s (tail3 n nrem) Q st:=by
 unfold tail3
 have hsz:n<=g.size:=by rw[G.size];omega
 refine wpS_bind (wpS_reverse ?_)
 have G':=G.mirror 0 n ((n-0) / 2)
 refine wpS_bind (zl h0 hn h1 hnn G' ?_ (hr.mirror (zH _) hsz) λm hm1 hm2 hsm hrm _=>wpS_pure (h m _ _ G' (by omega) hm2 hsm hrm))
 intro i j hij hj
 rw[tQ hsz,tQ hsz,if_pos (by omega),if_pos (by omega)]
 exact hs _ _ (by omega) (by omega)
structure Fall(a₀:SrtS)(g:Array Nat)(x neq:Nat):Prop where
 le:neq+1<=x
 d:DescL a₀ g (x-(neq+1))
 lt:∀i,i<x-(neq+1)->kAt a₀ (gAt g (x-1))<kAt a₀ (gAt g i)
 eq:∀i,x-(neq+1)<=i->i<x->kAt a₀ (gAt g i)=kAt a₀ (gAt g (x-1))
 up:∀i j,x-(neq+1)<=i->i<j->j<x->gAt g i<gAt g j
theorem Fall.turn{g:Array Nat}{x neq:Nat}(F:Fall a₀ g x neq)(hx:x<=g.size):DescL a₀ (mirror g (x-(neq+1)) x ((x-(x-(neq+1))) / 2)) x:=by
 obtain⟨hl,fd,flt,feq,fup⟩:=F
 have hbx:x-(neq+1)<=x:=Nat.sub_le _ _
 clear hl
 generalize x-(neq+1)=b at *
 intro i j hij hj
 have inn:∀t,b<=t->t<x->b<=b+x-1-t/\b+x-1-t<x:=λt h1 h2=>by omega
 rw[tQ hx,tQ hx]
 by_cases hi:b<=i
 ·have hi2:=kZ hij hj
  have hj2:=yY (qL hi hij)
  have mv:b+x-1-j<b+x-1-i:=by omega
  rw[if_pos ⟨hj2,hj⟩,if_pos ⟨hi,hi2⟩]
  have e1:=feq _ (inn j hj2 hj).1 (inn j hj2 hj).2
  have e2:=feq _ (inn i hi hi2).1 (inn i hi hi2).2
  exact .inr ⟨e1.trans e2.symm,fup _ _ (inn j hj2 hj).1 mv (inn i hi hi2).2⟩
 ·rw[if_neg (show ¬(b<=i/\i<x)from λz=>hi z.1)]
  by_cases hjb:b<=j
  ·rw[if_pos ⟨hjb,hj⟩]
   have e1:=feq _ (inn j hjb hj).1 (inn j hjb hj).2
   have l1:=flt i (Nat.not_le.mp hi)
   exact .inl (by rw[e1];exact l1)
  ·rw[if_neg (show ¬(b<=j/\j<x)from λz=>hjb z.1)]
   exact fd i j hij (Nat.not_le.mp hjb)
theorem Fall.whole{g:Array Nat}{x:Nat}(F:Fall a₀ g x 0):DescL a₀ g x:=by
 intro i j hij hj
 by_cases hjb:j<x-1
 ·exact F.d i j hij hjb
 ·have:j=x-1:=by omega
  subst this
  exact .inl (F.lt i (by omega))
theorem Fall.next{g:Array Nat}{x:Nat}(hd:DescL a₀ g x)(hx:1<=x)(hl:kAt a₀ (gAt g x)<kAt a₀ (gAt g (x-1))):Fall a₀ g (x+1) 0:=by
 refine⟨by omega,?_,λi hi=>?_,λi h1 h2=>?_,λi j h1 h2 h3=>by omega⟩
 ·rw[show x+1-(0+1)=x by omega]
  exact hd
 ·rw[show x+1-1=x by omega]
  by_cases hi':i=x-1
  ·rw[hi'];exact hl
  ·have:=hd i (x-1) (by omega) (by omega)
   unfold lexP at this
   omega
 ·rw[show x+1-1=i by omega]
theorem Bm{st:SortSt}{g:Array Nat}{n nrem:Nat}{Q:DescSt->SortSt->Prop}(h0:LtOk prog w A E s a₀)(hn:nrem<=a₀.arr.size)(hnn:n<=nrem)(G:Gh a₀ st g)(hf:Fall a₀ g n 0)(hr:Rest a₀ g n)
  (h:∀m neq st' g',Gh a₀ st' g'->n<=m->m<=nrem->Fall a₀ g' m neq->Rest a₀ g' m->Q (none,m,neq) st'):wpS (model prog w) A E s (descLoop n nrem) Q st:=by
 unfold descLoop
 refine wpS_forRange (I:=λx c st'=>∃neq g',c=(none,x,neq)/\Gh a₀ st' g'/\Fall a₀ g' x neq/\Rest a₀ g' x) ?step ?fin ⟨0,g,rfl,G,hf,hr⟩
 case fin =>
  rintro c st' ⟨neq,g',rfl,G',hf',hr'⟩
  rw[Nat.max_eq_right hnn]at hf' hr' ⊢
  exact h nrem neq st' g' G' hnn (zH _) hf' hr'
 case step =>
  rintro x c st' hax hxn ⟨neq,g',rfl,G',hf',hr'⟩
  dsimp only
  have hx1:1<=x:=z0 (Nat.le_add_left 1 neq) hf'.le
  have hxs:x<a₀.arr.size:=zS hxn hn
  have hxp:x-1<a₀.arr.size:=qL (Nat.sub_le _ _) hxs
  have hsz:x<=g'.size:=by rw[G'.size];exact yY hxs
  have ex:=hr'.same x (zH _) hxs
  have rest1:∀g2:Array Nat,Rest a₀ g2 x->Rest a₀ g2 (x+1):=λg2 R=>⟨λk hk=>by
   by_cases hkx:k<x
   ·have:=R.low k hkx;omega
   ·have e:k=x:=by omega
    rw[e,R.same x (zH _) hxs];omega,λk h1 h2=>R.same k (by omega) h2⟩
  refine wpS_bind (vz G' h0 hxs hxp ?_)
  by_cases hless:kAt a₀ (gAt g' x)<kAt a₀ (gAt g' (x-1))
  ·simp only [hless,decide_true,if_true]
   by_cases hneq:neq>0
   ·rw[if_pos hneq]
    have hd:=hf'.turn hsz
    have R2:=hr'.mirror (i:=x-(neq+1)) (zH _) hsz
    refine wpS_bind (wpS_reverse (wpS_pure ⟨0,_,rfl,G'.mirror _ _ _,Fall.next hd hx1 ?_,rest1 _ R2⟩))
    rw[tQ hsz,tQ hsz,if_neg (by omega),if_pos (by have:=hf'.le;omega)]
    have e1:=hf'.eq (x-(neq+1)+x-1-(x-1)) (by have:=hf'.le;omega) (by have:=hf'.le;omega)
    rw[e1]
    exact hless
   ·rw[if_neg hneq]
    have e0:neq=0:=Nat.eq_zero_of_not_pos hneq
    subst e0
    exact wpS_pure ⟨0,g',rfl,G',Fall.next hf'.whole hx1 hless,rest1 _ hr'⟩
  ·simp only [hless,decide_false,yK,if_false]
   refine wpS_bind (vz G' h0 hxp hxs ?_)
   by_cases hlarger:kAt a₀ (gAt g' (x-1))<kAt a₀ (gAt g' x)
   ·simp only [hlarger,decide_true,if_true]
    exact wpS_pure (h x neq st' g' G' hax (yY hxn) hf' hr')
   ·simp only [hlarger,decide_false,yK,if_false]
    have heq:kAt a₀ (gAt g' x)=kAt a₀ (gAt g' (x-1)):=by omega
    have hl:=hf'.le
    refine wpS_pure ⟨neq+1,g',rfl,G',⟨by omega,?_,λi hi=>?_,λi h1 h2=>?_,λi j h1 h2 h3=>?_⟩,rest1 _ hr'⟩
    ·rw[show x+1-(neq+1+1)=x-(neq+1) by omega]
     exact hf'.d
    ·rw[show x+1-1=x by omega,heq]
     exact hf'.lt i (by omega)
    ·rw[show x+1-1=x by omega]
     by_cases hix:i=x
     ·rw[hix]
     ·rw[heq];exact hf'.eq i (by omega) (by omega)
    ·by_cases hjx:j=x
     ·rw[hjx,ex]
      exact hr'.low i (by omega)
     ·exact hf'.up i j (by omega) h2 (by omega)
theorem vi{st:SortSt}{g:Array Nat}{n nrem:Nat}{Q:Option Nat->SortSt->Prop}(h0:LtOk prog w A E s a₀)(hn:nrem<=a₀.arr.size)(hnn:n+1<=nrem)(G:Gh a₀ st g)(hf:Fall a₀ g (n+1) 0)(hr:Rest a₀ g (n+1))
  (h:∀m st' g',Gh a₀ st' g'->1<=m->m<=nrem->SortedL a₀ g' m->Rest a₀ g' m->Q (some m) st'):wpS (model prog w) A E s (descPart n nrem) Q st:=by
 unfold descPart
 refine wpS_bind (wpS_lift (wpAny_rule ⟨rfl,?_⟩))
 refine wpS_bind (Bm h0 hn hnn G hf hr λm neq st' g' G' hm1 hm2 hf' hr'=>?_)
 dsimp only
 have hsz:m<=g'.size:=by rw[G'.size];omega
 by_cases hneq:neq>0
 ·rw[if_pos hneq]
  exact wpS_bind (wpS_reverse (wG h0 hn (by omega) hm2 (G'.mirror _ _ _) (hf'.turn hsz) (hr'.mirror (zH _) hsz) h))
 ·rw[if_neg hneq]
  have e0:neq=0:=by omega
  subst e0
  exact wG h0 hn (by omega) hm2 G' hf'.whole hr' h
theorem vd{n k:Nat}(h:k<n):gAt (Array.range n) k=k:=by
 unfold gAt
 simp [h]
theorem Ak{st:SortSt}{nrem:Nat}{Q:Option Nat->SortSt->Prop}(h0:LtOk prog w A E s a₀)(hn:nrem=a₀.arr.size)(h1:1<=nrem)(G:Gh a₀ st (Array.range a₀.arr.size))
  (h:∀m st' g',Gh a₀ st' g'->1<=m->m<=nrem->SortedL a₀ g' m->Rest a₀ g' m->Q (some m) st'):wpS (model prog w) A E s (countRun' 0 nrem) Q st:=by
 rw[countRun0_eq]
 have R:∀n,n<=a₀.arr.size->Rest a₀ (Array.range a₀.arr.size) n:=λn hn'=>⟨λk hk=>by rw[vd (zS hk hn')];exact hk,λk h1 h2=>vd h2⟩
 refine wpS_bind (zl h0 (j4 hn) (zH 1) h1 G (λi j hij hj=>absurd (zS hij (jQ hj)) (qN _)) (R 1 (hn▸h1)) λn hn1 hn2 hsn hrn hor=>?_)
 dsimp only
 by_cases hnn:n=nrem
 ·rw[if_pos (by simpa using hnn)]
  exact wpS_pure (h n st _ G hn1 hn2 hsn hrn)
 ·rw[if_neg (by simpa using hnn)]
  have hlt:=hor.resolve_left hnn
  by_cases hgt:n>1
  ·rw[if_pos hgt]
   refine wpS_bind (vz G h0 (by omega) (by omega) ?_)
   by_cases hrose:kAt a₀ (gAt (Array.range a₀.arr.size) 0)<kAt a₀ (gAt (Array.range a₀.arr.size) (n-1))
   ·simp only [hrose,decide_true,if_true]
    exact wpS_pure (h n st _ G hn1 hn2 hsn hrn)
   ·simp only [hrose,decide_false,yK,if_false]
    have hsz:n<=(Array.range a₀.arr.size).size:=by rw[G.size,←hn];exact hn2
    have ez:n-(n-1+1)=0:=by omega
    have hf:Fall a₀ (Array.range a₀.arr.size) n (n-1):=by
     refine⟨by omega,λi j hij hj=>absurd (ez▸hj:j<0) (qN _),λi hi=>absurd (ez▸hi:i<0) (qN _),λi h1 h2=>?_,λi j h1 h2 h3=>?_⟩
     ·by_cases hi0:i=0
      ·subst hi0
       by_cases e:(0:Nat)=n-1
       ·rw[←e]
       ·have:=hsn 0 (n-1) (by omega) (by omega)
        unfold lexP at this
        omega
      ·have a1:=hsn 0 i (by omega) h2
       by_cases e:i=n-1
       ·rw[e]
       ·have a2:=hsn i (n-1) (by omega) (by omega)
        unfold lexP at a1 a2
        omega
     ·rw[vd (by omega),vd (by omega)]
      exact h2
    have hd:=hf.turn hsz
    rw[ez]at hd
    have hrm:=(R n (hn▸hn2)).mirror (i:=0) (zH _) hsz
    refine wpS_bind (wpS_reverse (vi h0 (by omega) (by omega) (G.mirror _ _ _) (Fall.next hd (by omega) ?_) ?_ h))
    ·rw[tQ hsz,tQ hsz,if_neg (by omega),if_pos (by omega),show 0+n-1-(n-1)=0 by omega]
     have e0:=hf.eq 0 (by omega) (by omega)
     rw[e0]
     exact hlt
    ·exact⟨λk hk=>by
      by_cases hkn:k<n
      ·have:=hrm.low k hkn;omega
      ·have e:k=n:=by omega
       rw[e,hrm.same n (zH _) (by omega)];omega,λk h1 h2=>hrm.same k (by omega) h2⟩
  ·rw[if_neg hgt]
   have hn1':n=1:=by omega
   subst hn1'
   exact vi h0 (by omega) (by omega) G (Fall.next (λi j hij hj=>absurd (zS hij (jQ hj)) (qN _)) (zH _) hlt) (R 2 (by omega)) h
theorem Dg{st:SortSt}{g:Array Nat}{n ok:Nat}{Q:Bool->SortSt->Prop}(h0:LtOk prog w A E s a₀)(hn:n=a₀.arr.size)(hok:ok<=n)(hok1:1<=ok)(G:Gh a₀ st g)(hs:SortedL a₀ g ok)(hr:Rest a₀ g ok)
  (h:∀st' g',Gh a₀ st' g'->SortedL a₀ g' n->Q true st'):wpS (model prog w) A E s (binarySort' 0 n ok) Q st:=by
 rw[binarySort'_eq]
 simp only [jM]
 refine wpS_bind (wpS_mono (wpS_forRange (I:=λk c st'=>c=(none,())/\∃g',Gh a₀ st' g'/\SortedL a₀ g' k/\Rest a₀ g' k)
  (Q:=λc st'=>c=(none,())/\∃g',Gh a₀ st' g'/\SortedL a₀ g' n) ?step ?fin ?init) ?post)
 case post =>
  rintro c st' ⟨rfl,g',G',hs'⟩
  exact wpS_pure (h st' g' G' hs')
 case init =>
  rw[Nat.max_eq_left hok1]
  exact⟨rfl,g,G,hs,hr⟩
 case fin =>
  rintro c st' ⟨hc,g',G',hs',_⟩
  rw[Nat.max_eq_left hok1,Nat.max_eq_right hok]at hs'
  exact⟨hc,g',G',hs'⟩
 case step =>
  rintro k c st' hak hkn ⟨rfl,g',G',hs',hr'⟩
  have hk:k<a₀.arr.size:=by omega
  have ek:=hr'.same k (zH _) hk
  refine wpS_bind (wpS_mono (wpS_forRange (I:=λx c st''=>st''=st'/\∃l r,c=(none,l,r)/\l<=r/\r<=k/\r-l<=k-x /\
    (∀i,i<l->kAt a₀ (gAt g' i)<=kAt a₀ (gAt g' k))/\(∀i,r<=i->i<k->kAt a₀ (gAt g' k)<kAt a₀ (gAt g' i)))
   (Q:=λc st''=>st''=st'/\∃l r,c=(none,l,r)/\l<=k /\
    (∀i,i<l->kAt a₀ (gAt g' i)<=kAt a₀ (gAt g' k))/\(∀i,l<=i->i<k->kAt a₀ (gAt g' k)<kAt a₀ (gAt g' i))) ?istep ?ifin ?iinit) ?ipost)
  case iinit=>exact⟨rfl,0,k,rfl,by omega,by omega,by omega,λi hi=>by omega,λi h1 h2=>by omega⟩
  case ifin =>
   rintro c st'' ⟨rfl,l,r,rfl,hlr,hrk,hm,hlo,hhi⟩
   have:l=r:=by omega
   subst this
   exact⟨rfl,l,l,rfl,hrk,hlo,hhi⟩
  case istep =>
   rintro x c st'' _ hxk ⟨rfl,l,r,rfl,hlr,hrk,hm,hlo,hhi⟩
   dsimp only
   have mono:∀i j,i<=j->j<k->kAt a₀ (gAt g' i)<=kAt a₀ (gAt g' j):=λi j hij hj=>by
    by_cases e:i=j
    ·rw[e];exact qO _
    ·have:=hs' i j (by omega) hj
     unfold lexP at this
     omega
   by_cases hge:l ≥ r
   ·rw[if_pos hge]
    have:l=r:=by omega
    subst this
    exact wpS_pure ⟨rfl,l,l,rfl,hrk,hlo,hhi⟩
   ·rw[if_neg hge]
    have m1:l<=(l+r) / 2:=by omega
    have m2:(l+r) / 2<r:=by omega
    generalize (l+r) / 2=md at m1 m2 ⊢
    have mk:md<k:=zS m2 hrk
    refine wpS_bind (vz G' h0 hk (kZ mk hk) ?_)
    by_cases hless:kAt a₀ (gAt g' k)<kAt a₀ (gAt g' md)
    ·simp only [hless,decide_true,if_true]
     refine wpS_pure ⟨rfl,l,md,rfl,m1,yY mk,Nat.le_pred_of_lt (zS (Nat.sub_lt_sub_right m1 m2) hm),hlo,λi h1 h2=>?_⟩
     exact jB hless (mono _ _ h1 h2)
    ·simp only [hless,decide_false,yK,if_false]
     refine wpS_pure ⟨rfl,md+1,r,rfl,m2,hrk,Nat.sub_le_sub_right (z0 (Nat.sub_le_sub_left m1 r) hm) 1,λi h1=>?_,hhi⟩
     exact vD (mono i md (jQ h1) mk) (Int.not_lt.mp hless)
  case ipost =>
   rintro c st'' ⟨rfl,l,r,rfl,hlk,hlo,hhi⟩
   show wpS _ _ _ _ (do moveDown' k l;pure (ForInStep.yield (none,()))) _ _
   rw[moveDown'_eq]
   have hks:k<g'.size:=by rw[G'.size];exact hk
   have hkd:k-l<=k:=Nat.sub_le _ _
   have hkl:k-(k-l)=l:=Nat.sub_sub_self hlk
   refine wpS_bind (wpS_modify (wpS_pure ⟨rfl,bubble g' k (k-l),G'.bubble k (k-l),λi j hij hj=>?_,⟨λi hi=>?_,λi h1 h2=>?_⟩⟩))
   ·rw[uX hks hkd,uX hks hkd,hkl]
    by_cases hil:i=l
    ·rw[if_pos hil,if_neg (kX (hil▸hij)),if_pos ⟨hil▸hij,jQ hj⟩]
     exact .inl (hhi (j-1) (Nat.le_pred_of_lt (hil▸hij)) (by omega))
    ·rw[if_neg hil]
     by_cases hil2:i<l
     ·rw[if_neg (by omega)]
      by_cases hjl:j=l
      ·rw[if_pos hjl]
       have a1:=hlo i hil2
       have a2:=hr'.low i (by omega)
       unfold lexP
       rw[ek]at a1 ⊢
       omega
      ·rw[if_neg hjl]
       by_cases hjl2:l<j
       ·rw[if_pos (by omega)]
        exact hs' i (j-1) (by omega) (by omega)
       ·rw[if_neg (by omega)]
        exact hs' i j hij (by omega)
     ·rw[if_pos (by omega),if_neg (by omega),if_pos (by omega)]
      exact hs' (i-1) (j-1) (by omega) (by omega)
   ·rw[uX hks hkd,hkl]
    split
    ·omega
    ·split
     ·have:=hr'.low (i-1) (by omega);omega
     ·have:=hr'.low i (by omega);omega
   ·rw[uX hks hkd,hkl,if_neg (by omega),if_neg (by omega)]
    exact hr'.same i (by omega) h2
theorem Bh{st:SortSt}{Q:Unit->SortSt->Prop}(h0:LtOk prog w A E s a₀)(hB:SBk a₀ st)(he:arrOf st=a₀.arr)(h2:2<=a₀.arr.size)(h64:a₀.arr.size<64)
  (h:∀st' g,(arrOf st').Perm a₀.arr->failedOf st'=none->(∀k:Nat,(arrOf st')[k]?=((g:Array Nat)[k]?).bind λ(p:Nat)=>a₀.arr[p]?)->g.toList.Perm (List.range a₀.arr.size)->SortedL a₀ g a₀.arr.size->Q () st'):wpS (model prog w) A E s sortRuns' Q st:=by
 have G0:Gh a₀ st (Array.range a₀.arr.size):=⟨hB,by simp,λk=>by
  rw[he]
  by_cases hk:k<a₀.arr.size
  ·have e:(Array.range a₀.arr.size)[k]?=some k:=by simp [hk]
   rw[e]
   rfl
  ·rw[qT (by omega),qT (by simpa using hk)]
   rfl,by rw[Array.toList_range]⟩
 rw[sortRuns'_eq]
 refine wpS_bind (wpS_get ?_)
 dsimp only
 have hmr:minRun' a₀.arr.size a₀.arr.size 0=a₀.arr.size:=by
  obtain⟨f,hf⟩:∃f,a₀.arr.size=f+1:=⟨a₀.arr.size-1,by omega⟩
  have:minRun' (f+1) a₀.arr.size 0=a₀.arr.size:=by rw[minRun'_succ,if_pos h64];rfl
  rwa [←hf]at this
 simp only [hB.size,hmr]
 refine wpS_bind (wpS_mono (wpS_forRange
  (I:=λx c st'=>(x=0/\c=(none,0)/\st'=st)\/(1<=x/\c=(none,a₀.arr.size)/\pendingOf st'=#[(0,a₀.arr.size,0)]/\∃st'' g,Gh a₀ st'' g/\SortedL a₀ g a₀.arr.size/\arrOf st'=arrOf st''/\failedOf st'=none))
  (Q:=λc st'=>c=(none,a₀.arr.size)/\pendingOf st'=#[(0,a₀.arr.size,0)]/\∃st'' g,Gh a₀ st'' g/\SortedL a₀ g a₀.arr.size/\arrOf st'=arrOf st''/\failedOf st'=none) ?step ?fin (.inl ⟨rfl,rfl,rfl⟩)) ?post)
 case fin =>
  rintro c st' (⟨hx,_,_⟩|⟨_,hc,hD⟩)
  ·omega
  ·exact⟨hc,hD⟩
 case step =>
  rintro x c st' _ hx (⟨rfl,rfl,rfl⟩|⟨hx1,rfl,hD⟩)
  ·dsimp only
   rw[if_neg (by omega)]
   simp only [Nat.sub_zero,kY,jM]
   refine wpS_bind (Ak h0 rfl (by omega) G0 λm st2 g2 G2 hm1 hm2 hs2 hr2=>?_)
   dsimp only
   by_cases hlt:m<a₀.arr.size
   ·rw[if_pos hlt]
    refine wpS_bind (wpS_lift (wpAny_rule ⟨rfl,?_⟩))
    refine wpS_bind (Dg h0 rfl hm2 hm1 G2 hs2 hr2 λst3 g3 G3 hs3=>?_)
    simp only [Bool.not_true,yK,if_false]
    refine wpS_bind (wpS_get ?_)
    have hb:(pendingOf st3).back?=none:=by rw[G3.base.pend];rfl
    rw[hb]
    dsimp only
    exact wpS_bind (wpS_modify (wpS_pure (.inr ⟨by omega,rfl,by show(pendingOf st3).push _=_;rw[G3.base.pend];rfl,st3,g3,G3,hs3,rfl,G3.base.failed⟩)))
   ·rw[if_neg hlt]
    have hm:m=a₀.arr.size:=by omega
    subst hm
    refine wpS_bind (wpS_get ?_)
    have hb:(pendingOf st2).back?=none:=by rw[G2.base.pend];rfl
    rw[hb]
    dsimp only
    exact wpS_bind (wpS_modify (wpS_pure (.inr ⟨by omega,rfl,by show(pendingOf st2).push _=_;rw[G2.base.pend];rfl,st2,g2,G2,hs2,rfl,G2.base.failed⟩)))
  ·dsimp only
   rw[if_pos (zH _)]
   exact wpS_pure ⟨rfl,hD⟩
 case post =>
  rintro c st' ⟨rfl,hD⟩
  dsimp only
  refine wpS_bind (wpS_mono (wpS_forRange (I:=λ_ c st''=>st''=st'/\c=(none,())) (Q:=λc st''=>st''=st'/\c=(none,())) ?_ (λ_ _ hh=>hh) ⟨rfl,rfl⟩) ?_)
  ·rintro x c st'' _ _ ⟨rfl,rfl⟩
   refine wpS_bind (wpS_get ?_)
   rw[if_pos (by rw[hD.1];exact zH 1)]
   exact wpS_pure ⟨rfl,rfl⟩
  ·rintro c st'' ⟨rfl,rfl⟩
   obtain⟨_,st3,g3,G3,hs3,ea,ef⟩:=hD
   refine wpS_pure (h _ g3 (by rw[ea];exact G3.base.perm) ef (λk=>by rw[ea];exact G3.at' k) G3.perm hs3)
end
end L2
namespace L2
open PySem PySem.Spec PyProof.Rows
def StabOut(kz:List Int)(vs out:List Value):Prop :=
 ∃is:List Nat,is.Perm (List.range vs.length)/\out=is.map (λi=>vs.getD i .none)/\is.Pairwise (λi j=>kz.getD i 0<kz.getD j 0\/(kz.getD i 0=kz.getD j 0/\i<j))
theorem CY{keys:Array Value}{vs:List Value}{kz:List Int}(hk:IntsAre keys.toList kz)(hlen:kz.length=vs.length){p:Nat}(hp:p<vs.length) :
  ∃t,(keys.zip vs.toArray)[p]?=some (.int (kz.getD p 0) t,vs.getD p .none):=by
 have hl:=hk.length
 rw[qI]at hl
 have e1:kz[p]?=some (kz.getD p 0):=by
  rw[zA,zB (by omega)];rfl
 obtain⟨t,ht⟩:=hk.get p _ e1
 refine⟨t,?_⟩
 have e2:vs[p]?=some (vs.getD p .none):=by
  rw[zA,zB hp];rfl
 rw[←y9,ksk_zip,kP]
 exact⟨ht,e2⟩
theorem Ex{keys:Array Value}{vs:List Value}{kz:List Int}(hk:IntsAre keys.toList kz)(hlen:kz.length=vs.length){xs:Array Keyed}{g:Array Nat}
  (ha:∀k:Nat,xs[k]?=(g[k]?).bind λ(p:Nat)=>(keys.zip vs.toArray)[p]?) (hp:g.toList.Perm (List.range vs.length)) (hs:SortedL (intS (keys.zip vs.toArray)) g vs.length):StabOut kz vs (xs.map (·.2)).toList:=by
 have hgl:g.size=vs.length:=by have:=hp.length_eq;simpa using this
 have hmem:∀k,k<vs.length->∃p,g[k]?=some p/\p<vs.length:=λk hk'=>by
  have e:g[k]?=some g[k]:=kQ (by omega)
  have:g[k]∈g.toList:=by simp
  exact⟨_,e,yO.mp (hp.mem_iff.mp this)⟩
 refine⟨g.toList,hp,?_,?_⟩
 ·refine jE λk=>?_
  rw[y9,Array.getElem?_map,ha,zF,y9]
  by_cases hk':k<vs.length
  ·obtain⟨p,e,hpl⟩:=hmem k hk'
   obtain⟨t,e2⟩:=CY hk hlen hpl
   rw[e]
   show Option.map _ ((keys.zip vs.toArray)[p]?)=_
   rw[e2]
   rfl
  ·have:g[k]?=none:=qT (by omega)
   rw[this]
   rfl
 ·rw[List.pairwise_iff_getElem]
  intro i j hi hj hij
  have hi':i<vs.length:=by simpa [hgl]using hi
  have hj':j<vs.length:=by simpa [hgl]using hj
  obtain⟨p,ep,hpl⟩:=hmem i hi'
  obtain⟨q,eq,hql⟩:=hmem j hj'
  have h1:=hs i j hij hj'
  have gi:gAt g i=p:=by unfold gAt;rw[ep];rfl
  have gj:gAt g j=q:=by unfold gAt;rw[eq];rfl
  have li:g.toList[i]=p:=by
   have:g.toList[i]?=some p:=by rw[y9];exact ep
   exact(zD.mp this).2
  have lj:g.toList[j]=q:=by
   have:g.toList[j]?=some q:=by rw[y9];exact eq
   exact(zD.mp this).2
  rw[gi,gj]at h1
  rw[li,lj]
  have kat:∀p,p<vs.length->kAt (intS (keys.zip vs.toArray)) p=kz.getD p 0:=λp hpl=>by
   obtain⟨t,e2⟩:=CY hk hlen hpl
   obtain⟨hb,e3⟩:=Array.getElem?_eq_some_iff.mp e2
   show PyProof.Rows.K (keys.zip vs.toArray) p=_
   rw[K_eq hb,e3]
   rfl
  unfold lexP at h1
  rw[kat p hpl,kat q hql]at h1
  exact h1
abbrev Kept(g h:Heap):Prop:=∀b o,g.get? b=some o->h.get? b=some o
theorem Kept.but{g h h':Heap}{a:Addr}(k:Kept g h)(s:Heap.SameBut a h h')(ha:g.objs.size<=a):Kept g h':=λb o e =>
 (s.2 b (zW (zS (Heap.lt_size e) ha))).trans (k b o e)
section
variable{prog:Program}{w:World}{A:Around}{E:Value->Shared->Prop}{s:Shared}{g:Heap}{a kS:Addr}{vs:List Value}{kz:List Int}{keys:Array Value}{e e1:Nat}{P:PySem.Fin->Shared->Prop}
theorem AL{st:SortSt}{gg:Array Nat}(F:Kept g s.heap)(nk:s.heap.get? kS=some (seqObj "list" keys e))(na:s.heap.get? a=some (seqObj "list" #[] e1))(hka:kS≠a)(hgk:g.objs.size<=kS)(hga:g.objs.size<=a)
  (hk:IntsAre keys.toList kz) (hlen:kz.length=vs.length) (h64:vs.length<64) (hp:(arrOf st).Perm (keys.zip vs.toArray))
  (ha:∀k:Nat,(arrOf st)[k]?=(gg[k]?).bind λ(p:Nat)=>(keys.zip vs.toArray)[p]?) (hgp:gg.toList.Perm (List.range vs.length)) (hs:SortedL (intS (keys.zip vs.toArray)) gg vs.length) (hfl:failedOf st=none)
  (h:∀h' tk out c,Kept g h'->h'.get? a=some (seqObj "list" out c)->StabOut kz vs out.toList->P (.done (.ret .none)) { s with heap:=h',toks:=tk }) :
  wpAny (model prog w) A (ksk_tail a false e1 (.ref kS) st) P E s:=by
 have hsz:keys.size=vs.length:=by
  have h1:=hk.length
  rw[qI]at h1
  omega
 have hsz2:(arrOf st).size=vs.length:=by rw[hp.size_eq,Array.size_zip,hsz,zT,kY]
 have s1:=Heap.SameBut.update s.heap kS (Obj.mapSeq λ_=>(#[]:Array Value))
 have na1:(s.heap.update kS (Obj.mapSeq λ_=>(#[]:Array Value))).get? a=some (seqObj "list" #[] e1):=(s1.2 a hka.symm).trans na
 have s2:=Heap.SameBut.update (s.heap.update kS (Obj.mapSeq λ_=>(#[]:Array Value))) a (Obj.mapSeq λ_=>(arrOf st).map (·.2))
 obtain⟨c2,hc2⟩:∃c2,((s.heap.update kS (Obj.mapSeq λ_=>(#[]:Array Value))).update a (Obj.mapSeq λ_=>(arrOf st).map (·.2))).get? a=some (seqObj "list" ((arrOf st).map (·.2)) c2) :=
  ⟨_,get?_update_seq na1 λ_=>(arrOf st).map (·.2)⟩
 unfold ksk_tail
 try dsimp only
 refine wpAny_bind (listUpdate_at nk rfl ?_ (by rw[hsz,sizeLine_eq];omega) (zV _))
 refine wpAny_bind (wpAny_letGo ?_)
 refine wpAny_bind (seqEpoch_at na1 rfl ?_)
 simp only [yK,if_false]
 refine wpAny_bind (listUpdate_at na1 rfl ?_ (zV _) (by rw[Array.size_map,hsz2,sizeLine_eq];omega))
 rw[hfl]
 simp only [bne_self_eq_false,yK,if_false]
 exact wpAny_pure (h _ _ _ c2 ((F.but s1 hgk).but s2 hga) hc2 (Ex hk hlen ha hgp hs))
theorem Fg(F:Kept g s.heap)(nk:s.heap.get? kS=some (seqObj "list" keys e))(na:s.heap.get? a=some (seqObj "list" #[] e1))(hka:kS≠a)(hgk:g.objs.size<=kS)(hga:g.objs.size<=a)
  (hk:IntsAre keys.toList kz) (hlen:kz.length=vs.length) (h64:vs.length<64)
  (h:∀h' tk out c,Kept g h'->h'.get? a=some (seqObj "list" out c)->StabOut kz vs out.toList->P (.done (.ret .none)) { s with heap:=h',toks:=tk }) :
  wpAny (model prog w) A (ksk_end a false vs.toArray e1 (.ref kS) keys) P E s:=by
 have hsz:keys.size=vs.length:=by
  have h1:=hk.length
  rw[qI]at h1
  omega
 have hzs:(keys.zip vs.toArray).size=vs.length:=by rw[Array.size_zip,hsz,zT,kY]
 unfold ksk_end
 try dsimp only
 simp only [yK,if_false]
 by_cases h2:vs.toArray.size<2
 ·rw[if_pos h2,if_pos h2]
  refine wpAny_bind (wpAny_pure ?_)
  rw[StateT.run_pure]
  refine wpAny_bind (wpAny_pure ?_)
  try dsimp only
  rw[zT]at h2
  refine AL (st:=SortSt.mk' general' (keys.zip vs.toArray) #[] 7 none) (gg:=Array.range vs.length) F nk na hka hgk hga hk hlen h64 (Array.Perm.refl _) (λk=>?_) (by rw[Array.toList_range]) (λi j hij hj=>by omega) rfl h
  show(keys.zip vs.toArray)[k]?=_
  by_cases hk':k<vs.length
  ·have e:(Array.range vs.length)[k]?=some k:=by simp [hk']
   rw[e]
   rfl
  ·rw[qT (by omega),qT (by simpa using hk')]
   rfl
 ·rw[if_neg h2,if_neg h2]
  rw[zT]at h2
  rw[ksk_kind hk (by rw[hsz];omega)]
  refine wpAny_bind (wpAny_pure ?_)
  refine wpAny_bind (wpAny_mono (Bh (a₀:=intS (keys.zip vs.toArray)) (st:=SortSt.mk' oneType' (keys.zip vs.toArray) #[] 7 none)
   (Q:=λ_ st'=>∃gg:Array Nat,(arrOf st').Perm (keys.zip vs.toArray)/\failedOf st'=none/\(∀k:Nat,(arrOf st')[k]?=(gg[k]?).bind λ(p:Nat)=>(keys.zip vs.toArray)[p]?)/\gg.toList.Perm (List.range (keys.zip vs.toArray).size)/\SortedL (intS (keys.zip vs.toArray)) gg (keys.zip vs.toArray).size)
   (Eu (ksk_intKeys hk)) ⟨Array.Perm.refl _,rfl,rfl,rfl⟩ rfl (by show 2<=(keys.zip vs.toArray).size;rw[hzs];omega) (by show(keys.zip vs.toArray).size<64;rw[hzs];exact h64) λst' gg a1 a2 a3 a4 a5=>⟨gg,a1,a2,a3,a4,a5⟩) ?_ λ_ _ e=>e)
  rintro⟨⟨⟩,st'⟩ s' ⟨rfl,gg,hp,hf,ha,hgp,hs⟩
  try dsimp only
  exact AL F nk na hka hgk hga hk hlen h64 hp ha (by rw[←hzs];exact hgp) (by rw[←hzs];exact hs) hf h
def KeyEnd(h:Heap)(k:Int)(s₁:Shared)(v:Value)(s₂:Shared):Prop:=∃h' tk t',s₂={ s₁ with heap:=h',toks:=tk }/\v=.int k t'/\Kept h h'
theorem DW{f:Value}(F:Kept g s.heap)(nk:s.heap.get? kS=some (seqObj "list" #[] 0))(na:s.heap.get? a=some (seqObj "list" #[] e1))(hka:kS≠a)(hgk:g.objs.size<=kS)(hga:g.objs.size<=a)
  (hlen:kz.length=vs.length) (h64:vs.length<64)
  (turn:∀(i:Nat)(v:Value)(k:Int),vs[i]?=some v->kz[i]?=some k->∀(h:Heap)(tk:Nat),Kept g h ->
   wpAny (model prog w) A (call f [v]) (KeyEnd h k { s with heap:=h,toks:=tk }) (λ_ _=>False) { s with heap:=h,toks:=tk })
  (h:∀h' tk out c,Kept g h'->h'.get? a=some (seqObj "list" out c)->StabOut kz vs out.toList->P (.done (.ret .none)) { s with heap:=h',toks:=tk }) :
  wpAny (model prog w) A (ksk_rest a f false vs.toArray e1 (.ref kS)) P E s:=by
 unfold ksk_rest
 refine wpAny_bind (wpAny_rule ?_)
 first
  | rw[List.forIn_toArray]
  | (rw[←Array.forIn_toList];simp only [List.toList_toArray])
  | rw[←Array.forIn_toList]
 refine wpAny_bind (ksk_fold (λi s'=>∃h' tk kA e,s'={ s with heap:=h',toks:=tk }/\Kept g h'/\h'.get? kS=some (seqObj "list" kA e)/\h'.get? a=some (seqObj "list" #[] e1)/\IntsAre kA.toList (kz.take i)) vs 0 s
  ⟨s.heap,s.toks,#[],0,rfl,F,nk,na,by simpa using IntsAre.nil⟩ ?step ?done)
 case step =>
  rintro j x s' hx ⟨h',tk,kA,e,rfl,F',nk',na',hk⟩
  simp only [jM]at hk ⊢
  have hj:j<vs.length:=(zD.mp hx).1
  obtain⟨k,hkj⟩:∃k,kz[j]?=some k:=⟨_,zB (by omega)⟩
  have hz:kA.size<=vs.length:=by
   have h1:=hk.length
   rw[qI,zY]at h1
   omega
  refine wpAny_bind (wpAny_attempt (wpAny_mono (turn j x k hx hkj h' tk F') (λv s'' he=>?_) λ_ _ hF=>hF.elim))
  obtain⟨g2,tk2,t2,rfl,rfl,F2⟩:=he
  try dsimp only
  have nk2:=F2 _ _ nk'
  have na2:=F2 _ _ na'
  have s1:=Heap.SameBut.update g2 kS (Obj.mapSeq (·.push (.int k t2)))
  obtain⟨c2,hc2⟩:∃c2,(g2.update kS (Obj.mapSeq (·.push (.int k t2)))).get? kS=some (seqObj "list" (kA.push (.int k t2)) c2):=⟨_,get?_update_seq nk2 (·.push (.int k t2))⟩
  have ek:kz.take (j+1)=kz.take j++[k]:=by rw[yV,hkj];simp
  have ea:(kA.push (Value.int k t2)).toList=kA.toList++[Value.int k t2]:=by simp
  refine wpAny_bind (listUpdate_at nk2 rfl ?_ (by rw[sizeLine_eq];omega) (z0 (j4 (Array.size_push ..)) (by rw[sizeLine_eq];omega)))
  exact wpAny_pure ⟨rfl,_,_,kA.push (.int k t2),c2,rfl,Kept.but (λb o q=>F2 b o (F' b o q)) s1 hgk,hc2,(s1.2 a hka.symm).trans na2,by rw[ea,ek];exact ksk_snoc hk⟩
 case done =>
  rintro s' ⟨h',tk,kA,e,rfl,F',nk',na',hk⟩
  have hk':IntsAre kA.toList kz:=by
   have e3:kz.take (0+vs.length)=kz:=k4 (by omega)
   rw[e3]at hk
   exact hk
  try dsimp only
  refine wpAny_bind (listItems_at nk' rfl ?_)
  exact Fg F' nk' na' hka hgk hga hk' hlen h64 λh3 tk3 out c F3 N3 k3=>h h3 tk3 out c F3 N3 k3
theorem DQ{f:Value}{n:Nat}(F:Kept g s.heap)(ho:s.heap.get? a=some (seqObj "list" vs.toArray n))(hga:g.objs.size<=a)
  (hlen:kz.length=vs.length) (h64:vs.length<64)
  (turn:∀(i:Nat)(v:Value)(k:Int),vs[i]?=some v->kz[i]?=some k->∀(h:Heap)(tk:Nat),Kept g h ->
   wpAny (model prog w) A (call f [v]) (KeyEnd h k { s with heap:=h,toks:=tk }) (λ_ _=>False) { s with heap:=h,toks:=tk })
  (h:∀h' tk out c,Kept g h'->h'.get? a=some (seqObj "list" out c)->StabOut kz vs out.toList->P (.done (.ret .none)) { s with heap:=h',toks:=tk }) :
  wpAny (model prog w) A (ksk_tree a f false) P E s:=by
 have ha:a<s.heap.objs.size:=Heap.lt_size ho
 have s1:=Heap.SameBut.update s.heap a (Obj.mapSeq λ_=>(#[]:Array Value))
 obtain⟨e1,ho1⟩:∃e1,(s.heap.update a (Obj.mapSeq λ_=>(#[]:Array Value))).get? a=some (seqObj "list" #[] e1):=⟨_,get?_update_seq ho λ_=>#[]⟩
 have F1:=F.but s1 hga
 have hkS:((s.heap.update a (Obj.mapSeq λ_=>(#[]:Array Value))).push (seqObj "tuple" vs.toArray 0)).objs.size=s.heap.objs.size+1:=by rw[size_push',Heap.size_update]
 unfold ksk_tree
 refine wpAny_bind (listItems_at ho rfl ?_)
 refine wpAny_bind (listUpdate_at ho rfl ?_ (by rw[zT,sizeLine_eq];omega) (zV _))
 refine wpAny_bind (seqEpoch_at ho1 rfl ?_)
 refine wpAny_bind (wpAny_newTuple ?_ (by show vs.length<=_;rw[sizeLine_eq];omega))
 refine wpAny_bind (wpAny_newList ?_ (zV _))
 refine wpAny_holding ?_
 refine DW (s:={ s with heap:=((s.heap.update a (Obj.mapSeq λ_=>(#[]:Array Value))).push (seqObj "tuple" vs.toArray 0)).push (seqObj "list" #[] 0) }) (kS:=((s.heap.update a (Obj.mapSeq λ_=>(#[]:Array Value))).push (seqObj "tuple" vs.toArray 0)).objs.size)
  (λb o q=>Heap.get?_push_of_some _ (Heap.get?_push_of_some _ (F1 b o q))) (Heap.get?_push_size _ rfl) (Heap.get?_push_of_some _ (Heap.get?_push_of_some _ ho1)) (by rw[hkS];exact kX (y7 ha)) (by rw[hkS];exact z0 hga (yY (y7 ha))) hga hlen h64 turn h
theorem Bc{l:Addr}{f:Value}{kw:List (Str×Value)}{Q:Value->Shared->Prop}(hl:s.heap.IsList l vs.toArray)(hlen:kz.length=vs.length)(h64:vs.length<64)
  (ha1:argsOk "sorted" ⟨[.ref l],kw⟩) (ha2:∀x,argsOk "list.sort" ⟨[.ref x],kw⟩) (ht:∀x,Builtin.«list.sort» ⟨[.ref x],kw⟩=ksk_tree x f false)
  (turn:∀(i:Nat)(v:Value)(k:Int),vs[i]?=some v->kz[i]?=some k->∀(h:Heap)(tk:Nat),Kept s.heap h ->
   wpAny (model prog w) A.in1.in1 (call f [v]) (KeyEnd h k { s with heap:=h,toks:=tk }) (λ_ _=>False) { s with heap:=h,toks:=tk })
  (h:∀D h' tk out c,Kept s.heap h'->s.heap.objs.size<=D->h'.get? D=some (seqObj "list" out c)->StabOut kz vs out.toList->Q (.ref D) { s with heap:=h',toks:=tk }) :
  wpAny (model prog w) A (call (.builtin "sorted") [.ref l] kw) Q E s:=by
 refine call_function_entry_kw kind_sorted plain_sorted entry_sorted ha1 ?_
 unfold Builtin.«sorted»
 refine wpAny_bind (m:=checkCount "sorted" 1 1 _) (wpAny_pure ?_)
 refine wpAny_bind (collect_list hl ?_ (by rw[sizeLine_eq];omega))
 refine wpAny_bind (wpAny_newList ?_ (by rw[sizeLine_eq];omega))
 have hsz:((s.heap.push (seqObj "list" #[] 0)).update s.heap.objs.size (Obj.mapSeq (·++vs.toArray))).objs.size=s.heap.objs.size+1:=by
  rw[Heap.size_update,size_push']
 have hoL:(((s.heap.push (seqObj "list" #[] 0)).update s.heap.objs.size (Obj.mapSeq (·++vs.toArray))).push (seqObj "list" vs.toArray 0)).get? (s.heap.objs.size+1)=some (seqObj "list" vs.toArray 0):=by
  rw[←hsz];exact Heap.get?_push_size _ rfl
 have keep:∀b o,s.heap.get? b=some o->(((s.heap.push (seqObj "list" #[] 0)).update s.heap.objs.size (Obj.mapSeq (·++vs.toArray))).push (seqObj "list" vs.toArray 0)).get? b=some o:=λb o q=>by
  have hlt:b<s.heap.objs.size:=Heap.lt_size q
  rw[Heap.get?_push_ne _ _ _ (by rw[hsz];exact zW (y7 hlt)),Heap.get?_update_ne _ _ _ _ (zW hlt),Heap.get?_push_ne _ _ _ (zW hlt)]
  exact q
 show wpAny _ _ _ _ _ { s with heap:=((s.heap.push (seqObj "list" #[] 0)).update s.heap.objs.size (Obj.mapSeq (·++vs.toArray))).push (seqObj "list" vs.toArray 0) }
 rw[hsz]
 refine wpAny_bind (wpAny_holding (wpAny_call_entry_kw slot_list_sort ⟨_,hoL,rfl⟩ entry_list_sort ?body (ha2 _)))
 case body =>
  have ht':=ht (s.heap.objs.size+1)
  show wpAny (model prog w) A.in1.in1 (Builtin.«list.sort» ⟨[.ref (s.heap.objs.size+1)],kw⟩) _ _ _
  rw[ht']
  refine DQ (s:={ s with heap:=((s.heap.push (seqObj "list" #[] 0)).update s.heap.objs.size (Obj.mapSeq (·++vs.toArray))).push (seqObj "list" vs.toArray 0) }) (g:=s.heap)
   keep hoL (yZ _) hlen h64 turn λh' tk out c F' N' k'=>⟨_,rfl,?_⟩
  exact wpAny_pure ⟨_,rfl,h _ h' tk out c F' (yZ _) N' k'⟩
end
end L2
namespace L2
open PySem PySem.Spec PyProof.Rows PySem.W
abbrev lamPar(x:Str)(p:Pos):Arguments:={ posonlyargs:=[],args:=[{ arg:=x,annotation:=none,pos:=p }],vararg:=none,kwonlyargs:=[],kw_defaults:=[],kwarg:=none,defaults:=[] }
abbrev lamSc(x:Str):Scope:={ kind:=.function,names:=[(x,.local)],isGenerator:=false,isCoroutine:=false,more:=[] }
abbrev lamBody(x:Str)(i:Int)(p2 p3 p4:Pos):Expr:=.Subscript (.Name x p2) (.Constant (.int i) 0 p3) p4
section
variable{prog:Program}{w:World}{A:Around}{s:Shared}
theorem F_{f t c':Addr}{x qual:Str}{pm ctv:Value}{p1 p2 p3 p4:Pos}{its:Array Value}{i k:Int}{u:Tok}{j:Nat}
  (ho:s.heap.get? f=some (kla_obj "<lambda>" qual (lamPar x p1) (lamBody x i p2 p3 p4) (lamSc x) [] pm c' ctv)) (hcd:s.heap.CodeRec (.ref c') qual) (hroom:A.depth<recursionLimit) (lim:s.heap.NoLimit)
  (ht:IsTup s.heap t its) (hlo:-(2 ^ 63)<=i) (hhi:i<2 ^ 63) (hj:seqIndex? i its.size=some j) (hx:its[j]?=some (.int k u)) (hd:(x==("__debug__":Str))=false)
  (hbind:∀v,bindArgs (kla_fn "<lambda>" qual (lamPar x p1) (lamBody x i p2 p3 p4) (lamSc x) [] pm (.ref c') ctv) ⟨[v],[]⟩=pure [(x,v)]) :
  wpAny (model prog w) A (call (.ref f) [.ref t]) (KeyEnd s.heap k s) (λ_ _=>False) s:=by
 refine wpAny_call ?_
 refine kla_callFunE hroom ho rfl rfl rfl rfl hcd ?_
 rw[hbind]
 refine wpAny_pure (wpAny_newFunctionEnv (λy hy=>?_) (λy hy=>?_) (λh₁ hns hsb=>⟨lim.fresh _ hsb,?_⟩) rfl)
 ·rw[zG.mp hy];exact λz=>nomatch z
 ·rw[zG.mp hy]
  show List.lookup x [(x,NameKind.local)]=_
  simp [List.lookup]
 ·have hk₁:Kept s.heap h₁:=λb o e=>hsb.extBut b o (zW (Heap.lt_size e)) (Heap.get?_push_of_some _ e)
  refine kla_codeExpr (wpAny_mono (Q:=λv s'=>KeyEnd s.heap k s v s') (E:=λ_ _=>False) ?_ (λv s' h'=>h') λ_ _ h'=>h'.elim)
  refine Subscript_ (wpAny_Name (wpAny_loadName_local rfl ?_ hns (v:=.ref t) ?_ (wpAny_Constant_int ?_)) hd)
  ·show List.lookup x [(x,NameKind.local)]=_
   simp [List.lookup]
  ·show List.lookup x [(x,Value.ref t)]=_
   simp [List.lookup]
  ·have ht₁:IsTup h₁ t its:=let ⟨o,e,r⟩:=ht;⟨o,hk₁ _ _ e,r⟩
   refine subscriptTail_builtinR (x:=.int k u) (s:={ s with heap:=h₁,toks:=s.toks+[(x,Value.ref t)].length+1 }) ht₁.typeIs slot_tuple_getitem.lookup (getItem_tuple (j:=j) ht₁ hlo hhi hj hx ⟨rfl,h₁,_,u,rfl,rfl,hk₁⟩)
end
def codeO(c':Addr)(q:Str):HO:=.ext λh=>h.CodeRec (.ref c') q
theorem tP{h1 h2:Heap}{c':Addr}{q:Str}(x:h1.CodeRec (.ref c') q)(k:∀o,h1.get? c'=some o->h2.get? c'=some o):h2.CodeRec (.ref c') q:=by
 obtain⟨c,o,vs,t,e,ho,r⟩:=x
 cases e
 exact⟨c',o,vs,t,rfl,k _ ho,r⟩
theorem BR{P:Program}{w:World}{H:Hp}{h:Heap}{c':Addr}{q:Str}(x:h.CodeRec (.ref c') q):ObjOk P w H h c' (codeO c' q):=by
 refine⟨x,?_,λh1 h2 x1 k=>tP x1 k⟩
 obtain⟨c,o,vs,t,e,ho,r⟩:=x
 cases e
 exact⟨o,ho⟩
section
variable{X:Cx}{pins:List (Addr×Obj)}{σ:St}{H:Hp}{s:Shared}
theorem Inv.grown{P c':Addr}{ps more:Array Value}{q:Str}{h':Heap}{t':Nat}(I:Inv X pins σ H s)(hP:H P=some (.tbl ps))(hx:Heap.ExtBut P s.heap h')(hc:s.heap.objs.size<=c')(hrec:h'.CodeRec (.ref c') q)
  (htb:h'.get? P=some (tabObj (ps++more))):Inv X pins σ (upd (upd H P (.tbl (ps++more))) c' (codeO c' q)) { s with heap:=h',toks:=t' }:=by
 have hcn:=I.hok.fresh hc
 have hcP:P≠c':=sC hP hcn
 have other:∀b,b≠P->b≠c'->upd (upd H P (.tbl (ps++more))) c' (codeO c' q) b=H b:=λb n1 n2=>by rw[sD n2,sD n1]
 have atP:upd (upd H P (.tbl (ps++more))) c' (codeO c' q) P=some (.tbl (ps++more)):=by rw[sD hcP,ss]
 have nP:∀b,H b=none->b≠P:=λb n z=>by subst z;rw[n]at hP;cases hP
 refine I.un ⟨λb o e n _ _=>hx b o (nP b n) e,λb o e n _ _=>⟨o.slots,hx b o (nP b n) e⟩,λb o e n _=>?_,λb o e _=>?_,λb xs e=>?_,λb o u e=>?_,λb qs e=>?_⟩ λb u e=>?_
 ·rw[other b (nP b n) (zW (zS (Heap.lt_size e) hc))];exact n
 ·by_cases hb:b=P
  ·subst hb;exact⟨_,htb⟩
  ·exact⟨o,hx b o hb e⟩
 ·rw[other b (tR e hP (λz=>nomatch z)) (sC e hcn)];exact e
 ·rw[other b (tR e hP (λz=>nomatch z)) (sC e hcn)];exact e
 ·by_cases hb:b=P
  ·subst hb
   rw[hP]at e;cases e
   exact⟨more,atP⟩
  ·exact⟨#[],by rw[other b hb (sC e hcn),e];simp⟩
 ·by_cases hb:b=c'
  ·subst hb
   rw[ss]at e;cases e
   exact BR hrec
  ·by_cases hbP:b=P
   ·subst hbP
    rw[atP]at e;cases e
    exact htb
   ·rw[other b hbP hb]at e
    refine(I.hok b u e).stay (λd v hd q=>hx d v (λz=>?_) q) (λd z=>?_) λd xs z=>?_
    ·subst z
     rcases hd with z|z
     ·exact hbP z.symm
     ·rw[hP]at z;cases z
    ·rw[other d (tR z hP (λz=>nomatch z)) (sC z hcn)];exact z
    ·rw[other d (tR z hP (λz=>nomatch z)) (sC z hcn)];exact z
end
def StabV(kz:List Int)(xs out:List V):Prop :=
 ∃is:List Nat,is.Perm (List.range xs.length)/\out=is.map (λi=>xs.getD i .non)/\is.Pairwise (λi j=>kz.getD i 0<kz.getD j 0\/(kz.getD i 0=kz.getD j 0/\i<j))
theorem xj{xs:List V}{vs:List Value}(r:Vals xs vs):∀is:List Nat,(∀i∈is,i<xs.length)->Vals (is.map λi=>xs.getD i .non) (is.map λi=>vs.getD i .none)
 | [],_=>.nil
 | i::is,h=>by
  have e:xs[i]?=some (xs.getD i .non):=by rw[zA,zB (h i (.head _))];rfl
  obtain⟨u,e2,r2⟩:=r.get e
  have e3:vs.getD i .none=u:=by rw[zA,e2];rfl
  refine .cons ?_ (xj r is λj hj=>h j (.tail _ hj))
  show RelV (xs.getD i .non) (vs.getD i .none)
  rw[e3];exact r2
theorem BB{kz:List Int}{xs:List V}{vs out:List Value}(r:Vals xs vs)(h:StabOut kz vs out):∃ys,Vals ys out/\StabV kz xs ys/\ys.length=xs.length:=by
 obtain⟨is,h1,h2,h3⟩:=h
 rw[←r.length]at h1
 subst h2
 exact⟨_,xj r is λi hi=>yO.mp (h1.mem_iff.mp hi),⟨is,h1,rfl,h3⟩,by rw[zC,h1.length_eq,yC]⟩
inductive rSrt(K:PySem.W.Frag)(P:Addr)(q:Str)(ln cl:Nat)(i:Int)(Q:VK)(v:V)(H1:Hp):Prop where
 | mk (l xs kz:_) (h_0:v=.ref l) (h_1:SqL K H1 l xs) (h_2:xs.length<64) (h_3:kz.length=xs.length) (h_4:(∀(j:Nat) x k,xs[j]?=some x->kz[j]?=some k->∃t ys,x=.ref t/\SqT K H1 t ys/\atI ys i=some (.int k))) (h_5:((H1 P=some (.tbl #[])/\∀c' D out,H1 c'=none->c'≠D->H1 D=none->StabV kz xs out->Q (.ref D) (upd (upd (upd H1 P (.tbl #[rawInt ln,rawInt cl,.ref c'])) c' (codeO c' q)) D (.lst out)))\/(∃c',H1 P=some (.tbl #[rawInt ln,rawInt cl,.ref c'])/\H1 c'=some (codeO c' q)/\∀D out,H1 D=none->StabV kz xs out->Q (.ref D) (upd H1 D (.lst out))))):rSrt K P q ln cl i Q v H1
def tSrt(K:PySem.W.Frag)(P:Addr)(q:Str)(ln cl:Nat)(i:Int)(ta:TE):TE:=fun σ H Q=>ta σ H (rSrt K P q ln cl i Q)
theorem Fr{X:Cx}{k:Nat}{c P:Addr}{q x nm:Str}{a:Expr}{ta:TE}{i:Int}{p kp p1 p2 p3 p4 lp pos:Pos}(hr:Room k X.A)(hg:Gl X nm)(hm:X.mg nm=none)(hv:bootBuiltins nm=some (.builtin "sorted"))
  (hcode:X.env.code=.ref c) (hq:X.env.qual++"<lambda>"=q) (C:CodeHd X.base c P) (hB:X.base.BuiltinsAt X.mg P) (ha:PE X a ta) (hd:(x==("__debug__":Str))=false)
  (hbind:∀(pm ctv:Value)(c':Addr) v,bindArgs (kla_fn "<lambda>" q (lamPar x p1) (lamBody x i p2 p3 p4) (lamSc x) [] pm (.ref c') ctv) ⟨[v],[]⟩=pure [(x,v)])
  (hcl:closureFor (lamSc x) X.env=pure []) (hdef:defaultsOf (lamPar x p1) X.env=([],[]))
  (hn:nm ≠ "__name__":=by decide) (hdb:(nm==("__debug__":Str))=false:=by decide)
  (hs:starEach [a] X.env=(false,eval a X.env)::starEach [] X.env:=by rfl) (he:backTo pos (starEach [a] X.env)=(false,eval a X.env)::backTo pos (starEach [] X.env):=by rfl)
  (hpl:(backTo pos (starEach [a] X.env)).any (·.1)=false:=by rfl) :
  PE X (.Call (.Name nm p) [a] [⟨some "key",.Lambda (lamPar x p1) (lamBody x i p2 p3 p4) (lamSc x) lp,kp⟩] pos) (tSrt X.K P q lp.line lp.col i ta):=by
 intro pins s σ H Q I h
 refine wpAny_Call_Name_kw (uJ I hg hm hv ?_ hn hdb)
 have core:∀(l:Addr)(xs:List V)(kz:List Int)(s2:Shared)(H2:Hp)(f c':Addr)(pm ctv:Value),Inv X pins σ H2 s2->xs.length<64->kz.length=xs.length ->
   s2.heap.get? f=some (kla_obj "<lambda>" q (lamPar x p1) (lamBody x i p2 p3 p4) (lamSc x) [] pm c' ctv)->s2.heap.CodeRec (.ref c') q->SqL X.K H2 l xs ->
   (∀(j:Nat) x k,xs[j]?=some x->kz[j]?=some k->∃t ys,x=.ref t/\SqT X.K H2 t ys/\atI ys i=some (.int k)) ->
   (∀D out,H2 D=none->StabV kz xs out->Q (.ref D) (upd H2 D (.lst out))) ->
   wpAny (model X.prog X.w) X.A (call (.builtin "sorted") [.ref l] [(Str.ofString "key",.ref f)]) (EP X pins σ Q) X.xe s2:=by
  intro l xs kz s2 H2 f c' pm ctv I2 h64 hlen hf hcd hl hkeys hQ
  obtain⟨its,r,hlst,hz⟩:=I2.list hl
  have hrl:=r.length
  refine Bc (vs:=its) (kz:=kz) (let ⟨o,n,e,hc,_,hd⟩:=hlst;⟨o,e,hc,n,hd⟩) (by omega) (by omega) (ksk_s1 _ _) (λ_=>ksk_l1 _ _) (λ_=>ksk_t1 _ _) (λj v k hv hk h tk kp=>?_) λD h' tk out cc kp hD hget hstab=>?_
  ·have hj:j<xs.length:=by rw[hrl];exact(zD.mp hv).1
   have ex:xs[j]?=some xs[j]:=zB hj
   obtain⟨u,hu,ru⟩:=r.get ex
   rw[hv]at hu
   cases hu
   obtain⟨t,ys,e1,ht,hat⟩:=hkeys j _ k ex hk
   rw[e1]at ru
   cases ru
   obtain⟨jts,r2,pl,hz2⟩:=I2.tuple ht
   obtain⟨n,h1,h2,h3,h4,h5⟩:=xC hat
   obtain⟨w,ew,rw'⟩:=r2.get h2
   obtain⟨tok,rfl⟩:=rw'
   have hl2:=r2.length
   have hn:=wV
   have pl':IsTup h t jts.toArray:=let ⟨o,e,r⟩:=pl;⟨o,kp _ _ e,r⟩
   exact F_ (s:={ s2 with heap:=h,toks:=tk }) (A:=X.A.in1.in1) (kp _ _ hf) (tP hcd λo e=>kp _ _ e) hr.depth (I2.nolimit.keeps kp) pl' (by omega) (by omega) (by rw[zT,←hl2];exact h1) (by simpa using ew) hd (hbind pm ctv c')
  ·obtain⟨ys,rv,sv,lv⟩:=BB r hstab
   exact⟨.ref D,upd H2 D (.lst ys),I2.laid (t':=tk) kp hD ⟨by rw[lv];exact hz,out.toList,cc,rv,by simpa using hget⟩,rfl,hQ D ys (I2.hok.fresh hD) sv⟩
 refine callWith_kw (thn (sf ha sh hs pos pins s σ H (λvs H1=>match vs with|[v]=>rSrt X.K P q lp.line lp.col i Q v H1|_=>False) I h) ?_) he hpl
 rintro us s1 ⟨vs,H1,I1,r,q1⟩
 match vs,r,q1 with
 | [v],r,q1 =>
 obtain⟨l,xs,kz,rfl,hl,h64,hlen,hkeys,hT⟩:=q1
 cases r with
 | cons r0 r1 =>
 cases r1
 cases r0
 refine kws_cons (kla_eval hdef ?_)
 rw[hq]
 have C1:=C.keeps I1.bk
 have hB1:=hB.keeps I1.bk
 have hge:X.env.globals=mainGlobals:=I1.ok.glob
 have hgs:s1.heap.Ns mainGlobals X.mg:=I1.mod.glob.keeps I1.bk
 rcases hT with ⟨hP,hQ⟩|⟨c',hP,hc',hQ⟩
 ·have hPo:s1.heap.get? P=some (tabObj #[]):=I1.hok _ _ hP
  have hgP:mainGlobals≠P:=λz=>by
   obtain⟨o,es,ep,e,hd',_⟩:=hgs
   rw[z,hPo]at e;cases e;cases hd'
  refine kla_makeFunction (mg:=X.mg) hcl hge hgs hcode C1 hPo True.intro rfl hgP hB1 λc' ctv h' tk hx hge' hlt hrec htb=>?_
  refine kws_nil ?_
  have I2:=(I1.grown (t':=tk) hP hx hge' hrec htb).kept (t':=tk) (h':=h'.push (kla_obj "<lambda>" q (lamPar x p1) (lamBody x i p2 p3 p4) (lamSc x) [] ((X.mg "__name__").getD .none) c' ctv)) λb o e=>Heap.get?_push_of_some _ e
  have hcn:=I1.hok.fresh hge'
  have oth:∀{b:Addr}{u:HO},Rd H1 b u->(∀ps,u≠.tbl ps)->Rd (upd (upd H1 P (.tbl (#[]++#[rawInt lp.line,rawInt lp.col,.ref c']))) c' (codeO c' q)) b u:=fun {b u} hb hu=>by
   rcases hb with hb|⟨o,hb⟩
   ·exact .inl (by rw[sD (sC hb hcn),sD (tR hb hP (hu _))];exact hb)
   ·exact .inr ⟨o,by rw[sD (sC hb hcn),sD (tR hb hP (λz=>nomatch z))];exact hb⟩
  refine core l xs kz _ _ _ c' _ ctv I2 h64 hlen (Heap.get?_push_size _ rfl) (tP hrec λo e=>Heap.get?_push_of_some _ e) ?_ (λj y k ej ek=>?_) λD out hD st=>?_
  ·rcases hl with hl|hl
   ·exact .inl (oth hl λ_ z=>nomatch z)
   ·exact .inr hl
  ·obtain⟨t,ys,e1,ht,hat⟩:=hkeys j y k ej ek
   refine⟨t,ys,e1,?_,hat⟩
   rcases ht with ht|ht
   ·exact .inl (oth ht λ_ z=>nomatch z)
   ·exact .inr ht
  ·have n1:D≠c':=λz=>by rw[z,ss]at hD;cases hD
   rw[sD n1]at hD
   have n2:D≠P:=λz=>by rw[z,ss]at hD;cases hD
   rw[sD n2]at hD
   exact hQ c' D out hcn n1.symm hD st
 ·have hPo:s1.heap.get? P=some (tabObj #[rawInt lp.line,rawInt lp.col,.ref c']):=I1.hok _ _ hP
  have hrec:s1.heap.CodeRec (.ref c') q:=(I1.hok _ _ hc').1
  refine kla_makeFunctionHit (mg:=X.mg) (cv:=.ref c') hcl hge hgs hcode C1 hPo (by simp [TriplesOk,rawInt]) (by simp [codeAmong,rawInt]) hB1 λctv h' tk hk _=>?_
  refine kws_nil ?_
  have kp:Kept s1.heap (h'.push (kla_obj "<lambda>" q (lamPar x p1) (lamBody x i p2 p3 p4) (lamSc x) [] ((X.mg "__name__").getD .none) c' ctv)):=λb o e=>Heap.get?_push_of_some _ (hk b o e)
  exact core l xs kz _ _ _ c' _ ctv (I1.kept (t':=tk) kp) h64 hlen (Heap.get?_push_size _ rfl) (tP hrec λo e=>kp _ _ e) hl hkeys λD out hD st=>hQ D out hD st
end L2
namespace L2
open PySem PySem.Spec PyProof.Rows PySem.W
structure Tab(K:PySem.W.Frag)(mg:Str->Option Value)(h:Heap)(c P:Addr):Prop where
 hd:CodeHd h c P
 bl:h.BuiltinsAt mg P
def OnlyT(tabs:List (Addr×Addr))(H:Hp):Prop:=∀b,(b∈tabs.map (·.2)/\H b=some (.tbl #[]))\/(b∉tabs.map (·.2)/\(H b=none\/∃o xs,H b=some (.frz o (.lst xs))))
theorem law_callT{P:Program}{w:World}{K:PySem.W.Frag}{mg mb:Str->Option Value}{CX:CXT}{k:Nat}{fa a:Addr}{fd:FuncData}{x:Str}{sp:Sp}{s₁:Shared}{vs:List Value}{ns:List Int}{tabs:List (Addr×Addr)}
  (KX:K.In s₁.heap) (hns:s₁.heap.Ns mainGlobals mg) (hb:s₁.heap.Ns builtinsNs mb) (hbb:∀x:Str,x ≠ "__name__"->mb x=bootBuiltins x) (hlim:s₁.heap.NoLimit) (hg:s₁.gens=#[])
  (ha:s₁.heap.get? a=some { cls:=.type "list",data:=.seq vs.toArray }) (hi:IntsAre vs ns) (hl:ns.length<=sizeLine) (hr:Room k callerA)
  (hT:∀q∈tabs,Tab K mg s₁.heap q.1 q.2/\s₁.heap.get? q.2=some (tabObj #[])/\K.lookup q.2=none)
  (F:∀base:Heap,K.In base->base.Ns mainGlobals mg->(∀q∈tabs,Tab K mg base q.1 q.2)->FnOk P w K mg base CX k fa fd [x] sp) (hbind:∀(s:Shared)(u:Value),BindsTo s fd ⟨[u],[]⟩ [(x,u)])
  (hsp:∀H:Hp,OnlyT tabs H->SqL K H a (ns.map V.int)->sp [.ref a] H (λv _=>v=.bl true) λ_ _ _=>False)
  (hCX:∀H e s',CX [] H s₁ (λ_ _ _=>False) e s'->False) :
  codeAny (model P w) callerA (.call (.ref fa) ⟨[.ref a],[]⟩) (λr s'=>r=.ok (.ret (.bool true))/\OldK s₁.heap s'.heap/\s'.os=s₁.os/\AllBare s'.gens) s₁:=by
 have rv:=u8 hi
 have lenV:=hi.length
 have tabAt:∀{b:Addr},b∈tabs.map (·.2)->∃c,Tab K mg s₁.heap c b/\s₁.heap.get? b=some (tabObj #[])/\K.lookup b=none:=fun {b} hb=>by
  obtain⟨q,hq,rfl⟩:=yI.mp hb
  exact⟨q.1,hT q hq⟩
 have naT:a∉tabs.map (·.2):=λz=>by
  obtain⟨c,_,e,_⟩:=tabAt z
  rw[ha]at e;cases e
 have core:∀H:Hp,OnlyT tabs H->SqL K H a (ns.map V.int)->HOk P w H s₁.heap->(∀b,H b≠none->b=a\/b∈tabs.map (·.2))->(H a≠none->K.lookup a=none) ->
   codeAny (model P w) callerA (.call (.ref fa) ⟨[.ref a],[]⟩) (λr s'=>r=.ok (.ret (.bool true))/\OldK s₁.heap s'.heap/\s'.os=s₁.os/\AllBare s'.gens) s₁:=by
  intro H hO hS hok hA hK
  have base_of:∀{b:Addr}{o:Obj},s₁.heap.get? b=some o->H b=none->(hidT s₁.heap H).get? b=some o:=λe n=>BP e n
  have noA':∀{b:Addr}{o:Obj},s₁.heap.get? b=some o->o≠{ cls:=.type "list",data:=.seq vs.toArray }->o≠tabObj #[]->H b=none:=fun {b o} e n1 n2=>by
   cases q:H b with
   | none=>rfl
   | some u =>
    rcases hA b (by rw[q];simp)with e'|e'
    ·subst e'
     rw[ha]at e;cases e
     exact absurd rfl n1
    ·obtain⟨c,_,e2,_⟩:=tabAt e'
     rw[e]at e2;cases e2
     exact absurd rfl n2
  have noA:∀{b:Addr}{o:Obj}{es:Array DictEntry}{ep:Nat},s₁.heap.get? b=some o->o.data=.dict es ep->H b=none:=fun {b o es ep} e d =>
   noA' e (λz=>by subst z;cases d) (λz=>by subst z;cases d)
  have nsK:∀{b:Addr}{m:Str->Option Value},s₁.heap.Ns b m->(hidT s₁.heap H).Ns b m:=fun {b m} ⟨o,es,ep,e,d,r⟩=>⟨o,es,ep,base_of e (noA e d),d,r⟩
  have hKb:K.In (hidT s₁.heap H):=λb o e=>base_of (KX b o e) (by
   cases q:H b with
   | none=>rfl
   | some u =>
    rcases hA b (by rw[q];simp)with e'|e'
    ·subst e'
     rw[hK (by rw[q];simp)]at e;cases e
    ·obtain⟨c,_,_,e2⟩:=tabAt e'
     rw[e]at e2;cases e2)
  have hTb:∀q∈tabs,Tab K mg (hidT s₁.heap H) q.1 q.2:=λq hq=>by
   obtain⟨⟨⟨o,vs',file,tf,flags,tg,inF,text,tt,e,hc,hd,r⟩,⟨bm,ob,b1,b2,b3,b4,b5,b6,b7,b8⟩⟩,_,_⟩:=hT q hq
   exact⟨⟨o,vs',file,tf,flags,tg,inF,text,tt,base_of e (noA' e (λz=>by subst z;cases hd) (λz=>by subst z;cases hc)),hc,hd,r⟩,
    ⟨bm,ob,b1,b2,b3,b4,base_of b5 (noA' b5 (λz=>by subst z;cases b8) (λz=>by subst z;cases b6)),b6,b7,b8⟩⟩
  have hM:Mod K mg (hidT s₁.heap H):=⟨hKb,nsK hns,⟨mb,nsK hb,hbb⟩,let ⟨mc,h1,h2⟩:=hlim;⟨mc,nsK h1,h2⟩⟩
  have e0:Env0 P w K mg (hidT s₁.heap H) callerA [] s₁ H:=⟨rfl,hM,λb o e=>Ey e,j4 (BE _ _),trivial,λb hb=>absurd (show b∈([]:List Addr)from hb) (by simp),hok,.of_eq hg⟩
  refine codeAny_mono ((F _ hKb (nsK hns) hTb).run callerA [] s₁ H ⟨[.ref a],[]⟩ [.ref a] [.ref a] _ _ hr e0 (hbind s₁ (.ref a)) (.cons rfl .nil) (hsp H hO hS)) λr s' h=>?_
  cases r with
  | error e=>exact(hCX H e s' h).elim
  | ok fl =>
   cases fl with
   | next=>exact False.elim h
   | brk=>exact False.elim h
   | cont=>exact False.elim h
   | ret u =>
    obtain⟨v,H',os,bare,un,hok',r',q⟩:=h
    have q':v=.bl true:=q
    subst q'
    obtain rfl:u=Value.bool true:=r'
    have kp:∀b o,s₁.heap.get? b=some o->b∉tabs.map (·.2)->s'.heap.get? b=some o:=λb o e hb'=>by
     rcases hO b with ⟨z,_⟩|⟨_,z|⟨ob,xs,z⟩⟩
     ·exact absurd z hb'
     ·exact un.keep b o e z (by intro z;exact absurd (show b∈([]:List Addr)from z) (by simp)) (by simp)
     ·have z2:=un.frzs b ob _ z
      obtain⟨e1,_⟩:=hok b _ z
      obtain⟨e2,_⟩:=hok' b _ z2
      rw[e]at e1;cases e1
      exact e2
    have tb:∀b,b∈tabs.map (·.2)->∃more,s'.heap.get? b=some (tabObj (#[]++more)):=λb hb'=>by
     rcases hO b with ⟨_,z⟩|⟨z,_⟩
     ·obtain⟨more,z2⟩:=un.tbls b _ z
      exact⟨more,hok' b _ z2⟩
     ·exact absurd hb' z
    refine⟨rfl,⟨λb o e=>?_,λb o e=>?_⟩,os,bare⟩
    ·by_cases hb':b∈tabs.map (·.2)
     ·obtain⟨more,e2⟩:=tb b hb'
      obtain⟨c,t,e3,_⟩:=tabAt hb'
      rw[e]at e3;cases e3
      exact .inr (.inl ⟨(t.hd.tab e).isCodeTable,rfl,#[],more,rfl,e2⟩)
     ·exact .inl (kp b o e hb')
    ·by_cases hb':b∈tabs.map (·.2)
     ·obtain⟨more,e2⟩:=tb b hb'
      exact⟨_,e2⟩
     ·exact⟨o,kp b o e hb'⟩
 cases hk:K.lookup a with
 | some o =>
  have e:=KX a o hk
  rw[ha]at e
  cases e
  refine core (λb=>if b∈tabs.map (·.2)then some (.tbl #[])else none) (λb=>?_) (.inr ⟨_,vs.toArray,_,hk,rfl,rfl,rfl,by rw[zT,lenV];exact hl,by simpa using rv⟩) (λb u z=>?_) (λb z=>?_) λz=>absurd (if_neg naT) z
  ·by_cases hb':b∈tabs.map (·.2)
   ·exact .inl ⟨hb',if_pos hb'⟩
   ·exact .inr ⟨hb',.inl (if_neg hb')⟩
  ·by_cases hb':b∈tabs.map (·.2)
   ·have z':=(if_pos hb').symm.trans z
    cases z'
    obtain⟨c,_,e3,_⟩:=tabAt hb'
    exact e3
   ·have z':=(if_neg hb').symm.trans z
    cases z'
  ·by_cases hb':b∈tabs.map (·.2)
   ·exact .inr hb'
   ·exact absurd (if_neg hb') z
 | none =>
  refine core (λb=>if b∈tabs.map (·.2)then some (.tbl #[])else if b=a then some (.frz { cls:=.type "list",data:=.seq vs.toArray } (.lst (ns.map V.int)))else none) (λb=>?_)
   (.inl (.inr ⟨{ cls:=.type "list",data:=.seq vs.toArray },(if_neg naT).trans (if_pos rfl)⟩)) (λb u z=>?_) (λb z=>?_) λ_=>hk
  ·by_cases hb':b∈tabs.map (·.2)
   ·exact .inl ⟨hb',if_pos hb'⟩
   ·refine .inr ⟨hb',?_⟩
    by_cases hba:b=a
    ·exact .inr ⟨_,_,(if_neg hb').trans (if_pos hba)⟩
    ·exact .inl ((if_neg hb').trans (if_neg hba))
  ·by_cases hb':b∈tabs.map (·.2)
   ·have z':=(if_pos hb').symm.trans z
    cases z'
    obtain⟨c,_,e3,_⟩:=tabAt hb'
    exact e3
   ·have z':=(if_neg hb').symm.trans z
    by_cases hba:b=a
    ·have z2:=(if_pos hba).symm.trans z'
     cases z2
     subst hba
     exact⟨ha,by rw[zC];exact hl,vs,_,rv,ha⟩
    ·have z2:=(if_neg hba).symm.trans z'
     cases z2
  ·by_cases hb':b∈tabs.map (·.2)
   ·exact .inr hb'
   ·by_cases hba:b=a
    ·exact .inl hba
    ·exact absurd ((if_neg hb').trans (if_neg hba)) z
end L2
namespace L2
open PySem PySem.Spec PyProof.Rows PySem.W
theorem tabIn_of{K:PySem.W.Frag}{x:Str}{f c P:Addr}{oc oc':Value}{od od':Option Addr}{fd:FuncData}{vs:Array Value}{sl sl':Array (Option Value)}(e1:nsIn K mainGlobals x=some (some (.ref f)))(e2:K.lookup f=some ⟨oc,od,.func fd,sl⟩)(e3:fd.code=.ref c)
  (e4:K.lookup c=some ⟨oc',od',.fields vs,sl'⟩) (e5:vs[11]?=some (.ref P)):tabIn K x=some (c,P):=by
 unfold tabIn
 simp only [e1,e2,e3,e4,e5]
end L2
namespace L2
open PySem PySem.Spec PyProof.Rows PySem.W
section
variable{P:Program}{w:World}{K:PySem.W.Frag}{mg:Str->Option Value}{base:Heap}
theorem Fun.okC{x qual:Str}{st:Stmt}{f c:Addr}{fd:FuncData}{N ps:List Str}{k:Nat}{sp:Sp}(F:Fun K x qual st f fd)(hc:fd.code=.ref c)(S:FnScope N ps (defScope st))(len:∀vs H Q E,sp vs H Q E->vs.length=ps.length)
  (hbody:∀(A:Around)(outer:List Env)(s:Shared)(H:Hp)(vs:List V)(Q:VK)(E:XK),Room k (A.deeper (envOfC qual (defScope st) s.heap.objs.size f (.ref c)))->sp vs H Q E ->
   ∃t,PSs (cxOf CX0 P w K mg base N qual (defScope st) f (.ref c) A outer s H E).nox (defBody st) t/\t { nx:=λ_ H'=>Q .non H',rt:=Q } (start N vs) H):FnOk P w K mg base CX0 (k+1) f fd ps sp:=by
 obtain⟨oc,od,kV,doc,pm,an,cdv,ct,osl,rfl,lk,hcd⟩:=F.ex
 have e:cdv=.ref c:=hc
 subst e
 refine EE lk hcd S len λA outer s H vs Q E hr hsp=>?_
 obtain⟨t,h,q⟩:=hbody A outer s H vs Q E hr hsp
 exact⟨t,h.nox,q⟩
end
structure Sm(H H':Hp):Prop where
 keep:∀b u,H b=some u->(∀ps,u≠.tbl ps)->H' b=some u
 tabs:∀b ps,H b=some (.tbl ps)->∃ps',H' b=some (.tbl ps')
section
variable{H H' H'':Hp}{b p:Addr}{o:HO}{xs:List V}
theorem Sm.free(s:Sm H H')(n:H' b=none):H b=none:=by
 cases e:H b with
 | none=>rfl
 | some u =>
  by_cases h:∃ps,u=.tbl ps
  ·obtain⟨ps,rfl⟩:=h
   obtain⟨ps',e'⟩:=s.tabs b ps e
   rw[n]at e';cases e'
  ·rw[s.keep b u e λps z=>h ⟨ps,z⟩]at n;cases n
end
def LamT(P:Addr)(q:Str)(ln cl:Nat)(H:Hp):Prop:=H P=some (.tbl #[])\/∃c',H P=some (.tbl #[rawInt ln,rawInt cl,.ref c'])/\H c'=some (codeO c' q)
theorem LamT.same{P:Addr}{q:Str}{ln cl:Nat}{H H':Hp}(h:LamT P q ln cl H)(s:Same H H'):LamT P q ln cl H':=by
 rcases h with h|⟨c',h1,h2⟩
 ·exact .inl (s _ _ h)
 ·exact .inr ⟨c',s _ _ h1,s _ _ h2⟩
theorem LamT.updL{P p:Addr}{q:Str}{ln cl:Nat}{H:Hp}{xs:List V}{o:HO}(h:LamT P q ln cl H)(e:H p=some (.lst xs)):LamT P q ln cl (upd H p o):=by
 rcases h with h|⟨c',h1,h2⟩
 ·exact .inl (by rw[sD (tR h e λz=>nomatch z)];exact h)
 ·exact .inr ⟨c',by rw[sD (tR h1 e λz=>nomatch z)];exact h1,by rw[sD (tR h2 e λz=>nomatch z)];exact h2⟩
theorem wl{R:Nat->Nat->Prop}(asym:∀a b,R a b->R b a->False):∀{l₁ l₂:List Nat},l₁.Perm l₂->l₁.Pairwise R->l₂.Pairwise R->l₁=l₂
 | [],l₂,p,_,_=>by rw[List.nil_perm.mp p]
 | a::l₁,[],p,_,_=>by have:=p.length_eq;simp at this
 | a::l₁,b::l₂,p,h1,h2=>by
  have r1:=yS.mp h1
  have r2:=yS.mp h2
  have e:a=b:=by
   rcases zR.mp (p.mem_iff.mp (zJ (a:=a)))with e|m
   ·exact e
   ·rcases zR.mp (p.mem_iff.mpr (zJ (a:=b)))with e|m'
    ·exact e.symm
    ·exact(asym a b (r1.1 b m') (r2.1 a m)).elim
  subst e
  rw[wl asym (List.Perm.cons_inv p) r1.2 r2.2]
theorem DM{kz:List Int}{n m:Nat}{is:List Nat}(hb:∀i,i<n->0<=kz.getD i 0/\kz.getD i 0<m)(hp:is.Perm (List.range n))(hw:is.Pairwise (λi j=>kz.getD i 0<kz.getD j 0\/(kz.getD i 0=kz.getD j 0/\i<j))) :
  is=(List.range m).flatMap λ(t:Nat)=>(List.range n).filter λi=>kz.getD i 0==(t:Int):=by
 have hj:((List.range m).flatMap λ(t:Nat)=>(List.range n).filter λi=>kz.getD i 0==(t:Int)).Pairwise (λi j=>kz.getD i 0<kz.getD j 0\/(kz.getD i 0=kz.getD j 0/\i<j)):=by
  rw[vE]
  refine⟨λt _=>?_,?_⟩
  ·have h1:((List.range n).filter λi=>kz.getD i 0==(t:Int)).Pairwise (· < ·):=List.Pairwise.filter _ jS
   refine List.Pairwise.imp_of_mem (fun {i j} hi hj h=>?_) h1
   have e1:=(yG.mp hi).2
   have e2:=(yG.mp hj).2
   simp at e1 e2
   exact .inr ⟨by simp;omega,h⟩
  ·refine List.Pairwise.imp (fun {t u} h i hi j hj=>?_) (jS (n:=m))
   have e1:=(yG.mp hi).2
   have e2:=(yG.mp hj).2
   simp at e1 e2
   exact .inl (by simp;omega)
 refine wl (λa b h1 h2=>by omega) (hp.trans ?_) hw hj
 refine(List.perm_ext_iff_of_nodup List.nodup_range (hj.imp λh e=>by subst e;omega)).mpr λi=>?_
 rw[yO,jR]
 constructor
 ·intro h
  obtain⟨h1,h2⟩:=hb i h
  refine⟨(kz.getD i 0).toNat,yO.mpr (by omega),yG.mpr ⟨yO.mpr h,?_⟩⟩
  have:((kz.getD i 0).toNat:Int)=kz.getD i 0:=by omega
  rw[this]
  simp
 ·rintro⟨t,_,h⟩
  exact yO.mp (yG.mp h).1
theorem xW{α:Type}(d:α)(f:α->Bool):∀L:List α,((List.range L.length).filter λi=>f (L.getD i d)).map (λi=>L.getD i d)=L.filter f:=λL=>by
 have e:L=(List.range L.length).map λi=>L.getD i d:=by
  refine jE λk=>?_
  rw[zF]
  by_cases h:k<L.length
  ·rw[yR h,zB h]
   show _=some (L.getD k d)
   rw[zA,zB h]
   rfl
  ·rw[yH (by omega),yH (by simp;omega)]
   rfl
 conv=>rhs;rw[e]
 rw[List.filter_map]
 rfl
theorem zf{α:Type}(d:α)(key:α->Int){L:List α}{m:Nat}{is:List Nat}(hb:∀x∈L,0<=key x/\key x<m)(hp:is.Perm (List.range L.length))
  (hw:is.Pairwise (λi j=>(L.map key).getD i 0<(L.map key).getD j 0\/((L.map key).getD i 0=(L.map key).getD j 0/\i<j))) :
  is.map (λi=>L.getD i d)=(List.range m).flatMap λ(t:Nat)=>L.filter λx=>key x==(t:Int):=by
 have eg:∀i,i<L.length->(L.map key).getD i 0=key (L.getD i d):=λi h=>by
  rw[zA,zF,zB h,zA,zB h]
  rfl
 have hm:∀i,i<L.length->L.getD i d∈L:=λi h=>by
  rw[zA,zB h]
  exact kG h
 rw[DM (n:=L.length) (m:=m) (λi h=>by rw[eg i h];exact hb _ (hm i h)) hp hw,List.map_flatMap]
 congr 1
 funext t
 rw[←xW d (λx=>key x==(t:Int)) L]
 congr 1
 refine List.filter_congr λi hi=>?_
 rw[eg i (yO.mp hi)]
theorem wg{α:Type}{F:V->α->Prop}(d:α){xs:List V}{L:List α}(r:Paired F xs L):∀is:List Nat,(∀i∈is,i<xs.length)->Paired F (is.map λi=>xs.getD i .non) (is.map λi=>L.getD i d)
 | [],_=>.nil
 | i::is,h=>by
  have e:xs[i]?=some (xs.getD i .non):=by rw[zA,zB (h i (.head _))];rfl
  obtain⟨u,e2,r2⟩:=PySem.Paired.getL r e
  have e3:L.getD i d=u:=by rw[zA,e2];rfl
  refine .cons ?_ (wg d r is λj hj=>h j (.tail _ hj))
  show F (xs.getD i .non) (L.getD i d)
  rw[e3];exact r2
end L2
namespace L2
open PySem PySem.Spec PyProof.Rows
section
variable{X:Cx}
theorem Bu(hc:X.calm=true):CallR X (.builtin "all") (λxs H Q=>∃(p:Addr)(bs:List Bool),xs=[.ref p]/\SqL X.K H p (bs.map V.bl)/\Q (.bl (bs.all id)) H):=by
 intro pins s σ H xs us Q I r h
 obtain⟨p,bs,rfl,hq,q⟩:=h
 obtain⟨u,rfl,ru⟩:=vj r
 cases ru
 obtain⟨its,rv,pl,hz⟩:=I.list hq
 have hl:=rv.length
 rw[zC]at hl
 have lt:p<s.heap.objs.size:=by obtain⟨o,e,_⟩:=pl.isList;exact Heap.lt_size e
 refine call_all_walk (wpAny_pyIter_list pl.isList ?_)
 refine⟨_,_,_,_,_,_,λi=>bs.getD i true,rfl,Walks.list (A:=X.A.in1) (I.ok.hd hc) s.heap.objs.size p (zW lt) its.toArray,⟨⟨_,Heap.get?_push_size _ rfl,rfl,rfl⟩,pl.isList.push _⟩,?_,λh' tk k=>?_⟩
 ·intro i v s' Q' E' hP hQ
  have hi:its[i]?=some v:=by simpa using hP
  have hil:i<bs.length:=by have:=(zD.mp hi).1;omega
  obtain⟨u,hu,ru⟩:=rv.get (i:=i) (x:=V.bl bs[i]) (by rw[zF,zB hil];rfl)
  rw[hi]at hu
  cases hu
  cases (show v=Value.bool bs[i]from ru)
  refine wpAny_truthy_bool ?_
  have e:bs.getD i true=bs[i]:=by rw[zA,zB hil];rfl
  rw[←e]
  exact hQ
 ·refine⟨.bl _,H,I.kept (t':=tk) λb o e=>k b o (λz=>?_) (Heap.get?_push_of_some _ e),rfl,?_⟩
  ·rw[zG.mp z]at e
   exact absurd (Heap.lt_size e) (qP _)
  ·have e:(List.range its.toArray.size).all (λi=>bs.getD i true)=bs.all id:=by
    rw[zT,←hl]
    clear q hq hl rv hz
    induction bs with
    | nil=>rfl
    | cons b bs ih=>rw[zX,k6,j2,vC,j2];exact congrArg (b&&·) ih
   show Q (.bl _) H
   rw[e]
   exact q
end
end L2
namespace L2
open PySem PySem.Spec PyProof.Rows
section
variable{X:Cx}{tg:Expr}
end
end L2
namespace L2
open PySem PySem.Spec PyProof.Rows
section
variable{X:Cx}{o e:Expr}{apos cpos:Pos}{ty:TE}
end
end L2
namespace L2
open PySem PyProof.Rows
theorem uZ:(toString "min"++toString ".loop":String)="min.loop":=by decide
def itO(l:Addr):Obj:={ cls:=.type "list_iterator",data:=.fields #[.ref l,.int 0 0] }
def TupK(h h':Heap):Prop:=∀b o,o.cls=.type "tuple"->h.get? b=some o->h'.get? b=some o
theorem vL{h:Heap}{S:Addr}{f:Obj->Obj}{o:Obj}(hS:h.get? S=some o)(hc:o.cls=.type "list"):TupK h (h.update S f):=λb ob hb e=>by
 have hne:S≠b:=λz=>by
  subst z
  rw[hS]at e
  cases e
  rw[hc]at hb
  exact absurd hb (by decide)
 exact(Heap.get?_update_other _ _ hne).trans e
theorem AZ{h h':Heap}{I l:Addr}{j:Nat}(hI:h.IsListIter I l j)(hk:∀b o,b∉[I]->h.get? b=some o->h'.get? b=some o):TupK h h':=λb ob hb e=>by
 refine hk b ob (λz=>?_) e
 obtain⟨o,e1,hc,_⟩:=hI
 rw[zG.mp z,e1]at e
 cases e
 rw[hc]at hb
 exact absurd hb (by decide)
section
variable{prog:Program}{w:World}{A:Around}{R:Result->Shared->Prop}{I S l:Addr}{vs:List Value}{KI:Heap->Nat->Value->Prop}{bt:Nat->Nat->Bool}{kw:List (Str×Value)}
theorem C8(hh:A.handled=none)(hlI:l≠I)(hSI:S≠I)(hlS:l≠S)(s₀:Shared)(turn:∀h i v,vs[i]?=some v->KI h i v)
  (mono:∀h h' i u,KI h i u->TupK h h'->KI h' i u) (hcmp:∀i j u v (s:Shared) (Q E:Value->Shared->Prop),KI s.heap i u->KI s.heap j v->Q (.bool (bt i j)) s->wpAny (model prog w) A.in1 (richCompare .Lt u v) Q E s)
  (hfI:s₀.heap.get? I=none) (hfS:s₀.heap.get? S=none)
  (hR:∀v h' tk,vs[argBest bt (vs.length-1)]?=some v->Kept s₀.heap h'->R (.ok (.ret v)) { s₀ with heap:=h',toks:=tk }) :
  ∀(k j:Nat)(h:Heap)(tk:Nat)(vb kb:Value)(c:Nat),vs.length-(j+1)=k->j+1<=vs.length->Kept s₀.heap h->h.IsListIter I l (j+1)->h.IsList l vs.toArray->KI h (argBest bt j) kb->vs[argBest bt j]?=some vb ->
   h.get? S=some (seqObj "list" #[vb,kb] c)->
   codeAny (model prog w) A (.builtin "min.loop" ⟨[.ref I,.none,.ref S],kw⟩) R { s₀ with heap:=h,toks:=tk }:=by
 have W:=Walks.list (prog:=prog) (w:=w) (A:=A.in1) hh I l hlI vs.toArray
 have hsz:vs.toArray.size=vs.length:=zT ..
 intro k
 induction k with
 | zero =>
  intro j h tk vb kb c hk hj K0 hit hls hK hvb hS 
  have hin:j+1=vs.length:=by omega
  refine codeAny_builtin PySem.F.entry_min_loop (by
   rw[Around.under_plainId PySem.F.plain_min_loop _]
   refine wpAny_bind (m:=seqItems? (.ref S)) (wpAny_seqItems hS rfl (wpAny_bind (wpAny_tryCatch (W.done _ _ _ ⟨by rw[hsz,←hin];exact hit,hls⟩ λh' tk' hk'=>?_))))
   have hS':=hk' S _ (λz=>hSI (zG.mp z)) hS
   refine wpAny_bind (m:=updateSeq S (λ_=>#[])) (wpAny_updateSeq hS' rfl (wpAny_bind (wpAny_letGo (wpAny_pure ?_))))
   refine hR vb _ _ (by rw[←hin];exact hvb) λb o e=>?_
   have n1:b≠S:=λz=>by rw[z,hfS]at e;cases e
   have n2:b≠I:=λz=>by rw[z,hfI]at e;cases e
   exact(Heap.get?_update_other _ _ (Ne.symm n1)).trans (hk' b o (λz=>n2 (zG.mp z)) (K0 b o e)))
 | succ k ih =>
  intro j h tk vb kb c hk hj K0 hit hls hK hvb hS 
  have hlt:j+1<vs.length:=by omega
  refine codeAny_builtin PySem.F.entry_min_loop (by
   rw[Around.under_plainId PySem.F.plain_min_loop _]
   refine wpAny_bind (m:=seqItems? (.ref S)) (wpAny_seqItems hS rfl (wpAny_bind (wpAny_tryCatch (W.item (j+1) _ _ _ (by rw[hsz];exact hlt) ⟨hit,hls⟩ λv h' tk' hP hst' hk'=>?_))))
   have hv:vs[j+1]?=some v:=by simpa using hP
   have hS':=hk' S _ (λz=>hSI (zG.mp z)) hS
   have T1:=AZ hit hk'
   have K1:Kept s₀.heap h':=λb o e=>hk' b o (λz=>by rw[zG.mp z,hfI]at e;cases e) (K0 b o e)
   obtain⟨h2,u,tk2,e2,st2,K2,hS2,hKu,hKb⟩:∃(h2:Heap)(u:Value)(tk2:Nat),(h2=h'/\v=u/\tk'=tk2)/\(h2.IsListIter I l (j+1+1)/\h2.IsList l vs.toArray)/\Kept s₀.heap h2/\h2.get? S=some (seqObj "list" #[vb,kb] c)/\KI h2 (j+1) u/\KI h2 (argBest bt j) kb :=
    ⟨h',v,tk',⟨rfl,rfl,rfl⟩,hst',K1,hS',turn _ _ _ hv,mono _ _ _ _ hK T1⟩
   obtain⟨rfl,rfl,rfl⟩:=e2
   refine wpAny_bind (wpAny_pure (wpAny_bind (wpAny_tryCatch (wpAny_holding (wpAny_bind (m:=richCompare .Lt v kb) (hcmp (j+1) (argBest bt j) v kb _ _ _ hKu hKb ?_))))))
   refine wpAny_bind (wpAny_holding (wpAny_truthy_bool (wpAny_bind (wpAny_letGo (wpAny_pure ?_)))))
   cases hb:bt (j+1) (argBest bt j) with
   | true =>
    simp only [if_true]
    refine wpAny_bind (wpAny_updateSeq hS2 rfl (wpAny_bind (wpAny_letGo ?_)))
    rw[uZ]
    have T3:TupK h2 (h2.update S (Obj.mapSeq λ_=>#[v,v])):=vL hS2 rfl
    have oth:∀b o,b≠S->h2.get? b=some o->(h2.update S (Obj.mapSeq λ_=>#[v,v])).get? b=some o:=λb o n e=>(Heap.get?_update_other _ _ (Ne.symm n)).trans e
    obtain⟨oI,i1,i2,i3⟩:=st2.1
    obtain⟨oL,l1,l2⟩:=st2.2
    refine wpAny_pure ⟨plainId_quiet PySem.F.plain_min_loop _,ih (j+1) _ _ v v _ (by omega) hlt (λb o e=>oth b o (λz=>by rw[z,hfS]at e;cases e) (K2 b o e)) ⟨oI,oth _ _ hSI.symm i1,i2,i3⟩ ⟨oL,oth _ _ hlS l1,l2⟩ ?_ ?_ (Heap.get?_update_self _ hS2 rfl) ⟩
    ·simp only [argBest,hb,if_true];exact mono _ _ _ _ hKu T3
    ·simp only [argBest,hb,if_true];exact hv
   | false =>
    simp only [yK,if_false]
    refine wpAny_bind (wpAny_letGo ?_)
    rw[uZ]
    refine wpAny_pure ⟨plainId_quiet PySem.F.plain_min_loop _,ih (j+1) _ _ vb kb _ (by omega) hlt K2 st2.1 st2.2 ?_ ?_ hS2 ⟩
    ·simp only [argBest,hb,yK,if_false];exact hKb
    ·simp only [argBest,hb,yK,if_false];exact hvb)
theorem BU{q:Addr}(hh:A.handled=none)(hlI:l≠I)(hSI:S≠I)(hlS:l≠S)(s₀:Shared)(turn:∀i v,vs[i]?=some v->∀h tk (Q E:Value->Shared->Prop),Kept s₀.heap h->(∀u h' tk',Kept h h'->KI h' i u->Q u { s₀ with heap:=h',toks:=tk' })->wpAny (model prog w) A.in1 (call (.ref q) [v]) Q E { s₀ with heap:=h,toks:=tk })
  (mono:∀h h' i u,KI h i u->TupK h h'->KI h' i u) (hcmp:∀i j u v (s:Shared) (Q E:Value->Shared->Prop),KI s.heap i u->KI s.heap j v->Q (.bool (bt i j)) s->wpAny (model prog w) A.in1 (richCompare .Lt u v) Q E s)
  (hfI:s₀.heap.get? I=none) (hfS:s₀.heap.get? S=none)
  (hR:∀v h' tk,vs[argBest bt (vs.length-1)]?=some v->Kept s₀.heap h'->R (.ok (.ret v)) { s₀ with heap:=h',toks:=tk }) :
  ∀(k j:Nat)(h:Heap)(tk:Nat)(vb kb:Value)(c:Nat),vs.length-(j+1)=k->j+1<=vs.length->Kept s₀.heap h->h.IsListIter I l (j+1)->h.IsList l vs.toArray->KI h (argBest bt j) kb->vs[argBest bt j]?=some vb ->
   h.get? S=some (seqObj "list" #[vb,kb] c)->
   codeAny (model prog w) A (.builtin "min.loop" ⟨[.ref I,.ref q,.ref S],kw⟩) R { s₀ with heap:=h,toks:=tk }:=by
 have W:=Walks.list (prog:=prog) (w:=w) (A:=A.in1) hh I l hlI vs.toArray
 have hsz:vs.toArray.size=vs.length:=zT ..
 intro k
 induction k with
 | zero =>
  intro j h tk vb kb c hk hj K0 hit hls hK hvb hS 
  have hin:j+1=vs.length:=by omega
  refine codeAny_builtin PySem.F.entry_min_loop (by
   rw[Around.under_plainId PySem.F.plain_min_loop _]
   refine wpAny_bind (m:=seqItems? (.ref S)) (wpAny_seqItems hS rfl (wpAny_bind (wpAny_tryCatch (W.done _ _ _ ⟨by rw[hsz,←hin];exact hit,hls⟩ λh' tk' hk'=>?_))))
   have hS':=hk' S _ (λz=>hSI (zG.mp z)) hS
   refine wpAny_bind (m:=updateSeq S (λ_=>#[])) (wpAny_updateSeq hS' rfl (wpAny_bind (wpAny_letGo (wpAny_pure ?_))))
   refine hR vb _ _ (by rw[←hin];exact hvb) λb o e=>?_
   have n1:b≠S:=λz=>by rw[z,hfS]at e;cases e
   have n2:b≠I:=λz=>by rw[z,hfI]at e;cases e
   exact(Heap.get?_update_other _ _ (Ne.symm n1)).trans (hk' b o (λz=>n2 (zG.mp z)) (K0 b o e)))
 | succ k ih =>
  intro j h tk vb kb c hk hj K0 hit hls hK hvb hS 
  have hlt:j+1<vs.length:=by omega
  refine codeAny_builtin PySem.F.entry_min_loop (by
   rw[Around.under_plainId PySem.F.plain_min_loop _]
   refine wpAny_bind (m:=seqItems? (.ref S)) (wpAny_seqItems hS rfl (wpAny_bind (wpAny_tryCatch (W.item (j+1) _ _ _ (by rw[hsz];exact hlt) ⟨hit,hls⟩ λv h' tk' hP hst' hk'=>?_))))
   have hv:vs[j+1]?=some v:=by simpa using hP
   have hS':=hk' S _ (λz=>hSI (zG.mp z)) hS
   have T1:=AZ hit hk'
   have K1:Kept s₀.heap h':=λb o e=>hk' b o (λz=>by rw[zG.mp z,hfI]at e;cases e) (K0 b o e)
   refine wpAny_bind (m:=tryCatch (holding [v] (call (.ref q) [v])) _) (wpAny_tryCatch (wpAny_holding (turn (j+1) v hv h' tk' _ _ K1 λu h2 tk2 k2 hKu=>?_)))
   obtain⟨oI,i1,i2,i3⟩:=hst'.1
   obtain⟨oL,l1,l2⟩:=hst'.2
   have st2:h2.IsListIter I l (j+1+1)/\h2.IsList l vs.toArray:=⟨⟨oI,k2 _ _ i1,i2,i3⟩,⟨oL,k2 _ _ l1,l2⟩⟩
   have K2:Kept s₀.heap h2:=λb o e=>k2 b o (K1 b o e)
   have hS2:=k2 _ _ hS'
   have hKb:KI h2 (argBest bt j) kb:=mono _ _ _ _ hK λb o c e=>k2 b o (T1 b o c e)
   refine wpAny_bind (wpAny_tryCatch (wpAny_holding (wpAny_bind (m:=richCompare .Lt u kb) (hcmp (j+1) (argBest bt j) u kb _ _ _ hKu hKb ?_))))
   refine wpAny_bind (wpAny_holding (wpAny_truthy_bool (wpAny_bind (wpAny_letGo (wpAny_pure ?_)))))
   cases hb:bt (j+1) (argBest bt j) with
   | true =>
    simp only [if_true]
    refine wpAny_bind (wpAny_updateSeq hS2 rfl (wpAny_bind (wpAny_letGo ?_)))
    rw[uZ]
    have T3:TupK h2 (h2.update S (Obj.mapSeq λ_=>#[v,u])):=vL hS2 rfl
    have oth:∀b o,b≠S->h2.get? b=some o->(h2.update S (Obj.mapSeq λ_=>#[v,u])).get? b=some o:=λb o n e=>(Heap.get?_update_other _ _ (Ne.symm n)).trans e
    obtain⟨oI,i1,i2,i3⟩:=st2.1
    obtain⟨oL,l1,l2⟩:=st2.2
    refine wpAny_pure ⟨plainId_quiet PySem.F.plain_min_loop _,ih (j+1) _ _ v u _ (by omega) hlt (λb o e=>oth b o (λz=>by rw[z,hfS]at e;cases e) (K2 b o e)) ⟨oI,oth _ _ hSI.symm i1,i2,i3⟩ ⟨oL,oth _ _ hlS l1,l2⟩ ?_ ?_ (Heap.get?_update_self _ hS2 rfl) ⟩
    ·simp only [argBest,hb,if_true];exact mono _ _ _ _ hKu T3
    ·simp only [argBest,hb,if_true];exact hv
   | false =>
    simp only [yK,if_false]
    refine wpAny_bind (wpAny_letGo ?_)
    rw[uZ]
    refine wpAny_pure ⟨plainId_quiet PySem.F.plain_min_loop _,ih (j+1) _ _ vb kb _ (by omega) hlt K2 st2.1 st2.2 ?_ ?_ hS2 ⟩
    ·simp only [argBest,hb,yK,if_false];exact hKb
    ·simp only [argBest,hb,yK,if_false];exact hvb)
theorem Dh{d:Value}{Q E:Value->Shared->Prop}{s:Shared}(hh:A.handled=none)(hl:s.heap.IsList l vs.toArray)(ha:argsOk "min" ⟨[.ref l],[(Str.ofString "default",d)]⟩)(turn:∀h i v,vs[i]?=some v->KI h i v)
  (mono:∀h h' i u,KI h i u->TupK h h'->KI h' i u) (hcmp:∀i j u v (s:Shared) (Q E:Value->Shared->Prop),KI s.heap i u->KI s.heap j v->Q (.bool (bt i j)) s->wpAny (model prog w) A.in1 (richCompare .Lt u v) Q E s)
  (hne:0<vs.length->∀v h' tk,vs[argBest bt (vs.length-1)]?=some v->Kept s.heap h'->Q v { s with heap:=h',toks:=tk })
  (hnil:vs.length=0->∀h' tk,Kept s.heap h'->Q d { s with heap:=h',toks:=tk }) :
  wpAny (model prog w) A (call (.builtin "min") [.ref l] [(Str.ofString "default",d)]) Q E s:=by
 refine kmk_tree PySem.F.kind_min PySem.F.plain_min PySem.F.entry_min ha ?_
 refine wpAny_bind (m:=Builtin.Builtins.bindParams "min" ["key","default"] 0 ⟨[],[(Str.ofString "default",d)]⟩) (wpAny_of_eq (show Builtin.Builtins.bindParams "min" ["key","default"] 0 ⟨[],[(Str.ofString "default",d)]⟩=pure [none,some d]from rfl) ?_)
 refine wpAny_bind (wpAny_pure (wpAny_bind (wpAny_pyIter_list hl (wpAny_bind (wpAny_newList ?_ (zV _))))))
 rw[uZ]
 refine wpAny_pure ⟨plainId_quiet PySem.F.plain_min_loop _,?_⟩
 have hll:l<s.heap.objs.size:=by obtain⟨o,e,_⟩:=hl;exact Heap.lt_size e
 show codeAny _ _ _ _ { s with heap:=(s.heap.push (itO l)).push (seqObj "list" #[] 0) }
 have gI:((s.heap.push (itO l)).push (seqObj "list" #[] 0)).get? s.heap.objs.size=some (itO l):=Heap.get?_push_of_some _ (Heap.get?_push_size _ rfl)
 have hSz:(s.heap.push (itO l)).objs.size=s.heap.objs.size+1:=size_push' ..
 have gS:((s.heap.push (itO l)).push (seqObj "list" #[] 0)).get? (s.heap.push (itO l)).objs.size=some (seqObj "list" #[] 0):=Heap.get?_push_size _ rfl
 have KK:Kept s.heap ((s.heap.push (itO l)).push (seqObj "list" #[] 0)):=λb o e=>Heap.get?_push_of_some _ (Heap.get?_push_of_some _ e)
 have hl2:((s.heap.push (itO l)).push (seqObj "list" #[] 0)).IsList l vs.toArray:=by obtain⟨o,e,r⟩:=hl;exact⟨o,KK _ _ e,r⟩
 rw[hSz]at gS
 have hSz':(s.heap.push { cls:=.type "list_iterator",data:=.fields #[.ref l,.int 0 0] }).objs.size=s.heap.objs.size+1:=hSz
 try rw[hSz']
 generalize hI:s.heap.objs.size=I at *
 have hlI:l≠I:=zW hll
 have hSI:I+1≠I:=j7 _
 have hlS:l≠I+1:=zW (y7 hll)
 have hfI:s.heap.get? I=none:=Heap.get?_none_of_le (by omega)
 have hfS:s.heap.get? (I+1)=none:=Heap.get?_none_of_le (by omega)
 generalize ((s.heap.push (itO l)).push (seqObj "list" #[] 0))=h1 at *
 have W:=Walks.list (prog:=prog) (w:=w) (A:=A.in1) hh I l hlI vs.toArray
 have hsz:vs.toArray.size=vs.length:=zT ..
 have hit:h1.IsListIter I l 0:=⟨_,gI,rfl,rfl⟩
 refine codeAny_builtin PySem.F.entry_min_loop (by
  rw[Around.under_plainId PySem.F.plain_min_loop _]
  by_cases hn:0<vs.length
  ·refine wpAny_bind (m:=seqItems? (.ref (I+1))) (wpAny_seqItems gS rfl (wpAny_bind (wpAny_tryCatch (W.item 0 _ _ _ (by rw[hsz];exact hn) ⟨hit,hl2⟩ λv h' tk' hP hst' hk'=>?_))))
   have hv:vs[0]?=some v:=by simpa using hP
   have hS':=hk' (I+1) _ (λz=>hSI (zG.mp z)) gS
   have K1:Kept s.heap h':=λb o e=>hk' b o (λz=>by rw[zG.mp z,hfI]at e;cases e) (KK b o e)
   obtain⟨h2,u,tk2,e2,st2,K2,hS2,hKu⟩:∃(h2:Heap)(u:Value)(tk2:Nat),(h2=h'/\v=u/\tk'=tk2)/\(h2.IsListIter I l 1/\h2.IsList l vs.toArray)/\Kept s.heap h2/\h2.get? (I+1)=some (seqObj "list" #[] 0)/\KI h2 0 u:=⟨h',v,tk',⟨rfl,rfl,rfl⟩,hst',K1,hS',turn _ _ _ hv⟩
   obtain⟨rfl,rfl,rfl⟩:=e2
   refine wpAny_bind (wpAny_pure (wpAny_bind (wpAny_updateSeq hS2 rfl ?_)))
   rw[uZ]
   have T3:TupK h2 (h2.update (I+1) (Obj.mapSeq λ_=>#[v,v])):=vL hS2 rfl
   have oth:∀b o,b≠I+1->h2.get? b=some o->(h2.update (I+1) (Obj.mapSeq λ_=>#[v,v])).get? b=some o:=λb o n e=>(Heap.get?_update_other _ _ (Ne.symm n)).trans e
   obtain⟨oI,i1,i2,i3⟩:=st2.1
   obtain⟨oL,l1,l2⟩:=st2.2
   refine wpAny_pure ⟨plainId_quiet PySem.F.plain_min_loop _,C8 hh hlI hSI hlS s turn mono hcmp hfI hfS (λv' h'' tk'' e1 e2=>hne hn v' h'' tk'' e1 e2) _ 0 _ _ v v _ rfl hn (λb o e=>oth b o (λz=>by rw[z,hfS]at e;cases e) (K2 b o e)) ⟨oI,oth _ _ hSI.symm i1,i2,i3⟩ ⟨oL,oth _ _ hlS l1,l2⟩ (mono _ _ _ _ hKu T3) hv (Heap.get?_update_self _ hS2 rfl)⟩
  ·refine wpAny_bind (m:=seqItems? (.ref (I+1))) (wpAny_seqItems gS rfl (wpAny_bind (wpAny_tryCatch (W.done _ _ _ ⟨by rw[hsz,show vs.length=0 by omega];exact hit,hl2⟩ λh' tk' hk'=>?_))))
   refine wpAny_bind (m:=rule _) (wpAny_rule (wpAny_pure ?_))
   exact hnil (by omega) _ _ λb o e=>hk' b o (λz=>by rw[zG.mp z,hfI]at e;cases e) (KK b o e))
theorem BI{q:Addr}{d:Value}{Q E:Value->Shared->Prop}{s:Shared}(hh:A.handled=none)(hl:s.heap.IsList l vs.toArray)(ha:argsOk "min" ⟨[.ref l],[(Str.ofString "key",.ref q),(Str.ofString "default",d)]⟩)(turn:∀i v,vs[i]?=some v->∀h tk (Q E:Value->Shared->Prop),Kept s.heap h->(∀u h' tk',Kept h h'->KI h' i u->Q u { s with heap:=h',toks:=tk' })->wpAny (model prog w) A.in1 (call (.ref q) [v]) Q E { s with heap:=h,toks:=tk })
  (mono:∀h h' i u,KI h i u->TupK h h'->KI h' i u) (hcmp:∀i j u v (s:Shared) (Q E:Value->Shared->Prop),KI s.heap i u->KI s.heap j v->Q (.bool (bt i j)) s->wpAny (model prog w) A.in1 (richCompare .Lt u v) Q E s)
  (hne:0<vs.length->∀v h' tk,vs[argBest bt (vs.length-1)]?=some v->Kept s.heap h'->Q v { s with heap:=h',toks:=tk })
  (hnil:vs.length=0->∀h' tk,Kept s.heap h'->Q d { s with heap:=h',toks:=tk }) :
  wpAny (model prog w) A (call (.builtin "min") [.ref l] [(Str.ofString "key",.ref q),(Str.ofString "default",d)]) Q E s:=by
 refine kmk_tree PySem.F.kind_min PySem.F.plain_min PySem.F.entry_min ha ?_
 refine wpAny_bind (m:=Builtin.Builtins.bindParams "min" ["key","default"] 0 ⟨[],[(Str.ofString "key",.ref q),(Str.ofString "default",d)]⟩) (wpAny_of_eq (show Builtin.Builtins.bindParams "min" ["key","default"] 0 ⟨[],[(Str.ofString "key",.ref q),(Str.ofString "default",d)]⟩=pure [some (.ref q),some d]from rfl) ?_)
 refine wpAny_bind (wpAny_pure (wpAny_bind (wpAny_pyIter_list hl (wpAny_bind (wpAny_newList ?_ (zV _))))))
 rw[uZ]
 refine wpAny_pure ⟨plainId_quiet PySem.F.plain_min_loop _,?_⟩
 have hll:l<s.heap.objs.size:=by obtain⟨o,e,_⟩:=hl;exact Heap.lt_size e
 show codeAny _ _ _ _ { s with heap:=(s.heap.push (itO l)).push (seqObj "list" #[] 0) }
 have gI:((s.heap.push (itO l)).push (seqObj "list" #[] 0)).get? s.heap.objs.size=some (itO l):=Heap.get?_push_of_some _ (Heap.get?_push_size _ rfl)
 have hSz:(s.heap.push (itO l)).objs.size=s.heap.objs.size+1:=size_push' ..
 have gS:((s.heap.push (itO l)).push (seqObj "list" #[] 0)).get? (s.heap.push (itO l)).objs.size=some (seqObj "list" #[] 0):=Heap.get?_push_size _ rfl
 have KK:Kept s.heap ((s.heap.push (itO l)).push (seqObj "list" #[] 0)):=λb o e=>Heap.get?_push_of_some _ (Heap.get?_push_of_some _ e)
 have hl2:((s.heap.push (itO l)).push (seqObj "list" #[] 0)).IsList l vs.toArray:=by obtain⟨o,e,r⟩:=hl;exact⟨o,KK _ _ e,r⟩
 rw[hSz]at gS
 have hSz':(s.heap.push { cls:=.type "list_iterator",data:=.fields #[.ref l,.int 0 0] }).objs.size=s.heap.objs.size+1:=hSz
 try rw[hSz']
 generalize hI:s.heap.objs.size=I at *
 have hlI:l≠I:=zW hll
 have hSI:I+1≠I:=j7 _
 have hlS:l≠I+1:=zW (y7 hll)
 have hfI:s.heap.get? I=none:=Heap.get?_none_of_le (by omega)
 have hfS:s.heap.get? (I+1)=none:=Heap.get?_none_of_le (by omega)
 generalize ((s.heap.push (itO l)).push (seqObj "list" #[] 0))=h1 at *
 have W:=Walks.list (prog:=prog) (w:=w) (A:=A.in1) hh I l hlI vs.toArray
 have hsz:vs.toArray.size=vs.length:=zT ..
 have hit:h1.IsListIter I l 0:=⟨_,gI,rfl,rfl⟩
 refine codeAny_builtin PySem.F.entry_min_loop (by
  rw[Around.under_plainId PySem.F.plain_min_loop _]
  by_cases hn:0<vs.length
  ·refine wpAny_bind (m:=seqItems? (.ref (I+1))) (wpAny_seqItems gS rfl (wpAny_bind (wpAny_tryCatch (W.item 0 _ _ _ (by rw[hsz];exact hn) ⟨hit,hl2⟩ λv h' tk' hP hst' hk'=>?_))))
   have hv:vs[0]?=some v:=by simpa using hP
   have hS':=hk' (I+1) _ (λz=>hSI (zG.mp z)) gS
   have K1:Kept s.heap h':=λb o e=>hk' b o (λz=>by rw[zG.mp z,hfI]at e;cases e) (KK b o e)
   refine wpAny_bind (m:=tryCatch (holding [v] (call (.ref q) [v])) _) (wpAny_tryCatch (wpAny_holding (turn 0 v hv h' tk' _ _ K1 λu h2 tk2 k2 hKu=>?_)))
   obtain⟨oI0,i10,i20,i30⟩:=hst'.1
   obtain⟨oL0,l10,l20⟩:=hst'.2
   have st2:h2.IsListIter I l 1/\h2.IsList l vs.toArray:=⟨⟨oI0,k2 _ _ i10,i20,i30⟩,⟨oL0,k2 _ _ l10,l20⟩⟩
   have K2:Kept s.heap h2:=λb o e=>k2 b o (K1 b o e)
   have hS2:=k2 _ _ hS'
   refine wpAny_bind (wpAny_updateSeq hS2 rfl ?_)
   rw[uZ]
   have T3:TupK h2 (h2.update (I+1) (Obj.mapSeq λ_=>#[v,u])):=vL hS2 rfl
   have oth:∀b o,b≠I+1->h2.get? b=some o->(h2.update (I+1) (Obj.mapSeq λ_=>#[v,u])).get? b=some o:=λb o n e=>(Heap.get?_update_other _ _ (Ne.symm n)).trans e
   obtain⟨oI,i1,i2,i3⟩:=st2.1
   obtain⟨oL,l1,l2⟩:=st2.2
   refine wpAny_pure ⟨plainId_quiet PySem.F.plain_min_loop _,BU hh hlI hSI hlS s turn mono hcmp hfI hfS (λv' h'' tk'' e1 e2=>hne hn v' h'' tk'' e1 e2) _ 0 _ _ v u _ rfl hn (λb o e=>oth b o (λz=>by rw[z,hfS]at e;cases e) (K2 b o e)) ⟨oI,oth _ _ hSI.symm i1,i2,i3⟩ ⟨oL,oth _ _ hlS l1,l2⟩ (mono _ _ _ _ hKu T3) hv (Heap.get?_update_self _ hS2 rfl)⟩
  ·refine wpAny_bind (m:=seqItems? (.ref (I+1))) (wpAny_seqItems gS rfl (wpAny_bind (wpAny_tryCatch (W.done _ _ _ ⟨by rw[hsz,show vs.length=0 by omega];exact hit,hl2⟩ λh' tk' hk'=>?_))))
   refine wpAny_bind (m:=rule _) (wpAny_rule (wpAny_pure ?_))
   exact hnil (by omega) _ _ λb o e=>hk' b o (λz=>by rw[zG.mp z,hfI]at e;cases e) (KK b o e))
end
end L2
namespace L2
open PySem PySem.Spec PyProof.Rows PySem.Calls
theorem Bg(a d:Value):argsOk "min" ⟨[a],[(Str.ofString "default",d)]⟩:=by unfold argsOk;kernel_rfl
theorem Ao(a f d:Value):argsOk "min" ⟨[a],[(Str.ofString "key",f),(Str.ofString "default",d)]⟩:=by unfold argsOk;kernel_rfl
theorem Eb{ns:List Int}(n:Nat)(hn:n<ns.length):∀k,k<=n->ns.getD (argBest (λi j=>decide (ns.getD i 0<ns.getD j 0)) n) 0<=ns.getD k 0:=by
 induction n with
 | zero=>intro k hk;rw[show k=0 by omega];exact qO _
 | succ n ih =>
  intro k hk
  have h1:=ih (by omega)
  simp only [argBest]
  by_cases hb:ns.getD (n+1) 0<ns.getD (argBest (λi j=>decide (ns.getD i 0<ns.getD j 0)) n) 0
  ·rw[if_pos (decide_eq_true hb)]
   by_cases e:k=n+1
   ·rw[e];exact qO _
   ·have:=h1 k (by omega);omega
  ·rw[if_neg (by simpa using hb)]
   by_cases e:k=n+1
   ·rw[e];omega
   ·exact h1 k (by omega)
theorem D_(bt:Nat->Nat->Bool)(n:Nat):argBest bt n<=n:=by
 induction n with
 | zero=>exact zH _
 | succ n ih=>simp only [argBest];split <;>omega
def tMinD(K:PySem.W.Frag)(ta:TE):TE:=fun σ H Q=>ta σ H λv H1=>∃l ns,v=.ref l/\SqL K H1 l (ns.map V.int)/\(ns=[]->Q .non H1)/\∀M,M∈ns->(∀a∈ns,M<=a)->Q (.int M) H1
theorem Ep{X:Cx}{nm:Str}{a:Expr}{ta:TE}{p kp pd pos:Pos}{jd}(hc:X.calm=true)(hg:Gl X nm)(hm:X.mg nm=none)(hv:bootBuiltins nm=some (.builtin "min"))(ha:PE X a ta)
  (hn:nm ≠ "__name__":=by decide) (hdb:(nm==("__debug__":Str))=false:=by decide)
  (hs:starEach [a] X.env=(false,eval a X.env)::starEach [] X.env:=by rfl) (he:backTo pos (starEach [a] X.env)=(false,eval a X.env)::backTo pos (starEach [] X.env):=by rfl)
  (hpl:(backTo pos (starEach [a] X.env)).any (·.1)=false:=by rfl) :
  PE X (.Call (.Name nm p) [a] [⟨some "default",.Constant .none jd pd,kp⟩] pos) (tMinD X.K ta):=by
 intro pins s σ H Q I h
 refine wpAny_Call_Name_kw (uJ I hg hm hv ?_ hn hdb)
 refine callWith_kw (thn (sf ha sh hs pos pins s σ H (λvs H1=>match vs with|[v]=>∃l ns,v=.ref l/\SqL X.K H1 l (ns.map V.int)/\(ns=[]->Q .non H1)/\∀M,M∈ns->(∀a∈ns,M<=a)->Q (.int M) H1|_=>False) I h) ?_) he hpl
 rintro us s1 ⟨vs,H1,I1,r,q1⟩
 match vs,r,q1 with
 | [v],r,q1 =>
 obtain⟨l,ns,rfl,hl,q0,q⟩:=q1
 cases r with
 | cons r0 r1 =>
 cases r1
 cases r0
 refine kws_cons (Constant_none (kws_nil ?_))
 obtain⟨its,rv,pl,hz⟩:=I1.list hl
 have hi:=uw rv
 have hlen:=rv.length
 rw[zC]at hlen
 refine Dh (KI:=λ_ i u=>∃t,u=.int (ns.getD i 0) t) (bt:=λi j=>decide (ns.getD i 0<ns.getD j 0)) (I1.ok.hd hc) pl.isList (Bg _ _) (λh i v hv=>?_) (λ_ _ _ _ z _=>z) (λi j u v s Q E ⟨t,e1⟩ ⟨t2,e2⟩ hq=>?_) (λhp v h' tk hv hk=>?_) (λhz h' tk hk=>?_)
 ·have hi':i<ns.length:=by rw[hlen];exact(zD.mp hv).1
  obtain⟨w,e,rw'⟩:=rv.get (i:=i) (x:=.int ns[i]) (by rw[zF,zB hi'];rfl)
  rw[hv]at e
  cases e
  obtain⟨t,e⟩:=rw'
  exact⟨t,by rw[e,zA,zB hi'];rfl⟩
 ·subst e1 e2
  exact CmpOf.ints_lt (prog:=X.prog) (w:=X.w) (A:=X.A.in1) (P:=λi v=>∃t,v=.int (ns.getD i 0) t) (λi=>ns.getD i 0) (λi v h=>h) i j _ _ s Q E ⟨t,rfl⟩ ⟨t2,rfl⟩ hq
 ·have hb:=D_ (λi j=>decide (ns.getD i 0<ns.getD j 0)) (its.length-1)
  have hi':argBest (λi j=>decide (ns.getD i 0<ns.getD j 0)) (its.length-1)<ns.length:=by omega
  obtain⟨w,e,rw'⟩:=rv.get (i:=argBest (λi j=>decide (ns.getD i 0<ns.getD j 0)) (its.length-1)) (x:=.int (ns[argBest (λi j=>decide (ns.getD i 0<ns.getD j 0)) (its.length-1)])) (by rw[zF,zB hi'];rfl)
  rw[hv]at e
  cases e
  refine⟨.int _,H1,I1.kept (t':=tk) hk,rw',q _ (kG _) λa ha=>?_⟩
  obtain⟨k,hk1,rfl⟩:=List.getElem_of_mem ha
  have hle:=Eb (ns:=ns) (its.length-1) (by omega) k (by omega)
  rw[zA,zA,zB hi',zB hk1]at hle
  exact hle
 ·exact⟨.non,H1,I1.kept (t':=tk) hk,rfl,q0 (kJ (by omega))⟩
end L2
namespace L2
open PySem PySem.Spec PyProof.Rows PySem.W PySem.Calls
abbrev lamB2(x:Str)(p2 p3 p4 p5 p6 p7 p8:Pos):Expr:=.Tuple [.Subscript (.Name x p2) (.Constant (.int 0) 0 p3) p4,.Subscript (.Name x p5) (.Constant (.int 1) 0 p6) p7] 0 p8
section
variable{prog:Program}{w:World}{A:Around}{s:Shared}
theorem Cv{f t c':Addr}{x qual:Str}{pm ctv:Value}{p1 p2 p3 p4 p5 p6 p7 p8:Pos}{its:Array Value}{k1 k2:Int}{u1 u2:Tok}{Q E:Value->Shared->Prop}
  (ho:s.heap.get? f=some (kla_obj "<lambda>" qual (lamPar x p1) (lamB2 x p2 p3 p4 p5 p6 p7 p8) (lamSc x) [] pm c' ctv)) (hcd:s.heap.CodeRec (.ref c') qual) (hroom:A.depth<recursionLimit) (lim:s.heap.NoLimit)
  (ht:IsTup s.heap t its) (hsz:2<=its.size) (h0:its[0]?=some (.int k1 u1)) (h1:its[1]?=some (.int k2 u2)) (hd:(x==("__debug__":Str))=false)
  (hbind:∀v,bindArgs (kla_fn "<lambda>" qual (lamPar x p1) (lamB2 x p2 p3 p4 p5 p6 p7 p8) (lamSc x) [] pm (.ref c') ctv) ⟨[v],[]⟩=pure [(x,v)])
  (hQ:∀a h' tk',Kept s.heap h'->IsTup h' a #[.int k1 u1,.int k2 u2]->Q (.ref a) { s with heap:=h',toks:=tk' }) :
  wpAny (model prog w) A (call (.ref f) [.ref t]) Q E s:=by
 refine wpAny_call (kla_callFunE hroom ho rfl rfl rfl rfl hcd ?_)
 rw[hbind]
 refine wpAny_pure (wpAny_newFunctionEnv (λy hy=>?_) (λy hy=>?_) (λh₁ hns hsb=>⟨lim.fresh _ hsb,?_⟩) rfl)
 ·rw[zG.mp hy];exact λz=>nomatch z
 ·rw[zG.mp hy]
  show List.lookup x [(x,NameKind.local)]=_
  simp [List.lookup]
 ·have hk₁:Kept s.heap h₁:=λb o e=>hsb.extBut b o (zW (Heap.lt_size e)) (Heap.get?_push_of_some _ e)
  have ht₁:IsTup h₁ t its:=let ⟨o,e,r⟩:=ht;⟨o,hk₁ _ _ e,r⟩
  have i0:seqIndex? 0 its.size=some 0:=by generalize its.size=n at hsz;unfold seqIndex?;simp;omega
  have i1:seqIndex? 1 its.size=some 1:=by generalize its.size=n at hsz;unfold seqIndex?;simp;omega
  refine kla_codeExpr (wpAny_mono (E:=λ_ _=>False) (Q:=λv s'=>∃a h' tk',v=.ref a/\s'={ s with heap:=h',toks:=tk' }/\Kept s.heap h'/\IsTup h' a #[.int k1 u1,.int k2 u2]) ?_ (λv s' ⟨a,h',tk',e1,e2,kk,tt⟩=>by subst e1 e2;exact hQ a h' tk' kk tt) λ_ _ h'=>h'.elim)
  refine wpAny_Tuple_spliced (Calls.spliced_cons ?_)
  refine Subscript_ (wpAny_Name (wpAny_loadName_local rfl ?_ hns (v:=.ref t) ?_ (wpAny_Constant_int ?_)) hd)
  ·show List.lookup x [(x,NameKind.local)]=_
   simp [List.lookup]
  ·show List.lookup x [(x,Value.ref t)]=_
   simp [List.lookup]
  ·refine subscriptTail_builtinR (x:=.int k1 u1) (s:={ s with heap:=h₁,toks:=s.toks+[(x,Value.ref t)].length+1 }) ht₁.typeIs slot_tuple_getitem.lookup (getItem_tuple (j:=0) ht₁ (by decide) (by decide) i0 h0 ⟨rfl,?_⟩)
   refine Calls.spliced_cons ?_
   refine Subscript_ (wpAny_Name (wpAny_loadName_local rfl ?_ hns (v:=.ref t) ?_ (wpAny_Constant_int ?_)) hd)
   ·show List.lookup x [(x,NameKind.local)]=_
    simp [List.lookup]
   ·show List.lookup x [(x,Value.ref t)]=_
    simp [List.lookup]
   ·refine subscriptTail_builtinR (x:=.int k2 u2) (s:={ s with heap:=h₁,toks:=s.toks+[(x,Value.ref t)].length+1+1 }) ht₁.typeIs slot_tuple_getitem.lookup (getItem_tuple (j:=1) ht₁ (by decide) (by decide) i1 h1 ⟨rfl,?_⟩)
    refine Calls.spliced_nil ⟨(by show 2<=sizeLine;decide),_,_,_,rfl,rfl,λb o e=>Heap.get?_push_of_some _ (hk₁ b o e),IsTup.new _ _⟩
end
def kLt(a b:Int×Int):Bool:=HT.lexLt [a.1,a.2] [b.1,b.2]
def bestK(ks:List (Int×Int)):Nat:=argBest (λi j=>kLt (ks.getD i (0,0)) (ks.getD j (0,0))) (ks.length-1)
inductive rMinK(K:PySem.W.Frag)(P:Addr)(q:Str)(ln cl:Nat)(Q:VK)(v:V)(H1:Hp):Prop where
 | mk (l xs ks:_) (h_0:v=.ref l) (h_1:SqL K H1 l xs) (h_2:ks.length=xs.length) (h_3:(∀(j:Nat) x (k:Int×Int),xs[j]?=some x->ks[j]?=some k->∃t ys,x=.ref t/\SqT K H1 t ys/\ys[0]?=some (.int k.1)/\ys[1]?=some (.int k.2))) (h_4:LamT P q ln cl H1) (h_5:∀H2,Keep [P] H1 H2->LamT P q ln cl H2->(xs=[]->Q .non H2)/\∀x,xs[bestK ks]?=some x->Q x H2):rMinK K P q ln cl Q v H1
def tMinK(K:PySem.W.Frag)(P:Addr)(q:Str)(ln cl:Nat)(ta:TE):TE:=fun σ H Q=>ta σ H (rMinK K P q ln cl Q)
theorem CG{X:Cx}{k:Nat}{c P:Addr}{q x nm:Str}{a:Expr}{ta:TE}{p kp kp2 pd p1 p2 p3 p4 p5 p6 p7 p8 lp pos:Pos}{jd}(hc:X.calm=true)(hr:Room k X.A)(hg:Gl X nm)(hm:X.mg nm=none)(hv:bootBuiltins nm=some (.builtin "min"))
  (hcode:X.env.code=.ref c) (hq:X.env.qual++"<lambda>"=q) (C:CodeHd X.base c P) (hB:X.base.BuiltinsAt X.mg P) (ha:PE X a ta) (hd:(x==("__debug__":Str))=false)
  (hbind:∀(pm ctv:Value)(c':Addr) v,bindArgs (kla_fn "<lambda>" q (lamPar x p1) (lamB2 x p2 p3 p4 p5 p6 p7 p8) (lamSc x) [] pm (.ref c') ctv) ⟨[v],[]⟩=pure [(x,v)])
  (hcl:closureFor (lamSc x) X.env=pure []) (hdef:defaultsOf (lamPar x p1) X.env=([],[]))
  (hn:nm ≠ "__name__":=by decide) (hdb:(nm==("__debug__":Str))=false:=by decide)
  (hs:starEach [a] X.env=(false,eval a X.env)::starEach [] X.env:=by rfl) (he:backTo pos (starEach [a] X.env)=(false,eval a X.env)::backTo pos (starEach [] X.env):=by rfl)
  (hpl:(backTo pos (starEach [a] X.env)).any (·.1)=false:=by rfl) :
  PE X (.Call (.Name nm p) [a] [⟨some "key",.Lambda (lamPar x p1) (lamB2 x p2 p3 p4 p5 p6 p7 p8) (lamSc x) lp,kp⟩,⟨some "default",.Constant .none jd pd,kp2⟩] pos) (tMinK X.K P q lp.line lp.col ta):=by
 intro pins s σ H Q I h
 refine wpAny_Call_Name_kw (uJ I hg hm hv ?_ hn hdb)
 have core:∀(l:Addr)(xs:List V)(ks:List (Int×Int))(s2:Shared)(H2:Hp)(f c':Addr)(pm ctv:Value),Inv X pins σ H2 s2->ks.length=xs.length ->
   s2.heap.get? f=some (kla_obj "<lambda>" q (lamPar x p1) (lamB2 x p2 p3 p4 p5 p6 p7 p8) (lamSc x) [] pm c' ctv)->s2.heap.CodeRec (.ref c') q->SqL X.K H2 l xs ->
   (∀(j:Nat) x (k:Int×Int),xs[j]?=some x->ks[j]?=some k->∃t ys,x=.ref t/\SqT X.K H2 t ys/\ys[0]?=some (.int k.1)/\ys[1]?=some (.int k.2)) ->
   ((xs=[]->Q .non H2)/\∀x,xs[bestK ks]?=some x->Q x H2) ->
   wpAny (model X.prog X.w) X.A (call (.builtin "min") [.ref l] [(Str.ofString "key",.ref f),(Str.ofString "default",.none)]) (EP X pins σ Q) X.xe s2:=by
  intro l xs ks s2 H2 f c' pm ctv I2 hlen hf hcd hl hkeys hQ
  obtain⟨its,r,hlst,hz⟩:=I2.list hl
  have hrl:=r.length
  refine BI (KI:=λh i u=>∃a ts,u=.ref a/\IsTup h a ts/\IntsAre ts.toList [(ks.getD i (0,0)).1,(ks.getD i (0,0)).2]) (bt:=λi j=>kLt (ks.getD i (0,0)) (ks.getD j (0,0))) (vs:=its) (I2.ok.hd hc) hlst.isList (Ao _ _ _) (λi v hv h tk Q' E' kp fin=>?_) (λh h' i u z tk=>?_) (λi j u v s' Q' E' z1 z2 hq'=>?_) (λhp v h' tk hv hk=>?_) (λhz h' tk hk=>?_)
  ·have hi:i<xs.length:=by rw[hrl];exact(zD.mp hv).1
   have ex:xs[i]?=some xs[i]:=zB hi
   have ek:ks[i]?=some ks[i]:=zB (by omega)
   obtain⟨u,hu,ru⟩:=r.get ex
   rw[hv]at hu
   cases hu
   obtain⟨t,ys,e1,ht,y0,y1⟩:=hkeys i _ _ ex ek
   rw[e1]at ru
   cases ru
   obtain⟨jts,r2,pl,hz2⟩:=I2.tuple ht
   obtain⟨w0,ew0,t0,rfl⟩:=r2.get y0
   obtain⟨w1,ew1,t1,rfl⟩:=r2.get y1
   have hl2:=(zD.mp ew1).1
   have pl':IsTup h t jts.toArray:=let ⟨o,e,r⟩:=pl;⟨o,kp _ _ e,r⟩
   refine Cv (s:={ s2 with heap:=h,toks:=tk }) (A:=X.A.in1) (kp _ _ hf) (tP hcd λo e=>kp _ _ e) hr.depth (I2.nolimit.keeps kp) pl' (by rw[zT];omega) (by simpa using ew0) (by simpa using ew1) hd (hbind pm ctv c') (λa h' tk' k' tt=>?_)
   refine fin _ h' tk' k' ⟨a,_,rfl,tt,?_⟩
   have eg:ks.getD i (0,0)=ks[i]:=by rw[zA,ek];rfl
   rw[eg]
   exact .cons _ t0 (.cons _ t1 .nil)
  ·obtain⟨a,ts,e1,⟨o,e2,e3,e4⟩,e5⟩:=z
   exact⟨a,ts,e1,⟨o,tk a o e3 e2,e3,e4⟩,e5⟩
  ·obtain⟨a,ts,rfl,e2,e3⟩:=z1
   obtain⟨b,ts',rfl,e5,e6⟩:=z2
   refine HT.lt_tupInts (A:=X.A.in1) e2 e5 e3 e6 ?_ hq'
   have:=hr.un
   show X.A.units+1<_
   omega
  ·have hb:bestK ks=argBest (λi j=>kLt (ks.getD i (0,0)) (ks.getD j (0,0))) (its.length-1):=by unfold bestK;rw[hlen,hrl]
   rw[←hb]at hv
   have hi:bestK ks<xs.length:=by rw[hrl];exact(zD.mp hv).1
   have ex:xs[bestK ks]?=some xs[bestK ks]:=zB hi
   obtain⟨u,hu,ru⟩:=r.get ex
   rw[hv]at hu
   cases hu
   exact⟨_,H2,I2.kept (t':=tk) hk,ru,hQ.2 _ ex⟩
  ·exact⟨.non,H2,I2.kept (t':=tk) hk,rfl,hQ.1 (kJ (by omega))⟩
 refine callWith_kw (thn (sf ha sh hs pos pins s σ H (λvs H1=>match vs with|[v]=>rMinK X.K P q lp.line lp.col Q v H1|_=>False) I h) ?_) he hpl
 rintro us s1 ⟨vs,H1,I1,r,q1⟩
 match vs,r,q1 with
 | [v],r,q1 =>
 obtain⟨l,xs,ks,rfl,hl,hlen,hkeys,hT,hQ⟩:=q1
 cases r with
 | cons r0 r1 =>
 cases r1
 cases r0
 refine kws_cons (kla_eval hdef ?_)
 rw[hq]
 have C1:=C.keeps I1.bk
 have hB1:=hB.keeps I1.bk
 have hge:X.env.globals=mainGlobals:=I1.ok.glob
 have hgs:s1.heap.Ns mainGlobals X.mg:=I1.mod.glob.keeps I1.bk
 rcases hT with hP|⟨c',hP,hc'⟩
 ·have hPo:s1.heap.get? P=some (tabObj #[]):=I1.hok _ _ hP
  have hgP:mainGlobals≠P:=λz=>by
   obtain⟨o,es,ep,e,hd',_⟩:=hgs
   rw[z,hPo]at e;cases e;cases hd'
  refine kla_makeFunction (mg:=X.mg) hcl hge hgs hcode C1 hPo True.intro rfl hgP hB1 λc' ctv h' tk hx hge' hlt hrec htb=>?_
  refine kws_cons (Constant_none (kws_nil ?_))
  have I2:=(I1.grown (t':=tk) hP hx hge' hrec htb).kept (t':=tk) (h':=h'.push (kla_obj "<lambda>" q (lamPar x p1) (lamB2 x p2 p3 p4 p5 p6 p7 p8) (lamSc x) [] ((X.mg "__name__").getD .none) c' ctv)) λb o e=>Heap.get?_push_of_some _ e
  have hcn:=I1.hok.fresh hge'
  have oth:∀{b:Addr}{u:HO},Rd H1 b u->(∀ps,u≠.tbl ps)->Rd (upd (upd H1 P (.tbl (#[]++#[rawInt lp.line,rawInt lp.col,.ref c']))) c' (codeO c' q)) b u:=fun {b u} hb hu=>by
   rcases hb with hb|⟨o,hb⟩
   ·exact .inl (by rw[sD (sC hb hcn),sD (tR hb hP (hu _))];exact hb)
   ·exact .inr ⟨o,by rw[sD (sC hb hcn),sD (tR hb hP (λz=>nomatch z))];exact hb⟩
  have hkp:Keep [P] H1 (upd (upd H1 P (.tbl (#[]++#[rawInt lp.line,rawInt lp.col,.ref c']))) c' (codeO c' q)):=λb u e hb=>by
   rw[sD (sC e hcn),sD (λz=>hb (by rw[z];exact yQ _))];exact e
  have hT2:LamT P q lp.line lp.col (upd (upd H1 P (.tbl (#[]++#[rawInt lp.line,rawInt lp.col,.ref c']))) c' (codeO c' q)):=.inr ⟨c',by rw[sD (sC hP hcn),ss];rfl,ss⟩
  refine core l xs ks _ _ _ c' _ ctv I2 hlen (Heap.get?_push_size _ rfl) (tP hrec λo e=>Heap.get?_push_of_some _ e) ?_ (λj y k ej ek=>?_) (hQ _ hkp hT2)
  ·rcases hl with hl|hl
   ·exact .inl (oth hl λ_ z=>nomatch z)
   ·exact .inr hl
  ·obtain⟨t,ys,e1,ht,y0,y1⟩:=hkeys j y k ej ek
   refine⟨t,ys,e1,?_,y0,y1⟩
   rcases ht with ht|ht
   ·exact .inl (oth ht λ_ z=>nomatch z)
   ·exact .inr ht
 ·have hPo:s1.heap.get? P=some (tabObj #[rawInt lp.line,rawInt lp.col,.ref c']):=I1.hok _ _ hP
  have hrec:s1.heap.CodeRec (.ref c') q:=(I1.hok _ _ hc').1
  refine kla_makeFunctionHit (mg:=X.mg) (cv:=.ref c') hcl hge hgs hcode C1 hPo (by simp [TriplesOk,rawInt]) (by simp [codeAmong,rawInt]) hB1 λctv h' tk hk _=>?_
  refine kws_cons (Constant_none (kws_nil ?_))
  have kp:Kept s1.heap (h'.push (kla_obj "<lambda>" q (lamPar x p1) (lamB2 x p2 p3 p4 p5 p6 p7 p8) (lamSc x) [] ((X.mg "__name__").getD .none) c' ctv)):=λb o e=>Heap.get?_push_of_some _ (hk b o e)
  exact core l xs ks _ _ _ c' _ ctv (I1.kept (t':=tk) kp) hlen (Heap.get?_push_size _ rfl) (tP hrec λo e=>kp _ _ e) hl hkeys (hQ H1 (Keep.same (Same.refl _)) (.inr ⟨c',hP,hc'⟩))
end L2
namespace L2
open PySem PySem.Spec PyProof.Rows
theorem Cn(A:Around)(s:Shared)(a:Int)(t:Tok)(c:Int)(u:Tok)(prog:Program)(w:World)(E:Value->Shared->Prop)(Q:Value->Shared->Prop)(h:Q (.bool (decide (c<a))) s) :
  wpAny (model prog w) A (richCompare .Gt (.int a t) (.int c u)) Q E s :=
 (PyProof.Rows.gt_int h:wpAny (model prog w) A (compareOp .Gt (.int a t) (.int c u)) Q E s)
section
open PySem.SeqAt
open PySem.AutoSeq1 (wpAny_loadPart')
open PySem.MeetsSeq PySem.MeetsSeq2 PySem.MeetsSeq3
theorem w5(l b:Addr)(items items2:Array Value)(n n2:Nat)(dd dd2:Option Addr)(sl sl2:Array (Option Value))(ns ms:List Int)(hi:IntsAre items.toList ns)(hj:IntsAre items2.toList ms) :
  Meets (Builtin.«tuple.__gt__» ⟨[.ref l,.ref b],[]⟩)
   (λ_ R s=>s.heap.get? l=some { cls:=.type "tuple",dict:=dd,data:=.seq items n,slots:=sl }/\s.heap.get? b=some { cls:=.type "tuple",dict:=dd2,data:=.seq items2 n2,slots:=sl2 } /\
    R (.ok (.ret (.bool (HT.lexLt ms ns)))) s) :=
 .of_wp λprog w A R s h=>by
  obtain⟨hp,g,d,tk,os⟩:=s;obtain⟨hl,hb,h⟩:=h
  have f2:=AutoSeq1.sub_tuple_tuple
  have z1:items.size=ns.length:=by rw[←hi.length];simp
  have z2:items2.size=ms.length:=by rw[←hj.length];simp
  wp_walk using wpAny_loadPart' hl,wpAny_loadPart' hb,wpAny_forIn_list _ (λrest b s'=>b.1=none/\s'=⟨hp,g,d,tk,os⟩/\∃(vs ws:List Value)(ns' ms':List Int),rest=vs.zip ws /\
   IntsAre vs ns'/\IntsAre ws ms'/\ns'.length+items2.size=ms'.length+items.size/\R (.ok (.ret (.bool (HT.lexLt ms' ns')))) ⟨hp,g,d,tk,os⟩) _
  case turn =>
   rintro⟨y,x⟩ rest b s' ⟨hb',rfl,vs,ws,ns',ms',hz,hvi,hwi,hlen,hR⟩
   cases hvi with
   | nil=>rw[List.zip_nil_left]at hz;cases hz
   | cons a t hvi' =>
    cases hwi with
    | nil=>rw[List.zip_nil_right]at hz;cases hz
    | cons c u hwi' =>
     rw[jO]at hz
     injection hz with hyx hrest
     injection hyx with hy hx
     subst hy hx
     rw[HT.lexLt_cons]at hR
     simp only [zX]at hlen
     obtain⟨e,he,hiff⟩:=HT.eqAt_int A.in1 ⟨hp,g,d,tk,os⟩ a t c u
     refine wpAny_bind (he prog w _ _ ?_)
     cases e with
     | true =>
      rw[if_pos (hiff.mp rfl).symm]at hR
      wp_walk
      exact⟨rfl,rfl,_,_,_,_,hrest,hvi',hwi',by omega,hR⟩
     | false =>
      rw[if_neg (λq=>absurd (hiff.mpr q.symm) zQ)]at hR
      have hri:=Cn A.in1 ⟨hp,g,d,tk,os⟩ a t c u prog w
      wp_walk using hri
      exact⟨_,rfl,by simpa using hR⟩
  case fin =>
   rintro⟨b1,b2⟩ s' ⟨hb',rfl,vs,ws,ns',ms',hz,hvi,hwi,hlen,hR⟩
   simp only at hb'
   subst hb'
   have hv:HT.lexLt ms' ns'=decide (items2.size<items.size):=by
    cases hvi with
    | nil =>
     cases hwi with
     | nil =>
      simp only [qU]at hlen
      rw[HT.lexLt_nil_nil]
      exact(decide_eq_false (by omega)).symm
     | cons c u hw =>
      simp only [qU,zX]at hlen
      rw[HT.lexLt_cons_nil]
      exact(decide_eq_false (by omega)).symm
    | cons a t hv =>
     cases hwi with
     | nil =>
      simp only [qU,zX]at hlen
      rw[HT.lexLt_nil_cons]
      exact(decide_eq_true (by omega)).symm
     | cons c u hw =>
      rw[jO]at hz
      cases hz
   rw[hv]at hR
   wp_walk
   exact⟨_,rfl,by simpa [Builtin.Tuple.tupleCompareSizes]using hR⟩
  case h =>
   exact⟨rfl,rfl,items.toList,items2.toList,ns,ms,rfl,hi,hj,by omega,h⟩
end
section
variable{prog:Program}{w:World}{A:Around}{E:Value->Shared->Prop}{s:Shared}
theorem Aj{l b:Addr}{items items2:Array Value}{ns ms:List Int}{Q:Value->Shared->Prop}(hl:IsTup s.heap l items)(hb:IsTup s.heap b items2)(hi:IntsAre items.toList ns)(hj:IntsAre items2.toList ms)
  (hu:A.units<cLine) (h:Q (.bool (HT.lexLt ms ns)) s):wpAny (model prog w) A (compareOp .Gt (.ref l) (.ref b)) Q E s:=by
 obtain⟨⟨cls,dd,data,sl⟩,ho,hc,n,hd⟩:=id hl
 obtain⟨⟨cls2,dd2,data2,sl2⟩,ho2,hc2,n2,hd2⟩:=id hb
 simp only at hc hd hc2 hd2
 subst hc hd hc2 hd2
 exact richCompare_meets_room (op:=.Gt) ⟨_,ho,rfl⟩ ⟨_,ho2,rfl⟩ PySem.F.slot_tuple_gt PySem.F.entry_tuple_gt (PySem.F.args_tuple_gt_2 _ _) (w5 l b items items2 n n2 dd dd2 sl sl2 ns ms hi hj)
  ⟨ho,ho2,show Value.bool (HT.lexLt ms ns)≠Value.notImplemented/\Q (.bool (HT.lexLt ms ns)) s from⟨(λx=>nomatch x),h⟩⟩ hu
end
section
variable{X:Cx}
inductive rGtT(K:PySem.W.Frag)(x:V)(y:V)(H:Hp)(Q:VK):Prop where
 | mk (a b ns ms:_) (h_0:x=.ref a) (h_1:y=.ref b) (h_2:SqT K H a (ns.map V.int)) (h_3:SqT K H b (ms.map V.int)) (h_4:Q (.bl (HT.lexLt ms ns)) H):rGtT K x y H Q
theorem E1(hu:X.A.units<cLine):OpR X (compareOp .Gt) (rGtT X.K):=by
 intro pins s σ H x y v u Q I rx ry h
 obtain⟨a,b,ns,ms,rfl,rfl,ha,hb,q⟩:=h
 cases rx
 cases ry
 obtain⟨its,r1,p1,_⟩:=I.tuple ha
 obtain⟨its2,r2,p2,_⟩:=I.tuple hb
 have i1:IntsAre its.toArray.toList ns:=uw r1
 have i2:IntsAre its2.toArray.toList ms:=uw r2
 exact Aj p1 p2 i1 i2 hu ⟨.bl (HT.lexLt ms ns),H,I,rfl,q⟩
end
end L2
namespace L2
theorem len1{α:Type}{us:List α}(h:us.length=1):∃a,us=[a]:=List.length_eq_one_iff.mp h
theorem lenS{α:Type}{n:Nat}{us:List α}(h:us.length=n+1):∃a r,us=a::r/\r.length=n:=by
 cases us with
 | nil=>cases h
 | cons a r=>exact⟨a,r,rfl,Nat.succ.inj h⟩
theorem len2{α:Type}{us:List α}(h:us.length=2):∃a b,us=[a,b]:=by
 obtain⟨a,r,rfl,e⟩:=lenS h;obtain⟨b,rfl⟩:=len1 e;exact⟨a,b,rfl⟩
theorem len3{α:Type}{us:List α}(h:us.length=3):∃a b c,us=[a,b,c]:=by
 obtain⟨a,r,rfl,e⟩:=lenS h;obtain⟨b,c,rfl⟩:=len2 e;exact⟨a,b,c,rfl⟩
theorem len4{α:Type}{us:List α}(h:us.length=4):∃a b c d,us=[a,b,c,d]:=by
 obtain⟨a,r,rfl,e⟩:=lenS h;obtain⟨b,c,d,rfl⟩:=len3 e;exact⟨a,b,c,d,rfl⟩
theorem len5{α:Type}{us:List α}(h:us.length=5):∃a b c d e,us=[a,b,c,d,e]:=by
 obtain⟨a,r,rfl,q⟩:=lenS h;obtain⟨b,c,d,e,rfl⟩:=len4 q;exact⟨a,b,c,d,e,rfl⟩
end L2
namespace L2
open PySem PySem.Spec PyProof.Rows
open PySem.AutoSeq1 (wpAny_loadPart')
open PySem.MeetsSeq
section
end
section
variable{X:Cx}
end
end L2
namespace L2
open PySem PySem.Spec PyProof.Rows PySem.W PySem.Calls
section
variable{P:Program}{w:World}{K:PySem.W.Frag}{A:Around}
end
end L2
namespace L2
open PySem PyProof.Rows
section
variable{X:Cx}
end
end L2
namespace L2
open PySem PyProof.Rows
section
variable{prog:Program}{w:World}{A:Around}{E:Value->Shared->Prop}{s:Shared}
end
section
variable{X:Cx}
end
end L2
namespace L2
open PySem PyProof.Rows
section
variable{prog:Program}{w:World}{A:Around}{R:Result->Shared->Prop}{I S l:Addr}{vs:List Value}{KI:Heap->Nat->Value->Prop}{bt:Nat->Nat->Bool}{kw:List (Str×Value)}
end
section
variable{X:Cx}
end
end L2
namespace L2
open PySem PySem.Spec PyProof.Rows
section
variable{X:Cx}
end
end L2
namespace L2
open PySem PySem.Spec PyProof.Rows
def Cx.compX(X:Cx)(scope:Scope)(cl:List (Str×Addr))(x0:Str)(c0 C:Addr)(fp:List Addr)(N':List Str)(s2:Shared)(H2:Hp):Cx :=
 { X.comp scope ((x0,c0)::cl) C fp N' s2 H2 with fn:=λx=>(cl.lookup x).isNone }
structure CompOkX(X:Cx)(scope:Scope)(cl:List (Str×Addr))(x0:Str)(own fr:List Str)(js:List Nat):Prop where
 kind:scope.kind=.function
 clos:closureFor scope X.env=pure cl
 lay:∀n,cellsFrom n scope.names cl=(x0,n)::cl
 psh:∀h,pushCells h scope.names=h.push { cls:=.type "cell",data:=.cell none }
 names:∀y∈scope.names,y.2=.local->scope.names.lookup y.1=some .local
 cells:Each (λ(p:Str×Addr)=>X.env.cells.lookup p.1=some p.2) cl
 nx0:cl.lookup x0=none
 has:Each (λ(p:Str×NameKind)=>((p.2 != .cell&&p.2 != .free)||(p.1==x0)||(cl.lookup p.1).isSome)=true) (relabel scope X.env).names
 fr:Paired (λ(x:Str)(j:Nat)=>(X.N[j]?=some x/\(X.env.kindOf x=some .cell\/X.env.kindOf x=some .free)/\((relabel scope X.env).names.lookup x=some .cell\/(relabel scope X.env).names.lookup x=some .free))/\(cl.lookup x).isSome=true) fr js
 calm:X.calm=true
theorem Ea{M:Model}{A:Around}{E:Value->Shared->Prop}{s:Shared}{scope:Scope}{globals:Addr}{closure:List (Str×Addr)}{qual:Str}{env:Env}{builtins:Addr}{Q:Env->Shared->Prop}
  (hQ:Q (newEnv scope s.heap.objs.size globals (cellsFrom (s.heap.objs.size+1) scope.names closure) qual none .none (some env) builtins) { s with heap:=pushCells (s.heap.push { cls:=.type "dict",data:=.dict #[] }) scope.names }) :
  wpAny M A (newFunctionEnv scope globals closure [] qual none .none (some env) builtins) Q E s:=by
 simp only [newFunctionEnv,Option.isSome_some,if_true]
 refine wpAny_bind (wpAny_alloc ?_)
 refine wpAny_bind (wpAny_layCells _ (λname kind cells=>by cases hkc:kind==NameKind.cell <;>simp [hkc]) _ _ _ _ ?_)
 rw[show({ s with heap:=s.heap.push { cls:=.type "dict",data:=.dict #[] } }:Shared).heap.objs.size=s.heap.objs.size+1 from Heap.size_push ..]
 exact wpAny_bind (wpAny_pure (wpAny_pure hQ))
section
variable{X:Cx}{scope:Scope}{cl:List (Str×Addr)}{x0:Str}{own fr:List Str}{js:List Nat}{pins:List (Addr×Obj)}{σ:St}{H:Hp}{s:Shared}
theorem CompOkX.cell(c:CompOkX X scope cl x0 own fr js){x:Str}{a:Addr}(h:cl.lookup x=some a):X.env.cells.lookup x=some a:=c.cells.mem _ (PySem.mem_of_lookup h)
theorem uf{x0 x:Str}{c0 a:Addr}{cl:List (Str×Addr)}(h:List.lookup x ((x0,c0)::cl)=some a):(x=x0/\a=c0)\/cl.lookup x=some a:=by
 rw[j8]at h
 split at h
 ·rename_i e
  cases h
  exact .inl ⟨eq_of_beq e,rfl⟩
 ·exact .inr h
theorem xI{x0 x:Str}{c0 a:Addr}{cl:List (Str×Addr)}(n:cl.lookup x0=none)(h:cl.lookup x=some a):List.lookup x ((x0,c0)::cl)=some a:=by
 rw[j8]
 split
 ·rename_i e
  rw[eq_of_beq e,n]at h
  cases h
 ·exact h
theorem Be{x0:Str}{c0:Addr}{cl:List (Str×Addr)}:List.lookup x0 ((x0,c0)::cl)=some c0:=by
 rw[j8,beq_self_eq_true]
theorem Inv.blockX(c:CompOkX X scope cl x0 own fr js)(I:Inv X pins σ H s){fp:List Addr}(hf:∀b∈fp,FpOk X pins H b/\b<s.heap.objs.size){h':Heap}{C D c0:Addr}{m:Str->Option Value}{t':Nat}
  (k:∀b o,s.heap.get? b=some o->h'.get? b=some o) (hC:s.heap.objs.size<=C) (hD:s.heap.objs.size<=D) (hDC:D≠C) (h0:s.heap.objs.size<=c0) (hD0:D≠c0) (i0:h'.IsCell c0 none) (ns:h'.Ns C m) (hl:h'.get? D=some { cls:=.type "list",data:=.seq #[] }) :
  Inv (X.compX scope cl x0 c0 C fp (own++fr) s H) [] (blk own js σ) (upd H D (.lst [])) { s with heap:=h',toks:=t' }:=by
 have fC:H C=none:=I.hok.fresh hC
 have lt:∀{b:Addr}{o:Obj},s.heap.get? b=some o->b<s.heap.objs.size:=λe=>Heap.lt_size e
 have cne:∀x a,cl.lookup x=some a->∃v,s.heap.IsCell a v:=λx a e=>I.cell x a (c.cell e)
 refine⟨⟨I.ok.mod,c.kind,I.ok.glob,I.ok.blt,hC,λx y a h1 h2=>?_,λx hx=>?_,λx a z e=>?_,I.ok.hd,I.ok.frames,.inl rfl,λb hb=>⟨?_,λx a e=>?_⟩,I.bs,z0 I.ok.bsz I.sz,λb o e hb=>?_,λb hb hz=>?_,I.stack,I.stkFree⟩,
  rfl,I.bare,?_,⟨m,ns,λi x v h1 h2 h3=>?_⟩,λx a e=>?_,?_,λx a e=>?_,λp hp=>absurd (show p∈([]:List (Addr×Obj))from hp) zI,?_,?_⟩
 ·have lc:∀{x:Str},cl.lookup x=some c0->False:=fun {x} e=>by
   obtain⟨v,o,ho,_⟩:=cne x c0 e
   exact absurd (lt ho) (Nat.not_lt.mpr h0)
  rcases uf h1 with ⟨e1,e2⟩|e1 <;>rcases uf h2 with ⟨e3,e4⟩|e3
  ·rw[e1,e3]
  ·rw[e2]at e3;exact(lc e3).elim
  ·rw[e4]at e1;exact(lc e1).elim
  ·exact I.ok.inj x y a (c.cell e1) (c.cell e3)
 ·have hx':(relabel scope X.env).names.lookup x=some .cell\/(relabel scope X.env).names.lookup x=some .free:=hx
  have z:∀kd,(relabel scope X.env).names.lookup x=some kd->(kd=.cell\/kd=.free)->∃a,List.lookup x ((x0,c0)::cl)=some a:=λkd e1 e2=>by
   have q:=c.has.mem _ (PySem.mem_of_lookup e1)
   by_cases ex:x=x0
   ·exact⟨c0,by rw[ex];exact Be⟩
   ·have q':(cl.lookup x).isSome=true:=by
     rcases e2 with e2|e2 <;>subst e2 <;>simpa [ex]using q
    obtain⟨a,ha⟩:=qA.mp q'
    exact⟨a,xI c.nx0 ha⟩
  rcases hx' with h|h
  ·exact z _ h (.inl rfl)
  ·exact z _ h (.inr rfl)
 ·have z':(cl.lookup x).isNone=true:=z
  rcases uf e with ⟨_,e2⟩|e2
  ·rw[e2];exact h0
  ·rw[e2]at z';cases z'
 ·exact zW (zS (hf b hb).2 hC)
 ·rcases uf e with ⟨_,e2⟩|e2
  ·rw[e2];exact λz=>absurd (hf b hb).2 (by rw[←z];exact Nat.not_lt.mpr h0)
  ·exact(hf b hb).1.2.2.2.2.1 x a (c.cell e2)
 ·rcases(hf b hb).1.2.2.2.1 with z|z
  ·exact I.ok.noex b o e z
  ·exact absurd (zS (Heap.lt_size e) (z0 I.ok.bsz z)) (qP _)
 ·rcases zR.mp (I.stkSub b hz)with z|z
  ·exact(hf b hb).1.2.1 z
  ·exact(hf b hb).1.2.2.1 z
 ·exact Un.laid k hD (I.hok.fresh hD)
 ·-- the names that it shares
  have hi:own.length<=i:=by
   by_cases q:own.length<=i
   ·exact q
   ·unfold blk at h2
    rw[yF (by rw[zC];omega),zF]at h2
    cases e:own[i]? with
    | none=>rw[e]at h2;cases h2
    | some z=>rw[e]at h2;cases h2
  have h1':fr[i-own.length]?=some x:=by
   have q:(own++fr)[i]?=some x:=h1
   rw[zN hi]at q
   exact q
  obtain⟨j,hj,⟨hN,hk,hr⟩,hsm⟩:=c.fr.getL h1'
  have h2':σ[j]?=some (some v):=by
   unfold blk at h2
   rw[zN (by rw[zC];exact hi),zC,zF,hj]at h2
   have q:some ((σ[j]?).join)=some (some v):=h2
   have q':=Option.some.inj q
   cases e:σ[j]? with
   | none=>rw[e]at q';cases q'
   | some z=>rw[e]at q';rw[show z=some v from q']
  obtain⟨m0,hn0,hl0⟩:=I.loc
  obtain⟨u,r,l⟩:=hl0 j x v hN h2' (hk.elim (λz=>.inr (.inl z)) λz=>.inr (.inr z))
  refine⟨u,r,.inr ⟨hr,?_⟩⟩
  rcases l with ⟨hk',_⟩|⟨_,a,ea,ca⟩
  ·rcases hk with z|z <;>(rw[hk']at z;cases z)
  ·have hx':∃b,cl.lookup x=some b:=qA.mp hsm
   obtain⟨b,eb⟩:=hx'
   have eab:=c.cell eb
   rw[ea]at eab
   cases eab
   obtain⟨o,ho,hd⟩:=ca
   exact⟨a,xI c.nx0 eb,o,k _ _ ho,hd⟩
 ·rcases uf e with ⟨_,e2⟩|e2
  ·rw[e2];exact⟨none,i0⟩
  ·obtain⟨v,o,ho,hd⟩:=cne x a e2
   exact⟨v,o,k _ _ ho,hd⟩
 ·show upd H D (.lst []) C=none
  rw[sD hDC.symm];exact fC
 ·rcases uf e with ⟨_,e2⟩|e2
  ·rw[e2,sD (Ne.symm hD0)]
   exact I.hok.fresh h0
  ·obtain⟨v,o,ho,hd⟩:=cne x a e2
   rw[sD (zW (zS (lt ho) hD))]
   exact I.freeC x a (c.cell e2)
 ·exact I.hok.laid k hD ⟨zV _,[],0,.nil,hl⟩
 ·unfold blk
  show _=(own++fr).length
  have:=c.fr.length
  rw[zM,zM,zC,zC]
  omega
theorem Inv.unblockX(I:Inv X pins σ H s){fp:List Addr}(hf:∀b∈fp,FpOk X pins H b){N':List Str}{C:Addr}{pl:List (Addr×Obj)}{σ':St}{H':Hp}{s':Shared}
  {c0:Addr} (J:Inv (X.compX scope cl x0 c0 C fp N' s H) pl σ' H' s'):Inv X pins σ H' s' :=
 I.call' (ch:=fp) J.os J.base J.hok J.bare λb hb=>⟨(hf b hb).2.2.2.1,(hf b hb).2.1,(hf b hb).2.2.2.2.1,(hf b hb).2.2.2.2.2⟩
end
section
variable{X:Cx}{elt iter tg:Expr}{ifs:List Expr}{scope:Scope}{cl:List (Str×Addr)}{x0:Str}{own fr:List Str}{js:List Nat}{wi:TI}{g:TG}{tc:TT}{te:TE}{pos:Pos}
theorem z_{pins:List (Addr×Obj)}{σ:St}{H1:Hp}{s1:Shared}{it:Addr}{fp:List Addr}{tn:Nat->Heap->Prop}{J:It}{C D:Addr}{h':Heap}{m:Str->Option Value}{t':Nat}{Q:Hp->Prop}{R:Result->Shared->Prop}
  {c0:Addr} (c:CompOkX X scope cl x0 own fr js) (I:Inv X pins σ H1 s1) (T:Turn X.prog X.w X.K tg J fp it tn) (st:tn 0 s1.heap) (hf:∀b∈fp,FpOk X pins H1 b)
  (hg:PG (X.compX scope cl x0 c0 C fp (own++fr) s1 H1) tg g) (hc:PTs (X.compX scope cl x0 c0 C fp (own++fr) s1 H1) ifs tc) (he:PE (X.compX scope cl x0 c0 C fp (own++fr) s1 H1) elt te)
  (k:∀b o,s1.heap.get? b=some o->h'.get? b=some o) (hC:s1.heap.objs.size<=C) (hD:s1.heap.objs.size<=D) (hDC:D≠C) (h0:s1.heap.objs.size<=c0) (hD0:D≠c0) (i0:h'.IsCell c0 none) (ns:h'.Ns C m) (hl:h'.get? D=some { cls:=.type "list",data:=.seq #[] })
  (q:CompW J D (blk own js σ) g tc te H1 Q)
  (fin:∀H' s' m',Inv X pins σ H' s'->s'.heap.Ns C m'->H' C=none->Q H'->R (.ok .next) s') :
  codeAny (model X.prog X.w) X.A (.compLoop (.ListComp elt [⟨tg,iter,ifs,0⟩] scope pos) 0 (.ref it) (.ref D) (compEnvC scope ((x0,c0)::cl) C X.env)) R { s1 with heap:=h',toks:=t' }:=by
 have hf2:∀b∈fp,FpOk X pins H1 b/\b<s1.heap.objs.size:=λb hb=>by
  obtain⟨o,e,_⟩:=T.obj _ _ st b hb
  exact⟨hf b hb,Heap.lt_size e⟩
 have J0:Inv (X.compX scope cl x0 c0 C fp (own++fr) s1 H1) [] (blk own js σ) (upd H1 D (.lst [])) { s1 with heap:=h',toks:=t' }:=I.blockX c hf2 k hC hD hDC h0 hD0 i0 ns hl
 have fpN:∀b∈fp,(upd H1 D (.lst [])) b=none:=λb hb=>by
  rw[sD (zW (zS (hf2 b hb).2 hD))]
  exact(hf b hb).1
 have st0:tn 0 h':=T.keep _ _ _ st λb _ o e=>k b o e
 obtain⟨W,⟨m0,w0⟩,turn⟩:=q
 have stat:∀{H':Hp},(∀b∈fp,H' b=none)->∀b∈fp,FpOk (X.compX scope cl x0 c0 C fp (own++fr) s1 H1) [] H' b:=λhn b hb=>by
  refine⟨hn b hb,zW (zS (hf2 b hb).2 hC),λz=>?_,.inl hb,λx a e=>(uf e).elim (λz=>by rw[z.2];exact λy=>absurd (hf2 b hb).2 (by rw[←y];exact Nat.not_lt.mpr h0)) (λz=>(hf b hb).2.2.2.2.1 x a (c.cell z)),λp hp=>absurd (show p∈([]:List (Addr×Obj))from hp) zI⟩
  rcases zR.mp (I.stkSub b z)with z|z
  ·exact(hf b hb).2.1 z
  ·exact(hf b hb).2.2.1 z
 refine codeAny_loop rfl (λn s'=>∃i H',Inv (X.compX scope cl x0 c0 C fp (own++fr) s1 H1) [] (blk own js σ) H' s'/\tn i s'.heap/\(∀b∈fp,H' b=none)/\W i n H') ?_ m0 ⟨0,_,J0,st0,fpN,w0⟩
 rintro n s3 ⟨i,H3,I3,st3,fr3,w3⟩
 show wpAny _ X.A ((compTurn (.ListComp elt [⟨tg,iter,ifs,0⟩] scope pos) 0 (.ref it) (.ref D) (compEnvC scope ((x0,c0)::cl) C X.env)).onRaise (λx=>do noteFrame x (compEnvC scope ((x0,c0)::cl) C X.env);theTreesLotGoes x)) _ _ s3
 refine wpAny_noted ?_
 rw[compTurn_list]
 have weak:∀{α:Type}{tr:Sem α}{Q':α->Shared->Prop}{E':Value->Shared->Prop}{s':Shared},wpAny (model X.prog X.w) X.A tr Q' (λ_ _=>False) s'->wpAny (model X.prog X.w) X.A tr Q' E' s':=λh=>wpAny_mono h (λ_ _ z=>z) λ_ _ z=>z.elim
 refine wpAny_bind (wpAny_standAt (wpAny_bind ?_))
 rcases turn i n H3 w3 with ⟨stop,qn⟩|⟨go,step⟩
 ·refine weak (thn (T.done (X.compX scope cl x0 c0 C fp (own++fr) s1 H1) rfl rfl rfl c.calm i [] s3 _ H3 _ I3 (stat fr3) st3 stop) λr s4 ⟨hr,I4⟩=>?_)
  subst hr
  refine wpAny_pure ?_
  obtain⟨m',hn',_⟩:=I4.loc
  exact fin H3 s4 m' (I.unblockX hf I4) hn' I4.free qn
 ·refine weak (thn (T.item (X.compX scope cl x0 c0 C fp (own++fr) s1 H1) rfl rfl rfl c.calm i [] s3 _ H3 _ I3 (stat fr3) st3 go) λr s4 ⟨u,hr,h4⟩=>?_)
  subst hr
  refine wpAny_bind (weak (thn h4 λ_ s5 ⟨x,H5,I5,r5,y5,st5,fr5⟩=>?_))
  have I5':=I5.pinned (stat fr5) (T.obj _ _ st5)
  refine wpAny_bind (weak (thn (hg _ s5 _ H5 x u _ I5' r5 (step x H5 y5)) λ_ s6 ⟨σ6,H6,I6,q6⟩=>?_))
  have back:∀{σ7:St}{H7:Hp}{s7:Shared}{m':Nat},Inv (X.compX scope cl x0 c0 C fp (own++fr) s1 H1) ([]++pinsAt fp s5.heap) σ7 H7 s7->m'<n->W (i+1) m' H7->Inv (X.compX scope cl x0 c0 C fp (own++fr) s1 H1) [] (blk own js σ) H7 s7 ->
    ∃m,m<n/\∃i H',Inv (X.compX scope cl x0 c0 C fp (own++fr) s1 H1) [] (blk own js σ) H' s7/\tn i s7.heap/\(∀b∈fp,H' b=none)/\W i m H':=fun {σ7 H7 s7 m'} I7 hm w7 I8=>by
   refine⟨m',hm,i+1,H7,I8,T.keep _ _ _ st5 λb hb o e=>(I7.pin (b,o) (zO _ (zO _ (ui hb e)))).1,λb hb=>?_,w7⟩
   obtain⟨o,e,d⟩:=T.obj _ _ st5 b hb
   exact(I7.pin (b,o) (zO _ (zO _ (ui hb e)))).2.1
  have anew:∀{σ7:St}{H7:Hp}{s7:Shared}{pl:List (Addr×Obj)},Inv (X.compX scope cl x0 c0 C fp (own++fr) s1 H1) pl σ7 H7 s7->Inv (X.compX scope cl x0 c0 C fp (own++fr) s1 H1) [] (blk own js σ) H7 s7:=fun {σ7 H7 s7 pl} I7=>by
   have IX:=I.unblockX hf I7
   obtain⟨m',hn',_⟩:=I7.loc
   obtain⟨mX,nX,lX⟩:=IX.loc
   refine⟨I7.ok,I7.os,I7.bare,I7.base,⟨m',hn',λi x v h1 h2 h3=>?_⟩,I7.cell,I7.free,I7.freeC,λp hp=>absurd (show p∈([]:List (Addr×Obj))from hp) zI,I7.hok,I3.len⟩
   have hi:own.length<=i:=by
    by_cases q:own.length<=i
    ·exact q
    ·unfold blk at h2
     rw[yF (by rw[zC];omega),zF]at h2
     cases e:own[i]? with
     | none=>rw[e]at h2;cases h2
     | some z=>rw[e]at h2;cases h2
   have h1':fr[i-own.length]?=some x:=by
    have q:(own++fr)[i]?=some x:=h1
    rw[zN hi]at q
    exact q
   obtain⟨j,hj,⟨hN,hk,hr⟩,hsm⟩:=c.fr.getL h1'
   have h2':σ[j]?=some (some v):=by
    unfold blk at h2
    rw[zN (by rw[zC];exact hi),zC,zF,hj]at h2
    have q:some ((σ[j]?).join)=some (some v):=h2
    have q':=Option.some.inj q
    cases e:σ[j]? with
    | none=>rw[e]at q';cases q'
    | some z=>rw[e]at q';rw[show z=some v from q']
   obtain⟨u,r,l⟩:=lX j x v hN h2' (hk.elim (λz=>.inr (.inl z)) λz=>.inr (.inr z))
   refine⟨u,r,.inr ⟨hr,?_⟩⟩
   rcases l with ⟨hk',_⟩|⟨_,a,ea,ca⟩
   ·rcases hk with z|z <;>(rw[hk']at z;cases z)
   ·obtain⟨b,eb⟩:=qA.mp hsm
    have eab:=c.cell eb
    rw[ea]at eab
    cases eab
    exact⟨a,xI c.nx0 eb,ca⟩
  refine wpAny_bind (weak (thn (hc _ s6 σ6 H6 _ I6 q6) λok s7 ⟨H7,I7,q7⟩=>?_))
  cases ok with
  | false =>
   have q7':=(if_neg (by decide:¬(false=true))).mp q7
   obtain⟨m',hm,w7⟩:=q7'
   exact wpAny_pure ⟨rfl,back I7 hm w7 (anew I7)⟩
  | true =>
   have q7':=(if_pos (rfl:true=true)).mp q7
   refine wpAny_bind (wpAny_bind (weak (thn (he _ s7 σ6 H7 _ I7 q7') λy s8 ⟨v8,H8,I8,r8,ys,e8,z8,m',hm,w8⟩=>?_)))
   refine wpAny_bind (weak (thn (tL (X:=X.compX scope cl x0 c0 C fp (own++fr) s1 H1) _ s8 σ6 H8 (.ref D) [v8] (.ref D) [y] (λ_ H9=>H9=upd H8 D (.lst (ys++[v8]))) I8 rfl (.cons r8 .nil) ⟨D,ys,v8,rfl,rfl,e8,z8,rfl⟩) λ_ s9 ⟨_,H9,I9,_,e9⟩=>?_))
   subst e9
   exact wpAny_pure (wpAny_pure ⟨rfl,back I9 hm w8 (anew I9)⟩)
theorem C2{i:Nat}{y:Str}{py spos:Pos}(hN:X.N.Nodup)(hiy:X.N[i]?=some y)(hx:Loc X.env.scope y)
  (hsw:swapsWith (.ListComp elt [⟨tg,iter,ifs,0⟩] scope pos) (some (.Name y py)) spos.line X.env=pure true)
  (c:CompOkX X scope cl x0 own fr js) (hi:PI X tg iter wi) (hg:∀c0 C fp s H,PG (X.compX scope cl x0 c0 C fp (own++fr) s H) tg g) (hc:∀c0 C fp s H,PTs (X.compX scope cl x0 c0 C fp (own++fr) s H) ifs tc)
  (he:∀c0 C fp s H,PE (X.compX scope cl x0 c0 C fp (own++fr) s H) elt te) (hs:∀x,foldedSetIterable iter X.env x=pure x:=by intro _;rfl)
  (hfn:X.fn y=true\/X.env.scope.names.lookup y=some .local:=by first|exact .inl rfl|exact .inr rfl|assumption) :
  PS X (.Assign [.Name y py] (.ListComp elt [⟨tg,iter,ifs,0⟩] scope pos) spos) (tAsg (tComp wi own js g tc te) (gName i)):=by
 intro pins s σ H D I h
 rw[exec_Assign_Name_used _ _ _ _ hsw]
 refine wpAny_bind (wpAny_standAt (wpAny_bind ?_))
 show wpAny _ X.A (do let _ ←comprehension (.ListComp elt [⟨tg,iter,ifs,0⟩] scope pos) scope X.env _ (newList []) false (eval iter X.env) (some (assign (.Name y py) X.env))) _ _ s
 refine wpAny_bind (wpAny_mono (wpAny_comprehension_free (use:=some (assign (.Name y py) X.env)) (Q:=λ_ s'=>SP X pins D .next s') rfl hs c.clos c.kind c.names
  (thn (hi pins s σ H _ I h) λv s1 h1=>thn h1 λitv s2 h2=>?_)) (λ_ s' hq=>wpAny_pure (wpAny_pure hq)) λ_ _ e=>e)
 obtain⟨it,fp,tn,J,H2,rfl,I2,T,st2,f2,q⟩:=h2
 refine wpAny_newObj_type (Ea ?_)
 dsimp only
 rw[c.lay,c.psh]
 generalize hH2:s2.heap.push { cls:=.type "list",dict:=none,data:=.seq ([]:List Value).toArray }=hp
 generalize hh1:(hp.push { cls:=.type "dict",data:=.dict #[] }).push { cls:=.type "cell",data:=.cell none }=h₁
 have sz1:(hp.push { cls:=.type "dict",data:=.dict #[] }).objs.size=hp.objs.size+1:=Heap.size_push ..
 have ex1:∀b o,hp.get? b=some o->h₁.get? b=some o:=λb o e=>hh1▸Heap.get?_push_of_some _ (Heap.get?_push_of_some _ e)
 have hns₁:h₁.Ns hp.objs.size (λ_=>none):=hh1▸(Heap.Ns.new hp (.type "dict")).keeps (λb o e=>Heap.get?_push_of_some _ e)
 have i0:h₁.IsCell (hp.objs.size+1) none:=⟨_,by rw[←hh1,←sz1];exact Heap.get?_push_size _ rfl,rfl⟩
 have hC:hp.objs.size=s2.heap.objs.size+1:=by rw[←hH2,Heap.size_push]
 have hDC:s2.heap.objs.size≠hp.objs.size:=by rw[hC];exact zW (qY _)
 have hCle:s2.heap.objs.size<=hp.objs.size:=by rw[hC];exact yZ _
 have old:∀b o,s2.heap.get? b=some o->h₁.get? b=some o:=λb o e=>ex1 b o (hH2▸Heap.get?_push_of_some _ e)
 have hl:h₁.get? s2.heap.objs.size=some { cls:=.type "list",data:=.seq #[] }:=ex1 _ _ (hH2▸Heap.get?_push_size _ rfl)
 have loop:∀t',codeAny (model X.prog X.w) X.A (.compLoop (.ListComp elt [⟨tg,iter,ifs,0⟩] scope pos) 0 (.ref it) (.ref s2.heap.objs.size) (compEnvC scope ((x0,hp.objs.size+1)::cl) hp.objs.size X.env))
   (compPost (model X.prog X.w) X.A X.xe (some (assign (.Name y py) X.env)) (λ_ s'=>SP X pins D .next s') (.ref s2.heap.objs.size) hp.objs.size) { s2 with heap:=h₁,toks:=t' }:=λt' =>
  z_ (c0:=hp.objs.size+1) c I2 T st2 f2 (hg _ _ _ _ _) (hc _ _ _ _ _) (he _ _ _ _ _) old hCle (zH _) hDC (Nat.le_succ_of_le hCle) (by rw[hC];exact zW (y7 (qY _))) i0 hns₁ hl (q _ (I2.hok.fresh (zH _))) λH' s' m' I' hn' hCn qn=>by
   obtain⟨f0,f1,f2',f3,f4,f5⟩:=I2.fpOk hCle hCn
   obtain⟨oC,es,ep,eC,dC,rC⟩:=id hn'
   have I'':Inv X (pins++[(hp.objs.size,oC)]) σ H' s':=I'.pins_of λp hpp=>(yA.mp hpp).elim (λz=>I'.pin p (zO _ z)) λz=>by
    rw[zG]at z
    subst z
    exact⟨eC,f0,f1,f2',λv z=>by rw[dC]at z;cases z⟩
   show wpAny _ X.A (assign (.Name y py) X.env (.ref s2.heap.objs.size)) _ _ s'
   refine thn (sH (i:=i) hN hiy hx hfn _ s' σ H' (.ref s2.heap.objs.size) (.ref s2.heap.objs.size) _ I'' rfl qn) λ_ s7 ⟨σ7,H7,I7,q7⟩=>?_
   have p7:=I7.pin (hp.objs.size,oC) (zO _ (zO _ (yQ _)))
   refine⟨m',⟨oC,es,ep,p7.1,dC,rC⟩,λh'' hs''=>⟨σ7,H7,?_,q7⟩⟩
   exact I7.unpinned.turned (t':=s7.toks) (λb o hb e=>hs''.extBut b o hb e) p7.2.1 f1 f3 f4 f5
 have st1:tn 0 h₁:=T.keep _ _ _ st2 λb _ o e=>old b o e
 exact codeAny_compStart_list (loop _) (T.self _ 0 _ _ _ st1 (loop _))
end
end L2
namespace L2
open PySem PySem.Spec PyProof.Rows
section
variable{X:Cx}{K:PySem.W.Frag}
end
end L2
namespace L2
open PySem PySem.Spec PyProof.Rows
theorem wI:∀{vs:List Value}{ns:List Int},vs.length=ns.length->(∀(i:Nat)(n:Int),ns[i]?=some n->∃t:Tok,vs[i]?=some (Value.int n t))->IntsAre vs ns
 | [],[],_,_=>.nil
 | [],_::_,h,_=>by cases h
 | _::_,[],h,_=>by cases h
 | v::vs,n::ns,h,k=>by
  obtain⟨t,et⟩:=k 0 n rfl
  cases et
  exact .cons n t (wI (Nat.succ.inj h) λi m hm=>k (i+1) m hm)
section
variable{X:Cx}
theorem Bo(hc:X.calm=true):CallR X (.builtin "sorted") (λxs H Q=>∃(d:Addr)(kvs:List (Key×V))(ns:List Int),xs=[.ref d]/\H d=some (.dK kvs)/\kvs.map (·.1)=ns.map Sum.inl/\ns.length<64/\∀(l:Addr)(ms:List Int),H l=none->ms.Perm ns->ms.Pairwise (·<=·)->Q (.ref l) (upd H l (.lst (ms.map V.int)))):=by
 intro pins s σ H xs us Q I r h
 obtain⟨d,kvs,ns,rfl,hd,ek,h64,q⟩:=h
 obtain⟨u,rfl,ru⟩:=vj r
 cases ru
 obtain⟨hz,lo,vs,kv,hD⟩:=I.hok d _ hd
 obtain⟨ep,hat⟩:=hD.dictAt
 have el:vs.length=ns.length:=by
  have e1:=congrArg List.length ek
  rw[zC,zC]at e1
  rw[←kv.length];exact e1
 have ekv:vs.map (·.1)=ns.map Sum.inl:=by rw[←kv.keys];exact ek
 refine Calls.call_function_entry kind_sorted plain_sorted entry_sorted (args_sorted1 _) ?_
 unfold Builtin.«sorted»
 refine wpAny_bind (m:=checkCount "sorted" 1 1 _) (wpAny_pure ?_)
 refine wpAny_bind (PySem.W.kdu_collect (A:=X.A.in1) (PySem.W.kdl_dict (knd:=mixKind X.prog X.w) (kvs:=vs) (ep:=ep) lo) (I.ok.hd hc) hat (yY (sG (by omega))) λh' tk acc hk hacc=>?_)
 have hl:acc.toList.length=ns.length:=by rw[qI,hacc.1];exact el
 refine wpAny_bind (wpAny_newList ?_ (by rw[hl];exact yY (sG (by omega))))
 have hI:IntsAre acc.toList ns:=by
  refine wI hl λi n hn=>?_
  have hi:=(zD.mp hn).1
  have e1:acc.toList[i]?=some (acc.toList[i]'(by omega)):=zB _
  obtain⟨k,x,hx,hkk⟩:=hacc.2 i _ (by rw[←y9];exact e1)
  have e2:(vs.map (·.1))[i]?=some k:=by rw[zF,hx];rfl
  rw[ekv,zF,hn]at e2
  cases e2
  rw[Av]at hkk
  rcases tI hkk with ⟨j,t,e3,e4⟩|⟨x,t,e3,e4⟩
  ·cases e3
   exact⟨t,by rw[e1,e4]⟩
  ·cases e3
 have hoL:(h'.push (seqObj "list" acc.toList.toArray 0)).get? h'.objs.size=some (seqObj "list" acc.toList.toArray 0):=Heap.get?_push_size _ rfl
 show wpAny _ _ _ _ _ { s with heap:=h'.push (seqObj "list" acc.toList.toArray 0),toks:=tk }
 refine wpAny_bind (wpAny_holding (wpAny_call_entry slot_list_sort ⟨_,hoL,rfl⟩ entry_list_sort (list_sort_tree hoL hI (by omega) λout ms a1 a2 a3=>⟨_,rfl,?_⟩) (args_list_sort _)))
 refine wpAny_pure ⟨_,rfl,?_⟩
 obtain⟨e,he⟩:=sortedHeap_at (out:=out) hoL
 have I1:Inv X pins σ H { s with heap:=h',toks:=tk }:=I.kept hk
 refine⟨.ref _,_,I1.laid (t':=tk) (o:=.lst (ms.map V.int)) (λb o eb=>?_) (zH _) ⟨?_,out.toList,e,u8 a1,he⟩,rfl,q _ ms (I1.hok.fresh (zH _)) a2 a3⟩
 ·have lt:=Heap.lt_size eb
  rw[sortedHeap_old (zW lt) (by rw[size_push'];exact y7 lt)]
  exact Heap.get?_push_of_some _ eb
 ·rw[zC,a2.length_eq]
  exact yY (sG (by omega))
end
end L2
namespace L2
open PySem PySem.Spec PyProof.Rows
section
variable{X:Cx}
inductive rInL(K:PySem.W.Frag)(x:V)(y:V)(H:Hp)(Q:VK):Prop where
 | mk (px p:Addr) (as:List Addr) (ls:List (List V)) (h_0:x=.ref px) (h_1:y=.ref p) (h_2:SqL K H p (as.map V.ref)) (h_3:H px=some (.lst [])) (h_4:as.length=ls.length) (h_5:∀(i:Nat) a l,as[i]?=some a->ls[i]?=some l->∃ns:List Int,l=ns.map V.int/\H a=some (.lst l)) (h_6:Q (.bl (ls.any λl=>l.isEmpty)) H):rInL K x y H Q
def eL(H:Hp):Value->Bool
 | .ref p=>match H p with
  | some (.lst [])=>true
  | _=>false
 | _=>false
theorem FE(hu:X.A.units+64<cLine):OpR X (compareOp .In) (rInL X.K):=by
 intro pins s σ H x y v u Q I rx ry h
 obtain⟨px,p,as,ls,rfl,rfl,hq,hx,hlen,hall,q⟩:=h
 cases rx
 cases ry
 obtain⟨its,r,pl,hz⟩:=I.list hq
 have rl:=r.length
 rw[zC]at rl
 have hd:Dt X.K H 2 (.ref px) (.list []):=.lst (SqL.of hx) (.nil _)
 obtain⟨⟨bs,ra⟩,ca,da⟩:=hd.reads I (show RelV (.ref px) (.ref px)from rfl)
 have key:∀(m:Nat) w,its[m]?=some w->∃a l,as[m]?=some a/\ls[m]?=some l/\w=.ref a/\H a=some (.lst l)/\∃ns:List Int,l=ns.map V.int:=λm w hw=>by
  have hm:=(zD.mp hw).1
  have e1:as[m]?=some (as[m]'(by omega)):=zB _
  have e2:ls[m]?=some (ls[m]'(by omega)):=zB _
  obtain⟨ns,e3,e4⟩:=hall m _ _ e1 e2
  obtain⟨w',hw',rw'⟩:=PySem.Paired.getL r (by rw[zF,e1];rfl)
  rw[hw]at hw'
  cases hw'
  cases rw'
  exact⟨_,_,e1,e2,rfl,e4,ns,e3⟩
 have he:∀a l,H a=some (.lst l)->eL H (.ref a)=l.isEmpty:=λa l e=>by
  show(match H a with|some (.lst [])=>true|_=>false)=_
  rw[e]
  cases l <;>rfl
 have hany:its.any (eL H)=ls.any λl=>l.isEmpty:=by
  rw[jL,jI,jI]
  constructor
  ·rintro⟨w,hw,e⟩
   obtain⟨m,hm⟩:=yL hw
   obtain⟨a,l,_,h2,rfl,h4,_⟩:=key m w hm
   rw[he a l h4]at e
   exact⟨l,zE h2,e⟩
  ·rintro⟨l,hl,e⟩
   obtain⟨m,hm⟩:=yL hl
   have hm1:=(zD.mp hm).1
   have e1:its[m]?=some (its[m]'(by omega)):=zB _
   obtain⟨a,l',_,h2,e3,h4,_⟩:=key m _ e1
   rw[hm]at h2
   cases h2
   exact⟨_,zE e1,by rw[e3,he a l h4];exact e⟩
 refine SeqAt.in_listAt (eL H) pl.isList (λw hw=>?_) ⟨.bl _,H,I,rfl,?_⟩
 ·obtain⟨m,hm⟩:=yL (l:=its) (by simpa using hw)
  obtain⟨a,l,_,_,rfl,h4,ns,rfl⟩:=key m w hm
  rw[he a _ h4]
  have e5:(ns.map V.int).isEmpty=PyData.eqv (.list (ns.map PyData.int)) (.list []):=by cases ns <;>simp [PyData.eqv,PyData.eqvAll]
  rw[e5]
  have hdm:Dt X.K H 2 (.ref a) (.list (ns.map PyData.int)):=Dt.ints 1 (SqL.of h4)
  obtain⟨⟨cs,rb⟩,cb,db⟩:=hdm.reads I (show RelV (.ref a) (.ref a)from rfl)
  refine SeqAt.eqAt_reads _ _ _ s _ _ cs bs rb ra cb ca ?_
  show X.A.units+1+min (PyData.list (ns.map PyData.int)).depth (PyData.list []).depth<cLine
  omega
 ·rw[List.any_toArray,hany]
  exact q
end
end L2
namespace Oc
end Oc
namespace Oc
open PySem L2
end Oc
namespace Oc
open PySem L2
end Oc
namespace L2
open PySem
theorem sE_c{c:Const}{j:Nat}{pos:Pos}{es:List Expr}{env:Env}:starEach (.Constant c j pos::es) env=(false,eval (.Constant c j pos) env)::starEach es env:=rfl
theorem uV{X:Cx}{x:Str}{j}{pos:Pos}{es:List Expr}{t:TA}(hr:PA X es t):PA X (.Constant (.str x) j pos::es) (tCons (tC (.str x)) t):=sf tW hr sE_c
end L2
namespace L2
open PySem
theorem FM{a b:Expr}{p:Pos}{t:Expr}{l:Nat}{env:Env}:swapsWith (.Subscript a b p) (some t) l env=pure false:=rfl
end L2
namespace Oc
open PySem L2
def top(i:Nat):Stmt:=PySem.Challenge.pw_ownclocks_k32_whole_settled_as_by_one_cl.main.body.getD i (.Pass ⟨0,0,0,0⟩)
theorem p64:(2:Int) ^ 64=18446744073709551616:=by decide
theorem p62:(2:Int) ^ 62=4611686018427387904:=by decide
end Oc
namespace Oc
open PySem L2
structure Txt(K:PySem.W.Frag)(mg:Str->Option Value):Prop where
 n_tuple:mg "tuple"=none
 n_len:mg "len"=none
 n_range:mg "range"=none
 n_list:mg "list"=none
 n_isinstance:mg "isinstance"=none
 n_bool:mg "bool"=none
 n_int:mg "int"=none
 n_any:mg "any"=none
 n_min:mg "min"=none
 n_enumerate:mg "enumerate"=none
 n_sorted:mg "sorted"=none
 n_sum:mg "sum"=none
 n_all:mg "all"=none
end Oc
namespace Oc
open PySem L2
inductive spStir(vs:List V)(H:Hp)(Q:VK)(x_3:XK):Prop where
 | mk (c k:Int) (h_0:vs=[.int c,.int k]) (h_1:0<=k) (h_2:k<=1000) (h_3:∀r:Int,0<=r->r<268435449->Q (.int r) H):spStir vs H Q x_3
inductive spCell(K:PySem.W.Frag)(vs:List V)(H:Hp)(Q:VK)(x_3:XK):Prop where
 | mk (a:Addr) (ns:List Int) (k:Int) (h_0:vs=[.ref a,.int k]) (h_1:SqL K H a (ns.map V.int)) (h_2:∀(r:Int)(H':Hp),Same H H'->Q (.int r) H'):spCell K vs H Q x_3
theorem p9:(10:Int) ^ (Int.toNat 9)=1000000000:=by decide
section
variable{P:Program}{w:World}{K:PySem.W.Frag}{mg:Str->Option Value}{base:Heap}
theorem A9:FnScope ["cell","k","number"] ["cell","k"] (defScope (top 25)):=⟨rfl,rfl,rfl,by decide +kernel,rfl,by decide +kernel,by decide +kernel⟩
theorem DI{f:Addr}{fd:FuncData}(F:Fun K "_law_stir" "_law_stir" (top 25) f fd):FnOk P w K mg base CX0 1 f fd ["cell","k"] spStir:=by
 have nd:=A9.nd
 refine F.ok A9 (λvs H Q E h=>?_) (λcdv A outer s H vs Q E hr h=>?_)
 ·obtain⟨c,k,rfl,_⟩:=h
  rfl
 ·obtain⟨c,k,rfl,k0,k1,q⟩:=h
  refine⟨_,(@sq _ _ _ _ _ (sL (i:=2) nd rfl (by nofun) (sK sV (sK vY (sK tH (sK tH (sK sV (pv 0) (sK ye sg sg)) (sK vY sg (pv 1))) sg) sg) sg))
   (@sq _ _ _ _ _ (sL (i:=2) nd rfl (by nofun) (sK sV (sK vY (pv 2) (pv 2)) sg))
   (@sy _ _ _ (@sN _ _ _ _ (sK DC (sK sV (sK vY (pv 2) sg) sg) sg))))),?_⟩
  infer_instance
  generalize h1:(c%10 ^ Int.toNat 12+977*k+1)*48271%2147483647=n1
  have a1:0<=n1:=by rw[←h1];exact yW _ (by decide)
  have b1:n1<2147483647:=by rw[←h1];exact yP _ (by decide)
  refine⟨_,_,rfl,rfl,.inl ⟨by rw[p64];omega,by rw[p64];omega⟩,?_⟩
  infer_instance
  generalize h2:n1*n1%2147483629=n2
  have a2:0<=n2:=by rw[←h2];exact yW _ (by decide)
  have b2:n2<2147483629:=by rw[←h2];exact yP _ (by decide)
  exact q _ (by omega) (by omega)
theorem AM:FnScope ["script","k"] ["script","k"] (defScope (top 26)):=⟨rfl,rfl,rfl,by decide +kernel,rfl,by decide +kernel,by decide +kernel⟩
theorem DT{f:Addr}{fd:FuncData}(F:Fun K "_law_cell" "_law_cell" (top 26) f fd)(T:Txt K mg):FnOk P w K mg base CX0 1 f fd ["script","k"] (spCell K):=by
 have nd:=AM.nd
 refine F.ok AM (λvs H Q E h=>?_) (λcdv A outer s H vs Q E hr h=>?_)
 ·obtain⟨a,ns,k,rfl,_⟩:=h
  rfl
 ·obtain⟨a,ns,k,rfl,hS,q⟩:=h
  refine⟨_,(@sy _ _ _ (@sN _ _ _ _ (sR (xa rfl) (by rfl) T.n_sum B1 (@sf _ _ _ _ _ (Ad (K:=K) rfl (pv 0) (xG (pv 1)) (xG sg) (xG sg)) sh (by rfl))))),?_⟩
  refine⟨_,rfl,_,rfl,_,rfl,_,rfl,_,rfl,a,ns,rfl,hS,(by intro z;cases z),λp ms em hm np=>?_⟩
  exact⟨p,ms,rfl,SqL.of ss,q _ _ (Same.new np)⟩
end
end Oc
namespace Oc
open PySem L2
abbrev Tri:=Int×Int×Int
def triV(t:Tri):List V:=[.int t.1,.int t.2.1,.int t.2.2]
def triD(t:Tri):PyData:=.tuple [.int t.1,.int t.2.1,.int t.2.2]
abbrev Sta:=Str×Option Int
def staV:Sta->List V
 | (k,none)=>[.str k]
 | (k,some n)=>[.str k,.int n]
set_option genInjectivity false in
set_option genSizeOf false in
structure Wk where
 st:List Sta
 be:List Tri
 fe:List Tri
def StaOk(s:Sta):Prop:=(∃n,s=(("relay":Str),some n)/\-1000000000<=n/\n<=1000000000)\/s=(("sorter":Str),none)\/(∃n,s=(("thinner":Str),some n)/\2<=n/\n<=9)\/s=(("joiner":Str),none)\/s=(("sink":Str),none)
structure Wk.Ok(W:Wk):Prop where
 s1:1<=W.st.length
 s8:W.st.length<=8
 b12:W.be.length<=12
 f60:W.fe.length<=60
 sta:∀s∈W.st,StaOk s
 bel:∀t∈W.be,0<=t.1/\t.1<W.st.length/\0<=t.2.1/\t.2.1<W.st.length/\1<=t.2.2/\t.2.2<=9
 fee:∀t∈W.fe,0<=t.1/\t.1<W.st.length/\0<=t.2.1/\t.2.1<=50/\-1000000000<=t.2.2/\t.2.2<=1000000000
inductive IsTri(H:Hp)(x:V)(t:Tri):Prop where
 | mk (p:_) (h_0:x=.ref p) (h_1:H p=some (.tup (triV t))):IsTri H x t
inductive IsSta(H:Hp)(x:V)(s:Sta):Prop where
 | mk (p:_) (h_0:x=.ref p) (h_1:H p=some (.tup (staV s))):IsSta H x s
theorem IsTri.same{H H':Hp}(s:Same H H'){x:V}{t:Tri}(h:IsTri H x t):IsTri H' x t:=let ⟨p,e,q⟩:=h;⟨p,e,s _ _ q⟩
theorem IsSta.same{H H':Hp}(s:Same H H'){x:V}{t:Sta}(h:IsSta H x t):IsSta H' x t:=let ⟨p,e,q⟩:=h;⟨p,e,s _ _ q⟩
structure LsAt(H:Hp)(s b f:Addr)(W:Wk)(xs ys zs:List V):Prop where
 hs:H s=some (.lst xs)
 hb:H b=some (.lst ys)
 hf:H f=some (.lst zs)
 ps:Paired (IsSta H) xs W.st
 pb:Paired (IsTri H) ys W.be
 pf:Paired (IsTri H) zs W.fe
theorem sw{α β:Type}{F G:α->β->Prop}(h:∀a b,F a b->G a b){l:List α}{m:List β}(p:Paired F l m):Paired G l m:=L2.Paired.mapP p h
theorem LsAt.same{H H':Hp}{s b f:Addr}{W:Wk}{xs ys zs:List V}(e:Same H H')(h:LsAt H s b f W xs ys zs):LsAt H' s b f W xs ys zs :=
 ⟨e _ _ h.hs,e _ _ h.hb,e _ _ h.hf,sw (λ_ _=>IsSta.same e) h.ps,sw (λ_ _=>IsTri.same e) h.pb,sw (λ_ _=>IsTri.same e) h.pf⟩
structure WkAt(H:Hp)(w:Addr)(W:Wk):Prop where
 ex:∃s b f xs ys zs,H w=some (.tup [.ref s,.ref b,.ref f])/\LsAt H s b f W xs ys zs
theorem WkAt.same{H H':Hp}{w:Addr}{W:Wk}(e:Same H H')(h:WkAt H w W):WkAt H' w W:=by
 obtain⟨s,b,f,xs,ys,zs,h1,h2⟩:=h.ex
 exact⟨s,b,f,xs,ys,zs,e _ _ h1,h2.same e⟩
theorem uY{H:Hp}:∀{L:List Cell},(∀c∈L,H c.1=some c.2)->∃L':List Cell,Hs H L'/\∀c∈L,c∈L'
 | [],_=>⟨[],⟨List.nodup_nil,λ_ h=>absurd h zI⟩,λ_ h=>absurd h zI⟩
 | c::L,h=>by
  obtain⟨L',h1,h2⟩:=uY (L:=L) λd hd=>h d (zL _ hd)
  have hc:=h c zJ
  by_cases hm:c.1∈L'.map Prod.fst
  ·obtain⟨d,hd,e⟩:=yI.mp hm
   have ed:=h1.2 d hd
   rw[e,hc]at ed
   have:d=c:=Prod.ext e (Option.some.inj ed).symm
   refine⟨L',h1,λx hx=>?_⟩
   rcases zR.mp hx with r|r
   ·rw[r,←this];exact hd
   ·exact h2 x r
  ·refine⟨c::L',⟨by rw[yE,qF];exact⟨hm,h1.1⟩,λx hx=>?_⟩,λx hx=>?_⟩
   ·rcases zR.mp hx with r|r
    ·rw[r];exact hc
    ·exact h1.2 x r
   ·rcases zR.mp hx with r|r
    ·rw[r];exact zJ
    ·exact zL _ (h2 x r)
theorem uu{α:Type}{H:Hp}{F:Hp->V->α->Prop}(hF:∀x a,F H x a->∃c:Cell,H c.1=some c.2/\∀H':Hp,H' c.1=some c.2->F H' x a):∀{xs:List V}{as:List α},Paired (F H) xs as->∃L:List Cell,(∀c∈L,H c.1=some c.2)/\∀H':Hp,(∀c∈L,H' c.1=some c.2)->Paired (F H') xs as
 | _,_,.nil=>⟨[],λ_ h=>absurd h zI,λ_ _=>.nil⟩
 | _,_,.cons p r=>by
  obtain⟨c,h1,h2⟩:=hF _ _ p
  obtain⟨L,h3,h4⟩:=uu hF r
  refine⟨c::L,λx hx=>?_,λH' h=>.cons (h2 H' (h c zJ)) (h4 H' λx hx=>h x (zL _ hx))⟩
  rcases zR.mp hx with e|e
  ·rw[e];exact h1
  ·exact h3 x e
theorem WkAt.cells2{H:Hp}{w:Addr}{W:Wk}(h:WkAt H w W):∃(wc:List Cell)(s b f:Addr)(xs ys zs:List V),Hc H [wc]/\∀H':Hp,(∀c∈wc,H' c.1=some c.2)->H' w=some (.tup [.ref s,.ref b,.ref f])/\LsAt H' s b f W xs ys zs:=by
 obtain⟨s,b,f,xs,ys,zs,h1,h2⟩:=h.ex
 obtain⟨L1,a1,b1⟩:=uu (F:=IsSta) (λx a ⟨p,e,hp⟩=>⟨(p,_),hp,λH' h'=>⟨p,e,h'⟩⟩) h2.ps
 obtain⟨L2,a2,b2⟩:=uu (F:=IsTri) (λx a ⟨p,e,hp⟩=>⟨(p,_),hp,λH' h'=>⟨p,e,h'⟩⟩) h2.pb
 obtain⟨L3,a3,b3⟩:=uu (F:=IsTri) (λx a ⟨p,e,hp⟩=>⟨(p,_),hp,λH' h'=>⟨p,e,h'⟩⟩) h2.pf
 obtain⟨L',c1,c2⟩:=uY (H:=H) (L:=(w,.tup [.ref s,.ref b,.ref f])::(s,.lst xs)::(b,.lst ys)::(f,.lst zs)::(L1++(L2++L3))) (λc hc=>by
  rcases zR.mp hc with e|hc
  ·rw[e];exact h1
  rcases zR.mp hc with e|hc
  ·rw[e];exact h2.hs
  rcases zR.mp hc with e|hc
  ·rw[e];exact h2.hb
  rcases zR.mp hc with e|hc
  ·rw[e];exact h2.hf
  rcases yA.mp hc with e|hc
  ·exact a1 c e
  rcases yA.mp hc with e|e
  ·exact a2 c e
  ·exact a3 c e)
 refine⟨L',s,b,f,xs,ys,zs,by show Hs H [L'].flatten;rw[qK];exact c1,λH' h'=>⟨?_,?_,?_,?_,?_,?_,?_⟩⟩
 ·exact h' _ (c2 _ zJ)
 ·exact h' _ (c2 _ (zL _ zJ))
 ·exact h' _ (c2 _ (zL _ (zL _ zJ)))
 ·exact h' _ (c2 _ (zL _ (zL _ (zL _ zJ))))
 ·exact b1 H' λc hc=>h' c (c2 c (zL _ (zL _ (zL _ (zL _ (qE _ hc))))))
 ·exact b2 H' λc hc=>h' c (c2 c (zL _ (zL _ (zL _ (zL _ (zO _ (qE _ hc)))))))
 ·exact b3 H' λc hc=>h' c (c2 c (zL _ (zL _ (zL _ (zL _ (zO _ (zO _ hc)))))))
theorem IsTri.dt{K:PySem.W.Frag}{H:Hp}{x:V}{t:Tri}(h:IsTri H x t):Dt K H 1 x (triD t):=by
 obtain⟨p,rfl,e⟩:=h
 exact .tup (SqT.of e) (.cons (.int _ _) (.cons (.int _ _) (.cons (.int _ _) (.nil _))))
def idx{α:Type}(f:α->Bool):Nat->List α->List Int
 | _,[]=>[]
 | k,t::r=>if f t then (k:Int)::idx f (k+1) r else idx f (k+1) r
theorem yr{α:Type}(f:α->Bool):∀(l:List α)(k:Nat)(t:α),idx f k (l++[t])=idx f k l++(if f t then [((k+l.length:Nat):Int)]else [])
 | [],k,t=>by
  show idx f k [t]=[]++_
  unfold idx
  split <;>simp [idx]
 | x::l,k,t=>by
  show idx f k (x::(l++[t]))=idx f k (x::l)++_
  have ih:=yr f l (k+1) t
  have e:k+1+l.length=k+(x::l).length:=by rw[zX];omega
  rw[e]at ih
  unfold idx
  by_cases h:f x=true
  ·rw[if_pos h,if_pos h,ih];rfl
  ·rw[if_neg h,if_neg h,ih]
theorem vU{α:Type}(f:α->Bool){l:List α}{i:Nat}{t:α}(h:l[i]?=some t):idx f 0 (l.take (i+1))=idx f 0 (l.take i)++(if f t then [(i:Int)]else []):=by
 have hi:=(zD.mp h).1
 rw[yV,h]
 show idx f 0 (l.take i++[t])=_
 rw[yr,zY,Nat.min_eq_left (yY hi),jM]
theorem uB{α:Type}(f:α->Bool):∀(l:List α)(k:Nat),(idx f k l).length<=l.length
 | [],_=>zH _
 | x::l,k=>by
  have:=uB f l (k+1)
  unfold idx
  split
  ·rw[zX,zX];omega
  ·rw[zX];omega
def Wk.wy(W:Wk)(s:Int):List Int:=(if W.fe.any (λt=>t.1==s)then [-1]else [])++idx (λ(t:Tri)=>t.2.1==s) 0 W.be
def Wk.lv(W:Wk)(s:Int):List Int:=idx (λ(t:Tri)=>t.1==s) 0 W.be
theorem _root_.PySem.Paired.gt{α β:Type}{F:α->β->Prop}{l₁:List α}{l₂:List β}(h:Paired F l₁ l₂){i:Nat}{a:α}(e:l₁[i]?=some a):∃b,l₂[i]?=some b/\F a b:=PySem.Paired.getL h e
inductive spWays(vs:List V)(H:Hp)(Q:VK)(x_3:XK):Prop where
 | mk (w:Addr) (W:Wk) (s:Int) (h_0:vs=[.ref w,.int s]) (h_1:WkAt H w W) (h_2:W.Ok) (h_3:∀(p:Addr)(H':Hp),H p=none->H' p=some (.lst ((W.wy s).map V.int))->Same H H'->Q (.ref p) H'):spWays vs H Q x_3
inductive spLeav(vs:List V)(H:Hp)(Q:VK)(x_3:XK):Prop where
 | mk (w:Addr) (W:Wk) (s:Int) (h_0:vs=[.ref w,.int s]) (h_1:WkAt H w W) (h_2:W.Ok) (h_3:∀(p:Addr)(H':Hp),H p=none->H' p=some (.lst ((W.lv s).map V.int))->Same H H'->Q (.ref p) H'):spLeav vs H Q x_3
section
variable{P:Program}{w:World}{K:PySem.W.Frag}{mg:Str->Option Value}{base:Heap}
theorem mC:FnScope ["works","station","belts","fed"] ["works","station"] (defScope (top 3)):=⟨rfl,rfl,rfl,by decide +kernel,rfl,by decide +kernel,by decide +kernel⟩
theorem pq{f:Addr}{fd:FuncData}{tk:Tok}(F:Fun K "ways" "ways" (top 3) f fd)(T:Txt K mg)(g_DOOR:mg "DOOR"=some (.int (-1) tk)):FnOk P w K mg base CX0 1 f fd ["works","station"] spWays:=by
 have nd:=mC.nd
 refine F.ok mC (λvs H Q E h=>?_) (λcdv A outer s H vs Q E hr h=>?_)
 ·obtain⟨w,W,z,rfl,_⟩:=h
  rfl
 ·obtain⟨w,W,z,rfl,hw,ok,q⟩:=h
  obtain⟨sa,ba,fa,xs,ys,zs,h1,h2⟩:=hw.ex
  refine⟨_,(@sq _ _ _ _ _ (ue (i:=2) nd rfl (Or.inl rfl) rfl (own:=["number","belt"]) (fr:=["station"]) (js:=[1]) (by and_intros) (AN rfl T.n_enumerate (@sf _ _ _ _ _ (@sE _ _ _ _ _ _ _ (sA (K:=K) rfl) (pv 0) sg (λ_ _=>rfl)) sh (by rfl))) (λ_ _ _ _=>(AT (K:=K) (n:=2) rfl rfl (ux (sH (i:=0) (show List.Nodup (["number","belt","station"]:List Str)from by decide +kernel) rfl (by nofun)) (ux (sH (i:=1) (show List.Nodup (["number","belt","station"]:List Str)from by decide +kernel) rfl (by nofun)) x_)))) (λ_ _ _ _=>(uj (sJ tN (@sE _ _ _ _ _ _ _ (sA (K:=K) rfl) (pv 1) sg (λ_ _=>rfl)) (pv 2) (sP _)))) (λ_ _ _ _=>(pv 0)))
   (@sq _ _ _ _ _ (sL (i:=3) nd rfl (by nofun) (sR (xc rfl) (by rfl) T.n_any CF (@sf _ _ _ _ _ (tE (own:=["feed"]) (fr:=["station"]) (js:=[1]) (by and_intros) (sY (K:=K) rfl (@sE _ _ _ _ _ _ _ (sA (K:=K) rfl) (pv 0) sg (λ_ _=>rfl))) (λ_ _ _ _=>(sH (i:=0) (show List.Nodup (["feed","station"]:List Str)from by decide +kernel) rfl (by nofun))) (λ_ _ _ _=>tq) (λ_ _ _ _=>(uR tN (@sE _ _ _ _ _ _ _ (sA (K:=K) rfl) (pv 0) sg (λ_ _=>rfl)) (pv 1) (sP _)))) sh (by rfl))))
   (@sy _ _ _ (@sN _ _ _ _ (uM (uI (pv 3)) (sK F8 (@tJ _ _ _ _ (@sf _ _ _ _ _ (vQ (v:=.int (-1)) (by rfl) g_DOOR ⟨_,rfl⟩) sh (by rfl))) (pv 2)) (pv 2)))))),?_⟩
  refine⟨_,rfl,⟨_,_,_,_,rfl,rfl,SqT.of h1,(su (j:=1) rfl),ba,rfl,⟨_,SqL.of h2.hb⟩,λD nD=>?_⟩⟩
  have lb:=h2.pb.length
  have b12:=ok.b12
  refine xm (a:=ba) (xs:=ys) (λi H4=>Same H H4/\H4 D=some (.lst ((idx (λ(t:Tri)=>t.2.1==z) 0 (W.be.take i)).map V.int))) ⟨Same.new nD,ss⟩ (λi H4 _ p=>SqL.of (p.1 _ _ h2.hb)) ?_ ?_
  ·rintro i x H4 m Wf hx ⟨s4,h4⟩ nx pp np
   obtain⟨t,ht,hp0⟩:=h2.pb.gt hx
   obtain⟨a0,rfl,ha⟩:=hp0
   have s5:Same H4 (upd H4 pp (.tup [.int i,.ref a0])):=Same.new np
   refine⟨pp,_,rfl,SqT.of ss,rfl,_,_,rfl,_,_,rfl,rfl,?_⟩
   refine⟨_,rfl,⟨_,_,_,_,rfl,rfl,SqT.of (s5 _ _ (s4 _ _ ha)),(su (j:=1) rfl),_,rfl,rfl,_,rfl,?_⟩⟩
   have et:decide (V.int t.2.1=V.int z)=(t.2.1==z):=tS
   have eid:=vU (λ(t:Tri)=>t.2.1==z) ht
   refine iteB (λhb=>?_) (λhb=>?_)
   ·rw[et]at hb
    refine⟨_,rfl,_,s5 _ _ h4,sG (by rw[zC];have:=uB (λ(t:Tri)=>t.2.1==z) (W.be.take i) 0;rw[zY]at this;omega),nx _ ⟨?_,?_⟩⟩
    ·exact((s4.trans s5).upd nD)
    ·rw[ss,eid,hb,if_pos rfl,zK];rfl
   ·rw[et]at hb
    refine nx _ ⟨s4.trans s5,?_⟩
    rw[eid,hb,if_neg zQ,zP]
    exact s5 _ _ h4
  ·rintro H4 ⟨s4,h4⟩
   rw[lb,yB]at h4
   refine⟨_,rfl,⟨_,_,_,_,rfl,rfl,SqT.of (s4 _ _ h1),(su (j:=2) rfl),fa,rfl,⟨_,SqL.of (s4 _ _ h2.hf)⟩,λD2 nD2=>?_⟩⟩
   have lf:=h2.pf.length
   have f60:=ok.f60
   refine s0 (a:=fa) (xs:=zs) (λi H5=>Same H4 H5/\H5 D2=some (.lst (((W.fe.take i).map λ(t:Tri)=>t.1==z).map V.bl))) ⟨Same.new nD2,ss⟩ (λi H5 _ p=>SqL.of (p.1 _ _ (s4 _ _ h2.hf))) ?_ ?_
   ·rintro i x H5 m Wf hx ⟨s5,h5⟩ nx
    obtain⟨t,ht,hp0⟩:=h2.pf.gt hx
    obtain⟨a0,rfl,ha⟩:=hp0
    have hi:=(zD.mp ht).1
    refine⟨_,rfl,⟨_,_,_,_,rfl,rfl,SqT.of (s5 _ _ (s4 _ _ ha)),(su (j:=0) rfl),_,rfl,rfl,_,h5,sG (by rw[zC,zC,zY];omega),nx _ ⟨s5.upd nD2,?_⟩⟩⟩
    rw[ss,yV,ht,zK,zK]
    show some (HO.lst (_++[V.bl (decide (V.int t.1=V.int z))]))=some (HO.lst (_++[V.bl (t.1==z)]))
    rw[tS]
   ·rintro H5 ⟨s5,h5⟩
    rw[lf,yB]at h5
    refine⟨D2,_,rfl,SqL.of h5,?_⟩
    have ea:((W.fe.map λ(t:Tri)=>t.1==z).any id)=W.fe.any λt=>t.1==z:=by rw[jU];rfl
    refine⟨_,rfl,_,rfl,?_⟩
    refine iteB (λhb=>?_) (λhb=>?_)
    ·rw[ea]at hb
     refine⟨(by show 1<=sizeLine;decide),λl1 n1=>?_⟩
     have s6:Same H5 (upd H5 l1 (.lst [V.int (-1)])):=Same.new n1
     refine⟨_,rfl,l1,D,_,_,rfl,rfl,ss,s6 _ _ (s5 _ _ h4),?_,λc nc=>?_⟩
     ·rw[zC]
      have:=uB (λ(t:Tri)=>t.2.1==z) W.be 0
      exact yY (sG (by show 1+_<=1000;omega))
     ·refine q c _ (((s4.trans s5).trans s6).free nc) ?_ (((s4.trans s5).trans s6).upd (((s4.trans s5).trans s6).free nc))
      rw[ss]
      unfold Wk.wy
      rw[hb,if_pos rfl,zK]
      rfl
    ·rw[ea]at hb
     refine⟨_,rfl,q D _ nD ?_ (s4.trans s5)⟩
     unfold Wk.wy
     rw[hb,if_neg zQ,jK]
     exact s5 _ _ h4
theorem AB:FnScope ["works","station"] ["works","station"] (defScope (top 6)):=⟨rfl,rfl,rfl,by decide +kernel,rfl,by decide +kernel,by decide +kernel⟩
theorem EA{f:Addr}{fd:FuncData}(F:Fun K "leaving" "leaving" (top 6) f fd)(T:Txt K mg):FnOk P w K mg base CX0 1 f fd ["works","station"] spLeav:=by
 have nd:=AB.nd
 refine F.ok AB (λvs H Q E h=>?_) (λcdv A outer s H vs Q E hr h=>?_)
 ·obtain⟨w,W,z,rfl,_⟩:=h
  rfl
 ·obtain⟨w,W,z,rfl,hw,ok,q⟩:=h
  obtain⟨sa,ba,fa,xs,ys,zs,h1,h2⟩:=hw.ex
  refine⟨_,(@sy _ _ _ (@sN _ _ _ _ (tE (own:=["number","belt"]) (fr:=["station"]) (js:=[1]) (by and_intros) (AN rfl T.n_enumerate (@sf _ _ _ _ _ (@sE _ _ _ _ _ _ _ (sA (K:=K) rfl) (pv 0) sg (λ_ _=>rfl)) sh (by rfl))) (λ_ _ _ _=>(AT (K:=K) (n:=2) rfl rfl (ux (sH (i:=0) (show List.Nodup (["number","belt","station"]:List Str)from by decide +kernel) rfl (by nofun)) (ux (sH (i:=1) (show List.Nodup (["number","belt","station"]:List Str)from by decide +kernel) rfl (by nofun)) x_)))) (λ_ _ _ _=>(uj (sJ tN (@sE _ _ _ _ _ _ _ (sA (K:=K) rfl) (pv 1) sg (λ_ _=>rfl)) (pv 2) (sP _)))) (λ_ _ _ _=>(pv 0))))),?_⟩
  refine⟨_,rfl,⟨_,_,_,_,rfl,rfl,SqT.of h1,(su (j:=1) rfl),ba,rfl,⟨_,SqL.of h2.hb⟩,λD nD=>?_⟩⟩
  have lb:=h2.pb.length
  have b12:=ok.b12
  refine xm (a:=ba) (xs:=ys) (λi H4=>Same H H4/\H4 D=some (.lst ((idx (λ(t:Tri)=>t.1==z) 0 (W.be.take i)).map V.int))) ⟨Same.new nD,ss⟩ (λi H4 _ p=>SqL.of (p.1 _ _ h2.hb)) ?_ ?_
  ·rintro i x H4 m Wf hx ⟨s4,h4⟩ nx pp np
   obtain⟨t,ht,hp0⟩:=h2.pb.gt hx
   obtain⟨a0,rfl,ha⟩:=hp0
   have s5:Same H4 (upd H4 pp (.tup [.int i,.ref a0])):=Same.new np
   refine⟨pp,_,rfl,SqT.of ss,rfl,_,_,rfl,_,_,rfl,rfl,?_⟩
   refine⟨_,rfl,⟨_,_,_,_,rfl,rfl,SqT.of (s5 _ _ (s4 _ _ ha)),(su (j:=0) rfl),_,rfl,rfl,_,rfl,?_⟩⟩
   have et:decide (V.int t.1=V.int z)=(t.1==z):=tS
   have eid:=vU (λ(t:Tri)=>t.1==z) ht
   refine iteB (λhb=>?_) (λhb=>?_)
   ·rw[et]at hb
    refine⟨_,rfl,_,s5 _ _ h4,sG (by rw[zC];have:=uB (λ(t:Tri)=>t.1==z) (W.be.take i) 0;rw[zY]at this;omega),nx _ ⟨?_,?_⟩⟩
    ·exact((s4.trans s5).upd nD)
    ·rw[ss,eid,hb,if_pos rfl,zK];rfl
   ·rw[et]at hb
    refine nx _ ⟨s4.trans s5,?_⟩
    rw[eid,hb,if_neg zQ,zP]
    exact s5 _ _ h4
  ·rintro H4 ⟨s4,h4⟩
   rw[lb,yB]at h4
   exact q D _ nD h4 s4
end
end Oc
namespace Oc
theorem uh{α:Type}{l:List α}{i:Nat}{x:α}(h:l[i]?=some x):l.take (i+1)=l.take i++[x]:=by rw[yV,h];rfl
end Oc
namespace Oc
open PySem L2 PyProof.Rows
inductive spSta(vs:List V)(H:Hp)(Q:VK)(x_3:XK):Prop where
 | mk (c:Int) (h_0:vs=[.int c]) (h_1:∀(p:Addr)(s:Sta)(H':Hp),H' p=some (.tup (staV s))->StaOk s->Same H H'->Q (.ref p) H'):spSta vs H Q x_3
inductive spWks(K:PySem.W.Frag)(vs:List V)(H:Hp)(Q:VK)(x_3:XK):Prop where
 | mk (a:Addr) (ns:List Int) (h_0:vs=[.ref a]) (h_1:SqL K H a (ns.map V.int)) (h_2:∀(w:Addr)(W:Wk)(H':Hp),WkAt H' w W->W.Ok->Same H H'->Q (.ref w) H'):spWks K vs H Q x_3
theorem sW{α β:Type}{F:α->β->Prop}:∀{a:List α}{b:List β}{c:List α}{d:List β},Paired F a b->Paired F c d->Paired F (a++c) (b++d)
 | _,_,_,_,.nil,h=>h
 | _,_,_,_,.cons p r,h=>.cons p (sW r h)
theorem IsTri.keep{H:Hp}{a:Addr}{xs ys:List V}(e:H a=some (.lst xs)){x:V}{t:Tri}(h:IsTri H x t):IsTri (upd H a (.lst ys)) x t:=by
 obtain⟨p,rfl,q⟩:=h
 exact⟨p,rfl,by rw[sD (tR q e (by intro z;cases z))];exact q⟩
theorem IsSta.keep{H:Hp}{a:Addr}{xs ys:List V}(e:H a=some (.lst xs)){x:V}{t:Sta}(h:IsSta H x t):IsSta (upd H a (.lst ys)) x t:=by
 obtain⟨p,rfl,q⟩:=h
 exact⟨p,rfl,by rw[sD (tR q e (by intro z;cases z))];exact q⟩
theorem x8{H4 H7 H9:Hp}{aB t:Addr}{ys:List V}{be:List Tri}(x:Tri)(s7:Same H4 H7)(s9:Same H7 H9)(hB:H7 aB=some (.lst ys))(nB:H4 aB=none)(pb:Paired (IsTri H7) ys be)(nt:H9 t=none) :
  Same H4 (upd (upd H9 t (.tup (triV x))) aB (.lst (ys++[.ref t])))/\Paired (IsTri (upd (upd H9 t (.tup (triV x))) aB (.lst (ys++[.ref t])))) (ys++[.ref t]) (be++[x]):=by
 have s10:Same H9 (upd H9 t (.tup (triV x))):=Same.new nt
 have s:=s9.trans s10
 exact⟨(s7.trans s).upd nB,sW (sw (λ_ _ h=>(IsTri.same s h).keep (s _ _ hB)) pb) (.cons (IsTri.keep (s _ _ hB) ⟨t,rfl,ss⟩) .nil)⟩
theorem uN{α:Type}{p:α->Prop}{l:List α}{x:α}(h:∀t∈l,p t)(hx:p x):∀t∈l++[x],p t:=λu hu=>by
 rcases yA.mp hu with q|q
 ·exact h u q
 ·rw[zG.mp q];exact hx
theorem at3{xs:List Int}{r:Int}{n:Nat}(hn:xs.length=n)(n0:0<n):∃z:Int,atI (xs.map V.int) (r%(n:Int))=some (V.int z)/\z∈xs:=by
 have h1:=yW r (show(n:Int)≠0 by omega)
 have h2:=yP r (show(0:Int)<(n:Int) by omega)
 obtain⟨j,hj⟩:∃j:Nat,r%(n:Int)=(j:Int):=⟨(r%(n:Int)).toNat,by omega⟩
 have hl:j<xs.length:=by omega
 rw[hj]
 exact⟨xs[j],su (by rw[zF,zB hl];rfl),kG hl⟩
section
variable{P:Program}{w:World}{K:PySem.W.Frag}{mg:Str->Option Value}{base:Heap}
theorem Ca:FnScope ["cell","kind"] ["cell"] (defScope (top 27)):=⟨rfl,rfl,rfl,by decide +kernel,rfl,by decide +kernel,by decide +kernel⟩
theorem Fa{f:Addr}{fd:FuncData}(F:Fun K "_law_station" "_law_station" (top 27) f fd)(aa:FnAt P w K mg base 1 "_law_stir" ["cell","k"] spStir):FnOk P w K mg base CX0 2 f fd ["cell"] spSta:=by
 have nd:=Ca.nd
 refine F.ok Ca (λvs H Q E h=>?_) (λcdv A outer s H vs Q E hr h=>?_)
 ·obtain⟨c,rfl,_⟩:=h
  rfl
 ·obtain⟨c,rfl,q⟩:=h
  refine⟨_,(@sq _ _ _ _ _ (@sL _ _ 1 _ _ _ _ nd rfl (by nofun) (@sE _ _ _ _ _ _ _ (sO (K:=K) rfl) (@tJ _ _ _ _ (@uV _ _ _ _ _ _ (@uV _ _ _ _ _ _ (@uV _ _ _ _ _ _ (@uV _ _ _ _ _ _ (@uV _ _ _ _ _ _ (@uV _ _ _ _ _ _ (@uV _ _ _ _ _ _ sh)))))))) (sK sV (sU aa (hr.mono (by decide)) (by rfl) (@sf _ _ _ _ _ (pv 0) (@sf _ _ _ _ _ sg sh (by rfl)) (by rfl))) sg) (λ_ _=>rfl)) FM (by first|exact .inl rfl|exact .inr rfl|assumption))
   (@sq _ _ _ _ _ (tG (sJ tN (pv 1) tW (sP _)) (@sy _ _ _ (@sN _ _ _ _ (@tj _ _ _ _ _ (@sf _ _ _ _ _ (pv 1) (@sf _ _ _ _ _ (@sE _ _ _ _ _ _ _ (sO (K:=K) rfl) (@tJ _ _ _ _ (@sf _ _ _ _ _ (sK xN (sK sV (sU aa (hr.mono (by decide)) (by rfl) (@sf _ _ _ _ _ (pv 0) (@sf _ _ _ _ _ sg sh (by rfl)) (by rfl))) sg) sg) (@sf _ _ _ _ _ (sK sV (sU aa (hr.mono (by decide)) (by rfl) (@sf _ _ _ _ _ (pv 0) (@sf _ _ _ _ _ sg sh (by rfl)) (by rfl))) (sK ye sg sg)) sh (by rfl)) (by rfl))) (sK sV (sU aa (hr.mono (by decide)) (by rfl) (@sf _ _ _ _ _ (pv 0) (@sf _ _ _ _ _ sg sh (by rfl)) (by rfl))) sg) (λ_ _=>rfl)) sh (by rfl)) (by rfl))))) sS)
   (@sq _ _ _ _ _ (tG (sJ tN (pv 1) tW (sP _)) (@sy _ _ _ (@sN _ _ _ _ (@tj _ _ _ _ _ (@sf _ _ _ _ _ (pv 1) (@sf _ _ _ _ _ (sK tH sg (sK sV (sU aa (hr.mono (by decide)) (by rfl) (@sf _ _ _ _ _ (pv 0) (@sf _ _ _ _ _ sg sh (by rfl)) (by rfl))) sg)) sh (by rfl)) (by rfl))))) sS)
   (@sy _ _ _ (@sN _ _ _ _ (@tj _ _ _ _ _ (@sf _ _ _ _ _ (pv 1) sh (by rfl)))))))),?_⟩
  refine⟨(by show 7<=sizeLine;decide),λl nl=>?_⟩
  have s1:Same H (upd H l (.lst [.str "relay",.str "sorter",.str "thinner",.str "joiner",.str "sink",.str "relay",.str "sorter"])):=Same.new nl
  refine⟨_,rfl,c,0,rfl,by decide,by decide,λn n0 n1=>⟨_,_,rfl,rfl,(show(0:Int)<7 by decide),?_⟩⟩
  obtain⟨j,hj⟩:∃j:Nat,n%7=(j:Int):=⟨(n%7).toNat,by omega⟩
  have hj5:j<7:=by omega
  have tup1:∀(x:Str)(H1:Hp),Same H H1->StaOk (x,none)->∀t,H1 t=none->Q (.ref t) (upd H1 t (.tup [.str x])):=λx H1 sx ok t nt=>q t (x,none) _ ss ok (sx.upd (sx.free nt))
  match j,hj5 with
  | 0,_ =>
   refine⟨_,_,_,_,rfl,rfl,SqL.of ss,(by rw[hj];exact su (j:=0) rfl),?_⟩
   refine⟨_,rfl,rfl,_,rfl,?_⟩
   rw[show decide (V.str "relay"=V.str "relay")=true from by decide +kernel]
   refine iteT ⟨_,rfl,_,rfl,c,1,rfl,by decide,by decide,λr r0 r1=>⟨_,_,rfl,rfl,(show(0:Int)<21 by decide),_,_,rfl,rfl,_,rfl,c,1,rfl,by decide,by decide,λr' r0' r1'=>⟨_,_,rfl,rfl,⟨by decide,by decide⟩,_,_,rfl,rfl,(by decide),(by show 2<=sizeLine;decide),λl2 n2=>?_⟩⟩⟩
   have s2:=Same.new (o:=.lst (([r%21-10,r'%(10:Int) ^ Int.toNat 9]:List Int).map V.int)) n2
   refine⟨_,rfl,c,2,rfl,by decide,by decide,λr2 _ _=>⟨_,_,rfl,rfl,(show(0:Int)<2 by decide),?_⟩⟩
   obtain⟨z,hz,mz⟩:=at3 (xs:=[r%21-10,r'%(10:Int) ^ Int.toNat 9]) (r:=r2) (n:=2) rfl (by decide)
   refine⟨l2,_,_,_,rfl,rfl,SqL.of ss,hz,(by show 2<=sizeLine;decide),λt nt=>?_⟩
   have S:=s1.trans s2
   refine q t ("relay",some z) _ ss (.inl ⟨z,rfl,?_⟩) (S.upd (S.free nt))
   rw[p9]at mz
   simp only [zR,zI,or_false]at mz
   omega
  | 1,_ =>
   refine⟨_,_,_,_,rfl,rfl,SqL.of ss,(by rw[hj];exact su (j:=1) rfl),?_⟩
   refine⟨_,rfl,rfl,_,rfl,?_⟩
   rw[show decide (V.str "sorter"=V.str "relay")=false from by decide +kernel]
   refine iteF ⟨_,rfl,rfl,_,rfl,?_⟩
   rw[show decide (V.str "sorter"=V.str "thinner")=false from by decide +kernel]
   exact iteF ⟨_,rfl,(by show 1<=sizeLine;decide),tup1 _ _ s1 (.inr (.inl rfl))⟩
  | 2,_ =>
   refine⟨_,_,_,_,rfl,rfl,SqL.of ss,(by rw[hj];exact su (j:=2) rfl),?_⟩
   refine⟨_,rfl,rfl,_,rfl,?_⟩
   rw[show decide (V.str "thinner"=V.str "relay")=false from by decide +kernel]
   refine iteF ⟨_,rfl,rfl,_,rfl,?_⟩
   rw[show decide (V.str "thinner"=V.str "thinner")=true from by decide +kernel]
   refine iteT ⟨_,rfl,_,rfl,c,1,rfl,by decide,by decide,λr r0 r1=>?_⟩
   refine⟨_,_,rfl,rfl,(show(0:Int)<3 by decide),_,_,rfl,rfl,(by show 2<=sizeLine;decide),λt nt=>?_⟩
   exact q t ("thinner",some (2+r%3)) _ ss (.inr (.inr (.inl ⟨_,rfl,by omega,by omega⟩))) (s1.upd (s1.free nt))
  | 3,_ =>
   refine⟨_,_,_,_,rfl,rfl,SqL.of ss,(by rw[hj];exact su (j:=3) rfl),?_⟩
   refine⟨_,rfl,rfl,_,rfl,?_⟩
   rw[show decide (V.str "joiner"=V.str "relay")=false from by decide +kernel]
   refine iteF ⟨_,rfl,rfl,_,rfl,?_⟩
   rw[show decide (V.str "joiner"=V.str "thinner")=false from by decide +kernel]
   exact iteF ⟨_,rfl,(by show 1<=sizeLine;decide),tup1 _ _ s1 (.inr (.inr (.inr (.inl rfl))))⟩
  | 4,_ =>
   refine⟨_,_,_,_,rfl,rfl,SqL.of ss,(by rw[hj];exact su (j:=4) rfl),?_⟩
   refine⟨_,rfl,rfl,_,rfl,?_⟩
   rw[show decide (V.str "sink"=V.str "relay")=false from by decide +kernel]
   refine iteF ⟨_,rfl,rfl,_,rfl,?_⟩
   rw[show decide (V.str "sink"=V.str "thinner")=false from by decide +kernel]
   exact iteF ⟨_,rfl,(by show 1<=sizeLine;decide),tup1 _ _ s1 (.inr (.inr (.inr (.inr rfl))))⟩
  | 5,_ =>
   refine⟨_,_,_,_,rfl,rfl,SqL.of ss,(by rw[hj];exact su (j:=5) rfl),?_⟩
   refine⟨_,rfl,rfl,_,rfl,?_⟩
   rw[show decide (V.str "relay"=V.str "relay")=true from by decide +kernel]
   refine iteT ⟨_,rfl,_,rfl,c,1,rfl,by decide,by decide,λr r0 r1=>⟨_,_,rfl,rfl,(show(0:Int)<21 by decide),_,_,rfl,rfl,_,rfl,c,1,rfl,by decide,by decide,λr' r0' r1'=>⟨_,_,rfl,rfl,⟨by decide,by decide⟩,_,_,rfl,rfl,(by decide),(by show 2<=sizeLine;decide),λl2 n2=>?_⟩⟩⟩
   have s2:=Same.new (o:=.lst (([r%21-10,r'%(10:Int) ^ Int.toNat 9]:List Int).map V.int)) n2
   refine⟨_,rfl,c,2,rfl,by decide,by decide,λr2 _ _=>⟨_,_,rfl,rfl,(show(0:Int)<2 by decide),?_⟩⟩
   obtain⟨z,hz,mz⟩:=at3 (xs:=[r%21-10,r'%(10:Int) ^ Int.toNat 9]) (r:=r2) (n:=2) rfl (by decide)
   refine⟨l2,_,_,_,rfl,rfl,SqL.of ss,hz,(by show 2<=sizeLine;decide),λt nt=>?_⟩
   have S:=s1.trans s2
   refine q t ("relay",some z) _ ss (.inl ⟨z,rfl,?_⟩) (S.upd (S.free nt))
   rw[p9]at mz
   simp only [zR,zI,or_false]at mz
   omega
  | 6,_ =>
   refine⟨_,_,_,_,rfl,rfl,SqL.of ss,(by rw[hj];exact su (j:=6) rfl),?_⟩
   refine⟨_,rfl,rfl,_,rfl,?_⟩
   rw[show decide (V.str "sorter"=V.str "relay")=false from by decide +kernel]
   refine iteF ⟨_,rfl,rfl,_,rfl,?_⟩
   rw[show decide (V.str "sorter"=V.str "thinner")=false from by decide +kernel]
   exact iteF ⟨_,rfl,(by show 1<=sizeLine;decide),tup1 _ _ s1 (.inr (.inl rfl))⟩
end
end Oc
namespace Oc
open PySem L2
theorem wb:¬(("ways":Str)="belts"):=by decide +kernel
def fS(p1 p2:Addr):List (Str×V):=putF "belts" (.ref p2) (putF "ways" (.ref p1) [])
theorem um(p1 p2:Addr):(fS p1 p2).lookup ("belts":Str)=some (.ref p2):=by
 unfold fS
 rw[sI,if_pos rfl]
theorem cN(p1 p2:Addr):(fS p1 p2).lookup ("ways":Str)=some (.ref p1):=by
 unfold fS
 rw[sI,if_neg wb,sI,if_pos rfl]
theorem yp(p1 p2:Addr){m:Str}(h1:¬m="belts")(h2:¬m="ways"):(fS p1 p2).lookup m=none:=by
 unfold fS
 rw[sI,if_neg h1,sI,if_neg h2]
 rfl
theorem xX(p1 p2:Addr):(fS p1 p2).length<=2:=by
 have h1:=tO "ways" (.ref p1) []
 have h2:=tO "belts" (.ref p2) (putF "ways" (.ref p1) [])
 have h3:([]:List (Str×V)).length=0:=rfl
 unfold fS
 omega
structure StC(K:PySem.W.Frag)(C:Addr):Prop where
 cl:Cls K C
 nW:NoAttr K C "ways"
 nB:NoAttr K C "belts"
inductive spStI(K:PySem.W.Frag)(vs:List V)(H:Hp)(Q:VK)(x_3:XK):Prop where
 | mk (p wa b C dx:Addr) (xs ys:List V) (M:List (List Cell)) (h_0:vs=[.ref p,.ref wa,.ref b]) (h_1:Hc H ([(p,.ins C dx [])]::M)) (h_2:StC K C) (h_3:SqL K H wa xs) (h_4:SqL K H b ys) (h_5:wa≠p) (h_6:b≠p) (h_7:∀(p1 p2:Addr)(H':Hp),Keep [p] H H'->Hc H' ([(p,.ins C dx (fS p1 p2)),(p1,.tup xs),(p2,.tup ys)]::M)->Q .non H'):spStI K vs H Q x_3
inductive spOne(K:PySem.W.Frag)(vs:List V)(H:Hp)(Q:VK)(x_3:XK):Prop where
 | mk (p C dx bt:Addr) (fs:List (Str×V)) (ys:List V) (z:Int) (h_0:vs=[.ref p,.int z]) (h_1:H p=some (.ins C dx fs)) (h_2:StC K C) (h_3:fs.lookup ("belts":Str)=some (.ref bt)) (h_4:H bt=some (.tup ys)) (h_5:(ys=[]->Q .non H)) (h_6:(∀y r t,ys=y::r->H t=none->Q (.ref t) (upd H t (.tup [y,.int z])))):spOne K vs H Q x_3
section
variable{P:Program}{w:World}{K:PySem.W.Frag}{mg:Str->Option Value}{base:Heap}
theorem De:FnScope ["self","ways","belts"] ["self","ways","belts"] (defScope (inClass (top 9) 0)):=⟨rfl,rfl,rfl,by decide +kernel,rfl,by decide +kernel,by decide +kernel⟩
theorem Am{f:Addr}{fd:FuncData}(F:Fun K "__init__" "Station.__init__" (inClass (top 9) 0) f fd)(T:Txt K mg):FnOk P w K mg base CX0 1 f fd ["self","ways","belts"] (spStI K):=by
 have nd:=De.nd
 refine F.ok De (λvs H Q E h=>?_) (λcdv A outer s H vs Q E hr h=>?_)
 ·obtain⟨p,wa,b,C,dx,xs,ys,M,rfl,_⟩:=h
  rfl
 ·obtain⟨p,wa,b,C,dx,xs,ys,M,rfl,hc,c,hw,hb,n1,n2,q⟩:=h
  refine⟨_,(@sq _ _ _ _ _ (ug (pv 0) (vc vh (by rfl) T.n_tuple vP (@sf _ _ _ _ _ (pv 1) sh (by rfl))) rfl)
   (@sy _ _ _ (ug (pv 0) (vc vh (by rfl) T.n_tuple vP (@sf _ _ _ _ _ (pv 2) sh (by rfl))) rfl))),?_⟩
  refine⟨_,rfl,wa,xs,rfl,.inl ⟨hw,λp1 f1=>?_⟩⟩
  have hc1:=hc.new f1 (.tup xs)
  have hp:=hc.get 0 0 rfl rfl
  refine⟨_,rfl,p,C,dx,[],rfl,hc1.get 1 0 rfl rfl,c.cl,c.nW,(by show 0<1000;decide),?_⟩
  have hc2:=hc1.put 1 0 rfl rfl (.ins C dx (putF "ways" (.ref p1) []))
  have hb1:SqL K (upd (upd H p1 (.tup xs)) p (.ins C dx (putF "ways" (.ref p1) []))) b ys:=by
   have k1:∀o,H b=some o->upd (upd H p1 (.tup xs)) p (.ins C dx (putF "ways" (.ref p1) [])) b=some o:=λo e=>by
    rw[sD n2,sD (sC e f1)]
    exact e
   rcases hb with (h|⟨o,h⟩)|h
   ·exact .inl (.inl (k1 _ h))
   ·exact .inl (.inr ⟨o,k1 _ h⟩)
   ·exact .inr h
  refine⟨_,rfl,b,ys,rfl,.inl ⟨hb1,λp2 f2=>?_⟩⟩
  have hc3:=hc2.new f2 (.tup ys)
  refine⟨_,rfl,p,C,dx,_,rfl,hc3.get 2 0 rfl rfl,c.cl,c.nB,?_,?_⟩
  ·have h1:=tO "ways" (.ref p1) []
   have h3:([]:List (Str×V)).length=0:=rfl
   omega
  ·have hc4:Hc _ ([(p2,.tup ys)]::[(p1,.tup xs)]::[(p,.ins C dx (fS p1 p2))]::M):=hc3.put 2 0 rfl rfl (.ins C dx (fS p1 p2))
   have hc5:Hc _ ([(p,.ins C dx (fS p1 p2))]::[(p1,.tup xs)]::[(p2,.tup ys)]::M):=(hc4.pick 1 rfl).pick 2 rfl
   exact q p1 p2 _ (((((Keep.same (Same.refl H)).new' f1).upd (yQ _)).new' f2).upd (yQ _)) hc5.join.join
theorem BS:FnScope ["self","piece"] ["self","piece"] (defScope (inClass (top 9) 2)):=⟨rfl,rfl,rfl,by decide +kernel,rfl,by decide +kernel,by decide +kernel⟩
theorem Ac{f:Addr}{fd:FuncData}(F:Fun K "on_first" "Station.on_first" (inClass (top 9) 2) f fd)(T:Txt K mg):FnOk P w K mg base CX0 1 f fd ["self","piece"] (spOne K):=by
 have nd:=BS.nd
 refine F.ok BS (λvs H Q E h=>?_) (λcdv A outer s H vs Q E hr h=>?_)
 ·obtain⟨p,C,dx,bt,fs,ys,z,rfl,_⟩:=h
  rfl
 ·obtain⟨p,C,dx,bt,fs,ys,z,rfl,hp,c,hf,ht,q0,q1⟩:=h
  refine⟨_,(@sy _ _ _ (@sN _ _ _ _ (uM (sJ yl (sR (sM (K:=K) rfl) (by rfl) T.n_len tX (@sf _ _ _ _ _ (sQ (K:=K) rfl (pv 0) rfl) sh (by rfl))) sg (sP _)) (@tj _ _ _ _ _ (@sf _ _ _ _ _ (@sE _ _ _ _ _ _ _ (sA (K:=K) rfl) (sQ (K:=K) rfl (pv 0) rfl) sg (λ_ _=>rfl)) (@sf _ _ _ _ _ (pv 1) sh (by rfl)) (by rfl))) tY))),?_⟩
  refine⟨_,rfl,p,C,dx,_,_,rfl,hp,c.cl,c.nB,hf,bt,_,rfl,.inr (SqT.of ht),?_⟩
  infer_instance
  cases ys with
  | nil=>exact iteF (q0 rfl)
  | cons y r =>
   have e:decide ((0:Int)<((y::r).length:Int))=true:=by
    rw[zX]
    exact decide_eq_true (by omega)
   rw[e]
   refine iteT ?_
   refine⟨_,rfl,p,C,dx,_,_,rfl,hp,c.cl,c.nB,hf,bt,_,_,_,rfl,rfl,SqT.of ht,su (j:=0) rfl,_,rfl,(by show 2<=sizeLine;decide),λt ht=>?_⟩
   exact q1 y r t rfl ht
end
end Oc
namespace Oc
open PySem L2
def fR(p1 p2:Addr)(m:Int):List (Str×V):=putF "more" (.int m) (fS p1 p2)
theorem bm:¬(("belts":Str)="more"):=by decide +kernel
theorem Ds(p1 p2:Addr)(m:Int):(fR p1 p2 m).lookup ("more":Str)=some (.int m):=by
 unfold fR
 rw[sI,if_pos rfl]
theorem zp(p1 p2:Addr)(m:Int):(fR p1 p2 m).lookup ("belts":Str)=some (.ref p2):=by
 unfold fR
 rw[sI,if_neg bm,um]
theorem EJ(p1 p2:Addr)(m:Int){x:Str}(h0:¬x="more")(h1:¬x="belts")(h2:¬x="ways"):(fR p1 p2 m).lookup x=none:=by
 unfold fR
 rw[sI,if_neg h0,yp _ _ h1 h2]
structure RlC(K:PySem.W.Frag)(C:Addr):Prop where
 st:StC K C
 nM:NoAttr K C "more"
inductive spRlI(K:PySem.W.Frag)(vs:List V)(H:Hp)(Q:VK)(x_3:XK):Prop where
 | mk (p wa b C dx:Addr) (xs ys:List V) (m:Int) (M:List (List Cell)) (h_0:vs=[.ref p,.ref wa,.ref b,.int m]) (h_1:Hc H ([(p,.ins C dx [])]::M)) (h_2:RlC K C) (h_3:SqL K H wa xs) (h_4:SqL K H b ys) (h_5:wa≠p) (h_6:b≠p) (h_7:∀(p1 p2:Addr)(H':Hp),Keep [p] H H'->Hc H' ([(p,.ins C dx (fR p1 p2 m)),(p1,.tup xs),(p2,.tup ys)]::M)->Q .non H'):spRlI K vs H Q x_3
inductive spRlT(C:Addr)(vs:List V)(H:Hp)(Q:VK)(x_3:XK):Prop where
 | mk (p dx p1 p2:Addr) (m z:Int) (wy:V) (ys:List V) (h_0:vs=[.ref p,wy,.int z]) (h_1:H p=some (.ins C dx (fR p1 p2 m))) (h_2:H p2=some (.tup ys)) (h_3:(ys=[]->Q .non H)) (h_4:(∀y r t,ys=y::r->H t=none->Q (.ref t) (upd H t (.tup [y,.int (z+m)])))):spRlT C vs H Q x_3
section
variable{P:Program}{w:World}{K:PySem.W.Frag}{mg:Str->Option Value}{base:Heap}
theorem CJ:FnScope ["self","ways","belts","more"] ["self","ways","belts","more"] (defScope (inClass (top 10) 0)):=⟨rfl,rfl,rfl,by decide +kernel,rfl,by decide +kernel,by decide +kernel⟩
theorem FB{f cS:Addr}{fd:FuncData}(F:Fun K "__init__" "Relay.__init__" (inClass (top 10) 0) f fd)(av:mg "Station"=some (.ref cS))(ap:ClsAt P w K mg base 1 cS "__init__" ["self","ways","belts"] (spStI K)) :
  FnOk P w K mg base CX0 2 f fd ["self","ways","belts","more"] (spRlI K):=by
 have nd:=CJ.nd
 refine F.ok CJ (λvs H Q E h=>?_) (λcdv A outer s H vs Q E hr h=>?_)
 ·obtain⟨p,wa,b,C,dx,xs,ys,m,M,rfl,_⟩:=h
  rfl
 ·obtain⟨p,wa,b,C,dx,xs,ys,m,M,rfl,hc,c,hw,hb,n1,n2,q⟩:=h
  refine⟨_,(@sq _ _ _ _ _ (tM (wW rfl av ap (hr.mono (by decide)) (@sf _ _ _ _ _ (pv 0) (@sf _ _ _ _ _ (pv 1) (@sf _ _ _ _ _ (pv 2) sh (by rfl)) (by rfl)) (by rfl))))
   (@sy _ _ _ (ug (pv 0) (pv 3) rfl))),?_⟩
  refine⟨_,rfl,_,rfl,_,rfl,p,wa,b,C,dx,xs,ys,M,rfl,hc,c.st,hw,hb,n1,n2,λp1 p2 H' kp hc1=>?_⟩
  refine⟨_,rfl,_,rfl,p,C,dx,_,rfl,hc1.get 0 0 rfl rfl,c.st.cl,c.nM,?_,?_⟩
  ·have:=xX p1 p2
   omega
  ·exact q p1 p2 _ (kp.upd (yQ _)) (hc1.put 0 0 rfl rfl _)
theorem BY:FnScope ["self","way","piece"] ["self","way","piece"] (defScope (inClass (top 10) 1)):=⟨rfl,rfl,rfl,by decide +kernel,rfl,by decide +kernel,by decide +kernel⟩
theorem FQ{f C:Addr}{fd:FuncData}(F:Fun K "take" "Relay.take" (inClass (top 10) 1) f fd)(c:RlC K C)(G_on_first:MethAt P w K mg base 1 C "on_first" ["self","piece"] (spOne K)) :
  FnOk P w K mg base CX0 2 f fd ["self","way","piece"] (spRlT C):=by
 have nd:=BY.nd
 refine F.ok BY (λvs H Q E h=>?_) (λcdv A outer s H vs Q E hr h=>?_)
 ·obtain⟨p,dx,p1,p2,m,z,wy,ys,rfl,_⟩:=h
  rfl
 ·obtain⟨p,dx,p1,p2,m,z,wy,ys,rfl,hp,ht,q0,q1⟩:=h
  refine⟨_,(@sy _ _ _ (@sN _ _ _ _ (uc G_on_first (hr.mono (by decide)) (pv 0) (@sf _ _ _ _ _ (sK tH (pv 2) (sQ (K:=K) rfl (pv 0) rfl)) sh (by rfl))))),?_⟩
  refine⟨_,rfl,p,dx,_,rfl,hp,EJ _ _ _ (by decide +kernel) (by decide +kernel) (by decide +kernel),_,rfl,_,rfl,p,C,dx,_,_,rfl,hp,c.st.cl,c.nM,Ds _ _ _,_,_,rfl,rfl,?_⟩
  exact⟨p,C,dx,p2,_,ys,_,rfl,hp,c.st,zp _ _ _,ht,q0,q1⟩
end
end Oc
namespace Oc
open PySem L2
inductive spSrT(C:Addr)(vs:List V)(H:Hp)(Q:VK)(x_3:XK):Prop where
 | mk (p dx p1 p2:Addr) (z:Int) (wy:V) (bs:List Int) (h_0:vs=[.ref p,wy,.int z]) (h_1:H p=some (.ins C dx (fS p1 p2))) (h_2:H p2=some (.tup (bs.map V.int))) (h_3:(bs=[]->Q .non H)) (h_4:(∀(y:Int)(t:Addr),bs≠[]->bs[(z%(bs.length:Int)).toNat]?=some y->H t=none->Q (.ref t) (upd H t (.tup [.int y,.int z])))):spSrT C vs H Q x_3
section
variable{P:Program}{w:World}{K:PySem.W.Frag}{mg:Str->Option Value}{base:Heap}
theorem CI:FnScope ["self","way","piece"] ["self","way","piece"] (defScope (inClass (top 11) 0)):=⟨rfl,rfl,rfl,by decide +kernel,rfl,by decide +kernel,by decide +kernel⟩
theorem FA{f C:Addr}{fd:FuncData}(F:Fun K "take" "Sorter.take" (inClass (top 11) 0) f fd)(T:Txt K mg)(c:StC K C):FnOk P w K mg base CX0 1 f fd ["self","way","piece"] (spSrT C):=by
 have nd:=CI.nd
 refine F.ok CI (λvs H Q E h=>?_) (λcdv A outer s H vs Q E hr h=>?_)
 ·obtain⟨p,dx,p1,p2,z,wy,bs,rfl,_⟩:=h
  rfl
 ·obtain⟨p,dx,p1,p2,z,wy,bs,rfl,hp,ht,q0,q1⟩:=h
  refine⟨_,(@sq _ _ _ _ _ (tG (sJ tN (sR (sM (K:=K) rfl) (by rfl) T.n_len tX (@sf _ _ _ _ _ (sQ (K:=K) rfl (pv 0) rfl) sh (by rfl))) sg (sP _)) (@sy _ _ _ (@sN _ _ _ _ tY)) sS)
   (@sy _ _ _ (@sN _ _ _ _ (@tj _ _ _ _ _ (@sf _ _ _ _ _ (@sE _ _ _ _ _ _ _ (sA (K:=K) rfl) (sQ (K:=K) rfl (pv 0) rfl) (sK sV (pv 2) (sR (sM (K:=K) rfl) (by rfl) T.n_len tX (@sf _ _ _ _ _ (sQ (K:=K) rfl (pv 0) rfl) sh (by rfl)))) (λ_ _=>rfl)) (@sf _ _ _ _ _ (pv 2) sh (by rfl)) (by rfl)))))),?_⟩
  refine⟨_,rfl,p,C,dx,_,_,rfl,hp,c.cl,c.nB,um _ _,p2,_,rfl,.inr (SqT.of ht),rfl,_,rfl,?_⟩
  rw[zC]
  cases bs with
  | nil=>exact iteT (q0 rfl)
  | cons b0 bs =>
   have hl:(0:Int)<((b0::bs).length:Int):=by rw[zX];omega
   have e:decide (V.int (((b0::bs).length:Nat):Int)=V.int 0)=false:=decide_eq_false λh=>by
    have:=V.int.inj h
    omega
   rw[e]
   refine iteF ?_
   refine⟨_,rfl,p,C,dx,_,_,rfl,hp,c.cl,c.nB,um _ _,_,rfl,_,rfl,p,C,dx,_,_,rfl,hp,c.cl,c.nB,um _ _,p2,_,rfl,.inr (SqT.of ht),_,_,rfl,rfl,(by rw[zC];exact hl),?_⟩
   rw[zC]
   have d0:=yW z (Int.ne_of_gt hl)
   have d1:=yP z hl
   obtain⟨j,hj⟩:∃j:Nat,z%((b0::bs).length:Int)=(j:Int):=⟨(z%((b0::bs).length:Int)).toNat,by omega⟩
   obtain⟨y,hy⟩:∃y,(b0::bs)[j]?=some y:=⟨(b0::bs)[j]'(by omega),zB _⟩
   refine ixT ht (DG hj hy) ⟨_,rfl,(by show 2<=sizeLine;decide),λt nt=>?_⟩
   exact q1 y t (by simp) (by rw[hj];exact hy) nt
end
end Oc
namespace Oc
open PySem L2
theorem wJ(f:Str)(u v:V):∀fs:List (Str×V),putF f v (putF f u fs)=putF f v fs
 | []=>by
  show(if f=f then [(f,v)]else (f,u)::putF f v [])=[(f,v)]
  rw[if_pos rfl]
 | (g,x)::r=>by
  show putF f v (if g=f then (g,u)::r else (g,x)::putF f u r)=if g=f then (g,v)::r else (g,x)::putF f v r
  by_cases h:g=f
  ·rw[if_pos h,if_pos h]
   show(if g=f then (g,v)::r else (g,u)::putF f v r)=_
   rw[if_pos h]
  ·rw[if_neg h,if_neg h]
   show(if g=f then (g,v)::putF f u r else (g,x)::putF f v (putF f u r))=_
   rw[if_neg h,wJ f u v r]
def fT(p1 p2:Addr)(e n:Int):List (Str×V):=putF "seen" (.int n) (putF "every" (.int e) (fS p1 p2))
theorem se:¬(("every":Str)="seen"):=by decide +kernel
theorem sb:¬(("belts":Str)="seen"):=by decide +kernel
theorem eb':¬(("belts":Str)="every"):=by decide +kernel
theorem A5(p1 p2:Addr)(e n:Int):(fT p1 p2 e n).lookup ("seen":Str)=some (.int n):=by
 unfold fT
 rw[sI,if_pos rfl]
theorem zn(p1 p2:Addr)(e n:Int):(fT p1 p2 e n).lookup ("every":Str)=some (.int e):=by
 unfold fT
 rw[sI,if_neg se,sI,if_pos rfl]
theorem yu(p1 p2:Addr)(e n:Int):(fT p1 p2 e n).lookup ("belts":Str)=some (.ref p2):=by
 unfold fT
 rw[sI,if_neg sb,sI,if_neg eb',um]
theorem EC(p1 p2:Addr)(e n:Int){x:Str}(h0:¬x="seen")(h3:¬x="every")(h1:¬x="belts")(h2:¬x="ways"):(fT p1 p2 e n).lookup x=none:=by
 unfold fT
 rw[sI,if_neg h0,sI,if_neg h3,yp _ _ h1 h2]
theorem ET(p1 p2:Addr)(e n m:Int):putF "seen" (.int m) (fT p1 p2 e n)=fT p1 p2 e m:=wJ _ _ _ _
theorem Fz(p1 p2:Addr)(e n:Int):(fT p1 p2 e n).length<=4:=by
 have h1:=xX p1 p2
 have h2:=tO "every" (.int e) (fS p1 p2)
 have h3:=tO "seen" (.int n) (putF "every" (.int e) (fS p1 p2))
 unfold fT
 omega
structure ThC(K:PySem.W.Frag)(C:Addr):Prop where
 st:StC K C
 nE:NoAttr K C "every"
 nN:NoAttr K C "seen"
inductive spThI(K:PySem.W.Frag)(vs:List V)(H:Hp)(Q:VK)(x_3:XK):Prop where
 | mk (p wa b C dx:Addr) (xs ys:List V) (m:Int) (M:List (List Cell)) (h_0:vs=[.ref p,.ref wa,.ref b,.int m]) (h_1:Hc H ([(p,.ins C dx [])]::M)) (h_2:ThC K C) (h_3:SqL K H wa xs) (h_4:SqL K H b ys) (h_5:wa≠p) (h_6:b≠p) (h_7:∀(p1 p2:Addr)(H':Hp),Keep [p] H H'->Hc H' ([(p,.ins C dx (fT p1 p2 m 0)),(p1,.tup xs),(p2,.tup ys)]::M)->Q .non H'):spThI K vs H Q x_3
inductive spThT(C:Addr)(vs:List V)(H:Hp)(Q:VK)(x_3:XK):Prop where
 | mk (p dx p1 p2:Addr) (m n z:Int) (wy:V) (ys:List V) (h_0:vs=[.ref p,wy,.int z]) (h_1:H p=some (.ins C dx (fT p1 p2 m n))) (h_2:H p2=some (.tup ys)) (h_3:2<=m) (h_4:((n+1)%m=0\/ys=[]->Q .non (upd H p (.ins C dx (fT p1 p2 m (n+1)))))) (h_5:(∀y r t,¬(n+1)%m=0->ys=y::r->H t=none->Q (.ref t) (upd (upd H p (.ins C dx (fT p1 p2 m (n+1)))) t (.tup [y,.int z])))):spThT C vs H Q x_3
section
variable{P:Program}{w:World}{K:PySem.W.Frag}{mg:Str->Option Value}{base:Heap}
theorem CN:FnScope ["self","ways","belts","every"] ["self","ways","belts","every"] (defScope (inClass (top 12) 0)):=⟨rfl,rfl,rfl,by decide +kernel,rfl,by decide +kernel,by decide +kernel⟩
theorem FL{f cS:Addr}{fd:FuncData}(F:Fun K "__init__" "Thinner.__init__" (inClass (top 12) 0) f fd)(av:mg "Station"=some (.ref cS))(ap:ClsAt P w K mg base 1 cS "__init__" ["self","ways","belts"] (spStI K)) :
  FnOk P w K mg base CX0 2 f fd ["self","ways","belts","every"] (spThI K):=by
 have nd:=CN.nd
 refine F.ok CN (λvs H Q E h=>?_) (λcdv A outer s H vs Q E hr h=>?_)
 ·obtain⟨p,wa,b,C,dx,xs,ys,m,M,rfl,_⟩:=h
  rfl
 ·obtain⟨p,wa,b,C,dx,xs,ys,m,M,rfl,hc,c,hw,hb,n1,n2,q⟩:=h
  refine⟨_,(@sq _ _ _ _ _ (tM (wW rfl av ap (hr.mono (by decide)) (@sf _ _ _ _ _ (pv 0) (@sf _ _ _ _ _ (pv 1) (@sf _ _ _ _ _ (pv 2) sh (by rfl)) (by rfl)) (by rfl))))
   (@sq _ _ _ _ _ (ug (pv 0) (pv 3) rfl)
   (@sy _ _ _ (ug (pv 0) sg rfl)))),?_⟩
  refine⟨_,rfl,_,rfl,_,rfl,p,wa,b,C,dx,xs,ys,M,rfl,hc,c.st,hw,hb,n1,n2,λp1 p2 H' kp hc1=>?_⟩
  have l1:=xX p1 p2
  have l2:=tO "every" (.int m) (fS p1 p2)
  refine⟨_,rfl,_,rfl,p,C,dx,_,rfl,hc1.get 0 0 rfl rfl,c.st.cl,c.nE,by omega,?_⟩
  have hc2:=hc1.put 0 0 rfl rfl (.ins C dx (putF "every" (.int m) (fS p1 p2)))
  refine⟨_,rfl,p,C,dx,_,rfl,ss,c.st.cl,c.nN,by omega,?_⟩
  exact q p1 p2 _ ((kp.upd (yQ _)).upd (yQ _)) (hc2.put 0 0 rfl rfl _)
theorem BN:FnScope ["self","way","piece"] ["self","way","piece"] (defScope (inClass (top 12) 1)):=⟨rfl,rfl,rfl,by decide +kernel,rfl,by decide +kernel,by decide +kernel⟩
theorem Ft{f C:Addr}{fd:FuncData}(F:Fun K "take" "Thinner.take" (inClass (top 12) 1) f fd)(c:ThC K C)(G_on_first:MethAt P w K mg base 1 C "on_first" ["self","piece"] (spOne K)) :
  FnOk P w K mg base CX0 2 f fd ["self","way","piece"] (spThT C):=by
 have nd:=BN.nd
 refine F.ok BN (λvs H Q E h=>?_) (λcdv A outer s H vs Q E hr h=>?_)
 ·obtain⟨p,dx,p1,p2,m,n,z,wy,ys,rfl,_⟩:=h
  rfl
 ·obtain⟨p,dx,p1,p2,m,n,z,wy,ys,rfl,hp,ht,hm,q0,q1⟩:=h
  refine⟨_,(@sq _ _ _ _ _ (ug (pv 0) (sK tH (sQ (K:=K) rfl (pv 0) rfl) sg) rfl)
   (@sq _ _ _ _ _ (tG ((xF (sJ CD (sQ (K:=K) rfl (pv 0) rfl) sg (sP _)) (wA (sJ tN (sK sV (sQ (K:=K) rfl (pv 0) rfl) (sQ (K:=K) rfl (pv 0) rfl)) sg (sP _))))).pt (@sy _ _ _ (@sN _ _ _ _ tY)) sS)
   (@sy _ _ _ (@sN _ _ _ _ (uc G_on_first (hr.mono (by decide)) (pv 0) (@sf _ _ _ _ _ (pv 2) sh (by rfl))))))),?_⟩
  have l1:=Fz p1 p2 m n
  refine⟨_,rfl,p,C,dx,_,_,rfl,hp,c.st.cl,c.nN,A5 _ _ _ _,_,_,rfl,rfl,_,rfl,p,C,dx,_,rfl,hp,c.st.cl,c.nN,by omega,?_⟩
  rw[ET]
  have h1:(upd H p (.ins C dx (fT p1 p2 m (n+1)))) p=some (.ins C dx (fT p1 p2 m (n+1))):=ss
  have np2:p2≠p:=tR ht hp (by intro z;cases z)
  have h2:(upd H p (.ins C dx (fT p1 p2 m (n+1)))) p2=some (.tup ys):=by rw[sD np2];exact ht
  have hn:∀t,(upd H p (.ins C dx (fT p1 p2 m (n+1)))) t=none->H t=none:=λt z=>by
   have:t≠p:=λy=>by rw[y,h1]at z;cases z
   rw[sD this]at z
   exact z
  generalize (upd H p (.ins C dx (fT p1 p2 m (n+1))))=H1 at h1 h2 hn q0 q1 ⊢
  refine⟨_,rfl,p,C,dx,_,_,rfl,h1,c.st.cl,c.nE,zn _ _ _ _,rfl,_,rfl,?_⟩
  have e1:(!decide (V.int m=V.int 0))=true:=by
   rw[decide_eq_false (λh=>by have:=V.int.inj h;omega)]
   rfl
  rw[e1]
  refine iteT ?_
  refine⟨_,rfl,p,C,dx,_,_,rfl,h1,c.st.cl,c.nN,A5 _ _ _ _,_,rfl,p,C,dx,_,_,rfl,h1,c.st.cl,c.nE,zn _ _ _ _,_,_,rfl,rfl,(show(0:Int)<m by omega),rfl,_,rfl,?_⟩
  refine ite2 (λhz=>?_) (λhz=>?_)
  ·exact q0 (.inl (V.int.inj (of_decide_eq_true hz)))
  ·have hz':¬(n+1)%m=0:=λe=>hz (decide_eq_true (congrArg V.int e))
   refine⟨_,rfl,p,dx,_,rfl,h1,EC _ _ _ _ (by decide +kernel) (by decide +kernel) (by decide +kernel) (by decide +kernel),_,rfl,?_⟩
   exact⟨p,C,dx,p2,_,ys,_,rfl,h1,c.st,yu _ _ _ _,h2,λe=>q0 (.inr e),λy r t e nt=>q1 y r t hz' e (hn t nt)⟩
end
end Oc
namespace Oc
open PySem L2
def ImmO:HO->Prop
 | .lst _=>False
 | .ins _ _ _=>False
 | .dK _=>False
 | _=>True
def Tk(H H':Hp):Prop:=∀b u,H b=some u->ImmO u->H' b=some u
theorem Tk.of{H H':Hp}(s:Same H H'):Tk H H':=λb u e _=>s b u e
theorem Tk.refl(H:Hp):Tk H H:=λ_ _ e _=>e
theorem Tk.trans{H H1 H2:Hp}(a:Tk H H1)(b:Tk H1 H2):Tk H H2:=λc u e n=>b c u (a c u e n) n
theorem Tk.put{H H':Hp}{a:Addr}{u o:HO}(k:Tk H H')(e:H' a=some u)(hu:¬ImmO u):Tk H (upd H' a o):=λb v eb hv=>by
 have e1:=k b v eb hv
 rw[sD (λz=>by subst z;rw[e]at e1;cases e1;exact hu hv)]
 exact e1
theorem Tk.new{H H':Hp}{a:Addr}{o:HO}(k:Tk H H')(n:H' a=none):Tk H (upd H' a o):=k.trans (Tk.of (Same.new n))
theorem Tk.tup{H H':Hp}(k:Tk H H'){b:Addr}{xs:List V}(e:H b=some (.tup xs)):H' b=some (.tup xs):=k _ _ e trivial
theorem IsTri.tk{H H':Hp}(k:Tk H H'){x:V}{t:Tri}(h:IsTri H x t):IsTri H' x t:=let ⟨p,e,q⟩:=h;⟨p,e,k.tup q⟩
theorem vn{n:Nat}(h:n<=100000):n<sizeLine:=qL h (by decide)
end Oc
namespace Oc
open PySem L2
theorem DGet.ki{H:Hp}{a:Addr}{kvs:List (Key×V)}{n:Int}{v:V}(e:H a=some (.dK kvs))(h:valV kvs (Sum.inl n:Key)=some v):DGet H a (.int n) (some v):=by
 rw[←h]
 exact DGet.k (k:=Sum.inl n) e
def fJ(p1 p2 d:Addr):List (Str×V):=putF "kept" (.ref d) (fS p1 p2)
theorem kb_:¬(("belts":Str)="kept"):=by decide +kernel
theorem kw_:¬(("ways":Str)="kept"):=by decide +kernel
theorem A2(p1 p2 d:Addr):(fJ p1 p2 d).lookup ("kept":Str)=some (.ref d):=by
 unfold fJ
 rw[sI,if_pos rfl]
theorem yj(p1 p2 d:Addr):(fJ p1 p2 d).lookup ("belts":Str)=some (.ref p2):=by
 unfold fJ
 rw[sI,if_neg kb_,um]
theorem hG(p1 p2 d:Addr):(fJ p1 p2 d).lookup ("ways":Str)=some (.ref p1):=by
 unfold fJ
 rw[sI,if_neg kw_,cN]
theorem EQ(p1 p2 d:Addr){x:Str}(h0:¬x="kept")(h1:¬x="belts")(h2:¬x="ways"):(fJ p1 p2 d).lookup x=none:=by
 unfold fJ
 rw[sI,if_neg h0,yp _ _ h1 h2]
structure JnC(K:PySem.W.Frag)(C:Addr):Prop where
 st:StC K C
 nK:NoAttr K C "kept"
def jk(ws:List Int)(ls:List Addr):List (Key×V):=(ws.zip ls).map λp=>(Sum.inl p.1,V.ref p.2)
def jrows(ls:List Addr)(rows:List (List Int)):List Cell:=rowsC ls (rows.map λr=>HO.lst (r.map V.int))
def jobj(C dx p p1 p2 d:Addr)(ws:List Int)(ls:List Addr)(ys:List V):List Cell:=[(p,.ins C dx (fJ p1 p2 d)),(p1,.tup (ws.map V.int)),(p2,.tup ys),(d,.dK (jk ws ls))]
theorem AK{ws:List Int}{ls:List Addr}(h:ls.length=ws.length)(w:Int)(l:Addr):jk (ws++[w]) (ls++[l])=jk ws ls++[(Sum.inl w,V.ref l)]:=by
 unfold jk
 rw[kK h.symm,zK]
 rfl
theorem xO:∀{ws:List Int}{ls:List Addr}{w:Int},w∉ws->valV (jk ws ls) (Sum.inl w:Key)=none
 | [],_,_,_=>rfl
 | _::_,[],_,_=>rfl
 | v::ws,l::ls,w,h=>by
  show valV ((Sum.inl v,V.ref l)::jk ws ls) _=none
  rw[u7 (λe=>h (by rw[Sum.inl.inj e];exact zJ))]
  exact xO λz=>h (zL _ z)
theorem vX:∀{ws:List Int}{ls:List Addr}{j:Nat}{w:Int}{l:Addr},ws.Nodup->ws[j]?=some w->ls[j]?=some l->valV (jk ws ls) (Sum.inl w:Key)=some (.ref l)
 | [],_,_,_,_,_,h,_=>by simp at h
 | _::_,[],_,_,_,_,_,h=>by simp at h
 | v::ws,m::ls,0,w,l,nd,h1,h2=>by
  simp at h1 h2
  subst h1 h2
  exact uL rfl
 | v::ws,m::ls,j+1,w,l,nd,h1,h2=>by
  rw[qF]at nd
  have h1':ws[j]?=some w:=by simpa using h1
  show valV ((Sum.inl v,V.ref m)::jk ws ls) _=_
  rw[u7 (λe=>nd.1 (by rw[show v=w from Sum.inl.inj e];exact zE h1'))]
  exact vX nd.2 h1' (by simpa using h2)
theorem Df(ws:List Int)(ls:List Addr):(jk ws ls).length<=ws.length:=by
 unfold jk
 rw[zC,List.length_zip]
 exact Nat.min_le_left _ _
theorem wU{ls:List Addr}{rows:List (List Int)}(h:ls.length=rows.length)(l:Addr)(r:List Int):jrows (ls++[l]) (rows++[r])=jrows ls rows++[(l,.lst (r.map V.int))]:=by
 unfold jrows rowsC
 rw[zK,kK (by rw[zC];exact h)]
 rfl
theorem ud{ls:List Addr}{rows:List (List Int)}{j:Nat}{l:Addr}{r:List Int}(h1:ls[j]?=some l)(h2:rows[j]?=some r):(jrows ls rows)[j]?=some (l,.lst (r.map V.int)) :=
 xl h1 (by rw[zF,h2];rfl)
theorem ve{ls:List Addr}{rows:List (List Int)}{j:Nat}{l:Addr}(r:List Int)(h1:ls[j]?=some l):(jrows ls rows).set j (l,.lst (r.map V.int))=jrows ls (rows.set j r):=by
 unfold jrows
 rw[v1 h1,jN]
def heads(rows:List (List Int)):Int:=(rows.map λr=>r.headD 0).sum
theorem CS(l:List Int)(x:Int):(l++[x]).sum=l.sum+x:=by
 induction l with
 | nil=>simp
 | cons a l ih=>simp only [jH,qV,ih];omega
theorem As(rows:List (List Int))(r:List Int):heads (rows++[r])=heads rows+r.headD 0:=by
 unfold heads
 rw[zK]
 exact CS _ _
def anyE(rows:List (List Int)):Bool:=rows.any λr=>r.isEmpty
def cutR(rows:List (List Int))(i:Nat):List (List Int):=(rows.take i).map List.tail++rows.drop i
theorem xk(rows:List (List Int)):cutR rows 0=rows:=by simp [cutR]
theorem yy(rows:List (List Int)):cutR rows rows.length=rows.map List.tail:=by simp [cutR]
theorem wX{rows:List (List Int)}{i:Nat}{r:List Int}(h:rows[i]?=some r):(cutR rows i)[i]?=some r:=by
 have hi:=(zD.mp h).1
 unfold cutR
 rw[zN (by rw[zC,zY];omega),zC,zY,Nat.min_eq_left (yY hi),qB,List.getElem?_drop,Nat.add_zero]
 exact h
theorem zb{rows:List (List Int)}{i:Nat}{r:List Int}(h:rows[i]?=some r):(cutR rows i).set i r.tail=cutR rows (i+1):=by
 have hi:=(zD.mp h).1
 have ed:rows.drop i=r::rows.drop (i+1):=by
  rw[List.drop_eq_getElem_cons hi]
  congr 1
  exact(zD.mp h).2
 unfold cutR
 rw[ed,yV,h,zK]
 have el:((rows.take i).map List.tail).length=i:=by rw[zC,zY];omega
 have:=vK (A:=(rows.take i).map List.tail) (B:=rows.drop (i+1)) (x:=r) (y:=r.tail)
 rw[el]at this
 rw[this]
 simp
inductive JOut(ys:List V)(rows:List (List Int)):V->List Cell->List (List Int)->Prop
 | wait (h:anyE rows=true):JOut ys rows .non [] rows
 | lost (h:anyE rows=false) (e:ys=[]):JOut ys rows .non [] (rows.map List.tail)
 | put (h:anyE rows=false) {y:V} {ys':List V} (e:ys=y::ys') (t:Addr):JOut ys rows (.ref t) [(t,.tup [y,.int (heads rows)])] (rows.map List.tail)
inductive spJnI(K:PySem.W.Frag)(vs:List V)(H:Hp)(Q:VK)(x_3:XK):Prop where
 | mk (p wa b C dx:Addr) (ws:List Int) (ys:List V) (M:List (List Cell)) (h_0:vs=[.ref p,.ref wa,.ref b]) (h_1:Hc H ([(p,.ins C dx [])]::M)) (h_2:JnC K C) (h_3:SqL K H wa (ws.map V.int)) (h_4:SqL K H b ys) (h_5:wa≠p) (h_6:b≠p) (h_7:ws.Nodup) (h_8:ws.length<=100) (h_9:∀(p1 p2 d:Addr)(ls:List Addr)(H':Hp),ls.length=ws.length->Keep [p] H H'->Hc H' (jobj C dx p p1 p2 d ws ls ys::jrows ls (ws.map λ_=>[])::M)->Q .non H'):spJnI K vs H Q x_3
inductive spJnT(C:Addr)(vs:List V)(H:Hp)(Q:VK)(x_3:XK):Prop where
 | mk (p dx p1 p2 d:Addr) (wv z:Int) (ws:List Int) (ls:List Addr) (ys:List V) (j:Nat) (rows:List (List Int)) (r:List Int) (M:List (List Cell)) (h_0:vs=[.ref p,.int wv,.int z]) (h_1:Hc H (jobj C dx p p1 p2 d ws ls ys::jrows ls rows::M)) (h_2:ws.Nodup) (h_3:ws.length<=100) (h_4:ls.length=ws.length) (h_5:rows.length=ws.length) (h_6:ws[j]?=some wv) (h_7:rows[j]?=some r) (h_8:r.length<=90000) (h_9:∀(v:V)(ft:List Cell)(rows':List (List Int))(H':Hp),JOut ys (rows.set j (r++[z])) v ft rows'->Hc H' (ft::jobj C dx p p1 p2 d ws ls ys::jrows ls rows'::M)->Tk H H'->Q v H'):spJnT C vs H Q x_3
section
variable{P:Program}{w:World}{K:PySem.W.Frag}{mg:Str->Option Value}{base:Heap}
theorem CQ:FnScope ["self","ways","belts","way"] ["self","ways","belts"] (defScope (inClass (top 13) 0)):=⟨rfl,rfl,rfl,by decide +kernel,rfl,by decide +kernel,by decide +kernel⟩
theorem Fb{f cS:Addr}{fd:FuncData}(F:Fun K "__init__" "Joiner.__init__" (inClass (top 13) 0) f fd)(av:mg "Station"=some (.ref cS))(ap:ClsAt P w K mg base 1 cS "__init__" ["self","ways","belts"] (spStI K)) :
  FnOk P w K mg base CX0 2 f fd ["self","ways","belts"] (spJnI K):=by
 have nd:=CQ.nd
 refine F.ok CQ (λvs H Q E h=>?_) (λcdv A outer s H vs Q E hr h=>?_)
 ·obtain⟨p,wa,b,C,dx,ws,ys,M,rfl,_⟩:=h
  rfl
 ·obtain⟨p,wa,b,C,dx,ws,ys,M,rfl,hc,c,hw,hb,n1,n2,ndw,lw,q⟩:=h
  have hu:=xf hr
  have cl:=c.st.cl
  have nK:=c.nK
  have nW:=c.st.nW
  refine⟨_,(@sq _ _ _ _ _ (tM (wW rfl av ap (hr.mono (by decide)) (@sf _ _ _ _ _ (pv 0) (@sf _ _ _ _ _ (pv 1) (@sf _ _ _ _ _ (pv 2) sh (by rfl)) (by rfl)) (by rfl))))
   (@sq _ _ _ _ _ (ug (pv 0) yz rfl)
   (@sy _ _ _ (ub PassesOwn.never rfl (uA (K:=K) rfl (sQ (K:=K) rfl (pv 0) rfl)) (sH (i:=3) nd rfl (by nofun)) (@sy _ _ _ (u9 hu (sQ (K:=K) rfl (pv 0) rfl) (pv 3) (@tJ _ _ _ _ sh) rfl)))))),?_⟩
  refine⟨_,rfl,_,rfl,_,rfl,p,wa,b,C,dx,_,ys,M,rfl,hc,c.st,hw,hb,n1,n2,λp1 p2 H1 kp1 hc1=>?_⟩
  intro d fd
  have fd0:H d=none:=kp1.free1 (hc1.get 0 0 rfl rfl) fd
  have kp3:=(kp1.new' (o:=.dK []) fd).upd (a:=p) (o:=.ins C dx (putF "kept" (.ref d) (fS p1 p2))) (yQ _)
  have hc2:=hc1.new fd (.dK [])
  refine⟨_,rfl,p,C,dx,_,rfl,hc2.get 1 0 rfl rfl,cl,nK,?_,?_⟩
  ·have:=xX p1 p2
   omega
  have hc3:Hc _ ([(d,.dK [])]::[(p,.ins C dx (fJ p1 p2 d)),(p1,.tup (ws.map V.int)),(p2,.tup ys)]::M):=hc2.put 1 0 rfl rfl (.ins C dx (fJ p1 p2 d))
  change _ at hc3
  generalize hg:upd (upd H1 d (HO.dK [])) p (.ins C dx (putF "kept" (.ref d) (fS p1 p2)))=H3
  have hc3':Hc H3 ([(d,.dK [])]::[(p,.ins C dx (fJ p1 p2 d)),(p1,.tup (ws.map V.int)),(p2,.tup ys)]::M):=by rw[←hg];exact hc3
  rw[hg]at kp3
  clear hc3 hg hc2 hc1
  have lk:=A2 p1 p2 d
  have lw':=hG p1 p2 d
  refine⟨_,rfl,p,C,dx,_,_,rfl,hc3'.get 1 0 rfl rfl,cl,nW,lw',p1,rfl,⟨_,SqT.of (hc3'.get 1 1 rfl rfl)⟩,xS (K:=K) (a:=p1) (xs:=ws.map V.int) (λi σ H5=>∃(v:Option V)(ls:List Addr),σ=[some (.ref p),some (.ref wa),some (.ref b),v]/\ls.length=i/\Keep [p] H H5 /\
   Hc H5 ([(d,.dK (jk (ws.take i) ls))]::[(p,.ins C dx (fJ p1 p2 d)),(p1,.tup (ws.map V.int)),(p2,.tup ys)]::jrows ls ((ws.take i).map λ_=>[])::M)) ⟨none,[],rfl,rfl,kp3,?_⟩ (λi σ H5 _ ⟨_,_,_,_,_,h⟩=>SqT.of (h.get 1 1 rfl rfl)) ?_ ?_⟩
  ·exact hc3'
  ·rintro i x σ H5 hi ⟨v,ls,rfl,el,kp5,hc5⟩
   obtain⟨z,rfl,hz⟩:=ul hi
   have hil:=(zD.mp hz).1
   refine⟨zV _,λl nl=>?_⟩
   have hc6:=hc5.new nl (.lst [])
   have lt:(ws.take i).length=i:=by rw[zY];omega
   refine⟨_,rfl,p,C,dx,_,_,rfl,hc6.get 2 0 rfl rfl,cl,nK,lk,_,rfl,d,_,rfl,DPut.k (k:=Sum.inl z) (hc6.get 1 0 rfl rfl) (sG (by have:=Df (ws.take i) ls;omega)),?_⟩
   have hc7:=hc6.put 1 0 rfl rfl (.dK (putK (jk (ws.take i) ls) (Sum.inl z) (.ref l)))
   have nz:z∉ws.take i:=λh=>by
    obtain⟨m,hm⟩:=yL h
    have hm1:=(zD.mp hm).1
    rw[kU (by omega)]at hm
    have:=(List.getElem?_inj (by omega) ndw).mp (hm.trans hz.symm)
    omega
   have et:ws.take (i+1)=ws.take i++[z]:=by rw[yV,hz];rfl
   refine⟨_,ls++[l],rfl,by rw[zM,el];rfl,(kp5.new' nl).new fd0,?_⟩
   rw[et,AK (by omega),zK]
   show Hc _ (_::_::jrows (ls++[l]) (((ws.take i).map λ_=>[])++[[]])::M)
   rw[wU (by rw[zC];omega),←vw _ (xO nz)]
   have hc8:Hc _ ([(d,.dK (putK (jk (ws.take i) ls) (Sum.inl z) (.ref l)))]::[(p,.ins C dx (fJ p1 p2 d)),(p1,.tup (ws.map V.int)),(p2,.tup ys)]::[(l,.lst [])]::jrows ls ((ws.take i).map λ_=>[])::M):=(hc7.pick 2 rfl).pick 2 rfl
   have hc9:=((hc8.pick 3 rfl).pick 3 rfl)
   have hc9':Hc _ ([(l,.lst [])]::jrows ls ((ws.take i).map λ_=>[])::[(d,.dK (putK (jk (ws.take i) ls) (Sum.inl z) (.ref l)))]::[(p,.ins C dx (fJ p1 p2 d)),(p1,.tup (ws.map V.int)),(p2,.tup ys)]::M):=hc9
   have hcA:=(hc9'.swap.join.pick 2 rfl).pick 2 rfl
   exact hcA
  ·rintro σ H5 ⟨v,ls,rfl,el,kp5,hc5⟩
   rw[zC]at el hc5
   rw[yB]at hc5
   have hc6:=hc5.swap.join
   exact q p1 p2 d ls H5 el kp5 hc6
theorem Cp:FnScope ["self","way","piece","total","each"] ["self","way","piece"] (defScope (inClass (top 13) 1)):=⟨rfl,rfl,rfl,by decide +kernel,rfl,by decide +kernel,by decide +kernel⟩
theorem ES{f C:Addr}{fd:FuncData}(F:Fun K "take" "Joiner.take" (inClass (top 13) 1) f fd)(T:Txt K mg)(c:JnC K C)(G_on_first:MethAt P w K mg base 1 C "on_first" ["self","piece"] (spOne K)) :
  FnOk P w K mg base CX0 2 f fd ["self","way","piece"] (spJnT C):=by
 have nd:=Cp.nd
 refine F.ok Cp (λvs H Q E h=>?_) (λcdv A outer s H vs Q E hr h=>?_)
 ·obtain⟨p,dx,p1,p2,d,wv,z,ws,ls,ys,j,rows,r,M,rfl,_⟩:=h
  rfl
 ·obtain⟨p,dx,p1,p2,d,wv,z,ws,ls,ys,j,rows,r,M,rfl,hc,ndw,lw,el,er,hj,hrj,lr,q⟩:=h
  have hu:=xf hr
  have cl:=c.st.cl
  have nK:=c.nK
  have nW:=c.st.nW
  have lk:=A2 p1 p2 d
  have lkw:=hG p1 p2 d
  refine⟨_,(@sq _ _ _ _ _ (tM (uH PySem.F.plainAttrs_list PySem.F.slot_list_append PySem.F.type_list_append tL (uz hu (sQ (K:=K) rfl (pv 0) rfl) (pv 1) (λ_ _=>rfl)) (@sf _ _ _ _ _ (pv 2) sh (by rfl))))
   (@sq _ _ _ _ _ (tG (uI (sR (xc rfl) (by rfl) T.n_any CF (@sf _ _ _ _ _ (tE (own:=["each"]) (fr:=["self"]) (js:=[0]) (by and_intros) (uA (K:=K) rfl (sQ (K:=K) rfl (pv 0) rfl)) (λ_ _ _ _=>(sH (i:=0) (show List.Nodup (["each","self"]:List Str)from by decide +kernel) rfl (by nofun))) (λ_ _ _ _=>tq) (λ_ _ _ _=>(uR tN (sR (sM (K:=K) rfl) (by rfl) T.n_len tX (@sf _ _ _ _ _ (uz hu (sQ (K:=K) rfl (pv 1) rfl) (pv 0) (λ_ _=>rfl)) sh (by rfl))) sg (sP _)))) sh (by rfl)))) (@sy _ _ _ (@sN _ _ _ _ tY)) sS)
   (@sq _ _ _ _ _ (sL (i:=3) nd rfl (by nofun) sg)
   (@sq _ _ _ _ _ (ub PassesOwn.never rfl (uA (K:=K) rfl (sQ (K:=K) rfl (pv 0) rfl)) (sH (i:=4) nd rfl (by nofun)) (@sy _ _ _ (sL (i:=3) nd rfl (by nofun) (sK tH (pv 3) (uH PySem.F.plainAttrs_list PySem.F.slot_list_pop PySem.F.type_list_pop vv (uz hu (sQ (K:=K) rfl (pv 0) rfl) (pv 4) (λ_ _=>rfl)) (@sf _ _ _ _ _ sg sh (by rfl)))))))
   (@sy _ _ _ (@sN _ _ _ _ (uc G_on_first (hr.mono (by decide)) (pv 0) (@sf _ _ _ _ _ (pv 3) sh (by rfl))))))))),?_⟩
  have hjl:=(zD.mp hj).1
  obtain⟨l,hl⟩:∃l,ls[j]?=some l:=⟨ls[j]'(by omega),zB _⟩
  have hlr:=hc.get 1 j rfl (ud hl hrj)
  refine⟨_,rfl,p,C,dx,_,_,rfl,hc.get 0 0 rfl rfl,cl,nK,lk,_,rfl,d,_,rfl,DGet.ki (hc.get 0 3 rfl rfl) (vX ndw hj hl),tyL hlr,_,rfl,_,_,_,rfl,rfl,hlr,vn (by rw[zC];omega),?_⟩
  have k1:Tk H (upd H l (.lst (r.map V.int++[V.int z]))):=(Tk.refl H).put hlr (λz=>z)
  have hc1:=hc.put 1 j rfl (ud hl hrj) (.lst ((r++[z]).map V.int))
  rw[ve _ hl]at hc1
  have hc1':Hc (upd H l (.lst (r.map V.int++[V.int z]))) (jobj C dx p p1 p2 d ws ls ys::jrows ls (rows.set j (r++[z]))::M):=by
   have e:(r++[z]).map V.int=r.map V.int++[V.int z]:=by rw[zK];rfl
   rw[←e]
   exact hc1
  clear hc1
  have er2:(rows.set j (r++[z])).length=ws.length:=by rw[zZ];exact er
  generalize (rows.set j (r++[z]))=rows2 at hc1' er2 q
  generalize (upd H l (.lst (r.map V.int++[V.int z])))=H1 at hc1' k1 ⊢
  refine⟨_,rfl,p,C,dx,_,_,rfl,hc1'.get 0 0 rfl rfl,cl,nW,lkw,p1,rfl,⟨_,SqT.of (hc1'.get 0 1 rfl rfl)⟩,λD nD=>?_⟩
  refine u3 (K:=K) (a:=p1) (xs:=ws.map V.int) (λi H5=>Tk H H5/\Hc H5 ([(D,.lst (((rows2.take i).map List.isEmpty).map V.bl))]::jobj C dx p p1 p2 d ws ls ys::jrows ls rows2::M)) ⟨k1.new nD,hc1'.new nD _⟩ (λi H5 _ h=>SqT.of (h.2.get 1 1 rfl rfl)) ?_ ?_
  ·rintro i x H5 m Wf hi ⟨k5,hc5⟩ nx
   obtain⟨v,rfl,hv⟩:=ul hi
   have hil:=(zD.mp hv).1
   obtain⟨l2,hl2⟩:∃l,ls[i]?=some l:=⟨ls[i]'(by omega),zB _⟩
   obtain⟨r2,hr2⟩:∃r,rows2[i]?=some r:=⟨rows2[i]'(by omega),zB _⟩
   have hlr2:=hc5.get 2 i rfl (ud hl2 hr2)
   refine⟨_,rfl,p,C,dx,_,_,rfl,hc5.get 1 0 rfl rfl,cl,nK,lk,_,rfl,d,_,rfl,DGet.ki (hc5.get 1 3 rfl rfl) (vX ndw hv hl2),_,_,rfl,.inl (SqL.of hlr2),rfl,_,hc5.get 0 0 rfl rfl,sG (by rw[zC,zC,zY];omega),nx _ ⟨k5.put (hc5.get 0 0 rfl rfl) (λz=>z),?_⟩⟩
   have e:V.bl (decide (V.int ((r2.map V.int).length:Int)=V.int 0))=V.bl r2.isEmpty:=by
    rw[zC]
    cases r2 with
    | nil=>rfl
    | cons a b =>
     rw[decide_eq_false (λh=>by have:=V.int.inj h;rw[zX]at this;omega)]
     rfl
   show Hc (upd H5 D (.lst (((rows2.take i).map List.isEmpty).map V.bl++[V.bl (decide (V.int ((r2.map V.int).length:Int)=V.int 0))]))) _
   rw[e,yV,hr2,zK,zK]
   exact hc5.put 0 0 rfl rfl _
  ·rintro H5 ⟨k5,hc5⟩
   rw[zC,←er2,yB]at hc5
   refine⟨D,_,rfl,SqL.of (hc5.get 0 0 rfl rfl),?_⟩
   have ea:((rows2.map List.isEmpty).any id)=anyE rows2:=by rw[jU];rfl
   rw[ea]
   have hc6:=hc5.tl
   refine⟨_,rfl,iteB (λhb=>q _ _ _ _ (.wait hb) (Hc.pad hc6) k5) (λhb=>?_)⟩
   have ne:∀{i:Nat}{r:List Int},rows2[i]?=some r->∃a t,r=a::t:=fun {i r} h=>by
    cases r with
    | cons a t=>exact⟨a,t,rfl⟩
    | nil =>
     have:anyE rows2=true:=jI.mpr ⟨[],zE h,rfl⟩
     rw[this]at hb
     cases hb
   refine⟨_,rfl,p,C,dx,_,_,rfl,hc6.get 0 0 rfl rfl,cl,nW,lkw,p1,rfl,⟨_,SqT.of (hc6.get 0 1 rfl rfl)⟩,xS (K:=K) (a:=p1) (xs:=ws.map V.int) (λi σ H7=>∃(v:Option V),σ=[some (.ref p),some (.int wv),some (.int z),some (.int (heads (rows2.take i))),v] /\
    Tk H H7/\Hc H7 (jobj C dx p p1 p2 d ws ls ys::jrows ls (cutR rows2 i)::M)) ⟨none,rfl,k5,by rw[xk];exact hc6⟩ (λi σ H7 _ ⟨_,_,_,h⟩=>SqT.of (h.get 0 1 rfl rfl)) ?_ ?_⟩
   ·rintro i x σ H7 hi ⟨v,rfl,k7,hc7⟩
    obtain⟨v2,rfl,hv⟩:=ul hi
    have hil:=(zD.mp hv).1
    obtain⟨l2,hl2⟩:∃l,ls[i]?=some l:=⟨ls[i]'(by omega),zB _⟩
    obtain⟨r2,hr2⟩:∃r,rows2[i]?=some r:=⟨rows2[i]'(by omega),zB _⟩
    obtain⟨a0,t0,rfl⟩:=ne hr2
    have hlr2:=hc7.get 1 i rfl (ud hl2 (wX hr2))
    refine⟨_,rfl,_,rfl,p,C,dx,_,_,rfl,hc7.get 0 0 rfl rfl,cl,nK,lk,_,rfl,d,_,rfl,DGet.ki (hc7.get 0 3 rfl rfl) (vX ndw hv hl2),tyL hlr2,l2,_,0,0,V.int a0,rfl,rfl,hlr2,by decide,by decide,seqIndex_of (k:=0) (by decide) (by rw[zC,zX];omega),rfl,?_⟩
    refine⟨_,_,rfl,rfl,?_⟩
    have hc8:=hc7.put 1 i rfl (ud hl2 (wX hr2)) (.lst (t0.map V.int))
    rw[ve _ hl2]at hc8
    have e8:=zb hr2
    refine⟨some (.int v2),?_,k7.put hlr2 (λz=>z),?_⟩
    rotate_left
    ·rw[←e8]
     exact hc8
    ·rw[yV,hr2]
     show _=[some (V.ref p),some (V.int wv),some (V.int z),some (V.int (heads (rows2.take i++[a0::t0]))),_]
     rw[As]
     rfl
   ·rintro σ H7 ⟨v,rfl,k7,hc7⟩
    rw[zC,←er2,yy]at hc7
    rw[zC,←er2,yB]
    refine⟨_,rfl,p,dx,_,rfl,hc7.get 0 0 rfl rfl,EQ _ _ _ (by decide +kernel) (by decide +kernel) (by decide +kernel),_,rfl,?_⟩
    exact⟨p,C,dx,p2,_,ys,_,rfl,hc7.get 0 0 rfl rfl,c.st,yj _ _ _,hc7.get 0 2 rfl rfl,λe=>q _ _ _ _ (.lost hb e) (Hc.pad hc7) k7,λy r t e nt=>q _ _ _ _ (.put hb e t) (hc7.new nt _) (k7.new nt)⟩
end
end Oc
namespace Oc
open PySem L2
inductive Kd where
 | relay (n:Int)
 | sorter
 | thinner (n:Int)
 | joiner
 | sink
deriving DecidableEq
set_option genInjectivity false in
set_option genSizeOf false in
structure Cs where
 rl:Addr
 so:Addr
 th:Addr
 jn:Addr
 si:Addr
def Cs.of(cs:Cs):Kd->Addr
 | .relay _=>cs.rl
 | .sorter=>cs.so
 | .thinner _=>cs.th
 | .joiner=>cs.jn
 | .sink=>cs.si
structure CsOk(K:PySem.W.Frag)(cs:Cs):Prop where
 rl:RlC K cs.rl
 so:StC K cs.so
 th:ThC K cs.th
 jn:JnC K cs.jn
 si:StC K cs.si
set_option genInjectivity false in
set_option genSizeOf false in
structure SR where
 x:Addr
 dx:Addr
 p1:Addr
 p2:Addr
 d:Addr
 k:Kd
 ws:List Int
 bs:List Int
 ls:List Addr
 seen:Int
 rows:List (List Int)
def SR.flds(r:SR):List (Str×V):=match r.k with
 | .relay n=>fR r.p1 r.p2 n
 | .sorter=>fS r.p1 r.p2
 | .thinner n=>fT r.p1 r.p2 n r.seen
 | .joiner=>fJ r.p1 r.p2 r.d
 | .sink=>fS r.p1 r.p2
def SR.more(r:SR):List Cell:=match r.k with
 | .joiner=>(r.d,.dK (jk r.ws r.ls))::jrows r.ls r.rows
 | _=>[]
def srC(cs:Cs)(r:SR):List Cell:=(r.x,.ins (cs.of r.k) r.dx r.flds)::(r.p1,.tup (r.ws.map V.int))::(r.p2,.tup (r.bs.map V.int))::r.more
structure SOk(m:Nat)(r:SR):Prop where
 nd:r.ws.Nodup
 l1:r.ws.length<=100
 jn:r.k=.joiner->r.ls.length=r.ws.length/\r.rows.length=r.ws.length/\∀row∈r.rows,row.length<=m
 th:∀n,r.k=.thinner n->2<=n
theorem SR.flds_no(r:SR){x:Str}(h0:¬x="kept")(h1:¬x="belts")(h2:¬x="ways")(h3:¬x="more")(h4:¬x="seen")(h5:¬x="every"):r.flds.lookup x=none:=by
 unfold SR.flds
 cases r.k with
 | relay n=>exact EJ _ _ _ h3 h1 h2
 | sorter=>exact yp _ _ h1 h2
 | thinner n=>exact EC _ _ _ _ h4 h5 h1 h2
 | joiner=>exact EQ _ _ _ h0 h1 h2
 | sink=>exact yp _ _ h1 h2
def SR.add(r:SR)(j:Nat)(z:Int):List (List Int):=r.rows.set j (r.rows.getD j []++[z])
def SR.out(r:SR)(j:Nat)(z:Int):Option (Int×Int):=match r.k with
 | .relay n=>r.bs.head?.map λb=>(b,z+n)
 | .sorter=>if r.bs=[]then none else (r.bs[(z%(r.bs.length:Int)).toNat]?).map λb=>(b,z)
 | .thinner n=>if (r.seen+1)%n=0 then none else r.bs.head?.map λb=>(b,z)
 | .joiner=>if anyE (r.add j z)then none else r.bs.head?.map λb=>(b,heads (r.add j z))
 | .sink=>none
def SR.nxt(r:SR)(j:Nat)(z:Int):SR:=match r.k with
 | .thinner _=>{ r with seen:=r.seen+1 }
 | .joiner=>{ r with rows:=if anyE (r.add j z)then r.add j z else (r.add j z).map List.tail }
 | _=>r
theorem SR.nxt_x(r:SR)(j:Nat)(z:Int):(r.nxt j z).x=r.x/\(r.nxt j z).k=r.k/\(r.nxt j z).ws=r.ws/\(r.nxt j z).bs=r.bs:=by
 unfold SR.nxt
 cases e:r.k <;>simp [e]
theorem SOk.nxt{m:Nat}{r:SR}(h:SOk m r)(j:Nat)(z:Int):SOk (m+1) (r.nxt j z):=by
 obtain⟨x,dx,p1,p2,d,k,ws,bs,ls,seen,rows⟩:=r
 cases k with
 | relay n=>exact⟨h.nd,h.l1,λe=>(by cases e),λn e=>h.th n e⟩
 | sorter=>exact⟨h.nd,h.l1,λe=>(by cases e),λn e=>by cases e⟩
 | sink=>exact⟨h.nd,h.l1,λe=>(by cases e),λn e=>by cases e⟩
 | thinner n=>exact⟨h.nd,h.l1,λe=>(by cases e),λn e=>h.th n e⟩
 | joiner =>
  refine⟨h.nd,h.l1,λ_=>?_,λn e=>by cases e⟩
  obtain⟨h1,h2,h3⟩:=h.jn rfl
  have ha:∀row∈SR.add ⟨x,dx,p1,p2,d,.joiner,ws,bs,ls,seen,rows⟩ j z,row.length<=m+1:=λrow hr=>by
   rcases kO hr with e|e
   ·have:=h3 row e;omega
   ·rw[e,zM]
    have:(rows.getD j []).length<=m:=by
     rw[zA]
     cases hj:rows[j]? with
     | none=>exact zV _
     | some r0=>exact h3 r0 (zE hj)
    show(rows.getD j []).length+1<=_
    omega
  have el:(SR.add ⟨x,dx,p1,p2,d,.joiner,ws,bs,ls,seen,rows⟩ j z).length=ws.length:=by
   unfold SR.add
   rw[zZ]
   exact h2
  have eN:(SR.nxt ⟨x,dx,p1,p2,d,.joiner,ws,bs,ls,seen,rows⟩ j z).rows=if anyE (SR.add ⟨x,dx,p1,p2,d,.joiner,ws,bs,ls,seen,rows⟩ j z)then SR.add ⟨x,dx,p1,p2,d,.joiner,ws,bs,ls,seen,rows⟩ j z else (SR.add ⟨x,dx,p1,p2,d,.joiner,ws,bs,ls,seen,rows⟩ j z).map List.tail:=rfl
  refine⟨h1,?_,?_⟩
  ·rw[eN]
   split
   ·exact el
   ·rw[zC];exact el
  ·rw[eN]
   split
   ·exact ha
   ·intro row hr
    obtain⟨r0,h0,rfl⟩:=yI.mp hr
    have:=ha r0 h0
    rw[j9]
    omega
theorem SOk.le{m n:Nat}{r:SR}(h:SOk m r)(e:m<=n):SOk n r:=⟨h.nd,h.l1,λk=>let ⟨a,b,d⟩:=h.jn k;⟨a,b,λrow hr=>z0 (d row hr) e⟩,h.th⟩
inductive Put:Option (Int×Int)->V->List Cell->Prop
 | no:Put none .non []
 | yes (b y:Int) (t:Addr):Put (some (b,y)) (.ref t) [(t,.tup [.int b,.int y])]
inductive spTk(cs:Cs)(k:Kd)(vs:List V)(H:Hp)(Q:VK)(x_3:XK):Prop where
 | mk (r:SR) (j m:Nat) (wv z:Int) (M:List (List Cell)) (h_0:vs=[.ref r.x,.int wv,.int z]) (h_1:r.k=k) (h_2:Hc H (srC cs r::M)) (h_3:SOk m r) (h_4:m<=90000) (h_5:r.ws[j]?=some wv) (h_6:∀(v:V)(ft:List Cell)(H':Hp),Put (r.out j z) v ft->Hc H' (ft::srC cs (r.nxt j z)::M)->Tk H H'->Q v H'):spTk cs k vs H Q x_3
section
variable{P:Program}{w:World}{K:PySem.W.Frag}{mg:Str->Option Value}{base:Heap}
def spNon:Sp:=λvs H Q _=>vs.length=3/\Q .non H
theorem CH:FnScope ["self","way","piece"] ["self","way","piece"] (defScope (inClass (top 9) 1)):=⟨rfl,rfl,rfl,by decide +kernel,rfl,by decide +kernel,by decide +kernel⟩
theorem F5{f:Addr}{fd:FuncData}(F:Fun K "take" "Station.take" (inClass (top 9) 1) f fd):FnOk P w K mg base CX0 1 f fd ["self","way","piece"] spNon:=by
 have nd:=CH.nd
 refine F.ok CH (λvs H Q E h=>h.1) (λcdv A outer s H vs Q E hr h=>?_)
 refine⟨_,(@sy _ _ _ (@sN _ _ _ _ tY)),?_⟩
 exact h.2
theorem Ci{cs:Cs}(G1:MethAt P w K mg base 2 cs.rl "take" ["self","way","piece"] (spRlT cs.rl))(G2:MethAt P w K mg base 1 cs.so "take" ["self","way","piece"] (spSrT cs.so))(G3:MethAt P w K mg base 2 cs.th "take" ["self","way","piece"] (spThT cs.th))
  (G4:MethAt P w K mg base 2 cs.jn "take" ["self","way","piece"] (spJnT cs.jn)) (G5:MethAt P w K mg base 1 cs.si "take" ["self","way","piece"] spNon) (k:Kd):MethAt P w K mg base 2 (cs.of k) "take" ["self","way","piece"] (spTk cs k):=by
 cases k with
 | relay n =>
  refine G1.imp λvs H Q E h=>?_
  obtain⟨⟨x,dx,p1,p2,d,k,ws,bs,ls,seen,rows⟩,j,m,wv,z,M,rfl,e,hc,ok,hm,hw,q⟩:=h
  cases e
  refine⟨x,dx,p1,p2,n,z,_,bs.map V.int,rfl,hc.get 0 0 rfl rfl,hc.get 0 2 rfl rfl,λeb=>?_,λy rr t eb nt=>?_⟩
  ·have:bs=[]:=j0.mp eb
   subst this
   exact q _ _ _ .no hc.pad (Tk.refl _)
  ·cases bs with
   | nil=>cases eb
   | cons b bs =>
    cases eb
    exact q _ _ _ (.yes _ _ t) (hc.new nt _) ((Tk.refl _).new nt)
 | sorter =>
  refine(G2.mono (by decide)).imp λvs H Q E h=>?_
  obtain⟨⟨x,dx,p1,p2,d,k,ws,bs,ls,seen,rows⟩,j,m,wv,z,M,rfl,e,hc,ok,hm,hw,q⟩:=h
  cases e
  refine⟨x,dx,p1,p2,z,_,bs,rfl,hc.get 0 0 rfl rfl,hc.get 0 2 rfl rfl,λeb=>?_,λy t eb hy nt=>?_⟩
  ·subst eb
   exact q _ _ _ .no hc.pad (Tk.refl _)
  ·have eo:SR.out ⟨x,dx,p1,p2,d,.sorter,ws,bs,ls,seen,rows⟩ j z=some (y,z):=by
    show(if bs=[]then none else (bs[(z%(bs.length:Int)).toNat]?).map λb=>(b,z))=_
    rw[if_neg eb,hy]
    rfl
   exact q _ _ _ (by rw[eo];exact .yes _ _ t) (hc.new nt _) ((Tk.refl _).new nt)
 | thinner n =>
  refine G3.imp λvs H Q E h=>?_
  obtain⟨⟨x,dx,p1,p2,d,k,ws,bs,ls,seen,rows⟩,j,m,wv,z,M,rfl,e,hc,ok,hm,hw,q⟩:=h
  cases e
  have hput:=hc.put 0 0 rfl rfl (.ins cs.th dx (fT p1 p2 n (seen+1)))
  have kput:Tk H (upd H x (.ins cs.th dx (fT p1 p2 n (seen+1)))):=(Tk.refl H).put (hc.get 0 0 rfl rfl) (λz=>z)
  refine⟨x,dx,p1,p2,n,seen,z,_,bs.map V.int,rfl,hc.get 0 0 rfl rfl,hc.get 0 2 rfl rfl,ok.th n rfl,λhn=>?_,λy rr t hn eb nt=>?_⟩
  ·have eo:SR.out ⟨x,dx,p1,p2,d,.thinner n,ws,bs,ls,seen,rows⟩ j z=none:=by
    show(if (seen+1)%n=0 then none else bs.head?.map λb=>(b,z))=_
    rcases hn with h|h
    ·rw[if_pos h]
    ·have:bs=[]:=j0.mp h
     rw[this]
     split <;>rfl
   exact q _ _ _ (by rw[eo];exact .no) hput.pad kput
  ·cases bs with
   | nil=>cases eb
   | cons b bs =>
    cases eb
    have eo:SR.out ⟨x,dx,p1,p2,d,.thinner n,ws,b::bs,ls,seen,rows⟩ j z=some (b,z):=by
     show(if (seen+1)%n=0 then none else (b::bs).head?.map λb=>(b,z))=_
     rw[if_neg hn]
     rfl
    have nt':(upd H x (.ins cs.th dx (fT p1 p2 n (seen+1)))) t=none:=by
     rw[sD (λz=>by have:=hc.get 0 0 rfl rfl;rw[←z,nt]at this;cases this)]
     exact nt
    exact q _ _ _ (by rw[eo];exact .yes _ _ t) (hput.new nt' _) (kput.new nt')
 | joiner =>
  refine G4.imp λvs H Q E h=>?_
  obtain⟨⟨x,dx,p1,p2,d,k,ws,bs,ls,seen,rows⟩,j,m,wv,z,M,rfl,e,hc,ok,hm,hw,q⟩:=h
  cases e
  obtain⟨h1,h2,h3⟩:=ok.jn rfl
  have hjl:j<ws.length:=(zD.mp hw).1
  have h2':rows.length=ws.length:=h2
  obtain⟨row,hrow⟩:∃row,rows[j]?=some row:=⟨rows[j]'(by omega),zB _⟩
  have hc':Hc H (jobj cs.jn dx x p1 p2 d ws ls (bs.map V.int)::jrows ls rows::M):=Hc.split (a:=jobj cs.jn dx x p1 p2 d ws ls (bs.map V.int)) (b:=jrows ls rows) hc
  have ea:SR.add ⟨x,dx,p1,p2,d,.joiner,ws,bs,ls,seen,rows⟩ j z=rows.set j (row++[z]):=by
   show rows.set j (rows.getD j []++[z])=_
   rw[zA,hrow]
   rfl
  refine⟨x,dx,p1,p2,d,wv,z,ws,ls,bs.map V.int,j,rows,row,M,rfl,hc',ok.nd,ok.l1,h1,h2,hw,hrow,by have:=h3 row (zE hrow);omega,λv ft rows' H' out hc2 k2=>?_⟩
  rw[←ea]at out
  have hj:∀{rows'},(SR.nxt ⟨x,dx,p1,p2,d,.joiner,ws,bs,ls,seen,rows⟩ j z).rows=rows'->Hc H' (ft::jobj cs.jn dx x p1 p2 d ws ls (bs.map V.int)::jrows ls rows'::M)->Hc H' (ft::srC cs (SR.nxt ⟨x,dx,p1,p2,d,.joiner,ws,bs,ls,seen,rows⟩ j z)::M):=fun {rows'} e h=>by
   subst e
   exact Hc.swap (Hc.join (a:=jobj cs.jn dx x p1 p2 d ws ls (bs.map V.int)) (b:=jrows ls _) ((h.pick 2 rfl).pick 2 rfl))
  have eN:(SR.nxt ⟨x,dx,p1,p2,d,.joiner,ws,bs,ls,seen,rows⟩ j z).rows=if anyE (SR.add ⟨x,dx,p1,p2,d,.joiner,ws,bs,ls,seen,rows⟩ j z)then (SR.add ⟨x,dx,p1,p2,d,.joiner,ws,bs,ls,seen,rows⟩ j z)else (SR.add ⟨x,dx,p1,p2,d,.joiner,ws,bs,ls,seen,rows⟩ j z).map List.tail:=rfl
  have eO:SR.out ⟨x,dx,p1,p2,d,.joiner,ws,bs,ls,seen,rows⟩ j z=if anyE (SR.add ⟨x,dx,p1,p2,d,.joiner,ws,bs,ls,seen,rows⟩ j z)then none else bs.head?.map λb=>(b,heads (SR.add ⟨x,dx,p1,p2,d,.joiner,ws,bs,ls,seen,rows⟩ j z)):=rfl
  cases out with
  | wait h =>
   refine q _ _ _ ?_ (hj (by rw[eN,if_pos h]) hc2) k2
   rw[eO,if_pos h]
   exact .no
  | lost h e =>
   refine q _ _ _ ?_ (hj (by rw[eN,h];rfl) hc2) k2
   have:bs=[]:=j0.mp e
   rw[eO,h,this]
   exact .no
  | put h e t =>
   cases bs with
   | nil=>cases e
   | cons b bs =>
    cases e
    refine q _ _ _ ?_ (hj (by rw[eN,h];rfl) hc2) k2
    rw[eO,h]
    exact .yes _ _ t
 | sink =>
  refine(G5.mono (by decide)).imp λvs H Q E h=>?_
  obtain⟨⟨x,dx,p1,p2,d,k,ws,bs,ls,seen,rows⟩,j,m,wv,z,M,rfl,e,hc,ok,hm,hw,q⟩:=h
  cases e
  exact⟨rfl,q _ _ _ .no hc.pad (Tk.refl _)⟩
end
end Oc
namespace Oc
open PySem L2
theorem v0{α:Type}(f:α->Bool):∀(l:List α)(k:Nat)(x:Int),x∈idx f k l->(k:Int)<=x
 | [],_,_,h=>absurd h zI
 | y::l,k,x,h=>by
  unfold idx at h
  by_cases hf:f y=true
  ·rw[if_pos hf]at h
   rcases zR.mp h with e|e
   ·omega
   ·have:=v0 f l (k+1) x e
    omega
  ·rw[if_neg hf]at h
   have:=v0 f l (k+1) x h
   omega
theorem xL{α:Type}(f:α->Bool):∀(l:List α)(k:Nat),(idx f k l).Pairwise (· < ·)
 | [],_=>List.Pairwise.nil
 | y::l,k=>by
  unfold idx
  by_cases hf:f y=true
  ·rw[if_pos hf]
   refine yS.mpr ⟨λx hx=>?_,xL f l (k+1)⟩
   have:=v0 f l (k+1) x hx
   omega
  ·rw[if_neg hf]
   exact xL f l (k+1)
theorem Gf{l:List Int}(h:l.Pairwise (· < ·)):l.Nodup:=h.imp λh e=>by omega
theorem Wk.wy_pw(W:Wk)(s:Int):(W.wy s).Pairwise (· < ·):=by
 unfold Wk.wy
 split
 ·refine yS.mpr ⟨λx hx=>?_,xL _ _ _⟩
  have:=v0 _ _ _ _ hx
  omega
 ·exact xL _ _ _
theorem Wk.wy_nd(W:Wk)(s:Int):(W.wy s).Nodup:=Gf (W.wy_pw s)
theorem Wk.wy_len{W:Wk}(ok:W.Ok)(s:Int):(W.wy s).length<=13:=by
 have h1:=uB (λ(t:Tri)=>t.2.1==s) W.be 0
 have h2:=ok.b12
 unfold Wk.wy
 rw[zM]
 split
 ·show 1+_<=13;omega
 ·show 0+_<=13;omega
def kdOf(s:Sta):Kd:=if s.1="relay" then .relay (s.2.getD 0)else if s.1="sorter" then .sorter else if s.1="thinner" then .thinner (s.2.getD 0)else if s.1="joiner" then .joiner else .sink
theorem vH(n:Option Int):kdOf ("relay",n)=.relay (n.getD 0):=by unfold kdOf;rw[if_pos rfl]
theorem vf(n:Option Int):kdOf ("sorter",n)=.sorter:=by
 unfold kdOf
 rw[if_neg (show ¬(("sorter":Str)="relay") by decide +kernel),if_pos rfl]
theorem uS(n:Option Int):kdOf ("thinner",n)=.thinner (n.getD 0):=by
 unfold kdOf
 rw[if_neg (show ¬(("thinner":Str)="relay") by decide +kernel),if_neg (show ¬(("thinner":Str)="sorter") by decide +kernel),if_pos rfl]
theorem we(n:Option Int):kdOf ("joiner",n)=.joiner:=by
 unfold kdOf
 rw[if_neg (show ¬(("joiner":Str)="relay") by decide +kernel),if_neg (show ¬(("joiner":Str)="sorter") by decide +kernel),if_neg (show ¬(("joiner":Str)="thinner") by decide +kernel),if_pos rfl]
theorem Ef(n:Option Int):kdOf ("sink",n)=.sink:=by
 unfold kdOf
 rw[if_neg (show ¬(("sink":Str)="relay") by decide +kernel),if_neg (show ¬(("sink":Str)="sorter") by decide +kernel),if_neg (show ¬(("sink":Str)="thinner") by decide +kernel),if_neg (show ¬(("sink":Str)="joiner") by decide +kernel)]
structure Made(W:Wk)(s:Nat)(r:SR):Prop where
 k:∃st,W.st[s]?=some st/\r.k=kdOf st
 ws:r.ws=W.wy s
 bs:r.bs=W.lv s
 seen:r.seen=0
 rows:r.rows=if r.k=.joiner then (W.wy s).map (λ_=>[])else []
 ok:SOk 0 r
inductive spSides(vs:List V)(H:Hp)(Q:VK)(x_3:XK):Prop where
 | mk (w:Addr) (W:Wk) (s:Int) (M:List (List Cell)) (h_0:vs=[.ref w,.int s]) (h_1:WkAt H w W) (h_2:W.Ok) (h_3:Hc H M) (h_4:∀(t p1 p2:Addr)(H':Hp),Same H H'->Hc H' ([(t,.tup [.ref p1,.ref p2]),(p1,.lst ((W.wy s).map V.int)),(p2,.lst ((W.lv s).map V.int))]::M)->Q (.ref t) H'):spSides vs H Q x_3
inductive spSo(cs:Cs)(vs:List V)(H:Hp)(Q:VK)(x_3:XK):Prop where
 | mk (w:Addr) (W:Wk) (s:Nat) (M:List (List Cell)) (h_0:vs=[.ref w,.int s]) (h_1:WkAt H w W) (h_2:W.Ok) (h_3:s<W.st.length) (h_4:Hc H M) (h_5:∀(r:SR)(H':Hp),Same H H'->Hc H' (srC cs r::M)->Made W s r->Q (.ref r.x) H'):spSo cs vs H Q x_3
section
variable{P:Program}{w:World}{K:PySem.W.Frag}{mg:Str->Option Value}{base:Heap}
theorem iP:FnScope ["works","station"] ["works","station"] (defScope (top 7)):=⟨rfl,rfl,rfl,by decide +kernel,rfl,by decide +kernel,by decide +kernel⟩
theorem oz{f:Addr}{fd:FuncData}(F:Fun K "sides" "sides" (top 7) f fd)(rM:FnAt P w K mg base 1 "ways" ["works","station"] spWays)(nH:FnAt P w K mg base 1 "leaving" ["works","station"] spLeav) :
  FnOk P w K mg base CX0 2 f fd ["works","station"] spSides:=by
 have nd:=iP.nd
 refine F.ok iP (λvs H Q E h=>?_) (λcdv A outer s H vs Q E hr h=>?_)
 ·obtain⟨w,W,z,M,rfl,_⟩:=h
  rfl
 ·obtain⟨w,W,z,M,rfl,hw,ok,hc,q⟩:=h
  refine⟨_,(@sy _ _ _ (@sN _ _ _ _ (@tj _ _ _ _ _ (@sf _ _ _ _ _ (sU rM (hr.mono (by decide)) (by rfl) (@sf _ _ _ _ _ (pv 0) (@sf _ _ _ _ _ (pv 1) sh (by rfl)) (by rfl))) (@sf _ _ _ _ _ (sU nH (hr.mono (by decide)) (by rfl) (@sf _ _ _ _ _ (pv 0) (@sf _ _ _ _ _ (pv 1) sh (by rfl)) (by rfl))) sh (by rfl)) (by rfl))))),?_⟩
  refine⟨_,rfl,_,rfl,w,W,z,rfl,hw,ok,λp1 H1 n1 h1 s1=>⟨_,rfl,_,rfl,w,W,z,rfl,hw.same s1,ok,λp2 H2 n2 h2 s2=>⟨(by show 2<=sizeLine;decide),λt nt=>?_⟩⟩⟩
  have hc1:=hc.newS n1 h1 s1
  have hc2:=hc1.newS n2 h2 s2
  have hc3:Hc _ ([(t,.tup [.ref p1,.ref p2])]::[(p2,.lst ((W.lv z).map V.int))]::[(p1,.lst ((W.wy z).map V.int))]::M):=hc2.new nt _
  have hc4:Hc _ ([(t,.tup [.ref p1,.ref p2])]::[(p1,.lst ((W.wy z).map V.int))]::[(p2,.lst ((W.lv z).map V.int))]::M):=(hc3.pick 2 rfl).pick 1 rfl
  exact q t p1 p2 _ ((s1.trans s2).trans (Same.new nt)) hc4.join.join
theorem EB:FnScope ["works","station","told","kind","around"] ["works","station"] (defScope (top 15)):=⟨rfl,rfl,rfl,by decide +kernel,rfl,by decide +kernel,by decide +kernel⟩
theorem Gq{f:Addr}{fd:FuncData}{cs:Cs}(F:Fun K "station_of" "station_of" (top 15) f fd)(c:CsOk K cs)(pN:FnAt P w K mg base 2 "sides" ["works","station"] spSides)
  (pw:MkAt P w K mg base 2 "Relay" cs.rl ["self","ways","belts","more"] (spRlI K)) (oe:MkAt P w K mg base 1 "Sorter" cs.so ["self","ways","belts"] (spStI K)) (nO:MkAt P w K mg base 2 "Thinner" cs.th ["self","ways","belts","every"] (spThI K))
  (oH:MkAt P w K mg base 2 "Joiner" cs.jn ["self","ways","belts"] (spJnI K)) (rn:MkAt P w K mg base 1 "Sink" cs.si ["self","ways","belts"] (spStI K)) :
  FnOk P w K mg base CX0 4 f fd ["works","station"] (spSo cs):=by
 have nd:=EB.nd
 refine F.ok EB (λvs H Q E h=>?_) (λcdv A outer s H vs Q E hr h=>?_)
 ·obtain⟨w,W,z,M,rfl,_⟩:=h
  rfl
 ·obtain⟨w,W,z,M,rfl,hw,ok,hz,hc,q⟩:=h
  refine⟨_,(@sq _ _ _ _ _ (sL (i:=2) nd rfl (by nofun) (@sE _ _ _ _ _ _ _ (sO (K:=K) rfl) (@sE _ _ _ _ _ _ _ (sA (K:=K) rfl) (pv 0) sg (λ_ _=>rfl)) (pv 1) (λ_ _=>rfl)))
   (@sq _ _ _ _ _ (sL (i:=3) nd rfl (by nofun) (@sE _ _ _ _ _ _ _ (sA (K:=K) rfl) (pv 2) sg (λ_ _=>rfl)))
   (@sq _ _ _ _ _ (sL (i:=4) nd rfl (by nofun) (sU pN (hr.mono (by decide)) (by rfl) (@sf _ _ _ _ _ (pv 0) (@sf _ _ _ _ _ (pv 1) sh (by rfl)) (by rfl))))
   (@sq _ _ _ _ _ (tG (sJ tN (pv 3) tW (sP _)) (@sy _ _ _ (@sN _ _ _ _ (xA pw (hr.mono (by decide)) (by rfl) (@sf _ _ _ _ _ (@sE _ _ _ _ _ _ _ (sA (K:=K) rfl) (pv 4) sg (λ_ _=>rfl)) (@sf _ _ _ _ _ (@sE _ _ _ _ _ _ _ (sA (K:=K) rfl) (pv 4) sg (λ_ _=>rfl)) (@sf _ _ _ _ _ (@sE _ _ _ _ _ _ _ (sA (K:=K) rfl) (pv 2) sg (λ_ _=>rfl)) sh (by rfl)) (by rfl)) (by rfl))))) sS)
   (@sq _ _ _ _ _ (tG (sJ tN (pv 3) tW (sP _)) (@sy _ _ _ (@sN _ _ _ _ (xA oe (hr.mono (by decide)) (by rfl) (@sf _ _ _ _ _ (@sE _ _ _ _ _ _ _ (sA (K:=K) rfl) (pv 4) sg (λ_ _=>rfl)) (@sf _ _ _ _ _ (@sE _ _ _ _ _ _ _ (sA (K:=K) rfl) (pv 4) sg (λ_ _=>rfl)) sh (by rfl)) (by rfl))))) sS)
   (@sq _ _ _ _ _ (tG (sJ tN (pv 3) tW (sP _)) (@sy _ _ _ (@sN _ _ _ _ (xA nO (hr.mono (by decide)) (by rfl) (@sf _ _ _ _ _ (@sE _ _ _ _ _ _ _ (sA (K:=K) rfl) (pv 4) sg (λ_ _=>rfl)) (@sf _ _ _ _ _ (@sE _ _ _ _ _ _ _ (sA (K:=K) rfl) (pv 4) sg (λ_ _=>rfl)) (@sf _ _ _ _ _ (@sE _ _ _ _ _ _ _ (sA (K:=K) rfl) (pv 2) sg (λ_ _=>rfl)) sh (by rfl)) (by rfl)) (by rfl))))) sS)
   (@sq _ _ _ _ _ (tG (sJ tN (pv 3) tW (sP _)) (@sy _ _ _ (@sN _ _ _ _ (xA oH (hr.mono (by decide)) (by rfl) (@sf _ _ _ _ _ (@sE _ _ _ _ _ _ _ (sA (K:=K) rfl) (pv 4) sg (λ_ _=>rfl)) (@sf _ _ _ _ _ (@sE _ _ _ _ _ _ _ (sA (K:=K) rfl) (pv 4) sg (λ_ _=>rfl)) sh (by rfl)) (by rfl))))) sS)
   (@sy _ _ _ (@sN _ _ _ _ (xA rn (hr.mono (by decide)) (by rfl) (@sf _ _ _ _ _ (@sE _ _ _ _ _ _ _ (sA (K:=K) rfl) (pv 4) sg (λ_ _=>rfl)) (@sf _ _ _ _ _ (@sE _ _ _ _ _ _ _ (sA (K:=K) rfl) (pv 4) sg (λ_ _=>rfl)) sh (by rfl)) (by rfl)))))))))))),?_⟩
  obtain⟨sa,ba,fa,xs,ys,zs,h1,h2⟩:=id hw.ex
  have ls:=h2.ps.length
  obtain⟨xv,hx⟩:∃x,xs[z]?=some x:=⟨xs[z]'(by omega),zB _⟩
  obtain⟨st,hst,hp⟩:=h2.ps.gt hx
  obtain⟨ta,rfl,hta⟩:=hp
  have okst:=ok.sta st (zE hst)
  have l13:=W.wy_len ok z
  refine⟨_,rfl,⟨_,_,_,_,rfl,rfl,SqT.of h1,su (j:=0) rfl,_,rfl,⟨_,_,_,_,rfl,rfl,SqL.of h2.hs,su hx,?_⟩⟩⟩
  have mk:∀{H1 H2:Hp}{x dx:Addr}{o:HO},Same H H1->H1 x=none->H1 dx=none->Keep [x] (upd (upd H1 dx (.own x)) x o) H2->Same H H2:=λs1 nx ndx kp b o e =>
   kp b o (((Same.new ndx).upd nx) b o (s1 b o e)) (by rw[zG];exact sC (s1 b o e) nx)
  rcases okst with ⟨n,rfl,_⟩|rfl|⟨n,rfl,hn,_⟩|rfl|rfl
  ·refine⟨_,rfl,⟨_,_,_,_,rfl,rfl,SqT.of hta,su (j:=0) rfl,_,rfl,_,rfl,w,W,z,M,rfl,hw,ok,hc,λt q1 q2 H1 s1 hc1=>?_⟩⟩
   refine⟨_,rfl,rfl,_,rfl,?_⟩
   rw[show decide (V.str "relay"=V.str "relay")=true from by decide +kernel]
   refine iteT ⟨_,rfl,⟨_,_,_,_,rfl,rfl,SqT.of (hc1.get 0 0 rfl rfl),su (j:=0) rfl,_,rfl,⟨_,_,_,_,rfl,rfl,SqT.of (hc1.get 0 0 rfl rfl),su (j:=1) rfl,_,rfl,⟨_,_,_,_,rfl,rfl,SqT.of (s1 _ _ hta),su (j:=1) rfl,λx dx nx ndx nex=>?_⟩⟩⟩⟩
   have hcF:=(hc1.new ndx (.own x)).new (p:=x) (by rw[sD (Ne.symm nex)];exact nx) (.ins cs.rl dx [])
   refine⟨x,q1,q2,cs.rl,dx,_,_,n,_,rfl,hcF,c.rl,SqL.of (hcF.get 2 1 rfl rfl),SqL.of (hcF.get 2 2 rfl rfl),sC (hc1.get 0 1 rfl rfl) nx,sC (hc1.get 0 2 rfl rfl) nx,λp1 p2 H' kp hc'=>⟨rfl,?_⟩⟩
   exact q ⟨x,dx,p1,p2,0,.relay n,W.wy z,W.lv z,[],0,[]⟩ H' (mk s1 nx ndx kp) (((hc'.pick 1 rfl).tl.pick 1 rfl).tl) ⟨⟨_,hst,by rw[vH];rfl⟩,rfl,rfl,rfl,rfl,⟨W.wy_nd z,by show(W.wy z).length<=100;omega,λe=>(by cases e),λn e=>by cases e⟩⟩
  ·refine⟨_,rfl,⟨_,_,_,_,rfl,rfl,SqT.of hta,su (j:=0) rfl,_,rfl,_,rfl,w,W,z,M,rfl,hw,ok,hc,λt q1 q2 H1 s1 hc1=>?_⟩⟩
   refine⟨_,rfl,rfl,_,rfl,?_⟩
   rw[show decide (V.str "sorter"=V.str "relay")=false from by decide +kernel]
   refine iteF ⟨_,rfl,rfl,_,rfl,?_⟩
   rw[show decide (V.str "sorter"=V.str "sorter")=true from by decide +kernel]
   refine iteT ⟨_,rfl,⟨_,_,_,_,rfl,rfl,SqT.of (hc1.get 0 0 rfl rfl),su (j:=0) rfl,_,rfl,⟨_,_,_,_,rfl,rfl,SqT.of (hc1.get 0 0 rfl rfl),su (j:=1) rfl,λx dx nx ndx nex=>?_⟩⟩⟩
   have hcF:=(hc1.new ndx (.own x)).new (p:=x) (by rw[sD (Ne.symm nex)];exact nx) (.ins cs.so dx [])
   refine⟨x,q1,q2,cs.so,dx,_,_,_,rfl,hcF,c.so,SqL.of (hcF.get 2 1 rfl rfl),SqL.of (hcF.get 2 2 rfl rfl),sC (hc1.get 0 1 rfl rfl) nx,sC (hc1.get 0 2 rfl rfl) nx,λp1 p2 H' kp hc'=>⟨rfl,?_⟩⟩
   exact q ⟨x,dx,p1,p2,0,.sorter,W.wy z,W.lv z,[],0,[]⟩ H' (mk s1 nx ndx kp) (((hc'.pick 1 rfl).tl.pick 1 rfl).tl) ⟨⟨_,hst,by rw[vf]⟩,rfl,rfl,rfl,rfl,⟨W.wy_nd z,by show(W.wy z).length<=100;omega,λe=>(by cases e),λn e=>by cases e⟩⟩
  ·refine⟨_,rfl,⟨_,_,_,_,rfl,rfl,SqT.of hta,su (j:=0) rfl,_,rfl,_,rfl,w,W,z,M,rfl,hw,ok,hc,λt q1 q2 H1 s1 hc1=>?_⟩⟩
   refine⟨_,rfl,rfl,_,rfl,?_⟩
   rw[show decide (V.str "thinner"=V.str "relay")=false from by decide +kernel]
   refine iteF ⟨_,rfl,rfl,_,rfl,?_⟩
   rw[show decide (V.str "thinner"=V.str "sorter")=false from by decide +kernel]
   refine iteF ⟨_,rfl,rfl,_,rfl,?_⟩
   rw[show decide (V.str "thinner"=V.str "thinner")=true from by decide +kernel]
   refine iteT ⟨_,rfl,⟨_,_,_,_,rfl,rfl,SqT.of (hc1.get 0 0 rfl rfl),su (j:=0) rfl,_,rfl,⟨_,_,_,_,rfl,rfl,SqT.of (hc1.get 0 0 rfl rfl),su (j:=1) rfl,_,rfl,⟨_,_,_,_,rfl,rfl,SqT.of (s1 _ _ hta),su (j:=1) rfl,λx dx nx ndx nex=>?_⟩⟩⟩⟩
   have hcF:=(hc1.new ndx (.own x)).new (p:=x) (by rw[sD (Ne.symm nex)];exact nx) (.ins cs.th dx [])
   refine⟨x,q1,q2,cs.th,dx,_,_,n,_,rfl,hcF,c.th,SqL.of (hcF.get 2 1 rfl rfl),SqL.of (hcF.get 2 2 rfl rfl),sC (hc1.get 0 1 rfl rfl) nx,sC (hc1.get 0 2 rfl rfl) nx,λp1 p2 H' kp hc'=>⟨rfl,?_⟩⟩
   exact q ⟨x,dx,p1,p2,0,.thinner n,W.wy z,W.lv z,[],0,[]⟩ H' (mk s1 nx ndx kp) (((hc'.pick 1 rfl).tl.pick 1 rfl).tl) ⟨⟨_,hst,by rw[uS];rfl⟩,rfl,rfl,rfl,rfl,⟨W.wy_nd z,by show(W.wy z).length<=100;omega,λe=>(by cases e),λn' e=>by cases e;exact hn⟩⟩
  ·refine⟨_,rfl,⟨_,_,_,_,rfl,rfl,SqT.of hta,su (j:=0) rfl,_,rfl,_,rfl,w,W,z,M,rfl,hw,ok,hc,λt q1 q2 H1 s1 hc1=>?_⟩⟩
   refine⟨_,rfl,rfl,_,rfl,?_⟩
   rw[show decide (V.str "joiner"=V.str "relay")=false from by decide +kernel]
   refine iteF ⟨_,rfl,rfl,_,rfl,?_⟩
   rw[show decide (V.str "joiner"=V.str "sorter")=false from by decide +kernel]
   refine iteF ⟨_,rfl,rfl,_,rfl,?_⟩
   rw[show decide (V.str "joiner"=V.str "thinner")=false from by decide +kernel]
   refine iteF ⟨_,rfl,rfl,_,rfl,?_⟩
   rw[show decide (V.str "joiner"=V.str "joiner")=true from by decide +kernel]
   refine iteT ⟨_,rfl,⟨_,_,_,_,rfl,rfl,SqT.of (hc1.get 0 0 rfl rfl),su (j:=0) rfl,_,rfl,⟨_,_,_,_,rfl,rfl,SqT.of (hc1.get 0 0 rfl rfl),su (j:=1) rfl,λx dx nx ndx nex=>?_⟩⟩⟩
   have hcF:=(hc1.new ndx (.own x)).new (p:=x) (by rw[sD (Ne.symm nex)];exact nx) (.ins cs.jn dx [])
   refine⟨x,q1,q2,cs.jn,dx,_,_,_,rfl,hcF,c.jn,SqL.of (hcF.get 2 1 rfl rfl),SqL.of (hcF.get 2 2 rfl rfl),sC (hc1.get 0 1 rfl rfl) nx,sC (hc1.get 0 2 rfl rfl) nx,W.wy_nd z,by omega,λp1 p2 d ls' H' el kp hc'=>⟨rfl,?_⟩⟩
   have hc'':=Hc.join (((hc'.pick 2 rfl).tl.pick 2 rfl).tl)
   have hc3:Hc H' (srC cs ⟨x,dx,p1,p2,d,.joiner,W.wy z,W.lv z,ls',0,(W.wy z).map λ_=>[]⟩::M):=Hc.join (a:=jobj cs.jn dx x p1 p2 d (W.wy z) ls' ((W.lv z).map V.int)) (b:=jrows ls' ((W.wy z).map λ_=>[])) (((((hc'.pick 2 rfl).tl.pick 2 rfl).tl).pick 1 rfl).pick 1 rfl)
   refine q ⟨x,dx,p1,p2,d,.joiner,W.wy z,W.lv z,ls',0,(W.wy z).map λ_=>[]⟩ H' (mk s1 nx ndx kp) hc3 ⟨⟨_,hst,by rw[we]⟩,rfl,rfl,rfl,by rw[if_pos rfl],⟨W.wy_nd z,by show(W.wy z).length<=100;omega,λ_=>⟨el,by rw[zC],λrow hr=>?_⟩,λn e=>by cases e⟩⟩
   obtain⟨_,_,rfl⟩:=yI.mp hr
   exact zH _
  ·refine⟨_,rfl,⟨_,_,_,_,rfl,rfl,SqT.of hta,su (j:=0) rfl,_,rfl,_,rfl,w,W,z,M,rfl,hw,ok,hc,λt q1 q2 H1 s1 hc1=>?_⟩⟩
   refine⟨_,rfl,rfl,_,rfl,?_⟩
   rw[show decide (V.str "sink"=V.str "relay")=false from by decide +kernel]
   refine iteF ⟨_,rfl,rfl,_,rfl,?_⟩
   rw[show decide (V.str "sink"=V.str "sorter")=false from by decide +kernel]
   refine iteF ⟨_,rfl,rfl,_,rfl,?_⟩
   rw[show decide (V.str "sink"=V.str "thinner")=false from by decide +kernel]
   refine iteF ⟨_,rfl,rfl,_,rfl,?_⟩
   rw[show decide (V.str "sink"=V.str "joiner")=false from by decide +kernel]
   refine iteF ⟨_,rfl,⟨_,_,_,_,rfl,rfl,SqT.of (hc1.get 0 0 rfl rfl),su (j:=0) rfl,_,rfl,⟨_,_,_,_,rfl,rfl,SqT.of (hc1.get 0 0 rfl rfl),su (j:=1) rfl,λx dx nx ndx nex=>?_⟩⟩⟩
   have hcF:=(hc1.new ndx (.own x)).new (p:=x) (by rw[sD (Ne.symm nex)];exact nx) (.ins cs.si dx [])
   refine⟨x,q1,q2,cs.si,dx,_,_,_,rfl,hcF,c.si,SqL.of (hcF.get 2 1 rfl rfl),SqL.of (hcF.get 2 2 rfl rfl),sC (hc1.get 0 1 rfl rfl) nx,sC (hc1.get 0 2 rfl rfl) nx,λp1 p2 H' kp hc'=>⟨rfl,?_⟩⟩
   exact q ⟨x,dx,p1,p2,0,.sink,W.wy z,W.lv z,[],0,[]⟩ H' (mk s1 nx ndx kp) (((hc'.pick 1 rfl).tl.pick 1 rfl).tl) ⟨⟨_,hst,by rw[Ef]⟩,rfl,rfl,rfl,rfl,⟨W.wy_nd z,by show(W.wy z).length<=100;omega,λe=>(by cases e),λn e=>by cases e⟩⟩
end
end Oc
namespace Oc
open PySem L2
structure SmD(Pd:Addr)(H H':Hp):Prop where
 keep:∀b u,H b=some u->((∀ps,u≠HO.tbl ps)\/b≠Pd)->H' b=some u
 tabs:∀b ps,H b=some (.tbl ps)->∃ps',H' b=some (.tbl ps')
section
variable{Pd:Addr}{H H' H'':Hp}{b:Addr}{xs:List V}
theorem SmD.of(s:Same H H'):SmD Pd H H':=⟨λb u e _=>s b u e,λb ps e=>⟨ps,s _ _ e⟩⟩
theorem SmD.trans(a:SmD Pd H H')(b:SmD Pd H' H''):SmD Pd H H'':=⟨λc u e n=>b.keep c u (a.keep c u e n) n,λc ps e=>let ⟨ps',e'⟩:=a.tabs c ps e;b.tabs c ps' e'⟩
theorem SmD.tup(s:SmD Pd H H')(e:H b=some (.tup xs)):H' b=some (.tup xs):=s.keep _ _ e (.inl λ_ z=>nomatch z)
theorem SmD.lst(s:SmD Pd H H')(e:H b=some (.lst xs)):H' b=some (.lst xs):=s.keep _ _ e (.inl λ_ z=>nomatch z)
theorem SmD.upd{p:Addr}{o:HO}(s:SmD Pd H H')(n:H p=none):SmD Pd H (upd H' p o) :=
 ⟨λb u e h=>by rw[sD (sC e n)];exact s.keep b u e h,λb ps e=>by rw[sD (sC e n)];exact s.tabs b ps e⟩
theorem SmD.sm(s:SmD Pd H H'):Sm H H':=⟨λb u e n=>s.keep b u e (.inl n),s.tabs⟩
theorem SmD.free(s:SmD Pd H H')(n:H' b=none):H b=none:=s.sm.free n
end
theorem BL{K:PySem.W.Frag}{P l:Addr}{q:Str}{ln cl:Nat}{i:Int}{Q:VK}{xs:List V}{kz:List Int}{H1:Hp}(hl:SqL K H1 l xs)(h64:xs.length<64)(hlen:kz.length=xs.length)
  (hk:∀(j:Nat) x k,xs[j]?=some x->kz[j]?=some k->∃t ys,x=.ref t/\SqT K H1 t ys/\atI ys i=some (.int k)) (hT:LamT P q ln cl H1)
  (fin:∀H6 D out,SmD P H1 H6->LamT P q ln cl H6->H1 D=none->H6 D=some (.lst out)->StabV kz xs out->Q (.ref D) H6):rSrt K P q ln cl i Q (.ref l) H1:=by
 refine⟨l,xs,kz,rfl,hl,h64,hlen,hk,?_⟩
 rcases hT with hP|⟨c',hP,hc'⟩
 ·refine .inl ⟨hP,λc' D out nc ne nD st=>fin _ D out ?_ ?_ nD ss st⟩
  ·have ncP:P≠c':=sC hP nc
   have nDP:P≠D:=sC hP nD
   refine⟨λb u e h=>?_,λb ps e=>?_⟩
   ·have nb:b≠P:=h.elim (λh=>tR e hP (h _)) id
    rw[sD (sC e nD),sD (sC e nc),sD nb];exact e
   ·by_cases hb:b=P
    ·subst hb;exact⟨_,by rw[sD nDP,sD ncP,ss]⟩
    ·exact⟨ps,by rw[sD (sC e nD),sD (sC e nc),sD hb];exact e⟩
  ·exact .inr ⟨c',by rw[sD (sC hP nD),sD (sC hP nc),ss],by rw[sD ne,ss]⟩
 ·refine .inr ⟨c',hP,hc',λD out nD st=>fin _ D out (SmD.of (Same.new nD)) ?_ nD ss st⟩
  exact LamT.same (.inr ⟨c',hP,hc'⟩) (Same.new nD)
end Oc
namespace Oc
open PySem L2
theorem IsTri.sm{Pd:Addr}{H H':Hp}(s:SmD Pd H H'){x:V}{t:Tri}(h:IsTri H x t):IsTri H' x t:=let ⟨p,e,q⟩:=h;⟨p,e,s.tup q⟩
theorem IsSta.sm{Pd:Addr}{H H':Hp}(s:SmD Pd H H'){x:V}{t:Sta}(h:IsSta H x t):IsSta H' x t:=let ⟨p,e,q⟩:=h;⟨p,e,s.tup q⟩
theorem WkAt.sm{Pd:Addr}{H H':Hp}{w:Addr}{W:Wk}(e:SmD Pd H H')(h:WkAt H w W):WkAt H' w W:=by
 obtain⟨s,b,f,xs,ys,zs,h1,h2⟩:=h.ex
 exact⟨s,b,f,xs,ys,zs,e.tup h1,e.lst h2.hs,e.lst h2.hb,e.lst h2.hf,sw (λ_ _=>IsSta.sm e) h2.ps,sw (λ_ _=>IsTri.sm e) h2.pb,sw (λ_ _=>IsTri.sm e) h2.pf⟩
inductive IsPr(H:Hp)(x:V)(t:Int×Int):Prop where
 | mk (p:_) (h_0:x=.ref p) (h_1:H p=some (.tup [.int t.1,.int t.2])):IsPr H x t
def prD(t:Int×Int):PyData:=.tuple [.int t.1,.int t.2]
theorem IsPr.same{H H':Hp}(s:Same H H'){x:V}{t:Int×Int}(h:IsPr H x t):IsPr H' x t:=let ⟨p,e,q⟩:=h;⟨p,e,s _ _ q⟩
theorem IsPr.keep{H:Hp}{a:Addr}{xs ys:List V}(e:H a=some (.lst xs)){x:V}{t:Int×Int}(h:IsPr H x t):IsPr (upd H a (.lst ys)) x t:=by
 obtain⟨p,rfl,q⟩:=h
 exact⟨p,rfl,by rw[sD (tR q e (by intro z;cases z))];exact q⟩
theorem IsPr.dt{K:PySem.W.Frag}{H:Hp}{x:V}{t:Int×Int}(h:IsPr H x t):Dt K H 1 x (prD t):=by
 obtain⟨p,rfl,e⟩:=h
 exact .tup (SqT.of e) (.cons (.int _ _) (.cons (.int _ _) (.nil _)))
theorem E9{K:PySem.W.Frag}{H:Hp}{p:Addr}{rs:List V}{ts:List (Int×Int)}(h:H p=some (.lst rs))(r:Paired (IsPr H) rs ts):Dt K H 2 (.ref p) (.list (ts.map prD)) :=
 .lst (SqL.of h) (DtAll.of (f:=prD) (P:=IsPr H) (λ_ _ h=>h.dt) r)
def Wk.drs(W:Wk)(s:Int):List Tri:=(List.range 51).flatMap λ(t:Nat)=>W.fe.filter λf=>f.1==s&&f.2.1==(t:Int)
def prOf(t:Tri):Int×Int:=(t.2.1,t.2.2)
def Wk.dr(W:Wk)(s:Int):List (Int×Int):=(W.drs s).map prOf
abbrev dq:Str:="door.<locals>.<lambda>"
abbrev DoorT(P:Addr)(H:Hp):Prop:=LamT P dq 12 61 H
inductive spDoor(Pd:Addr)(vs:List V)(H:Hp)(Q:VK)(x_3:XK):Prop where
 | mk (w:Addr) (W:Wk) (s:Int) (h_0:vs=[.ref w,.int s]) (h_1:WkAt H w W) (h_2:W.Ok) (h_3:DoorT Pd H) (h_4:∀(p:Addr)(rs:List V)(H':Hp),H p=none->H' p=some (.lst rs)->Paired (IsPr H') rs (W.dr s)->SmD Pd H H'->DoorT Pd H'->rs.length<=60->Q (.ref p) H'):spDoor Pd vs H Q x_3
theorem Fy{W:Wk}(ok:W.Ok){s:Int}{is:List Nat}(hp:is.Perm (List.range (W.fe.filter λf=>f.1==s).length))
  (hw:is.Pairwise (λi j=>((W.fe.filter λf=>f.1==s).map λ(f:Tri)=>f.2.1).getD i 0<((W.fe.filter λf=>f.1==s).map λ(f:Tri)=>f.2.1).getD j 0\/(((W.fe.filter λf=>f.1==s).map λ(f:Tri)=>f.2.1).getD i 0=((W.fe.filter λf=>f.1==s).map λ(f:Tri)=>f.2.1).getD j 0/\i<j))) :
  is.map (λi=>(W.fe.filter λf=>f.1==s).getD i (0,0,0))=W.drs s:=by
 rw[zf (0,0,0) (λ(f:Tri)=>f.2.1) (m:=51) (λx hx=>?_) hp hw]
 ·unfold Wk.drs
  congr 1
  funext t
  rw[List.filter_filter]
  refine List.filter_congr λx _=>?_
  rw[Bool.and_comm]
 ·obtain⟨h1,h2,h3,h4,_⟩:=ok.fee x (yG.mp hx).1
  exact⟨h3,by omega⟩
section
variable{P:Program}{w:World}{K:PySem.W.Frag}{mg:Str->Option Value}{base:Heap}
theorem mG:FnScope ["works","station","feeds"] ["works","station"] (defScope (top 4)):=⟨rfl,rfl,rfl,by decide +kernel,rfl,by decide +kernel,by decide +kernel⟩
theorem pi{f c Pd:Addr}{fd:FuncData}(F:Fun K "door" "door" (top 4) f fd)(hc:fd.code=.ref c)(tb:Tab K mg base c Pd)(T:Txt K mg):FnOk P w K mg base CX0 1 f fd ["works","station"] (spDoor Pd):=by
 have nd:=mG.nd
 refine F.okC hc mG (λvs H Q E h=>?_) (λA outer s H vs Q E hr h=>?_)
 ·obtain⟨w,W,z,rfl,_⟩:=h
  rfl
 ·obtain⟨w,W,z,rfl,hw,ok,hT,q⟩:=h
  obtain⟨sa,ba,fa,xs,ys,zs,h1,h2⟩:=hw.ex
  have lf:=h2.pf.length
  have f60:=ok.f60
  refine⟨_,(@sq _ _ _ _ _ (ue (i:=2) nd rfl (Or.inl rfl) rfl (own:=["feed"]) (fr:=["station"]) (js:=[1]) (by and_intros) (sY (K:=K) rfl (@sE _ _ _ _ _ _ _ (sA (K:=K) rfl) (pv 0) sg (λ_ _=>rfl))) (λ_ _ _ _=>(sH (i:=0) (show List.Nodup (["feed","station"]:List Str)from by decide +kernel) rfl (by nofun))) (λ_ _ _ _=>(uj (sJ tN (@sE _ _ _ _ _ _ _ (sA (K:=K) rfl) (pv 0) sg (λ_ _=>rfl)) (pv 1) (sP _)))) (λ_ _ _ _=>(pv 0)))
   (@sy _ _ _ (@sN _ _ _ _ (tE (own:=["feed"]) (fr:=[]) (js:=[]) (by and_intros) (sY (K:=K) rfl (Fr hr (by rfl) T.n_sorted xt rfl (by rfl) tb.hd tb.bl (pv 2) (by decide) (λ_ _ _ _=>rfl) (by rfl) (by rfl))) (λ_ _ _ _=>(sH (i:=0) (show List.Nodup (["feed"]:List Str)from by decide +kernel) rfl (by nofun))) (λ_ _ _ _=>tq) (λ_ _ _ _=>(@tj _ _ _ _ _ (@sf _ _ _ _ _ (@sE _ _ _ _ _ _ _ (sA (K:=K) rfl) (pv 0) sg (λ_ _=>rfl)) (@sf _ _ _ _ _ (@sE _ _ _ _ _ _ _ (sA (K:=K) rfl) (pv 0) sg (λ_ _=>rfl)) sh (by rfl)) (by rfl)))))))),?_⟩
  refine⟨_,rfl,⟨_,_,_,_,rfl,rfl,SqT.of h1,(su (j:=2) rfl),fa,rfl,⟨_,SqL.of h2.hf⟩,λD nD=>?_⟩⟩
  refine s0 (a:=fa) (xs:=zs) (λi H5=>Same H H5/\∃xs':List V,H5 D=some (.lst xs')/\Paired (IsTri H5) xs' ((W.fe.take i).filter λf=>f.1==z)) ⟨Same.new nD,[],ss,.nil⟩ (λi H5 _ p=>SqL.of (p.1 _ _ h2.hf)) ?_ ?_
  ·rintro i x H5 m Wf hx ⟨s5,xs',h5,p5⟩ nx
   obtain⟨t,ht,hp0⟩:=h2.pf.gt hx
   obtain⟨a0,rfl,ha⟩:=hp0
   have hi:=(zD.mp ht).1
   refine⟨_,rfl,⟨_,_,_,_,rfl,rfl,SqT.of (s5 _ _ ha),(su (j:=0) rfl),_,rfl,rfl,_,rfl,?_⟩⟩
   have et:decide (V.int t.1=V.int z)=(t.1==z):=tS
   have l5:=p5.length
   have l6:((W.fe.take i).filter λf=>f.1==z).length<=60:=z0 (y8 _ _) (by rw[zY];omega)
   have ef:(W.fe.take (i+1)).filter (λf=>f.1==z)=(W.fe.take i).filter (λf=>f.1==z)++(if (t.1==z)=true then [t]else []):=by
    rw[yV,ht,yJ]
    congr 1
    show List.filter _ [t]=_
    rw[List.filter_cons,yN]
   refine iteB (λhb=>?_) (λhb=>?_)
   ·rw[et]at hb
    refine⟨_,rfl,_,h5,sG (by omega),nx _ ⟨s5.upd nD,xs'++[.ref a0],ss,?_⟩⟩
    rw[ef,hb,if_pos rfl]
    exact sW (sw (λ_ _ h=>h.keep h5) p5) (.cons (IsTri.keep h5 ⟨a0,rfl,s5 _ _ ha⟩) .nil)
   ·rw[et]at hb
    refine nx _ ⟨s5,xs',h5,?_⟩
    rw[ef,hb,if_neg zQ,zP]
    exact p5
  ·rintro H5 ⟨s5,xs',h5,p5⟩
   rw[lf,yB]at p5
   have l5:=p5.length
   have l6:(W.fe.filter λf=>f.1==z).length<=60:=z0 (y8 _ _) f60
   refine⟨_,rfl,?_⟩
   refine BL (kz:=(W.fe.filter λf=>f.1==z).map λ(f:Tri)=>f.2.1) (SqL.of h5) (by omega) (by rw[zC];omega) (λj x k hj hk=>?_) (hT.same s5) (λH6 D2 out s6 hT6 nD2 h6 st=>?_)
   ·obtain⟨t,ht,a0,rfl,ha⟩:=p5.gt hj
    rw[zF,ht]at hk
    cases hk
    exact⟨a0,_,rfl,SqT.of ha,su (j:=1) rfl⟩
   ·obtain⟨is,i1,rfl,i3⟩:=st
    have i1':=i1
    rw[l5]at i1'
    have p6:Paired (IsTri H6) (is.map λi=>xs'.getD i .non) (W.drs z):=by
     rw[←Fy ok i1' i3]
     exact sw (λ_ _=>IsTri.sm s6) (wg (0,0,0) p5 is λi hi=>yO.mp (i1.mem_iff.mp hi))
    have lo:(is.map λi=>xs'.getD i V.non).length<=60:=by rw[zC,i1.length_eq,yC];omega
    have hD2:H D2=none:=s5.free nD2
    have sH6:SmD Pd H H6:=(SmD.of s5).trans s6
    generalize (is.map λi=>xs'.getD i V.non)=out at h6 p6 lo
    have l7:=p6.length
    refine⟨D2,rfl,⟨_,SqL.of h6⟩,λD3 nD3=>?_⟩
    refine s0 (a:=D2) (xs:=out) (λi H7=>Same H6 H7/\∃rs:List V,H7 D3=some (.lst rs)/\Paired (IsPr H7) rs (((W.drs z).take i).map prOf)) ⟨Same.new nD3,[],ss,.nil⟩ (λi H7 _ p=>SqL.of (p.1 _ _ h6)) ?_ ?_
    ·rintro i x H7 m Wf hx ⟨s7,rs,h7,p7⟩ nx
     obtain⟨t,ht,hp0⟩:=p6.gt hx
     obtain⟨a0,rfl,ha⟩:=hp0
     have hi:=(zD.mp ht).1
     have l8:=p7.length
     rw[zC,zY]at l8
     refine⟨_,rfl,⟨_,_,_,_,rfl,rfl,SqT.of (s7 _ _ ha),(su (j:=1) rfl),_,rfl,⟨_,_,_,_,rfl,rfl,SqT.of (s7 _ _ ha),(su (j:=2) rfl),?_⟩⟩⟩
     refine⟨(by show 2<=sizeLine;decide),λp np=>?_⟩
     have s8:Same H7 (upd H7 p (.tup [.int t.2.1,.int t.2.2])):=Same.new np
     refine⟨_,s8 _ _ h7,sG (by omega),nx _ ⟨(s7.trans s8).upd nD3,rs++[.ref p],ss,?_⟩⟩
     rw[yV,ht,zK]
     exact sW (sw (λ_ _ h=>(IsPr.same s8 h).keep (s8 _ _ h7)) p7) (.cons (IsPr.keep (s8 _ _ h7) ⟨p,rfl,ss⟩) .nil)
    ·rintro H7 ⟨s7,rs,h7,p7⟩
     rw[l7,yB]at p7
     exact q D3 rs H7 (sH6.free nD3) h7 p7 (sH6.trans (SmD.of s7)) (hT6.same s7) (by have:=p7.length;rw[zC]at this;omega)
end
end Oc
namespace Oc
open PySem L2
def NoT(Ms:List (List Cell)):Prop:=∀c∈Ms.flatten,∀ps,c.2≠HO.tbl ps
theorem NoT.cons{c:List Cell}{Ms:List (List Cell)}(h:∀x∈c,∀ps,x.2≠HO.tbl ps)(n:NoT Ms):NoT (c::Ms):=λx hx=>by
 rcases yA.mp (show x∈c++Ms.flatten from hx)with q|q
 ·exact h x q
 ·exact n x q
theorem NoT.one{a:Addr}{o:HO}{Ms:List (List Cell)}(h:∀ps,o≠HO.tbl ps)(n:NoT Ms):NoT ([(a,o)]::Ms):=n.cons λx hx=>by rw[zG.mp hx];exact h
theorem NoT.lst{a:Addr}{xs:List V}{Ms:List (List Cell)}(n:NoT Ms):NoT ([(a,.lst xs)]::Ms):=n.one λ_ z=>nomatch z
theorem vV{as:List Addr}{vs:List (List V)}:∀x∈rowsC as (vs.map HO.lst),∀ps,x.2≠HO.tbl ps:=λx hx ps=>by
 obtain⟨i,hi⟩:=yL hx
 have h2:=(jJ hx).2
 obtain⟨v,_,e⟩:=yI.mp h2
 rw[←e]
 exact λz=>nomatch z
theorem _root_.L2.Hc.sm{Pd:Addr}{H H':Hp}{Ms:List (List Cell)}(h:Hc H Ms)(n:NoT Ms)(s:SmD Pd H H'):Hc H' Ms:=⟨h.1,λp hp=>s.keep _ _ (h.2 p hp) (.inl (n p hp))⟩
theorem _root_.L2.Hc.newM{Pd:Addr}{H H':Hp}{Ms:List (List Cell)}{p:Addr}{o:HO}(h:Hc H Ms)(n:NoT Ms)(np:H p=none)(e:H' p=some o)(s:SmD Pd H H'):Hc H' ([(p,o)]::Ms):=by
 refine⟨(h.new np o).1,λc hc=>?_⟩
 rcases yA.mp (show c∈[(p,o)]++Ms.flatten from hc)with q|q
 ·rw[zG.mp q];exact e
 ·exact(h.sm n s).2 c q
def Kp(Pd p:Addr)(H H':Hp):Prop:=∀b u,H b=some u->((∀ps,u≠HO.tbl ps)\/b≠Pd)->b≠p->H' b=some u
theorem Kp.sm{Pd p:Addr}{H H':Hp}(s:SmD Pd H H'):Kp Pd p H H':=λb u e n _=>s.keep b u e n
theorem Kp.trans{Pd p:Addr}{H H1 H2:Hp}(a:Kp Pd p H H1)(b:Kp Pd p H1 H2):Kp Pd p H H2:=λc u e n m=>b c u (a c u e n m) n m
theorem Kp.put{Pd p:Addr}{H:Hp}{o:HO}:Kp Pd p H (upd H p o):=λb u e _ m=>by rw[sD m];exact e
theorem Kp.tup{Pd p C dx:Addr}{fs:List (Str×V)}{H H':Hp}(k:Kp Pd p H H')(hp:H p=some (.ins C dx fs)){b:Addr}{xs:List V}(e:H b=some (.tup xs)):H' b=some (.tup xs):=k b _ e (.inl λ_ z=>nomatch z) (tR e hp λz=>nomatch z)
theorem Kp.lst{Pd p C dx:Addr}{fs:List (Str×V)}{H H':Hp}(k:Kp Pd p H H')(hp:H p=some (.ins C dx fs)){b:Addr}{xs:List V}(e:H b=some (.lst xs)):H' b=some (.lst xs):=k b _ e (.inl λ_ z=>nomatch z) (tR e hp λz=>nomatch z)
theorem WkAt.kp{Pd p C dx:Addr}{fs:List (Str×V)}{H H':Hp}(k:Kp Pd p H H')(hp:H p=some (.ins C dx fs)){w:Addr}{W:Wk}(h:WkAt H w W):WkAt H' w W:=by
 obtain⟨s,b,f,xs,ys,zs,h1,h2⟩:=h.ex
 refine⟨s,b,f,xs,ys,zs,k.tup hp h1,k.lst hp h2.hs,k.lst hp h2.hb,k.lst hp h2.hf,sw (λ_ _ h=>?_) h2.ps,sw (λ_ _ h=>?_) h2.pb,sw (λ_ _ h=>?_) h2.pf⟩
 all_goals
  obtain⟨q,e,r⟩:=h
  exact⟨q,e,k.tup hp r⟩
theorem _root_.L2.LamT.updI{P p C dx:Addr}{fs:List (Str×V)}{q:Str}{ln cl:Nat}{H:Hp}{o:HO}(h:LamT P q ln cl H)(e:H p=some (.ins C dx fs)):LamT P q ln cl (upd H p o):=by
 rcases h with h|⟨c',h1,h2⟩
 ·exact .inl (by rw[sD (tR h e λz=>nomatch z)];exact h)
 ·exact .inr ⟨c',by rw[sD (tR h1 e λz=>nomatch z)];exact h1,by rw[sD (tR h2 e λz=>nomatch z)];exact h2⟩
def Wk.de(W:Wk)(s:Int):List Tri:=(W.dr s).map λp=>(p.1,-1,p.2)
theorem Wk.drs_mem{W:Wk}{s:Int}{t:Tri}(h:t∈W.drs s):t∈W.fe/\t.1=s:=by
 unfold Wk.drs at h
 obtain⟨i,_,hi⟩:=jR.mp h
 obtain⟨h1,h2⟩:=yG.mp hi
 rw[qZ]at h2
 exact⟨h1,by simpa using h2.1⟩
inductive spDE(Pd:Addr)(vs:List V)(H:Hp)(Q:VK)(x_3:XK):Prop where
 | mk (w:Addr) (W:Wk) (s:Int) (h_0:vs=[.ref w,.int s]) (h_1:WkAt H w W) (h_2:W.Ok) (h_3:DoorT Pd H) (h_4:∀(p:Addr)(rs:List V)(H':Hp),H p=none->H' p=some (.lst rs)->Paired (IsTri H') rs (W.de s)->SmD Pd H H'->DoorT Pd H'->rs.length<=60->Q (.ref p) H'):spDE Pd vs H Q x_3
section
variable{P:Program}{w:World}{K:PySem.W.Frag}{mg:Str->Option Value}{base:Heap}
theorem EH:FnScope ["works","station"] ["works","station"] (defScope (top 5)):=⟨rfl,rfl,rfl,by decide +kernel,rfl,by decide +kernel,by decide +kernel⟩
theorem Gi{f Pd:Addr}{fd:FuncData}{tkD:Tok}(F:Fun K "door_events" "door_events" (top 5) f fd)(g_DOOR:mg "DOOR"=some (.int (-1) tkD))(me:FnAt P w K mg base 1 "door" ["works","station"] (spDoor Pd)):FnOk P w K mg base CX0 2 f fd ["works","station"] (spDE Pd):=by
 have nd:=EH.nd
 refine F.ok EH (λvs H Q E h=>?_) (λcdv A outer s H vs Q E hr h=>?_)
 ·obtain⟨w,W,z,rfl,_⟩:=h
  rfl
 ·obtain⟨w,W,z,rfl,hw,ok,hT,q⟩:=h
  refine⟨_,(@sy _ _ _ (@sN _ _ _ _ (tE (own:=["fed"]) (fr:=[]) (js:=[]) (by and_intros) (sY (K:=K) rfl (sU me (hr.mono (by decide)) (by rfl) (@sf _ _ _ _ _ (pv 0) (@sf _ _ _ _ _ (pv 1) sh (by rfl)) (by rfl)))) (λ_ _ _ _=>(sH (i:=0) (show List.Nodup (["fed"]:List Str)from by decide +kernel) rfl (by nofun))) (λ_ _ _ _=>tq) (λ_ _ _ _=>(@tj _ _ _ _ _ (@sf _ _ _ _ _ (@sE _ _ _ _ _ _ _ (sA (K:=K) rfl) (pv 0) sg (λ_ _=>rfl)) (@sf _ _ _ _ _ (vQ (v:=.int (-1)) (by rfl) (by exact g_DOOR) ⟨_,rfl⟩) (@sf _ _ _ _ _ (@sE _ _ _ _ _ _ _ (sA (K:=K) rfl) (pv 0) sg (λ_ _=>rfl)) sh (by rfl)) (by rfl)) (by rfl))))))),?_⟩
  refine⟨_,rfl,_,rfl,w,W,z,rfl,hw,ok,hT,λp rs H1 np hp pr sm hT1 l60=>⟨p,rfl,⟨_,SqL.of hp⟩,λD nD=>?_⟩⟩
  have l1:=pr.length
  refine s0 (a:=p) (xs:=rs) (λi H5=>Same H1 H5/\∃xs':List V,H5 D=some (.lst xs')/\Paired (IsTri H5) xs' (((W.dr z).take i).map λp=>(p.1,-1,p.2))) ⟨Same.new nD,[],ss,.nil⟩ (λi H5 _ p=>SqL.of (p.1 _ _ hp)) ?_ ?_
  ·rintro i x H5 m Wf hx ⟨s5,xs',h5,p5⟩ nx
   obtain⟨t,ht,a0,rfl,ha⟩:=pr.gt hx
   have hi:=(zD.mp hx).1
   have l5:=p5.length
   rw[zC,zY]at l5
   refine⟨_,rfl,⟨_,_,_,_,rfl,rfl,SqT.of (s5 _ _ ha),(su (j:=0) rfl),_,rfl,⟨_,_,_,_,rfl,rfl,SqT.of (s5 _ _ ha),(su (j:=1) rfl),(by show 3<=sizeLine;decide),λpt np=>?_⟩⟩⟩
   have s6:Same H5 (upd H5 pt (.tup [.int t.1,.int (-1),.int t.2])):=Same.new np
   refine⟨_,s6 _ _ h5,sG (by omega),nx _ ⟨(s5.trans s6).upd nD,xs'++[.ref pt],ss,?_⟩⟩
   rw[uh ht,zK]
   exact sW (sw (λ_ _ h=>(IsTri.same s6 h).keep (s6 _ _ h5)) p5) (.cons (IsTri.keep (s6 _ _ h5) ⟨pt,rfl,ss⟩) .nil)
  ·rintro H5 ⟨s5,xs',h5,p5⟩
   rw[l1,yB]at p5
   have l5:=p5.length
   rw[zC,←l1]at l5
   exact q D xs' H5 (sm.free nD) h5 p5 (sm.trans (SmD.of s5)) (hT1.same s5) (by omega)
end
end Oc
namespace Oc
open PySem L2
structure OR where
 x:Addr
 dx:Addr
 sl:Addr
 dl:Addr
 ol:Addr
 rl:Addr
 pl:Addr
 gl:Addr
 srs:List SR
 dels:List Int
 da:List Addr
 ra:List Addr
 ga:List Addr
 dv:List (List V)
 rv:List (List V)
 gv:List (List V)
 pr:List (Option Int)
def pV:Option Int->V
 | none=>.non
 | some n=>.int n
def oFs(sl dl ol rl pl gl:Addr):List (Str×V):=putF "logs" (.ref gl) (putF "promises" (.ref pl) (putF "rows" (.ref rl) (putF "doors" (.ref ol) (putF "delays" (.ref dl) (putF "stations" (.ref sl) [])))))
def OR.flds(o:OR):List (Str×V):=oFs o.sl o.dl o.ol o.rl o.pl o.gl
def srefs(srs:List SR):List V:=srs.map λr=>V.ref r.x
def Wk.dels(W:Wk):List Int:=W.be.map λt=>t.2.2
def Wk.prs(W:Wk):List (Option Int):=W.be.map λt=>some t.2.2
def hdC(C:Addr)(o:OR):List Cell:=[(o.x,.ins C o.dx o.flds),(o.sl,.lst (srefs o.srs)),(o.dl,.lst (o.dels.map V.int)),(o.ol,.lst (o.da.map V.ref)),(o.rl,.lst (o.ra.map V.ref)),(o.pl,.lst (o.pr.map pV)),(o.gl,.lst (o.ga.map V.ref))]
def liC(as:List Addr)(vs:List (List V)):List Cell:=rowsC as (vs.map HO.lst)
def stC(cs:Cs)(srs:List SR):List Cell:=srs.flatMap (srC cs)
def ownCs(cs:Cs)(C:Addr)(o:OR):List (List Cell):=[hdC C o,liC o.da o.dv,liC o.ra o.rv,liC o.ga o.gv,stC cs o.srs]
theorem t6{x y:Str}{v:V}{fs:List (Str×V)}(h:¬y=x):(putF x v fs).lookup y=fs.lookup y:=by rw[sI,if_neg h]
section
variable{sl dl ol rl pl gl:Addr}
theorem Dl:(oFs sl dl ol rl pl gl).lookup ("logs":Str)=some (.ref gl):=by unfold oFs;rw[sI,if_pos rfl]
theorem wO:(oFs sl dl ol rl pl gl).lookup ("promises":Str)=some (.ref pl):=by unfold oFs;rw[t6 (by decide +kernel),sI,if_pos rfl]
theorem Ah:(oFs sl dl ol rl pl gl).lookup ("rows":Str)=some (.ref rl):=by unfold oFs;rw[t6 (by decide +kernel),t6 (by decide +kernel),sI,if_pos rfl]
theorem pC:(oFs sl dl ol rl pl gl).lookup ("doors":Str)=some (.ref ol):=by unfold oFs;rw[t6 (by decide +kernel),t6 (by decide +kernel),t6 (by decide +kernel),sI,if_pos rfl]
theorem Ce:(oFs sl dl ol rl pl gl).lookup ("delays":Str)=some (.ref dl):=by unfold oFs;rw[t6 (by decide +kernel),t6 (by decide +kernel),t6 (by decide +kernel),t6 (by decide +kernel),sI,if_pos rfl]
theorem wT:(oFs sl dl ol rl pl gl).lookup ("stations":Str)=some (.ref sl):=by unfold oFs;rw[t6 (by decide +kernel),t6 (by decide +kernel),t6 (by decide +kernel),t6 (by decide +kernel),t6 (by decide +kernel),sI,if_pos rfl]
theorem F0{x:Str}(h1:¬x="logs")(h2:¬x="promises")(h3:¬x="rows")(h4:¬x="doors")(h5:¬x="delays")(h6:¬x="stations"):(oFs sl dl ol rl pl gl).lookup x=none:=by
 unfold oFs;rw[t6 h1,t6 h2,t6 h3,t6 h4,t6 h5,t6 h6];rfl
end
theorem f_m{sl dl ol rl pl gl:Addr}{x:Str}(h:¬x="logs"/\¬x="promises"/\¬x="rows"/\¬x="doors"/\¬x="delays"/\¬x="stations"):(oFs sl dl ol rl pl gl).lookup x=none:=F0 h.1 h.2.1 h.2.2.1 h.2.2.2.1 h.2.2.2.2.1 h.2.2.2.2.2
structure OwC(K:PySem.W.Frag)(C:Addr):Prop where
 cl:Cls K C
 n1:NoAttr K C "stations"
 n2:NoAttr K C "delays"
 n3:NoAttr K C "doors"
 n4:NoAttr K C "rows"
 n5:NoAttr K C "promises"
 n6:NoAttr K C "logs"
structure Evs(H:Hp)(o:OR)(de re ge:List (List Tri)):Prop where
 d:Paired (λus ts=>Paired (IsTri H) us ts) o.dv de
 r:Paired (λus ts=>Paired (IsTri H) us ts) o.rv re
 g:Paired (λus ts=>Paired (IsTri H) us ts) o.gv ge
structure OOk(o:OR):Prop where
 ld:o.da.length=o.srs.length
 ldv:o.dv.length=o.srs.length
 lr:o.ra.length=o.dels.length
 lrv:o.rv.length=o.dels.length
 lp:o.pr.length=o.dels.length
 lg:o.ga.length=o.srs.length
 lgv:o.gv.length=o.srs.length
 s8:o.srs.length<=8
 b12:o.dels.length<=12
 ways:∀r∈o.srs,∀w∈r.ws,w=-1\/(0<=w/\w<o.dels.length)
 belts:∀r∈o.srs,∀b∈r.bs,0<=b/\b<o.dels.length
structure ONew(W:Wk)(o:OR):Prop where
 ok:OOk o
 srs:∀j r,o.srs[j]?=some r->Made W j r
 ns:o.srs.length=W.st.length
 dels:o.dels=W.dels
 pr:o.pr=W.prs
def Wk.des(W:Wk):List (List Tri):=(List.range W.st.length).map λ(s:Nat)=>W.de (s:Int)
inductive spOwI(K:PySem.W.Frag)(cs:Cs)(C Pd:Addr)(vs:List V)(H:Hp)(Q:VK)(x_3:XK):Prop where
 | mk (p w dx:Addr) (W:Wk) (M:List (List Cell)) (h_0:vs=[.ref p,.ref w]) (h_1:Hc H ([(p,.ins C dx [])]::M)) (h_2:NoT M) (h_3:WkAt H w W) (h_4:W.Ok) (h_5:DoorT Pd H) (h_6:∀(o:OR)(H':Hp),o.x=p->Hc H' (ownCs cs C o++M)->Kp Pd p H H'->DoorT Pd H'->ONew W o->Evs H' o W.des (W.be.map λ_=>[]) (W.st.map λ_=>[])->Q .non H'):spOwI K cs C Pd vs H Q x_3
theorem wQ{α:Type}(f:α->Bool):∀(l:List α)(k:Nat)(x:Int),x∈idx f k l->x<(k+l.length:Nat)
 | [],_,_,h=>absurd h zI
 | y::l,k,x,h=>by
  unfold idx at h
  have e:(y::l).length=l.length+1:=rfl
  by_cases hf:f y=true
  ·rw[if_pos hf]at h
   rcases zR.mp h with e|e
   ·omega
   ·have:=wQ f l (k+1) x e
    omega
  ·rw[if_neg hf]at h
   have:=wQ f l (k+1) x h
   omega
theorem Wk.wy_in{W:Wk}{s w:Int}(h:w∈W.wy s):w=-1\/(0<=w/\w<W.be.length):=by
 unfold Wk.wy at h
 rcases yA.mp h with q|q
 ·split at q
  ·exact .inl (zG.mp q)
  ·exact absurd q zI
 ·have a:=v0 _ _ _ _ q
  have b:=wQ _ _ _ _ q
  exact .inr ⟨by omega,by omega⟩
theorem Wk.lv_in{W:Wk}{s w:Int}(h:w∈W.lv s):0<=w/\w<W.be.length:=by
 unfold Wk.lv at h
 have a:=v0 _ _ _ _ h
 have b:=wQ _ _ _ _ h
 exact⟨by omega,by omega⟩
theorem FO(cs:Cs)(r:SR):∀x∈srC cs r,∀ps,x.2≠HO.tbl ps:=λx hx ps=>by
 rcases zR.mp hx with q|hx
 ·rw[q];exact λz=>nomatch z
 rcases zR.mp hx with q|hx
 ·rw[q];exact λz=>nomatch z
 rcases zR.mp hx with q|hx
 ·rw[q];exact λz=>nomatch z
 unfold SR.more at hx
 split at hx
 ·rcases zR.mp hx with q|hx
  ·rw[q];exact λz=>nomatch z
  ·have h2:=(jJ hx).2
   obtain⟨v,_,e⟩:=yI.mp h2
   rw[←e]
   exact λz=>nomatch z
 ·exact absurd hx zI
theorem B8(cs:Cs)(srs:List SR):∀x∈stC cs srs,∀ps,x.2≠HO.tbl ps:=λx hx=>by
 obtain⟨r,_,h⟩:=jR.mp hx
 exact FO cs r x h
theorem BO(cs:Cs)(srs:List SR)(r:SR):stC cs (srs++[r])=stC cs srs++srC cs r:=by
 unfold stC
 rw[qH]
 simp
theorem Ab{ls:List Addr}{os:List HO}(h:ls.length=os.length)(l:Addr)(o:HO):rowsC (ls++[l]) (os++[o])=rowsC ls os++[(l,o)]:=by
 unfold rowsC
 rw[kK h]
 rfl
theorem uo{ls:List Addr}{vs:List (List V)}(h:ls.length=vs.length)(l:Addr)(v:List V):liC (ls++[l]) (vs++[v])=liC ls vs++[(l,.lst v)]:=by
 unfold liC
 rw[zK]
 exact Ab (by rw[zC];exact h) _ _
end Oc
namespace Oc
open PySem L2
theorem wj{α:Type}{Pr:Nat->α->Prop}{l:List α}{x:α}(h:∀j r,l[j]?=some r->Pr j r)(hx:Pr l.length x):∀j r,(l++[x])[j]?=some r->Pr j r:=λj r hr=>by
 by_cases hj:j<l.length
 ·rw[yF hj]at hr
  exact h j r hr
 ·rw[zN (by omega)]at hr
  cases e:j-l.length with
  | zero =>
   rw[e]at hr
   cases hr
   rw[show j=l.length by omega]
   exact hx
  | succ k=>rw[e]at hr;cases hr
theorem vJ{x:Str}{v:V}{fs:List (Str×V)}{n:Nat}(h:fs.length<=n):(putF x v fs).length<=n+1:=z0 (tO x v fs) (by omega)
theorem Af{H:Hp}{a:Addr}{xs ys:List V}(e:H a=some (.lst xs)){dv:List (List V)}{de:List (List Tri)}(h:Paired (λus ts=>Paired (IsTri H) us ts) dv de):Paired (λus ts=>Paired (IsTri (upd H a (.lst ys))) us ts) dv de :=
 sw (λ_ _ h=>sw (λ_ _ h=>h.keep e) h) h
theorem B4{Pd:Addr}{H H':Hp}(s:SmD Pd H H'){dv:List (List V)}{de:List (List Tri)}(h:Paired (λus ts=>Paired (IsTri H) us ts) dv de):Paired (λus ts=>Paired (IsTri H') us ts) dv de :=
 sw (λ_ _ h=>sw (λ_ _ h=>h.sm s) h) h
theorem vO{Pd p C dx:Addr}{fs:List (Str×V)}{H H':Hp}(k:Kp Pd p H H')(hp:H p=some (.ins C dx fs)){dv:List (List V)}{de:List (List Tri)}(h:Paired (λus ts=>Paired (IsTri H) us ts) dv de):Paired (λus ts=>Paired (IsTri H') us ts) dv de :=
 sw (λ_ _ h=>sw (λ_ _ h=>let ⟨q,e,r⟩:=h;⟨q,e,k.tup hp r⟩) h) h
theorem uP{α β:Type}{F:List α->List β->Prop}(h:F [] []){γ δ:Type}:∀{l:List γ}{m:List δ},l.length=m.length->Paired F (l.map λ_=>[]) (m.map λ_=>[])
 | [],[],_=>.nil
 | [],_::_,e=>by cases e
 | _::_,[],e=>by cases e
 | x::l,y::m,e=>.cons h (uP h (Nat.succ.inj e))
section
variable{P:Program}{w:World}{K:PySem.W.Frag}{mg:Str->Option Value}{base:Heap}
theorem C6:FnScope ["self","works"] ["self","works"] (defScope (inClass (top 17) 0)):=⟨rfl,rfl,rfl,by decide +kernel,rfl,by decide +kernel,by decide +kernel⟩
theorem Fd{f C Pd:Addr}{cs:Cs}{fd:FuncData}(F:Fun K "__init__" "Own.__init__" (inClass (top 17) 0) f fd)(T:Txt K mg)(c:OwC K C)(il:FnAt P w K mg base 4 "station_of" ["works","station"] (spSo cs))(aP:FnAt P w K mg base 2 "door_events" ["works","station"] (spDE Pd)) :
  FnOk P w K mg base CX0 5 f fd ["self","works"] (spOwI K cs C Pd):=by
 have nd:=C6.nd
 refine F.ok C6 (λvs H Q E h=>?_) (λcdv A outer s H vs Q E hr h=>?_)
 ·obtain⟨p,w,dx,W,M,rfl,_⟩:=h
  rfl
 ·obtain⟨p,w,dx,W,M,rfl,hc,nT,hw,ok,hT,q⟩:=h
  obtain⟨sa,ba,fa,xs,ys,zs,h1,h2⟩:=id hw.ex
  have ls:=h2.ps.length
  have lb:=h2.pb.length
  have s8:=ok.s8
  have b12:=ok.b12
  have hp:=hc.get 0 0 rfl rfl
  refine⟨_,(@sq _ _ _ _ _ (ug (pv 0) (tE (own:=["station"]) (fr:=["works"]) (js:=[1]) (by and_intros) (s_ rfl T.n_range (@sf _ _ _ _ _ (sR (sM (K:=K) rfl) (by rfl) T.n_len tX (@sf _ _ _ _ _ (@sE _ _ _ _ _ _ _ (sA (K:=K) rfl) (pv 1) sg (λ_ _=>rfl)) sh (by rfl))) sh (by rfl))) (λ_ _ _ _=>(sH (i:=0) (show List.Nodup (["station","works"]:List Str)from by decide +kernel) rfl (by nofun))) (λ_ _ _ _=>tq) (λ_ _ _ _=>(sU il (hr.mono (by decide)) (by rfl) (@sf _ _ _ _ _ (pv 1) (@sf _ _ _ _ _ (pv 0) sh (by rfl)) (by rfl))))) rfl)
   (@sq _ _ _ _ _ (ug (pv 0) (tE (own:=["belt"]) (fr:=[]) (js:=[]) (by and_intros) (sY (K:=K) rfl (@sE _ _ _ _ _ _ _ (sA (K:=K) rfl) (pv 1) sg (λ_ _=>rfl))) (λ_ _ _ _=>(sH (i:=0) (show List.Nodup (["belt"]:List Str)from by decide +kernel) rfl (by nofun))) (λ_ _ _ _=>tq) (λ_ _ _ _=>(@sE _ _ _ _ _ _ _ (sA (K:=K) rfl) (pv 0) sg (λ_ _=>rfl)))) rfl)
   (@sq _ _ _ _ _ (ug (pv 0) (tE (own:=["station"]) (fr:=["works"]) (js:=[1]) (by and_intros) (s_ rfl T.n_range (@sf _ _ _ _ _ (sR (sM (K:=K) rfl) (by rfl) T.n_len tX (@sf _ _ _ _ _ (@sE _ _ _ _ _ _ _ (sA (K:=K) rfl) (pv 1) sg (λ_ _=>rfl)) sh (by rfl))) sh (by rfl))) (λ_ _ _ _=>(sH (i:=0) (show List.Nodup (["station","works"]:List Str)from by decide +kernel) rfl (by nofun))) (λ_ _ _ _=>tq) (λ_ _ _ _=>(sU aP (hr.mono (by decide)) (by rfl) (@sf _ _ _ _ _ (pv 1) (@sf _ _ _ _ _ (pv 0) sh (by rfl)) (by rfl))))) rfl)
   (@sq _ _ _ _ _ (ug (pv 0) (tE (own:=["belt"]) (fr:=[]) (js:=[]) (by and_intros) (sY (K:=K) rfl (@sE _ _ _ _ _ _ _ (sA (K:=K) rfl) (pv 1) sg (λ_ _=>rfl))) (λ_ _ _ _=>(sH (i:=0) (show List.Nodup (["belt"]:List Str)from by decide +kernel) rfl (by nofun))) (λ_ _ _ _=>tq) (λ_ _ _ _=>(@tJ _ _ _ _ sh))) rfl)
   (@sq _ _ _ _ _ (ug (pv 0) (tE (own:=["belt"]) (fr:=[]) (js:=[]) (by and_intros) (sY (K:=K) rfl (@sE _ _ _ _ _ _ _ (sA (K:=K) rfl) (pv 1) sg (λ_ _=>rfl))) (λ_ _ _ _=>(sH (i:=0) (show List.Nodup (["belt"]:List Str)from by decide +kernel) rfl (by nofun))) (λ_ _ _ _=>tq) (λ_ _ _ _=>(@sE _ _ _ _ _ _ _ (sA (K:=K) rfl) (pv 0) sg (λ_ _=>rfl)))) rfl)
   (@sy _ _ _ (ug (pv 0) (tE (own:=["station"]) (fr:=[]) (js:=[]) (by and_intros) (sY (K:=K) rfl (@sE _ _ _ _ _ _ _ (sA (K:=K) rfl) (pv 1) sg (λ_ _=>rfl))) (λ_ _ _ _=>(sH (i:=0) (show List.Nodup (["station"]:List Str)from by decide +kernel) rfl (by nofun))) (λ_ _ _ _=>tq) (λ_ _ _ _=>(@tJ _ _ _ _ sh))) rfl))))))),?_⟩
  refine⟨_,rfl,⟨_,_,_,_,rfl,rfl,SqT.of h1,(su (j:=0) rfl),sa,xs,rfl,.inl (SqL.of h2.hs),_,rfl,by rw[p62];omega,by rw[p62];omega,λD nD=>?_⟩⟩
  refine t9 (lo:=0) (n:=(xs.length:Int).toNat) (λi H4=>∃srs:List SR,Same H H4/\Hc H4 ([(D,.lst (srefs srs))]::stC cs srs::[(p,.ins C dx [])]::M)/\srs.length=i/\∀j r,srs[j]?=some r->Made W j r) ⟨[],Same.new nD,(hc.new nD (.lst [])).pad.swap,rfl,λj r h=>by cases h⟩ ?_ ?_
  ·rintro i H4 m Wf hi ⟨srs,s4,hc4,l4,mk4⟩ nx
   rw[qC]
   refine⟨_,rfl,_,rfl,w,W,i,_,rfl,hw.same s4,ok,by omega,hc4,λr H5 s5 hc5 mk=>?_⟩
   have g5:=hc5.get 1 0 rfl rfl
   refine⟨_,g5,sG (by unfold srefs;rw[zC];omega),nx _ ⟨srs++[r],(s4.trans s5).upd nD,?_,by rw[zM,l4];rfl,wj mk4 (by rw[l4];exact mk)⟩⟩
   have:=hc5.put 1 0 rfl rfl (.lst (srefs srs++[.ref r.x]))
   rw[show srefs (srs++[r])=srefs srs++[.ref r.x]from zK,BO]
   exact(Hc.join (this.pick 2 rfl)).swap
  ·rintro H4 ⟨srs,s4,hc4,l4,mk4⟩
   refine⟨_,rfl,p,C,dx,[],rfl,hc4.get 2 0 rfl rfl,c.cl,c.n1,(by show 0<1000;decide),?_⟩
   have hcA:=hc4.put 2 0 rfl rfl (.ins C dx (putF "stations" (.ref D) []))
   have kA:Kp Pd p H (upd H4 p (.ins C dx (putF "stations" (.ref D) []))):=(Kp.sm (SmD.of s4)).trans Kp.put
   have hTA:DoorT Pd (upd H4 p (.ins C dx (putF "stations" (.ref D) []))):=(hT.same s4).updI (hc4.get 2 0 rfl rfl)
   have hlA:(putF "stations" (.ref D) []).length<=1:=vJ (zH 0)
   generalize hfA:(putF "stations" (.ref D) []:List (Str×V))=fA at hcA kA hTA hlA ⊢
   generalize (upd H4 p (.ins C dx fA))=HA at hcA kA hTA ⊢
   have hpA:=hcA.get 2 0 rfl rfl
   have h1A:=kA.tup hp h1
   have hbA:=kA.lst hp h2.hb
   refine⟨_,rfl,⟨_,_,_,_,rfl,rfl,SqT.of h1A,(su (j:=1) rfl),ba,rfl,⟨_,SqL.of hbA⟩,λD2 nD2=>?_⟩⟩
   refine s0 (a:=ba) (xs:=ys) (λi H5=>Same HA H5/\H5 D2=some (.lst (((W.be.take i).map λt=>t.2.2).map V.int))) ⟨Same.new nD2,ss⟩ (λi H5 _ p=>SqL.of (p.1 _ _ hbA)) ?_ ?_
   ·rintro i x H5 m Wf hx ⟨s5,g5⟩ nx
    obtain⟨t,ht,a0,rfl,ha⟩:=h2.pb.gt hx
    refine⟨_,rfl,⟨_,_,_,_,rfl,rfl,SqT.of (s5 _ _ (kA.tup hp ha)),(su (j:=2) rfl),_,g5,sG (by rw[zC,zC,zY];omega),nx _ ⟨s5.upd nD2,?_⟩⟩⟩
    rw[ss,uh ht,zK,zK]
    rfl
   ·rintro H5 ⟨s5,g5⟩
    rw[lb,yB]at g5
    replace g5:H5 D2=some (.lst (W.dels.map V.int)):=g5
    have hc5:=hcA.newS nD2 g5 s5
    refine⟨_,rfl,p,C,dx,fA,rfl,s5 _ _ hpA,c.cl,c.n2,(by omega),?_⟩
    have hcB:=hc5.put 3 0 rfl rfl (.ins C dx (putF "delays" (.ref D2) fA))
    have kB:Kp Pd p H (upd H5 p (.ins C dx (putF "delays" (.ref D2) fA))):=kA.trans ((Kp.sm (SmD.of s5)).trans Kp.put)
    have hTB:DoorT Pd (upd H5 p (.ins C dx (putF "delays" (.ref D2) fA))):=(hTA.same s5).updI (s5 _ _ hpA)
    have hlB:(putF "delays" (.ref D2) fA).length<=2:=vJ hlA
    generalize hfB:(putF "delays" (.ref D2) fA:List (Str×V))=fB at hcB kB hTB hlB ⊢
    generalize (upd H5 p (.ins C dx fB))=HB at hcB kB hTB ⊢
    have hpB:=hcB.get 3 0 rfl rfl
    have h1B:=kB.tup hp h1
    have nTB:NoT ([(D2,.lst (W.dels.map V.int))]::[(D,.lst (srefs srs))]::stC cs srs::[(p,.ins C dx fB)]::M):=((NoT.one (a:=p) (o:=.ins C dx fB) (λ_ z=>nomatch z) nT).cons (B8 cs srs)).lst.lst
    refine⟨_,rfl,⟨_,_,_,_,rfl,rfl,SqT.of h1B,(su (j:=0) rfl),sa,xs,rfl,.inl (SqL.of (kB.lst hp h2.hs)),_,rfl,by rw[p62];omega,by rw[p62];omega,λD3 nD3=>?_⟩⟩
    refine t9 (lo:=0) (n:=(xs.length:Int).toNat) (λi H6=>∃(da:List Addr)(dv:List (List V)),SmD Pd HB H6/\Hc H6 ([(D3,.lst (da.map V.ref))]::liC da dv::[(D2,.lst (W.dels.map V.int))]::[(D,.lst (srefs srs))]::stC cs srs::[(p,.ins C dx fB)]::M)/\da.length=i/\dv.length=i /\
     Paired (λus ts=>Paired (IsTri H6) us ts) dv ((List.range i).map λ(s:Nat)=>W.de (s:Int))/\DoorT Pd H6) ⟨[],[],SmD.of (Same.new nD3),(hcB.new nD3 (.lst [])).pad.swap,rfl,rfl,.nil,hTB.same (Same.new nD3)⟩ ?_ ?_
    ·rintro i H6 m Wf hi ⟨da,dv,s6,hc6,la,lv,pr,hT6⟩ nx
     rw[qC]
     refine⟨_,rfl,_,rfl,w,W,i,rfl,((hw.kp kB hp).sm s6),ok,hT6,λpn rs H7 npn hpn prn sm7 hT7 l60=>?_⟩
     have nT6:NoT ([(D3,.lst (da.map V.ref))]::liC da dv::[(D2,.lst (W.dels.map V.int))]::[(D,.lst (srefs srs))]::stC cs srs::[(p,.ins C dx fB)]::M):=(nTB.cons vV).lst
     have hc7:=hc6.newM nT6 npn hpn sm7
     have g7:=hc7.get 1 0 rfl rfl
     refine⟨_,g7,sG (by rw[zC];omega),nx _ ⟨da++[pn],dv++[rs],(s6.trans sm7).upd nD3,?_,by rw[zM,la];rfl,by rw[zM,lv];rfl,?_,hT7.updL g7⟩⟩
     ·have:=hc7.put 1 0 rfl rfl (.lst (da.map V.ref++[.ref pn]))
      rw[zK,uo (by omega)]
      exact(Hc.join (this.pick 2 rfl)).swap
     ·rw[yU,zK]
      exact sW (Af g7 (B4 sm7 pr)) (.cons (sw (λ_ _ h=>h.keep g7) prn) .nil)
    ·rintro H6 ⟨da,dv,s6,hc6,la,lv,pr,hT6⟩
     have hp6:=hc6.get 5 0 rfl rfl
     refine⟨_,rfl,p,C,dx,fB,rfl,hp6,c.cl,c.n3,(by omega),?_⟩
     have hcC:=hc6.put 5 0 rfl rfl (.ins C dx (putF "doors" (.ref D3) fB))
     have kC:Kp Pd p H (upd H6 p (.ins C dx (putF "doors" (.ref D3) fB))):=kB.trans ((Kp.sm s6).trans Kp.put)
     have hTC:DoorT Pd (upd H6 p (.ins C dx (putF "doors" (.ref D3) fB))):=hT6.updI hp6
     have hlC:(putF "doors" (.ref D3) fB).length<=3:=vJ hlB
     have prC:=vO (Kp.put (Pd:=Pd) (o:=.ins C dx (putF "doors" (.ref D3) fB))) hp6 pr
     generalize hfC:(putF "doors" (.ref D3) fB:List (Str×V))=fC at hcC kC hTC hlC prC ⊢
     generalize (upd H6 p (.ins C dx fC))=HC at hcC kC hTC prC ⊢
     have hpC:=hcC.get 5 0 rfl rfl
     have hbC:=kC.lst hp h2.hb
     refine⟨_,rfl,⟨_,_,_,_,rfl,rfl,SqT.of (kC.tup hp h1),(su (j:=1) rfl),ba,rfl,⟨_,SqL.of hbC⟩,λD4 nD4=>?_⟩⟩
     refine s0 (a:=ba) (xs:=ys) (λi H7=>∃ra:List Addr,Same HC H7/\Hc H7 ([(D4,.lst (ra.map V.ref))]::liC ra (ra.map λ_=>[])::[(D3,.lst (da.map V.ref))]::liC da dv::[(D2,.lst (W.dels.map V.int))]::[(D,.lst (srefs srs))]::stC cs srs::[(p,.ins C dx fC)]::M)/\ra.length=i)
      ⟨[],Same.new nD4,(hcC.new nD4 (.lst [])).pad.swap,rfl⟩ (λi H7 _ ⟨_,s7,_⟩=>SqL.of (s7 _ _ hbC)) ?_ ?_
     ·rintro i x H7 m Wf hx ⟨ra,s7,hc7,l7⟩ nx
      have hi:=(zD.mp hx).1
      refine⟨zV _,λpn npn=>?_⟩
      have hc8:=hc7.new npn (.lst [])
      have g8:=hc8.get 1 0 rfl rfl
      refine⟨_,g8,sG (by rw[zC];omega),nx _ ⟨ra++[pn],(s7.trans (Same.new npn)).upd nD4,?_,by rw[zM,l7];rfl⟩⟩
      have:=hc8.put 1 0 rfl rfl (.lst (ra.map V.ref++[.ref pn]))
      rw[zK,zK]
      have e:=uo (ls:=ra) (vs:=ra.map λ_=>[]) (by rw[zC]) pn []
      show Hc _ (_::liC (ra++[pn]) ((ra.map λ_=>[])++[[]])::_)
      rw[e]
      exact(Hc.join (this.pick 2 rfl)).swap
     ·rintro H7 ⟨ra,s7,hc7,l7⟩
      have hp7:=s7 _ _ hpC
      refine⟨_,rfl,p,C,dx,fC,rfl,hp7,c.cl,c.n4,(by omega),?_⟩
      have hcD:=hc7.put 7 0 rfl rfl (.ins C dx (putF "rows" (.ref D4) fC))
      have kD:Kp Pd p H (upd H7 p (.ins C dx (putF "rows" (.ref D4) fC))):=kC.trans ((Kp.sm (SmD.of s7)).trans Kp.put)
      have hTD:DoorT Pd (upd H7 p (.ins C dx (putF "rows" (.ref D4) fC))):=(hTC.same s7).updI hp7
      have hlD:(putF "rows" (.ref D4) fC).length<=4:=vJ hlC
      have prD:=vO ((Kp.sm (SmD.of s7)).trans (Kp.put (Pd:=Pd) (o:=.ins C dx (putF "rows" (.ref D4) fC)))) hpC prC
      generalize hfD:(putF "rows" (.ref D4) fC:List (Str×V))=fD at hcD kD hTD hlD prD ⊢
      generalize (upd H7 p (.ins C dx fD))=HD at hcD kD hTD prD ⊢
      have hpD:=hcD.get 7 0 rfl rfl
      have hbD:=kD.lst hp h2.hb
      refine⟨_,rfl,⟨_,_,_,_,rfl,rfl,SqT.of (kD.tup hp h1),(su (j:=1) rfl),ba,rfl,⟨_,SqL.of hbD⟩,λD5 nD5=>?_⟩⟩
      refine s0 (a:=ba) (xs:=ys) (λi H8=>Same HD H8/\H8 D5=some (.lst (((W.be.take i).map λt=>some t.2.2).map pV))) ⟨Same.new nD5,ss⟩ (λi H8 _ p=>SqL.of (p.1 _ _ hbD)) ?_ ?_
      ·rintro i x H8 m Wf hx ⟨s8',g8⟩ nx
       obtain⟨t,ht,a0,rfl,ha⟩:=h2.pb.gt hx
       refine⟨_,rfl,⟨_,_,_,_,rfl,rfl,SqT.of (s8' _ _ (kD.tup hp ha)),(su (j:=2) rfl),_,g8,sG (by rw[zC,zC,zY];omega),nx _ ⟨s8'.upd nD5,?_⟩⟩⟩
       rw[ss,uh ht,zK,zK]
       rfl
      ·rintro H8 ⟨s8',g8⟩
       rw[lb,yB]at g8
       replace g8:H8 D5=some (.lst (W.prs.map pV)):=g8
       have hc8:=hcD.newS nD5 g8 s8'
       have hp8:=s8' _ _ hpD
       refine⟨_,rfl,p,C,dx,fD,rfl,hp8,c.cl,c.n5,(by omega),?_⟩
       have hcE:=hc8.put 8 0 rfl rfl (.ins C dx (putF "promises" (.ref D5) fD))
       have kE:Kp Pd p H (upd H8 p (.ins C dx (putF "promises" (.ref D5) fD))):=kD.trans ((Kp.sm (SmD.of s8')).trans Kp.put)
       have hTE:DoorT Pd (upd H8 p (.ins C dx (putF "promises" (.ref D5) fD))):=(hTD.same s8').updI hp8
       have hlE:(putF "promises" (.ref D5) fD).length<=5:=vJ hlD
       have prE:=vO ((Kp.sm (SmD.of s8')).trans (Kp.put (Pd:=Pd) (o:=.ins C dx (putF "promises" (.ref D5) fD)))) hpD prD
       generalize hfE:(putF "promises" (.ref D5) fD:List (Str×V))=fE at hcE kE hTE hlE prE ⊢
       generalize (upd H8 p (.ins C dx fE))=HE at hcE kE hTE prE ⊢
       have hpE:=hcE.get 8 0 rfl rfl
       have hsE:=kE.lst hp h2.hs
       refine⟨_,rfl,⟨_,_,_,_,rfl,rfl,SqT.of (kE.tup hp h1),(su (j:=0) rfl),sa,rfl,⟨_,SqL.of hsE⟩,λD6 nD6=>?_⟩⟩
       refine s0 (a:=sa) (xs:=xs) (λi H9=>∃ga:List Addr,Same HE H9/\Hc H9 ([(D6,.lst (ga.map V.ref))]::liC ga (ga.map λ_=>[])::[(D5,.lst (W.prs.map pV))]::[(D4,.lst (ra.map V.ref))]::liC ra (ra.map λ_=>[])::[(D3,.lst (da.map V.ref))]::liC da dv::[(D2,.lst (W.dels.map V.int))]::[(D,.lst (srefs srs))]::stC cs srs::[(p,.ins C dx fE)]::M)/\ga.length=i)
        ⟨[],Same.new nD6,(hcE.new nD6 (.lst [])).pad.swap,rfl⟩ (λi H9 _ ⟨_,s9,_⟩=>SqL.of (s9 _ _ hsE)) ?_ ?_
       ·rintro i x H9 m Wf hx ⟨ga,s9,hc9,l9⟩ nx
        have hi:=(zD.mp hx).1
        refine⟨zV _,λpn npn=>?_⟩
        have hc10:=hc9.new npn (.lst [])
        have g10:=hc10.get 1 0 rfl rfl
        refine⟨_,g10,sG (by rw[zC];omega),nx _ ⟨ga++[pn],(s9.trans (Same.new npn)).upd nD6,?_,by rw[zM,l9];rfl⟩⟩
        have:=hc10.put 1 0 rfl rfl (.lst (ga.map V.ref++[.ref pn]))
        rw[zK,zK]
        have e:=uo (ls:=ga) (vs:=ga.map λ_=>[]) (by rw[zC]) pn []
        show Hc _ (_::liC (ga++[pn]) ((ga.map λ_=>[])++[[]])::_)
        rw[e]
        exact(Hc.join (this.pick 2 rfl)).swap
       ·rintro H9 ⟨ga,s9,hc9,l9⟩
        have hp9:=s9 _ _ hpE
        refine⟨_,rfl,p,C,dx,fE,rfl,hp9,c.cl,c.n6,(by omega),?_⟩
        have hcF:=hc9.put 10 0 rfl rfl (.ins C dx (putF "logs" (.ref D6) fE))
        have kF:Kp Pd p H (upd H9 p (.ins C dx (putF "logs" (.ref D6) fE))):=kE.trans ((Kp.sm (SmD.of s9)).trans Kp.put)
        have hTF:DoorT Pd (upd H9 p (.ins C dx (putF "logs" (.ref D6) fE))):=(hTE.same s9).updI hp9
        have prF:=vO ((Kp.sm (SmD.of s9)).trans (Kp.put (Pd:=Pd) (o:=.ins C dx (putF "logs" (.ref D6) fE)))) hpE prE
        have hcG:=((((((((((hcF.pick 9 rfl).pick 2 rfl).pick 5 rfl).pick 7 rfl).pick 4 rfl).pick 5 rfl).pick 6 rfl).pick 7 rfl).pick 8 rfl).pick 9 rfl).pick 10 rfl
        have hcI:=((((((hcG.join).join).join).join).join).join)
        have lbl:W.dels.length=W.be.length:=zC _
        have lsr:srs.length=W.st.length:=by omega
        refine q ⟨p,dx,D,D2,D3,D4,D5,D6,srs,W.dels,da,ra,ga,dv,ra.map λ_=>[],ga.map λ_=>[],W.prs⟩ _ rfl ?_ kF hTF ⟨⟨?_,?_,?_,?_,?_,?_,?_,?_,?_,?_,?_⟩,mk4,?_,rfl,rfl⟩ ⟨?_,?_,?_⟩
        ·subst hfE hfD hfC hfB hfA
         exact hcI
        ·show da.length=srs.length;omega
        ·show dv.length=srs.length;omega
        ·show ra.length=W.dels.length;omega
        ·show(ra.map λ_=>([]:List V)).length=W.dels.length;rw[zC];omega
        ·show W.prs.length=W.dels.length;unfold Wk.prs;rw[zC];omega
        ·show ga.length=srs.length;omega
        ·show(ga.map λ_=>([]:List V)).length=srs.length;rw[zC];omega
        ·show srs.length<=8;omega
        ·show W.dels.length<=12;omega
        ·intro r hr wv hwv
         obtain⟨j,hj⟩:=yL hr
         have mj:=mk4 j r hj
         rw[mj.ws]at hwv
         show _\/(_/\wv<(W.dels.length:Int))
         rw[lbl]
         exact Wk.wy_in hwv
        ·intro r hr wv hwv
         obtain⟨j,hj⟩:=yL hr
         have mj:=mk4 j r hj
         rw[mj.bs]at hwv
         show _/\wv<(W.dels.length:Int)
         rw[lbl]
         exact Wk.lv_in hwv
        ·show srs.length=W.st.length;omega
        ·show Paired _ dv W.des
         have e:((xs.length:Nat):Int).toNat=W.st.length:=by omega
         rw[e]at prF
         exact prF
        ·exact uP .nil (by omega)
        ·exact uP .nil (by omega)
end
end Oc
namespace Oc
open PySem L2
theorem SR.flds_ways(r:SR):r.flds.lookup ("ways":Str)=some (.ref r.p1):=by
 unfold SR.flds
 cases r.k with
 | relay n=>show(fR r.p1 r.p2 n).lookup ("ways":Str)=_;unfold fR;rw[t6 (by decide +kernel)];exact cN _ _
 | sorter=>exact cN _ _
 | thinner n=>show(fT r.p1 r.p2 n r.seen).lookup ("ways":Str)=_;unfold fT;rw[t6 (by decide +kernel),t6 (by decide +kernel)];exact cN _ _
 | joiner=>exact hG _ _ _
 | sink=>exact cN _ _
theorem SR.flds_belts(r:SR):r.flds.lookup ("belts":Str)=some (.ref r.p2):=by
 unfold SR.flds
 cases r.k with
 | relay n=>exact zp _ _ _
 | sorter=>exact um _ _
 | thinner n=>exact yu _ _ _ _
 | joiner=>exact yj _ _ _
 | sink=>exact um _ _
theorem CsOk.st{K:PySem.W.Frag}{cs:Cs}(c:CsOk K cs):∀k:Kd,StC K (cs.of k)
 | .relay _=>c.rl.st
 | .sorter=>c.so
 | .thinner _=>c.th.st
 | .joiner=>c.jn.st
 | .sink=>c.si
section
variable{H:Hp}{cs:Cs}{C:Addr}{o:OR}{M:List (List Cell)}{s:Nat}{us:List V}
theorem xQ{r:SR}(hc:Hc H (ownCs cs C o++M))(hr:o.srs[s]?=some r):∀c∈srC cs r,H c.1=some c.2:=λc h =>
 hc.2 c (jG.mpr ⟨stC cs o.srs,zE (i:=4) rfl,jR.mpr ⟨r,zE hr,h⟩⟩)
theorem st_x{r:SR}(hc:Hc H (ownCs cs C o++M))(hr:o.srs[s]?=some r):H r.x=some (.ins (cs.of r.k) r.dx r.flds):=xQ hc hr _ zJ
theorem xp{r:SR}(hc:Hc H (ownCs cs C o++M))(hr:o.srs[s]?=some r):H r.p1=some (.tup (r.ws.map V.int)):=xQ hc hr (r.p1,.tup (r.ws.map V.int)) (.tail _ (.head _))
theorem EM{r:SR}(hc:Hc H (ownCs cs C o++M))(hr:o.srs[s]?=some r):H r.p2=some (.tup (r.bs.map V.int)):=xQ hc hr (r.p2,.tup (r.bs.map V.int)) (.tail _ (.tail _ (.head _)))
theorem u6{srs:List SR}{r:SR}(h:srs[s]?=some r):(srefs srs)[s]?=some (.ref r.x):=by unfold srefs;rw[zF,h];rfl
theorem u4{α β:Type}{l:List α}{m:List β}(e:l.length=m.length){i:Nat}{x:α}(h:l[i]?=some x):∃y,m[i]?=some y:=by
 have:=(zD.mp h).1
 exact⟨m[i]'(by omega),zB _⟩
theorem sX{as:List Addr}{vs:List (List V)}{a:Addr}(h1:as[s]?=some a)(h2:vs[s]?=some us):(liC as vs)[s]?=some (a,.lst us):=xl h1 (by rw[zF,h2];rfl)
theorem uE{as:List Addr}{a:Addr}(h:as[s]?=some a):(as.map V.ref)[s]?=some (.ref a):=by rw[zF,h];rfl
theorem OOk.log(ok:OOk o)(hc:Hc H (ownCs cs C o++M))(h:o.gv[s]?=some us):∃a,o.ga[s]?=some a/\H a=some (.lst us):=by
 obtain⟨a,ha⟩:=u4 (ok.lgv.trans ok.lg.symm) h
 exact⟨a,ha,hc.get 3 s rfl (sX ha h)⟩
theorem OOk.belt(ok:OOk o)(hc:Hc H (ownCs cs C o++M))(h:o.rv[s]?=some us):∃a,o.ra[s]?=some a/\H a=some (.lst us):=by
 obtain⟨a,ha⟩:=u4 (ok.lrv.trans ok.lr.symm) h
 exact⟨a,ha,hc.get 2 s rfl (sX ha h)⟩
theorem OOk.door(ok:OOk o)(hc:Hc H (ownCs cs C o++M))(h:o.dv[s]?=some us):∃a,o.da[s]?=some a/\H a=some (.lst us):=by
 obtain⟨a,ha⟩:=u4 (ok.ldv.trans ok.ld.symm) h
 exact⟨a,ha,hc.get 1 s rfl (sX ha h)⟩
end
def OR.at(o:OR)(s:Nat)(w:Int):Option (List V):=if w=-1 then o.dv[s]? else o.rv[w.toNat]?
def OR.atA(o:OR)(s:Nat)(w:Int):Option Addr:=if w=-1 then o.da[s]? else o.ra[w.toNat]?
def OR.ear(o:OR)(w:Int):List Tri->Option Int
 | t::_=>some t.1
 | []=>if w=-1 then none else o.pr.getD w.toNat none
def evAt(de re:List (List Tri))(s:Nat)(w:Int):List Tri:=if w=-1 then de.getD s []else re.getD w.toNat []
def OR.clk(o:OR)(de re:List (List Tri))(s:Nat)(r:SR):Option Int:=(r.ws.filterMap λw=>o.ear w (evAt de re s w)).min?
theorem Fk{ns:List Int}{m:Int}(h1:m∈ns)(h2:∀a∈ns,m<=a):ns.min?=some m:=qM.mpr ⟨h1,h2⟩
inductive spTaken(cs:Cs)(C:Addr)(vs:List V)(H:Hp)(Q:VK)(x_3:XK):Prop where
 | mk (o:OR) (M:List (List Cell)) (s:Nat) (us:List V) (h_0:vs=[.ref o.x,.int s]) (h_1:Hc H (ownCs cs C o++M)) (h_2:OOk o) (h_3:o.gv[s]?=some us) (h_4:∀p,H p=none->Q (.ref p) (upd H p (.lst us))):spTaken cs C vs H Q x_3
inductive spRow(cs:Cs)(C:Addr)(vs:List V)(H:Hp)(Q:VK)(x_3:XK):Prop where
 | mk (o:OR) (M:List (List Cell)) (s:Nat) (w:Int) (us:List V) (h_0:vs=[.ref o.x,.int s,.int w]) (h_1:Hc H (ownCs cs C o++M)) (h_2:OOk o) (h_3:(w=-1\/0<=w)) (h_4:o.at s w=some us) (h_5:∀a,o.atA s w=some a->H a=some (.lst us)->Q (.ref a) H):spRow cs C vs H Q x_3
inductive spEar(cs:Cs)(C:Addr)(vs:List V)(H:Hp)(Q:VK)(x_3:XK):Prop where
 | mk (o:OR) (M:List (List Cell)) (s:Nat) (w:Int) (us:List V) (ts:List Tri) (h_0:vs=[.ref o.x,.int s,.int w]) (h_1:Hc H (ownCs cs C o++M)) (h_2:OOk o) (h_3:(w=-1\/0<=w)) (h_4:o.at s w=some us) (h_5:Paired (IsTri H) us ts) (h_6:Q (pV (o.ear w ts)) H):spEar cs C vs H Q x_3
inductive spClk(cs:Cs)(C:Addr)(vs:List V)(H:Hp)(Q:VK)(x_3:XK):Prop where
 | mk (o:OR) (M:List (List Cell)) (s:Nat) (r:SR) (de re ge:List (List Tri)) (h_0:vs=[.ref o.x,.int s]) (h_1:Hc H (ownCs cs C o++M)) (h_2:OOk o) (h_3:o.srs[s]?=some r) (h_4:r.ws.length<=100) (h_5:Evs H o de re ge) (h_6:∀H',Same H H'->Q (pV (o.clk de re s r)) H'):spClk cs C vs H Q x_3
theorem Cz{o:OR}(ok:OOk o){s:Nat}{r:SR}(hr:o.srs[s]?=some r){w:Int}(hw:w∈r.ws):(w=-1\/0<=w)/\∃us,o.at s w=some us:=by
 have hs:=(zD.mp hr).1
 rcases ok.ways r (zE hr) w hw with e|⟨e1,e2⟩
 ·subst e
  refine⟨.inl rfl,?_⟩
  unfold OR.at
  rw[if_pos rfl]
  have:=ok.ldv
  exact⟨o.dv[s]'(by omega),zB _⟩
 ·refine⟨.inr e1,?_⟩
  unfold OR.at
  rw[if_neg (by omega)]
  have:=ok.lrv
  exact⟨o.rv[w.toNat]'(by omega),zB _⟩
theorem Cw{H:Hp}{o:OR}{de re ge:List (List Tri)}(ev:Evs H o de re ge){s:Nat}{w:Int}{us:List V}(h:o.at s w=some us):Paired (IsTri H) us (evAt de re s w):=by
 unfold OR.at at h
 unfold evAt
 split at h
 ·rename_i e
  obtain⟨ts,h1,h2⟩:=ev.d.gt h
  rw[if_pos e,zA,h1]
  exact h2
 ·rename_i e
  obtain⟨ts,h1,h2⟩:=ev.r.gt h
  rw[if_neg e,zA,h1]
  exact h2
section
variable{P:Program}{w:World}{K:PySem.W.Frag}{mg:Str->Option Value}{base:Heap}{cs:Cs}{C:Addr}
theorem ym:FnScope ["self","station"] ["self","station"] (defScope (inClass (top 17) 1)):=⟨rfl,rfl,rfl,by decide +kernel,rfl,by decide +kernel,by decide +kernel⟩
theorem Co{f:Addr}{fd:FuncData}(F:Fun K "taken" "Own.taken" (inClass (top 17) 1) f fd)(T:Txt K mg)(c:OwC K C):FnOk P w K mg base CX0 1 f fd ["self","station"] (spTaken cs C):=by
 have nd:=ym.nd
 refine F.ok ym (λvs H Q E h=>?_) (λcdv A outer s H vs Q E hr h=>?_)
 ·obtain⟨o,M,s,us,rfl,_⟩:=h
  rfl
 ·obtain⟨o,M,s,us,rfl,hc,ok,hs,q⟩:=h
  obtain⟨a,ha,hl⟩:=ok.log hc hs
  refine⟨_,(@sy _ _ _ (@sN _ _ _ _ (vc (w9 (K:=K) rfl) (by rfl) T.n_list AX (@sf _ _ _ _ _ (@sE _ _ _ _ _ _ _ (sO (K:=K) rfl) (sQ (K:=K) rfl (pv 0) rfl) (pv 1) (λ_ _=>rfl)) sh (by rfl))))),?_⟩
  exact⟨_,rfl,o.x,C,o.dx,o.flds,_,rfl,hc.get 0 0 rfl rfl,c.cl,c.n6,Dl,_,rfl,⟨_,_,_,_,rfl,rfl,SqL.of (hc.get 0 6 rfl rfl),su (uE ha),a,us,rfl,.inl (SqL.of hl),λl nl=>q l nl⟩⟩
theorem AF:FnScope ["self","station","way"] ["self","station","way"] (defScope (inClass (top 17) 6)):=⟨rfl,rfl,rfl,by decide +kernel,rfl,by decide +kernel,by decide +kernel⟩
theorem DJ{f:Addr}{fd:FuncData}{tkD:Tok}(F:Fun K "row" "Own.row" (inClass (top 17) 6) f fd)(g_DOOR:mg "DOOR"=some (.int (-1) tkD))(c:OwC K C):FnOk P w K mg base CX0 1 f fd ["self","station","way"] (spRow cs C):=by
 have nd:=AF.nd
 refine F.ok AF (λvs H Q E h=>?_) (λcdv A outer s H vs Q E hr h=>?_)
 ·obtain⟨o,M,s,w,us,rfl,_⟩:=h
  rfl
 ·obtain⟨o,M,s,wy,us,rfl,hc,ok,hw,hat,q⟩:=h
  refine⟨_,(@sy _ _ _ (@sN _ _ _ _ (uM (sJ tN (pv 2) (vQ (v:=.int (-1)) (by rfl) g_DOOR ⟨_,rfl⟩) (sP _)) (@sE _ _ _ _ _ _ _ (sO (K:=K) rfl) (sQ (K:=K) rfl (pv 0) rfl) (pv 1) (λ_ _=>rfl)) (@sE _ _ _ _ _ _ _ (sO (K:=K) rfl) (sQ (K:=K) rfl (pv 0) rfl) (pv 2) (λ_ _=>rfl))))),?_⟩
  refine⟨_,rfl,rfl,_,rfl,?_⟩
  unfold OR.at at hat
  unfold OR.atA at q
  rw[tS]
  by_cases e:wy=-1
  ·rw[if_pos e]at hat
   obtain⟨a,ha,hl⟩:=ok.door hc hat
   rw[show(wy == -1)=true by simpa using e]
   refine iteT ⟨_,rfl,o.x,C,o.dx,o.flds,_,rfl,hc.get 0 0 rfl rfl,c.cl,c.n3,pC,_,rfl,⟨_,_,_,_,rfl,rfl,SqL.of (hc.get 0 3 rfl rfl),su (uE ha),q a (by rw[if_pos e];exact ha) hl⟩⟩
  ·rw[if_neg e]at hat
   obtain⟨a,ha,hl⟩:=ok.belt hc hat
   have ew:wy=(wy.toNat:Int):=by omega
   rw[show(wy == -1)=false by simpa using e]
   refine iteF ⟨_,rfl,o.x,C,o.dx,o.flds,_,rfl,hc.get 0 0 rfl rfl,c.cl,c.n4,Ah,_,rfl,⟨_,_,_,_,rfl,rfl,SqL.of (hc.get 0 4 rfl rfl),(by rw[ew];exact su (uE ha)),q a (by rw[if_neg e];exact ha) hl⟩⟩
theorem C0:FnScope ["self","station","way","row"] ["self","station","way"] (defScope (inClass (top 17) 7)):=⟨rfl,rfl,rfl,by decide +kernel,rfl,by decide +kernel,by decide +kernel⟩
theorem Fc{f:Addr}{fd:FuncData}{tkD:Tok}(F:Fun K "earliest" "Own.earliest" (inClass (top 17) 7) f fd)(T:Txt K mg)(g_DOOR:mg "DOOR"=some (.int (-1) tkD))(c:OwC K C)(G_row:MethAt P w K mg base 1 C "row" ["self","station","way"] (spRow cs C)):FnOk P w K mg base CX0 2 f fd ["self","station","way"] (spEar cs C):=by
 have nd:=C0.nd
 refine F.ok C0 (λvs H Q E h=>?_) (λcdv A outer s H vs Q E hr h=>?_)
 ·obtain⟨o,M,s,w,us,ts,rfl,_⟩:=h
  rfl
 ·obtain⟨o,M,s,wy,us,ts,rfl,hc,ok,hw,hat,pr,q⟩:=h
  refine⟨_,(@sq _ _ _ _ _ (sL (i:=3) nd rfl (by nofun) (uc G_row (hr.mono (by decide)) (pv 0) (@sf _ _ _ _ _ (pv 1) (@sf _ _ _ _ _ (pv 2) sh (by rfl)) (by rfl))))
   (@sq _ _ _ _ _ (tG (sJ yl (sR (sM (K:=K) rfl) (by rfl) T.n_len tX (@sf _ _ _ _ _ (pv 3) sh (by rfl))) sg (sP _)) (@sy _ _ _ (@sN _ _ _ _ (@sE _ _ _ _ _ _ _ (sA (K:=K) rfl) (@sE _ _ _ _ _ _ _ (sO (K:=K) rfl) (pv 3) sg (λ_ _=>rfl)) sg (λ_ _=>rfl)))) sS)
   (@sy _ _ _ (@sN _ _ _ _ (uM (sJ tN (pv 2) (vQ (v:=.int (-1)) (by rfl) g_DOOR ⟨_,rfl⟩) (sP _)) tY (@sE _ _ _ _ _ _ _ (sO (K:=K) rfl) (sQ (K:=K) rfl (pv 0) rfl) (pv 2) (λ_ _=>rfl))))))),?_⟩
  refine⟨_,rfl,o.x,o.dx,o.flds,rfl,hc.get 0 0 rfl rfl,f_m (by decide +kernel),_,rfl,_,rfl,o,M,s,wy,us,rfl,hc,ok,hw,hat,λa ha hl=>?_⟩
  refine⟨_,rfl,a,us,rfl,.inl (SqL.of hl),_,_,rfl,rfl,_,rfl,?_⟩
  cases pr with
  | nil =>
   refine iteF ⟨_,rfl,rfl,_,rfl,?_⟩
   rw[tS]
   by_cases e:wy=-1
   ·rw[show(wy == -1)=true by simpa using e]
    refine iteT ?_
    unfold OR.ear at q
    rw[if_pos e]at q
    exact q
   ·rw[show(wy == -1)=false by simpa using e]
    have ew:wy=(wy.toNat:Int):=by omega
    unfold OR.at at hat
    rw[if_neg e]at hat
    obtain⟨m,hm⟩:=u4 (ok.lrv.trans ok.lp.symm) hat
    unfold OR.ear at q
    rw[if_neg e,zA,hm]at q
    exact iteF ⟨_,rfl,o.x,C,o.dx,o.flds,_,rfl,hc.get 0 0 rfl rfl,c.cl,c.n5,wO,_,rfl,⟨_,_,_,_,rfl,rfl,SqL.of (hc.get 0 5 rfl rfl),(by rw[ew];exact su (by rw[zF,hm];rfl)),q⟩⟩
  | @cons x t us ts hx hr' =>
   obtain⟨pt,rfl,hpt⟩:=hx
   have e:decide ((0:Int)<((V.ref pt::us).length:Int))=true:=decide_eq_true (by rw[zX];omega)
   rw[e]
   exact iteT ⟨_,rfl,⟨_,_,_,_,rfl,rfl,SqL.of hl,su (j:=0) rfl,⟨_,_,_,_,rfl,rfl,SqT.of hpt,su (j:=0) rfl,q⟩⟩⟩
theorem CT:FnScope ["self","station","times"] ["self","station"] (defScope (inClass (top 17) 4)):=⟨rfl,rfl,rfl,by decide +kernel,rfl,by decide +kernel,by decide +kernel⟩
theorem EX{f:Addr}{fd:FuncData}(F:Fun K "clock" "Own.clock" (inClass (top 17) 4) f fd)(T:Txt K mg)(c:OwC K C)(cc:CsOk K cs)(G_earliest:MethAt P w K mg base 2 C "earliest" ["self","station","way"] (spEar cs C)):FnOk P w K mg base CX0 3 f fd ["self","station"] (spClk cs C):=by
 have nd:=CT.nd
 refine F.ok CT (λvs H Q E h=>?_) (λcdv A outer s H vs Q E hr h=>?_)
 ·obtain⟨o,M,s,r,de,re,ge,rfl,_⟩:=h
  rfl
 ·obtain⟨o,M,s,r,de,re,ge,rfl,hc,ok,hs,l100,ev,q⟩:=h
  have ct:=cc.st r.k
  refine⟨_,(@sq _ _ _ _ _ (ue (i:=2) nd rfl (Or.inl rfl) rfl (own:=["way"]) (fr:=["self","station"]) (js:=[0,1]) (by and_intros) (uA (K:=K) rfl (sQ (K:=K) rfl (@sE _ _ _ _ _ _ _ (sO (K:=K) rfl) (sQ (K:=K) rfl (pv 0) rfl) (pv 1) (λ_ _=>rfl)) rfl)) (λ_ _ _ _=>(sH (i:=0) (show List.Nodup (["way","self","station"]:List Str)from by decide +kernel) rfl (by nofun))) (λ_ _ _ _=>tq) (λ_ _ _ _=>(uc G_earliest (hr.mono (by decide)) (pv 1) (@sf _ _ _ _ _ (pv 2) (@sf _ _ _ _ _ (pv 0) sh (by rfl)) (by rfl)))))
   (@sy _ _ _ (@sN _ _ _ _ (Ep rfl (by rfl) T.n_min CV (tE (own:=["time"]) (fr:=[]) (js:=[]) (by and_intros) (sY (K:=K) rfl (pv 2)) (λ_ _ _ _=>(sH (i:=0) (show List.Nodup (["time"]:List Str)from by decide +kernel) rfl (by nofun))) (λ_ _ _ _=>(uj (sJ u_ (pv 0) tY (sP _)))) (λ_ _ _ _=>(pv 0))))))),?_⟩
  refine⟨_,rfl,o.x,C,o.dx,o.flds,_,rfl,hc.get 0 0 rfl rfl,c.cl,c.n1,wT,_,rfl,⟨_,_,_,_,rfl,rfl,SqL.of (hc.get 0 1 rfl rfl),su (u6 hs),r.x,cs.of r.k,r.dx,r.flds,_,rfl,st_x hc hs,ct.cl,ct.nW,r.flds_ways,r.p1,rfl,⟨_,SqT.of (xp hc hs)⟩,λD nD=>?_⟩⟩
  refine u3 (a:=r.p1) (xs:=r.ws.map V.int) (λi H5=>Same H H5/\H5 D=some (.lst (((r.ws.take i).map λw=>o.ear w (evAt de re s w)).map pV))) ⟨Same.new nD,ss⟩ (λi H5 _ p=>SqT.of (p.1 _ _ (xp hc hs))) ?_ ?_
  ·rintro i x H5 m Wf hx ⟨s5,g5⟩ nx
   obtain⟨wy,rfl,hwy⟩:=ul hx
   obtain⟨a1,us,a2⟩:=Cz ok hs (zE hwy)
   have hi:=(zD.mp hwy).1
   refine⟨_,rfl,o.x,o.dx,o.flds,rfl,s5 _ _ (hc.get 0 0 rfl rfl),f_m (by decide +kernel),_,rfl,_,rfl,o,M,s,wy,us,_,rfl,hc.same s5,ok,a1,a2,sw (λ_ _ h=>h.same s5) (Cw ev a2),_,g5,sG (by rw[zC,zC,zY];omega),nx _ ⟨s5.upd nD,?_⟩⟩
   rw[ss,uh hwy,zK,zK]
   rfl
  ·rintro H5 ⟨s5,g5⟩
   rw[zC,yB]at g5
   have hlen:(r.ws.map λw=>o.ear w (evAt de re s w)).length<=100:=by rw[zC];exact l100
   have hq:o.clk de re s r=((r.ws.map λw=>o.ear w (evAt de re s w)).filterMap id).min?:=by
    unfold OR.clk
    rw[List.filterMap_map]
    rfl
   rw[hq]at q
   generalize (r.ws.map λw=>o.ear w (evAt de re s w))=os at g5 hlen q
   refine⟨_,rfl,D,rfl,⟨_,SqL.of g5⟩,λD2 nD2=>?_⟩
   refine s0 (a:=D) (xs:=os.map pV) (λi H6=>Same H5 H6/\H6 D2=some (.lst (((os.take i).filterMap id).map V.int))) ⟨Same.new nD2,ss⟩ (λi H6 _ p=>SqL.of (p.1 _ _ g5)) ?_ ?_
   ·rintro i x H6 m Wf hx ⟨s6,g6⟩ nx
    rw[zF]at hx
    cases eo:os[i]? with
    | none=>rw[eo]at hx;cases hx
    | some t =>
     rw[eo]at hx
     cases hx
     have hle:(((os.take i).filterMap id).map V.int).length<=1000:=by
      rw[zC]
      have:=kR (id:Option Int->Option Int) (os.take i)
      rw[zY]at this
      omega
     refine⟨_,rfl,rfl,_,rfl,?_⟩
     cases t with
     | none =>
      refine iteF (nx _ ⟨s6,?_⟩)
      rw[uh eo,jX]
      simpa using g6
     | some n =>
      refine iteT ⟨_,rfl,_,g6,sG hle,nx _ ⟨s6.upd nD2,?_⟩⟩
      rw[ss,uh eo,jX,zK]
      rfl
   ·rintro H6 ⟨s6,g6⟩
    rw[zC,yB]at g6
    have S:=s5.trans s6
    refine⟨D2,os.filterMap id,rfl,SqL.of g6,λe=>?_,λm h1 h2=>?_⟩
    ·have:=q H6 S
     rw[e]at this
     exact this
    ·have:=q H6 S
     rw[Fk h1 h2]at this
     exact this
end
end Oc
namespace Oc
open PySem L2
set_option genInjectivity false in
set_option genSizeOf false in
structure SP where
 k:Kd
 ws:List Int
 bs:List Int
 seen:Int
 rows:List (List Int)
def SR.pu(r:SR):SP:=⟨r.k,r.ws,r.bs,r.seen,r.rows⟩
def SP.sr(p:SP):SR:=⟨0,0,0,0,0,p.k,p.ws,p.bs,[],p.seen,p.rows⟩
def SP.out(p:SP)(j:Nat)(z:Int):Option (Int×Int):=p.sr.out j z
def SP.nxt(p:SP)(j:Nat)(z:Int):SP:=(p.sr.nxt j z).pu
theorem SR.out_pu(r:SR)(j:Nat)(z:Int):r.out j z=r.pu.out j z:=rfl
theorem SR.nxt_pu(r:SR)(j:Nat)(z:Int):(r.nxt j z).pu=r.pu.nxt j z:=by
 obtain⟨x,dx,p1,p2,d,k,ws,bs,ls,seen,rows⟩:=r
 cases k <;>rfl
theorem SP.nxt_ws(p:SP)(j:Nat)(z:Int):(p.nxt j z).ws=p.ws:=(p.sr.nxt_x j z).2.2.1
theorem SP.nxt_bs(p:SP)(j:Nat)(z:Int):(p.nxt j z).bs=p.bs:=(p.sr.nxt_x j z).2.2.2
theorem SP.nxt_k(p:SP)(j:Nat)(z:Int):(p.nxt j z).k=p.k:=(p.sr.nxt_x j z).2.1
theorem wY{l:List Int}{y b v:Int}(h:(l.head?.map λb=>(b,v))=some (b,y)):b∈l:=by
 cases l with
 | nil=>cases h
 | cons a r=>cases h;exact zJ
theorem SP.out_in{p:SP}{j:Nat}{z b y:Int}(h:p.out j z=some (b,y)):b∈p.bs:=by
 unfold SP.out SR.out at h
 cases e:p.k with
 | relay n =>
  rw[show p.sr.k=p.k from rfl,e]at h
  exact wY h
 | sorter =>
  rw[show p.sr.k=p.k from rfl,e]at h
  dsimp only at h
  split at h
  ·cases h
  ·cases eb:p.sr.bs[(z%(p.sr.bs.length:Int)).toNat]? with
   | none=>rw[eb]at h;cases h
   | some b' =>
    rw[eb]at h
    cases h
    exact zE eb
 | thinner n =>
  rw[show p.sr.k=p.k from rfl,e]at h
  dsimp only at h
  split at h
  ·cases h
  ·exact wY h
 | joiner =>
  rw[show p.sr.k=p.k from rfl,e]at h
  dsimp only at h
  split at h
  ·cases h
  ·exact wY h
 | sink =>
  rw[show p.sr.k=p.k from rfl,e]at h
  cases h
theorem Az(cs:Cs)(A B:List SR)(r:SR):stC cs (A++r::B)=stC cs A++(srC cs r++stC cs B):=by
 unfold stC
 rw[qH,j6]
theorem Em{cs:Cs}{A B:List SR}{r:SR}{H:Hp}{M:List (List Cell)}(hc:Hc H (stC cs (A++r::B)::M)):Hc H (srC cs r::(stC cs A++stC cs B)::M):=by
 rw[Az]at hc
 have h1:=hc.split.swap.split
 exact((h1.pick 1 rfl).pick 2 rfl).join.swap
theorem DV{cs:Cs}{A B:List SR}{r:SR}{H:Hp}{M:List (List Cell)}(hc:Hc H (srC cs r::(stC cs A++stC cs B)::M)):Hc H (stC cs (A++r::B)::M):=by
 rw[Az]
 have h1:Hc H (stC cs A::stC cs B::srC cs r::M):=hc.swap.split
 have h2:Hc H (srC cs r::stC cs B::stC cs A::M):=(h1.pick 1 rfl).pick 2 rfl
 exact h2.join.swap.join
theorem uG{as:List Addr}{vs:List (List V)}{j:Nat}{a:Addr}{v:List V}(h:as[j]?=some a):(liC as vs).set j (a,.lst v)=liC as (vs.set j v):=by
 unfold liC
 rw[v1 h,jN]
theorem tZ{α β:Type}{F:α->β->Prop}:∀{l:List α}{m:List β}{i:Nat}{x:α}{y:β},Paired F l m->F x y->Paired F (l.set i x) (m.set i y)
 | _,_,_,_,_,.nil,_=>.nil
 | _,_,0,_,_,.cons _ r,h=>.cons h r
 | _,_,i+1,_,_,.cons p r,h=>.cons p (tZ r h)
theorem ut{α:Type}{p:α->Prop}{l:List α}{i:Nat}{x:α}(h:∀y∈l,p y)(hx:p x):∀y∈l.set i x,p y:=λy hy=>by
 rcases kO hy with e|e
 ·exact h y e
 ·rw[e];exact hx
end Oc
namespace Oc
open PySem L2
structure OA where
 srs:List SP
 dl:List Int
 pr:List (Option Int)
 de:List (List Tri)
 re:List (List Tri)
 ge:List (List Tri)
structure OIs(H:Hp)(o:OR)(A:OA):Prop where
 s:o.srs.map SR.pu=A.srs
 d:o.dels=A.dl
 p:o.pr=A.pr
 e:Evs H o A.de A.re A.ge
def tkey(t:Tri):Int×Int:=(t.1,t.2.1)
def OA.hds(A:OA)(s:Nat)(ws:List Int):List Tri:=ws.filterMap λw=>(evAt A.de A.re s w).head?
def OA.upc(A:OA)(s:Nat)(ws:List Int):Option Tri:=(A.hds s ws)[bestK ((A.hds s ws).map tkey)]?
abbrev uq:Str:="Own.upcoming.<locals>.<lambda>"
abbrev UpT(P:Addr)(H:Hp):Prop:=LamT P uq 134 31 H
def EvV(H:Hp)(v:V):Option Tri->Prop
 | none=>v=.non
 | some t=>IsTri H v t
inductive spUpc(cs:Cs)(C Pu:Addr)(vs:List V)(H:Hp)(Q:VK)(x_3:XK):Prop where
 | mk (o:OR) (M:List (List Cell)) (s:Nat) (A:OA) (r:SR) (h_0:vs=[.ref o.x,.int s]) (h_1:Hc H (ownCs cs C o++M)) (h_2:OOk o) (h_3:OIs H o A) (h_4:o.srs[s]?=some r) (h_5:r.ws.length<=100) (h_6:UpT Pu H) (h_7:∀(v:V)(H':Hp),Keep [Pu] H H'->UpT Pu H'->EvV H' v (A.upc s r.ws)->Q v H'):spUpc cs C Pu vs H Q x_3
theorem _root_.L2.LamT.ne{P:Addr}{q:Str}{ln cl:Nat}{H:Hp}(h:LamT P q ln cl H){b:Addr}{u:HO}(e:H b=some u)(hu:∀ps,u≠HO.tbl ps):b≠P:=by
 rcases h with h|⟨c',h,_⟩
 ·exact tR e h (hu _)
 ·exact tR e h (hu _)
theorem Keep.tri{P:Addr}{q:Str}{ln cl:Nat}{H H':Hp}(k:Keep [P] H H')(h:LamT P q ln cl H){x:V}{t:Tri}(ht:IsTri H x t):IsTri H' x t:=by
 obtain⟨p,e,hp⟩:=ht
 exact⟨p,e,k _ _ hp (by rw[zG];exact h.ne hp λ_ z=>nomatch z)⟩
theorem EW{α:Type}{j:Nat}{a:α}{X:Prop}(h:([]:List α)[j]?=some a):X:=by simp at h
section
variable{P:Program}{w:World}{K:PySem.W.Frag}{mg:Str->Option Value}{base:Heap}{cs:Cs}{C:Addr}
theorem Cj:FnScope ["self","station","rows","firsts"] ["self","station"] (defScope (inClass (top 17) 8)):=⟨rfl,rfl,rfl,by decide +kernel,rfl,by decide +kernel,by decide +kernel⟩
theorem F4{f c Pu:Addr}{fd:FuncData}(F:Fun K "upcoming" "Own.upcoming" (inClass (top 17) 8) f fd)(hcd:fd.code=.ref c)(tm:Tab K mg base c Pu)(T:Txt K mg)(oc:OwC K C)(cc:CsOk K cs)(G_row:MethAt P w K mg base 1 C "row" ["self","station","way"] (spRow cs C)):FnOk P w K mg base CX0 2 f fd ["self","station"] (spUpc cs C Pu):=by
 have nd:=Cj.nd
 refine F.okC hcd Cj (λvs H Q E h=>?_) (λA outer s H vs Q E hr h=>?_)
 ·obtain⟨o,M,s,A,r,rfl,_⟩:=h
  rfl
 ·obtain⟨o,M,s,A,r,rfl,hc,ok,is,hs,l100,hT,q⟩:=h
  have ct:=cc.st r.k
  refine⟨_,(@sq _ _ _ _ _ (ue (i:=2) nd rfl (Or.inl rfl) rfl (own:=["way"]) (fr:=["self","station"]) (js:=[0,1]) (by and_intros) (uA (K:=K) rfl (sQ (K:=K) rfl (@sE _ _ _ _ _ _ _ (sO (K:=K) rfl) (sQ (K:=K) rfl (pv 0) rfl) (pv 1) (λ_ _=>rfl)) rfl)) (λ_ _ _ _=>(sH (i:=0) (show List.Nodup (["way","self","station"]:List Str)from by decide +kernel) rfl (by nofun))) (λ_ _ _ _=>tq) (λ_ _ _ _=>(uc G_row (hr.mono (by decide)) (pv 1) (@sf _ _ _ _ _ (pv 2) (@sf _ _ _ _ _ (pv 0) sh (by rfl)) (by rfl)))))
   (@sq _ _ _ _ _ (ue (i:=3) nd rfl (Or.inl rfl) rfl (own:=["row"]) (fr:=[]) (js:=[]) (by and_intros) (sY (K:=K) rfl (pv 2)) (λ_ _ _ _=>(sH (i:=0) (show List.Nodup (["row"]:List Str)from by decide +kernel) rfl (by nofun))) (λ_ _ _ _=>(uj (sJ yl (sR (sM (K:=K) rfl) (by rfl) T.n_len tX (@sf _ _ _ _ _ (pv 0) sh (by rfl))) sg (sP _)))) (λ_ _ _ _=>(@sE _ _ _ _ _ _ _ (sO (K:=K) rfl) (pv 0) sg (λ_ _=>rfl))))
   (@sy _ _ _ (@sN _ _ _ _ (CG rfl hr (by rfl) T.n_min CV rfl (by rfl) tm.hd tm.bl (pv 3) (by decide) (λ_ _ _ _=>rfl) (by rfl) (by rfl)))))),?_⟩
  refine⟨_,rfl,o.x,C,o.dx,o.flds,_,rfl,hc.get 0 0 rfl rfl,oc.cl,oc.n1,wT,_,rfl,⟨_,_,_,_,rfl,rfl,SqL.of (hc.get 0 1 rfl rfl),su (u6 hs),r.x,cs.of r.k,r.dx,r.flds,_,rfl,st_x hc hs,ct.cl,ct.nW,r.flds_ways,r.p1,rfl,⟨_,SqT.of (xp hc hs)⟩,λD nD=>?_⟩⟩
  refine u3 (a:=r.p1) (xs:=r.ws.map V.int) (λi H5=>Same H H5/\∃as:List Addr,as.length=i/\H5 D=some (.lst (as.map V.ref))/\∀j a wy,as[j]?=some a->r.ws[j]?=some wy->∃us,o.at s wy=some us/\H a=some (.lst us)) ⟨Same.new nD,[],rfl,ss,λj a wy h=>EW h⟩ (λi H5 _ p=>SqT.of (p.1 _ _ (xp hc hs))) ?_ ?_
  ·rintro i x H5 m Wf hx ⟨s5,as,la,g5,all⟩ nx
   obtain⟨wy,rfl,hwy⟩:=ul hx
   obtain⟨a1,us,a2⟩:=Cz ok hs (zE hwy)
   have hi:=(zD.mp hwy).1
   refine⟨_,rfl,o.x,o.dx,o.flds,rfl,s5 _ _ (hc.get 0 0 rfl rfl),f_m (by decide +kernel),_,rfl,_,rfl,o,M,s,wy,us,rfl,hc.same s5,ok,a1,a2,λa ha hl=>?_⟩
   have hl0:H a=some (.lst us):=by
    unfold OR.atA at ha
    unfold OR.at at a2
    split at ha
    ·rename_i e
     rw[if_pos e]at a2
     obtain⟨a',h1,h2⟩:=ok.door hc a2
     rw[ha]at h1;cases h1
     exact h2
    ·rename_i e
     rw[if_neg e]at a2
     obtain⟨a',h1,h2⟩:=ok.belt hc a2
     rw[ha]at h1;cases h1
     exact h2
   refine⟨_,g5,sG (by rw[zC];omega),nx _ ⟨s5.upd nD,as++[a],by rw[zM,la];rfl,by rw[ss,zK];rfl,λj a' wy' hj hw=>?_⟩⟩
   rcases Nat.lt_trichotomy j as.length with z|z|z
   ·rw[yF z]at hj
    exact all j a' wy' hj hw
   ·rw[zN (by omega),z,qB]at hj
    cases hj
    rw[z,la,hwy]at hw
    cases hw
    exact⟨us,a2,hl0⟩
   ·rw[zN (by omega)]at hj
    have:([a]:List Addr)[j-as.length]?=none:=yH (by show 1<=_;omega)
    rw[this]at hj;cases hj
  ·rintro H5 ⟨s5,as,la,g5,all⟩
   rw[zC]at la
   refine⟨_,rfl,D,rfl,⟨_,SqL.of g5⟩,λD2 nD2=>?_⟩
   refine s0 (a:=D) (xs:=as.map V.ref) (λi H6=>Same H5 H6/\∃us2:List V,H6 D2=some (.lst us2)/\Paired (IsTri H) us2 (A.hds s (r.ws.take i))) ⟨Same.new nD2,[],ss,.nil⟩ (λi H6 _ p=>SqL.of (p.1 _ _ g5)) ?_ ?_
   ·rintro i x H6 m Wf hx ⟨s6,us2,g6,p6⟩ nx
    rw[zF]at hx
    obtain⟨a,ha,rfl⟩:=yM.mp hx
    have hi:=(zD.mp ha).1
    obtain⟨wy,hwy⟩:∃wy,r.ws[i]?=some wy:=⟨r.ws[i]'(by omega),zB _⟩
    obtain⟨us,hat,hl⟩:=all i a wy ha hwy
    have pe:=Cw is.e hat
    have hl6:=s6 _ _ (s5 _ _ hl)
    have l6:=p6.length
    have lh:(A.hds s (r.ws.take i)).length<=100:=by
     unfold OA.hds
     refine z0 (kR _ _) ?_
     rw[zY];omega
    have eh:A.hds s (r.ws.take (i+1))=A.hds s (r.ws.take i)++([wy].filterMap λw=>(evAt A.de A.re s w).head?):=by
     unfold OA.hds
     rw[uh hwy,jX]
    refine⟨_,rfl,a,us,rfl,.inl (SqL.of hl6),_,_,rfl,rfl,_,rfl,?_⟩
    cases ee:evAt A.de A.re s wy with
    | nil =>
     rw[ee]at pe
     cases pe
     refine iteF (nx _ ⟨s6,us2,g6,?_⟩)
     rw[eh,q8,ee]
     simpa using p6
    | cons t ts =>
     rw[ee]at pe
     cases pe with
     | cons hx0 hr0 =>
      rename_i x0 us0
      have e:decide ((0:Int)<((x0::us0).length:Int))=true:=decide_eq_true (by rw[zX];omega)
      rw[e]
      refine iteT ⟨_,rfl,⟨_,_,_,_,rfl,rfl,SqL.of hl6,su (j:=0) rfl,_,g6,sG (by omega),nx _ ⟨s6.upd nD2,us2++[x0],ss,?_⟩⟩⟩
      rw[eh,q8,ee]
      exact sW p6 (.cons hx0 .nil)
   ·rintro H6 ⟨s6,us2,g6,p6⟩
    rw[zC,la,yB]at p6
    have S:=s5.trans s6
    have hT6:=hT.same S
    refine⟨_,rfl,D2,us2,(A.hds s r.ws).map tkey,rfl,SqL.of g6,(by rw[zC,p6.length]),λj x k hx hk=>?_,hT6,λH7 kp hT7=>?_⟩
    ·obtain⟨t,ht,p,rfl,hp⟩:=p6.gt hx
     rw[zF,ht]at hk
     cases hk
     exact⟨p,_,rfl,SqT.of (S _ _ hp),rfl,rfl⟩
    ·have KP:Keep [Pu] H H7:=λb u e n=>kp b u (S b u e) n
     refine⟨λe=>?_,λx hx=>?_⟩
     ·rw[e]at p6
      refine q _ H7 KP hT7 ?_
      have e0:A.hds s r.ws=[]:=by
       generalize A.hds s r.ws=z at p6
       cases p6;rfl
      unfold OA.upc
      rw[e0]
      rfl
     ·obtain⟨t,ht,it⟩:=p6.gt hx
      refine q x H7 KP hT7 ?_
      unfold OA.upc
      rw[ht]
      exact Keep.tri KP hT it
end
end Oc
namespace Oc
open PySem L2
def OA.lets(A:OA)(t:Tri)(b:Nat):Bool:=if (A.re.getD b []).isEmpty=true then (match A.pr.getD b none with|none=>true|some g=>HT.lexLt [t.1,t.2.1] [g,(b:Int)])else true
def OA.may(A:OA)(ws:List Int)(t:Tri):Bool:=(ws.filter λw=>!(w == -1)).all λw=>A.lets t w.toNat
inductive spLets(cs:Cs)(C:Addr)(vs:List V)(H:Hp)(Q:VK)(x_3:XK):Prop where
 | mk (o:OR) (M:List (List Cell)) (b:Nat) (A:OA) (v:V) (t:Tri) (h_0:vs=[.ref o.x,.int (b:Int),v]) (h_1:Hc H (ownCs cs C o++M)) (h_2:OOk o) (h_3:OIs H o A) (h_4:b<o.dels.length) (h_5:IsTri H v t) (h_6:∀H',Same H H'->Q (.bl (A.lets t b)) H'):spLets cs C vs H Q x_3
inductive spMay(cs:Cs)(C:Addr)(vs:List V)(H:Hp)(Q:VK)(x_3:XK):Prop where
 | mk (o:OR) (M:List (List Cell)) (s:Nat) (A:OA) (v:V) (t:Tri) (r:SR) (h_0:vs=[.ref o.x,.int (s:Int),v]) (h_1:Hc H (ownCs cs C o++M)) (h_2:OOk o) (h_3:OIs H o A) (h_4:o.srs[s]?=some r) (h_5:r.ws.length<=100) (h_6:IsTri H v t) (h_7:∀H',Same H H'->Q (.bl (A.may r.ws t)) H'):spMay cs C vs H Q x_3
theorem Evs.tk{H H':Hp}{o:OR}{de re ge:List (List Tri)}(k:Tk H H')(e:Evs H o de re ge):Evs H' o de re ge :=
 ⟨sw (λ_ _ h=>sw (λ_ _ h=>h.tk k) h) e.d,sw (λ_ _ h=>sw (λ_ _ h=>h.tk k) h) e.r,sw (λ_ _ h=>sw (λ_ _ h=>h.tk k) h) e.g⟩
theorem OIs.tk{H H':Hp}{o:OR}{A:OA}(k:Tk H H')(h:OIs H o A):OIs H' o A:=⟨h.s,h.d,h.p,h.e.tk k⟩
section
variable{P:Program}{w:World}{K:PySem.W.Frag}{mg:Str->Option Value}{base:Heap}{cs:Cs}{C:Addr}
theorem A_:FnScope ["self","belt","event","given"] ["self","belt","event"] (defScope (inClass (top 17) 10)):=⟨rfl,rfl,rfl,by decide +kernel,rfl,by decide +kernel,by decide +kernel⟩
theorem DO{f:Addr}{fd:FuncData}(F:Fun K "lets" "Own.lets" (inClass (top 17) 10) f fd)(T:Txt K mg)(oc:OwC K C):FnOk P w K mg base CX0 1 f fd ["self","belt","event"] (spLets cs C):=by
 have nd:=A_.nd
 refine F.ok A_ (λvs H Q E h=>?_) (λcdv A outer s H vs Q E hr h=>?_)
 ·obtain⟨o,M,b,A,v,t,rfl,_⟩:=h
  rfl
 ·obtain⟨o,M,b,A,v,t,rfl,hc,ok,is,hb,ht,q⟩:=h
  have lrv:=ok.lrv
  have lp:=ok.lp
  obtain⟨us,hus⟩:∃us,o.rv[b]?=some us:=⟨o.rv[b]'(by omega),zB _⟩
  obtain⟨a,ha,hl⟩:=ok.belt hc hus
  obtain⟨ts,hts,pt⟩:=is.e.r.gt hus
  obtain⟨g,hg⟩:∃g,o.pr[b]?=some g:=⟨o.pr[b]'(by omega),zB _⟩
  obtain⟨p,rfl,hp⟩:=ht
  unfold OA.lets at q
  rw[zA,hts,←is.p,zA,hg]at q
  refine⟨_,(@sq _ _ _ _ _ (tG (sJ yl (sR (sM (K:=K) rfl) (by rfl) T.n_len tX (@sf _ _ _ _ _ (@sE _ _ _ _ _ _ _ (sO (K:=K) rfl) (sQ (K:=K) rfl (pv 0) rfl) (pv 1) (λ_ _=>rfl)) sh (by rfl))) sg (sP _)) (@sy _ _ _ (@sN _ _ _ _ wo)) sS)
   (@sq _ _ _ _ _ (sL (i:=3) nd rfl (by nofun) (@sE _ _ _ _ _ _ _ (sO (K:=K) rfl) (sQ (K:=K) rfl (pv 0) rfl) (pv 1) (λ_ _=>rfl)))
   (@sy _ _ _ (@sN _ _ _ _ (Gs (uR zt (pv 3) tY (sP _)) (Ae (uR (E1 (qL (Nat.le_add_right _ _) hr.units)) (@tj _ _ _ _ _ (@sf _ _ _ _ _ (pv 3) (@sf _ _ _ _ _ (pv 1) sh (by rfl)) (by rfl))) (@tj _ _ _ _ _ (@sf _ _ _ _ _ (@sE _ _ _ _ _ _ _ (sA (K:=K) rfl) (pv 2) sg (λ_ _=>rfl)) (@sf _ _ _ _ _ (@sE _ _ _ _ _ _ _ (sA (K:=K) rfl) (pv 2) sg (λ_ _=>rfl)) sh (by rfl)) (by rfl))) (sP _)))))))),?_⟩
  refine⟨_,rfl,o.x,C,o.dx,o.flds,_,rfl,hc.get 0 0 rfl rfl,oc.cl,oc.n4,Ah,_,rfl,⟨_,_,_,_,rfl,rfl,SqL.of (hc.get 0 4 rfl rfl),su (uE ha),a,us,rfl,.inl (SqL.of hl),_,_,rfl,rfl,_,rfl,?_⟩⟩
  cases pt with
  | nil =>
   refine iteF ⟨_,rfl,o.x,C,o.dx,o.flds,_,rfl,hc.get 0 0 rfl rfl,oc.cl,oc.n5,wO,_,rfl,⟨_,_,_,_,rfl,rfl,SqL.of (hc.get 0 5 rfl rfl),su (by rw[zF,hg];rfl),?_⟩⟩
   cases g with
   | none=>exact⟨_,rfl,rfl,⟨_,rfl,iteT (q H (Same.refl _))⟩⟩
   | some g =>
    refine⟨_,rfl,rfl,⟨_,rfl,iteF ?_⟩⟩
    refine⟨_,rfl,_,rfl,(by show 2<=sizeLine;decide),λp1 n1=>?_⟩
    have s1:=Same.new (o:=.tup [pV (some g),.int (b:Int)]) n1
    have g1:=ss (H:=H) (a:=p1) (o:=.tup [pV (some g),.int (b:Int)])
    generalize upd H p1 (.tup [pV (some g),.int (b:Int)])=H1 at s1 g1 ⊢
    refine⟨_,rfl,⟨_,_,_,_,rfl,rfl,SqT.of (s1 _ _ hp),(su (j:=0) rfl),_,rfl,⟨_,_,_,_,rfl,rfl,SqT.of (s1 _ _ hp),(su (j:=1) rfl),(by show 2<=sizeLine;decide),λp2 n2=>?_⟩⟩⟩
    have s2:=Same.new (o:=.tup [.int t.1,.int t.2.1]) n2
    have g2:=ss (H:=H1) (a:=p2) (o:=.tup [.int t.1,.int t.2.1])
    generalize upd H1 p2 (.tup [.int t.1,.int t.2.1])=H2 at s2 g2 ⊢
    exact⟨p1,p2,[g,(b:Int)],[t.1,t.2.1],rfl,rfl,SqT.of (s2 _ _ g1),SqT.of g2,q H2 (s1.trans s2)⟩
  | cons hx hr0 =>
   rename_i x0 t0 us0 ts0
   have e:decide ((0:Int)<((x0::us0).length:Int))=true:=decide_eq_true (by rw[zX];omega)
   rw[e]
   exact iteT (q H (Same.refl _))
theorem CB:FnScope ["self","station","event"] ["self","station","event"] (defScope (inClass (top 17) 9)):=⟨rfl,rfl,rfl,by decide +kernel,rfl,by decide +kernel,by decide +kernel⟩
theorem Fs{f:Addr}{fd:FuncData}{tkD:Tok}(F:Fun K "may_take" "Own.may_take" (inClass (top 17) 9) f fd)(T:Txt K mg)(g_DOOR:mg "DOOR"=some (.int (-1) tkD))(oc:OwC K C)(cc:CsOk K cs)(G_lets:MethAt P w K mg base 1 C "lets" ["self","belt","event"] (spLets cs C)):FnOk P w K mg base CX0 2 f fd ["self","station","event"] (spMay cs C):=by
 have nd:=CB.nd
 refine F.ok CB (λvs H Q E h=>?_) (λcdv A outer s H vs Q E hr h=>?_)
 ·obtain⟨o,M,s,A,v,t,r,rfl,_⟩:=h
  rfl
 ·obtain⟨o,M,s,A,v,t,r,rfl,hc,ok,is,hs,l100,ht,q⟩:=h
  have ct:=cc.st r.k
  refine⟨_,(@sy _ _ _ (@sN _ _ _ _ (sR (Bu rfl) (by rfl) T.n_all E5 (@sf _ _ _ _ _ (tE (own:=["belt"]) (fr:=["self","event"]) (js:=[0,2]) (by and_intros) (uA (K:=K) rfl (sQ (K:=K) rfl (@sE _ _ _ _ _ _ _ (sO (K:=K) rfl) (sQ (K:=K) rfl (pv 0) rfl) (pv 1) (λ_ _=>rfl)) rfl)) (λ_ _ _ _=>(sH (i:=0) (show List.Nodup (["belt","self","event"]:List Str)from by decide +kernel) rfl (by nofun))) (λ_ _ _ _=>(uj (sJ CD (pv 0) (vQ (v:=.int (-1)) (by rfl) (by exact g_DOOR) ⟨_,rfl⟩) (sP _)))) (λ_ _ _ _=>(uc G_lets (hr.mono (by decide)) (pv 1) (@sf _ _ _ _ _ (pv 0) (@sf _ _ _ _ _ (pv 2) sh (by rfl)) (by rfl))))) sh (by rfl))))),?_⟩
  refine⟨_,rfl,o.x,C,o.dx,o.flds,_,rfl,hc.get 0 0 rfl rfl,oc.cl,oc.n1,wT,_,rfl,⟨_,_,_,_,rfl,rfl,SqL.of (hc.get 0 1 rfl rfl),su (u6 hs),r.x,cs.of r.k,r.dx,r.flds,_,rfl,st_x hc hs,ct.cl,ct.nW,r.flds_ways,r.p1,rfl,⟨_,SqT.of (xp hc hs)⟩,λD nD=>?_⟩⟩
  refine u3 (a:=r.p1) (xs:=r.ws.map V.int) (λi H5=>Same H H5/\H5 D=some (.lst ((((r.ws.take i).filter λw=>!(w == -1)).map λw=>A.lets t w.toNat).map V.bl))) ⟨Same.new nD,ss⟩ (λi H5 _ p=>SqT.of (p.1 _ _ (xp hc hs))) ?_ ?_
  ·rintro i x H5 m Wf hx ⟨s5,g5⟩ nx
   obtain⟨wy,rfl,hwy⟩:=ul hx
   have hi:=(zD.mp hwy).1
   have lf:((r.ws.take i).filter λw=>!(w == -1)).length<=100:=by
    refine z0 (y8 _ _) ?_
    rw[zY];omega
   refine⟨_,rfl,rfl,_,rfl,?_⟩
   rw[tS]
   by_cases e:wy=-1
   ·rw[show(!(wy == -1))=false by simpa using e]
    refine iteF (nx _ ⟨s5,?_⟩)
    rw[uh hwy,yJ,y6 (by simpa using e),yN,zP]
    exact g5
   ·rw[show(!(wy == -1))=true by simpa using e]
    have hw:=ok.ways r (zE hs) wy (zE hwy)
    obtain⟨b,hb⟩:∃b:Nat,wy=(b:Int):=⟨wy.toNat,by omega⟩
    subst hb
    refine iteT ⟨_,rfl,o.x,o.dx,o.flds,rfl,s5 _ _ (hc.get 0 0 rfl rfl),f_m (by decide +kernel),_,rfl,_,rfl,o,M,b,A,v,t,rfl,hc.same s5,ok,is.tk (Tk.of s5),(by omega),ht.same s5,λH6 s6=>?_⟩
    refine⟨_,s6 _ _ g5,sG (by rw[zC,zC];omega),nx _ ⟨(s5.trans s6).upd nD,?_⟩⟩
    rw[ss,uh hwy,yJ,yX (by simpa using e),yN,zK,zK]
    rfl
  ·rintro H5 ⟨s5,g5⟩
   rw[zC,yB]at g5
   refine⟨D,_,rfl,SqL.of g5,?_⟩
   have:=q H5 s5
   unfold OA.may at this
   rw[vC]
   exact this
end
end Oc
namespace Oc
open PySem L2
def OA.new(A:OA)(now:Option Int)(b:Nat):Option Int:=now.map λn=>n+A.dl.getD b 0
def OA.stays(A:OA)(now:Option Int)(b:Nat):Bool:=match A.pr.getD b none with
 | none=>true
 | some p=>match A.new now b with
  | none=>false
  | some n=>decide (n<=p)
def OA.rp1(A:OA)(now:Option Int)(b:Nat):OA×Bool:=if A.stays now b=true then (A,false)else ({ A with pr:=A.pr.set b (A.new now b) },true)
def OA.rps(A:OA)(now:Option Int)(bs:List Int):OA×Bool:=bs.foldl (λp b=>((p.1.rp1 now b.toNat).1,p.2||(p.1.rp1 now b.toNat).2)) (A,false)
def OA.ear(A:OA)(w:Int):List Tri->Option Int
 | t::_=>some t.1
 | []=>if w=-1 then none else A.pr.getD w.toNat none
def OA.clk(A:OA)(s:Nat)(ws:List Int):Option Int:=(ws.filterMap λw=>A.ear w (evAt A.de A.re s w)).min?
theorem OIs.clk{H:Hp}{o:OR}{A:OA}(h:OIs H o A)(s:Nat)(r:SR):o.clk A.de A.re s r=A.clk s r.ws:=by
 unfold OR.clk OA.clk
 congr 1
 refine congrFun (congrArg _ (funext λw=>?_)) _
 cases evAt A.de A.re s w with
 | nil=>unfold OR.ear OA.ear;rw[h.p]
 | cons t ts=>rfl
structure OTo(cs:Cs)(C:Addr)(M:List (List Cell))(H H':Hp)(o o':OR)(A':OA):Prop where
 x:o'.x=o.x
 s:o'.srs=o.srs
 d:o'.dels=o.dels
 hc:Hc H' (ownCs cs C o'++M)
 ok:OOk o'
 is:OIs H' o' A'
 tk:Tk H H'
inductive spRp(cs:Cs)(C:Addr)(vs:List V)(H:Hp)(Q:VK)(x_3:XK):Prop where
 | mk (o:OR) (M:List (List Cell)) (b:Nat) (A:OA) (now:Option Int) (h_0:vs=[.ref o.x,.int (b:Int),pV now]) (h_1:Hc H (ownCs cs C o++M)) (h_2:OOk o) (h_3:OIs H o A) (h_4:b<o.dels.length) (h_5:∀(o':OR)(H':Hp),OTo cs C M H H' o o' (A.rp1 now b).1->Q (.bl (A.rp1 now b).2) H'):spRp cs C vs H Q x_3
inductive spRps(cs:Cs)(C:Addr)(vs:List V)(H:Hp)(Q:VK)(x_3:XK):Prop where
 | mk (o:OR) (M:List (List Cell)) (s:Nat) (A:OA) (r:SR) (h_0:vs=[.ref o.x,.int (s:Int)]) (h_1:Hc H (ownCs cs C o++M)) (h_2:OOk o) (h_3:OIs H o A) (h_4:o.srs[s]?=some r) (h_5:r.ws.length<=100) (h_6:∀(o':OR)(H':Hp),OTo cs C M H H' o o' (A.rps (A.clk s r.ws) r.bs).1->Q (.bl (A.rps (A.clk s r.ws) r.bs).2) H'):spRps cs C vs H Q x_3
theorem CK{n i:Nat}(h:i<n):ixN n (i:Int)=some i:=by
 unfold ixN
 simp
 omega
theorem OOk.pr{o:OR}(ok:OOk o)(p:List (Option Int))(h:p.length=o.pr.length):OOk { o with pr:=p }:=⟨ok.ld,ok.ldv,ok.lr,ok.lrv,h.trans ok.lp,ok.lg,ok.lgv,ok.s8,ok.b12,ok.ways,ok.belts⟩
theorem Evs.pr{H:Hp}{o:OR}{de re ge:List (List Tri)}(e:Evs H o de re ge)(p:List (Option Int)):Evs H { o with pr:=p } de re ge:=⟨e.d,e.r,e.g⟩
section
variable{P:Program}{w:World}{K:PySem.W.Frag}{mg:Str->Option Value}{base:Heap}{cs:Cs}{C:Addr}
theorem EO:FnScope ["self","belt","now","old","new"] ["self","belt","now"] (defScope (inClass (top 17) 13)):=⟨rfl,rfl,rfl,by decide +kernel,rfl,by decide +kernel,by decide +kernel⟩
theorem Gb{f:Addr}{fd:FuncData}(F:Fun K "raise_promise" "Own.raise_promise" (inClass (top 17) 13) f fd)(oc:OwC K C):FnOk P w K mg base CX0 1 f fd ["self","belt","now"] (spRp cs C):=by
 have nd:=EO.nd
 refine F.ok EO (λvs H Q E h=>?_) (λcdv A outer s H vs Q E hr h=>?_)
 ·obtain⟨o,M,b,A,now,rfl,_⟩:=h
  rfl
 ·obtain⟨o,M,b,A,now,rfl,hc,ok,is,hb,q⟩:=h
  have lp:=ok.lp
  obtain⟨g,hg⟩:∃g,o.pr[b]?=some g:=⟨o.pr[b]'(by omega),zB _⟩
  obtain⟨d,hd⟩:∃d,o.dels[b]?=some d:=⟨o.dels[b]'(by omega),zB _⟩
  have eg:A.pr.getD b none=g:=by rw[←is.p,zA,hg];rfl
  have ed:A.dl.getD b 0=d:=by rw[←is.d,zA,hd];rfl
  have same:A.stays now b=true->Q (.bl false) H:=λe=>by
   have h0:=q o H
   unfold OA.rp1 at h0
   rw[if_pos e]at h0
   exact h0 ⟨rfl,rfl,rfl,hc,ok,is,Tk.refl _⟩
  have go:A.stays now b=false->Q (.bl true) (upd H o.pl (.lst ((o.pr.map pV).set b (pV (A.new now b))))):=λe=>by
   have h0:=q { o with pr:=o.pr.set b (A.new now b) } (upd H o.pl (.lst ((o.pr.map pV).set b (pV (A.new now b)))))
   unfold OA.rp1 at h0
   rw[if_neg (by rw[e];decide)]at h0
   have hp:=hc.put 0 5 rfl rfl (.lst ((o.pr.map pV).set b (pV (A.new now b))))
   have tk:Tk H (upd H o.pl (.lst ((o.pr.map pV).set b (pV (A.new now b))))):=(Tk.refl H).put (hc.get 0 5 rfl rfl) (λz=>z)
   refine h0 ⟨rfl,rfl,rfl,?_,ok.pr _ zZ,⟨is.s,is.d,by show o.pr.set b _=A.pr.set b _;rw[is.p],(is.e.tk tk).pr _⟩,tk⟩
   rw[←jN]at hp ⊢
   exact hp
  unfold OA.stays OA.new at same
  unfold OA.stays at go
  rw[eg]at same go
  refine⟨_,(@sq _ _ _ _ _ (sL (i:=3) nd rfl (by nofun) (@sE _ _ _ _ _ _ _ (sO (K:=K) rfl) (sQ (K:=K) rfl (pv 0) rfl) (pv 1) (λ_ _=>rfl)))
   (@sq _ _ _ _ _ (sL (i:=4) nd rfl (by nofun) (uM (sJ zt (pv 2) tY (sP _)) tY (sK tH (pv 2) (@sE _ _ _ _ _ _ _ (sO (K:=K) rfl) (sQ (K:=K) rfl (pv 0) rfl) (pv 1) (λ_ _=>rfl)))))
   (@sq _ _ _ _ _ (tG ((Ba (sJ zt (pv 3) tY (sP _)) (xM ((xF (sJ u_ (pv 4) tY (sP _)) (wA (sJ CA (pv 4) (pv 3) (sP _))))).pt))).pt (@sy _ _ _ (@sN _ _ _ _ wo)) sS)
   (@sq _ _ _ _ _ (EU (pv 4) (FI (sQ (K:=K) rfl (pv 0) rfl) (pv 1) BQ))
   (@sy _ _ _ (@sN _ _ _ _ wo)))))),?_⟩
  refine⟨_,rfl,o.x,C,o.dx,o.flds,_,rfl,hc.get 0 0 rfl rfl,oc.cl,oc.n5,wO,_,rfl,⟨_,_,_,_,rfl,rfl,SqL.of (hc.get 0 5 rfl rfl),su (by rw[zF,hg];rfl),?_⟩⟩
  cases now with
  | none =>
   refine⟨_,rfl,rfl,_,rfl,iteT ?_⟩
   cases g with
   | none=>exact⟨_,rfl,rfl,_,rfl,iteT (iteT (same rfl))⟩
   | some p =>
    refine⟨_,rfl,rfl,_,rfl,iteF ⟨_,rfl,rfl,_,rfl,iteF (iteF ?_)⟩⟩
    exact⟨_,rfl,_,rfl,o.x,C,o.dx,o.flds,_,rfl,hc.get 0 0 rfl rfl,oc.cl,oc.n5,wO,_,rfl,o.pl,_,_,b,rfl,rfl,hc.get 0 5 rfl rfl,CK (by rw[zC];omega),go rfl⟩
  | some n =>
   refine⟨_,rfl,rfl,_,rfl,iteF ?_⟩
   refine⟨_,rfl,_,rfl,o.x,C,o.dx,o.flds,_,rfl,hc.get 0 0 rfl rfl,oc.cl,oc.n2,Ce,_,rfl,⟨_,_,_,_,rfl,rfl,SqL.of (hc.get 0 2 rfl rfl),su (by rw[zF,hd];rfl),_,_,rfl,rfl,?_⟩⟩
   have en:A.new (some n) b=some (n+d):=by unfold OA.new;rw[ed];rfl
   cases g with
   | none=>exact⟨_,rfl,rfl,_,rfl,iteT (iteT (same rfl))⟩
   | some p =>
    refine⟨_,rfl,rfl,_,rfl,iteF ⟨_,rfl,rfl,_,rfl,iteT ⟨_,rfl,_,rfl,_,_,rfl,rfl,_,rfl,?_⟩⟩⟩
    rw[en]at go
    by_cases hle:n+d<=p
    ·rw[decide_eq_true hle]
     refine iteT (same ?_)
     rw[ed]
     exact decide_eq_true hle
    ·rw[decide_eq_false hle]
     refine iteF ?_
     exact⟨_,rfl,_,rfl,o.x,C,o.dx,o.flds,_,rfl,hc.get 0 0 rfl rfl,oc.cl,oc.n5,wO,_,rfl,o.pl,_,_,b,rfl,rfl,hc.get 0 5 rfl rfl,CK (by rw[zC];omega),go (decide_eq_false hle)⟩
theorem C_:FnScope ["self","station","now","raised","belt"] ["self","station"] (defScope (inClass (top 17) 12)):=⟨rfl,rfl,rfl,by decide +kernel,rfl,by decide +kernel,by decide +kernel⟩
theorem FG{f:Addr}{fd:FuncData}(F:Fun K "raise_promises" "Own.raise_promises" (inClass (top 17) 12) f fd)(oc:OwC K C)(cc:CsOk K cs)(G_clock:MethAt P w K mg base 3 C "clock" ["self","station"] (spClk cs C))(G_raise_promise:MethAt P w K mg base 1 C "raise_promise" ["self","belt","now"] (spRp cs C)):FnOk P w K mg base CX0 4 f fd ["self","station"] (spRps cs C):=by
 have nd:=C_.nd
 refine F.ok C_ (λvs H Q E h=>?_) (λcdv A outer s H vs Q E hr h=>?_)
 ·obtain⟨o,M,s,A,r,rfl,_⟩:=h
  rfl
 ·obtain⟨o,M,s,A,r,rfl,hc,ok,is,hs,l100,q⟩:=h
  have ct:=cc.st r.k
  refine⟨_,(@sq _ _ _ _ _ (sL (i:=2) nd rfl (by nofun) (uc G_clock (hr.mono (by decide)) (pv 0) (@sf _ _ _ _ _ (pv 1) sh (by rfl))))
   (@sq _ _ _ _ _ (sL (i:=3) nd rfl (by nofun) wo)
   (@sq _ _ _ _ _ (ub PassesOwn.never rfl (uA (K:=K) rfl (sQ (K:=K) rfl (@sE _ _ _ _ _ _ _ (sO (K:=K) rfl) (sQ (K:=K) rfl (pv 0) rfl) (pv 1) (λ_ _=>rfl)) rfl)) (sH (i:=4) nd rfl (by nofun)) (@sy _ _ _ (tG (uI (uc G_raise_promise (hr.mono (by decide)) (pv 0) (@sf _ _ _ _ _ (pv 4) (@sf _ _ _ _ _ (pv 2) sh (by rfl)) (by rfl)))) (@sy _ _ _ (sL (i:=3) nd rfl (by nofun) wo)) sS)))
   (@sy _ _ _ (@sN _ _ _ _ (pv 3)))))),?_⟩
  refine⟨_,rfl,o.x,o.dx,o.flds,rfl,hc.get 0 0 rfl rfl,f_m (by decide +kernel),_,rfl,o,M,s,r,A.de,A.re,A.ge,rfl,hc,ok,hs,l100,is.e,λH1 s1=>?_⟩
  rw[is.clk]
  generalize A.clk s r.ws=now at q ⊢
  have hc1:=hc.same s1
  have is1:=is.tk (Tk.of s1)
  refine⟨_,rfl,o.x,C,o.dx,o.flds,_,rfl,hc1.get 0 0 rfl rfl,oc.cl,oc.n1,wT,_,rfl,⟨_,_,_,_,rfl,rfl,SqL.of (hc1.get 0 1 rfl rfl),su (u6 hs),r.x,cs.of r.k,r.dx,r.flds,_,rfl,st_x hc1 hs,ct.cl,ct.nB,r.flds_belts,r.p2,rfl,⟨_,SqT.of (EM hc1 hs)⟩,?_⟩⟩
  refine xS (K:=K) (a:=r.p2) (xs:=r.bs.map V.int) (λi σ H5=>∃(o':OR)(v4:Option V),σ=[some (.ref o.x),some (.int (s:Int)),some (pV now),some (.bl (A.rps now (r.bs.take i)).2),v4]/\OTo cs C M H H5 o o' (A.rps now (r.bs.take i)).1)
   ⟨o,none,rfl,rfl,rfl,rfl,hc1,ok,is1,Tk.of s1⟩ (λi σ H5 _ ⟨o',_,_,t⟩=>SqT.of (EM (o:=o') t.hc (by rw[t.s];exact hs))) ?_ ?_
  ·rintro i x σ H5 hx ⟨o',v4,rfl,t⟩
   obtain⟨b,rfl,hb⟩:=ul hx
   obtain⟨b0,b1⟩:=ok.belts r (zE hs) b (zE hb)
   obtain⟨bn,rfl⟩:∃bn:Nat,b=(bn:Int):=⟨b.toNat,by omega⟩
   have e1:A.rps now (r.bs.take (i+1))=(((A.rps now (r.bs.take i)).1.rp1 now bn).1,(A.rps now (r.bs.take i)).2||((A.rps now (r.bs.take i)).1.rp1 now bn).2):=by
    unfold OA.rps
    rw[uh hb,j5]
    rfl
   have hgx:=t.hc.get 0 0 rfl rfl
   rw[t.x]at hgx
   refine⟨_,rfl,o.x,o'.dx,o'.flds,rfl,hgx,f_m (by decide +kernel),_,rfl,_,rfl,o',M,bn,(A.rps now (r.bs.take i)).1,now,(by rw[t.x];rfl),t.hc,t.ok,t.is,(by rw[t.d];omega),λo2 H6 t2=>⟨_,rfl,?_⟩⟩
   have t3:OTo cs C M H H6 o o2 (A.rps now (r.bs.take (i+1))).1:=by
    rw[e1]
    exact⟨t2.x.trans t.x,t2.s.trans t.s,t2.d.trans t.d,t2.hc,t2.ok,t2.is,t.tk.trans t2.tk⟩
   rw[e1]at t3
   cases eb:((A.rps now (r.bs.take i)).1.rp1 now bn).2 with
   | true =>
    refine iteT ⟨o2,some (.int (bn:Int)),?_,by rw[e1];exact t3⟩
    rw[e1,eb,Bool.or_true]
    rfl
   | false =>
    refine iteF ⟨o2,some (.int (bn:Int)),?_,by rw[e1];exact t3⟩
    rw[e1,eb,Bool.or_false]
    rfl
  ·rintro σ H5 ⟨o',v4,rfl,t⟩
   rw[zC,yB]at t ⊢
   exact⟨_,rfl,q o' H5 t⟩
end
end Oc
namespace Oc
open PySem L2
def OA.pop(A:OA)(s:Nat)(w:Int):OA:=if w=-1 then { A with de:=A.de.set s (A.de.getD s []).tail }else { A with re:=A.re.set w.toNat (A.re.getD w.toNat []).tail }
def OA.log(A:OA)(s:Nat)(t:Tri):OA:={ A with ge:=A.ge.set s (A.ge.getD s []++[t]) }
def OA.lay(A:OA)(b:Nat)(t:Tri):OA:={ A with re:=A.re.set b (A.re.getD b []++[t]) }
def OA.sta(A:OA)(s:Nat)(p:SP):OA:={ A with srs:=A.srs.set s p }
def OA.put(A:OA)(t:Tri):Option (Int×Int)->OA
 | none=>A
 | some p=>A.lay p.1.toNat (t.1+A.dl.getD p.1.toNat 0,p.1,p.2)
def OA.take(A:OA)(s:Nat)(p:SP)(t:Tri):OA:=OA.put (((A.pop s t.2.1).log s t).sta s (p.nxt (p.ws.idxOf t.2.1) t.2.2)) t (p.out (p.ws.idxOf t.2.1) t.2.2)
structure OTs(cs:Cs)(C:Addr)(M:List (List Cell))(H H':Hp)(o o':OR)(A':OA):Prop where
 x:o'.x=o.x
 d:o'.dels=o.dels
 hc:Hc H' (ownCs cs C o'++M)
 ok:OOk o'
 is:OIs H' o' A'
 tk:Tk H H'
theorem uF{α β:Type}{F:α->β->Prop}{l:List α}{m:List β}(h:Paired F l m):Paired F (l.eraseIdx 0) m.tail:=by
 cases h with
 | nil=>exact .nil
 | cons _ r=>exact r
section
variable{cs:Cs}{C:Addr}{M:List (List Cell)}{H:Hp}{o:OR}{A:OA}
theorem OOk.dv(ok:OOk o)(p:List (List V))(h:p.length=o.dv.length):OOk { o with dv:=p }:=⟨ok.ld,h.trans ok.ldv,ok.lr,ok.lrv,ok.lp,ok.lg,ok.lgv,ok.s8,ok.b12,ok.ways,ok.belts⟩
theorem OOk.rv(ok:OOk o)(p:List (List V))(h:p.length=o.rv.length):OOk { o with rv:=p }:=⟨ok.ld,ok.ldv,ok.lr,h.trans ok.lrv,ok.lp,ok.lg,ok.lgv,ok.s8,ok.b12,ok.ways,ok.belts⟩
theorem OOk.gv(ok:OOk o)(p:List (List V))(h:p.length=o.gv.length):OOk { o with gv:=p }:=⟨ok.ld,ok.ldv,ok.lr,ok.lrv,ok.lp,ok.lg,h.trans ok.lgv,ok.s8,ok.b12,ok.ways,ok.belts⟩
theorem Fo(hc:Hc H (ownCs cs C o++M))(ok:OOk o)(is:OIs H o A){s:Nat}{w:Int}{us:List V}{a:Addr}(hat:o.at s w=some us)(ha:o.atA s w=some a):∃o1,OTo cs C M H (upd H a (.lst (us.eraseIdx 0))) o o1 (A.pop s w):=by
 unfold OR.at at hat
 unfold OR.atA at ha
 unfold OA.pop
 by_cases e:w=-1
 ·rw[if_pos e]at hat ha ⊢
  have hput:=hc.put 1 s rfl (sX ha hat) (.lst (us.eraseIdx 0))
  have tk:Tk H (upd H a (.lst (us.eraseIdx 0))):=(Tk.refl H).put (hc.get 1 s rfl (sX ha hat)) (λz=>z)
  rw[uG ha]at hput
  obtain⟨ts,hts,pt⟩:=is.e.d.gt hat
  have ev:=is.e.tk tk
  refine⟨{ o with dv:=o.dv.set s (us.eraseIdx 0) },rfl,rfl,rfl,hput,ok.dv _ zZ,⟨is.s,is.d,is.p,?_,ev.r,ev.g⟩,tk⟩
  rw[zA,hts]
  exact tZ ev.d (uF (sw (λ_ _ h=>h.tk tk) pt))
 ·rw[if_neg e]at hat ha ⊢
  have hput:=hc.put 2 w.toNat rfl (sX ha hat) (.lst (us.eraseIdx 0))
  have tk:Tk H (upd H a (.lst (us.eraseIdx 0))):=(Tk.refl H).put (hc.get 2 w.toNat rfl (sX ha hat)) (λz=>z)
  rw[uG ha]at hput
  obtain⟨ts,hts,pt⟩:=is.e.r.gt hat
  have ev:=is.e.tk tk
  refine⟨{ o with rv:=o.rv.set w.toNat (us.eraseIdx 0) },rfl,rfl,rfl,hput,ok.rv _ zZ,⟨is.s,is.d,is.p,ev.d,?_,ev.g⟩,tk⟩
  rw[zA,hts]
  exact tZ ev.r (uF (sw (λ_ _ h=>h.tk tk) pt))
theorem FD(hc:Hc H (ownCs cs C o++M))(ok:OOk o)(is:OIs H o A){s:Nat}{gs:List V}{a:Addr}{v:V}{t:Tri}(hg:o.gv[s]?=some gs)(ha:o.ga[s]?=some a)(ht:IsTri H v t):∃o1,OTo cs C M H (upd H a (.lst (gs++[v]))) o o1 (A.log s t):=by
 have hput:=hc.put 3 s rfl (sX ha hg) (.lst (gs++[v]))
 have tk:Tk H (upd H a (.lst (gs++[v]))):=(Tk.refl H).put (hc.get 3 s rfl (sX ha hg)) (λz=>z)
 rw[uG ha]at hput
 obtain⟨ts,hts,pt⟩:=is.e.g.gt hg
 have ev:=is.e.tk tk
 refine⟨{ o with gv:=o.gv.set s (gs++[v]) },rfl,rfl,rfl,hput,ok.gv _ zZ,⟨is.s,is.d,is.p,ev.d,ev.r,?_⟩,tk⟩
 show Paired _ (o.gv.set s (gs++[v])) (A.ge.set s (A.ge.getD s []++[t]))
 rw[zA,hts]
 exact tZ ev.g (sW (sw (λ_ _ h=>h.tk tk) pt) (.cons (ht.tk tk) .nil))
theorem FJ(hc:Hc H (ownCs cs C o++M))(ok:OOk o)(is:OIs H o A){b:Nat}{us:List V}{a:Addr}{v:V}{t:Tri}(hg:o.rv[b]?=some us)(ha:o.ra[b]?=some a)(ht:IsTri H v t):∃o1,OTo cs C M H (upd H a (.lst (us++[v]))) o o1 (A.lay b t):=by
 have hput:=hc.put 2 b rfl (sX ha hg) (.lst (us++[v]))
 have tk:Tk H (upd H a (.lst (us++[v]))):=(Tk.refl H).put (hc.get 2 b rfl (sX ha hg)) (λz=>z)
 rw[uG ha]at hput
 obtain⟨ts,hts,pt⟩:=is.e.r.gt hg
 have ev:=is.e.tk tk
 refine⟨{ o with rv:=o.rv.set b (us++[v]) },rfl,rfl,rfl,hput,ok.rv _ zZ,⟨is.s,is.d,is.p,ev.d,?_,ev.g⟩,tk⟩
 show Paired _ (o.rv.set b (us++[v])) (A.re.set b (A.re.getD b []++[t]))
 rw[zA,hts]
 exact tZ ev.r (sW (sw (λ_ _ h=>h.tk tk) pt) (.cons (ht.tk tk) .nil))
theorem FY{H':Hp}{ft:List Cell}{s:Nat}{r r':SR}{X Y:List SR}(ok:OOk o)(is:OIs H o A)(hs:o.srs[s]?=some r)(eXY:o.srs=X++r::Y)(lX:X.length=s)(hx:r'.x=r.x)(hw:r'.ws=r.ws)(hb:r'.bs=r.bs)
  (hc:Hc H' (ft::srC cs r'::(stC cs X++stC cs Y)::hdC C o::liC o.da o.dv::liC o.ra o.rv::liC o.ga o.gv::M)) (tk:Tk H H'):OTs cs C (ft::M) H H' o { o with srs:=o.srs.set s r' } (A.sta s r'.pu):=by
 have eset:o.srs.set s r'=X++r'::Y:=by rw[eXY,←lX];exact vK
 have erefs:srefs (o.srs.set s r')=srefs o.srs:=vI hs (by rw[hx])
 refine⟨rfl,rfl,?_,⟨?_,?_,ok.lr,ok.lrv,ok.lp,?_,?_,?_,ok.b12,?_,?_⟩,⟨?_,is.d,is.p,(is.e.tk tk).d,(is.e.tk tk).r,(is.e.tk tk).g⟩,tk⟩
 ·have h1:Hc H' (srC cs r'::(stC cs X++stC cs Y)::hdC C o::liC o.da o.dv::liC o.ra o.rv::liC o.ga o.gv::ft::M):=by
   have h0:=hc.tl
   have h2:Hc H' (srC cs r'::(stC cs X++stC cs Y)::ft::hdC C o::liC o.da o.dv::liC o.ra o.rv::liC o.ga o.gv::M):=(hc.pick 2 rfl).pick 2 rfl
   have h3:Hc H' (liC o.ga o.gv::srC cs r'::(stC cs X++stC cs Y)::ft::hdC C o::liC o.da o.dv::liC o.ra o.rv::M):=h2.pick 6 rfl
   have h4:Hc H' (liC o.ra o.rv::liC o.ga o.gv::srC cs r'::(stC cs X++stC cs Y)::ft::hdC C o::liC o.da o.dv::M):=h3.pick 6 rfl
   have h5:Hc H' (liC o.da o.dv::liC o.ra o.rv::liC o.ga o.gv::srC cs r'::(stC cs X++stC cs Y)::ft::hdC C o::M):=h4.pick 6 rfl
   have h6:Hc H' (hdC C o::liC o.da o.dv::liC o.ra o.rv::liC o.ga o.gv::srC cs r'::(stC cs X++stC cs Y)::ft::M):=h5.pick 6 rfl
   exact(h6.pick 5 rfl).pick 5 rfl
  have h2:=DV h1
  have eh:hdC C { o with srs:=o.srs.set s r' }=hdC C o:=by
   show [(_,_),(_,HO.lst (srefs (o.srs.set s r'))),_,_,_,_,_]=_
   rw[erefs]
   rfl
  show Hc H' (hdC C { o with srs:=o.srs.set s r' }::liC o.da o.dv::liC o.ra o.rv::liC o.ga o.gv::stC cs (o.srs.set s r')::ft::M)
  rw[eh,eset]
  have h3:Hc H' (liC o.ga o.gv::stC cs (X++r'::Y)::hdC C o::liC o.da o.dv::liC o.ra o.rv::ft::M):=h2.pick 4 rfl
  have h4:Hc H' (liC o.ra o.rv::liC o.ga o.gv::stC cs (X++r'::Y)::hdC C o::liC o.da o.dv::ft::M):=h3.pick 4 rfl
  have h5:Hc H' (liC o.da o.dv::liC o.ra o.rv::liC o.ga o.gv::stC cs (X++r'::Y)::hdC C o::ft::M):=h4.pick 4 rfl
  exact h5.pick 4 rfl
 ·show o.da.length=(o.srs.set s r').length;rw[zZ];exact ok.ld
 ·show o.dv.length=(o.srs.set s r').length;rw[zZ];exact ok.ldv
 ·show o.ga.length=(o.srs.set s r').length;rw[zZ];exact ok.lg
 ·show o.gv.length=(o.srs.set s r').length;rw[zZ];exact ok.lgv
 ·show(o.srs.set s r').length<=8;rw[zZ];exact ok.s8
 ·exact ut ok.ways (by rw[hw];exact ok.ways r (zE hs))
 ·exact ut ok.belts (by rw[hb];exact ok.belts r (zE hs))
 ·show(o.srs.set s r').map SR.pu=A.srs.set s r'.pu;rw[jN,is.s]
end
inductive spTE(cs:Cs)(C:Addr)(vs:List V)(H:Hp)(Q:VK)(x_3:XK):Prop where
 | mk (o:OR) (M:List (List Cell)) (s m:Nat) (A:OA) (v:V) (t:Tri) (r:SR) (h_0:vs=[.ref o.x,.int (s:Int),v]) (h_1:Hc H (ownCs cs C o++M)) (h_2:OOk o) (h_3:OIs H o A) (h_4:o.srs[s]?=some r) (h_5:(∀q∈o.srs,SOk m q)) (h_6:m<=90000) (h_7:IsTri H v t) (h_8:t.2.1∈r.ws) (h_9:evAt A.de A.re s t.2.1≠[]) (h_10:(∀row∈A.re,row.length<=m)) (h_11:(∀row∈A.ge,row.length<=m)) (h_12:∀(o':OR)(H':Hp),OTs cs C M H H' o o' (A.take s r.pu t)->(∀q∈o'.srs,SOk (m+1) q)->Q .non H'):spTE cs C vs H Q x_3
end Oc
namespace Oc
open PySem L2
theorem EV{α:Type}{F:V->α->Prop}{us:List V}{ts:List α}(h:Paired F us ts)(n:ts≠[]):∃y,us[0]?=some y:=by
 cases h with
 | nil=>exact absurd rfl n
 | cons _ _=>exact⟨_,rfl⟩
section
variable{P:Program}{w:World}{K:PySem.W.Frag}{mg:Str->Option Value}{base:Heap}{cs:Cs}{C:Addr}
theorem EL:FnScope ["self","station","event","put","belt"] ["self","station","event"] (defScope (inClass (top 17) 11)):=⟨rfl,rfl,rfl,by decide +kernel,rfl,by decide +kernel,by decide +kernel⟩
theorem Gc{f:Addr}{fd:FuncData}(F:Fun K "take_event" "Own.take_event" (inClass (top 17) 11) f fd)(T:Txt K mg)(oc:OwC K C)(cc:CsOk K cs)(G_row:MethAt P w K mg base 1 C "row" ["self","station","way"] (spRow cs C))(G_take:∀k,MethAt P w K mg base 2 (cs.of k) "take" ["self","way","piece"] (spTk cs k)):FnOk P w K mg base CX0 3 f fd ["self","station","event"] (spTE cs C):=by
 have nd:=EL.nd
 refine F.ok EL (λvs H Q E h=>?_) (λcdv A outer s H vs Q E hr h=>?_)
 ·obtain⟨o,M,s,m,A,v,t,r,rfl,_⟩:=h
  rfl
 ·obtain⟨o,M,s,m,A,v,t,r,rfl,hc,ok,is,hs,so,m9,ht,hw,hne,lr,lg,q⟩:=h
  obtain⟨p,rfl,hp⟩:=ht
  obtain⟨a1,us,hat⟩:=Cz ok hs hw
  have pe:=Cw is.e hat
  obtain⟨y,hy⟩:=EV pe hne
  refine⟨_,(@sq _ _ _ _ _ (tM (uH PySem.F.plainAttrs_list PySem.F.slot_list_pop PySem.F.type_list_pop vv (uc G_row (hr.mono (by decide)) (pv 0) (@sf _ _ _ _ _ (pv 1) (@sf _ _ _ _ _ (@sE _ _ _ _ _ _ _ (sA (K:=K) rfl) (pv 2) sg (λ_ _=>rfl)) sh (by rfl)) (by rfl))) (@sf _ _ _ _ _ sg sh (by rfl))))
   (@sq _ _ _ _ _ (tM (uH PySem.F.plainAttrs_list PySem.F.slot_list_append PySem.F.type_list_append tL (@sE _ _ _ _ _ _ _ (sO (K:=K) rfl) (sQ (K:=K) rfl (pv 0) rfl) (pv 1) (λ_ _=>rfl)) (@sf _ _ _ _ _ (pv 2) sh (by rfl))))
   (@sq _ _ _ _ _ (sL (i:=3) nd rfl (by nofun) (Dq (cls:=cs.of) (sp:=spTk cs) G_take (hr.mono (by decide)) (@sE _ _ _ _ _ _ _ (sO (K:=K) rfl) (sQ (K:=K) rfl (pv 0) rfl) (pv 1) (λ_ _=>rfl)) (@sf _ _ _ _ _ (@sE _ _ _ _ _ _ _ (sA (K:=K) rfl) (pv 2) sg (λ_ _=>rfl)) (@sf _ _ _ _ _ (@sE _ _ _ _ _ _ _ (sA (K:=K) rfl) (pv 2) sg (λ_ _=>rfl)) sh (by rfl)) (by rfl))))
   (@sy _ _ _ (tG (sJ u_ (pv 3) tY (sP _)) (@sq _ _ _ _ _ (sL (i:=4) nd rfl (by nofun) (@sE _ _ _ _ _ _ _ (sA (K:=K) rfl) (pv 3) sg (λ_ _=>rfl)))
   (@sy _ _ _ (tM (uH PySem.F.plainAttrs_list PySem.F.slot_list_append PySem.F.type_list_append tL (@sE _ _ _ _ _ _ _ (sO (K:=K) rfl) (sQ (K:=K) rfl (pv 0) rfl) (pv 4) (λ_ _=>rfl)) (@sf _ _ _ _ _ (@tj _ _ _ _ _ (@sf _ _ _ _ _ (sK tH (@sE _ _ _ _ _ _ _ (sA (K:=K) rfl) (pv 2) sg (λ_ _=>rfl)) (@sE _ _ _ _ _ _ _ (sO (K:=K) rfl) (sQ (K:=K) rfl (pv 0) rfl) (pv 4) (λ_ _=>rfl))) (@sf _ _ _ _ _ (pv 4) (@sf _ _ _ _ _ (@sE _ _ _ _ _ _ _ (sA (K:=K) rfl) (pv 3) sg (λ_ _=>rfl)) sh (by rfl)) (by rfl)) (by rfl))) sh (by rfl)))))) sS))))),?_⟩
  refine⟨_,rfl,o.x,o.dx,o.flds,rfl,hc.get 0 0 rfl rfl,f_m (by decide +kernel),_,rfl,_,rfl,⟨_,_,_,_,rfl,rfl,SqT.of hp,su (j:=1) rfl,o,M,s,t.2.1,us,rfl,hc,ok,a1,hat,λa ha hl=>⟨tyL hl,a,us,0,0,y,rfl,rfl,hl,by decide,by decide,seqIndex_of (k:=0) (by decide) (by have:=(zD.mp hy).1;omega),hy,?_⟩⟩⟩
  obtain⟨o1,t1⟩:=Fo hc ok is hat ha
  generalize upd H a (.lst (us.eraseIdx 0))=H1 at t1 ⊢
  have hx1:=t1.hc.get 0 0 rfl rfl
  rw[t1.x]at hx1
  have hp1:=t1.tk.tup hp
  have hs1:o1.srs[s]?=some r:=by rw[t1.s];exact hs
  have hsl:=(zD.mp hs1).1
  have lgv:=t1.ok.lgv
  obtain⟨gs,hgs⟩:∃gs,o1.gv[s]?=some gs:=⟨o1.gv[s]'(by omega),zB _⟩
  obtain⟨ga,hga,hgl⟩:=t1.ok.log t1.hc hgs
  obtain⟨tg,htg,ptg⟩:=t1.is.e.g.gt hgs
  have lgs:gs.length<=90000:=by
   rw[ptg.length]
   have e0:(A.pop s t.2.1).ge=A.ge:=by unfold OA.pop;split <;>rfl
   rw[e0]at htg
   exact z0 (lg _ (zE htg)) m9
  refine⟨_,rfl,o.x,C,o1.dx,o1.flds,_,rfl,hx1,oc.cl,oc.n6,Dl,_,rfl,⟨_,_,_,_,rfl,rfl,SqL.of (t1.hc.get 0 6 rfl rfl),su (uE hga),tyL hgl,_,rfl,ga,gs,_,rfl,rfl,hgl,vn (by omega),?_⟩⟩
  obtain⟨o2,t2⟩:=FD t1.hc t1.ok t1.is hgs hga (v:=.ref p) (t:=t) ⟨p,rfl,hp1⟩
  generalize upd H1 ga (.lst (gs++[.ref p]))=H2 at t2 ⊢
  have ex2:o2.x=o.x:=t2.x.trans t1.x
  have hx2:=t2.hc.get 0 0 rfl rfl
  rw[ex2]at hx2
  have hs2:o2.srs[s]?=some r:=by rw[t2.s];exact hs1
  have hp2:=t2.tk.tup hp1
  have T2:=t1.tk.trans t2.tk
  obtain⟨X,Y,eXY,lX⟩:=ya hs2
  have hcT:Hc H2 (srC cs r::(stC cs X++stC cs Y)::hdC C o2::liC o2.da o2.dv::liC o2.ra o2.rv::liC o2.ga o2.gv::M):=Em (by rw[←eXY];exact t2.hc.pick 4 rfl)
  have hjm:r.ws[r.ws.idxOf t.2.1]?=some t.2.1:=by
   have hlt:r.ws.idxOf t.2.1<r.ws.length:=kT.mpr hw
   rw[zB hlt,List.getElem_idxOf]
  refine⟨_,rfl,o.x,C,o2.dx,o2.flds,_,rfl,hx2,oc.cl,oc.n1,wT,_,rfl,⟨_,_,_,_,rfl,rfl,SqL.of (t2.hc.get 0 1 rfl rfl),su (u6 hs2),r.x,r.k,r.dx,_,rfl,hcT.get 0 0 rfl rfl,r.flds_no (by decide +kernel) (by decide +kernel) (by decide +kernel) (by decide +kernel) (by decide +kernel) (by decide +kernel),_,rfl,⟨_,_,_,_,rfl,rfl,SqT.of hp2,su (j:=1) rfl,_,rfl,⟨_,_,_,_,rfl,rfl,SqT.of hp2,su (j:=2) rfl,?_⟩⟩⟩⟩
  refine⟨r,r.ws.idxOf t.2.1,m,t.2.1,t.2.2,_,rfl,rfl,hcT,so r (zE hs),m9,hjm,λv ft H3 hput hc3 tk3=>?_⟩
  have nx:=r.nxt_x (r.ws.idxOf t.2.1) t.2.2
  have t3:=FY t2.ok t2.is hs2 eXY lX nx.1 nx.2.2.1 nx.2.2.2 hc3 tk3
  have npu:=r.nxt_pu (r.ws.idxOf t.2.1) t.2.2
  rw[npu]at t3
  have so3:∀q∈o2.srs.set s (r.nxt (r.ws.idxOf t.2.1) t.2.2),SOk (m+1) q:=ut (λq hq=>(so q (by rw[←t1.s,←t2.s];exact hq)).le (yZ m)) ((so r (zE hs)).nxt _ _)
  have T3:=T2.trans tk3
  have ew:(A.take s r.pu t)=OA.put (((A.pop s t.2.1).log s t).sta s (r.pu.nxt (r.ws.idxOf t.2.1) t.2.2)) t (r.pu.out (r.ws.idxOf t.2.1) t.2.2):=rfl
  have eo:=r.out_pu (r.ws.idxOf t.2.1) t.2.2
  rw[eo]at hput
  generalize ho:r.pu.out (r.ws.idxOf t.2.1) t.2.2=out at hput ew
  generalize hA3:((A.pop s t.2.1).log s t).sta s (r.pu.nxt (r.ws.idxOf t.2.1) t.2.2)=A3 at t3 ew
  have eA3:A3.dl=A.dl/\∀row∈A3.re,row.length<=m:=by
   rw[←hA3]
   unfold OA.sta OA.log OA.pop
   split
   ·exact⟨rfl,lr⟩
   ·refine⟨rfl,ut lr ?_⟩
    rw[j9,zA]
    cases e:A.re[t.2.1.toNat]? with
    | none=>exact zV _
    | some row=>have:=lr row (zE e);show row.length-1<=m;omega
  rw[ew]at q
  obtain⟨o3,t3,so3⟩:∃o3,OTs cs C (ft::M) H2 H3 o2 o3 A3/\∀q∈o3.srs,SOk (m+1) q:=⟨_,t3,so3⟩
  cases hput with
  | no =>
   refine⟨_,rfl,rfl,_,rfl,iteF ?_⟩
   exact q _ H3 ⟨t3.x.trans ex2,t3.d.trans (t2.d.trans t1.d),t3.hc.pick 5 rfl |>.tl,t3.ok,t3.is,T3⟩ so3
  | yes b y' pt =>
   have hpt:=t3.hc.get 5 0 rfl rfl
   have hb:=SP.out_in ho
   obtain⟨b0,b1⟩:=ok.belts r (zE hs) b hb
   obtain⟨bn,rfl⟩:∃bn:Nat,b=(bn:Int):=⟨b.toNat,by omega⟩
   have hx3:=t3.hc.get 0 0 rfl rfl
   rw[t3.x,ex2]at hx3
   have ed3:=t3.d.trans (t2.d.trans t1.d)
   have hp3:=T3.tup hp
   refine⟨_,rfl,rfl,_,rfl,iteT ⟨_,rfl,⟨_,_,_,_,rfl,rfl,SqT.of hpt,su (j:=0) rfl,?_⟩⟩⟩
   have hcM:=(t3.hc.pick 5 rfl).tl
   have ok3:=t3.ok
   have is3:=t3.is
   have lrv:=ok3.lrv
   obtain⟨us3,hus3⟩:∃us,o3.rv[bn]?=some us:=⟨o3.rv[bn]'(by omega),zB _⟩
   obtain⟨ra,hra,hrl⟩:=ok3.belt hcM hus3
   obtain⟨d,hd⟩:∃d,o3.dels[bn]?=some d:=⟨o3.dels[bn]'(by omega),zB _⟩
   obtain⟨tr,htr,ptr⟩:=is3.e.r.gt hus3
   have lus:us3.length<=90000:=by
    rw[ptr.length]
    exact z0 (eA3.2 _ (zE htr)) m9
   have ed:A3.dl.getD bn 0=d:=by rw[←is3.d,zA,hd];rfl
   refine⟨_,rfl,o.x,C,o3.dx,o3.flds,_,rfl,hx3,oc.cl,oc.n4,Ah,_,rfl,⟨_,_,_,_,rfl,rfl,SqL.of (hcM.get 0 4 rfl rfl),su (uE hra),tyL hrl,_,rfl,⟨_,_,_,_,rfl,rfl,SqT.of hp3,su (j:=0) rfl,_,rfl,o.x,C,o3.dx,o3.flds,_,rfl,hx3,oc.cl,oc.n2,Ce,_,rfl,⟨_,_,_,_,rfl,rfl,SqL.of (hcM.get 0 2 rfl rfl),su (by rw[zF,hd];rfl),_,_,rfl,rfl,_,rfl,_,rfl,⟨_,_,_,_,rfl,rfl,SqT.of hpt,su (j:=1) rfl,(by show 3<=sizeLine;decide),λpn nn=>?_⟩⟩⟩⟩⟩
   have s4:=Same.new (o:=.tup (triV (t.1+d,(bn:Int),y'))) nn
   have g4:=ss (H:=H3) (a:=pn) (o:=.tup (triV (t.1+d,(bn:Int),y')))
   change rAppend _ _ (upd H3 pn (.tup (triV (t.1+d,(bn:Int),y')))) _
   generalize upd H3 pn (.tup (triV (t.1+d,(bn:Int),y')))=H4 at s4 g4 ⊢
   refine⟨ra,us3,_,rfl,rfl,s4 _ _ hrl,vn (by omega),?_⟩
   obtain⟨o5,t5⟩:=FJ (hcM.same s4) ok3 (is3.tk (Tk.of s4)) hus3 hra (v:=.ref pn) (t:=(t.1+d,(bn:Int),y')) ⟨pn,rfl,g4⟩
   generalize upd H4 ra (.lst (us3++[.ref pn]))=H5 at t5 ⊢
   have ep:OA.put A3 t (some ((bn:Int),y'))=A3.lay bn (t.1+d,(bn:Int),y'):=by
    show A3.lay (Int.toNat (bn:Int)) _=_
    rw[zU,ed]
   rw[ep]at q
   exact q o5 H5 ⟨t5.x.trans (t3.x.trans ex2),t5.d.trans ed3,t5.hc,t5.ok,t5.is,T3.trans ((Tk.of s4).trans t5.tk)⟩ (by rw[t5.s];exact so3)
end
end Oc
namespace Oc
open PySem L2
def OA.tkn(A:OA)(s:Nat)(p:SP):Option Tri:=match A.upc s p.ws with
 | none=>none
 | some t=>if A.may p.ws t=true then some t else none
def OA.aft(A:OA)(s:Nat)(p:SP):OA:=match A.tkn s p with
 | none=>A
 | some t=>A.take s p t
def OA.rsd(A:OA)(s:Nat)(p:SP):OA×Bool:=A.rps (A.clk s p.ws) p.bs
def OA.stp(A:OA)(s:Nat)(p:SP):OA×Str:=(((A.aft s p).rsd s p).1,if (A.tkn s p).isSome=true then "took" else if ((A.aft s p).rsd s p).2=true then "raised" else "none")
structure AOk(m:Nat)(A:OA):Prop where
 d:∀row∈A.de,∀t∈row,t.2.1=-1
 r:∀(j:Nat) row,A.re[j]?=some row->∀t∈row,t.2.1=(j:Int)
 lr:∀row∈A.re,row.length<=m
 lg:∀row∈A.ge,row.length<=m
theorem AOk.le{m n:Nat}{A:OA}(h:AOk m A)(e:m<=n):AOk n A:=⟨h.d,h.r,λrow hr=>z0 (h.lr row hr) e,λrow hr=>z0 (h.lg row hr) e⟩
theorem ur{l:List (List Tri)}{i:Nat}{p:List Tri->Prop}(h0:p [])(h:∀row∈l,p row):p (l.getD i []):=by
 rw[zA]
 cases e:l[i]? with
 | none=>exact h0
 | some r=>exact h r (zE e)
theorem AOk.pop{m:Nat}{A:OA}(h:AOk m A)(s:Nat)(w:Int):AOk m (A.pop s w):=by
 unfold OA.pop
 split
 ·refine⟨ut h.d λt ht=>?_,h.r,h.lr,h.lg⟩
  exact ur (p:=λrow=>∀t∈row,t.2.1=-1) (λ_ z=>absurd z zI) h.d t (qW ht)
 ·refine⟨h.d,λj row hj t ht=>?_,ut h.lr ?_,h.lg⟩
  ·by_cases e:w.toNat=j
   ·by_cases hl:j<A.re.length
    ·rw[e,qJ hl]at hj
     cases hj
     rw[zA,zB hl]at ht
     exact h.r j _ (zB hl) t (qW ht)
    ·rw[yH (by rw[zZ];omega)]at hj
     cases hj
   ·rw[qX e]at hj
    exact h.r j row hj t ht
  ·have:=ur (i:=w.toNat) (p:=λrow=>row.length<=m) (zV _) h.lr
   rw[j9]
   omega
theorem AOk.log{m:Nat}{A:OA}(h:AOk m A)(s:Nat)(t:Tri):AOk (m+1) (A.log s t):=by
 have h':=h.le (yZ m)
 refine⟨h'.d,h'.r,h'.lr,ut h'.lg ?_⟩
 have:=ur (i:=s) (p:=λrow=>row.length<=m) (zV _) h.lg
 rw[zM]
 show _+1<=_
 omega
theorem AOk.put{m:Nat}{A:OA}(hr:∀row∈A.re,row.length<=m)(h:AOk (m+1) A)(t:Tri)(o:Option (Int×Int))(ho:∀b y,o=some (b,y)->0<=b):AOk (m+1) (A.put t o):=by
 cases o with
 | none=>exact h
 | some p =>
  obtain⟨b,y⟩:=p
  have b0:=ho b y rfl
  refine⟨h.d,λj row hj u hu=>?_,ut h.lr ?_,h.lg⟩
  ·replace hj:(A.re.set b.toNat (A.re.getD b.toNat []++[(t.1+A.dl.getD b.toNat 0,b,y)]))[j]?=some row:=hj
   by_cases e:b.toNat=j
   ·by_cases hl:j<A.re.length
    ·rw[e,qJ hl]at hj
     cases hj
     rcases yA.mp hu with z|z
     ·rw[zA,zB hl]at z
      exact h.r j _ (zB hl) u z
     ·rw[zG.mp z]
      show b=(j:Int)
      omega
    ·rw[yH (by rw[zZ];omega)]at hj
     cases hj
   ·rw[qX e]at hj
    exact h.r j row hj u hu
  ·have:=ur (i:=b.toNat) (p:=λrow=>row.length<=m) (zV _) hr
   rw[zM]
   show _+1<=_
   omega
theorem AOk.take{m:Nat}{A:OA}(h:AOk m A)(s:Nat)(p:SP)(t:Tri)(hb:∀b∈p.bs,0<=b):AOk (m+1) (A.take s p t):=by
 have h1:=(h.pop s t.2.1)
 have h2:=h1.log s t
 refine AOk.put (A:=((A.pop s t.2.1).log s t).sta s _) h1.lr ⟨h2.d,h2.r,h2.lr,h2.lg⟩ t _ λb y e=>hb b (SP.out_in e)
theorem wR(A:OA)(now:Option Int)(b:Nat):(A.rp1 now b).1.de=A.de/\(A.rp1 now b).1.re=A.re/\(A.rp1 now b).1.ge=A.ge:=by
 unfold OA.rp1
 split <;>exact⟨rfl,rfl,rfl⟩
theorem zi(now:Option Int)(A:OA):∀(bs:List Int)(B:OA)(c:Bool),B.de=A.de/\B.re=A.re/\B.ge=A.ge->(bs.foldl (λp b=>((p.1.rp1 now b.toNat).1,p.2||(p.1.rp1 now b.toNat).2)) (B,c)).1.de=A.de/\(bs.foldl (λp b=>((p.1.rp1 now b.toNat).1,p.2||(p.1.rp1 now b.toNat).2)) (B,c)).1.re=A.re/\(bs.foldl (λp b=>((p.1.rp1 now b.toNat).1,p.2||(p.1.rp1 now b.toNat).2)) (B,c)).1.ge=A.ge
 | [],_,_,h=>h
 | b::bs,B,c,h=>zi now A bs _ _ ⟨(wR B now b.toNat).1.trans h.1,(wR B now b.toNat).2.1.trans h.2.1,(wR B now b.toNat).2.2.trans h.2.2⟩
theorem AOk.rsd{m:Nat}{A:OA}(h:AOk m A)(s:Nat)(p:SP):AOk m (A.rsd s p).1:=by
 obtain⟨e1,e2,e3⟩:=zi (A.clk s p.ws) A p.bs A false ⟨rfl,rfl,rfl⟩
 exact⟨by show ∀row∈(A.rps _ _).1.de,_;unfold OA.rps;rw[e1];exact h.d,by show ∀j row,(A.rps _ _).1.re[j]?=_->_;unfold OA.rps;rw[e2];exact h.r,by show ∀row∈(A.rps _ _).1.re,_;unfold OA.rps;rw[e2];exact h.lr,by show ∀row∈(A.rps _ _).1.ge,_;unfold OA.rps;rw[e3];exact h.lg⟩
theorem F7{m:Nat}{A:OA}(h:AOk m A){s:Nat}{ws:List Int}(hw:∀w∈ws,w=-1\/0<=w){t:Tri}(e:A.upc s ws=some t):t.2.1∈ws/\evAt A.de A.re s t.2.1≠[]:=by
 have hm:=zE e
 unfold OA.hds at hm
 obtain⟨w,hw1,hh⟩:=yT.mp hm
 have hin:t∈evAt A.de A.re s w:=jW hh
 have ew:t.2.1=w:=by
  unfold evAt at hin
  split at hin
  ·rename_i z
   rw[z]
   exact ur (p:=λrow=>∀t∈row,t.2.1=-1) (λ_ z=>absurd z zI) h.d t hin
  ·rename_i z
   have w0:=(hw w hw1).resolve_left z
   rw[zA]at hin
   cases er:A.re[w.toNat]? with
   | none=>rw[er]at hin;exact absurd hin zI
   | some row =>
    rw[er]at hin
    have:=h.r w.toNat row er t hin
    omega
 rw[ew]
 exact⟨hw1,List.ne_nil_of_mem hin⟩
def TkP(P:Addr)(H H':Hp):Prop:=∀b u,H b=some u->ImmO u->b≠P->H' b=some u
theorem TkP.tk{P:Addr}{H H1 H2:Hp}(a:TkP P H H1)(b:Tk H1 H2):TkP P H H2:=λc u e i n=>b c u (a c u e i n) i
theorem TkP.of{P:Addr}{H H1:Hp}(k:Keep [P] H H1):TkP P H H1:=λb u e _ n=>k b u e (by rw[zG];exact n)
theorem _root_.L2.LamT.tkm{P:Addr}{q:Str}{ln cl:Nat}{H H':Hp}(h:LamT P q ln cl H)(k:Tk H H'):LamT P q ln cl H':=by
 rcases h with h|⟨c',h1,h2⟩
 ·exact .inl (k _ _ h trivial)
 ·exact .inr ⟨c',k _ _ h1 trivial,k _ _ h2 trivial⟩
theorem DY{cs:Cs}{C:Addr}{o:OR}{M:List (List Cell)}(n:NoT M):NoT (ownCs cs C o++M):=by
 refine NoT.cons (λx hx=>?_) (NoT.cons vV (NoT.cons vV (NoT.cons vV (NoT.cons (B8 cs o.srs) n))))
 simp only [hdC,zR,zI,or_false]at hx
 rcases hx with e|e|e|e|e|e|e <;>rw[e] <;>exact λ_ z=>nomatch z
theorem _root_.L2.Hc.keepP{P:Addr}{q:Str}{ln cl:Nat}{H H':Hp}{Ms:List (List Cell)}(h:Hc H Ms)(n:NoT Ms)(hT:LamT P q ln cl H)(k:Keep [P] H H'):Hc H' Ms:=⟨h.1,λc hc=>k _ _ (h.2 c hc) (by rw[zG];exact hT.ne (h.2 c hc) (n c hc))⟩
theorem OIs.kp{P:Addr}{q:Str}{ln cl:Nat}{H H':Hp}{o:OR}{A:OA}(hT:LamT P q ln cl H)(k:Keep [P] H H')(h:OIs H o A):OIs H' o A :=
 ⟨h.s,h.d,h.p,sw (λ_ _ h=>sw (λ_ _ h=>Keep.tri k hT h) h) h.e.d,sw (λ_ _ h=>sw (λ_ _ h=>Keep.tri k hT h) h) h.e.r,sw (λ_ _ h=>sw (λ_ _ h=>Keep.tri k hT h) h) h.e.g⟩
structure OSt(cs:Cs)(C Pu:Addr)(M:List (List Cell))(m:Nat)(H H':Hp)(o o':OR)(A':OA):Prop where
 x:o'.x=o.x
 d:o'.dels=o.dels
 l:o'.srs.length=o.srs.length
 hc:Hc H' (ownCs cs C o'++M)
 ok:OOk o'
 is:OIs H' o' A'
 so:∀q∈o'.srs,SOk (m+1) q
 ao:AOk (m+1) A'
 up:UpT Pu H'
 tk:TkP Pu H H'
inductive spStep(cs:Cs)(C Pu:Addr)(vs:List V)(H:Hp)(Q:VK)(x_3:XK):Prop where
 | mk (o:OR) (M:List (List Cell)) (s m:Nat) (A:OA) (r:SR) (h_0:vs=[.ref o.x,.int (s:Int)]) (h_1:Hc H (ownCs cs C o++M)) (h_2:NoT M) (h_3:OOk o) (h_4:OIs H o A) (h_5:o.srs[s]?=some r) (h_6:(∀q∈o.srs,SOk m q)) (h_7:m<=90000) (h_8:AOk m A) (h_9:UpT Pu H) (h_10:∀(o':OR)(H':Hp),OSt cs C Pu M m H H' o o' (A.stp s r.pu).1->Q (.str (A.stp s r.pu).2) H'):spStep cs C Pu vs H Q x_3
theorem uQ(A:OA)(s:Nat)(p:SP)(t:Tri):(A.take s p t).srs=A.srs.set s (p.nxt (p.ws.idxOf t.2.1) t.2.2):=by
 unfold OA.take
 have e:∀(B:OA)(o:Option (Int×Int)),(B.put t o).srs=B.srs:=λB o=>by cases o <;>rfl
 rw[e]
 show(OA.pop A s t.2.1).srs.set s _=_
 have e2:(OA.pop A s t.2.1).srs=A.srs:=by unfold OA.pop;split <;>rfl
 rw[e2]
section
variable{P:Program}{w:World}{K:PySem.W.Frag}{mg:Str->Option Value}{base:Heap}{cs:Cs}{C:Addr}
theorem AW:FnScope ["self","station","event","took","raised"] ["self","station"] (defScope (inClass (top 17) 5)):=⟨rfl,rfl,rfl,by decide +kernel,rfl,by decide +kernel,by decide +kernel⟩
theorem DN{f Pu:Addr}{fd:FuncData}(F:Fun K "step" "Own.step" (inClass (top 17) 5) f fd)(G_upcoming:MethAt P w K mg base 2 C "upcoming" ["self","station"] (spUpc cs C Pu))(G_may_take:MethAt P w K mg base 2 C "may_take" ["self","station","event"] (spMay cs C))(G_take_event:MethAt P w K mg base 3 C "take_event" ["self","station","event"] (spTE cs C))(G_raise_promises:MethAt P w K mg base 4 C "raise_promises" ["self","station"] (spRps cs C)):FnOk P w K mg base CX0 5 f fd ["self","station"] (spStep cs C Pu):=by
 have nd:=AW.nd
 refine F.ok AW (λvs H Q E h=>?_) (λcdv A outer s H vs Q E hr h=>?_)
 ·obtain⟨o,M,s,m,A,r,rfl,_⟩:=h
  rfl
 ·obtain⟨o,M,s,m,A,r,rfl,hc,nT,ok,is,hs,so,m9,ao,hT,q⟩:=h
  have l100:=(so r (zE hs)).l1
  have wok:∀w∈r.ws,w=-1\/0<=w:=λw hw=>(ok.ways r (zE hs) w hw).imp id And.left
  have bok:∀b∈r.bs,0<=b:=λb hb=>(ok.belts r (zE hs) b hb).1
  refine⟨_,(@sq _ _ _ _ _ (sL (i:=2) nd rfl (by nofun) (uc G_upcoming (hr.mono (by decide)) (pv 0) (@sf _ _ _ _ _ (pv 1) sh (by rfl))))
   (@sq _ _ _ _ _ (sL (i:=3) nd rfl (by nofun) (Cl (uR u_ (pv 2) tY (sP _)) (Ae (uc G_may_take (hr.mono (by decide)) (pv 0) (@sf _ _ _ _ _ (pv 1) (@sf _ _ _ _ _ (pv 2) sh (by rfl)) (by rfl))))))
   (@sq _ _ _ _ _ (tG (uI (pv 3)) (@sy _ _ _ (tM (uc G_take_event (hr.mono (by decide)) (pv 0) (@sf _ _ _ _ _ (pv 1) (@sf _ _ _ _ _ (pv 2) sh (by rfl)) (by rfl))))) sS)
   (@sq _ _ _ _ _ (sL (i:=4) nd rfl (by nofun) (uc G_raise_promises (hr.mono (by decide)) (pv 0) (@sf _ _ _ _ _ (pv 1) sh (by rfl))))
   (@sq _ _ _ _ _ (tG (uI (pv 3)) (@sy _ _ _ (@sN _ _ _ _ tW)) sS)
   (@sy _ _ _ (@sN _ _ _ _ (uM (uI (pv 4)) tW tW)))))))),?_⟩
  refine⟨_,rfl,o.x,o.dx,o.flds,rfl,hc.get 0 0 rfl rfl,f_m (by decide +kernel),_,rfl,o,M,s,A,r,rfl,hc,ok,is,hs,l100,hT,λv H1 kp hT1 hv=>?_⟩
  have hc1:=hc.keepP (DY nT) hT kp
  have is1:=is.kp hT kp
  have k1:TkP Pu H H1:=TkP.of kp
  have hx1:=hc1.get 0 0 rfl rfl
  have fin0:A.tkn s r.pu=none->∀(o':OR)(H':Hp),OTo cs C M H1 H' o o' (A.rps (A.clk s r.ws) r.bs).1->Q (.str (if (A.rps (A.clk s r.ws) r.bs).2=true then "raised" else "none")) H':=λe o' H' t=>by
   have ea:A.aft s r.pu=A:=by unfold OA.aft;rw[e]
   have h0:=q o' H'
   unfold OA.stp at h0
   rw[ea,e]at h0
   exact h0 ⟨t.x,t.d,by rw[t.s],t.hc,t.ok,t.is,by rw[t.s];exact λq hq=>(so q hq).le (yZ m),(ao.rsd s r.pu).le (yZ m),hT1.tkm t.tk,k1.tk t.tk⟩
  cases hu:A.upc s r.ws with
  | none =>
   rw[hu]at hv
   replace hv:v=.non:=hv
   subst hv
   have e0:A.tkn s r.pu=none:=by unfold OA.tkn;rw[show r.pu.ws=r.ws from rfl,hu]
   refine⟨_,rfl,rfl,⟨_,rfl,iteF ?_⟩⟩
   refine⟨_,rfl,_,rfl,iteF ?_⟩
   refine⟨_,rfl,o.x,o.dx,o.flds,rfl,hx1,f_m (by decide +kernel),_,rfl,o,M,s,A,r,rfl,hc1,ok,is1,hs,l100,λo' H' t=>?_⟩
   refine⟨_,rfl,_,rfl,iteF ⟨_,rfl,_,rfl,?_⟩⟩
   have:=fin0 e0 o' H' t
   cases eb:(A.rps (A.clk s r.ws) r.bs).2 with
   | true=>rw[eb]at this;exact iteT this
   | false=>rw[eb]at this;exact iteF this
  | some t =>
   rw[hu]at hv
   replace hv:IsTri H1 v t:=hv
   obtain⟨hw,hne⟩:=F7 ao wok hu
   obtain⟨p,rfl,hp⟩:=hv
   refine⟨_,rfl,rfl,⟨_,rfl,iteT ?_⟩⟩
   refine⟨_,rfl,o.x,o.dx,o.flds,rfl,hx1,f_m (by decide +kernel),_,rfl,_,rfl,o,M,s,A,.ref p,t,r,rfl,hc1,ok,is1,hs,l100,⟨p,rfl,hp⟩,λH2 s2=>?_⟩
   have hc2:=hc1.same s2
   have is2:=is1.tk (Tk.of s2)
   have hx2:=hc2.get 0 0 rfl rfl
   cases hm:A.may r.ws t with
   | false =>
    have e0:A.tkn s r.pu=none:=by unfold OA.tkn;rw[show r.pu.ws=r.ws from rfl,hu];show(if A.may r.ws t=true then _ else _)=_;rw[hm];rfl
    refine⟨_,rfl,_,rfl,iteF ?_⟩
    refine⟨_,rfl,o.x,o.dx,o.flds,rfl,hx2,f_m (by decide +kernel),_,rfl,o,M,s,A,r,rfl,hc2,ok,is2,hs,l100,λo' H' t=>?_⟩
    refine⟨_,rfl,_,rfl,iteF ⟨_,rfl,_,rfl,?_⟩⟩
    have:=fin0 e0 o' H' ⟨t.x,t.s,t.d,t.hc,t.ok,t.is,(Tk.of s2).trans t.tk⟩
    cases eb:(A.rps (A.clk s r.ws) r.bs).2 with
    | true=>rw[eb]at this;exact iteT this
    | false=>rw[eb]at this;exact iteF this
   | true =>
    have e0:A.tkn s r.pu=some t:=by unfold OA.tkn;rw[show r.pu.ws=r.ws from rfl,hu];show(if A.may r.ws t=true then _ else _)=_;rw[hm];rfl
    have ea:A.aft s r.pu=A.take s r.pu t:=by unfold OA.aft;rw[e0]
    refine⟨_,rfl,_,rfl,iteT ?_⟩
    refine⟨_,rfl,o.x,o.dx,o.flds,rfl,hx2,f_m (by decide +kernel),_,rfl,_,rfl,o,M,s,m,A,.ref p,t,r,rfl,hc2,ok,is2,hs,so,m9,⟨p,rfl,s2 _ _ hp⟩,hw,hne,ao.lr,ao.lg,λo1 H3 t1 so1=>?_⟩
    have ls1:o1.srs.length=o.srs.length:=by
     have e1:=congrArg List.length t1.is.s
     have e2:=congrArg List.length is.s
     rw[zC]at e1 e2
     rw[e1,e2,uQ,zZ]
    have hsl:=(zD.mp hs).1
    obtain⟨r1,hr1⟩:∃r1,o1.srs[s]?=some r1:=⟨o1.srs[s]'(by omega),zB _⟩
    have er1:r1.pu=r.pu.nxt (r.pu.ws.idxOf t.2.1) t.2.2:=by
     have e1:(o1.srs.map SR.pu)[s]?=some r1.pu:=by rw[zF,hr1];rfl
     rw[t1.is.s,uQ,qJ (by rw[←is.s,zC];exact hsl)]at e1
     exact(Option.some.inj e1).symm
    have ew:r1.ws=r.ws:=by
     have:=congrArg SP.ws er1
     rw[SP.nxt_ws]at this
     exact this
    have eb1:r1.bs=r.bs:=by
     have:=congrArg SP.bs er1
     rw[SP.nxt_bs]at this
     exact this
    have hx3:=t1.hc.get 0 0 rfl rfl
    rw[t1.x]at hx3
    refine⟨_,rfl,o.x,o1.dx,o1.flds,rfl,hx3,f_m (by decide +kernel),_,rfl,o1,M,s,A.take s r.pu t,r1,(by rw[t1.x];rfl),t1.hc,t1.ok,t1.is,hr1,(by rw[ew];exact l100),λo' H' t2=>?_⟩
    rw[ew,eb1]at t2
    refine⟨_,rfl,_,rfl,iteT ?_⟩
    have h0:=q o' H'
    unfold OA.stp at h0
    rw[ea,e0]at h0
    refine h0 ⟨t2.x.trans t1.x,t2.d.trans t1.d,by rw[t2.s];exact ls1,t2.hc,t2.ok,t2.is,by rw[t2.s];exact so1,((ao.take s r.pu t bok).rsd s r.pu),hT1.tkm ((Tk.of s2).trans (t1.tk.trans t2.tk)),k1.tk ((Tk.of s2).trans (t1.tk.trans t2.tk))⟩
end
end Oc
namespace Oc
open PySem L2
theorem DX{K:PySem.W.Frag}{H:Hp}{p:Addr}{us:List V}{ts:List Tri}(h:H p=some (.lst us))(r:Paired (IsTri H) us ts):Dt K H 2 (.ref p) (.list (ts.map triD)):=.lst (SqL.of h) (DtAll.of (f:=triD) (P:=IsTri H) (λ_ _ h=>h.dt) r)
theorem wM{α β γ:Type}{F:α->β->Prop}{G:α->γ->Prop}{f:β->γ}:∀{l:List α}{m:List β},(∀a b,F a b->G a (f b))->Paired F l m->Paired G l (m.map f)
 | _,_,_,.nil=>.nil
 | _,_,h,.cons p r=>.cons (h _ _ p) (wM h r)
end Oc
namespace Oc
open PySem L2
def Sk(H H':Hp):Prop:=∀b u,H b=some u->(∀ps,u≠HO.tbl ps)->H' b=some u
def noTbl:HO->Bool
 | .tbl _=>false
 | _=>true
theorem LsAt.sk{H H':Hp}(k:Sk H H'){s b f:Addr}{W:Wk}{xs ys zs:List V}(h2:LsAt H s b f W xs ys zs):LsAt H' s b f W xs ys zs:=by
 refine⟨k _ _ h2.hs (λ_ z=>nomatch z),k _ _ h2.hb (λ_ z=>nomatch z),k _ _ h2.hf (λ_ z=>nomatch z),sw (λ_ _ h=>?_) h2.ps,sw (λ_ _ h=>?_) h2.pb,sw (λ_ _ h=>?_) h2.pf⟩
 all_goals
  obtain⟨q,e,r⟩:=h
  exact⟨q,e,k _ _ r (λ_ z=>nomatch z)⟩
theorem BA{K:PySem.W.Frag}{H:Hp}{a:Addr}{xs:List V}(h:SqL K H a xs):∃cs:List Cell,(∀c∈cs,H c.1=some c.2)/\(∀c∈cs,noTbl c.2=true)/\∀H':Hp,(∀c∈cs,H' c.1=some c.2)->SqL K H' a xs:=by
 rcases h with (h|⟨o,h⟩)|h
 ·exact⟨[(a,.lst xs)],λc hc=>by rw[zG.mp hc];exact h,λc hc=>by rw[zG.mp hc];rfl,λH' h'=>.inl (.inl (h' _ zJ))⟩
 ·exact⟨[(a,.frz o (.lst xs))],λc hc=>by rw[zG.mp hc];exact h,λc hc=>by rw[zG.mp hc];rfl,λH' h'=>.inl (.inr ⟨o,h' _ zJ⟩)⟩
 ·exact⟨[],λc hc=>(by cases hc),λc hc=>(by cases hc),λH' _=>.inr h⟩
theorem Eo{K:PySem.W.Frag}{H:Hp}{w a:Addr}{W:Wk}{vs:List V}(h1:WkAt H w W)(h2:SqL K H a vs):∃(M:List (List Cell))(s b f:Addr)(xs ys zs:List V),Hc H M/\NoT M/\∀H',Hc H' M->H' w=some (.tup [.ref s,.ref b,.ref f])/\LsAt H' s b f W xs ys zs/\SqL K H' a vs:=by
 obtain⟨c1,s,b,f,xs,ys,zs,k1,e1⟩:=h1.cells2
 obtain⟨c2,k2,n2,e2⟩:=BA h2
 have k1':Hs H c1:=by have k:Hs H [c1].flatten:=k1;rw[qK]at k;exact k
 obtain⟨L,l1,l2⟩:=uY (H:=H) (L:=c1++c2) λc hc=>by
  rcases yA.mp hc with q|q
  ·exact k1'.2 c q
  ·exact k2 c q
 refine⟨[L.filter λc=>noTbl c.2],s,b,f,xs,ys,zs,?_,λc hc ps e=>?_,λH' hc=>?_⟩
 ·show Hs H [L.filter λc=>noTbl c.2].flatten
  rw[qK]
  exact l1.sub List.filter_sublist
 ·rw[qK]at hc
  have:=(yG.mp hc).2
  rw[e]at this
  cases this
 ·have hc':Hs H' (L.filter λc=>noTbl c.2):=by have k:Hs H' [L.filter λc=>noTbl c.2].flatten:=hc;rw[qK]at k;exact k
  obtain⟨w1,w2⟩:=e1 (λa=>if a∈L.map Prod.fst then H a else none) λc hc1=>by
   have hm:=l2 c (qE _ hc1)
   show(if c.1∈L.map Prod.fst then H c.1 else none)=_
   rw[if_pos (List.mem_map_of_mem hm)]
   exact l1.2 c hm
  have sk:Sk (λa=>if a∈L.map Prod.fst then H a else none) H':=λb u e n=>by
   have e':(if b∈L.map Prod.fst then H b else none)=some u:=e
   split at e'
   ·rename_i hb
    obtain⟨d,hd,ed⟩:=yI.mp hb
    have hd2:=l1.2 d hd
    rw[ed,e']at hd2
    have:d=(b,u):=Prod.ext ed (Option.some.inj hd2).symm
    subst this
    refine hc'.2 (b,u) (yG.mpr ⟨hd,?_⟩)
    show noTbl u=true
    cases u <;>first|rfl|exact absurd rfl (n _)
   ·cases e'
  exact⟨sk _ _ w1 (λ_ z=>nomatch z),w2.sk sk,e2 H' λc hc2=>hc'.2 c (yG.mpr ⟨l2 c (zO _ hc2),n2 c hc2⟩)⟩
def Wk.sp(W:Wk)(s:Nat):SP:=⟨kdOf (W.st.getD s ("",none)),W.wy s,W.lv s,0,if kdOf (W.st.getD s ("",none))=.joiner then (W.wy s).map (λ_=>[])else []⟩
theorem Made.pu{W:Wk}{s:Nat}{r:SR}(m:Made W s r):r.pu=W.sp s:=by
 obtain⟨st,h1,h2⟩:=m.k
 have e:W.st.getD s ("",none)=st:=by rw[zA,h1];rfl
 unfold SR.pu Wk.sp
 rw[e,←h2,m.ws,m.bs,m.seen,m.rows]
def sp0:SP:=⟨.sink,[],[],0,[]⟩
def Wk.oa(W:Wk):OA:=⟨(List.range W.st.length).map W.sp,W.dels,W.prs,W.des,W.be.map λ_=>[],W.st.map λ_=>[]⟩
def OA.step(A:OA)(s:Nat):OA×Str:=A.stp s (A.srs.getD s sp0)
theorem FV{H:Hp}{W:Wk}{o:OR}(n:ONew W o)(ev:Evs H o W.des (W.be.map λ_=>[]) (W.st.map λ_=>[])):OIs H o W.oa:=by
 refine⟨?_,n.dels,n.pr,ev⟩
 refine jE λi=>?_
 show(o.srs.map SR.pu)[i]?=((List.range W.st.length).map W.sp)[i]?
 rw[zF,zF]
 cases e:o.srs[i]? with
 | none =>
  have hl:=jP.mp e
  rw[yH (by rw[yC,←n.ns];exact hl)]
  rfl
 | some r =>
  have hl:=(zD.mp e).1
  rw[yR (by rw[←n.ns];exact hl)]
  show some r.pu=some (W.sp i)
  rw[(n.srs i r e).pu]
theorem E8{W:Wk}{o:OR}(n:ONew W o):∀q∈o.srs,SOk 0 q:=λq hq=>by
 obtain⟨i,hi⟩:=yL hq
 exact(n.srs i q hi).ok
theorem xV(W:Wk):AOk 0 W.oa:=by
 refine⟨λrow hr t ht=>?_,λj row hj t ht=>?_,λrow hr=>?_,λrow hr=>?_⟩
 ·obtain⟨s,_,rfl⟩:=yI.mp hr
  unfold Wk.de at ht
  obtain⟨p,_,rfl⟩:=yI.mp ht
  rfl
 ·obtain⟨_,_,rfl⟩:=yI.mp (zE hj)
  exact absurd ht zI
 ·obtain⟨_,_,rfl⟩:=yI.mp hr
  exact zH _
 ·obtain⟨_,_,rfl⟩:=yI.mp hr
  exact zH _
end Oc
namespace Oc
open PySem L2
structure OwnF(W:Wk)(m:Nat)(H:Hp)(o:OR)(A:OA):Prop where
 ok:OOk o
 is:OIs H o A
 so:∀q∈o.srs,SOk m q
 ao:AOk m A
 ns:W.st.length=o.srs.length
 nb:W.be.length=o.dels.length
theorem IsTri.tkp{Pu:Addr}{H H':Hp}(k:TkP Pu H H')(hu:UpT Pu H){x:V}{t:Tri}(h:IsTri H x t):IsTri H' x t:=by
 obtain⟨p,e,hp⟩:=h
 exact⟨p,e,k _ _ hp trivial (hu.ne hp λ_ z=>nomatch z)⟩
theorem IsTri.kpd{Pd p C dx:Addr}{fs:List (Str×V)}{H H':Hp}(k:Kp Pd p H H')(hp:H p=some (.ins C dx fs)){x:V}{t:Tri}(h:IsTri H x t):IsTri H' x t:=by
 obtain⟨q,e,hq⟩:=h
 exact⟨q,e,k.tup hp hq⟩
theorem OIs.via{H H':Hp}{o:OR}{A:OA}(f:∀x t,IsTri H x t->IsTri H' x t)(h:OIs H o A):OIs H' o A :=
 ⟨h.s,h.d,h.p,sw (λ_ _ h=>sw (λ_ _ h=>f _ _ h) h) h.e.d,sw (λ_ _ h=>sw (λ_ _ h=>f _ _ h) h) h.e.r,sw (λ_ _ h=>sw (λ_ _ h=>f _ _ h) h) h.e.g⟩
theorem OwnF.via{W:Wk}{m n:Nat}{H H':Hp}{o:OR}{A:OA}(f:∀x t,IsTri H x t->IsTri H' x t)(e:m<=n)(h:OwnF W m H o A):OwnF W n H' o A:=⟨h.ok,h.is.via f,λq hq=>(h.so q hq).le e,h.ao.le e,h.ns,h.nb⟩
theorem LamT.tkp{P Pu:Addr}{q:Str}{ln cl:Nat}{H H':Hp}(h:LamT P q ln cl H)(k:TkP Pu H H')(ne:P≠Pu)(hu:UpT Pu H):LamT P q ln cl H':=by
 rcases h with h|⟨c',h1,h2⟩
 ·exact .inl (k _ _ h trivial ne)
 ·exact .inr ⟨c',k _ _ h1 trivial ne,k _ _ h2 trivial (hu.ne h2 λ_ z=>nomatch z)⟩
theorem LamT.kpd{P Pd p C dx:Addr}{fs:List (Str×V)}{q:Str}{ln cl:Nat}{H H':Hp}(h:LamT P q ln cl H)(k:Kp Pd p H H')(ne:P≠Pd)(hp:H p=some (.ins C dx fs)):LamT P q ln cl H':=by
 rcases h with h|⟨c',h1,h2⟩
 ·exact .inl (k _ _ h (.inr ne) (tR h hp λz=>nomatch z))
 ·exact .inr ⟨c',k _ _ h1 (.inr ne) (tR h1 hp λz=>nomatch z),k _ _ h2 (.inl λ_ z=>nomatch z) (tR h2 hp λz=>nomatch z)⟩
theorem _root_.L2.Hc.drop{H:Hp}{A B:List (List Cell)}(h:Hc H (A++B)):Hc H B:=by
 refine Hs.sub h ?_
 rw[qR]
 exact kN _ _
theorem Et{H:Hp}{W:Wk}{o:OR}(n:ONew W o)(ev:Evs H o W.des (W.be.map λ_=>[]) (W.st.map λ_=>[])):OwnF W 0 H o W.oa:=⟨n.ok,FV n ev,E8 n,xV W,n.ns.symm,by rw[n.dels];exact(zC _).symm⟩
end Oc
namespace Oc
open PySem L2
theorem uD(a b:Int×Int):kLt a b=true↔a.1<b.1\/(a.1=b.1/\a.2<b.2):=by
 unfold kLt
 simp only [HT.lexLt]
 split <;>simp_all <;>omega
theorem wP(k:Int×Int):kLt k k=false:=by
 cases e:kLt k k with
 | false=>rfl
 | true=>rw[uD]at e;omega
theorem Bz{a b c:Int×Int}(h1:kLt a b=true)(h2:kLt b c=true):kLt a c=true:=by
 rw[uD]at *
 omega
theorem yh(ks:List (Int×Int))(n:Nat):∀m,m<=n->kLt (ks.getD m (0,0)) (ks.getD (argBest (λi j=>kLt (ks.getD i (0,0)) (ks.getD j (0,0))) n) (0,0))=false:=by
 induction n with
 | zero=>intro m h;rw[Nat.le_zero.mp h];exact wP _
 | succ n ih =>
  intro m h
  simp only [argBest]
  by_cases e:kLt (ks.getD (n+1) (0,0)) (ks.getD (argBest (λi j=>kLt (ks.getD i (0,0)) (ks.getD j (0,0))) n) (0,0))=true
  ·rw[if_pos e]
   by_cases hm:m=n+1
   ·rw[hm];exact wP _
   ·cases q:kLt (ks.getD m (0,0)) (ks.getD (n+1) (0,0)) with
    | false=>rfl
    | true =>
     have:=Bz q e
     rw[ih m (by omega)]at this
     cases this
  ·rw[if_neg e]
   by_cases hm:m=n+1
   ·rw[hm];simpa using e
   ·exact ih m (by omega)
def oLe:Option Int->Option Int->Prop
 | _,none=>True
 | none,some _=>False
 | some a,some b=>a<=b
theorem tU(a:Option Int):oLe a none:=by cases a <;>trivial
theorem ua(a:Option Int):oLe a a:=by
 cases a with
 | none=>trivial
 | some a=>exact qO a
theorem tz{a b c:Option Int}(h:oLe a b)(k:oLe b c):oLe a c:=by
 cases c with
 | none=>exact tU a
 | some c =>
  cases b with
  | none=>exact k.elim
  | some b =>
   cases a with
   | none=>exact h.elim
   | some a=>exact vD (show a<=b from h) (show b<=c from k)
def oAdd(a:Option Int)(d:Int):Option Int:=a.map λn=>n+d
theorem vR{a b:Option Int}{d:Int}(h:oLe a b):oLe (oAdd a d) (oAdd b d):=by
 cases b with
 | none=>exact tU _
 | some b =>
  cases a with
  | none=>exact h.elim
  | some a=>exact Int.add_le_add_right (show a<=b from h) d
def OA.e(A:OA)(s:Nat)(w:Int):Option Int:=A.ear w (evAt A.de A.re s w)
theorem FW{f:Int->Option Int}{ws:List Int}{w:Int}(h:w∈ws):oLe ((ws.filterMap f).min?) (f w):=by
 cases e:f w with
 | none=>exact tU _
 | some a =>
  have ha:a∈ws.filterMap f:=yT.mpr ⟨w,h,e⟩
  cases m:(ws.filterMap f).min? with
  | none=>rw[List.min?_eq_none_iff]at m;rw[m]at ha;exact absurd ha zI
  | some b=>exact(qM.mp m).2 a ha
theorem Ai{f:Int->Option Int}{ws:List Int}{x:Option Int}(h:∀w∈ws,oLe x (f w)):oLe x ((ws.filterMap f).min?):=by
 cases m:(ws.filterMap f).min? with
 | none=>exact tU _
 | some b =>
  obtain⟨w,hw,e⟩:=yT.mp (qM.mp m).1
  have:=h w hw
  rwa [e]at this
theorem yc{A:OA}{s:Nat}{ws:List Int}{w:Int}(h:w∈ws):oLe (A.clk s ws) (A.e s w):=FW (f:=A.e s) h
theorem vx{A B:OA}{s:Nat}{ws:List Int}(h:∀w∈ws,oLe (A.e s w) (B.e s w)):oLe (A.clk s ws) (B.clk s ws):=Ai (f:=B.e s) λw hw=>tz (yc hw) (h w hw)
theorem tD{α:Type}(l:List α)(i j:Nat)(x d:α):(l.set i x).getD j d=if i=j/\j<l.length then x else l.getD j d:=by
 rw[zA,zA,List.getElem?_set]
 by_cases h:i=j
 ·subst h
  by_cases k:i<l.length
  ·rw[if_pos rfl,if_pos k,if_pos ⟨rfl,k⟩];rfl
  ·rw[if_pos rfl,if_neg k,if_neg (λz=>k z.2),yH (by omega)]
 ·rw[if_neg h,if_neg (λz=>h z.1)]
structure Tkn(A:OA)(s:Nat)(ws:List Int)(t:Tri):Prop where
 w:t.2.1∈ws
 hd:(evAt A.de A.re s t.2.1).head?=some t
 min:∀w∈ws,∀u,(evAt A.de A.re s w).head?=some u->kLt (tkey u) (tkey t)=false
 may:∀w∈ws,w ≠ -1->A.re.getD w.toNat []=[]->∀g,A.pr.getD w.toNat none=some g->t.1<g\/(t.1=g/\t.2.1<(w.toNat:Int))
theorem uU{m:Nat}{A:OA}(h:AOk m A){s:Nat}{p:SP}(hw:∀w∈p.ws,w=-1\/0<=w){t:Tri}(e:A.tkn s p=some t):Tkn A s p.ws t:=by
 unfold OA.tkn at e
 cases eu:A.upc s p.ws with
 | none=>rw[eu]at e;cases e
 | some t' =>
  rw[eu]at e
  dsimp only at e
  split at e
  ·rename_i hm
   cases e
   have hx:=zE eu
   unfold OA.hds at hx
   obtain⟨w,hw1,hh⟩:=yT.mp hx
   have hin:t∈evAt A.de A.re s w:=jW hh
   have ew:t.2.1=w:=by
    unfold evAt at hin
    split at hin
    ·rename_i z
     rw[z]
     exact ur (p:=λrow=>∀t∈row,t.2.1=-1) (λ_ z=>absurd z zI) h.d t hin
    ·rename_i z
     have w0:=(hw w hw1).resolve_left z
     rw[zA]at hin
     cases er:A.re[w.toNat]? with
     | none=>rw[er]at hin;exact absurd hin zI
     | some row =>
      rw[er]at hin
      have:=h.r w.toNat row er t hin
      omega
   refine⟨by rw[ew];exact hw1,by rw[ew];exact hh,λw' hw' u hu=>?_,λw' hw' n1 em g hg=>?_⟩
   ·have hu2:u∈A.hds s p.ws:=yT.mpr ⟨w',hw',hu⟩
    obtain⟨j,hj⟩:=yL hu2
    have lj:=(zD.mp hj).1
    have b:=yh ((A.hds s p.ws).map tkey) (((A.hds s p.ws).map tkey).length-1) j (by rw[zC];omega)
    have e1:((A.hds s p.ws).map tkey).getD j (0,0)=tkey u:=by rw[zA,zF,hj];rfl
    have e2:((A.hds s p.ws).map tkey).getD (bestK ((A.hds s p.ws).map tkey)) (0,0)=tkey t:=by
     rw[zA,zF]
     unfold OA.upc at eu
     rw[eu];rfl
    unfold bestK at e2
    rw[e1,e2]at b
    exact b
   ·unfold OA.may at hm
    have:=kI.mp hm w' (yG.mpr ⟨hw',by simp [n1]⟩)
    unfold OA.lets at this
    rw[em,if_pos (show([]:List Tri).isEmpty=true from rfl),hg]at this
    dsimp only at this
    have z:=(uD (t.1,t.2.1) (g,(w'.toNat:Int))).mp this
    exact z
  ·cases e
theorem Tkn.clk{A:OA}{s:Nat}{ws:List Int}{t:Tri}(h:Tkn A s ws t):A.clk s ws=some t.1:=by
 have h1:oLe (some t.1) (A.clk s ws):=by
  refine Ai (f:=A.e s) λw hw=>?_
  unfold OA.e
  cases ev:evAt A.de A.re s w with
  | cons u r =>
   have:=h.min w hw u (by rw[ev];rfl)
   have n:¬(kLt (tkey u) (tkey t)=true):=by rw[this];exact zQ
   rw[uD]at n
   show t.1<=u.1
   unfold tkey at n
   omega
  | nil =>
   show oLe _ (if w=-1 then none else A.pr.getD w.toNat none)
   split
   ·exact tU _
   ·rename_i n1
    cases eg:A.pr.getD w.toNat none with
    | none=>exact tU _
    | some g =>
     have em:A.re.getD w.toNat []=[]:=by unfold evAt at ev;rw[if_neg n1]at ev;exact ev
     have:=h.may w hw n1 em g eg
     show t.1<=g
     omega
 have h2:oLe (A.clk s ws) (some t.1):=by
  have:=yc (A:=A) (s:=s) h.w
  unfold OA.e at this
  cases ev:evAt A.de A.re s t.2.1 with
  | nil=>have z:=h.hd;rw[ev]at z;cases z
  | cons u r =>
   have z:=h.hd
   rw[ev]at z this
   cases z
   exact this
 cases e:A.clk s ws with
 | none=>rw[e]at h2;exact h2.elim
 | some c =>
  rw[e]at h1 h2
  have a1:t.1<=c:=h1
  have a2:c<=t.1:=h2
  rw[Int.le_antisymm a2 a1]
def putR(A:OA)(b:Nat)(t:Tri):Option (Int×Int)->List Tri
 | none=>[]
 | some o=>if o.1.toNat=b/\b<A.re.length then [(t.1+A.dl.getD b 0,o.1,o.2)]else []
theorem uC(A:OA)(s:Nat)(p:SP)(t:Tri)(w0:t.2.1=-1\/0<=t.2.1)(b:Nat):(A.take s p t).re.getD b []=(if t.2.1=(b:Int)then (A.re.getD b []).tail else A.re.getD b [])++putR A b t (p.out (p.ws.idxOf t.2.1) t.2.2):=by
 have hp:(A.pop s t.2.1).re.getD b []=if t.2.1=(b:Int)then (A.re.getD b []).tail else A.re.getD b []:=by
  unfold OA.pop
  split
  ·rename_i e
   rw[if_neg (by omega)]
  ·rename_i n
   show(A.re.set _ _).getD b []=_
   rw[tD]
   by_cases hb:t.2.1=(b:Int)
   ·rw[if_pos hb]
    have e:t.2.1.toNat=b:=by omega
    rw[e]
    by_cases hl:b<A.re.length
    ·rw[if_pos ⟨rfl,hl⟩]
    ·rw[if_neg (λz=>hl z.2),zA,yH (by omega)];rfl
   ·rw[if_neg (λz=>hb (by omega)),if_neg hb]
 have hl:(A.pop s t.2.1).re.length=A.re.length:=by unfold OA.pop;split <;>simp
 have hd:(A.pop s t.2.1).dl=A.dl:=by unfold OA.pop;split <;>rfl
 unfold OA.take
 cases p.out (p.ws.idxOf t.2.1) t.2.2 with
 | none =>
  show(A.pop s t.2.1).re.getD b []=_++[]
  rw[hp,zP]
 | some o =>
  show((A.pop s t.2.1).re.set o.1.toNat ((A.pop s t.2.1).re.getD o.1.toNat []++[(t.1+(A.pop s t.2.1).dl.getD o.1.toNat 0,o.1,o.2)])).getD b []=_++(if o.1.toNat=b/\b<A.re.length then [(t.1+A.dl.getD b 0,o.1,o.2)]else [])
  rw[tD,hl,hd]
  by_cases h:o.1.toNat=b/\b<A.re.length
  ·rw[if_pos h,if_pos h,h.1,hp]
  ·rw[if_neg h,if_neg h,hp,zP]
theorem u5(B:OA)(t:Tri)(o:Option (Int×Int)):(B.put t o).de=B.de/\(B.put t o).pr=B.pr/\(B.put t o).dl=B.dl/\(B.put t o).ge=B.ge/\(B.put t o).re.length=B.re.length:=by
 cases o with
 | none=>exact⟨rfl,rfl,rfl,rfl,rfl⟩
 | some o=>exact⟨rfl,rfl,rfl,rfl,zZ⟩
theorem tV(A:OA)(s:Nat)(p:SP)(t:Tri):(A.take s p t).pr=A.pr/\(A.take s p t).dl=A.dl/\(A.take s p t).re.length=A.re.length/\(A.take s p t).ge=A.ge.set s (A.ge.getD s []++[t]):=by
 unfold OA.take
 obtain⟨e1,e2,e3,e4,e5⟩:=u5 (((A.pop s t.2.1).log s t).sta s (p.nxt (p.ws.idxOf t.2.1) t.2.2)) t (p.out (p.ws.idxOf t.2.1) t.2.2)
 rw[e2,e3,e4,e5]
 unfold OA.sta OA.log OA.pop
 split
 ·exact⟨rfl,rfl,rfl,rfl⟩
 ·exact⟨rfl,rfl,zZ,rfl⟩
theorem uW(A:OA)(s:Nat)(p:SP)(t:Tri)(j:Nat):(A.take s p t).de.getD j []=if t.2.1=-1/\s=j then (A.de.getD j []).tail else A.de.getD j []:=by
 unfold OA.take
 rw[(u5 _ _ _).1]
 show(A.pop s t.2.1).de.getD j []=_
 unfold OA.pop
 by_cases h:t.2.1=-1
 ·rw[if_pos h]
  show(A.de.set _ _).getD j []=_
  rw[tD]
  by_cases hj:s=j
  ·subst hj
   by_cases hl:s<A.de.length
   ·rw[if_pos ⟨rfl,hl⟩,if_pos ⟨h,rfl⟩]
   ·rw[if_neg (λz=>hl z.2),if_pos ⟨h,rfl⟩,zA,yH (by omega)];rfl
  ·rw[if_neg (λz=>hj z.1),if_neg (λz=>hj z.2)]
 ·rw[if_neg h,if_neg (λz=>h z.1)]
theorem A0(A:OA)(s:Nat)(p:SP)(t:Tri):(A.take s p t).de.length=A.de.length:=by
 unfold OA.take
 rw[(u5 _ _ _).1]
 show(A.pop s t.2.1).de.length=_
 unfold OA.pop
 split
 ·exact zZ
 ·rfl
end Oc
namespace Oc
open PySem L2
theorem ww{α:Type}(f:α->Bool):∀(l:List α)(k:Nat){w:Int},w∈idx f k l->∃(j:Nat)(t:α),l[j]?=some t/\f t=true/\w=((k+j:Nat):Int)
 | [],_,_,h=>absurd h zI
 | x::l,k,w,h=>by
  unfold idx at h
  split at h
  ·rename_i hx
   rcases zR.mp h with e|e
   ·exact⟨0,x,rfl,hx,by rw[e];rfl⟩
   ·obtain⟨j,t,h1,h2,h3⟩:=ww f l (k+1) e
    exact⟨j+1,t,h1,h2,by omega⟩
  ·obtain⟨j,t,h1,h2,h3⟩:=ww f l (k+1) h
   exact⟨j+1,t,h1,h2,by omega⟩
theorem wD{α:Type}(f:α->Bool):∀(l:List α)(k:Nat){j:Nat}{t:α},l[j]?=some t->f t=true->((k+j:Nat):Int)∈idx f k l
 | [],_,_,_,h,_=>by simp at h
 | x::l,k,0,t,h,hf=>by
  cases h
  unfold idx
  rw[if_pos hf]
  exact zJ
 | x::l,k,j+1,t,h,hf=>by
  have:=wD f l (k+1) (j:=j) h hf
  have e:((k+(j+1):Nat):Int)=((k+1+j:Nat):Int):=by omega
  rw[e]
  unfold idx
  split
  ·exact zL _ this
  ·exact this
theorem Wk.lv_mem{W:Wk}{s w:Int}(h:w∈W.lv s):∃(j:Nat)(bt:Tri),W.be[j]?=some bt/\bt.1=s/\w=(j:Int):=by
 obtain⟨j,t,h1,h2,h3⟩:=ww _ _ _ h
 exact⟨j,t,h1,by simpa using h2,by omega⟩
theorem Wk.wy_mem{W:Wk}{s w:Int}(h:w∈W.wy s):w=-1\/∃(j:Nat)(bt:Tri),W.be[j]?=some bt/\bt.2.1=s/\w=(j:Int):=by
 unfold Wk.wy at h
 rcases yA.mp h with e|e
 ·split at e
  ·exact .inl (zG.mp e)
  ·exact absurd e zI
 ·obtain⟨j,t,h1,h2,h3⟩:=ww _ _ _ e
  exact .inr ⟨j,t,h1,by simpa using h2,by omega⟩
theorem Wk.wy_ok{W:Wk}{s w:Int}(h:w∈W.wy s):w=-1\/0<=w:=by
 rcases Wk.wy_mem h with e|⟨j,_,_,_,e⟩
 ·exact .inl e
 ·exact .inr (by omega)
theorem Wk.dl_at{W:Wk}{b:Nat}{bt:Tri}(h:W.be[b]?=some bt):W.dels.getD b 0=bt.2.2:=by
 unfold Wk.dels
 rw[zA,zF,h];rfl
theorem Wk.dl_pos{W:Wk}(ok:W.Ok)(b:Nat):0<=W.dels.getD b 0:=by
 cases h:W.be[b]? with
 | none=>unfold Wk.dels;rw[zA,zF,h];exact qO 0
 | some bt =>
  rw[Wk.dl_at h]
  have:=(ok.bel bt (zE h)).2.2.2.2.1
  omega
structure Inv(W:Wk)(A:OA):Prop where
 st:A.srs.length=W.st.length
 sp:∀(s:Nat) p,A.srs[s]?=some p->p.ws=W.wy s/\p.bs=W.lv s
 dl:A.dl=W.dels
 lp:A.pr.length=W.be.length
 lr:A.re.length=W.be.length
 ld:A.de.length=W.st.length
 sd:∀s,(A.de.getD s []).Pairwise λa b=>a.1<=b.1
 sr:∀b,(A.re.getD b []).Pairwise λa b=>a.1<=b.1
 up:∀b,∀t∈A.re.getD b [],oLe (some t.1) (A.pr.getD b none)
 pc:∀(b:Nat) bt,W.be[b]?=some bt->oLe (A.pr.getD b none) (oAdd (A.clk bt.1.toNat (W.wy bt.1)) bt.2.2)
theorem Fl{A B:OA}(h:B.pr=A.pr)(w:Int)(l:List Tri):B.ear w l=A.ear w l:=by
 cases l with
 | nil=>unfold OA.ear;rw[h]
 | cons t r=>rfl
theorem vZ{W:Wk}{A:OA}(ok:W.Ok)(I:Inv W A){s:Nat}{p:SP}(hp:A.srs[s]?=some p){t:Tri}(T:Tkn A s p.ws t){j:Nat}{w:Int}(w0:w=-1\/0<=w):oLe (A.e j w) ((A.take s p t).e j w):=by
 obtain⟨e1,e2,e3,e4⟩:=tV A s p t
 have t0:t.2.1=-1\/0<=t.2.1:=Wk.wy_ok (W:=W) (s:=s) (by rw[←(I.sp s p hp).1];exact T.w)
 unfold OA.e
 rw[Fl e1]
 by_cases h:w=-1
 ·subst h
  unfold evAt
  rw[if_pos rfl,if_pos rfl,uW]
  split
  ·rename_i z
   obtain⟨z1,rfl⟩:=z
   have hd:=T.hd
   unfold evAt at hd
   rw[if_pos z1]at hd
   have so:=I.sd s
   cases er:A.de.getD s [] with
   | nil=>rw[er]at hd;cases hd
   | cons u r =>
    rw[er]at hd so
    cases hd
    cases r with
    | nil=>exact tU _
    | cons v r=>exact(yS.mp so).1 v zJ
  ·exact ua _
 ·have wp:=w0.resolve_left h
  obtain⟨b,rfl⟩:∃b:Nat,w=(b:Int):=⟨w.toNat,by omega⟩
  unfold evAt
  rw[if_neg h,if_neg h,zU,uC A s p t t0]
  have hput:∀e∈putR A b t (p.out (p.ws.idxOf t.2.1) t.2.2),e.1=t.1+A.dl.getD b 0/\oLe (A.pr.getD b none) (some e.1):=λe he=>by
   cases eo:p.out (p.ws.idxOf t.2.1) t.2.2 with
   | none=>rw[eo]at he;exact absurd he zI
   | some o =>
    rw[eo]at he
    unfold putR at he
    dsimp only at he
    split at he
    ·rename_i z
     rw[zG.mp he]
     refine⟨rfl,?_⟩
     have hb:o.1∈W.lv s:=by rw[←(I.sp s p hp).2];exact SP.out_in (y:=o.2) eo
     obtain⟨k,bt,g1,g2,g3⟩:=Wk.lv_mem hb
     have ek:k=b:=by omega
     subst ek
     have:=I.pc k bt g1
     rw[g2,zU,←(I.sp s p hp).1,T.clk]at this
     rw[I.dl,Wk.dl_at g1]
     exact this
    ·exact absurd he zI
  by_cases hb:t.2.1=(b:Int)
  ·rw[if_pos hb]
   have hd:=T.hd
   unfold evAt at hd
   rw[hb,if_neg h,zU]at hd
   have so:=I.sr b
   cases er:A.re.getD b [] with
   | nil=>rw[er]at hd;cases hd
   | cons u r =>
    rw[er]at hd so
    cases hd
    cases r with
    | cons v r=>exact(yS.mp so).1 v zJ
    | nil =>
     show oLe (some t.1) (A.ear (b:Int) (putR A b t _))
     cases epr:putR A b t (p.out (p.ws.idxOf t.2.1) t.2.2) with
     | nil =>
      show oLe (some t.1) (if (b:Int)=-1 then none else A.pr.getD (b:Int).toNat none)
      rw[if_neg h,zU]
      exact I.up b t (by rw[er];exact zJ)
     | cons e r =>
      have:=(hput e (by rw[epr];exact zJ)).1
      have d0:=Wk.dl_pos ok b
      rw[←I.dl]at d0
      show t.1<=e.1
      omega
  ·rw[if_neg hb]
   cases er:A.re.getD b [] with
   | cons u r=>exact qO _
   | nil =>
    rw[jK]
    cases epr:putR A b t (p.out (p.ws.idxOf t.2.1) t.2.2) with
    | nil=>exact ua _
    | cons e r =>
     have:=(hput e (by rw[epr];exact zJ)).2
     show oLe (if (b:Int)=-1 then none else A.pr.getD (b:Int).toNat none) (some e.1)
     rw[if_neg h,zU]
     exact this
structure Rsd(now:Option Int)(bs:List Int)(B C:OA):Prop where
 de:C.de=B.de
 re:C.re=B.re
 ge:C.ge=B.ge
 dl:C.dl=B.dl
 sp:C.srs=B.srs
 lp:C.pr.length=B.pr.length
 le:∀j,oLe (B.pr.getD j none) (C.pr.getD j none)
 eq:∀j,C.pr.getD j none=B.pr.getD j none\/((∃b∈bs,b.toNat=j)/\C.pr.getD j none=B.new now j)
 ge2:∀j,(∃b∈bs,b.toNat=j)->j<B.pr.length->oLe (B.new now j) (C.pr.getD j none)
theorem C4(now:Option Int)(B:OA)(b:Int):Rsd now [b] B (B.rp1 now b.toNat).1:=by
 unfold OA.rp1
 split
 ·rename_i h
  refine⟨rfl,rfl,rfl,rfl,rfl,rfl,λj=>ua _,λj=>.inl rfl,λj hj hl=>?_⟩
  obtain⟨c,hc,rfl⟩:=hj
  rw[zG.mp hc]
  unfold OA.stays at h
  cases e:B.pr.getD b.toNat none with
  | none=>exact tU _
  | some p =>
   rw[e]at h
   dsimp only at h
   cases e2:B.new now b.toNat with
   | none=>rw[e2]at h;cases h
   | some n=>rw[e2]at h;exact(of_decide_eq_true h:n<=p)
 ·rename_i h
  have key:oLe (B.pr.getD b.toNat none) (B.new now b.toNat):=by
   unfold OA.stays at h
   cases e:B.pr.getD b.toNat none with
   | none=>rw[e]at h;exact absurd rfl h
   | some p =>
    rw[e]at h
    cases e2:B.new now b.toNat with
    | none=>exact tU _
    | some n =>
     rw[e2]at h
     have:¬n<=p:=λz=>h (decide_eq_true z)
     show p<=n
     omega
  refine⟨rfl,rfl,rfl,rfl,rfl,zZ,λj=>?_,λj=>?_,λj hj hl=>?_⟩
  ·show oLe _ ((B.pr.set _ _).getD j none)
   rw[tD]
   split
   ·rename_i z;rw[←z.1];exact key
   ·exact ua _
  ·show(B.pr.set _ _).getD j none=_\/_/\(B.pr.set _ _).getD j none=_
   rw[tD]
   split
   ·rename_i z;exact .inr ⟨⟨b,zG.mpr rfl,z.1⟩,by rw[z.1]⟩
   ·exact .inl rfl
  ·obtain⟨c,hc,rfl⟩:=hj
   rw[zG.mp hc]at hl ⊢
   show oLe _ ((B.pr.set _ _).getD _ none)
   rw[tD,if_pos ⟨rfl,hl⟩]
   exact ua _
theorem Rsd.cons{now:Option Int}{b:Int}{bs:List Int}{B C D:OA}(h:Rsd now [b] B C)(k:Rsd now bs C D):Rsd now (b::bs) B D:=by
 have hn:∀j,C.new now j=B.new now j:=λj=>by unfold OA.new;rw[h.dl]
 refine⟨k.de.trans h.de,k.re.trans h.re,k.ge.trans h.ge,k.dl.trans h.dl,k.sp.trans h.sp,k.lp.trans h.lp,λj=>tz (h.le j) (k.le j),λj=>?_,λj hj hl=>?_⟩
 ·rcases k.eq j with e|⟨⟨c,hc,e1⟩,e2⟩
  ·rcases h.eq j with g|⟨⟨c,hc,g1⟩,g2⟩
   ·exact .inl (e.trans g)
   ·exact .inr ⟨⟨c,zR.mpr (.inl (zG.mp hc)),g1⟩,e.trans g2⟩
  ·exact .inr ⟨⟨c,zL _ hc,e1⟩,e2.trans (hn j)⟩
 ·obtain⟨c,hc,e⟩:=hj
  rcases zR.mp hc with z|z
  ·exact tz (h.ge2 j ⟨c,zG.mpr z,e⟩ hl) (k.le j)
  ·rw[←hn];exact k.ge2 j ⟨c,z,e⟩ (by rw[h.lp];exact hl)
theorem CZ(now:Option Int):∀(bs:List Int)(B:OA)(c:Bool),Rsd now bs B (bs.foldl (λp b=>((p.1.rp1 now b.toNat).1,p.2||(p.1.rp1 now b.toNat).2)) (B,c)).1
 | [],B,c=>⟨rfl,rfl,rfl,rfl,rfl,rfl,λ_=>ua _,λ_=>.inl rfl,λ_ h _=>by obtain⟨_,h,_⟩:=h;exact absurd h zI⟩
 | b::bs,B,c=>(C4 now B b).cons (CZ now bs (B.rp1 now b.toNat).1 (c||(B.rp1 now b.toNat).2))
theorem t_(B:OA)(s:Nat)(p:SP):Rsd (B.clk s p.ws) p.bs B (B.rsd s p).1:=CZ _ p.bs B false
theorem Rsd.mono{now:Option Int}{bs:List Int}{B C:OA}(h:Rsd now bs B C)(j:Nat)(w:Int):oLe (B.e j w) (C.e j w):=by
 unfold OA.e
 rw[h.de,h.re]
 cases evAt B.de B.re j w with
 | cons t r=>exact qO _
 | nil =>
  show oLe (if w=-1 then none else B.pr.getD w.toNat none) (if w=-1 then none else C.pr.getD w.toNat none)
  split
  ·exact tU _
  ·exact h.le _
structure Belt(A C:OA)(s b:Nat)(bt:Tri):Prop where
 le:oLe (A.pr.getD b none) (C.pr.getD b none)
 row:∃pop put:List Tri,C.re.getD b []=pop++put/\(pop=A.re.getD b []\/(pop=(A.re.getD b []).tail/\A.re.getD b []≠[]/\bt.2.1=(s:Int)))/\(put=[]\/∃e,put=[e]/\e.2.1=(b:Int)/\(∃g,A.pr.getD b none=some g/\g<=e.1)/\bt.1=(s:Int))
 oth:bt.1≠(s:Int)->C.pr.getD b none=A.pr.getD b none
structure Stp(W:Wk)(A C:OA)(s:Nat):Prop where
 inv:Inv W C
 belt:∀(b:Nat) bt,W.be[b]?=some bt->Belt A C s b bt
 clk:∀j:Nat,oLe (A.clk j (W.wy j)) (C.clk j (W.wy j))
theorem xz{W:Wk}{A B C:OA}(ok:W.Ok)(I:Inv W A){s:Nat}{p:SP}(hp:A.srs[s]?=some p)(R:Rsd (B.clk s p.ws) p.bs B C)(sp:B.srs.length=A.srs.length/\∀(j:Nat) q,B.srs[j]?=some q->q.ws=W.wy j/\q.bs=W.lv j)(pr:B.pr=A.pr)(dl:B.dl=A.dl)(lr:B.re.length=A.re.length)(ld:B.de.length=A.de.length)
  (sd:∀j,(B.de.getD j []).Pairwise λa b=>a.1<=b.1) (sr:∀b,(B.re.getD b []).Pairwise λa b=>a.1<=b.1) (mono:∀(j:Nat)(w:Int),(w=-1\/0<=w)->oLe (A.e j w) (B.e j w))
  (up:∀(b:Nat) bt,W.be[b]?=some bt->∀t∈B.re.getD b [],t∈A.re.getD b []\/(bt.1=(s:Int)/\oLe (some t.1) (oAdd (B.clk s p.ws) bt.2.2)))
  (row:∀(b:Nat) bt,W.be[b]?=some bt->∃pop put:List Tri,B.re.getD b []=pop++put/\(pop=A.re.getD b []\/(pop=(A.re.getD b []).tail/\A.re.getD b []≠[]/\bt.2.1=(s:Int)))/\(put=[]\/∃e,put=[e]/\e.2.1=(b:Int)/\(∃g,A.pr.getD b none=some g/\g<=e.1)/\bt.1=(s:Int))):Stp W A C s:=by
 have hws:=(I.sp s p hp).1
 have hbs:=(I.sp s p hp).2
 have mAB:∀j:Nat,oLe (A.clk j (W.wy j)) (B.clk j (W.wy j)):=λj=>vx λw hw=>mono j w (Wk.wy_ok hw)
 have mBC:∀j:Nat,oLe (B.clk j (W.wy j)) (C.clk j (W.wy j)):=λj=>vx λw hw=>R.mono j w
 have yd:∀{b:Nat}{bt:Tri},W.be[b]?=some bt->B.new (B.clk s p.ws) b=oAdd (B.clk s p.ws) bt.2.2:=fun {b bt} h=>by
  unfold OA.new oAdd
  rw[dl,I.dl,Wk.dl_at h]
 have in_bs:∀{b:Nat}{bt:Tri},W.be[b]?=some bt->(∃c∈p.bs,c.toNat=b)->bt.1=(s:Int):=fun {b bt} h hc=>by
  obtain⟨c,hc,e⟩:=hc
  rw[hbs]at hc
  obtain⟨k,bt',g1,g2,g3⟩:=Wk.lv_mem hc
  have:k=b:=by omega
  subst this
  rw[h]at g1
  cases g1
  exact g2
 have bs_in:∀{b:Nat}{bt:Tri},W.be[b]?=some bt->bt.1=(s:Int)->∃c∈p.bs,c.toNat=b:=fun {b bt} h e=>by
  refine⟨(b:Int),?_,zU b⟩
  rw[hbs]
  have:=wD (λ(t:Tri)=>t.1==(s:Int)) W.be 0 h (by simpa using e)
  rw[jM]at this
  exact this
 have pcC:∀(b:Nat) bt,W.be[b]?=some bt->oLe (C.pr.getD b none) (oAdd (C.clk bt.1.toNat (W.wy bt.1)) bt.2.2):=λb bt h=>by
  have b0:=(ok.bel bt (zE h)).1
  have e0:bt.1=(bt.1.toNat:Int):=by omega
  rcases R.eq b with e|⟨hc,e⟩
  ·rw[e,pr]
   refine tz (I.pc b bt h) (vR ?_)
   rw[e0,zU]
   exact tz (mAB _) (mBC _)
  ·have hs:=in_bs h hc
   rw[e,yd h,hs,zU,hws]
   exact vR (mBC s)
 refine⟨⟨by rw[R.sp,sp.1,I.st],by rw[R.sp];exact sp.2,by rw[R.dl,dl,I.dl],by rw[R.lp,pr,I.lp],by rw[R.re,lr,I.lr],by rw[R.de,ld,I.ld],by rw[R.de];exact sd,by rw[R.re];exact sr,λb t ht=>?_,pcC⟩,λb bt h=>?_,λj=>tz (mAB j) (mBC j)⟩
 ·rw[R.re]at ht
  cases h:W.be[b]? with
  | none =>
   have:B.re.getD b []=[]:=by
    rw[zA,yH]
    ·rfl
    ·rw[lr,I.lr];exact jP.mp h
   rw[this]at ht
   exact absurd ht zI
  | some bt =>
   rcases up b bt h t ht with g|⟨g1,g2⟩
   ·refine tz (I.up b t g) ?_
    rw[←pr]
    exact R.le b
   ·refine tz g2 ?_
    rw[←yd h]
    exact R.ge2 b (bs_in h g1) (by rw[pr,I.lp];exact(zD.mp h).1)
 ·refine⟨by rw[←pr];exact R.le b,by rw[R.re];exact row b bt h,λn=>?_⟩
  rcases R.eq b with e|⟨hc,_⟩
  ·rw[e,pr]
  ·exact absurd (in_bs h hc) n
theorem uO{W:Wk}{A:OA}{m:Nat}(ok:W.Ok)(I:Inv W A)(ao:AOk m A){s:Nat}(hs:s<W.st.length):Stp W A (A.step s).1 s:=by
 obtain⟨p,hp⟩:∃p,A.srs[s]?=some p:=⟨A.srs[s]'(by rw[I.st];exact hs),zB _⟩
 have ep:A.srs.getD s sp0=p:=by rw[zA,hp];rfl
 have hws:=(I.sp s p hp).1
 have hbs:=(I.sp s p hp).2
 unfold OA.step OA.stp
 rw[ep]
 show Stp W A ((A.aft s p).rsd s p).1 s
 have R:=t_ (A.aft s p) s p
 cases e:A.tkn s p with
 | none =>
  have ea:A.aft s p=A:=by unfold OA.aft;rw[e]
  rw[ea]at R ⊢
  exact xz ok I hp R ⟨rfl,I.sp⟩ rfl rfl rfl rfl I.sd I.sr (λ_ _ _=>ua _) (λb bt h t ht=>.inl ht) λb bt h=>⟨_,[],(zP _).symm,.inl rfl,.inl rfl⟩
 | some t =>
  have ea:A.aft s p=A.take s p t:=by unfold OA.aft;rw[e]
  rw[ea]at R ⊢
  have wok:∀w∈p.ws,w=-1\/0<=w:=λw hw=>by rw[hws]at hw;exact Wk.wy_ok hw
  have T:=uU ao wok e
  have t0:=wok _ T.w
  have mono:∀(j:Nat)(w:Int),(w=-1\/0<=w)->oLe (A.e j w) ((A.take s p t).e j w):=λj w hw=>vZ ok I hp T hw
  have cl:oLe (some t.1) ((A.take s p t).clk s p.ws):=by
   rw[←T.clk]
   exact vx λw hw=>mono s w (wok w hw)
  obtain⟨e1,e2,e3,e4⟩:=tV A s p t
  have hput:∀{b:Nat}{e:Tri},e∈putR A b t (p.out (p.ws.idxOf t.2.1) t.2.2)->∃bt,W.be[b]?=some bt/\bt.1=(s:Int)/\e.1=t.1+bt.2.2/\e.2.1=(b:Int)/\oLe (A.pr.getD b none) (some e.1)/\putR A b t (p.out (p.ws.idxOf t.2.1) t.2.2)=[e]:=fun {b e} he=>by
   cases eo:p.out (p.ws.idxOf t.2.1) t.2.2 with
   | none=>rw[eo]at he;exact absurd he zI
   | some o =>
    rw[eo]at he
    unfold putR at he ⊢
    dsimp only at he ⊢
    split at he
    ·rename_i z
     have hb:o.1∈W.lv s:=by rw[←hbs];exact SP.out_in (y:=o.2) eo
     obtain⟨k,bt,g1,g2,g3⟩:=Wk.lv_mem hb
     have ek:k=b:=by omega
     subst ek
     have:=I.pc k bt g1
     rw[g2,zU,←hws,T.clk]at this
     rw[if_pos z]
     rw[zG.mp he,I.dl,Wk.dl_at g1]
     exact⟨bt,g1,g2,rfl,g3,this,rfl⟩
    ·exact absurd he zI
  refine xz ok I hp R ⟨by rw[uQ,zZ],λj q hq=>?_⟩ e1 e2 e3 (A0 A s p t) (λj=>?_) (λb=>?_) mono (λb bt h u hu=>?_) λb bt h=>?_
  ·rw[uQ,List.getElem?_set]at hq
   split at hq
   ·rename_i z
    subst z
    split at hq
    ·cases hq
     rw[SP.nxt_ws,SP.nxt_bs]
     exact⟨hws,hbs⟩
    ·cases hq
   ·exact I.sp j q hq
  ·rw[uW]
   split
   ·exact(I.sd j).sublist (List.tail_sublist _)
   ·exact I.sd j
  ·rw[uC A s p t t0]
   have s1:(if t.2.1=(b:Int)then (A.re.getD b []).tail else A.re.getD b []).Sublist (A.re.getD b []):=by
    split
    ·exact List.tail_sublist _
    ·exact List.Sublist.refl _
   refine qD.mpr ⟨(I.sr b).sublist s1,?_,λu hu e he=>?_⟩
   ·cases ee:putR A b t (p.out (p.ws.idxOf t.2.1) t.2.2) with
    | nil=>exact .nil
    | cons e r =>
     obtain⟨_,_,_,_,_,_,g⟩:=hput (b:=b) (e:=e) (by rw[ee];exact zJ)
     rw[ee]at g
     rw[g]
     exact jC _ _
   ·obtain⟨bt,g1,g2,g3,g4,g5,g6⟩:=hput he
    have:=tz (I.up b u (s1.subset hu)) g5
    exact this
  ·rw[uC A s p t t0]at hu
   rcases yA.mp hu with z|z
   ·refine .inl ?_
    split at z
    ·exact qW z
    ·exact z
   ·obtain⟨bt',g1,g2,g3,g4,g5,g6⟩:=hput z
    rw[h]at g1
    cases g1
    refine .inr ⟨g2,?_⟩
    rw[g3]
    exact vR cl
  ·refine⟨_,_,uC A s p t t0 b,?_,?_⟩
   ·by_cases hb:t.2.1=(b:Int)
    ·rw[if_pos hb]
     have hw:=T.w
     rw[hws,hb]at hw
     have b1:(b:Int) ≠ -1:=by omega
     refine .inr ⟨rfl,λz=>?_,?_⟩
     ·have hd:=T.hd
      unfold evAt at hd
      rw[hb,if_neg b1,zU,z]at hd
      cases hd
     ·rcases Wk.wy_mem hw with q|⟨k,bt',g1,g2,g3⟩
      ·exact absurd q b1
      ·have:k=b:=by omega
       subst this
       rw[h]at g1
       cases g1
       exact g2
    ·rw[if_neg hb]
     exact .inl rfl
   ·cases ee:putR A b t (p.out (p.ws.idxOf t.2.1) t.2.2) with
    | nil=>exact .inl rfl
    | cons e r =>
     obtain⟨bt',g1,g2,g3,g4,g5,g6⟩:=hput (b:=b) (e:=e) (by rw[ee];exact zJ)
     rw[ee]at g6
     rw[h]at g1
     cases g1
     refine .inr ⟨e,g6,g4,?_,g2⟩
     cases eg:A.pr.getD b none with
     | none=>rw[eg]at g5;exact g5.elim
     | some g=>rw[eg]at g5;exact⟨g,rfl,g5⟩
end Oc
namespace Oc
open PySem L2 PyProof.Rows
theorem wx{c:Bool}{tA tB:TS}{D:Ends}{σ:L2.St}{H:Hp}(R:L2.St->Hp->Prop)(hA:c=true->(∀σ' H',R σ' H'->D.nx σ' H')->tA D σ H)(hB:c=false->(∀σ' H',R σ' H'->D.nx σ' H')->tB D σ H)(f:∀σ' H',R σ' H'->D.nx σ' H'):if c=true then tA D σ H else tB D σ H:=by
 cases c
 ·exact iteF (hB rfl f)
 ·exact iteT (hA rfl f)
section
variable{P:Program}{w:World}{K:PySem.W.Frag}{mg:Str->Option Value}{base:Heap}
theorem CO:FnScope ["script","head","many","stations","belts","k","cell","delay","feeds","time","piece"] ["script"] (defScope (top 28)):=⟨rfl,rfl,rfl,by decide +kernel,rfl,by decide +kernel,by decide +kernel⟩
theorem Fh{f:Addr}{fd:FuncData}(F:Fun K "_law_works" "_law_works" (top 28) f fd)(T:Txt K mg)(aa:FnAt P w K mg base 1 "_law_stir" ["cell","k"] spStir)(ak:FnAt P w K mg base 1 "_law_cell" ["script","k"] (spCell K))(aK:FnAt P w K mg base 2 "_law_station" ["cell"] spSta):FnOk P w K mg base CX0 3 f fd ["script"] (spWks K):=by
 have nd:=CO.nd
 refine F.ok CO (λvs H Q E h=>?_) (λcdv A outer s H vs Q E hr h=>?_)
 ·obtain⟨a,ns,rfl,_⟩:=h
  rfl
 ·obtain⟨a,ns,rfl,hS,q⟩:=h
  refine⟨_,(@sq _ _ _ _ _ (sL (i:=1) nd rfl (by nofun) (sU ak (hr.mono (by decide)) (by rfl) (@sf _ _ _ _ _ (pv 0) (@sf _ _ _ _ _ sg sh (by rfl)) (by rfl))))
   (@sq _ _ _ _ _ (sL (i:=2) nd rfl (by nofun) (sK tH sg (sK sV (sU aa (hr.mono (by decide)) (by rfl) (@sf _ _ _ _ _ (pv 1) (@sf _ _ _ _ _ sg sh (by rfl)) (by rfl))) sg)))
   (@sq _ _ _ _ _ (ue (i:=3) nd rfl (Or.inl rfl) rfl (own:=["k"]) (fr:=["script"]) (js:=[0]) (by and_intros) (s_ rfl T.n_range (@sf _ _ _ _ _ (pv 2) sh (by rfl))) (λ_ _ _ _=>(sH (i:=0) (show List.Nodup (["k","script"]:List Str)from by decide +kernel) rfl (by nofun))) (λ_ _ _ _=>tq) (λ_ _ _ _=>(sU aK (hr.mono (by decide)) (by rfl) (@sf _ _ _ _ _ (sU ak (hr.mono (by decide)) (by rfl) (@sf _ _ _ _ _ (pv 1) (@sf _ _ _ _ _ (sK tH sg (pv 0)) sh (by rfl)) (by rfl))) sh (by rfl)))))
   (@sq _ _ _ _ _ (sL (i:=4) nd rfl (by nofun) (@tJ _ _ _ _ sh))
   (@sq _ _ _ _ _ (ub PassesOwn.never rfl (s_ rfl T.n_range (@sf _ _ _ _ _ (sK sV (sU aa (hr.mono (by decide)) (by rfl) (@sf _ _ _ _ _ (pv 1) (@sf _ _ _ _ _ sg sh (by rfl)) (by rfl))) sg) sh (by rfl))) (sH (i:=5) nd rfl (by nofun)) (@sq _ _ _ _ _ (sL (i:=6) nd rfl (by nofun) (sU ak (hr.mono (by decide)) (by rfl) (@sf _ _ _ _ _ (pv 0) (@sf _ _ _ _ _ (sK tH sg (pv 5)) sh (by rfl)) (by rfl))))
   (@sq _ _ _ _ _ (sL (i:=7) nd rfl (by nofun) (sK tH sg (sK sV (sU aa (hr.mono (by decide)) (by rfl) (@sf _ _ _ _ _ (pv 6) (@sf _ _ _ _ _ sg sh (by rfl)) (by rfl))) (@sE _ _ _ _ _ _ _ (sO (K:=K) rfl) (@tJ _ _ _ _ (@sf _ _ _ _ _ sg (@sf _ _ _ _ _ sg sh (by rfl)) (by rfl))) (sK sV (sU aa (hr.mono (by decide)) (by rfl) (@sf _ _ _ _ _ (pv 6) (@sf _ _ _ _ _ sg sh (by rfl)) (by rfl))) sg) (λ_ _=>rfl)))))
   (@sy _ _ _ (tM (uH PySem.F.plainAttrs_list PySem.F.slot_list_append PySem.F.type_list_append tL (pv 4) (@sf _ _ _ _ _ (@tj _ _ _ _ _ (@sf _ _ _ _ _ (sK sV (sU aa (hr.mono (by decide)) (by rfl) (@sf _ _ _ _ _ (pv 6) (@sf _ _ _ _ _ sg sh (by rfl)) (by rfl))) (pv 2)) (@sf _ _ _ _ _ (sK sV (sU aa (hr.mono (by decide)) (by rfl) (@sf _ _ _ _ _ (pv 6) (@sf _ _ _ _ _ sg sh (by rfl)) (by rfl))) (pv 2)) (@sf _ _ _ _ _ (pv 7) sh (by rfl)) (by rfl)) (by rfl))) sh (by rfl))))))))
   (@sq _ _ _ _ _ (sL (i:=8) nd rfl (by nofun) (@tJ _ _ _ _ sh))
   (@sq _ _ _ _ _ (ub PassesOwn.never rfl (s_ rfl T.n_range (@sf _ _ _ _ _ (sK sV (sU aa (hr.mono (by decide)) (by rfl) (@sf _ _ _ _ _ (pv 1) (@sf _ _ _ _ _ sg sh (by rfl)) (by rfl))) sg) sh (by rfl))) (sH (i:=5) nd rfl (by nofun)) (@sq _ _ _ _ _ (sL (i:=6) nd rfl (by nofun) (sU ak (hr.mono (by decide)) (by rfl) (@sf _ _ _ _ _ (pv 0) (@sf _ _ _ _ _ (sK tH sg (pv 5)) sh (by rfl)) (by rfl))))
   (@sq _ _ _ _ _ (sL (i:=9) nd rfl (by nofun) (sK sV (sU aa (hr.mono (by decide)) (by rfl) (@sf _ _ _ _ _ (pv 6) (@sf _ _ _ _ _ sg sh (by rfl)) (by rfl))) (@sE _ _ _ _ _ _ _ (sO (K:=K) rfl) (@tJ _ _ _ _ (@sf _ _ _ _ _ sg (@sf _ _ _ _ _ sg (@sf _ _ _ _ _ sg sh (by rfl)) (by rfl)) (by rfl))) (sK sV (sU aa (hr.mono (by decide)) (by rfl) (@sf _ _ _ _ _ (pv 6) (@sf _ _ _ _ _ sg sh (by rfl)) (by rfl))) sg) (λ_ _=>rfl))))
   (@sq _ _ _ _ _ (sL (i:=10) nd rfl (by nofun) (sK xN (sK sV (sU aa (hr.mono (by decide)) (by rfl) (@sf _ _ _ _ _ (pv 6) (@sf _ _ _ _ _ sg sh (by rfl)) (by rfl))) sg) sg))
   (@sq _ _ _ _ _ (tG (sJ tN (sK sV (sU aa (hr.mono (by decide)) (by rfl) (@sf _ _ _ _ _ (pv 6) (@sf _ _ _ _ _ sg sh (by rfl)) (by rfl))) sg) sg (sP _)) (@sy _ _ _ (sL (i:=10) nd rfl (by nofun) (sK xN (sK ye sg sg) (sK sV (sK vY (sU aa (hr.mono (by decide)) (by rfl) (@sf _ _ _ _ _ (pv 6) (@sf _ _ _ _ _ sg sh (by rfl)) (by rfl))) sg) (sK tH (sK vY sg (sK ye sg sg)) sg))))) sS)
   (@sy _ _ _ (tM (uH PySem.F.plainAttrs_list PySem.F.slot_list_append PySem.F.type_list_append tL (pv 8) (@sf _ _ _ _ _ (@tj _ _ _ _ _ (@sf _ _ _ _ _ (sK sV (sU aa (hr.mono (by decide)) (by rfl) (@sf _ _ _ _ _ (pv 6) (@sf _ _ _ _ _ sg sh (by rfl)) (by rfl))) (pv 2)) (@sf _ _ _ _ _ (pv 9) (@sf _ _ _ _ _ (pv 10) sh (by rfl)) (by rfl)) (by rfl))) sh (by rfl))))))))))
   (@sy _ _ _ (@sN _ _ _ _ (@tj _ _ _ _ _ (@sf _ _ _ _ _ (pv 3) (@sf _ _ _ _ _ (pv 4) (@sf _ _ _ _ _ (pv 8) sh (by rfl)) (by rfl)) (by rfl)))))))))))),?_⟩
  refine⟨_,rfl,a,ns,0,rfl,hS,λhd H1 s1=>?_⟩
  refine⟨_,rfl,hd,0,rfl,by decide,by decide,λr r0 r1=>⟨_,_,rfl,rfl,(show(0:Int)<5 by decide),_,_,rfl,rfl,?_⟩⟩
  obtain⟨m,hm,m1,m5⟩:∃m:Nat,1+r%5=(m:Int)/\1<=m/\m<=5:=⟨(1+r%5).toNat,by omega,by omega,by omega⟩
  rw[hm]
  refine⟨_,rfl,_,rfl,by rw[p62];omega,by rw[p62];omega,λD nD=>?_⟩
  refine t9 (lo:=0) (n:=((m:Nat):Int).toNat) (λi H5=>∃(vs:List V)(st:List Sta),Same H1 H5/\H5 D=some (.lst vs)/\Paired (IsSta H5) vs st/\st.length=i/\∀s∈st,StaOk s) ⟨[],[],Same.new nD,ss,.nil,rfl,λ_ z=>absurd z zI⟩ ?_ ?_
  ·rintro i H5 m' Wf hi ⟨vs,st,s5,h5,ps,ls,oks⟩ nx
   have lv:=ps.length
   refine⟨_,rfl,_,rfl,_,_,rfl,rfl,a,ns,_,rfl,(s1.trans s5).seq hS,λc H6 s6=>⟨c,rfl,λp st1 H7 hp ok1 s7=>?_⟩⟩
   have s67:=s6.trans s7
   refine⟨_,s67 _ _ h5,sG (by omega),nx _ ⟨vs++[.ref p],st++[st1],(s5.trans s67).upd nD,ss,?_,by rw[zM,ls];rfl,uN oks ok1⟩⟩
   exact sW (sw (λ_ _ h=>(IsSta.same s67 h).keep (s67 _ _ h5)) ps) (.cons (IsSta.keep (s67 _ _ h5) ⟨p,rfl,hp⟩) .nil)
  ·rintro H5 ⟨vs,st,s5,h5,ps,ls,oks⟩
   have ls':st.length=m:=by omega
   have S5:=s1.trans s5
   refine⟨zV _,λaB nB=>?_⟩
   have sB:Same H5 (upd H5 aB (.lst [])):=Same.new nB
   have hB:(upd H5 aB (.lst [])) aB=some (.lst []):=ss
   refine⟨_,rfl,hd,1,rfl,by decide,by decide,λb b0 b1=>⟨_,_,rfl,rfl,(show(0:Int)<8 by decide),?_⟩⟩
   refine⟨_,rfl,by rw[p62];omega,by rw[p62];omega,t4 (n:=(b%8).toNat) (λi σ H6=>∃(v5 v6 v7:Option V)(ys:List V)(be:List Tri),σ=[some (.ref a),some (.int hd),some (.int (m:Int)),some (.ref D),some (.ref aB),v5,v6,v7,none,none,none]/\Same H5 H6/\H6 aB=some (.lst ys)/\Paired (IsTri H6) ys be/\be.length=i/\∀t∈be,0<=t.1/\t.1<(m:Int)/\0<=t.2.1/\t.2.1<(m:Int)/\1<=t.2.2/\t.2.2<=9) ⟨_,_,_,[],[],rfl,sB,hB,.nil,rfl,λ_ z=>absurd z zI⟩ ?_ ?_⟩
   ·rintro i σ H6 hi ⟨v5,v6,v7,ys,be,rfl,s6,h6,pb,lb,okb⟩
    have lys:=pb.length
    refine⟨_,rfl,_,rfl,_,_,rfl,rfl,a,ns,_,rfl,(S5.trans s6).seq hS,λc H7 s7=>?_⟩
    refine⟨_,rfl,c,42,rfl,by decide,by decide,λx1 x10 x11=>⟨(by show 2<=sizeLine;decide),λl1 nl1=>?_⟩⟩
    have s8:=s7.trans (Same.new (o:=.lst [.int 3,.int 9]) nl1)
    refine⟨_,rfl,c,43,rfl,by decide,by decide,λx2 x20 x21=>⟨_,_,rfl,rfl,(show(0:Int)<2 by decide),?_⟩⟩
    obtain⟨z,hz,mz⟩:=at3 (xs:=[3,9]) (r:=x2) (n:=2) rfl (by decide)
    have zz:z=3\/z=9:=by simpa using mz
    refine⟨_,_,_,_,rfl,rfl,SqL.of ss,hz,_,_,rfl,rfl,(by omega),_,_,rfl,rfl,?_⟩
    generalize upd H7 l1 (.lst [.int 3,.int 9])=H8 at s8 ⊢
    have e1:=yW x1 (show z≠0 by omega)
    have e2:=yP x1 (show 0<z by omega)
    refine⟨_,rfl,tyL (s8 _ _ h6),_,rfl,c,40,rfl,by decide,by decide,λx3 x30 x31=>⟨_,rfl,_,_,rfl,rfl,(by omega),_,rfl,c,41,rfl,by decide,by decide,λx4 x40 x41=>⟨_,rfl,_,_,rfl,rfl,(by omega),_,rfl,(by show 3<=sizeLine;decide),λt nt=>?_⟩⟩⟩
    obtain⟨g1,g2⟩:=x8 (x3%(m:Int),x4%(m:Int),1+x1%z) s6 s8 h6 nB pb nt
    refine⟨aB,ys,_,rfl,rfl,Same.new nt _ _ (s8 _ _ h6),sG (by omega),?_⟩
    exact⟨_,_,_,_,_,rfl,g1,ss,g2,by rw[zM,lb];rfl,uN okb ⟨yW _ (by omega),yP _ (by omega),yW _ (by omega),yP _ (by omega),by show 1<=1+x1%z;omega,by show 1+x1%z<=9;omega⟩⟩
   ·rintro σ H6 ⟨v5,v6,v7,ys,be,rfl,s6,h6,pb,lb,okb⟩
    refine⟨zV _,λaF nF=>?_⟩
    have sF:Same H6 (upd H6 aF (.lst [])):=Same.new nF
    have hF:(upd H6 aF (.lst [])) aF=some (.lst []):=ss
    refine⟨_,rfl,hd,2,rfl,by decide,by decide,λb' b0' b1'=>⟨_,_,rfl,rfl,(show(0:Int)<9 by decide),?_⟩⟩
    refine⟨_,rfl,by rw[p62];omega,by rw[p62];omega,t4 (n:=(b'%9).toNat) (λi σ H7=>∃(v5 v6 v7 v9 v10:Option V)(zs:List V)(fe:List Tri),σ=[some (.ref a),some (.int hd),some (.int (m:Int)),some (.ref D),some (.ref aB),v5,v6,v7,some (.ref aF),v9,v10]/\Same H6 H7/\H7 aF=some (.lst zs)/\Paired (IsTri H7) zs fe/\fe.length=i/\∀t∈fe,0<=t.1/\t.1<(m:Int)/\0<=t.2.1/\t.2.1<=50/\-1000000000<=t.2.2/\t.2.2<=1000000000) ⟨_,_,_,_,_,[],[],rfl,sF,hF,.nil,rfl,λ_ z=>absurd z zI⟩ ?_ ?_⟩
    ·rintro i σ H7 hi ⟨v5,v6,v7,v9,v10,zs,fe,rfl,s7,h7,pf,lf,okf⟩
     have lzs:=pf.length
     refine⟨_,rfl,_,rfl,_,_,rfl,rfl,a,ns,_,rfl,(S5.trans (s6.trans s7)).seq hS,λc H8 s8=>?_⟩
     refine⟨_,rfl,c,61,rfl,by decide,by decide,λx1 x10 x11=>⟨(by show 3<=sizeLine;decide),λl1 nl1=>?_⟩⟩
     have s9:=s8.trans (Same.new (o:=.lst [.int 3,.int 9,.int 3]) nl1)
     refine⟨_,rfl,c,62,rfl,by decide,by decide,λx2 x20 x21=>⟨_,_,rfl,rfl,(show(0:Int)<3 by decide),?_⟩⟩
     obtain⟨z,hz,mz⟩:=at3 (xs:=[3,9,3]) (r:=x2) (n:=3) rfl (by decide)
     have zz:z=3\/z=9:=by simp at mz;omega
     refine⟨_,_,_,_,rfl,rfl,SqL.of ss,hz,_,_,rfl,rfl,(by omega),?_⟩
     generalize upd H8 l1 (.lst [.int 3,.int 9,.int 3])=H9 at s9 ⊢
     have e1:=yW x1 (show z≠0 by omega)
     have e2:=yP x1 (show 0<z by omega)
     refine⟨_,rfl,c,63,rfl,by decide,by decide,λx3 x30 x31=>⟨_,_,rfl,rfl,(show(0:Int)<41 by decide),_,_,rfl,rfl,?_⟩⟩
     refine⟨_,rfl,c,64,rfl,by decide,by decide,λx4 x40 x41=>⟨_,_,rfl,rfl,(show(0:Int)<2 by decide),rfl,_,rfl,?_⟩⟩
     refine wx (fun σ' H'=>∃pc:Int,σ'=[some (.ref a),some (.int hd),some (.int (m:Int)),some (.ref D),some (.ref aB),some (.int (0+(i:Int))),some (.int c),v7,some (.ref aF),some (.int (x1%z)),some (.int pc)]/\H'=H9/\-1000000000<=pc/\pc<=1000000000) (λhb k=>?_) (λhb k=>k _ _ ⟨x3%41-20,rfl,rfl,by omega,by omega⟩) ?_
     ·refine⟨_,_,rfl,rfl,⟨by decide,by decide⟩,_,rfl,c,63,rfl,by decide,by decide,λx5 x50 x51=>?_⟩
      refine⟨_,_,rfl,rfl,.inl ⟨by rw[p64];omega,by rw[p64];omega⟩,_,_,rfl,rfl,⟨by decide,by decide⟩,_,_,rfl,rfl,.inl ⟨by decide,by decide⟩,_,_,rfl,rfl,_,_,rfl,rfl,(by decide),_,_,rfl,rfl,k _ _ ⟨10 ^ Int.toNat 9-x5*8%(2*10 ^ Int.toNat 9+1),rfl,rfl,?_,?_⟩⟩
      ·rw[p9];omega
      ·rw[p9];omega
     ·rintro σ' H' ⟨pc,rfl,rfl,p1,p2⟩
      refine⟨_,rfl,tyL (s9 _ _ h7),_,rfl,c,60,rfl,by decide,by decide,λx6 x60 x61=>⟨_,rfl,_,_,rfl,rfl,(by omega),_,rfl,_,rfl,(by show 3<=sizeLine;decide),λt nt=>?_⟩⟩
      obtain⟨g1,g2⟩:=x8 (x6%(m:Int),x1%z,pc) s7 s9 h7 nF pf nt
      refine⟨aF,zs,_,rfl,rfl,Same.new nt _ _ (s9 _ _ h7),sG (by omega),?_⟩
      exact⟨_,_,_,_,_,_,_,rfl,g1,ss,g2,by rw[zM,lf];rfl,uN okf ⟨yW _ (by omega),yP _ (by omega),by show 0<=x1%z;omega,by show x1%z<=50;omega,p1,p2⟩⟩
    ·rintro σ H7 ⟨v5,v6,v7,v9,v10,zs,fe,rfl,s7,h7,pf,lf,okf⟩
     refine⟨_,rfl,_,rfl,_,rfl,(by show 3<=sizeLine;decide),λt nt=>?_⟩
     have sT:=Same.new (o:=.tup [.ref D,.ref aB,.ref aF]) nt
     have S7:=s7.trans sT
     refine q t ⟨st,be,fe⟩ _ ⟨D,aB,aF,vs,ys,zs,ss,⟨S7 _ _ (s6 _ _ h5),S7 _ _ h6,sT _ _ h7,sw (λ_ _ h=>IsSta.same (s6.trans S7) h) ps,sw (λ_ _ h=>IsTri.same S7 h) pb,sw (λ_ _ h=>IsTri.same sT h) pf⟩⟩ ⟨by show 1<=st.length;omega,by show st.length<=8;omega,by show be.length<=12;omega,by show fe.length<=60;omega,oks,λt ht=>?_,λt ht=>?_⟩ (S5.trans (s6.trans S7))
     ·show 0<=t.1/\t.1<(st.length:Int)/\0<=t.2.1/\t.2.1<(st.length:Int)/\1<=t.2.2/\t.2.2<=9
      rw[ls']
      exact okb t ht
     ·show 0<=t.1/\t.1<(st.length:Int)/\0<=t.2.1/\t.2.1<=50/\-1000000000<=t.2.2/\t.2.2<=1000000000
      rw[ls']
      exact okf t ht
end
end Oc
namespace Oc
open PySem L2
def kLe(a b:Int×Int):Prop:=kLt b a=false
theorem uk(a b:Int×Int):kLe a b↔a.1<b.1\/(a.1=b.1/\a.2<=b.2):=by
 unfold kLe
 have h:=uD b a
 cases e:kLt b a with
 | true =>
  rw[e]at h;have:=h.mp rfl;constructor
  ·intro z;cases z
  ·intro z;exfalso;omega
 | false =>
  rw[e]at h
  have:¬(b.1<a.1\/(b.1=a.1/\b.2<a.2)):=λz=>by have:=h.mpr z;cases this
  constructor
  ·intro _;omega
  ·intro _;rfl
structure Ord(W:Wk)(A:OA):Prop where
 lg:A.ge.length=W.st.length
 so:∀s,(A.ge.getD s []).Pairwise λa b=>kLe (tkey a) (tkey b)
 wy:∀s:Nat,∀t∈A.ge.getD s [],t.2.1∈W.wy s
 bd:∀s:Nat,∀t∈A.ge.getD s [],∀w∈W.wy s,∀x,A.e s w=some x->kLe (tkey t) (x,w)
theorem Tkn.bd{A:OA}{s:Nat}{ws:List Int}{t:Tri}(h:Tkn A s ws t)(wok:∀w∈ws,w=-1\/0<=w)(hway:∀w∈ws,∀u,(evAt A.de A.re s w).head?=some u->u.2.1=w):∀w∈ws,∀x,A.e s w=some x->kLe (tkey t) (x,w):=λw hw x hx=>by
 unfold OA.e at hx
 cases ev:evAt A.de A.re s w with
 | cons u r =>
  rw[ev]at hx
  cases hx
  have e:=h.min w hw u (by rw[ev];rfl)
  have e2:=hway w hw u (by rw[ev];rfl)
  unfold tkey at e ⊢
  rw[e2]at e
  exact e
 | nil =>
  rw[ev]at hx
  replace hx:(if w=-1 then none else A.pr.getD w.toNat none)=some x:=hx
  split at hx
  ·cases hx
  ·rename_i n1
   have em:A.re.getD w.toNat []=[]:=by unfold evAt at ev;rw[if_neg n1]at ev;exact ev
   have z:=h.may w hw n1 em x hx
   have w0:=(wok w hw).resolve_left n1
   rw[uk]
   unfold tkey
   dsimp only
   omega
theorem CP{m:Nat}{A:OA}(h:AOk m A){s:Nat}{w:Int}(w0:w=-1\/0<=w){u:Tri}(hh:(evAt A.de A.re s w).head?=some u):u.2.1=w:=by
 have hin:u∈evAt A.de A.re s w:=jW hh
 unfold evAt at hin
 split at hin
 ·rename_i z
  rw[z]
  exact ur (p:=λrow=>∀t∈row,t.2.1=-1) (λ_ z=>absurd z zI) h.d u hin
 ·rename_i z
  have w1:=w0.resolve_left z
  rw[zA]at hin
  cases er:A.re[w.toNat]? with
  | none=>rw[er]at hin;exact absurd hin zI
  | some row =>
   rw[er]at hin
   have:=h.r w.toNat row er u hin
   omega
theorem zj(now:Option Int):∀(bs:List Int)(B:OA)(c:Bool),((bs.foldl (λp b=>((p.1.rp1 now b.toNat).1,p.2||(p.1.rp1 now b.toNat).2)) (B,c)).2=c/\(bs.foldl (λp b=>((p.1.rp1 now b.toNat).1,p.2||(p.1.rp1 now b.toNat).2)) (B,c)).1=B) \/
  ((bs.foldl (λp b=>((p.1.rp1 now b.toNat).1,p.2||(p.1.rp1 now b.toNat).2)) (B,c)).2=true/\∃b∈bs,¬oLe ((bs.foldl (λp b=>((p.1.rp1 now b.toNat).1,p.2||(p.1.rp1 now b.toNat).2)) (B,c)).1.pr.getD b.toNat none) (B.pr.getD b.toNat none))
 | [],B,c=>.inl ⟨rfl,rfl⟩
 | b::bs,B,c=>by
  rw[List.foldl_cons]
  have R1:=C4 now B b
  have hb:((B.rp1 now b.toNat).2=false/\(B.rp1 now b.toNat).1=B)\/((B.rp1 now b.toNat).2=true/\¬oLe ((B.rp1 now b.toNat).1.pr.getD b.toNat none) (B.pr.getD b.toNat none)):=by
   unfold OA.rp1
   split
   ·exact .inl ⟨rfl,rfl⟩
   ·rename_i h
    refine .inr ⟨rfl,?_⟩
    show ¬oLe ((B.pr.set _ _).getD _ none) _
    unfold OA.stays at h
    cases e:B.pr.getD b.toNat none with
    | none=>rw[e]at h;exact absurd rfl h
    | some p =>
     have hl:b.toNat<B.pr.length:=by
      rw[zA]at e
      cases e2:B.pr[b.toNat]? with
      | none=>rw[e2]at e;cases e
      | some _=>exact(zD.mp e2).1
     rw[e]at h
     rw[tD,if_pos ⟨rfl,hl⟩]
     cases e3:B.new now b.toNat with
     | none=>exact λz=>z
     | some n =>
      rw[e3]at h
      intro z
      exact h (decide_eq_true (show n<=p from z))
  rcases zj now bs (B.rp1 now b.toNat).1 (c||(B.rp1 now b.toNat).2)with ⟨h1,h2⟩|⟨h1,b',hb',h2⟩
  ·rcases hb with ⟨g1,g2⟩|⟨g1,g2⟩
   ·exact .inl ⟨by rw[h1,g1,Bool.or_false],by rw[h2,g2]⟩
   ·refine .inr ⟨by rw[h1,g1,Bool.or_true],b,zJ,?_⟩
    rw[h2]
    exact g2
  ·refine .inr ⟨h1,b',zL _ hb',λz=>h2 (tz z (R1.le _))⟩
inductive Wrd(W:Wk)(A C:OA)(s:Nat):Str->Prop
 | took (t:Tri) (ge:C.ge=A.ge.set s (A.ge.getD s []++[t])) (ck:A.clk s (W.wy s)=some t.1):Wrd W A C s "took"
 | raised (ge:C.ge=A.ge) (b:Nat) (bt:Tri) (hb:W.be[b]?=some bt) (hs:bt.1=(s:Int)) (ne:C.pr.getD b none≠A.pr.getD b none):Wrd W A C s "raised"
 | non (e:C=A):Wrd W A C s "none"
theorem Dk{W:Wk}{A:OA}{m:Nat}(I:Inv W A)(ao:AOk m A){s:Nat}(hs:s<W.st.length):Wrd W A (A.step s).1 s (A.step s).2:=by
 obtain⟨p,hp⟩:∃p,A.srs[s]?=some p:=⟨A.srs[s]'(by rw[I.st];exact hs),zB _⟩
 have ep:A.srs.getD s sp0=p:=by rw[zA,hp];rfl
 have hws:=(I.sp s p hp).1
 have hbs:=(I.sp s p hp).2
 unfold OA.step OA.stp
 rw[ep]
 dsimp only
 cases e:A.tkn s p with
 | none =>
  have ea:A.aft s p=A:=by unfold OA.aft;rw[e]
  rw[ea,if_neg (by decide)]
  rcases zj (A.clk s p.ws) p.bs A false with ⟨h1,h2⟩|⟨h1,b,hb,h2⟩
  ·have e1:(A.rsd s p).2=false:=h1
   have e2:(A.rsd s p).1=A:=h2
   rw[e1,e2,if_neg (by decide)]
   exact .non rfl
  ·have e1:(A.rsd s p).2=true:=h1
   rw[e1,if_pos rfl]
   rw[hbs]at hb
   obtain⟨k,bt,g1,g2,g3⟩:=Wk.lv_mem hb
   have ek:b.toNat=k:=by omega
   rw[ek]at h2
   refine .raised (t_ A s p).ge k bt g1 g2 λz=>h2 ?_
   have z':((A.rsd s p).1).pr.getD k none=A.pr.getD k none:=z
   have z2:(p.bs.foldl (λq b=>((q.1.rp1 (A.clk s p.ws) b.toNat).1,q.2||(q.1.rp1 (A.clk s p.ws) b.toNat).2)) (A,false)).1.pr.getD k none=A.pr.getD k none:=z'
   rw[z2]
   exact ua _
 | some t =>
  have ea:A.aft s p=A.take s p t:=by unfold OA.aft;rw[e]
  rw[ea,if_pos (show(some t).isSome=true from rfl)]
  have wok:∀w∈p.ws,w=-1\/0<=w:=λw hw=>by rw[hws]at hw;exact Wk.wy_ok hw
  have T:=uU ao wok e
  refine .took t ?_ (by rw[←hws];exact T.clk)
  rw[(t_ (A.take s p t) s p).ge]
  exact(tV A s p t).2.2.2
theorem CM{W:Wk}{A:OA}{m:Nat}(ok:W.Ok)(I:Inv W A)(ao:AOk m A)(O:Ord W A){s:Nat}(hs:s<W.st.length):Ord W (A.step s).1:=by
 have mono:∀(j:Nat)(w:Int),(w=-1\/0<=w)->oLe (A.e j w) ((A.step s).1.e j w):=by
  obtain⟨p,hp⟩:∃p,A.srs[s]?=some p:=⟨A.srs[s]'(by rw[I.st];exact hs),zB _⟩
  have ep:A.srs.getD s sp0=p:=by rw[zA,hp];rfl
  intro j w hw
  unfold OA.step OA.stp
  rw[ep]
  refine tz (b:=(A.aft s p).e j w) ?_ ((t_ (A.aft s p) s p).mono j w)
  cases e:A.tkn s p with
  | none =>
   have ea:A.aft s p=A:=by unfold OA.aft;rw[e]
   rw[ea];exact ua _
  | some t =>
   have ea:A.aft s p=A.take s p t:=by unfold OA.aft;rw[e]
   rw[ea]
   exact vZ ok I hp (uU ao (λw hw=>by rw[(I.sp s p hp).1]at hw;exact Wk.wy_ok hw) e) hw
 have up:∀(j:Nat)(t:Tri),(∀w∈W.wy j,∀x,A.e j w=some x->kLe (tkey t) (x,w))->∀w∈W.wy j,∀x,(A.step s).1.e j w=some x->kLe (tkey t) (x,w):=λj t h w hw x hx=>by
  have m1:=mono j w (Wk.wy_ok hw)
  rw[hx]at m1
  cases e:A.e j w with
  | none=>rw[e]at m1;exact m1.elim
  | some y =>
   rw[e]at m1
   have:=h w hw y e
   rw[uk]at this ⊢
   have yx:y<=x:=m1
   dsimp only at this ⊢
   omega
 have wd:=Dk I ao hs
 have same:(A.step s).1.ge=A.ge->Ord W (A.step s).1:=λe=>⟨by rw[e];exact O.lg,by rw[e];exact O.so,by rw[e];exact O.wy,by rw[e];exact λj t ht=>up j t (O.bd j t ht)⟩
 obtain⟨p,hp⟩:∃p,A.srs[s]?=some p:=⟨A.srs[s]'(by rw[I.st];exact hs),zB _⟩
 have ep:A.srs.getD s sp0=p:=by rw[zA,hp];rfl
 have hws:=(I.sp s p hp).1
 cases e:A.tkn s p with
 | none =>
  have ea:A.aft s p=A:=by unfold OA.aft;rw[e]
  refine same ?_
  unfold OA.step OA.stp
  rw[ep,ea]
  exact(t_ A s p).ge
 | some t =>
  have ea:A.aft s p=A.take s p t:=by unfold OA.aft;rw[e]
  have wok:∀w∈p.ws,w=-1\/0<=w:=λw hw=>by rw[hws]at hw;exact Wk.wy_ok hw
  have T:=uU ao wok e
  have eg:(A.step s).1.ge=A.ge.set s (A.ge.getD s []++[t]):=by
   unfold OA.step OA.stp
   rw[ep,ea]
   exact(t_ (A.take s p t) s p).ge.trans (tV A s p t).2.2.2
  have tb:∀w∈W.wy s,∀x,A.e s w=some x->kLe (tkey t) (x,w):=by
   rw[←hws]
   exact T.bd wok λw hw u hu=>CP ao (wok w hw) hu
  have te:A.e s t.2.1=some t.1:=by
   unfold OA.e
   cases ev:evAt A.de A.re s t.2.1 with
   | nil=>have z:=T.hd;rw[ev]at z;cases z
   | cons u r=>have z:=T.hd;rw[ev]at z;cases z;rfl
  have tw:t.2.1∈W.wy s:=by rw[←hws];exact T.w
  have at_:∀j,(A.step s).1.ge.getD j []=if s=j then A.ge.getD j []++[t]else A.ge.getD j []:=λj=>by
   rw[eg,tD]
   by_cases h:s=j
   ·subst h;rw[if_pos ⟨rfl,by rw[O.lg];exact hs⟩,if_pos rfl]
   ·rw[if_neg (λz=>h z.1),if_neg h]
  refine⟨by rw[eg,zZ];exact O.lg,λj=>?_,λj u hu=>?_,λj u hu=>?_⟩
  ·rw[at_]
   split
   ·rename_i h
    subst h
    refine qD.mpr ⟨O.so s,jC _ _,λa ha b hb=>?_⟩
    rw[zG.mp hb]
    exact O.bd s a ha t.2.1 tw t.1 te
   ·exact O.so j
  ·rw[at_]at hu
   split at hu
   ·rename_i h
    subst h
    rcases yA.mp hu with z|z
    ·exact O.wy s u z
    ·rw[zG.mp z];exact tw
   ·exact O.wy j u hu
  ·refine up j u λw hw x hx=>?_
   rw[at_]at hu
   split at hu
   ·rename_i h
    subst h
    rcases yA.mp hu with z|z
    ·exact O.bd s u z w hw x hx
    ·rw[zG.mp z];exact tb w hw x hx
   ·exact O.bd j u hu w hw x hx
theorem Dp(W:Wk):Ord W W.oa:=by
 have e:∀s,W.oa.ge.getD s []=[]:=λs=>by
  show(W.st.map λ_=>([]:List Tri)).getD s []=[]
  rw[zA,zF]
  cases W.st[s]? <;>rfl
 exact⟨zC _,λs=>by rw[e];exact .nil,λs t ht=>by rw[e]at ht;exact absurd ht zI,λs t ht=>by rw[e]at ht;exact absurd ht zI⟩
end Oc
namespace Oc
open PySem L2
theorem zv(W:Wk)(s:Int):(W.drs s).Pairwise λa b=>a.2.1<=b.2.1:=by
 unfold Wk.drs
 refine vE.mpr ⟨λt _=>?_,?_⟩
 ·refine List.pairwise_iff_forall_sublist.mpr fun {a b} h=>?_
  have ha:=(yG.mp (h.subset zJ)).2
  have hb:=(yG.mp (h.subset (zL _ zJ))).2
  rw[qZ,beq_iff_eq,beq_iff_eq]at ha hb
  omega
 ·refine List.Pairwise.imp_of_mem (fun {i j} _ _ hij a ha b hb=>?_) jS
  have ha:=(yG.mp ha).2
  have hb:=(yG.mp hb).2
  rw[qZ,beq_iff_eq,beq_iff_eq]at ha hb
  omega
theorem Bf(W:Wk)(s:Int):(W.de s).Pairwise λa b=>a.1<=b.1:=by
 unfold Wk.de Wk.dr
 rw[vA]
 exact List.pairwise_map.mpr (zv W s)
theorem tK{α:Type}(l:List α)(j:Nat):(l.map λ_=>([]:List Tri)).getD j []=[]:=by
 rw[zA,zF]
 cases l[j]? <;>rfl
theorem AI{W:Wk}(ok:W.Ok)(s:Int):∀t∈W.de s,0<=t.1:=λt ht=>by
 unfold Wk.de Wk.dr at ht
 rw[vA]at ht
 obtain⟨f,hf,rfl⟩:=yI.mp ht
 have:=(ok.fee f (Wk.drs_mem hf).1).2.2.1
 exact this
theorem Au{W:Wk}(j:Nat):W.des.getD j []=[]\/W.des.getD j []=W.de (j:Int):=by
 unfold Wk.des
 rw[zA,zF]
 cases h:(List.range W.st.length)[j]? with
 | none=>exact .inl rfl
 | some k =>
  have:=zD.mp h
  obtain⟨_,e⟩:=this
  rw[List.getElem_range]at e
  subst e
  exact .inr rfl
theorem vy{W:Wk}(ok:W.Ok):Inv W W.oa:=by
 refine⟨by show((List.range _).map _).length=_;rw[zC,yC],λs p hp=>?_,rfl,zC _,zC _,by show((List.range _).map _).length=_;rw[zC,yC],λs=>?_,λb=>?_,λb t ht=>?_,λb bt hb=>?_⟩
 ·have:((List.range W.st.length).map W.sp)[s]?=some p:=hp
  rw[zF]at this
  obtain⟨k,hk,e⟩:=yM.mp this
  have e2:=(zD.mp hk).2
  rw[List.getElem_range]at e2
  rw[←e,←e2]
  exact⟨rfl,rfl⟩
 ·show(W.des.getD s []).Pairwise _
  rcases Au (W:=W) s with e|e
  ·rw[e];exact .nil
  ·rw[e];exact Bf W s
 ·show((W.be.map λ_=>([]:List Tri)).getD b []).Pairwise _
  rw[tK];exact .nil
 ·replace ht:t∈(W.be.map λ_=>([]:List Tri)).getD b []:=ht
  rw[tK]at ht
  exact absurd ht zI
 ·have e1:W.oa.pr.getD b none=some bt.2.2:=by
   show(W.be.map λt=>some t.2.2).getD b none=_
   rw[zA,zF,hb];rfl
  rw[e1]
  have key:oLe (some 0) (W.oa.clk bt.1.toNat (W.wy bt.1)):=by
   refine Ai (f:=W.oa.e bt.1.toNat) λw hw=>?_
   unfold OA.e
   cases ev:evAt W.oa.de W.oa.re bt.1.toNat w with
   | cons u r =>
    show(0:Int)<=u.1
    unfold evAt at ev
    split at ev
    ·replace ev:W.des.getD bt.1.toNat []=u::r:=ev
     rcases Au (W:=W) bt.1.toNat with e|e
     ·rw[e]at ev;cases ev
     ·rw[e]at ev
      exact AI ok _ u (by rw[ev];exact zJ)
    ·replace ev:(W.be.map λ_=>([]:List Tri)).getD w.toNat []=u::r:=ev
     rw[tK]at ev
     cases ev
   | nil =>
    show oLe (some 0) (if w=-1 then none else W.oa.pr.getD w.toNat none)
    split
    ·exact tU _
    ·show oLe (some 0) ((W.be.map λt=>some t.2.2).getD w.toNat none)
     rw[zA,zF]
     cases h:W.be[w.toNat]? with
     | none=>exact tU _
     | some c =>
      have:=(ok.bel c (zE h)).2.2.2.2.1
      show(0:Int)<=c.2.2
      omega
  have:=vR (d:=bt.2.2) key
  have e0:oAdd (some 0) bt.2.2=some bt.2.2:=by show some (0+bt.2.2)=_;rw[qC]
  rw[e0]at this
  exact this
theorem AC(f:Nat->Nat->Bool):∀n,argBest f n<=n
 | 0=>zH _
 | n+1=>by
  have:=AC f n
  simp only [argBest]
  split
  ·exact zH _
  ·omega
theorem B5{A:OA}{s:Nat}{ws:List Int}(h:A.hds s ws≠[]):∃t,A.upc s ws=some t:=by
 have l:0<(A.hds s ws).length:=j1.mpr h
 have b:=AC (λi j=>kLt (((A.hds s ws).map tkey).getD i (0,0)) (((A.hds s ws).map tkey).getD j (0,0))) (((A.hds s ws).map tkey).length-1)
 have k:bestK ((A.hds s ws).map tkey)<(A.hds s ws).length:=by
  unfold bestK
  rw[zC]at b ⊢
  omega
 exact⟨(A.hds s ws)[bestK ((A.hds s ws).map tkey)]'k,zB k⟩
theorem DD{A:OA}{s:Nat}{ws:List Int}{t:Tri}(eu:A.upc s ws=some t){w':Int}(hw':w'∈ws){u:Tri}(hu:(evAt A.de A.re s w').head?=some u):kLt (tkey u) (tkey t)=false:=by
 have hu2:u∈A.hds s ws:=yT.mpr ⟨w',hw',hu⟩
 obtain⟨j,hj⟩:=yL hu2
 have lj:=(zD.mp hj).1
 have b:=yh ((A.hds s ws).map tkey) (((A.hds s ws).map tkey).length-1) j (by rw[zC];omega)
 have e1:((A.hds s ws).map tkey).getD j (0,0)=tkey u:=by rw[zA,zF,hj];rfl
 have e2:((A.hds s ws).map tkey).getD (bestK ((A.hds s ws).map tkey)) (0,0)=tkey t:=by
  rw[zA,zF]
  unfold OA.upc at eu
  rw[eu];rfl
 unfold bestK at e2
 rw[e1,e2]at b
 exact b
end Oc
namespace Oc
open PySem L2
def OA.go(A:OA)(ts:List Nat):OA:=ts.foldl (λA s=>(A.step s).1) A
theorem OwnF.stp{W:Wk}{m:Nat}{H:Hp}{o:OR}{A:OA}(f:OwnF W m H o A){s:Nat}{r:SR}(hr:o.srs[s]?=some r):A.stp s r.pu=A.step s:=by
 unfold OA.step
 rw[←f.is.s,zA,zF,hr]
 rfl
theorem OwnF.nxt{cs:Cs}{C Pu:Addr}{M:List (List Cell)}{W:Wk}{m:Nat}{H H':Hp}{o o':OR}{A:OA}(f:OwnF W m H o A){s:Nat}{r:SR}(hr:o.srs[s]?=some r)(st:OSt cs C Pu M m H H' o o' (A.stp s r.pu).1):OwnF W (m+1) H' o' (A.step s).1:=by
 rw[f.stp hr]at st
 exact⟨st.ok,st.is,st.so,st.ao,by rw[st.l];exact f.ns,by rw[st.d];exact f.nb⟩
end Oc
namespace Oc
open PySem L2
def bhd(c:Option Int)(t:Int):Bool:=match c with
 | none=>false
 | some x=>decide (x<=t)
def OA.bhs(A:OA)(n:Nat)(t:Int):List Nat:=(List.range n).filter λs=>bhd (A.clk s (A.srs.getD s sp0).ws) t
theorem Di(A:OA)(i:Nat)(t:Int):A.bhs (i+1) t=A.bhs i t++if bhd (A.clk i (A.srs.getD i sp0).ws) t=true then [i]else []:=by
 unfold OA.bhs
 rw[yU,yJ]
 congr 1
 by_cases h:bhd (A.clk i (A.srs.getD i sp0).ws) t=true
 ·rw[if_pos h,yX (p:=λs=>bhd (A.clk s (A.srs.getD s sp0).ws) t) h];rfl
 ·rw[if_neg h,y6 (p:=λs=>bhd (A.clk s (A.srs.getD s sp0).ws) t) h];rfl
theorem Dw(A:OA)(n:Nat)(t:Int):(A.bhs n t).length<=n:=by
 have:=y8 (λs=>bhd (A.clk s (A.srs.getD s sp0).ws) t) (List.range n)
 rw[yC]at this
 exact this
theorem OIs.at{H:Hp}{o:OR}{A:OA}(h:OIs H o A){i:Nat}{r:SR}(hr:o.srs[i]?=some r):(A.srs.getD i sp0).ws=r.ws:=by
 rw[←h.s,zA,zF,hr]
 rfl
def intV(ts:List Nat):List V:=ts.map λt:Nat=>V.int (t:Int)
inductive spIb(cs:Cs)(C:Addr)(vs:List V)(H:Hp)(Q:VK)(x_3:XK):Prop where
 | mk (o:OR) (M:List (List Cell)) (s:Nat) (r:SR) (A:OA) (t:Int) (h_0:vs=[.ref o.x,.int s,.int t]) (h_1:Hc H (ownCs cs C o++M)) (h_2:OOk o) (h_3:o.srs[s]?=some r) (h_4:r.ws.length<=100) (h_5:OIs H o A) (h_6:∀H',Same H H'->Q (.bl (bhd (A.clk s r.ws) t)) H'):spIb cs C vs H Q x_3
inductive spBhd(cs:Cs)(C:Addr)(vs:List V)(H:Hp)(Q:VK)(x_3:XK):Prop where
 | mk (o:OR) (M:List (List Cell)) (w:Addr) (W:Wk) (A:OA) (t:Int) (h_0:vs=[.ref o.x,.ref w,.int t]) (h_1:Hc H (ownCs cs C o++M)) (h_2:OOk o) (h_3:OIs H o A) (h_4:(∀r∈o.srs,r.ws.length<=100)) (h_5:WkAt H w W) (h_6:W.st.length=o.srs.length) (h_7:∀(l:Addr)(H':Hp),H l=none->Same H H'->H' l=some (.lst (intV (A.bhs W.st.length t)))->Q (.ref l) H'):spBhd cs C vs H Q x_3
section
variable{P:Program}{w:World}{K:PySem.W.Frag}{mg:Str->Option Value}{base:Heap}{cs:Cs}{C:Addr}
theorem EN:FnScope ["own","station","until","now"] ["own","station","until"] (defScope (top 19)):=⟨rfl,rfl,rfl,by decide +kernel,rfl,by decide +kernel,by decide +kernel⟩
theorem Go{f:Addr}{fd:FuncData}(F:Fun K "is_behind" "is_behind" (top 19) f fd)(G_clock:MethAt P w K mg base 3 C "clock" ["self","station"] (spClk cs C)):FnOk P w K mg base CX0 4 f fd ["own","station","until"] (spIb cs C):=by
 have nd:=EN.nd
 refine F.ok EN (λvs H Q E h=>?_) (λcdv A outer s H vs Q E hr h=>?_)
 ·obtain⟨o,M,s,r,A,t,rfl,_⟩:=h
  rfl
 ·obtain⟨o,M,s,r,A,t,rfl,hc,ok,hr',l1,is,q⟩:=h
  refine⟨_,(@sq _ _ _ _ _ (sL (i:=3) nd rfl (by nofun) (uc G_clock (hr.mono (by decide)) (pv 0) (@sf _ _ _ _ _ (pv 1) sh (by rfl))))
   (@sy _ _ _ (@sN _ _ _ _ (Cl (uR u_ (pv 3) tY (sP _)) (Ae (uR CA (pv 3) (pv 2) (sP _))))))),?_⟩
  refine⟨_,rfl,o.x,o.dx,o.flds,rfl,hc.get 0 0 rfl rfl,f_m (by decide +kernel),_,rfl,o,M,s,r,A.de,A.re,A.ge,rfl,hc,ok,hr',l1,is.e,λH1 s1=>?_⟩
  rw[is.clk]
  replace q:=q H1 s1
  revert q
  cases A.clk s r.ws with
  | none =>
   intro q
   refine⟨_,rfl,rfl,_,rfl,?_⟩
   exact iteF q
  | some c =>
   intro q
   refine⟨_,rfl,rfl,_,rfl,?_⟩
   exact iteT ⟨_,rfl,_,rfl,_,_,rfl,rfl,q⟩
theorem Dc:FnScope ["own","works","until"] ["own","works","until"] (defScope (top 20)):=⟨rfl,rfl,rfl,by decide +kernel,rfl,by decide +kernel,by decide +kernel⟩
theorem Fp{f:Addr}{fd:FuncData}(F:Fun K "behind" "behind" (top 20) f fd)(T:Txt K mg)(aY:FnAt P w K mg base 4 "is_behind" ["own","station","until"] (spIb cs C)):FnOk P w K mg base CX0 5 f fd ["own","works","until"] (spBhd cs C):=by
 have nd:=Dc.nd
 refine F.ok Dc (λvs H Q E h=>?_) (λcdv A outer s H vs Q E hr h=>?_)
 ·obtain⟨o,M,w,W,A,t,rfl,_⟩:=h
  rfl
 ·obtain⟨o,M,w,W,A,t,rfl,hc,ok,is,l100,hw,eS,q⟩:=h
  obtain⟨sa,ba,fa,xs,ys,zs,h1,h2⟩:=hw.ex
  have s8:=ok.s8
  have lx:=h2.ps.length
  refine⟨_,(@sy _ _ _ (@sN _ _ _ _ (tE (own:=["station"]) (fr:=["own","until"]) (js:=[0,2]) (by and_intros) (s_ rfl T.n_range (@sf _ _ _ _ _ (sR (sM (K:=K) rfl) (by rfl) T.n_len tX (@sf _ _ _ _ _ (@sE _ _ _ _ _ _ _ (sA (K:=K) rfl) (pv 1) sg (λ_ _=>rfl)) sh (by rfl))) sh (by rfl))) (λ_ _ _ _=>(sH (i:=0) (show List.Nodup (["station","own","until"]:List Str)from by decide +kernel) rfl (by nofun))) (λ_ _ _ _=>(uj (uI (sU aY (hr.mono (by decide)) (by rfl) (@sf _ _ _ _ _ (pv 1) (@sf _ _ _ _ _ (pv 0) (@sf _ _ _ _ _ (pv 2) sh (by rfl)) (by rfl)) (by rfl)))))) (λ_ _ _ _=>(pv 0))))),?_⟩
  refine⟨_,rfl,⟨_,_,_,_,rfl,rfl,SqT.of h1,(su (j:=0) rfl),sa,_,rfl,.inl (SqL.of h2.hs),_,rfl,by rw[p62];omega,by rw[p62];omega,λD nD=>?_⟩⟩
  refine t9 (lo:=0) (n:=((xs.length:Nat):Int).toNat) (λi H8=>Same H H8/\H8 D=some (.lst (intV (A.bhs i t)))) ⟨Same.new nD,ss⟩ ?_ ?_
  ·rintro i H8 m Wf hi ⟨s8',h8⟩ nx
   have ez:(0:Int)+(i:Int)=(i:Int):=qC _
   rw[ez]
   obtain⟨r,hr'⟩:∃r,o.srs[i]?=some r:=⟨o.srs[i]'(by omega),zB _⟩
   have er:=is.at hr'
   refine⟨_,rfl,_,rfl,_,rfl,o,M,i,r,A,t,rfl,hc.same s8',ok,hr',l100 r (zE hr'),is.tk (Tk.of s8'),λH9 s9=>⟨_,rfl,?_⟩⟩
   have bs:=Di A i t
   rw[er]at bs
   have bl:=Dw A i t
   cases hb:bhd (A.clk i r.ws) t with
   | true =>
    rw[hb]at bs
    refine iteT ⟨_,rfl,_,s9 _ _ h8,sG (by unfold intV;rw[zC];omega),nx _ ⟨(s8'.trans s9).upd nD,?_⟩⟩
    rw[ss,bs,if_pos rfl]
    unfold intV
    rw[zK]
    rfl
   | false =>
    rw[hb]at bs
    refine iteF (nx _ ⟨s8'.trans s9,?_⟩)
    rw[bs,if_neg (λz=>nomatch z),zP]
    exact s9 _ _ h8
  ·rintro H8 ⟨s8',h8⟩
   rw[zU,lx]at h8
   exact q D H8 nD s8' h8
end
end Oc
namespace Oc
open PySem L2
theorem A7{A:OA}{n:Nat}{t:Int}:(A.bhs n t).isEmpty=true↔∀s<n,bhd (A.clk s (A.srs.getD s sp0).ws) t=false:=by
 unfold OA.bhs
 rw[List.isEmpty_iff,vB]
 refine⟨λh s hs=>?_,λh s hs=>?_⟩
 ·have:=h s (yO.mpr hs)
  simpa using this
 ·rw[h s (yO.mp hs)]
  exact λz=>nomatch z
theorem Inv.ws{W:Wk}{A:OA}(I:Inv W A){s:Nat}(hs:s<W.st.length):(A.srs.getD s sp0).ws=W.wy s:=by
 obtain⟨p,hp⟩:∃p,A.srs[s]?=some p:=⟨A.srs[s]'(by rw[I.st];exact hs),zB _⟩
 rw[zA,hp]
 exact(I.sp s p hp).1
end Oc
namespace Oc
open PySem L2
def cntP(p:Tri->Bool)(rows:List (List Tri)):Nat:=(rows.map λr=>r.countP p).sum
def OA.wt(A:OA)(p:Tri->Bool):Nat:=cntP p A.de+cntP p A.re
theorem uT(p:Tri->Bool):∀(rows:List (List Tri))(i:Nat)(r:List Tri),i<rows.length->cntP p (rows.set i r)+(rows.getD i []).countP p=cntP p rows+r.countP p
 | x::rows,0,r,_=>by
  unfold cntP
  simp only [List.set_cons_zero,yE,qV,List.getD_cons_zero]
  omega
 | x::rows,i+1,r,h=>by
  have:=uT p rows i r (by simpa using h)
  unfold cntP at this ⊢
  simp only [List.set_cons_succ,yE,qV,List.getD_cons_succ]
  omega
theorem yt{p:Tri->Bool}:∀{rows:List (List Tri)},(∀i,∀t∈rows.getD i [],p t=false)->cntP p rows=0
 | [],_=>rfl
 | x::rows,h=>by
  have h0:x.countP p=0:=List.countP_eq_zero.mpr λt ht=>by
   have:=h 0 t ht
   rw[this]
   exact λz=>nomatch z
  have:=yt (p:=p) (rows:=rows) λi t ht=>h (i+1) t ht
  unfold cntP at this ⊢
  rw[yE,qV,h0,this]
theorem Ay{W:Wk}{A:OA}{m:Nat}(I:Inv W A)(ao:AOk m A){s:Nat}(hs:s<W.st.length)(q:Tri->Bool):((A.step s).1.de=A.de/\(A.step s).1.re=A.re/\∀p,A.srs[s]?=some p->A.tkn s p=none)\/∃(t:Tri)(k:Nat),Tkn A s (W.wy s) t/\(A.step s).1.wt q+(if q t=true then 1 else 0)=A.wt q+k/\k<=1/\(k=1->∃(e:Tri)(b:Nat)(bt:Tri),W.be[b]?=some bt/\q e=true/\∃g,A.pr.getD b none=some g/\g<=e.1):=by
 obtain⟨p,hp⟩:∃p,A.srs[s]?=some p:=⟨A.srs[s]'(by rw[I.st];exact hs),zB _⟩
 have ep:A.srs.getD s sp0=p:=by rw[zA,hp];rfl
 have hws:=(I.sp s p hp).1
 have hbs:=(I.sp s p hp).2
 cases e:A.tkn s p with
 | none =>
  have ea:(A.step s).1=(A.rsd s p).1:=by
   have ea:A.aft s p=A:=by unfold OA.aft;rw[e]
   unfold OA.step OA.stp
   rw[ep,ea]
  have R:=t_ A s p
  rw[ea]
  exact .inl ⟨R.de,R.re,λp' hp'=>by rw[hp]at hp';cases hp';exact e⟩
 | some t =>
  have wok:∀w∈p.ws,w=-1\/0<=w:=λw hw=>by rw[hws]at hw;exact Wk.wy_ok hw
  have T:=uU ao wok e
  have t0:=wok _ T.w
  have tw:t.2.1∈W.wy s:=by rw[←hws];exact T.w
  have R:=t_ (A.take s p t) s p
  have ec:(A.step s).1=((A.take s p t).rsd s p).1:=by
   have ea:A.aft s p=A.take s p t:=by unfold OA.aft;rw[e]
   unfold OA.step OA.stp
   rw[ep,ea]
  have hw:(A.step s).1.wt q=(A.take s p t).wt q:=by
   unfold OA.wt
   rw[ec,R.de,R.re]
  rw[hw]
  have hd:∃r,evAt A.de A.re s t.2.1=t::r:=by
   have z:=T.hd
   cases ev:evAt A.de A.re s t.2.1 with
   | nil=>rw[ev]at z;cases z
   | cons u r=>rw[ev]at z;cases z;exact⟨r,rfl⟩
  obtain⟨r,er⟩:=hd
  have pop:(A.pop s t.2.1).wt q+(if q t=true then 1 else 0)=A.wt q:=by
   unfold evAt at er
   unfold OA.pop OA.wt
   by_cases wd:t.2.1=-1
   ·rw[if_pos wd]at er ⊢
    have:=uT q A.de s (A.de.getD s []).tail (by rw[I.ld];exact hs)
    rw[er,qS]at this
    show cntP q (A.de.set s (A.de.getD s []).tail)+cntP q A.re+_=_
    rw[er]
    rw[jZ]at this ⊢
    split <;>split at this <;>omega
   ·rw[if_neg wd]at er ⊢
    obtain⟨b,bt,hb,eb,_⟩:=(Wk.wy_mem tw).resolve_left wd
    have hbl:=(zD.mp hb).1
    have:=uT q A.re t.2.1.toNat (A.re.getD t.2.1.toNat []).tail (by rw[I.lr];omega)
    rw[er,qS]at this
    show cntP q A.de+cntP q (A.re.set t.2.1.toNat (A.re.getD t.2.1.toNat []).tail)+_=_
    rw[er]
    rw[jZ]at this ⊢
    split <;>split at this <;>omega
  rw[hws]at T
  have lre:(A.pop s t.2.1).re.length=W.be.length:=by rw[←I.lr];unfold OA.pop;split <;>simp
  have edl:(A.pop s t.2.1).dl=W.dels:=by rw[←I.dl];unfold OA.pop;split <;>rfl
  cases eo:p.out (p.ws.idxOf t.2.1) t.2.2 with
  | none =>
   refine .inr ⟨t,0,T,?_,zV _,λz=>nomatch z⟩
   have:(A.take s p t).wt q=(A.pop s t.2.1).wt q:=by
    unfold OA.take
    rw[eo]
    rfl
   rw[this]
   exact pop
  | some o =>
   have hb':o.1∈W.lv s:=by rw[←hbs];exact SP.out_in (y:=o.2) eo
   obtain⟨b,bt,g1,g2,g3⟩:=Wk.lv_mem hb'
   have hbl:=(zD.mp g1).1
   have eb:o.1.toNat=b:=by omega
   refine .inr ⟨t,if q (t.1+W.dels.getD b 0,o.1,o.2)=true then 1 else 0,T,?_,(by split <;>omega),λz=>?_⟩
   ·have put:(A.take s p t).wt q=(A.pop s t.2.1).wt q+(if q (t.1+W.dels.getD b 0,o.1,o.2)=true then 1 else 0):=by
     have e1:(A.take s p t).de=(A.pop s t.2.1).de:=by unfold OA.take;rw[(u5 _ _ _).1];rfl
     have e2:(A.take s p t).re=(A.pop s t.2.1).re.set b ((A.pop s t.2.1).re.getD b []++[(t.1+W.dels.getD b 0,o.1,o.2)]):=by
      unfold OA.take
      rw[eo]
      show(A.pop s t.2.1).re.set o.1.toNat ((A.pop s t.2.1).re.getD o.1.toNat []++[(t.1+(A.pop s t.2.1).dl.getD o.1.toNat 0,o.1,o.2)])=_
      rw[eb,edl]
     unfold OA.wt
     rw[e1,e2]
     have:=uT q (A.pop s t.2.1).re b ((A.pop s t.2.1).re.getD b []++[(t.1+W.dels.getD b 0,o.1,o.2)]) (by omega)
     rw[List.countP_append,vF]at this
     omega
    rw[put]
    omega
   ·split at z
    ·rename_i hq
     refine⟨_,b,bt,g1,hq,?_⟩
     have pc:=I.pc b bt g1
     rw[g2,zU,T.clk]at pc
     rw[Wk.dl_at g1]
     cases eg:A.pr.getD b none with
     | none=>rw[eg]at pc;exact pc.elim
     | some g=>rw[eg]at pc;exact⟨g,rfl,pc⟩
    ·cases z
end Oc
namespace Oc
open PySem L2
theorem wB{W:Wk}{A:OA}(I:Inv W A){s:Nat}(hs:s<W.st.length):∃p,A.srs[s]?=some p/\p.ws=W.wy s/\p.bs=W.lv s/\((A.tkn s p=none/\(A.step s).1=(A.rsd s p).1)\/∃t,A.tkn s p=some t/\(A.step s).1=((A.take s p t).rsd s p).1):=by
 obtain⟨p,hp⟩:∃p,A.srs[s]?=some p:=⟨A.srs[s]'(by rw[I.st];exact hs),zB _⟩
 have ep:A.srs.getD s sp0=p:=by rw[zA,hp];rfl
 refine⟨p,hp,(I.sp s p hp).1,(I.sp s p hp).2,?_⟩
 cases e:A.tkn s p with
 | none =>
  refine .inl ⟨rfl,?_⟩
  have ea:A.aft s p=A:=by unfold OA.aft;rw[e]
  unfold OA.step OA.stp
  rw[ep,ea]
 | some t =>
  refine .inr ⟨t,rfl,?_⟩
  have ea:A.aft s p=A.take s p t:=by unfold OA.aft;rw[e]
  unfold OA.step OA.stp
  rw[ep,ea]
theorem A4{W:Wk}{A:OA}{m:Nat}(I:Inv W A)(ao:AOk m A){s:Nat}(hs:s<W.st.length):AOk (m+1) (A.step s).1:=by
 have go_:∀{B C:OA},AOk (m+1) B->C.de=B.de->C.re=B.re->C.ge=B.ge->AOk (m+1) C:=fun {B C} h e1 e2 e3=>⟨by rw[e1];exact h.d,by rw[e2];exact h.r,by rw[e2];exact h.lr,by rw[e3];exact h.lg⟩
 obtain⟨p,hp,e1,e2,h⟩:=wB I hs
 rcases h with ⟨_,e⟩|⟨t,_,e⟩
 ·rw[e]
  have R:=t_ A s p
  exact go_ (ao.le (yZ m)) R.de R.re R.ge
 ·rw[e]
  have R:=t_ (A.take s p t) s p
  refine go_ (ao.take s p t λb hb=>?_) R.de R.re R.ge
  rw[e2]at hb
  obtain⟨j,_,_,_,h3⟩:=Wk.lv_mem hb
  omega
def Gt(W:Wk)(A:OA)(c:Int)(k:Nat):Prop:=∀(b:Nat) bt,W.be[b]?=some bt->bt.1<(k:Int)->∀g,A.pr.getD b none=some g->c<g
def Clo(W:Wk)(A:OA)(c:Int):Prop:=∀s:Nat,s<W.st.length->∀x,A.clk s (W.wy s)=some x->c<=x
def Zro(W:Wk)(A:OA)(c:Int)(j:Nat):Prop:=∀w∈W.wy j,∀t∈evAt A.de A.re j w,c<t.1
section
variable{W:Wk}{A:OA}{m s:Nat}{c:Int}
theorem Da(ok:W.Ok)(I:Inv W A)(ao:AOk m A)(hs:s<W.st.length)(h:Clo W A c):Clo W (A.step s).1 c:=λj hj x hx=>by
 have:=(uO ok I ao hs).clk j
 rw[hx]at this
 cases e:A.clk j (W.wy j) with
 | none=>rw[e]at this;exact this.elim
 | some y=>rw[e]at this;exact vD (h j hj y e) this
theorem A6(ok:W.Ok)(I:Inv W A)(ao:AOk m A)(hs:s<W.st.length){k:Nat}(h:Gt W A c k):Gt W (A.step s).1 c k:=λb bt hb hk g hg=>by
 have:=((uO ok I ao hs).belt b bt hb).le
 rw[hg]at this
 cases e:A.pr.getD b none with
 | none=>rw[e]at this;exact this.elim
 | some y=>rw[e]at this;exact jB (h b bt hb hk y e) this
theorem Cu(ok:W.Ok)(I:Inv W A)(ao:AOk m A)(hs:s<W.st.length)(h:Clo W A c)(g:Gt W A c s):Gt W (A.step s).1 c (s+1):=λb bt hb hk x hx=>by
 by_cases z:bt.1<(s:Int)
 ·exact A6 ok I ao hs g b bt hb z x hx
 ·have es:bt.1=(s:Int):=by omega
  obtain⟨b1,b2,b3,b4,b5,b6⟩:=ok.bel bt (zE hb)
  obtain⟨p,hp,e1,e2,hh⟩:=wB I hs
  have mem:((b:Nat):Int)∈p.bs:=by
   rw[e2]
   have:=wD (λt:Tri=>t.1==(s:Int)) W.be 0 hb (by rw[es];exact beq_self_eq_true _)
   rw[jM]at this
   exact this
  have hbl:=(zD.mp hb).1
  have fin:∀B:OA,(A.step s).1=(B.rsd s p).1->B.pr.length=W.be.length->B.dl=W.dels->oLe (A.clk s (W.wy s)) (B.clk s (W.wy s))->c<x:=λB e lp ed le=>by
   have R:=t_ B s p
   rw[←e]at R
   have g2:=R.ge2 b ⟨(b:Int),mem,zU b⟩ (by rw[lp];exact hbl)
   rw[hx,e1]at g2
   unfold OA.new at g2
   rw[ed,Wk.dl_at hb]at g2
   cases ec:B.clk s (W.wy s) with
   | none=>rw[ec]at g2;exact g2.elim
   | some n =>
    rw[ec]at g2 le
    have g2:n+bt.2.2<=x:=g2
    cases ea:A.clk s (W.wy s) with
    | none=>rw[ea]at le;exact le.elim
    | some y =>
     rw[ea]at le
     have le:y<=n:=le
     have:=h s hs y ea
     omega
  rcases hh with ⟨_,e⟩|⟨t,et,e⟩
  ·exact fin A e I.lp I.dl (ua _)
  ·have wok:∀w∈p.ws,w=-1\/0<=w:=λw hw=>by rw[e1]at hw;exact Wk.wy_ok hw
   have T:=uU ao wok et
   refine fin _ e (by rw[(tV A s p t).1];exact I.lp) (by rw[(tV A s p t).2.1];exact I.dl) (vx λw hw=>vZ ok I hp T (Wk.wy_ok hw))
theorem yi(I:Inv W A)(ao:AOk m A)(hs:s<W.st.length)(g:Gt W A c W.st.length)(ok:W.Ok){j:Nat}(h:Zro W A c j):Zro W (A.step s).1 c j:=λw hw t ht=>by
 obtain⟨p,hp,e1,e2,hh⟩:=wB I hs
 rcases hh with ⟨_,e⟩|⟨u,eu,e⟩
 ·have R:=t_ A s p
  rw[e,R.de,R.re]at ht
  exact h w hw t ht
 ·have R:=t_ (A.take s p u) s p
  rw[e,R.de,R.re]at ht
  have wok:∀w∈p.ws,w=-1\/0<=w:=λw hw=>by rw[e1]at hw;exact Wk.wy_ok hw
  have T:=uU ao wok eu
  have old:=h w hw
  unfold evAt at ht old
  by_cases wd:w=-1
  ·rw[if_pos wd]at ht old
   rw[uW]at ht
   split at ht
   ·exact old t (qW ht)
   ·exact old t ht
  ·rw[if_neg wd]at ht old
   rw[uC A s p u (wok _ T.w)]at ht
   rcases yA.mp ht with z|z
   ·split at z
    ·exact old t (qW z)
    ·exact old t z
   ·cases eo:p.out (p.ws.idxOf u.2.1) u.2.2 with
    | none=>rw[eo]at z;exact absurd z zI
    | some o =>
     rw[eo]at z
     unfold putR at z
     dsimp only at z
     split at z
     ·rename_i y
      have hb':o.1∈W.lv s:=by rw[←e2];exact SP.out_in (y:=o.2) eo
      obtain⟨k,bt,g1,g2,g3⟩:=Wk.lv_mem hb'
      have ek:k=w.toNat:=by omega
      rw[←ek]at z
      have pc:=I.pc k bt g1
      rw[g2,zU,←e1,T.clk]at pc
      rw[zG.mp z,I.dl,Wk.dl_at g1]
      obtain⟨b1,b2,b3,b4,b5,b6⟩:=ok.bel bt (zE g1)
      cases eg:A.pr.getD k none with
      | none=>rw[eg]at pc;exact pc.elim
      | some x =>
       rw[eg]at pc
       exact jB (g k bt g1 (by omega) x eg) pc
     ·exact absurd z zI
theorem Br(I:Inv W A)(j:Nat)(w:Int):(evAt A.de A.re j w).Pairwise λa b=>a.1<=b.1:=by
 unfold evAt
 split
 ·exact I.sd j
 ·exact I.sr _
theorem BK(I:Inv W A){j:Nat}(h:∀w∈W.wy j,∀u,(evAt A.de A.re j w).head?=some u->c<u.1):Zro W A c j:=λw hw t ht=>by
 have so:=Br I j w
 have hh:=h w hw
 cases e:evAt A.de A.re j w with
 | nil=>rw[e]at ht;exact absurd ht zI
 | cons u r =>
  rw[e]at ht so hh
  have:=hh u rfl
  rcases zR.mp ht with z|z
  ·rw[z];exact this
  ·exact jB this ((yS.mp so).1 t z)
theorem Ed(ok:W.Ok)(I:Inv W A)(ao:AOk m A)(hs:s<W.st.length)(g:Gt W A c W.st.length):(A.step s).1.wt (λt=>decide (t.1<=c))<A.wt (λt=>decide (t.1<=c))\/((A.step s).1.wt (λt=>decide (t.1<=c))=A.wt (λt=>decide (t.1<=c))/\Zro W A c s):=by
 rcases Ay I ao hs (λt=>decide (t.1<=c))with ⟨e1,e2,e3⟩|⟨t,k,T,e1,e2,e3⟩
 ·refine .inr ⟨by unfold OA.wt;rw[e1,e2],BK I λw hw u hu=>?_⟩
  refine Int.lt_of_not_ge λle=>?_
  obtain⟨p,hp,h1,h2,_⟩:=wB I hs
  have et:=e3 p hp
  have hin:u∈A.hds s (W.wy s):=yT.mpr ⟨w,hw,hu⟩
  obtain⟨t,eu⟩:=B5 (A:=A) (s:=s) (ws:=W.wy s) (λz=>by rw[z]at hin;exact absurd hin zI)
  have mn:=DD eu hw hu
  have tle:t.1<=c:=by
   have:=mt (uD (tkey u) (tkey t)).mpr (by rw[mn];exact λz=>nomatch z)
   unfold tkey at this
   omega
  have hm:A.may (W.wy s) t=true:=by
   unfold OA.may
   refine kI.mpr λw' hw'=>?_
   obtain⟨m1,m2⟩:=yG.mp hw'
   have n1:w' ≠ -1:=by simpa using m2
   obtain⟨j,bt,hb,_,rfl⟩:=(Wk.wy_mem m1).resolve_left n1
   obtain⟨b1,b2,b3,b4,b5,b6⟩:=ok.bel bt (zE hb)
   rw[zU]
   unfold OA.lets
   split
   ·cases eg:A.pr.getD j none with
    | none=>rfl
    | some x =>
     have:=g j bt hb (by omega) x eg
     exact(uD (t.1,t.2.1) (x,(j:Int))).mpr (.inl (by show t.1<x;omega))
   ·rfl
  unfold OA.tkn at et
  rw[h1,eu]at et
  dsimp only at et
  rw[if_pos hm]at et
  cases et
 ·have k0:k=0:=by
   refine Classical.byContradiction λz=>?_
   obtain⟨e,b,bt,hb,q,x,hx,le⟩:=e3 (by omega)
   obtain⟨b1,b2,b3,b4,b5,b6⟩:=ok.bel bt (zE hb)
   have:=g b bt hb (by omega) x hx
   have:=of_decide_eq_true q
   omega
  by_cases tc:t.1<=c
  ·rw[if_pos (decide_eq_true tc)]at e1
   exact .inl (by omega)
  ·rw[if_neg (λz=>tc (of_decide_eq_true z))]at e1
   refine .inr ⟨by omega,BK I λw hw u hu=>?_⟩
   have:=T.min w hw u hu
   have n:¬(kLt (tkey u) (tkey t)=true):=by rw[this];exact zQ
   rw[uD]at n
   unfold tkey at n
   omega
theorem C5(I:Inv W A)(ok:W.Ok)(g:Gt W A c W.st.length)(h:∀j:Nat,j<W.st.length->Zro W A c j):Clo W A (c+1):=λs hs x hx=>by
 unfold OA.clk at hx
 obtain⟨w,hw,he⟩:=yT.mp (qM.mp hx).1
 have z:=h s hs w hw
 cases ev:evAt A.de A.re s w with
 | cons u r =>
  rw[ev]at he z
  have:=z u zJ
  replace he:some u.1=some x:=he
  cases he
  omega
 | nil =>
  rw[ev]at he
  replace he:(if w=-1 then none else A.pr.getD w.toNat none)=some x:=he
  split at he
  ·cases he
  ·rename_i w1
   obtain⟨j,bt,hb,_,rfl⟩:=(Wk.wy_mem hw).resolve_left w1
   obtain⟨b1,b2,b3,b4,b5,b6⟩:=ok.bel bt (zE hb)
   rw[zU]at he
   have:=g j bt hb (by omega) x he
   omega
end
def OA.rnd(A:OA)(k:Nat):OA:=(List.range k).foldl (λB s=>(B.step s).1) A
theorem vN(A:OA)(k:Nat):A.rnd (k+1)=((A.rnd k).step k).1:=by
 unfold OA.rnd
 rw[yU,j5]
 rfl
structure Rb(W:Wk)(F:Nat)(A:OA):Prop where
 inv:Inv W A
 ao:∃m,AOk m A
 wt:A.wt (λ_=>true)<=F
section
variable{W:Wk}{A:OA}{F:Nat}{c:Int}
theorem Ee(ok:W.Ok)(h:Rb W F A){s:Nat}(hs:s<W.st.length):Rb W F (A.step s).1:=by
 obtain⟨m,ao⟩:=h.ao
 refine⟨(uO ok h.inv ao hs).inv,⟨_,A4 h.inv ao hs⟩,?_⟩
 have:=h.wt
 rcases Ay h.inv ao hs (λ_=>true)with ⟨e1,e2,_⟩|⟨t,k,_,e1,e2,_⟩
 ·unfold OA.wt at this ⊢
  rw[e1,e2]
  exact this
 ·rw[if_pos rfl]at e1
  omega
theorem vp(ok:W.Ok)(h:Rb W F A):∀k,k<=W.st.length->Rb W F (A.rnd k)
 | 0,_=>h
 | k+1,hk=>by rw[vN];exact Ee ok (vp ok h k (by omega)) (by omega)
theorem xY(ok:W.Ok)(h:Rb W F A)(cl:Clo W A c):∀k,k<=W.st.length->Clo W (A.rnd k) c/\Gt W (A.rnd k) c k
 | 0,_=>⟨cl,λb bt hb hk=>by
  have:=(ok.bel bt (zE hb)).1
  exact absurd hk (by omega)⟩
 | k+1,hk=>by
  obtain⟨h1,h2⟩:=xY ok h cl k (by omega)
  have r:=vp ok h k (by omega)
  obtain⟨m,ao⟩:=r.ao
  rw[vN]
  exact⟨Da ok r.inv ao (by omega) h1,Cu ok r.inv ao (by omega) h1 h2⟩
theorem Aq(ok:W.Ok)(h:Rb W F A)(g:Gt W A c W.st.length):∀k,k<=W.st.length->Gt W (A.rnd k) c W.st.length/\((A.rnd k).wt (λt=>decide (t.1<=c))<A.wt (λt=>decide (t.1<=c))\/((A.rnd k).wt (λt=>decide (t.1<=c))=A.wt (λt=>decide (t.1<=c))/\∀j<k,Zro W (A.rnd k) c j))
 | 0,_=>⟨g,.inr ⟨rfl,λj z=>absurd z (qN j)⟩⟩
 | k+1,hk=>by
  obtain⟨h1,h2⟩:=Aq ok h g k (by omega)
  have r:=vp ok h k (by omega)
  obtain⟨m,ao⟩:=r.ao
  rw[vN]
  have hk':k<W.st.length:=by omega
  refine⟨A6 ok r.inv ao hk' h1,?_⟩
  rcases Ed ok r.inv ao hk' h1 with t|⟨t,z⟩
  ·rcases h2 with h2|⟨h2,_⟩
   ·exact .inl (by omega)
   ·exact .inl (by omega)
  ·rcases h2 with h2|⟨h2,h3⟩
   ·exact .inl (by omega)
   ·refine .inr ⟨by omega,λj hj=>?_⟩
    by_cases e:j=k
    ·rw[e];exact yi r.inv ao hk' h1 ok z
    ·exact yi r.inv ao hk' h1 ok (h3 j (by omega))
end
def OA.rnds(A:OA)(k:Nat):Nat->OA
 | 0=>A
 | r+1=>(A.rnds k r).rnd k
theorem Gm(A:OA)(q:Tri->Bool):A.wt q<=A.wt (λ_=>true):=by
 have h:∀rows:List (List Tri),cntP q rows<=cntP (λ_=>true) rows:=λrows=>by
  induction rows with
  | nil=>exact zH _
  | cons x rows ih =>
   unfold cntP at ih ⊢
   rw[yE,yE,qV,qV]
   have:x.countP q<=x.countP (λ_=>true):=jY λ_ _ _=>rfl
   omega
 unfold OA.wt
 exact Nat.add_le_add (h _) (h _)
section
variable{W:Wk}{A:OA}{F:Nat}{c:Int}
theorem wz(ok:W.Ok)(h:Rb W F A):∀r,Rb W F (A.rnds W.st.length r)
 | 0=>h
 | r+1=>vp ok (wz ok h r) _ (zH _)
theorem vT(A:OA)(k:Nat)(i:Nat):∀j,A.rnds k (i+j)=(A.rnds k i).rnds k j
 | 0=>rfl
 | j+1=>by
  show(A.rnds k (i+j)).rnd k=((A.rnds k i).rnds k j).rnd k
  rw[vT A k i j]
theorem za(ok:W.Ok)(h:Rb W F A)(cl:Clo W A c):∀r,Clo W (A.rnds W.st.length r) c
 | 0=>cl
 | r+1=>(xY ok (wz ok h r) (za ok h cl r) _ (zH _)).1
theorem FR(ok:W.Ok):∀(k:Nat){A:OA},Rb W F A->Gt W A c W.st.length->A.wt (λt=>decide (t.1<=c))<=k->Clo W (A.rnds W.st.length (k+1)) (c+1):=by
 intro k
 induction k with
 | zero =>
  intro A h g le
  obtain⟨h1,h2⟩:=Aq ok h g _ (zH _)
  rcases h2 with h2|⟨_,h2⟩
  ·omega
  ·exact C5 (vp ok h _ (zH _)).inv ok h1 h2
 | succ k ih =>
  intro A h g le
  obtain⟨h1,h2⟩:=Aq ok h g _ (zH _)
  have r:=vp ok h _ (zH _)
  have e:A.rnds W.st.length (k+1+1)=(A.rnd W.st.length).rnds W.st.length (k+1):=by
   rw[show k+1+1=1+(k+1) by omega,vT]
   rfl
  rw[e]
  rcases h2 with h2|⟨_,h2⟩
  ·exact ih r h1 (by omega)
  ·exact za ok r (C5 r.inv ok h1 h2) _
theorem Gk(ok:W.Ok)(h:Rb W F A)(cl:Clo W A c):Clo W (A.rnds W.st.length (F+2)) (c+1):=by
 have r:=vp ok h _ (zH _)
 have g:=(xY ok h cl _ (zH _)).2
 have e:A.rnds W.st.length (F+2)=(A.rnd W.st.length).rnds W.st.length (F+1):=by
  rw[show F+2=1+(F+1) by omega,vT]
  rfl
 rw[e]
 exact FR ok F r g (z0 (Gm _ _) r.wt)
theorem CL(ok:W.Ok)(h:Rb W F A)(cl:Clo W A 0):∀n:Nat,Clo W (A.rnds W.st.length (n*(F+2))) (n:Int)
 | 0=>by rw[Nat.zero_mul];exact cl
 | n+1=>by
  rw[Nat.add_mul,Nat.one_mul,vT]
  have:=Gk ok (wz ok h (n*(F+2))) (CL ok h cl n)
  rw[show((n+1:Nat):Int)=(n:Int)+1 by omega]
  exact this
end
end Oc
namespace Oc
open PySem L2
theorem xU{a b c:Tri->Bool}(h:∀x,(if a x=true then 1 else 0)+(if b x=true then 1 else 0)<=if c x=true then 1 else 0):∀l:List Tri,l.countP a+l.countP b<=l.countP c
 | []=>zH _
 | x::l=>by
  have h1:=xU h l
  have h2:=h x
  rw[qS,qS,qS]
  omega
theorem DP(W:Wk)(s:Int):(W.drs s).length<=W.fe.countP λf=>f.1==s:=by
 have key:∀n:Nat,((List.range n).flatMap λ(t:Nat)=>W.fe.filter λf=>f.1==s&&f.2.1==(t:Int)).length<=W.fe.countP λf=>f.1==s&&decide (f.2.1<(n:Int)):=λn=>by
  induction n with
  | zero=>exact zV _
  | succ n ih =>
   rw[yU,qH,zM,List.flatMap_singleton,←List.countP_eq_length_filter]
   refine z0 (Nat.add_le_add_right ih _) (xU (λx=>?_) _)
   by_cases e:x.1=s
   ·by_cases e1:x.2.1<(n:Int)
    ·simp [e,e1,show ¬x.2.1=(n:Int) by omega,show x.2.1<(n:Int)+1 by omega]
    ·by_cases e2:x.2.1=(n:Int)
     ·simp [e,e2,show(n:Int)<(n:Int)+1 by omega]
     ·simp [e,e1,e2]
   ·simp [e]
 refine z0 (key 51) (jY λx _ h=>?_)
 simp only [qZ]at h
 exact h.1
theorem Aa(W:Wk):W.oa.wt (λ_=>true)<=W.fe.length:=by
 have e1:cntP (λ_=>true) W.oa.re=0:=yt λi t ht=>by
  replace ht:t∈(W.be.map λ_=>([]:List Tri)).getD i []:=ht
  rw[tK]at ht
  exact absurd ht zI
 have key:∀n:Nat,cntP (λ_=>true) ((List.range n).map λ(s:Nat)=>W.de (s:Int))<=W.fe.countP λf=>decide (f.1<(n:Int)):=λn=>by
  induction n with
  | zero=>exact zV _
  | succ n ih =>
   unfold cntP at ih ⊢
   rw[yU,zK,zK,List.sum_append]
   have e:(W.de ((n:Nat):Int)).countP (λ_=>true)<=W.fe.countP λf=>f.1==((n:Nat):Int):=by
    refine z0 vG ?_
    unfold Wk.de Wk.dr
    rw[zC,zC]
    exact DP W _
   simp only [yE,jT,qV,List.sum_nil,Nat.add_zero]
   refine z0 (Nat.add_le_add ih e) (xU (λx=>?_) _)
   by_cases e1:x.1<(n:Int)
   ·simp [e1,show ¬x.1=(n:Int) by omega,show x.1<(n:Int)+1 by omega]
   ·by_cases e2:x.1=(n:Int)
    ·simp [e2,show(n:Int)<(n:Int)+1 by omega]
    ·simp [e1,e2]
 unfold OA.wt
 rw[e1]
 exact z0 (key W.st.length) vG
theorem CW{W:Wk}(ok:W.Ok):Rb W 60 W.oa:=⟨vy ok,⟨0,xV W⟩,z0 (Aa W) ok.f60⟩
theorem Dx{W:Wk}(ok:W.Ok):Clo W W.oa 0:=λs hs x hx=>by
 unfold OA.clk at hx
 obtain⟨w,hw,he⟩:=yT.mp (qM.mp hx).1
 cases ev:evAt W.oa.de W.oa.re s w with
 | cons u r =>
  rw[ev]at he
  replace he:some u.1=some x:=he
  cases he
  unfold evAt at ev
  split at ev
  ·replace ev:W.des.getD s []=u::r:=ev
   rcases Au (W:=W) s with e|e
   ·rw[e]at ev;cases ev
   ·rw[e]at ev
    exact AI ok _ u (by rw[ev];exact zJ)
  ·replace ev:(W.be.map λ_=>([]:List Tri)).getD w.toNat []=u::r:=ev
   rw[tK]at ev
   cases ev
 | nil =>
  rw[ev]at he
  replace he:(if w=-1 then none else W.oa.pr.getD w.toNat none)=some x:=he
  split at he
  ·cases he
  ·replace he:(W.be.map λt=>some t.2.2).getD w.toNat none=some x:=he
   rw[zA,zF]at he
   cases h:W.be[w.toNat]? with
   | none=>rw[h]at he;cases he
   | some c =>
    rw[h]at he
    replace he:some c.2.2=some x:=he
    cases he
    have:=(ok.bel c (zE h)).2.2.2.2.1
    omega
theorem D8{W:Wk}(ok:W.Ok){u:Int}{n:Nat}(hu:u<(n:Int)):((W.oa.rnds W.st.length (n*62)).bhs W.st.length u).isEmpty=true:=by
 have c:=CL ok (CW ok) (Dx ok) n
 have I:=(wz ok (CW ok) (n*62)).inv
 refine A7.mpr λs hs=>?_
 rw[I.ws hs]
 cases e:(W.oa.rnds W.st.length (n*62)).clk s (W.wy s) with
 | none=>rfl
 | some x =>
  have:=c s hs x e
  exact decide_eq_false (by omega)
theorem AQ(A:OA)(k:Nat):∀r,A.rnds k r=A.go (List.replicate r (List.range k)).flatten
 | 0=>rfl
 | r+1=>by
  show(A.rnds k r).rnd k=_
  rw[AQ A k r,List.replicate_succ',qR,qK]
  unfold OA.go OA.rnd
  rw[j5]
end Oc
namespace Oc
open PySem L2
open Classical in
theorem wF{H:Hp}{A B:List (List Cell)}(h:Hc H A)(p:∀c,A.flatten.count c=B.flatten.count c):Hc H B:=Hs.perm h (List.perm_iff_count.mpr p)
structure Ow31(cs:Cs)(C Pd Pu:Addr)(W:Wk)(M:List (List Cell))(H:Hp)(o:OR)(A:OA)(m:Nat):Prop where
 hc:Hc H (ownCs cs C o++M)
 fo:OwnF W m H o A
 inv:Inv W A
 dr:DoorT Pd H
 up:UpT Pu H
theorem Ow31.same{cs:Cs}{C Pd Pu:Addr}{W:Wk}{M:List (List Cell)}{H H':Hp}{o:OR}{A:OA}{m:Nat}(h:Ow31 cs C Pd Pu W M H o A m)(s:Same H H'):Ow31 cs C Pd Pu W M H' o A m:=⟨h.hc.same s,h.fo.via (λ_ _=>IsTri.same s) (zH _),h.inv,h.dr.same s,h.up.same s⟩
theorem Ew{n:Nat}(h:n<=90000):n<sizeLine:=qL h (by decide)
def upTo(u:Int)(t:Tri):Bool:=decide (t.1<=u)
inductive spGor(cs:Cs)(C Pd Pu:Addr)(vs:List V)(H:Hp)(Q:VK)(x_3:XK):Prop where
 | mk (o:OR) (M:List (List Cell)) (m:Nat) (w:Addr) (W:Wk) (A:OA) (h_0:vs=[.ref o.x,.ref w]) (h_1:Ow31 cs C Pd Pu W M H o A m) (h_2:NoT M) (h_3:(∀H',Hc H' M->WkAt H' w W)) (h_4:W.Ok) (h_5:m+W.st.length<=90000) (h_6:Pd≠Pu) (h_7:∀(o':OR)(H':Hp),o'.x=o.x->Ow31 cs C Pd Pu W M H' o' (A.rnd W.st.length) (m+W.st.length)->(∀x t,IsTri H x t->IsTri H' x t)->Q .non H'):spGor cs C Pd Pu vs H Q x_3
inductive spTu(cs:Cs)(C:Addr)(vs:List V)(H:Hp)(Q:VK)(x_3:XK):Prop where
 | mk (o:OR) (M:List (List Cell)) (s:Nat) (us:List V) (ts:List Tri) (u:Int) (h_0:vs=[.ref o.x,.int (s:Int),.int u]) (h_1:Hc H (ownCs cs C o++M)) (h_2:OOk o) (h_3:o.gv[s]?=some us) (h_4:Paired (IsTri H) us ts) (h_5:ts.length<=90000) (h_6:∀(p:Addr)(us':List V)(H':Hp),H p=none->Same H H'->H' p=some (.lst us')->Paired (IsTri H') us' (ts.filter (upTo u))->Q (.ref p) H'):spTu cs C vs H Q x_3
structure Stl(W:Wk)(u:Int)(r:Nat):Prop where
 le:r<=(u.toNat+1)*62
 em:((W.oa.rnds W.st.length r).bhs W.st.length u).isEmpty=true
 ne:∀r'<r,((W.oa.rnds W.st.length r').bhs W.st.length u).isEmpty=false
def OA.upT(A:OA)(u:Int)(n:Nat):List (List Tri):=(List.range n).map λs=>(A.ge.getD s []).filter (upTo u)
inductive spSet(cs:Cs)(C Pd Pu:Addr)(vs:List V)(H:Hp)(Q:VK)(x_3:XK):Prop where
 | mk (w:Addr) (W:Wk) (M:List (List Cell)) (u:Int) (h_0:vs=[.ref w,.int u]) (h_1:Hc H M) (h_2:NoT M) (h_3:(∀H',Hc H' M->WkAt H' w W)) (h_4:W.Ok) (h_5:0<=u) (h_6:u<=100) (h_7:DoorT Pd H) (h_8:UpT Pu H) (h_9:Pd≠Pu) (h_10:∀(t D:Addr)(bs:List Addr)(rv:List (List V))(r:Nat)(H':Hp),Stl W u r->Hc H' ([(t,.tup [.ref D,.int (r:Int)])]::[(D,.lst (bs.map V.ref))]::liC bs rv::M)->bs.length=rv.length->Paired (λus ts=>Paired (IsTri H') us ts) rv ((W.oa.rnds W.st.length r).upT u W.st.length)->DoorT Pd H'->UpT Pu H'->(∀x t,IsTri H x t->IsTri H' x t)->Q (.ref t) H'):spSet cs C Pd Pu vs H Q x_3
section
variable{P:Program}{w:World}{K:PySem.W.Frag}{mg:Str->Option Value}{base:Heap}{cs:Cs}{C Pd Pu:Addr}
theorem Ct:FnScope ["own","works","station"] ["own","works"] (defScope (top 21)):=⟨rfl,rfl,rfl,by decide +kernel,rfl,by decide +kernel,by decide +kernel⟩
theorem F6{f:Addr}{fd:FuncData}(F:Fun K "go_round" "go_round" (top 21) f fd)(T:Txt K mg)(G_step:MethAt P w K mg base 5 C "step" ["self","station"] (spStep cs C Pu)):FnOk P w K mg base CX0 6 f fd ["own","works"] (spGor cs C Pd Pu):=by
 have nd:=Ct.nd
 refine F.ok Ct (λvs H Q E h=>?_) (λcdv A outer s H vs Q E hr h=>?_)
 ·obtain⟨o,M,m,w,W,A,rfl,_⟩:=h
  rfl
 ·obtain⟨o,M,m,w,W,A,rfl,L,nM,back,ok,hm,nePP,q⟩:=h
  obtain⟨sa,ba,fa,xs,ys,zs,h1,h2⟩:=(back H L.hc.drop).ex
  have lx:=h2.ps.length
  have s8:=ok.s8
  refine⟨_,(@sy _ _ _ (ub PassesOwn.never rfl (s_ rfl T.n_range (@sf _ _ _ _ _ (sR (sM (K:=K) rfl) (by rfl) T.n_len tX (@sf _ _ _ _ _ (@sE _ _ _ _ _ _ _ (sA (K:=K) rfl) (pv 1) sg (λ_ _=>rfl)) sh (by rfl))) sh (by rfl))) (sH (i:=2) nd rfl (by nofun)) (@sy _ _ _ (tM (uc G_step (hr.mono (by decide)) (pv 0) (@sf _ _ _ _ _ (pv 2) sh (by rfl))))))),?_⟩
  refine⟨_,rfl,⟨_,_,_,_,rfl,rfl,SqT.of h1,(su (j:=0) rfl),sa,_,rfl,.inl (SqL.of h2.hs),?_⟩⟩
  rw[lx]
  refine⟨_,rfl,by rw[p62];omega,by rw[p62];omega,?_⟩
  refine t4 (n:=((W.st.length:Nat):Int).toNat) (λi σ H5=>∃(v2:Option V)(o':OR),σ=[some (.ref o.x),some (.ref w),v2]/\o'.x=o.x/\Ow31 cs C Pd Pu W M H5 o' (A.rnd i) (m+i)/\∀x t,IsTri H x t->IsTri H5 x t) ⟨_,o,rfl,rfl,L,λ_ _ h=>h⟩ ?_ ?_
  ·rintro i σ H5 hi ⟨v2,o',rfl,ex,L',tr⟩
   rw[qC]
   have hi':i<W.st.length:=by omega
   have e1:=L'.fo.ns
   obtain⟨r,hr'⟩:∃r,o'.srs[i]?=some r:=⟨o'.srs[i]'(by omega),zB _⟩
   rw[←ex]
   refine⟨_,rfl,o'.x,o'.dx,o'.flds,rfl,L'.hc.get 0 0 rfl rfl,f_m (by decide +kernel),_,rfl,o',_,i,_,_,r,rfl,L'.hc,nM,L'.fo.ok,L'.fo.is,hr',L'.fo.so,(by omega),L'.fo.ao,L'.up,λo2 H6 st=>?_⟩
   have f':=L'.fo.nxt hr' st
   have i':=(uO ok L'.inv L'.fo.ao hi').inv
   rw[←vN]at f' i'
   exact⟨_,o2,rfl,st.x,⟨st.hc,f',i',LamT.tkp L'.dr st.tk nePP L'.up,st.up⟩,λx t h=>IsTri.tkp st.tk L'.up (tr x t h)⟩
  ·rintro σ H5 ⟨v2,o',rfl,ex,L',tr⟩
   exact q o' _ ex L' tr
theorem EI:FnScope ["own","station","until"] ["own","station","until"] (defScope (top 22)):=⟨rfl,rfl,rfl,by decide +kernel,rfl,by decide +kernel,by decide +kernel⟩
theorem Gn{f:Addr}{fd:FuncData}(F:Fun K "taken_until" "taken_until" (top 22) f fd)(G_taken:MethAt P w K mg base 1 C "taken" ["self","station"] (spTaken cs C)):FnOk P w K mg base CX0 2 f fd ["own","station","until"] (spTu cs C):=by
 have nd:=EI.nd
 refine F.ok EI (λvs H Q E h=>?_) (λcdv A outer s H vs Q E hr h=>?_)
 ·obtain⟨o,M,s,us,ts,u,rfl,_⟩:=h
  rfl
 ·obtain⟨o,M,s,us,ts,u,rfl,hc,ook,hu,pu,hl,q⟩:=h
  have lu:=pu.length
  refine⟨_,(@sy _ _ _ (@sN _ _ _ _ (tE (own:=["event"]) (fr:=["until"]) (js:=[2]) (by and_intros) (sY (K:=K) rfl (uc G_taken (hr.mono (by decide)) (pv 0) (@sf _ _ _ _ _ (pv 1) sh (by rfl)))) (λ_ _ _ _=>(sH (i:=0) (show List.Nodup (["event","until"]:List Str)from by decide +kernel) rfl (by nofun))) (λ_ _ _ _=>(uj (sJ CA (@sE _ _ _ _ _ _ _ (sA (K:=K) rfl) (pv 0) sg (λ_ _=>rfl)) (pv 1) (sP _)))) (λ_ _ _ _=>(pv 0))))),?_⟩
  refine⟨_,rfl,o.x,o.dx,o.flds,rfl,hc.get 0 0 rfl rfl,f_m (by decide +kernel),_,rfl,o,M,s,us,rfl,hc,ook,hu,λp1 n1=>?_⟩
  have s1:=Same.new (o:=.lst us) n1
  have g1:=ss (H:=H) (a:=p1) (o:=.lst us)
  generalize upd H p1 (.lst us)=H1 at s1 g1 ⊢
  refine⟨p1,rfl,⟨_,SqL.of g1⟩,λD nD=>?_⟩
  have nD0:H D=none:=by
   cases e:H D with
   | none=>rfl
   | some o=>rw[s1 _ _ e]at nD;cases nD
  have pg1:=sw (λ_ _=>IsTri.same s1) pu
  refine s0 (a:=p1) (xs:=us) (λi H6=>∃vs,Same H1 H6/\H6 D=some (.lst vs)/\Paired (IsTri H6) vs ((ts.take i).filter (upTo u))) ⟨[],Same.new nD,ss,.nil⟩ (λi H6 _ ⟨_,s6,_⟩=>SqL.of (s6 _ _ g1)) ?_ ?_
  ·rintro i x H6 m' Wf hx ⟨vs,s6,h6,p6⟩ nx
   obtain⟨e,he,pe,rfl,hpe⟩:=pg1.gt hx
   have lv:=p6.length
   have lf:=y8 (upTo u) (ts.take i)
   rw[zY]at lf
   refine⟨_,rfl,⟨_,_,_,_,rfl,rfl,SqT.of (s6 _ _ hpe),(su (j:=0) rfl),_,rfl,_,_,rfl,rfl,_,rfl,?_⟩⟩
   have tk:=uh he
   by_cases hh:e.1<=u
   ·rw[decide_eq_true hh]
    refine iteT ⟨_,rfl,_,h6,Ew (by omega),nx _ ⟨vs++[.ref pe],s6.upd nD,ss,?_⟩⟩
    rw[tk,yJ,yX (show upTo u e=true from decide_eq_true hh),yN]
    exact sW (sw (λ_ _ h=>h.keep h6) p6) (.cons (IsTri.keep h6 ⟨pe,rfl,s6 _ _ hpe⟩) .nil)
   ·rw[decide_eq_false hh]
    refine iteF (nx _ ⟨vs,s6,h6,?_⟩)
    rw[tk,yJ,y6 (show ¬upTo u e=true from λz=>hh (of_decide_eq_true z)),yN,zP]
    exact p6
  ·rintro H6 ⟨vs,s6,h6,p6⟩
   rw[lu,yB]at p6
   exact q D vs H6 nD0 (s1.trans s6) h6 p6
theorem Ck:FnScope ["works","until","own","rounds"] ["works","until"] (defScope (top 23)):=⟨rfl,rfl,rfl,by decide +kernel,rfl,by decide +kernel,by decide +kernel⟩
theorem FX{f:Addr}{fd:FuncData}(F:Fun K "settled" "settled" (top 23) f fd)(T:Txt K mg)(M_Own:MkAt P w K mg base 5 "Own" C ["self","works"] (spOwI K cs C Pd))(eZ:FnAt P w K mg base 5 "behind" ["own","works","until"] (spBhd cs C))(bZ:FnAt P w K mg base 6 "go_round" ["own","works"] (spGor cs C Pd Pu))(aQ:FnAt P w K mg base 2 "taken_until" ["own","station","until"] (spTu cs C)):FnOk P w K mg base CX0 7 f fd ["works","until"] (spSet cs C Pd Pu):=by
 have nd:=Ck.nd
 refine F.ok Ck (λvs H Q E h=>?_) (λcdv A outer s H vs Q E hr h=>?_)
 ·obtain⟨w,W,M,u,rfl,_⟩:=h
  rfl
 ·obtain⟨w,W,M,u,rfl,k,nM,back,ok,u0,u1,hT,hU,nePP,q⟩:=h
  have s8:=ok.s8
  refine⟨_,(@sq _ _ _ _ _ (sL (i:=2) nd rfl (by nofun) (xA M_Own (hr.mono (by decide)) (by rfl) (@sf _ _ _ _ _ (pv 0) sh (by rfl))))
   (@sq _ _ _ _ _ (sL (i:=3) nd rfl (by nofun) sg)
   (@sq _ _ _ _ _ (zd PassesOwn.never (sJ yl (sR (sM (K:=K) rfl) (by rfl) T.n_len tX (@sf _ _ _ _ _ (sU eZ (hr.mono (by decide)) (by rfl) (@sf _ _ _ _ _ (pv 2) (@sf _ _ _ _ _ (pv 0) (@sf _ _ _ _ _ (pv 1) sh (by rfl)) (by rfl)) (by rfl))) sh (by rfl))) sg (sP _)) (@sq _ _ _ _ _ (tM (sU bZ (hr.mono (by decide)) (by rfl) (@sf _ _ _ _ _ (pv 2) (@sf _ _ _ _ _ (pv 0) sh (by rfl)) (by rfl))))
   (@sy _ _ _ (sL (i:=3) nd rfl (by nofun) (sK tH (pv 3) sg)))))
   (@sy _ _ _ (@sN _ _ _ _ (@tj _ _ _ _ _ (@sf _ _ _ _ _ (tE (own:=["station"]) (fr:=["own","until"]) (js:=[2,1]) (by and_intros) (s_ rfl T.n_range (@sf _ _ _ _ _ (sR (sM (K:=K) rfl) (by rfl) T.n_len tX (@sf _ _ _ _ _ (@sE _ _ _ _ _ _ _ (sA (K:=K) rfl) (pv 0) sg (λ_ _=>rfl)) sh (by rfl))) sh (by rfl))) (λ_ _ _ _=>(sH (i:=0) (show List.Nodup (["station","own","until"]:List Str)from by decide +kernel) rfl (by nofun))) (λ_ _ _ _=>tq) (λ_ _ _ _=>(sU aQ (hr.mono (by decide)) (by rfl) (@sf _ _ _ _ _ (pv 1) (@sf _ _ _ _ _ (pv 0) (@sf _ _ _ _ _ (pv 2) sh (by rfl)) (by rfl)) (by rfl))))) (@sf _ _ _ _ _ (pv 3) sh (by rfl)) (by rfl)))))))),?_⟩
  refine⟨_,rfl,λx dx nx ndx nex=>?_⟩
  have kF:=(k.same (Same.new (o:=.own x) ndx)).new (p:=x) (by rw[sD (Ne.symm nex)];exact nx) (.ins C dx [])
  have tF:Same H (upd (upd H dx (.own x)) x (.ins C dx [])):=(Same.new ndx).upd nx
  have hTF:=hT.same tF
  have hUF:=hU.same tF
  generalize (upd (upd H dx (.own x)) x (.ins C dx []))=HF at kF hTF hUF tF ⊢
  refine⟨x,w,dx,W,_,rfl,kF,nM,back HF kF.tl,ok,hTF,λo1 H5 ex1 hc5 kp5 hT5 new5 ev5=>⟨rfl,?_⟩⟩
  subst ex1
  have L0:Ow31 cs C Pd Pu W M H5 o1 W.oa 0:=⟨hc5,Et new5 ev5,vy ok,hT5,LamT.kpd hUF kp5 (Ne.symm nePP) (kF.get 0 0 rfl rfl)⟩
  have tr0:∀x t,IsTri H x t->IsTri H5 x t:=λx t h=>IsTri.kpd kp5 (kF.get 0 0 rfl rfl) (IsTri.same tF h)
  clear kF tF hTF hUF hc5 kp5 hT5 new5 ev5 hT hU k
  refine⟨λmm σ H6=>∃(r:Nat)(o:OR),mm=(u.toNat+1)*62-r/\σ=[some (.ref w),some (.int u),some (.ref o.x),some (.int (r:Int))]/\r<=(u.toNat+1)*62/\(∀r'<r,((W.oa.rnds W.st.length r').bhs W.st.length u).isEmpty=false)/\Ow31 cs C Pd Pu W M H6 o (W.oa.rnds W.st.length r) (r*W.st.length)/\∀x t,IsTri H x t->IsTri H6 x t,⟨_,0,o1,rfl,rfl,zV _,(λr' z=>absurd z (qN r')),by rw[Nat.zero_mul];exact L0,tr0⟩,?_⟩
  clear L0 tr0
  rintro mm σ H6 ⟨r,o,rfl,rfl,rle,hne,L,tr⟩
  have rw1:r*W.st.length<=6262*8:=Nat.mul_le_mul (by omega) s8
  refine⟨_,rfl,_,rfl,_,rfl,o,M,w,W,_,u,rfl,L.hc,L.fo.ok,L.fo.is,(λr hr=>(L.fo.so r hr).l1),back H6 L.hc.drop,L.fo.ns,λl H7 nl s7 g7=>?_⟩
  refine⟨l,_,rfl,.inl (SqL.of g7),_,_,rfl,rfl,_,rfl,?_⟩
  have el:(intV ((W.oa.rnds W.st.length r).bhs W.st.length u)).length=((W.oa.rnds W.st.length r).bhs W.st.length u).length:=zC _
  rw[el]
  have L7:=L.same s7
  have tr7:∀x t,IsTri H x t->IsTri H7 x t:=λx t h=>IsTri.same s7 (tr x t h)
  clear L g7
  cases hb:((W.oa.rnds W.st.length r).bhs W.st.length u).isEmpty with
  | false =>
   have lp:0<((W.oa.rnds W.st.length r).bhs W.st.length u).length:=j1.mpr λz=>by rw[z]at hb;cases hb
   rw[decide_eq_true (by omega)]
   have rlt:r<(u.toNat+1)*62:=by
    refine Nat.lt_of_le_of_ne rle λz=>?_
    have:=D8 ok (u:=u) (n:=u.toNat+1) (by omega)
    rw[←z,hb]at this
    cases this
   refine iteT ⟨fun σ' H8=>∃o':OR,σ'=[some (.ref w),some (.int u),some (.ref o'.x),some (.int ((r+1:Nat):Int))]/\Ow31 cs C Pd Pu W M H8 o' (W.oa.rnds W.st.length (r+1)) ((r+1)*W.st.length)/\∀x t,IsTri H x t->IsTri H8 x t,?_,?_⟩
   ·rintro σ' H8 ⟨o',rfl,L8,tr8⟩
    refine⟨_,?_,r+1,o',rfl,rfl,by omega,λr' hr'=>?_,L8,tr8⟩
    ·omega
    ·by_cases z:r'<r
     ·exact hne r' z
     ·rw[show r'=r by omega];exact hb
   ·refine⟨_,rfl,_,rfl,o,M,r*W.st.length,w,W,_,rfl,L7,nM,back,ok,(by omega),nePP,λo' H8 ex L8 tr8=>?_⟩
    refine⟨_,rfl,_,_,rfl,rfl,?_⟩
    refine⟨o',by rw[ex];rfl,?_,λx t h=>tr8 x t (tr7 x t h)⟩
    rw[Nat.add_mul,Nat.one_mul]
    exact L8
  | true =>
   have lp:((W.oa.rnds W.st.length r).bhs W.st.length u).length=0:=by rw[List.isEmpty_iff.mp hb];rfl
   rw[decide_eq_false (by omega)]
   refine iteF ?_
   have Sx:Stl W u r:=⟨rle,hb,hne⟩
   have nsx:=L7.fo.ns
   have lgv:=L7.fo.ok.lgv
   have hc7:=L7.hc
   have fo7:=L7.fo
   generalize eA:W.oa.rnds W.st.length r=A at fo7 L7
   obtain⟨sa,ba,fa,xs,ys,zs,h1,h2⟩:=(back H7 hc7.drop).ex
   have lx:=h2.ps.length
   refine⟨_,rfl,⟨_,_,_,_,rfl,rfl,SqT.of h1,(su (j:=0) rfl),sa,_,rfl,.inl (SqL.of h2.hs),?_⟩⟩
   rw[lx]
   refine⟨_,rfl,by rw[p62];omega,by rw[p62];omega,λD nD=>?_⟩
   refine t9 (lo:=0) (n:=((W.st.length:Nat):Int).toNat) (λi H8=>∃(bs:List Addr)(rv:List (List V)),Same H7 H8/\Hc H8 ([(D,.lst (bs.map V.ref))]::liC bs rv::M)/\bs.length=rv.length/\rv.length=i/\Paired (λus ts=>Paired (IsTri H8) us ts) rv (A.upT u i)) ⟨[],[],Same.new nD,(hc7.drop.pad).new nD (.lst []),rfl,rfl,.nil⟩ ?_ ?_
   ·rintro i H8 m' Wf hi ⟨bs,rv,s8',k8,lb,lr,pr⟩ nx
    rw[qC]
    obtain⟨us,hus⟩:∃us,o.gv[i]?=some us:=⟨o.gv[i]'(by omega),zB _⟩
    obtain⟨ts,hts,pts⟩:=fo7.is.e.g.gt hus
    have lts:=fo7.ao.lg ts (zE hts)
    refine⟨_,rfl,_,rfl,_,rfl,o,M,i,us,ts,u,rfl,hc7.same s8',fo7.ok,hus,sw (λ_ _=>IsTri.same s8') pts,(by omega),λp us' H9 np s9 g9 pu=>?_⟩
    have k9:=k8.newS np g9 s9
    have gD:=k9.get 1 0 rfl rfl
    have k10:=k9.put 1 0 rfl rfl (.lst (bs.map V.ref++[.ref p]))
    have tk:Tk H9 (upd H9 D (.lst (bs.map V.ref++[.ref p]))):=(Tk.of (Same.refl _)).put gD (λz=>z)
    refine⟨_,gD,sG (by rw[zC];omega),nx _ ⟨bs++[p],rv++[us'],(s8'.trans s9).upd nD,?_,by rw[zM,zM,lb];rfl,by rw[zM,lr];rfl,?_⟩⟩
    ·rw[zK,uo lb]
     refine wF k10 λc=>?_
     simp only [List.set,qR,yD,jF,yE,jT]
     omega
    ·unfold OA.upT
     rw[yU,zK]
     refine sW (sw (λ_ _ h=>sw (λ_ _ h=>IsTri.tk tk (IsTri.same s9 h)) h) pr) (.cons ?_ .nil)
     show Paired _ us' ((A.ge.getD i []).filter (upTo u))
     rw[zA,hts]
     exact sw (λ_ _ h=>IsTri.tk tk h) pu
   ·rintro H8 ⟨bs,rv,s8',k8,lb,lr,pr⟩
    rw[zU]at lr pr
    refine⟨_,rfl,(by show 2<=sizeLine;decide),λt nt=>?_⟩
    have s9:=Same.new (o:=.tup [.ref D,.int (r:Int)]) nt
    have S9:=s8'.trans s9
    exact q t D bs rv r _ Sx (k8.new nt _) lb (by rw[eA];exact sw (λ_ _ h=>sw (λ_ _=>IsTri.same s9) h) pr) (L7.dr.same S9) (L7.up.same S9) λx t h=>IsTri.same S9 (tr7 x t h)
end
end Oc
namespace Oc
open PySem L2
def SP.put1(p:SP)(dl:List Int)(b:Nat)(t:Tri):List Tri:=match p.out (p.ws.idxOf t.2.1) t.2.2 with
 | none=>[]
 | some o=>if o.1.toNat=b then [(t.1+dl.getD b 0,o.1,o.2)]else []
def SP.go(p:SP)(t:Tri):SP:=p.nxt (p.ws.idxOf t.2.1) t.2.2
def SP.puts(dl:List Int)(b:Nat):SP->List Tri->List Tri
 | _,[]=>[]
 | p,t::r=>p.put1 dl b t++SP.puts dl b (p.go t) r
def SP.aft:SP->List Tri->SP
 | p,[]=>p
 | p,t::r=>(p.go t).aft r
theorem xB:∀(p:SP)(g h:List Tri),p.aft (g++h)=(p.aft g).aft h
 | _,[],_=>rfl
 | p,t::g,h=>xB (p.go t) g h
theorem wK(dl:List Int)(b:Nat):∀(p:SP)(g h:List Tri),p.puts dl b (g++h)=p.puts dl b g++(p.aft g).puts dl b h
 | _,[],_=>rfl
 | p,t::g,h=>by
  show p.put1 dl b t++(p.go t).puts dl b (g++h)=(p.put1 dl b t++(p.go t).puts dl b g)++_
  rw[wK dl b (p.go t) g h,z9]
  rfl
theorem vW{dl:List Int}{b:Nat}{p:SP}{g h:List Tri}(e:g <+: h):p.puts dl b g <+: p.puts dl b h:=by
 obtain⟨r,rfl⟩:=e
 rw[wK]
 exact j3 _ _
theorem D1{p:SP}{dl:List Int}{b:Nat}{t e:Tri}(h:e∈p.put1 dl b t):p.put1 dl b t=[e]/\e.1=t.1+dl.getD b 0/\e.2.1.toNat=b/\p.out (p.ws.idxOf t.2.1) t.2.2=some (e.2.1,e.2.2):=by
 unfold SP.put1 at h ⊢
 cases eo:p.out (p.ws.idxOf t.2.1) t.2.2 with
 | none=>rw[eo]at h;exact absurd h zI
 | some o =>
  rw[eo]at h
  dsimp only at h ⊢
  split at h
  ·rename_i z
   rw[if_pos z]
   rw[zG.mp h]
   exact⟨rfl,rfl,z,rfl⟩
  ·exact absurd h zI
theorem uy(dl:List Int)(b:Nat):∀(p:SP)(g:List Tri)(j:Nat)(e:Tri),(p.puts dl b g)[j]?=some e->∃(i:Nat)(c:Tri),g[i]?=some c/\e.1=c.1+dl.getD b 0/\(p.puts dl b (g.take (i+1)))[j]?=some e
 | _,[],_,_,h=>by simp [SP.puts]at h
 | p,t::r,j,e,h=>by
  replace h:(p.put1 dl b t++(p.go t).puts dl b r)[j]?=some e:=h
  by_cases hj:j<(p.put1 dl b t).length
  ·rw[yF hj]at h
   have m:=D1 (zE h)
   refine⟨0,t,rfl,m.2.1,?_⟩
   show(p.put1 dl b t++_)[j]?=_
   rw[yF hj]
   exact h
  ·rw[zN (by omega)]at h
   obtain⟨i,c,h1,h2,h3⟩:=uy dl b (p.go t) r _ e h
   refine⟨i+1,c,h1,h2,?_⟩
   show(p.put1 dl b t++(p.go t).puts dl b (r.take (i+1)))[j]?=_
   rw[zN (by omega)]
   exact h3
def isY(w:Int)(t:Tri):Bool:=t.2.1==w
def Wk.st0(W:Wk)(b:Nat):Nat:=(W.be.getD b (0,0,0)).1.toNat
def OA.src(W:Wk)(A:OA)(s:Nat)(w:Int):List Tri:=if w=-1 then W.de (s:Int)else (W.sp (W.st0 w.toNat)).puts W.dels w.toNat (A.ge.getD (W.st0 w.toNat) [])
structure Cf(W:Wk)(A:OA):Prop where
 ord:Ord W A
 ev:∀s:Nat,s<W.st.length->∀w∈W.wy s,(A.ge.getD s []).filter (isY w)++evAt A.de A.re s w=A.src W s w
 nn:∀s:Nat,∀t∈A.ge.getD s [],0<=t.1
 pc:∀(b:Nat) bt,W.be[b]?=some bt->oLe (A.pr.getD b none) (oAdd (A.clk bt.1.toNat (W.wy bt.1)) bt.2.2)
def Agr(A B:OA):Prop:=∀s:Nat,A.ge.getD s [] <+: B.ge.getD s []\/B.ge.getD s [] <+: A.ge.getD s []
theorem Agr.symm{A B:OA}(h:Agr A B):Agr B A:=λs=>(h s).symm
theorem Agr.src{A B:OA}(h:Agr A B)(W:Wk)(s:Nat)(w:Int):A.src W s w <+: B.src W s w\/B.src W s w <+: A.src W s w:=by
 unfold OA.src
 split
 ·exact .inl (List.prefix_refl _)
 ·exact(h _).imp vW vW
theorem vm{α:Type}{l m:List α}(h:l <+: m\/m <+: l){j:Nat}{x y:α}(h1:l[j]?=some x)(h2:m[j]?=some y):x=y:=by
 rcases h with ⟨r,rfl⟩|⟨r,rfl⟩
 ·rw[yF (zD.mp h1).1,h1]at h2
  exact Option.some.inj h2
 ·rw[yF (zD.mp h2).1,h2]at h1
  exact(Option.some.inj h1).symm
theorem va{g:List Tri}{c:Tri}{rest ev src:List Tri}(e:(g++c::rest).filter (isY c.2.1)++ev=src):src[(g.filter (isY c.2.1)).length]?=some c:=by
 rw[←e,yJ,yX (show isY c.2.1 c=true from beq_self_eq_true _),z9,zN (zH _),qB]
 rfl
theorem Wk.wy_bel{W:Wk}{s:Nat}{w:Int}(h:w∈W.wy s)(n:w ≠ -1):∃(b:Nat)(bt:Tri),W.be[b]?=some bt/\w=(b:Int)/\W.st0 b=bt.1.toNat:=by
 obtain⟨j,bt,h1,_,h3⟩:=(Wk.wy_mem h).resolve_left n
 refine⟨j,bt,h1,h3,?_⟩
 unfold Wk.st0
 rw[zA,h1]
 rfl
theorem uv{W:Wk}{A:OA}{s b:Nat}{bt:Tri}(h:W.st0 b=bt.1.toNat):A.src W s (b:Int)=(W.sp bt.1.toNat).puts W.dels b (A.ge.getD bt.1.toNat []):=by
 unfold OA.src
 rw[if_neg (by omega),zU,h]
theorem xJ{A:OA}{s:Nat}{b:Nat}(h:evAt A.de A.re s (b:Int)=[]):A.e s (b:Int)=A.pr.getD b none:=by
 unfold OA.e
 rw[h]
 show(if ((b:Nat):Int)=-1 then none else A.pr.getD ((b:Nat):Int).toNat none)=_
 rw[if_neg (by omega),zU]
theorem wE{A:OA}{s:Nat}{w:Int}{h:Tri}{r:List Tri}(e:evAt A.de A.re s w=h::r):A.e s w=some h.1:=by
 unfold OA.e
 rw[e]
 rfl
theorem vg{W:Wk}(ok:W.Ok){A B:OA}(ca:Cf W A)(cb:Cf W B)(ag:Agr A B):∀(n:Nat)(b:Nat)(bt:Tri),W.be[b]?=some bt->∀(j:Nat)(e:Tri),((W.sp bt.1.toNat).puts W.dels b (A.ge.getD bt.1.toNat []))[j]?=some e->e.1<(n:Int)->((W.sp bt.1.toNat).puts W.dels b (B.ge.getD bt.1.toNat [])).length<=j->oLe (B.pr.getD b none) (some e.1):=by
 intro n
 induction n with
 | zero =>
  intro b bt hb j e he hn _
  obtain⟨i,c,h1,h2,_⟩:=uy _ _ _ _ _ _ he
  have:=ca.nn _ c (zE h1)
  have:=Wk.dl_pos ok b
  omega
 | succ n ih =>
  intro b bt hb j e he hn hl
  obtain⟨b1,b2,b3,b4,b5,b6⟩:=ok.bel bt (zE hb)
  obtain⟨i,c,h1,h2,h3⟩:=uy _ _ _ _ _ _ he
  rw[Wk.dl_at hb]at h2
  have hs0:bt.1.toNat<W.st.length:=by omega
  have ez:((bt.1.toNat:Nat):Int)=bt.1:=by omega
  rcases ag bt.1.toNat with pre|pre
  ·have:=(vW (dl:=W.dels) (b:=b) (p:=W.sp bt.1.toNat) pre).length_le
   have:=(zD.mp he).1
   omega
  ·obtain⟨rest,er⟩:=pre
   have li:(B.ge.getD bt.1.toNat []).length<=i:=by
    refine Nat.le_of_not_lt λz=>?_
    have p1:(A.ge.getD bt.1.toNat []).take (i+1) <+: B.ge.getD bt.1.toNat []:=by
     rw[←er,List.take_append_of_le_length (by omega)]
     exact List.take_prefix _ _
    have:=(vW (dl:=W.dels) (b:=b) (p:=W.sp bt.1.toNat) p1).length_le
    have:=(zD.mp h3).1
    omega
   cases rest with
   | nil =>
    have:=(zD.mp h1).1
    rw[←er,zP]at this
    omega
   | cons c' rest =>
    have so:=ca.ord.so bt.1.toNat
    have cc:c'.1<=c.1:=by
     rw[←er]at so h1
     rw[zN li]at h1
     have so2:=(qD.mp so).2.1
     have hm:=zE h1
     rcases zR.mp hm with z|z
     ·rw[z];exact qO _
     ·have:=(uk _ _).mp ((yS.mp so2).1 c z)
      unfold tkey at this
      omega
    have inA:c'∈A.ge.getD bt.1.toNat []:=by rw[←er];exact zO _ zJ
    have hw:=ca.ord.wy bt.1.toNat c' inA
    have evA:=ca.ev _ hs0 _ hw
    rw[←er]at evA
    have atA:=va evA
    have evB:=cb.ev _ hs0 _ hw
    have pc:=cb.pc b bt hb
    have ck:=yc (A:=B) (s:=bt.1.toNat) hw
    rw[ez]at ck
    refine Classical.byContradiction λno=>?_
    have no2:¬oLe (B.e bt.1.toNat c'.2.1) (some c'.1):=λz=>no (by
     have y:=tz ck z
     have x:=tz pc (vR (d:=bt.2.2) y)
     have e1:oLe (oAdd (some c'.1) bt.2.2) (some e.1):=by
      show c'.1+bt.2.2<=e.1
      omega
     exact tz x e1)
    cases ev:evAt B.de B.re bt.1.toNat c'.2.1 with
    | nil =>
     rw[ev,zP]at evB
     by_cases wd:c'.2.1=-1
     ·unfold OA.src at atA evB
      rw[if_pos wd]at atA evB
      rw[←evB]at atA
      have:=(zD.mp atA).1
      omega
     ·obtain⟨b',bt',hb',eb,e0⟩:=Wk.wy_bel hw wd
      rw[eb]at atA evB ev no2
      rw[uv e0]at atA evB
      refine no2 ?_
      rw[xJ ev]
      exact ih b' bt' hb' _ c' atA (by omega) (by rw[←evB];exact zH _)
    | cons h r =>
     rw[ev]at evB
     have atB:(B.src W bt.1.toNat c'.2.1)[((B.ge.getD bt.1.toNat []).filter (isY c'.2.1)).length]?=some h:=by
      rw[←evB,zN (zH _),qB]
      rfl
     have:=vm (ag.src W _ _) atA atB
     refine no2 ?_
     rw[wE ev,this]
     exact ua _
end Oc
namespace Oc
open PySem L2
theorem Ch{a b:Tri}(h1:kLe (tkey a) (tkey b))(h2:kLe (tkey b) (tkey a)):a.1=b.1/\a.2.1=b.2.1:=by
 rw[uk]at h1 h2
 unfold tkey at h1 h2
 omega
theorem zu{W:Wk}(ok:W.Ok){A B:OA}(ca:Cf W A)(cb:Cf W B)(ag:Agr A B){s:Nat}(hs:s<W.st.length){a b:Tri}{rest:List Tri}(T:Tkn B s (W.wy s) b)(hway:∀w∈W.wy s,∀u,(evAt B.de B.re s w).head?=some u->u.2.1=w)(e:A.ge.getD s []=B.ge.getD s []++a::rest):a=b:=by
 have inA:a∈A.ge.getD s []:=by rw[e];exact zO _ zJ
 have hw:=ca.ord.wy s a inA
 have evA:=ca.ev _ hs _ hw
 rw[e]at evA
 have atA:=va evA
 have evB:=cb.ev _ hs _ hw
 have k1:kLe (tkey b) (tkey a):=by
  cases ev:evAt B.de B.re s a.2.1 with
  | nil =>
   rw[ev,zP]at evB
   by_cases wd:a.2.1=-1
   ·unfold OA.src at atA evB
    rw[if_pos wd]at atA evB
    rw[←evB]at atA
    have:=(zD.mp atA).1
    omega
   ·obtain⟨b',bt',hb',eb,e0⟩:=Wk.wy_bel hw wd
    have hw':=hw
    rw[eb]at atA evB ev hw'
    rw[uv e0]at atA evB
    have na:=ca.nn s a inA
    have d:=vg ok ca cb ag (a.1.toNat+1) b' bt' hb' _ a atA (by omega) (by rw[←evB];exact zH _)
    cases eg:B.pr.getD b' none with
    | none=>rw[eg]at d;exact d.elim
    | some g =>
     rw[eg]at d
     replace d:g<=a.1:=d
     have em:B.re.getD ((b':Nat):Int).toNat []=[]:=by unfold evAt at ev;rw[if_neg (by omega)]at ev;exact ev
     have m:=T.may _ hw' (by omega) em g (by rw[zU];exact eg)
     rw[uk]
     unfold tkey
     rw[zU]at m
     omega
  | cons h r =>
   rw[ev]at evB
   have atB:(B.src W s a.2.1)[((B.ge.getD s []).filter (isY a.2.1)).length]?=some h:=by
    rw[←evB,zN (zH _),qB]
    rfl
   have:=vm (ag.src W _ _) atA atB
   subst this
   exact T.min _ hw a (by rw[ev];rfl)
 have hw2:=T.w
 have hd:=T.hd
 have evA2:=ca.ev _ hs _ hw2
 have evB2:=cb.ev _ hs _ hw2
 have atB2:(B.src W s b.2.1)[((B.ge.getD s []).filter (isY b.2.1)).length]?=some b:=by
  cases ev:evAt B.de B.re s b.2.1 with
  | nil=>rw[ev]at hd;cases hd
  | cons h r =>
   rw[ev]at hd
   cases hd
   rw[←evB2,ev,zN (zH _),qB]
   rfl
 have so:=ca.ord.so s
 rw[e]at so
 have so2:=(qD.mp so).2.1
 rw[e,yJ,z9]at evA2
 have k2:kLe (tkey a) (tkey b):=by
  cases ef:(a::rest).filter (isY b.2.1) with
  | cons x y =>
   rw[ef]at evA2
   have atA2:(A.src W s b.2.1)[((B.ge.getD s []).filter (isY b.2.1)).length]?=some x:=by
    rw[←evA2,zN (zH _),qB]
    rfl
   have eq:=vm (ag.src W _ _) atA2 atB2
   subst eq
   have hm:x∈a::rest:=(yG.mp (show x∈(a::rest).filter (isY x.2.1) by rw[ef];exact zJ)).1
   rcases zR.mp hm with z|z
   ·rw[z];rw[uk];omega
   ·exact(yS.mp so2).1 x z
  | nil =>
   rw[ef,jK]at evA2
   cases ev:evAt A.de A.re s b.2.1 with
   | cons h r =>
    rw[ev]at evA2
    have atA2:(A.src W s b.2.1)[((B.ge.getD s []).filter (isY b.2.1)).length]?=some h:=by
     rw[←evA2,zN (zH _),qB]
     rfl
    have eq:=vm (ag.src W _ _) atA2 atB2
    subst eq
    exact ca.ord.bd s a inA _ hw2 _ (wE ev)
   | nil =>
    rw[ev,zP]at evA2
    by_cases wd:b.2.1=-1
    ·unfold OA.src at atB2 evA2
     rw[if_pos wd]at atB2 evA2
     rw[←evA2]at atB2
     have:=(zD.mp atB2).1
     omega
    ·obtain⟨b',bt',hb',eb,e0⟩:=Wk.wy_bel hw2 wd
     have hw':=hw2
     rw[eb]at atB2 evA2 ev hw'
     rw[uv e0]at atB2 evA2
     have d:=vg ok cb ca ag.symm (b.1.toNat+1) b' bt' hb' _ b atB2 (by omega) (by rw[←evA2];exact zH _)
     cases eg:A.pr.getD b' none with
     | none=>rw[eg]at d;exact d.elim
     | some g =>
      rw[eg]at d
      replace d:g<=b.1:=d
      have:=ca.ord.bd s a inA _ hw' g (by rw[xJ ev];exact eg)
      rw[uk]at this ⊢
      unfold tkey at this ⊢
      dsimp only at this ⊢
      omega
 obtain⟨_,ew⟩:=Ch k1 k2
 rw[ew]at atB2
 exact vm (ag.src W _ _) atA atB2
structure Cs2(W:Wk)(A:OA):Prop where
 cf:Cf W A
 sp:∀s:Nat,s<W.st.length->A.srs.getD s sp0=(W.sp s).aft (A.ge.getD s [])
theorem xi(dl:List Int)(b:Nat)(p:SP)(g:List Tri)(t:Tri):p.puts dl b (g++[t])=p.puts dl b g++(p.aft g).put1 dl b t:=by
 rw[wK]
 show _++((p.aft g).put1 dl b t++[])=_
 rw[zP]
theorem DA{W:Wk}(ok:W.Ok){A:OA}{m:Nat}(I:Inv W A)(ao:AOk m A)(c:Cs2 W A){s:Nat}(hs:s<W.st.length):Cs2 W (A.step s).1:=by
 have S:=uO ok I ao hs
 have O:=CM ok I ao c.cf.ord hs
 have pc:=S.inv.pc
 obtain⟨p,hp⟩:∃p,A.srs[s]?=some p:=⟨A.srs[s]'(by rw[I.st];exact hs),zB _⟩
 have ep:A.srs.getD s sp0=p:=by rw[zA,hp];rfl
 have hws:=(I.sp s p hp).1
 have hbs:=(I.sp s p hp).2
 have go_:∀C:OA,C.de=A.de->C.re=A.re->C.ge=A.ge->C.srs=A.srs->Ord W C->(∀(b:Nat) bt,W.be[b]?=some bt->oLe (C.pr.getD b none) (oAdd (C.clk bt.1.toNat (W.wy bt.1)) bt.2.2))->Cs2 W C:=λC h1 h2 h3 h4 o pc=>by
  refine⟨⟨o,λj hj w hw=>?_,λj t ht=>c.cf.nn j t (by rw[←h3];exact ht),pc⟩,λj hj=>by rw[h4,h3];exact c.sp j hj⟩
  have:=c.cf.ev j hj w hw
  unfold OA.src at this ⊢
  rw[h1,h2,h3]
  exact this
 cases e:A.tkn s p with
 | none =>
  have ea:(A.step s).1=(A.rsd s p).1:=by
   have ea:A.aft s p=A:=by unfold OA.aft;rw[e]
   unfold OA.step OA.stp
   rw[ep,ea]
  have R:=t_ A s p
  rw[ea]at O pc ⊢
  exact go_ _ R.de R.re R.ge R.sp O pc
 | some t =>
  have wok:∀w∈p.ws,w=-1\/0<=w:=λw hw=>by rw[hws]at hw;exact Wk.wy_ok hw
  have T:=uU ao wok e
  have t0:=wok _ T.w
  have tw:t.2.1∈W.wy s:=by rw[←hws];exact T.w
  have R:=t_ (A.take s p t) s p
  have ec:(A.step s).1=((A.take s p t).rsd s p).1:=by
   have ea:A.aft s p=A.take s p t:=by unfold OA.aft;rw[e]
   unfold OA.step OA.stp
   rw[ep,ea]
  rw[ec]at O pc ⊢
  have hg:((A.take s p t).rsd s p).1.ge=A.ge.set s (A.ge.getD s []++[t]):=R.ge.trans (tV A s p t).2.2.2
  have hr:((A.take s p t).rsd s p).1.re=(A.take s p t).re:=R.re
  have hd:((A.take s p t).rsd s p).1.de=(A.take s p t).de:=R.de
  have hsr:((A.take s p t).rsd s p).1.srs=A.srs.set s (p.go t):=R.sp.trans (uQ A s p t)
  generalize ((A.take s p t).rsd s p).1=C at O pc hg hr hd hsr ⊢
  have lg:=c.cf.ord.lg
  have gj:∀j,C.ge.getD j []=if s=j then A.ge.getD j []++[t]else A.ge.getD j []:=λj=>by
   rw[hg,tD]
   by_cases h:s=j
   ·subst h;rw[if_pos ⟨rfl,by omega⟩,if_pos rfl]
   ·rw[if_neg (λz=>h z.1),if_neg h]
  have sps:=c.sp s hs
  rw[ep]at sps
  have evs:=c.cf.ev s hs _ tw
  have hdt:∃r,evAt A.de A.re s t.2.1=t::r:=by
   have z:=T.hd
   cases ev:evAt A.de A.re s t.2.1 with
   | nil=>rw[ev]at z;cases z
   | cons u r=>rw[ev]at z;cases z;exact⟨r,rfl⟩
  obtain⟨r,er⟩:=hdt
  have tn:0<=t.1:=by
   rw[er]at evs
   have hm:t∈A.src W s t.2.1:=by rw[←evs];exact zO _ zJ
   by_cases wd:t.2.1=-1
   ·unfold OA.src at hm
    rw[if_pos wd]at hm
    exact AI ok _ t hm
   ·obtain⟨b',bt',hb',eb,e0⟩:=Wk.wy_bel tw wd
    rw[eb,uv e0]at hm
    obtain⟨j,hj⟩:=yL hm
    obtain⟨i,c',h1,h2,_⟩:=uy _ _ _ _ _ _ hj
    have:=c.cf.nn _ c' (zE h1)
    have:=Wk.dl_pos ok b'
    omega
  refine⟨⟨O,λj hj w hw=>?_,λj u hu=>?_,pc⟩,λj hj=>?_⟩
  ·have old:=c.cf.ev j hj w hw
   rw[gj]
   by_cases wd:w=-1
   ·subst wd
    unfold OA.src evAt at old ⊢
    rw[if_pos rfl,if_pos rfl]at old ⊢
    rw[hd,uW]
    by_cases h:s=j
    ·subst h
     rw[if_pos rfl,yJ]
     by_cases tm:t.2.1=-1
     ·rw[if_pos ⟨tm,rfl⟩]
      unfold evAt at er
      rw[if_pos tm]at er
      rw[er]at old
      rw[er,yX (show isY (-1) t=true by unfold isY;rw[tm];rfl),yN,z9]
      exact old
     ·rw[if_neg (λz=>tm z.1),y6 (show ¬isY (-1) t=true by unfold isY;simpa using tm),yN,zP]
      exact old
    ·rw[if_neg h,if_neg (λz=>h z.2)]
     exact old
   ·obtain⟨b,bt,hb,eb,e0⟩:=Wk.wy_bel hw wd
    have hbj:bt.2.1=(j:Int):=by
     obtain⟨k,bt',g1,g2,g3⟩:=(Wk.wy_mem hw).resolve_left wd
     have:k=b:=by omega
     subst this
     rw[g1]at hb
     cases hb
     exact g2
    subst eb
    have ev2:∀X:OA,evAt X.de X.re j ((b:Nat):Int)=X.re.getD b []:=λX=>by
     unfold evAt
     rw[if_neg (by omega),zU]
    rw[uv e0]at old ⊢
    rw[ev2]at old ⊢
    rw[hr,uC A s p t t0]
    have left:(if s=j then A.ge.getD j []++[t]else A.ge.getD j []).filter (isY (b:Int))++(if t.2.1=(b:Int)then (A.re.getD b []).tail else A.re.getD b [])=(A.ge.getD j []).filter (isY (b:Int))++A.re.getD b []:=by
     by_cases tb:t.2.1=(b:Int)
     ·have sj:s=j:=by
       obtain⟨k,bt',g1,g2,g3⟩:=(Wk.wy_mem tw).resolve_left (by omega)
       have:k=b:=by omega
       subst this
       rw[g1]at hb
       cases hb
       omega
      subst sj
      rw[tb,ev2]at er
      rw[if_pos rfl,if_pos tb,yJ,yX (show isY (b:Int) t=true by unfold isY;rw[tb];exact beq_self_eq_true _),yN,er,z9]
      rfl
     ·rw[if_neg tb]
      by_cases h:s=j
      ·rw[if_pos h,yJ,y6 (show ¬isY (b:Int) t=true by unfold isY;simpa using tb),yN,zP]
      ·rw[if_neg h]
    rw[←z9,left,old,gj]
    have hbl:b<W.be.length:=(zD.mp hb).1
    by_cases h:s=bt.1.toNat
    ·rw[if_pos h,xi,←h,←sps]
     congr 1
     unfold putR SP.put1
     cases p.out (p.ws.idxOf t.2.1) t.2.2 with
     | none=>rfl
     | some o =>
      dsimp only
      rw[I.dl]
      by_cases z:o.1.toNat=b
      ·rw[if_pos ⟨z,by rw[I.lr];exact hbl⟩,if_pos z]
      ·rw[if_neg (λy=>z y.1),if_neg z]
    ·rw[if_neg h]
     have:putR A b t (p.out (p.ws.idxOf t.2.1) t.2.2)=[]:=by
      unfold putR
      cases eo:p.out (p.ws.idxOf t.2.1) t.2.2 with
      | none=>rfl
      | some o =>
       dsimp only
       refine if_neg λz=>?_
       have hb':o.1∈W.lv s:=by rw[←hbs];exact SP.out_in (y:=o.2) eo
       obtain⟨k,bt',g1,g2,g3⟩:=Wk.lv_mem hb'
       have:k=b:=by omega
       subst this
       rw[g1]at hb
       cases hb
       omega
     rw[this,zP]
  ·rw[gj]at hu
   split at hu
   ·rename_i h
    rcases yA.mp hu with z|z
    ·exact c.cf.nn j u z
    ·rw[zG.mp z];exact tn
   ·exact c.cf.nn j u hu
  ·rw[hsr,gj,tD]
   by_cases h:s=j
   ·subst h
    rw[if_pos ⟨rfl,by rw[I.st];exact hs⟩,if_pos rfl,xB,←sps]
    rfl
   ·rw[if_neg (λz=>h z.1),if_neg h]
    exact c.sp j hj
theorem B2{W:Wk}(ok:W.Ok):Cs2 W W.oa:=by
 have e:∀s,W.oa.ge.getD s []=[]:=λs=>tK W.st s
 refine⟨⟨Dp W,λs hs w hw=>?_,λs t ht=>?_,(vy ok).pc⟩,λs hs=>?_⟩
 ·rw[e]
  show evAt W.oa.de W.oa.re s w=W.oa.src W s w
  unfold OA.src evAt
  split
  ·show W.des.getD s []=_
   unfold Wk.des
   rw[zA,zF,yR hs]
   rfl
  ·rw[e]
   exact tK W.be _
 ·rw[e]at ht
  exact absurd ht zI
 ·rw[e]
  show((List.range W.st.length).map W.sp).getD s sp0=W.sp s
  rw[zA,zF,yR hs]
  rfl
theorem Cc{W:Wk}(ok:W.Ok){A B:OA}{m:Nat}(ca:Cf W A)(I:Inv W B)(ao:AOk m B)(cb:Cf W B)(ag:Agr A B){s:Nat}(hs:s<W.st.length):Agr A (B.step s).1:=by
 obtain⟨p,hp⟩:∃p,B.srs[s]?=some p:=⟨B.srs[s]'(by rw[I.st];exact hs),zB _⟩
 have ep:B.srs.getD s sp0=p:=by rw[zA,hp];rfl
 have hws:=(I.sp s p hp).1
 cases e:B.tkn s p with
 | none =>
  have ea:(B.step s).1=(B.rsd s p).1:=by
   have ea:B.aft s p=B:=by unfold OA.aft;rw[e]
   unfold OA.step OA.stp
   rw[ep,ea]
  rw[ea]
  intro j
  rw[(t_ B s p).ge]
  exact ag j
 | some t =>
  have wok:∀w∈p.ws,w=-1\/0<=w:=λw hw=>by rw[hws]at hw;exact Wk.wy_ok hw
  have T:=uU ao wok e
  have hway:∀w∈W.wy s,∀u,(evAt B.de B.re s w).head?=some u->u.2.1=w:=λw hw u hu=>CP ao (Wk.wy_ok hw) hu
  have ec:(B.step s).1=((B.take s p t).rsd s p).1:=by
   have ea:B.aft s p=B.take s p t:=by unfold OA.aft;rw[e]
   unfold OA.step OA.stp
   rw[ep,ea]
  have hg:(B.step s).1.ge=B.ge.set s (B.ge.getD s []++[t]):=by
   rw[ec]
   exact(t_ (B.take s p t) s p).ge.trans (tV B s p t).2.2.2
  intro j
  rw[hg,tD]
  by_cases h:s=j
  ·subst h
   rw[if_pos ⟨rfl,by rw[cb.ord.lg];exact hs⟩]
   rcases ag s with z|⟨rest,er⟩
   ·exact .inl (z.trans (j3 _ _))
   ·cases rest with
    | nil=>rw[zP]at er;rw[←er];exact .inl (j3 _ _)
    | cons a rest =>
     rw[hws]at T
     have:=zu ok ca cb ag hs T hway er.symm
     subst this
     refine .inr ⟨rest,?_⟩
     rw[←er,z9]
     rfl
  ·rw[if_neg (λz=>h z.1)]
   exact ag j
end Oc
namespace Oc
open PySem L2
theorem vM(ns:List Int):PyData.eqv (.list (ns.map PyData.int)) (.list [])=ns.isEmpty:=by cases ns <;>simp [PyData.eqv,PyData.eqvAll]
theorem vt{K:PySem.W.Frag}{H:Hp}{l:Addr}(h:H l=some (.lst [])):Dt K H 2 (.ref l) (.list []):=.lst (SqL.of h) (.nil _)
def kTk:Key:=Sum.inr "taken"
def tkS(n:Int):List (Key×V):=if n=0 then []else [(kTk,.int n)]
theorem DU(n:Int):(valV (tkS n) kTk).getD (.int 0)=.int n:=by
 unfold tkS
 by_cases h:n=0
 ·rw[if_pos h,h];rfl
 ·rw[if_neg h,uL rfl];rfl
theorem Ej{n:Int}(h:n≠0):valV (tkS n) kTk=some (.int n):=by
 unfold tkS
 rw[if_neg h,uL rfl]
theorem Dy{n:Int}(h:0<=n):putK (tkS n) kTk (.int (n+1))=tkS (n+1):=by
 unfold tkS
 rw[if_neg (show ¬n+1=0 by omega)]
 by_cases e:n=0
 ·rw[if_pos e];rfl
 ·rw[if_neg e]
  unfold putK
  rw[qQ,decide_eq_true rfl,Bool.true_or,if_pos rfl,yE,if_pos rfl]
  rfl
theorem Ec(n:Int):(tkS n).length<=1:=by
 unfold tkS
 split
 ·exact zV _
 ·exact zH _
def kpC(r:SR):List Cell:=match r.k with
 | .joiner=>[(r.d,.dK (jk r.ws r.ls))]++jrows r.ls r.rows
 | .thinner _=>[(r.d,.dK (tkS r.seen))]
 | _=>[(r.d,.dK [])]
theorem AG:∀{ws:List Int}{ls:List Addr},ls.length=ws.length->(jk ws ls).map (·.1)=ws.map Sum.inl
 | [],[],_=>rfl
 | [],_::_,h=>by cases h
 | _::_,[],h=>by cases h
 | w::ws,l::ls,h=>by
  show Sum.inl w::(jk ws ls).map (·.1)=_
  rw[AG (Nat.succ.inj h)]
  rfl
theorem any_map{rows:List (List Int)}:((rows.map λl=>l.map V.int).any λl=>l.isEmpty)=anyE rows:=by
 unfold anyE
 rw[jU]
 congr 1
 funext l
 cases l <;>rfl
theorem zy{rows:List (List Int)}{i:Nat}{row:List Int}(h:rows[i]?=some row):(rows.take (i+1)).map (λr=>r.headD 0)=(rows.take i).map (λr=>r.headD 0)++[row.headD 0]:=by
 rw[yV,h,zK]
 rfl
inductive spPutL(vs:List V)(H:Hp)(Q:VK)(x_3:XK):Prop where
 | mk (st bl:Addr) (sv:Sta) (r:SR) (j m:Nat) (wv z:Int) (M:List (List Cell)) (h_0:vs=[.ref st,.ref r.d,.int wv,.int z,.ref bl]) (h_1:H st=some (.tup (staV sv))) (h_2:StaOk sv) (h_3:kdOf sv=r.k) (h_4:(∀H',Hc H' M->H' bl=some (.lst (r.bs.map V.int)))) (h_5:Hc H (kpC r::M)) (h_6:SOk m r) (h_7:m<=90000) (h_8:r.ws[j]?=some wv) (h_9:r.ws.Pairwise (· < ·)) (h_10:r.ws.length<=13) (h_11:0<=r.seen) (h_12:∀(v:V)(ft:List Cell)(H':Hp),Put (r.out j z) v ft->Hc H' (ft::kpC (r.nxt j z)::M)->Tk H H'->Q v H'):spPutL vs H Q x_3
section
variable{P:Program}{w:World}{K:PySem.W.Frag}{mg:Str->Option Value}{base:Heap}
theorem AE:FnScope ["station","kept","way","piece","belts","kind","rows"] ["station","kept","way","piece","belts"] (defScope (top 30)):=⟨rfl,rfl,rfl,by decide +kernel,rfl,by decide +kernel,by decide +kernel⟩
theorem D0{f:Addr}{fd:FuncData}(F:Fun K "_law_put" "_law_put" (top 30) f fd)(T:Txt K mg):FnOk P w K mg base CX0 1 f fd ["station","kept","way","piece","belts"] spPutL:=by
 have nd:=AE.nd
 refine F.ok AE (λvs H Q E h=>?_) (λcdv A outer s H vs Q E hr h=>?_)
 ·obtain⟨st,bl,sv,r,j,m,wv,z,M,rfl,_⟩:=h
  rfl
 ·obtain⟨st,bl,sv,r,j,m,wv,z,M,rfl,hst,hsv,ek,hb,hc,so,m9,hj,sow,l13,sn0,q⟩:=h
  have hu:=xf hr
  have t0:=Tk.refl H
  refine⟨_,(@sq _ _ _ _ _ (sL (i:=5) nd rfl (by nofun) (@sE _ _ _ _ _ _ _ (sA (K:=K) rfl) (pv 0) sg (λ_ _=>rfl)))
   (@sq _ _ _ _ _ (tG (sJ tN (pv 5) tW (sP _)) (@sq _ _ _ _ _ (tM (uH PySem.F.plainAttrs_list PySem.F.slot_list_append PySem.F.type_list_append tL (uz hu (pv 1) (pv 2) (λ_ _=>rfl)) (@sf _ _ _ _ _ (pv 3) sh (by rfl))))
   (@sq _ _ _ _ _ (ue (i:=6) nd rfl (Or.inl rfl) rfl (own:=["one"]) (fr:=["kept"]) (js:=[1]) (by and_intros) (sY (K:=K) rfl (sR (Bo rfl) (by rfl) T.n_sorted xt (@sf _ _ _ _ _ (pv 1) sh (by rfl)))) (λ_ _ _ _=>(sH (i:=0) (show List.Nodup (["one","kept"]:List Str)from by decide +kernel) rfl (by nofun))) (λ_ _ _ _=>tq) (λ_ _ _ _=>(uz hu (pv 1) (pv 0) (λ_ _=>rfl))))
   (@sq _ _ _ _ _ (tG (sJ (FE hr.units) (@tJ _ _ _ _ sh) (pv 6) rfl) (@sy _ _ _ (@sN _ _ _ _ tY)) sS)
   (@sy _ _ _ (sL (i:=3) nd rfl (by nofun) (sR (xa rfl) (by rfl) T.n_sum B1 (@sf _ _ _ _ _ (tE (own:=["row"]) (fr:=[]) (js:=[]) (by and_intros) (sY (K:=K) rfl (pv 6)) (λ_ _ _ _=>(sH (i:=0) (show List.Nodup (["row"]:List Str)from by decide +kernel) rfl (by nofun))) (λ_ _ _ _=>tq) (λ_ _ _ _=>(Fw (K:=K) rfl PySem.F.plainAttrs_list PySem.F.slot_list_pop PySem.F.type_list_pop vv (pv 0) (@sf _ _ _ _ _ sg sh (by rfl))))) sh (by rfl)))))))) sS)
   (@sq _ _ _ _ _ (tG (sJ tN (pv 5) tW (sP _)) (@sq _ _ _ _ _ (u9 hu (pv 1) tW (sK tH (yk hu (pv 1) tW sg ⟨rfl,rfl,rfl,rfl⟩) sg) rfl)
   (@sy _ _ _ (tG (sJ tN (sK sV (uz hu (pv 1) tW (λ_ _=>rfl)) (@sE _ _ _ _ _ _ _ (sA (K:=K) rfl) (pv 0) sg (λ_ _=>rfl))) sg (sP _)) (@sy _ _ _ (@sN _ _ _ _ tY)) sS))) sS)
   (@sq _ _ _ _ _ (tG (sJ tN (pv 5) tW (sP _)) (@sy _ _ _ (sL (i:=3) nd rfl (by nofun) (sK tH (pv 3) (@sE _ _ _ _ _ _ _ (sA (K:=K) rfl) (pv 0) sg (λ_ _=>rfl))))) sS)
   (@sq _ _ _ _ _ (tG ((Ba (sJ tN (pv 5) tW (sP _)) (xM (sJ (DE (K:=K) rfl hr.units) (pv 4) (@tJ _ _ _ _ sh) (sP _))))).pt (@sy _ _ _ (@sN _ _ _ _ tY)) sS)
   (@sq _ _ _ _ _ (tG (sJ tN (pv 5) tW (sP _)) (@sy _ _ _ (@sN _ _ _ _ (@tj _ _ _ _ _ (@sf _ _ _ _ _ (@sE _ _ _ _ _ _ _ (sO (K:=K) rfl) (pv 4) (sK sV (pv 3) (sR (sM (K:=K) rfl) (by rfl) T.n_len tX (@sf _ _ _ _ _ (pv 4) sh (by rfl)))) (λ_ _=>rfl)) (@sf _ _ _ _ _ (pv 3) sh (by rfl)) (by rfl))))) sS)
   (@sy _ _ _ (@sN _ _ _ _ (@tj _ _ _ _ _ (@sf _ _ _ _ _ (@sE _ _ _ _ _ _ _ (sO (K:=K) rfl) (pv 4) sg (λ_ _=>rfl)) (@sf _ _ _ _ _ (pv 3) sh (by rfl)) (by rfl))))))))))),?_⟩
  rcases hsv with ⟨n,rfl,_,_⟩|rfl|⟨n,rfl,n2,n9⟩|rfl|rfl
  all_goals refine⟨_,rfl,⟨_,_,_,_,rfl,rfl,SqT.of hst,su (j:=0) rfl,?_⟩⟩
  ·-- a relay
   have ek':r.k=.relay n:=by rw[←ek];exact vH _
   have eo:∀y,y=z+n->r.out j z=r.bs.head?.map λb=>(b,y):=λy e=>by unfold SR.out;rw[ek',e]
   have en:kpC (r.nxt j z)=kpC r:=by unfold SR.nxt;rw[ek']
   rw[en]at q
   refine⟨_,rfl,rfl,_,rfl,?_⟩
   rw[show decide (V.str "relay"=V.str "joiner")=false from by decide +kernel]
   refine iteF ?_
   refine⟨_,rfl,rfl,_,rfl,?_⟩
   rw[show decide (V.str "relay"=V.str "thinner")=false from by decide +kernel]
   refine iteF ?_
   refine⟨_,rfl,rfl,_,rfl,?_⟩
   rw[show decide (V.str "relay"=V.str "relay")=true from by decide +kernel]
   refine iteT ⟨_,rfl,_,rfl,⟨_,_,_,_,rfl,rfl,SqT.of hst,su (j:=1) rfl,_,_,rfl,rfl,?_⟩⟩
   refine⟨_,rfl,rfl,_,rfl,?_⟩
   rw[show decide (V.str "relay"=V.str "sink")=false from by decide +kernel]
   refine iteF ⟨_,rfl,zV _,λl9 nl9=>?_⟩
   have s9:Same H (upd H l9 (.lst [])):=Same.new nl9
   have gl9:(upd H l9 (.lst [])) l9=some (.lst []):=ss
   have hc9:=hc.same s9
   have tk9:=t0.trans (Tk.of s9)
   generalize (upd H l9 (.lst []))=H9 at s9 gl9 hc9 tk9 ⊢
   have hb9:=hb _ hc9.tl
   refine⟨.list (r.bs.map PyData.int),.list [],2,Dt.ints 1 (SqL.of hb9),vt gl9,by decide,_,rfl,?_⟩
   rw[vM]
   cases ebs:r.bs with
   | nil =>
    refine iteT (q .non [] H9 ?_ hc9.pad tk9)
    rw[eo _ rfl,ebs]
    exact .no
   | cons b bs =>
    refine iteF ⟨_,rfl,rfl,_,rfl,?_⟩
    rw[show decide (V.str "relay"=V.str "sorter")=false from by decide +kernel]
    rw[ebs]at hb9
    refine iteF ⟨_,rfl,⟨_,_,_,_,rfl,rfl,SqL.of hb9,su (j:=0) rfl,_,rfl,(by show 2<=sizeLine;decide),λpt npt=>?_⟩⟩
    refine q (.ref pt) [(pt,.tup [.int b,.int (z+n)])] _ ?_ (hc9.new npt _) (tk9.new npt)
    rw[eo _ rfl,ebs]
    exact .yes b _ pt
  ·-- a sorter
   have ek':r.k=.sorter:=by rw[←ek];exact vf _
   have en:kpC (r.nxt j z)=kpC r:=by unfold SR.nxt;rw[ek']
   rw[en]at q
   refine⟨_,rfl,rfl,_,rfl,?_⟩
   rw[show decide (V.str "sorter"=V.str "joiner")=false from by decide +kernel]
   refine iteF ?_
   refine⟨_,rfl,rfl,_,rfl,?_⟩
   rw[show decide (V.str "sorter"=V.str "thinner")=false from by decide +kernel]
   refine iteF ?_
   refine⟨_,rfl,rfl,_,rfl,?_⟩
   rw[show decide (V.str "sorter"=V.str "relay")=false from by decide +kernel]
   refine iteF ?_
   refine⟨_,rfl,rfl,_,rfl,?_⟩
   rw[show decide (V.str "sorter"=V.str "sink")=false from by decide +kernel]
   refine iteF ⟨_,rfl,zV _,λl9 nl9=>?_⟩
   have s9:Same H (upd H l9 (.lst [])):=Same.new nl9
   have gl9:(upd H l9 (.lst [])) l9=some (.lst []):=ss
   have hc9:=hc.same s9
   have tk9:=t0.trans (Tk.of s9)
   generalize (upd H l9 (.lst []))=H9 at s9 gl9 hc9 tk9 ⊢
   have hb9:=hb _ hc9.tl
   refine⟨.list (r.bs.map PyData.int),.list [],2,Dt.ints 1 (SqL.of hb9),vt gl9,by decide,_,rfl,?_⟩
   rw[vM]
   by_cases ebs:r.bs=[]
   ·rw[ebs]
    refine iteT (q .non [] H9 ?_ hc9.pad tk9)
    unfold SR.out
    rw[ek',ebs]
    exact .no
   ·have ee:r.bs.isEmpty=false:=by cases h:r.bs with|nil=>exact absurd h ebs|cons b bs=>rfl
    have lp:0<r.bs.length:=j1.mpr ebs
    have a1:=yW z (show(r.bs.length:Int)≠0 by omega)
    have a2:=yP z (show 0<(r.bs.length:Int) by omega)
    obtain⟨b,hbb⟩:∃b,r.bs[(z%(r.bs.length:Int)).toNat]?=some b:=⟨r.bs[(z%(r.bs.length:Int)).toNat]'(by omega),zB _⟩
    rw[ee]
    refine iteF ⟨_,rfl,rfl,_,rfl,?_⟩
    rw[show decide (V.str "sorter"=V.str "sorter")=true from by decide +kernel]
    have eat:atI (r.bs.map V.int) (z%((r.bs.map V.int).length:Int))=some (.int b):=by
     rw[zC,show z%(r.bs.length:Int)=(((z%(r.bs.length:Int)).toNat:Nat):Int) by omega]
     exact su (by rw[zF,hbb];rfl)
    refine iteT ⟨_,rfl,_,rfl,_,rfl,bl,_,rfl,.inl (SqL.of hb9),_,_,rfl,rfl,(by rw[zC];omega),⟨_,_,_,_,rfl,rfl,SqL.of hb9,eat,_,rfl,(by show 2<=sizeLine;decide),λpt npt=>?_⟩⟩
    refine q (.ref pt) [(pt,.tup [.int b,.int z])] _ ?_ (hc9.new npt _) (tk9.new npt)
    unfold SR.out
    rw[ek']
    dsimp only
    rw[if_neg ebs,hbb]
    exact .yes b z pt
  ·-- a thinner
   have ek':r.k=.thinner n:=by rw[←ek];exact uS _
   have e0:kpC r=[(r.d,.dK (tkS r.seen))]:=by unfold kpC;rw[ek']
   have en:kpC (r.nxt j z)=[(r.d,.dK (tkS (r.seen+1)))]:=by unfold SR.nxt kpC;rw[ek']
   rw[en]at q
   rw[e0]at hc
   have hd:=hc.get 0 0 rfl rfl
   refine⟨_,rfl,rfl,_,rfl,?_⟩
   rw[show decide (V.str "thinner"=V.str "joiner")=false from by decide +kernel]
   refine iteF ?_
   refine⟨_,rfl,rfl,_,rfl,?_⟩
   rw[show decide (V.str "thinner"=V.str "thinner")=true from by decide +kernel]
   refine iteT ⟨_,rfl,r.d,rfl,.inl ⟨_,.inl hd⟩,_,DGet.k (k:=kTk) hd,?_⟩
   rw[DU]
   refine⟨_,_,rfl,rfl,_,rfl,⟨r.d,_,rfl,DPut.k (k:=kTk) hd (sG (by have:=Ec r.seen;omega)),?_⟩⟩
   rw[Dy sn0]
   have hc1:=hc.put 0 0 rfl rfl (.dK (tkS (r.seen+1)))
   have tk1:Tk H (upd H r.d (.dK (tkS (r.seen+1)))):=t0.put hd (λz=>z)
   have hst1:=tk1.tup hst
   have hd1:(upd H r.d (.dK (tkS (r.seen+1)))) r.d=some (.dK (tkS (r.seen+1))):=ss
   replace hc1:Hc (upd H r.d (.dK (tkS (r.seen+1)))) ([(r.d,.dK (tkS (r.seen+1)))]::M):=hc1
   generalize (upd H r.d (.dK (tkS (r.seen+1))))=H1 at hc1 tk1 hst1 hd1 ⊢
   have dg:DGet H1 r.d (.str "taken") (some (.int (r.seen+1))):=by
    have:=DGet.k (k:=kTk) hd1
    rw[Ej (by omega)]at this
    exact this
   refine⟨_,rfl,⟨r.d,_,rfl,dg,_,rfl,⟨_,_,_,_,rfl,rfl,SqT.of hst1,su (j:=1) rfl,_,_,rfl,rfl,(by omega),rfl,_,rfl,?_⟩⟩⟩
   have ed:decide (V.int ((r.seen+1)%n)=V.int 0)=((r.seen+1)%n==0):=tS
   refine iteB (λhbb=>?_) (λhbb=>?_)
   ·rw[ed]at hbb
    refine q .non [] H1 ?_ hc1.pad tk1
    unfold SR.out
    rw[ek']
    dsimp only
    rw[if_pos (by simpa using hbb)]
    exact .no
   ·rw[ed]at hbb
    have eo:r.out j z=r.bs.head?.map λb=>(b,z):=by
     unfold SR.out
     rw[ek']
     dsimp only
     rw[if_neg (by simpa using hbb)]
    refine⟨_,rfl,rfl,_,rfl,?_⟩
    rw[show decide (V.str "thinner"=V.str "relay")=false from by decide +kernel]
    refine iteF ?_
    refine⟨_,rfl,rfl,_,rfl,?_⟩
    rw[show decide (V.str "thinner"=V.str "sink")=false from by decide +kernel]
    refine iteF ⟨_,rfl,zV _,λl9 nl9=>?_⟩
    have s9:Same H1 (upd H1 l9 (.lst [])):=Same.new nl9
    have gl9:(upd H1 l9 (.lst [])) l9=some (.lst []):=ss
    have hc9:=hc1.same s9
    have tk9:=tk1.trans (Tk.of s9)
    generalize (upd H1 l9 (.lst []))=H9 at s9 gl9 hc9 tk9 ⊢
    have hb9:=hb _ hc9.tl
    refine⟨.list (r.bs.map PyData.int),.list [],2,Dt.ints 1 (SqL.of hb9),vt gl9,by decide,_,rfl,?_⟩
    rw[vM]
    cases ebs:r.bs with
    | nil =>
     refine iteT (q .non [] H9 ?_ hc9.pad tk9)
     rw[eo,ebs]
     exact .no
    | cons b bs =>
     refine iteF ⟨_,rfl,rfl,_,rfl,?_⟩
     rw[show decide (V.str "thinner"=V.str "sorter")=false from by decide +kernel]
     rw[ebs]at hb9
     refine iteF ⟨_,rfl,⟨_,_,_,_,rfl,rfl,SqL.of hb9,su (j:=0) rfl,_,rfl,(by show 2<=sizeLine;decide),λpt npt=>?_⟩⟩
     refine q (.ref pt) [(pt,.tup [.int b,.int (z)])] _ ?_ (hc9.new npt _) (tk9.new npt)
     rw[eo,ebs]
     exact .yes b _ pt
  ·-- a joiner
   have ek':r.k=.joiner:=by rw[←ek];exact we _
   obtain⟨jl,jr,jm⟩:=so.jn ek'
   have e0:kpC r=[(r.d,.dK (jk r.ws r.ls))]++jrows r.ls r.rows:=by unfold kpC;rw[ek']
   rw[e0]at hc
   have hj1:=(zD.mp hj).1
   obtain⟨l,hl⟩:∃l,r.ls[j]?=some l:=⟨r.ls[j]'(by omega),zB _⟩
   obtain⟨row,hrow⟩:∃row,r.rows[j]?=some row:=⟨r.rows[j]'(by omega),zB _⟩
   have lrow:=jm row (zE hrow)
   have nd_:r.ws.Nodup:=so.nd
   have ea:r.add j z=r.rows.set j (row++[z]):=by unfold SR.add;rw[zA,hrow];rfl
   have hc0:=hc.split
   have hd:=hc0.get 0 0 rfl rfl
   have hlc:=hc0.get 1 j rfl (ud hl hrow)
   refine⟨_,rfl,rfl,_,rfl,?_⟩
   rw[show decide (V.str "joiner"=V.str "joiner")=true from by decide +kernel]
   refine iteT ⟨_,rfl,_,rfl,⟨r.d,_,rfl,DGet.ki hd (vX nd_ hj hl),tyL hlc,_,rfl,l,_,_,rfl,rfl,hlc,vn (by rw[zC];omega),?_⟩⟩
   have hc1:=hc0.put 1 j rfl (ud hl hrow) (.lst (row.map V.int++[.int z]))
   have tk1:Tk H (upd H l (.lst (row.map V.int++[.int z]))):=t0.put hlc (λz=>z)
   have e1:row.map V.int++[V.int z]=(row++[z]).map V.int:=by rw[zK];rfl
   rw[e1,ve _ hl,←ea]at hc1
   rw[e1]at tk1
   rw[e1]
   generalize (upd H l (.lst ((row++[z]).map V.int)))=H1 at hc1 tk1 ⊢
   have lra:(r.add j z).length=r.ws.length:=by rw[ea,zZ];exact jr
   have hd1:=hc1.get 0 0 rfl rfl
   refine⟨_,rfl,⟨r.d,_,r.ws,rfl,hd1,AG jl,by omega,λl2 ms nl2 pm sm=>?_⟩⟩
   have ems:ms=r.ws:=List.Perm.eq_of_pairwise (le:=λa b:Int=>a<=b) (λa b _ _ h1 h2=>Int.le_antisymm h1 h2) sm (sow.imp λh=>Int.le_of_lt h) pm
   rw[ems]
   have s2:Same H1 (upd H1 l2 (.lst (r.ws.map V.int))):=Same.new nl2
   have g2:(upd H1 l2 (.lst (r.ws.map V.int))) l2=some (.lst (r.ws.map V.int)):=ss
   have hc2:=hc1.same s2
   have tk2:=tk1.trans (Tk.of s2)
   generalize (upd H1 l2 (.lst (r.ws.map V.int)))=H2 at s2 g2 hc2 tk2 ⊢
   refine⟨l2,rfl,⟨_,SqL.of g2⟩,λD nD=>?_⟩
   refine s0 (a:=l2) (xs:=r.ws.map V.int) (λi H5=>Same H2 H5/\H5 D=some (.lst ((r.ls.take i).map V.ref))) ⟨Same.new nD,ss⟩ (λi H5 _ p=>SqL.of (p.1 _ _ g2)) ?_ ?_
   ·rintro i x H5 m' Wf hx ⟨s5,g5⟩ nx
    obtain⟨wy,rfl,hwy⟩:=ul hx
    have hi:=(zD.mp hwy).1
    obtain⟨li,hli⟩:∃li,r.ls[i]?=some li:=⟨r.ls[i]'(by omega),zB _⟩
    refine⟨_,rfl,_,rfl,⟨r.d,_,rfl,DGet.ki (s5 _ _ (hc2.get 0 0 rfl rfl)) (vX nd_ hwy hli),_,g5,sG (by rw[zC,zY];omega),nx _ ⟨s5.upd nD,?_⟩⟩⟩
    rw[ss,yV,hli,zK]
    rfl
   ·rintro H5 ⟨s5,g5⟩
    rw[zC,←jl,yB]at g5
    have hc5:=hc2.newS nD g5 s5
    have tk5:=tk2.trans (Tk.of s5)
    refine⟨zV _,λl6 nl6=>?_⟩
    have s6:Same H5 (upd H5 l6 (.lst [])):=Same.new nl6
    have g6:(upd H5 l6 (.lst [])) l6=some (.lst []):=ss
    have hc6:=hc5.same s6
    have tk6:=tk5.trans (Tk.of s6)
    generalize (upd H5 l6 (.lst []))=H6 at s6 g6 hc6 tk6 ⊢
    refine⟨_,rfl,l6,D,r.ls,(r.add j z).map (λl=>l.map V.int),rfl,rfl,SqL.of (s6 _ _ g5),g6,(by rw[zC];omega),λi a lv h1 h2=>?_,_,rfl,?_⟩
    ·rw[zF]at h2
     obtain⟨rw_,hrw,rfl⟩:=yM.mp h2
     exact⟨rw_,rfl,hc6.get 2 i rfl (ud h1 hrw)⟩
    ·rw[any_map]
     refine iteB (λhbb=>?_) (λhbb=>?_)
     ·have en:kpC (r.nxt j z)=[(r.d,.dK (jk r.ws r.ls))]++jrows r.ls (r.add j z):=by unfold SR.nxt kpC;rw[ek'];dsimp only;rw[if_pos hbb]
      refine q .non [] H6 ?_ (by rw[en];exact hc6.tl.join.pad) tk6
      unfold SR.out
      rw[ek']
      dsimp only
      rw[if_pos hbb]
      exact .no
     ·have en:kpC (r.nxt j z)=[(r.d,.dK (jk r.ws r.ls))]++jrows r.ls ((r.add j z).map List.tail):=by unfold SR.nxt kpC;rw[ek'];dsimp only;rw[if_neg (by rw[hbb];decide)]
      rw[en]at q
      have eo:r.out j z=r.bs.head?.map λb=>(b,heads (r.add j z)):=by
       unfold SR.out
       rw[ek']
       dsimp only
       rw[if_neg (by rw[hbb];decide)]
      refine⟨_,rfl,D,rfl,⟨_,SqL.of (s6 _ _ g5)⟩,λD3 nD3=>?_⟩
      refine s0 (a:=D) (xs:=r.ls.map V.ref) (λi H7=>Tk H H7/\Hc H7 ([(D3,.lst ((((r.add j z).take i).map (λr=>r.headD 0)).map V.int))]::[(D,.lst (r.ls.map V.ref))]::[(r.d,.dK (jk r.ws r.ls))]::jrows r.ls (cutR (r.add j z) i)::M)) ⟨tk6.new nD3,by rw[xk];exact hc6.new nD3 (.lst [])⟩ (λi H7 _ p=>SqL.of (p.2.get 1 0 rfl rfl)) ?_ ?_
      ·rintro i x H7 m' Wf hx ⟨tk7,hc7⟩ nx
       rw[zF]at hx
       obtain⟨li,hli,rfl⟩:=yM.mp hx
       have hi:=(zD.mp hli).1
       obtain⟨ri,hri⟩:∃ri,(r.add j z)[i]?=some ri:=⟨(r.add j z)[i]'(by omega),zB _⟩
       have hg:=ud hli (wX hri)
       have hl7:=hc7.get 3 i rfl hg
       have nri:ri≠[]:=λe=>by
        have:anyE (r.add j z)=true:=jI.mpr ⟨ri,zE hri,by rw[e];rfl⟩
        rw[hbb]at this;cases this
       obtain⟨h0,tl0,rfl⟩:∃h0 tl0,ri=h0::tl0:=by cases ri with|nil=>exact absurd rfl nri|cons a b=>exact⟨a,b,rfl⟩
       refine⟨_,rfl,tyL hl7,li,_,0,0,.int h0,rfl,rfl,hl7,by decide,by decide,seqIndex_of (k:=0) (by decide) (by rw[zC,zX];omega),rfl,?_⟩
       have hc8:=hc7.put 3 i rfl hg (.lst (((h0::tl0).map V.int).eraseIdx 0))
       have tk8:Tk H (upd H7 li (.lst (((h0::tl0).map V.int).eraseIdx 0))):=tk7.put hl7 (λz=>z)
       have e8:((h0::tl0).map V.int).eraseIdx 0=(List.tail (h0::tl0)).map V.int:=rfl
       rw[e8,ve _ hli,zb hri]at hc8
       rw[e8]at tk8
       rw[e8]
       generalize (upd H7 li (.lst ((List.tail (h0::tl0)).map V.int)))=H8 at hc8 tk8 ⊢
       have g8:=hc8.get 0 0 rfl rfl
       refine⟨_,g8,sG (by rw[zC,zC,zY];omega),nx _ ⟨tk8.put g8 (λz=>z),?_⟩⟩
       have hc9:=hc8.put 0 0 rfl rfl (.lst ((((r.add j z).take i).map (λr=>r.headD 0)).map V.int++[.int h0]))
       rw[zy hri,zK]
       exact hc9
      ·rintro H7 ⟨tk7,hc7⟩
       rw[zC,jl,←lra,yy,yB]at hc7
       refine⟨D3,_,rfl,SqL.of (hc7.get 0 0 rfl rfl),?_⟩
       have hcE:=hc7.tl.tl.join
       refine⟨_,rfl,rfl,_,rfl,?_⟩
       rw[show decide (V.str "joiner"=V.str "thinner")=false from by decide +kernel]
       refine iteF ?_
       refine⟨_,rfl,rfl,_,rfl,?_⟩
       rw[show decide (V.str "joiner"=V.str "relay")=false from by decide +kernel]
       refine iteF ?_
       refine⟨_,rfl,rfl,_,rfl,?_⟩
       rw[show decide (V.str "joiner"=V.str "sink")=false from by decide +kernel]
       refine iteF ⟨_,rfl,zV _,λl9 nl9=>?_⟩
       have s9:Same H7 (upd H7 l9 (.lst [])):=Same.new nl9
       have gl9:(upd H7 l9 (.lst [])) l9=some (.lst []):=ss
       have hc9:=hcE.same s9
       have tk9:=tk7.trans (Tk.of s9)
       generalize (upd H7 l9 (.lst []))=H9 at s9 gl9 hc9 tk9 ⊢
       have hb9:=hb _ hc9.tl
       refine⟨.list (r.bs.map PyData.int),.list [],2,Dt.ints 1 (SqL.of hb9),vt gl9,by decide,_,rfl,?_⟩
       rw[vM]
       cases ebs:r.bs with
       | nil =>
        refine iteT (q .non [] H9 ?_ hc9.pad tk9)
        rw[eo,ebs]
        exact .no
       | cons b bs =>
        refine iteF ⟨_,rfl,rfl,_,rfl,?_⟩
        rw[show decide (V.str "joiner"=V.str "sorter")=false from by decide +kernel]
        rw[ebs]at hb9
        refine iteF ⟨_,rfl,⟨_,_,_,_,rfl,rfl,SqL.of hb9,su (j:=0) rfl,_,rfl,(by show 2<=sizeLine;decide),λpt npt=>?_⟩⟩
        refine q (.ref pt) [(pt,.tup [.int b,.int (heads (r.add j z))])] _ ?_ (hc9.new npt _) (tk9.new npt)
        rw[eo,ebs]
        exact .yes b _ pt
  ·-- a sink
   have ek':r.k=.sink:=by rw[←ek];rfl
   have en:kpC (r.nxt j z)=kpC r:=by unfold SR.nxt;rw[ek']
   rw[en]at q
   refine⟨_,rfl,rfl,_,rfl,?_⟩
   rw[show decide (V.str "sink"=V.str "joiner")=false from by decide +kernel]
   refine iteF ?_
   refine⟨_,rfl,rfl,_,rfl,?_⟩
   rw[show decide (V.str "sink"=V.str "thinner")=false from by decide +kernel]
   refine iteF ?_
   refine⟨_,rfl,rfl,_,rfl,?_⟩
   rw[show decide (V.str "sink"=V.str "relay")=false from by decide +kernel]
   refine iteF ?_
   refine⟨_,rfl,rfl,_,rfl,?_⟩
   rw[show decide (V.str "sink"=V.str "sink")=true from by decide +kernel]
   refine iteT (iteT (q .non [] H ?_ hc.pad t0))
   unfold SR.out
   rw[ek']
   exact .no
end
end Oc
namespace Oc
open PySem L2
structure Far(W:Wk)(u:Int)(B:OA):Prop where
 ev:∀(s:Nat)(w:Int),s<W.st.length->w∈W.wy s->∀e∈evAt B.de B.re s w,u<e.1
 pr:∀(b:Nat)(g:Int),B.pr.getD b none=some g->g=u+1
section
variable{W:Wk}{u:Int}{B:OA}
theorem E_(ok:W.Ok){A:OA}(ca:Cf W A)(cb:Cf W B)(bf:Far W u B)(ag:Agr A B){s:Nat}(hs:s<W.st.length){a:Tri}{rest:List Tri}(e:A.ge.getD s []=B.ge.getD s []++a::rest):u<a.1:=by
 have inA:a∈A.ge.getD s []:=by rw[e];exact zO _ zJ
 have hw:=ca.ord.wy s a inA
 have evA:=ca.ev _ hs _ hw
 rw[e]at evA
 have atA:=va evA
 have evB:=cb.ev _ hs _ hw
 cases ev:evAt B.de B.re s a.2.1 with
 | nil =>
  rw[ev,zP]at evB
  by_cases wd:a.2.1=-1
  ·unfold OA.src at atA evB
   rw[if_pos wd]at atA evB
   rw[←evB]at atA
   have:=(zD.mp atA).1
   omega
  ·obtain⟨b',bt',hb',eb,e0⟩:=Wk.wy_bel hw wd
   rw[eb]at atA evB ev
   rw[uv e0]at atA evB
   have d:=vg ok ca cb ag (a.1.toNat+1) b' bt' hb' _ a atA (by have:=ca.nn s a inA;omega) (by rw[←evB];exact zH _)
   cases eg:B.pr.getD b' none with
   | none=>rw[eg]at d;exact d.elim
   | some g =>
    rw[eg]at d
    have:=bf.pr _ _ eg
    have d:g<=a.1:=d
    omega
 | cons h r =>
  have hh:=bf.ev s _ hs hw h (by rw[ev];exact zJ)
  rw[ev]at evB
  have atB:(B.src W s a.2.1)[((B.ge.getD s []).filter (isY a.2.1)).length]?=some h:=by
   rw[←evB,zN (zH _),qB]
   rfl
  rw[vm (ag.src W _ _) atA atB]
  exact hh
theorem Cm(ok:W.Ok){A:OA}(ca:Cf W A)(cb:Cf W B)(bf:Far W u B)(ag:Agr A B){s:Nat}(hs:s<W.st.length):A.ge.getD s [] <+: B.ge.getD s []\/∃rest,A.ge.getD s []=B.ge.getD s []++rest/\∀e∈rest,u<e.1:=by
 rcases ag s with z|⟨rest,er⟩
 ·exact .inl z
 ·refine .inr ⟨rest,er.symm,λe he=>?_⟩
  cases rest with
  | nil=>exact absurd he zI
  | cons a rest =>
   have b:=E_ ok ca cb bf ag hs er.symm
   have so:=ca.ord.so s
   rw[←er]at so
   have so2:=(qD.mp so).2.1
   rcases zR.mp he with z|z
   ·rw[z];exact b
   ·have:=(uk _ _).mp ((yS.mp so2).1 e z)
    unfold tkey at this
    omega
end
theorem Eg{W:Wk}(ok:W.Ok){u:Int}{A B:OA}(ca:Cf W A)(cb:Cf W B)(bf:Far W u B)(ag:Agr A B)(e60:∀s:Nat,∀e∈B.ge.getD s [],e.1<=u)(far:∀s:Nat,s<W.st.length->∀w∈W.wy s,∀x,A.e s w=some x->u<x){s:Nat}(hs:s<W.st.length):(A.ge.getD s []).filter (upTo u)=B.ge.getD s []:=by
 have all:∀{l:List Tri},(∀e∈l,e.1<=u)->l.filter (upTo u)=l:=λh=>List.filter_eq_self.mpr λe he=>decide_eq_true (h e he)
 rcases Cm ok ca cb bf ag hs with ⟨rest,er⟩|⟨rest,er,hr⟩
 ·cases rest with
  | nil =>
   rw[zP]at er
   rw[er]
   exact all (e60 s)
  | cons a rest =>
   exfalso
   have inB:a∈B.ge.getD s []:=by rw[←er];exact zO _ zJ
   have au:=e60 s a inB
   have hw:=cb.ord.wy s a inB
   have evB:=cb.ev _ hs _ hw
   replace evB:(B.ge.getD s []).filter (isY a.2.1)++_=_:=evB
   rw[←er]at evB
   have atB:=va evB
   have evA:=ca.ev _ hs _ hw
   have fr:=far s hs _ hw
   cases ev:evAt A.de A.re s a.2.1 with
   | nil =>
    rw[ev,zP]at evA
    by_cases wd:a.2.1=-1
    ·unfold OA.src at atB evA
     rw[if_pos wd]at atB evA
     rw[←evA]at atB
     have:=(zD.mp atB).1
     omega
    ·obtain⟨b',bt',hb',eb,e0⟩:=Wk.wy_bel hw wd
     rw[eb]at atB evA ev fr
     rw[uv e0]at atB evA
     have d:=vg ok cb ca ag.symm (a.1.toNat+1) b' bt' hb' _ a atB (by have:=cb.nn s a inB;omega) (by rw[←evA];exact zH _)
     rw[←xJ ev]at d
     cases eg:A.e s (b':Int) with
     | none=>rw[eg]at d;exact d.elim
     | some g =>
      rw[eg]at d
      have d:g<=a.1:=d
      have:=fr g eg
      omega
   | cons h r =>
    rw[ev]at evA
    have atA:(A.src W s a.2.1)[((A.ge.getD s []).filter (isY a.2.1)).length]?=some h:=by
     rw[←evA,zN (zH _),qB]
     rfl
    have:=vm (ag.src W _ _) atA atB
    have:=fr h.1 (wE ev)
    subst h
    omega
 ·rw[er,yJ,all (e60 s),vB.mpr,zP]
  intro e he z
  have:=of_decide_eq_true z
  have:=hr e he
  omega
theorem EG{W:Wk}(ok:W.Ok){B:OA}(cb:Cf W B):∀(ts:List Nat)(A:OA),(∀t∈ts,t<W.st.length)->Inv W A->(∃m,AOk m A)->Cs2 W A->Agr B A->Inv W (A.go ts)/\Cs2 W (A.go ts)/\Agr B (A.go ts)
 | [],_,_,I,_,c,ag=>⟨I,c,ag⟩
 | t::ts,A,h,I,⟨m,ao⟩,c,ag=>by
  have ht:=h t zJ
  exact EG ok cb ts (A.step t).1 (λx hx=>h x (zL _ hx)) (uO ok I ao ht).inv ⟨_,A4 I ao ht⟩ (DA ok I ao c ht) (Cc ok cb I ao c.cf ag ht)
theorem DR{W:Wk}(B:OA):Agr B W.oa:=λs=>.inr (by rw[show W.oa.ge.getD s []=[]from tK W.st s];exact List.nil_prefix)
theorem FC{W:Wk}(ok:W.Ok){B:OA}(cb:Cf W B){ts:List Nat}(h:∀t∈ts,t<W.st.length):Inv W (W.oa.go ts)/\Cs2 W (W.oa.go ts)/\Agr B (W.oa.go ts):=EG ok cb ts W.oa h (vy ok) ⟨0,xV W⟩ (B2 ok) (DR B)
theorem Fe{W:Wk}{r:Nat}:∀t∈(List.replicate r (List.range W.st.length)).flatten,t<W.st.length:=λt ht=>by
 obtain⟨l,hl,h⟩:=jG.mp ht
 rw[List.eq_of_mem_replicate hl]at h
 exact yO.mp h
theorem FF{W:Wk}{A:OA}{u:Int}(h:∀s:Nat,s<W.st.length->∀x,A.clk s (W.wy s)=some x->u<x):∀s:Nat,s<W.st.length->∀w∈W.wy s,∀x,A.e s w=some x->u<x:=λs hs w hw x hx=>by
 have:=yc (A:=A) (s:=s) hw
 rw[hx]at this
 cases e:A.clk s (W.wy s) with
 | none=>rw[e]at this;exact this.elim
 | some c =>
  rw[e]at this
  exact jB (h s hs c e) this
structure Wp(W:Wk)(A:OA):Prop where
 st:A.srs.length=W.st.length
 sp:∀(s:Nat) p,A.srs[s]?=some p->p.ws=W.wy s/\p.bs=W.lv s
 dl:A.dl=W.dels
 lr:A.re.length=W.be.length
 ld:A.de.length=W.st.length
 lg:A.ge.length=W.st.length
 ev:∀s:Nat,s<W.st.length->∀w∈W.wy s,(A.ge.getD s []).filter (isY w)++evAt A.de A.re s w=A.src W s w
 af:∀s:Nat,s<W.st.length->A.srs.getD s sp0=(W.sp s).aft (A.ge.getD s [])
 so:∀s,(A.ge.getD s []).Pairwise λa b=>kLe (tkey a) (tkey b)
 wy:∀s:Nat,∀t∈A.ge.getD s [],t.2.1∈W.wy s
 nn:∀s:Nat,∀t∈A.ge.getD s [],0<=t.1
 sr:∀s:Nat,s<W.st.length->∀w∈W.wy s,(evAt A.de A.re s w).Pairwise λa b=>a.1<=b.1
structure At(W:Wk)(A:OA)(T:Int)(sn:Nat)(wv:Int):Prop where
 bd:∀s:Nat,∀t∈A.ge.getD s [],t.1<T\/(t.1=T/\(s<sn\/(s=sn/\t.2.1<=wv)))
 rs:∀s:Nat,s<W.st.length->∀w∈W.wy s,∀e∈evAt A.de A.re s w,T<=e.1/\((s<sn\/(s=sn/\w<wv))->T<e.1)
theorem Ar{A:OA}{j b:Nat}:evAt A.de A.re j ((b:Nat):Int)=A.re.getD b []:=by
 unfold evAt
 rw[if_neg (by omega),zU]
section
variable{W:Wk}{A:OA}{s:Nat}{p:SP}{t:Tri}{r:List Tri}
theorem Cr(ok:W.Ok)(P:Wp W A)(hs:s<W.st.length)(hp:A.srs[s]?=some p)(tw:t.2.1∈W.wy s)(er:evAt A.de A.re s t.2.1=t::r):∀j:Nat,j<W.st.length->∀w∈W.wy j,((A.take s p t).ge.getD j []).filter (isY w)++evAt (A.take s p t).de (A.take s p t).re j w=(A.take s p t).src W j w:=λj hj w hw=>by
 have t0:=Wk.wy_ok tw
 have hws:=(P.sp s p hp).1
 have hbs:=(P.sp s p hp).2
 have ep:A.srs.getD s sp0=p:=by rw[zA,hp];rfl
 have sps:=P.af s hs
 rw[ep]at sps
 have lg:=P.lg
 have hg:(A.take s p t).ge=A.ge.set s (A.ge.getD s []++[t]):=(tV A s p t).2.2.2
 have hr:(A.take s p t).re=(A.take s p t).re:=rfl
 have hd:(A.take s p t).de=(A.take s p t).de:=rfl
 have hre:=uC A s p t t0
 have hde:=uW A s p t
 generalize A.take s p t=C at hg hre hde ⊢
 have gj:∀j,C.ge.getD j []=if s=j then A.ge.getD j []++[t]else A.ge.getD j []:=λj=>by
  rw[hg,tD]
  by_cases h:s=j
  ·subst h;rw[if_pos ⟨rfl,by omega⟩,if_pos rfl]
  ·rw[if_neg (λz=>h z.1),if_neg h]
 have old:=P.ev j hj w hw
 rw[gj]
 by_cases wd:w=-1
 ·subst wd
  unfold OA.src evAt at old ⊢
  rw[if_pos rfl,if_pos rfl]at old ⊢
  rw[hde]
  by_cases h:s=j
  ·subst h
   rw[if_pos rfl,yJ]
   by_cases tm:t.2.1=-1
   ·rw[if_pos ⟨tm,rfl⟩]
    unfold evAt at er
    rw[if_pos tm]at er
    rw[er]at old
    rw[er,yX (show isY (-1) t=true by unfold isY;rw[tm];rfl),yN,z9]
    exact old
   ·rw[if_neg (λz=>tm z.1),y6 (show ¬isY (-1) t=true by unfold isY;simpa using tm),yN,zP]
    exact old
  ·rw[if_neg h,if_neg (λz=>h z.2)]
   exact old
 ·obtain⟨b,bt,hb,eb,e0⟩:=Wk.wy_bel hw wd
  have hbj:bt.2.1=(j:Int):=by
   obtain⟨k,bt',g1,g2,g3⟩:=(Wk.wy_mem hw).resolve_left wd
   have:k=b:=by omega
   subst this
   rw[g1]at hb
   cases hb
   exact g2
  subst eb
  have ev2:∀X:OA,evAt X.de X.re j ((b:Nat):Int)=X.re.getD b []:=λX=>by
   unfold evAt
   rw[if_neg (by omega),zU]
  rw[uv e0]at old ⊢
  rw[ev2]at old ⊢
  rw[hre]
  have left:(if s=j then A.ge.getD j []++[t]else A.ge.getD j []).filter (isY (b:Int))++(if t.2.1=(b:Int)then (A.re.getD b []).tail else A.re.getD b [])=(A.ge.getD j []).filter (isY (b:Int))++A.re.getD b []:=by
   by_cases tb:t.2.1=(b:Int)
   ·have sj:s=j:=by
     obtain⟨k,bt',g1,g2,g3⟩:=(Wk.wy_mem tw).resolve_left (by omega)
     have:k=b:=by omega
     subst this
     rw[g1]at hb
     cases hb
     omega
    subst sj
    rw[tb,ev2]at er
    rw[if_pos rfl,if_pos tb,yJ,yX (show isY (b:Int) t=true by unfold isY;rw[tb];exact beq_self_eq_true _),yN,er,z9]
    rfl
   ·rw[if_neg tb]
    by_cases h:s=j
    ·rw[if_pos h,yJ,y6 (show ¬isY (b:Int) t=true by unfold isY;simpa using tb),yN,zP]
    ·rw[if_neg h]
  rw[←z9,left,old,gj]
  have hbl:b<W.be.length:=(zD.mp hb).1
  by_cases h:s=bt.1.toNat
  ·rw[if_pos h,xi,←h,←sps]
   congr 1
   unfold putR SP.put1
   cases p.out (p.ws.idxOf t.2.1) t.2.2 with
   | none=>rfl
   | some o =>
    dsimp only
    rw[P.dl]
    by_cases z:o.1.toNat=b
    ·rw[if_pos ⟨z,by rw[P.lr];exact hbl⟩,if_pos z]
    ·rw[if_neg (λy=>z y.1),if_neg z]
  ·rw[if_neg h]
   have:putR A b t (p.out (p.ws.idxOf t.2.1) t.2.2)=[]:=by
    unfold putR
    cases eo:p.out (p.ws.idxOf t.2.1) t.2.2 with
    | none=>rfl
    | some o =>
     dsimp only
     refine if_neg λz=>?_
     have hb':o.1∈W.lv s:=by rw[←hbs];exact SP.out_in (y:=o.2) eo
     obtain⟨k,bt',g1,g2,g3⟩:=Wk.lv_mem hb'
     have:k=b:=by omega
     subst this
     rw[g1]at hb
     cases hb
     omega
   rw[this,zP]
theorem DB(P:Wp W A)(hs:s<W.st.length)(j:Nat):(A.take s p t).ge.getD j []=if s=j then A.ge.getD j []++[t]else A.ge.getD j []:=by
 have lg:=P.lg
 rw[(tV A s p t).2.2.2,tD]
 by_cases h:s=j
 ·subst h;rw[if_pos ⟨rfl,by omega⟩,if_pos rfl]
 ·rw[if_neg (λz=>h z.1),if_neg h]
theorem AU(P:Wp W A)(ok:W.Ok)(hs:s<W.st.length)(hp:A.srs[s]?=some p)(tw:t.2.1∈W.wy s)(er:evAt A.de A.re s t.2.1=t::r){j:Nat}(hj:j<W.st.length){w:Int}(hw:w∈W.wy j):∃l,(evAt (A.take s p t).de (A.take s p t).re j w=l\/∃d y,1<=d/\w=((w.toNat:Nat):Int)/\d=W.dels.getD w.toNat 0/\evAt (A.take s p t).de (A.take s p t).re j w=l++[(t.1+d,y)])/\((j=s/\w=t.2.1/\l=r)\/l=evAt A.de A.re j w):=by
 have t0:=Wk.wy_ok tw
 by_cases wd:w=-1
 ·subst wd
  have e1:∀X:OA,evAt X.de X.re j (-1)=X.de.getD j []:=λX=>by unfold evAt;rw[if_pos rfl]
  rw[e1,e1,uW]
  by_cases h:t.2.1=-1/\s=j
  ·obtain⟨h1,h2⟩:=h
   subst h2
   rw[h1,e1]at er
   rw[if_pos ⟨h1,rfl⟩,er]
   exact⟨r,.inl rfl,.inl ⟨rfl,h1.symm,rfl⟩⟩
  ·rw[if_neg h]
   exact⟨_,.inl rfl,.inr rfl⟩
 ·obtain⟨b,bt,hb,eb,e0⟩:=Wk.wy_bel hw wd
  subst eb
  rw[Ar,Ar,uC A s p t t0]
  have hl:∃l,l=(if t.2.1=(b:Int)then (A.re.getD b []).tail else A.re.getD b [])/\((j=s/\(b:Int)=t.2.1/\l=r)\/l=A.re.getD b []):=by
   by_cases tb:t.2.1=(b:Int)
   ·rw[if_pos tb]
    rw[tb,Ar]at er
    rw[er]
    have g2:bt.2.1=(j:Int):=by
     obtain⟨k,bt',g1,g2,g3⟩:=(Wk.wy_mem hw).resolve_left wd
     have:k=b:=by omega
     subst this
     rw[g1]at hb;cases hb
     exact g2
    have g4:bt.2.1=(s:Int):=by
     obtain⟨k,bt',g1,g2,g3⟩:=(Wk.wy_mem tw).resolve_left (by omega)
     have:k=b:=by omega
     subst this
     rw[g1]at hb;cases hb
     exact g2
    exact⟨r,rfl,.inl ⟨by omega,tb.symm,rfl⟩⟩
   ·rw[if_neg tb]
    exact⟨_,rfl,.inr rfl⟩
  obtain⟨l,el,hl⟩:=hl
  rw[←el]
  refine⟨l,?_,hl⟩
  unfold putR
  cases p.out (p.ws.idxOf t.2.1) t.2.2 with
  | none=>exact .inl (zP _)
  | some o =>
   dsimp only
   split
   ·rename_i z
    refine .inr ⟨W.dels.getD b 0,(o.1,o.2),?_,by rw[zU],by rw[zU],?_⟩
    ·rw[Wk.dl_at hb]
     exact(ok.bel bt (zE hb)).2.2.2.2.1
    ·rw[P.dl]
   ·exact .inl (zP _)
theorem Dn(ok:W.Ok)(P:Wp W A){T:Int}(T0:0<=T)(Z:At W A T s t.2.1)(hs:s<W.st.length)(hp:A.srs[s]?=some p)(tw:t.2.1∈W.wy s)(er:evAt A.de A.re s t.2.1=t::r)(tT:t.1=T):Wp W (A.take s p t)/\At W (A.take s p t) T s t.2.1:=by
 have gj:=DB (p:=p) (t:=t) P hs
 have hsr:(A.take s p t).srs=A.srs.set s (p.go t):=uQ A s p t
 have sm:=tV A s p t
 have evs:=Cr ok P hs hp tw er
 have ep:A.srs.getD s sp0=p:=by rw[zA,hp];rfl
 have lg:=P.lg
 have bdj:∀j:Nat,∀c∈A.ge.getD j [],c.1<=T:=λj c hc=>by
  rcases Z.bd j c hc with z|⟨z,_⟩ <;>omega
 refine⟨⟨by rw[hsr,zZ];exact P.st,λj q hq=>?_,sm.2.1.trans P.dl,sm.2.2.1.trans P.lr,by rw[A0];exact P.ld,by rw[sm.2.2.2,zZ];exact P.lg,evs,λj hj=>?_,λj=>?_,λj c hc=>?_,λj c hc=>?_,λj hj w hw=>?_⟩,λj c hc=>?_,λj hj w hw e he=>?_⟩
 ·rw[hsr]at hq
  by_cases h:s=j
  ·subst h
   rw[qJ (by rw[P.st];exact hs)]at hq
   cases hq
   have:=P.sp s p hp
   unfold SP.go
   rw[SP.nxt_ws,SP.nxt_bs]
   exact this
  ·rw[qX h]at hq
   exact P.sp j q hq
 ·rw[hsr,gj,tD]
  by_cases h:s=j
  ·subst h
   have sps:=P.af s hs
   rw[ep]at sps
   rw[if_pos ⟨rfl,by rw[P.st];exact hs⟩,if_pos rfl,xB,←sps]
   rfl
  ·rw[if_neg (λz=>h z.1),if_neg h]
   exact P.af j hj
 ·rw[gj]
  split
  ·rename_i h
   subst h
   refine qD.mpr ⟨P.so s,jC _ _,λa ha b hb=>?_⟩
   rw[zG.mp hb,uk]
   unfold tkey
   dsimp only
   rcases Z.bd s a ha with z|⟨z,y⟩
   ·omega
   ·omega
  ·exact P.so j
 ·rw[gj]at hc
  split at hc
  ·rename_i h
   subst h
   rcases yA.mp hc with z|z
   ·exact P.wy s c z
   ·rw[zG.mp z];exact tw
  ·exact P.wy j c hc
 ·rw[gj]at hc
  split at hc
  ·rcases yA.mp hc with z|z
   ·exact P.nn j c z
   ·rw[zG.mp z];omega
  ·exact P.nn j c hc
 ·obtain⟨l,h1,h2⟩:=AU P ok hs hp tw er hj hw
  have so1:l.Pairwise λa b=>a.1<=b.1:=by
   rcases h2 with ⟨e1,e2,e3⟩|e
   ·rw[e3]
    have:=P.sr s hs _ tw
    rw[er]at this
    exact(yS.mp this).2
   ·rw[e];exact P.sr j hj w hw
  have sub:∀c∈l,c∈evAt A.de A.re j w:=λc hc=>by
   rcases h2 with ⟨e1,e2,e3⟩|e
   ·rw[e1,e2,er];rw[e3]at hc;exact zL _ hc
   ·rw[←e];exact hc
  rcases h1 with h1|⟨d,y,d1,wn,ed,h1⟩
  ·rw[h1];exact so1
  ·rw[h1]
   refine qD.mpr ⟨so1,jC _ _,λa ha b hb=>?_⟩
   rw[zG.mp hb]
   show a.1<=t.1+d
   have hm:a∈A.src W j w:=by rw[←P.ev j hj w hw];exact zO _ (sub a ha)
   have wd:w ≠ -1:=by omega
   obtain⟨b',bt',hb',eb,e0⟩:=Wk.wy_bel hw wd
   subst eb
   rw[uv e0]at hm
   obtain⟨k,hk⟩:=yL hm
   obtain⟨i,c',g1,g2,_⟩:=uy _ _ _ _ _ _ hk
   have:=bdj _ c' (zE g1)
   rw[zU]at ed
   omega
 ·rw[gj]at hc
  split at hc
  ·rename_i h
   subst h
   rcases yA.mp hc with z|z
   ·exact Z.bd s c z
   ·rw[zG.mp z]
    exact .inr ⟨tT,.inr ⟨rfl,qO _⟩⟩
  ·exact Z.bd j c hc
 ·obtain⟨l,h1,h2⟩:=AU P ok hs hp tw er hj hw
  have sub:∀c∈l,c∈evAt A.de A.re j w:=λc hc=>by
   rcases h2 with ⟨e1,e2,e3⟩|e
   ·rw[e1,e2,er];rw[e3]at hc;exact zL _ hc
   ·rw[←e];exact hc
  rcases h1 with h1|⟨d,y,d1,wn,ed,h1⟩
  ·rw[h1]at he
   exact Z.rs j hj w hw e (sub e he)
  ·rw[h1]at he
   rcases yA.mp he with z|z
   ·exact Z.rs j hj w hw e (sub e z)
   ·rw[zG.mp z]
    exact⟨by show T<=t.1+d;omega,λ_=>by show T<t.1+d;omega⟩
theorem At.way{T:Int}{sn:Nat}{wv:Int}(Z:At W A T sn wv)(P:Wp W A)(h:sn<W.st.length->wv∈W.wy sn->∀e r,evAt A.de A.re sn wv=e::r->e.1≠T):At W A T sn (wv+1):=by
 refine⟨λs t ht=>?_,λs hs w hw e he=>?_⟩
 ·rcases Z.bd s t ht with z|⟨z,y⟩
  ·exact .inl z
  ·exact .inr ⟨z,by omega⟩
 ·obtain⟨h1,h2⟩:=Z.rs s hs w hw e he
  refine⟨h1,λz=>?_⟩
  by_cases y:s=sn/\w=wv
  ·obtain⟨rfl,rfl⟩:=y
   cases ev:evAt A.de A.re s w with
   | nil=>rw[ev]at he;exact absurd he zI
   | cons c r =>
    have nc:=h hs hw c r ev
    have c1:=(Z.rs s hs w hw c (by rw[ev];exact zJ)).1
    have so:=P.sr s hs w hw
    rw[ev]at so he
    rcases zR.mp he with x|x
    ·rw[x];omega
    ·have:=(yS.mp so).1 e x
     omega
  ·exact h2 (by omega)
theorem At.sta{T:Int}{sn:Nat}(Z:At W A T sn (W.be.length:Int))(P:Wp W A):At W A T (sn+1) (-1):=by
 refine⟨λs t ht=>?_,λs hs w hw e he=>?_⟩
 ·rcases Z.bd s t ht with z|⟨z,y⟩
  ·exact .inl z
  ·exact .inr ⟨z,by omega⟩
 ·obtain⟨h1,h2⟩:=Z.rs s hs w hw e he
  refine⟨h1,λz=>h2 ?_⟩
  have:=Wk.wy_in hw
  have:=Wk.wy_ok hw
  omega
theorem At.time{T:Int}(Z:At W A T W.st.length (-1)):At W A (T+1) 0 (-1):=by
 refine⟨λs t ht=>?_,λs hs w hw e he=>?_⟩
 ·rcases Z.bd s t ht with z|⟨z,y⟩ <;>exact .inl (by omega)
 ·obtain⟨h1,h2⟩:=Z.rs s hs w hw e he
  have:=h2 (.inl hs)
  refine⟨by omega,λz=>?_⟩
  rcases z with z|⟨_,z⟩
  ·omega
  ·have:=Wk.wy_ok hw
   omega
theorem FN(ok:W.Ok):Wp W W.oa:=by
 have c:=B2 ok
 have I:=vy ok
 have e:∀s,W.oa.ge.getD s []=[]:=λs=>tK W.st s
 refine⟨I.st,I.sp,I.dl,I.lr,I.ld,c.cf.ord.lg,c.cf.ev,c.sp,c.cf.ord.so,c.cf.ord.wy,c.cf.nn,λs hs w hw=>?_⟩
 unfold evAt
 split
 ·exact I.sd s
 ·exact I.sr _
theorem yd(ok:W.Ok):At W W.oa 0 0 (-1):=by
 have e:∀s,W.oa.ge.getD s []=[]:=λs=>tK W.st s
 refine⟨λs t ht=>?_,λs hs w hw c hc=>⟨?_,λz=>?_⟩⟩
 ·rw[e]at ht;exact absurd ht zI
 ·unfold evAt at hc
  split at hc
  ·replace hc:c∈W.des.getD s []:=hc
   unfold Wk.des at hc
   rw[zA,zF,yR hs]at hc
   exact AI ok _ c hc
  ·rw[show W.oa.re.getD w.toNat []=[]from tK W.be _]at hc
   exact absurd hc zI
 ·have:=Wk.wy_ok hw
  omega
def OA.oaW(A:OA)(W:Wk)(u:Int):OA:={ A with pr:=W.be.map λ_=>some (u+1) }
theorem Ax{u:Int}(Z:At W A (u+1) 0 (-1)):Far W u (A.oaW W u):=by
 refine⟨λs w hs hw e he=>?_,λb g h=>?_⟩
 ·have:=(Z.rs s hs w hw e he).1
  omega
 ·replace h:(W.be.map λ_=>some (u+1)).getD b none=some g:=h
  rw[zA,zF]at h
  cases e:W.be[b]? with
  | none=>rw[e]at h;cases h
  | some c=>rw[e]at h;cases h;rfl
theorem ED{u:Int}{B:OA}(f:Far W u B){s:Nat}(hs:s<W.st.length){w x:Int}(hw:w∈W.wy s)(h:B.e s w=some x):u<x:=by
 unfold OA.e at h
 cases ev:evAt B.de B.re s w with
 | cons t r =>
  rw[ev]at h
  replace h:some t.1=some x:=h
  cases h
  exact f.ev s w hs hw t (by rw[ev];exact zJ)
 | nil =>
  rw[ev]at h
  replace h:(if w=-1 then none else B.pr.getD w.toNat none)=some x:=h
  split at h
  ·cases h
  ·rw[f.pr _ _ h];omega
theorem FU(ok:W.Ok)(P:Wp W A){u:Int}(Z:At W A (u+1) 0 (-1))(e60:∀s:Nat,∀e∈A.ge.getD s [],e.1<=u):Cf W (A.oaW W u):=by
 have f:=Ax Z
 refine⟨⟨P.lg,P.so,P.wy,λs t ht w hw x hx=>?_⟩,P.ev,P.nn,λb bt hb=>?_⟩
 ·have hs:s<W.st.length:=by
   refine Nat.lt_of_not_le λz=>?_
   replace ht:t∈A.ge.getD s []:=ht
   rw[zA,yH (by rw[P.lg];exact z)]at ht
   exact absurd ht zI
  have h1:=ED f hs hw hx
  have h2:=e60 s t ht
  rw[uk]
  unfold tkey
  dsimp only
  omega
 ·obtain⟨b1,b2,b3,b4,b5,b6⟩:=ok.bel bt (zE hb)
  cases eg:(A.oaW W u).pr.getD b none with
  | none =>
   exfalso
   replace eg:(W.be.map λ_=>some (u+1)).getD b none=none:=eg
   rw[zA,zF,hb]at eg
   cases eg
  | some g =>
   rw[f.pr _ _ eg]
   cases ec:(A.oaW W u).clk bt.1.toNat (W.wy bt.1) with
   | none=>exact tU _
   | some x =>
    unfold OA.clk at ec
    obtain⟨w,hw,he⟩:=yT.mp (qM.mp ec).1
    have ez:((bt.1.toNat:Nat):Int)=bt.1:=by omega
    rw[←ez]at hw
    have:=ED f (s:=bt.1.toNat) (by omega) hw he
    show u+1<=x+bt.2.2
    omega
theorem FT(ok:W.Ok)(P:Wp W A){u:Int}(Z:At W A (u+1) 0 (-1))(e60:∀s:Nat,∀e∈A.ge.getD s [],e.1<=u){n:Nat}(em:((W.oa.rnds W.st.length n).bhs W.st.length u).isEmpty=true)(hs:s<W.st.length):((W.oa.rnds W.st.length n).ge.getD s []).filter (upTo u)=A.ge.getD s []:=by
 have cb:=FU ok P Z e60
 obtain⟨I,c,ag⟩:=FC ok cb (ts:=(List.replicate n (List.range W.st.length)).flatten) Fe
 rw[←AQ]at I c ag
 refine Eg ok c.cf cb (Ax Z) ag.symm e60 (FF λs hs x hx=>?_) hs
 have:=A7.mp em s hs
 rw[I.ws hs,hx]at this
 have:=of_decide_eq_false this
 omega
end
end Oc
namespace Oc
open PySem L2
section
variable{W:Wk}{A:OA}{s:Nat}{p:SP}{t:Tri}{r:List Tri}
theorem Aw(ok:W.Ok)(P:Wp W A)(hs:s<W.st.length)(hp:A.srs[s]?=some p)(tw:t.2.1∈W.wy s)(er:evAt A.de A.re s t.2.1=t::r)(q:Tri->Bool):∃k,k<=1/\(A.take s p t).wt q+(if q t=true then 1 else 0)=A.wt q+k/\(k=1->∃e:Tri,q e=true/\t.1<e.1):=by
 have hws:=(P.sp s p hp).1
 have hbs:=(P.sp s p hp).2
 have t0:=Wk.wy_ok tw
 have pop:(A.pop s t.2.1).wt q+(if q t=true then 1 else 0)=A.wt q:=by
  unfold evAt at er
  unfold OA.pop OA.wt
  by_cases wd:t.2.1=-1
  ·rw[if_pos wd]at er ⊢
   have:=uT q A.de s (A.de.getD s []).tail (by rw[P.ld];exact hs)
   rw[er,qS]at this
   show cntP q (A.de.set s (A.de.getD s []).tail)+cntP q A.re+_=_
   rw[er]
   rw[jZ]at this ⊢
   split <;>split at this <;>omega
  ·rw[if_neg wd]at er ⊢
   obtain⟨b,bt,hb,eb,_⟩:=(Wk.wy_mem tw).resolve_left wd
   have hbl:=(zD.mp hb).1
   have:=uT q A.re t.2.1.toNat (A.re.getD t.2.1.toNat []).tail (by rw[P.lr];omega)
   rw[er,qS]at this
   show cntP q A.de+cntP q (A.re.set t.2.1.toNat (A.re.getD t.2.1.toNat []).tail)+_=_
   rw[er]
   rw[jZ]at this ⊢
   split <;>split at this <;>omega
 have lre:(A.pop s t.2.1).re.length=W.be.length:=by rw[←P.lr];unfold OA.pop;split <;>simp
 have edl:(A.pop s t.2.1).dl=W.dels:=by rw[←P.dl];unfold OA.pop;split <;>rfl
 cases eo:p.out (p.ws.idxOf t.2.1) t.2.2 with
 | none =>
  refine⟨0,zV _,?_,λz=>nomatch z⟩
  have:(A.take s p t).wt q=(A.pop s t.2.1).wt q:=by
   unfold OA.take
   rw[eo]
   rfl
  rw[this]
  exact pop
 | some o =>
  have hb':o.1∈W.lv s:=by rw[←hbs];exact SP.out_in (y:=o.2) eo
  obtain⟨b,bt,g1,g2,g3⟩:=Wk.lv_mem hb'
  have hbl:=(zD.mp g1).1
  have eb:o.1.toNat=b:=by omega
  refine⟨if q (t.1+W.dels.getD b 0,o.1,o.2)=true then 1 else 0,(by split <;>omega),?_,λz=>?_⟩
  ·have put:(A.take s p t).wt q=(A.pop s t.2.1).wt q+(if q (t.1+W.dels.getD b 0,o.1,o.2)=true then 1 else 0):=by
    have e1:(A.take s p t).de=(A.pop s t.2.1).de:=by unfold OA.take;rw[(u5 _ _ _).1];rfl
    have e2:(A.take s p t).re=(A.pop s t.2.1).re.set b ((A.pop s t.2.1).re.getD b []++[(t.1+W.dels.getD b 0,o.1,o.2)]):=by
     unfold OA.take
     rw[eo]
     show(A.pop s t.2.1).re.set o.1.toNat ((A.pop s t.2.1).re.getD o.1.toNat []++[(t.1+(A.pop s t.2.1).dl.getD o.1.toNat 0,o.1,o.2)])=_
     rw[eb,edl]
    unfold OA.wt
    rw[e1,e2]
    have:=uT q (A.pop s t.2.1).re b ((A.pop s t.2.1).re.getD b []++[(t.1+W.dels.getD b 0,o.1,o.2)]) (by omega)
    rw[List.countP_append,vF]at this
    omega
   rw[put]
   omega
  ·split at z
   ·rename_i hq
    refine⟨_,hq,?_⟩
    have:=(ok.bel bt (zE g1)).2.2.2.2.1
    show t.1<t.1+W.dels.getD b 0
    rw[Wk.dl_at g1]
    omega
   ·cases z
def OA.tot(A:OA):Nat:=A.wt λ_=>true
def OA.atT(A:OA)(T:Int):Nat:=A.wt λe=>e.1==T
theorem BV(ok:W.Ok)(P:Wp W A)(hs:s<W.st.length)(hp:A.srs[s]?=some p)(tw:t.2.1∈W.wy s)(er:evAt A.de A.re s t.2.1=t::r):(A.take s p t).tot<=A.tot:=by
 obtain⟨k,h1,h2,_⟩:=Aw ok P hs hp tw er (λ_=>true)
 rw[if_pos rfl]at h2
 unfold OA.tot
 omega
theorem BZ(ok:W.Ok)(P:Wp W A)(hs:s<W.st.length)(hp:A.srs[s]?=some p)(tw:t.2.1∈W.wy s)(er:evAt A.de A.re s t.2.1=t::r):(A.take s p t).atT t.1+1=A.atT t.1:=by
 obtain⟨k,h1,h2,h3⟩:=Aw ok P hs hp tw er (λe=>e.1==t.1)
 rw[if_pos (beq_self_eq_true _)]at h2
 have k0:k=0:=by
  refine Classical.byContradiction λz=>?_
  obtain⟨e,e1,e2⟩:=h3 (by omega)
  have:e.1=t.1:=by simpa using e1
  omega
 unfold OA.atT
 omega
theorem BW(A:OA)(T:Int):A.atT T<=A.tot:=by
 have h:∀rows:List (List Tri),cntP (λe=>e.1==T) rows<=cntP (λ_=>true) rows:=λrows=>by
  unfold cntP
  induction rows with
  | nil=>exact zH _
  | cons x rows ih =>
   simp only [yE,qV]
   have:=jY (l:=x) (p:=λe=>e.1==T) (q:=λ_=>true) (λ_ _ _=>rfl)
   omega
 unfold OA.atT OA.tot OA.wt
 have h1:=h A.de
 have h2:=h A.re
 omega
end
end Oc
namespace Oc
open PySem L2
theorem v_{α β:Type}{F:α->β->Prop}{l₁:List α}{l₂:List β}(h:Paired F l₁ l₂){i:Nat}{b:β}(e:l₂[i]?=some b):∃a,l₁[i]?=some a/\F a b:=by
 have hl:=h.length
 have hi:=(zD.mp e).1
 have e1:l₁[i]?=some (l₁[i]'(by omega)):=zB _
 obtain⟨b',e',f⟩:=h.gt e1
 rw[e]at e'
 cases e'
 exact⟨_,e1,f⟩
theorem Gj(st:Sta):(staV st)[0]?=some (.str st.1):=by
 obtain⟨k,n⟩:=st
 cases n <;>rfl
theorem AA{z:Int}:∀{ns:List Int},inV (.int z) (ns.map V.int)=ns.any λn=>n==z
 | []=>rfl
 | n::ns=>by
  rw[qQ,←AA]
  show(eqV (.int n) (.int z)||inV (.int z) (ns.map V.int))=_
  have e:eqV (.int n) (.int z)=(n==z):=by
   unfold eqV
   first|rfl|exact tS|simp
  rw[e]
inductive spKep(vs:List V)(H:Hp)(Q:VK)(x_3:XK):Prop where
 | mk (w:Addr) (W:Wk) (s:Nat) (M:List (List Cell)) (h_0:vs=[.ref w,.int (s:Int)]) (h_1:WkAt H w W) (h_2:W.Ok) (h_3:s<W.st.length) (h_4:Hc H M) (h_5:∀(r:SR)(H':Hp),Same H H'->Hc H' (kpC r::M)->Made W s r->Q (.ref r.d) H'):spKep vs H Q x_3
section
variable{P:Program}{w:World}{K:PySem.W.Frag}{mg:Str->Option Value}{base:Heap}
theorem Cd:FnScope ["works","station","kept","belt"] ["works","station"] (defScope (top 32)):=⟨rfl,rfl,rfl,by decide +kernel,rfl,by decide +kernel,by decide +kernel⟩
theorem E3{f:Addr}{fd:FuncData}(F:Fun K "_law_kept" "_law_kept" (top 32) f fd)(T:Txt K mg):FnOk P w K mg base CX0 1 f fd ["works","station"] spKep:=by
 have nd:=Cd.nd
 refine F.ok Cd (λvs H Q E h=>?_) (λcdv A outer s H vs Q E hr h=>?_)
 ·obtain⟨w,W,s,M,rfl,_⟩:=h
  rfl
 ·obtain⟨w,W,s,M,rfl,hw,ok,hs,hc,q⟩:=h
  have hu:=xf hr
  obtain⟨sa,ba,fa,xs,ys,zs,h1,h2⟩:=hw.ex
  have lb:=h2.pb.length
  have lf:=h2.pf.length
  have b12:=ok.b12
  have f60:=ok.f60
  obtain⟨st,hst⟩:∃st,W.st[s]?=some st:=⟨W.st[s],zB hs⟩
  obtain⟨xb,hxb,sp0',rfl,hsp⟩:=v_ h2.ps hst
  have stok:=ok.sta st (zE hst)
  refine⟨_,(@sq _ _ _ _ _ (sL (i:=2) nd rfl (by nofun) yz)
   (@sq _ _ _ _ _ (tG (sJ CD (@sE _ _ _ _ _ _ _ (sA (K:=K) rfl) (@sE _ _ _ _ _ _ _ (sO (K:=K) rfl) (@sE _ _ _ _ _ _ _ (sA (K:=K) rfl) (pv 0) sg (λ_ _=>rfl)) (pv 1) (λ_ _=>rfl)) sg (λ_ _=>rfl)) tW (sP _)) (@sy _ _ _ (@sN _ _ _ _ (pv 2))) sS)
   (@sq _ _ _ _ _ (tG (sJ (An (K:=K) rfl) (pv 1) (tE (own:=["feed"]) (fr:=[]) (js:=[]) (by and_intros) (sY (K:=K) rfl (@sE _ _ _ _ _ _ _ (sA (K:=K) rfl) (pv 0) sg (λ_ _=>rfl))) (λ_ _ _ _=>(sH (i:=0) (show List.Nodup (["feed"]:List Str)from by decide +kernel) rfl (by nofun))) (λ_ _ _ _=>tq) (λ_ _ _ _=>(@sE _ _ _ _ _ _ _ (sA (K:=K) rfl) (pv 0) sg (λ_ _=>rfl)))) rfl) (@sy _ _ _ (u9 hu (pv 2) (AH xE sg) (@tJ _ _ _ _ sh) rfl)) sS)
   (@sq _ _ _ _ _ (ub PassesOwn.never rfl (s_ rfl T.n_range (@sf _ _ _ _ _ (sR (sM (K:=K) rfl) (by rfl) T.n_len tX (@sf _ _ _ _ _ (@sE _ _ _ _ _ _ _ (sA (K:=K) rfl) (pv 0) sg (λ_ _=>rfl)) sh (by rfl))) sh (by rfl))) (sH (i:=3) nd rfl (by nofun)) (@sy _ _ _ (tG (sJ tN (@sE _ _ _ _ _ _ _ (sA (K:=K) rfl) (@sE _ _ _ _ _ _ _ (sO (K:=K) rfl) (@sE _ _ _ _ _ _ _ (sA (K:=K) rfl) (pv 0) sg (λ_ _=>rfl)) (pv 3) (λ_ _=>rfl)) sg (λ_ _=>rfl)) (pv 1) (sP _)) (@sy _ _ _ (u9 hu (pv 2) (pv 3) (@tJ _ _ _ _ sh) rfl)) sS)))
   (@sy _ _ _ (@sN _ _ _ _ (pv 2))))))),?_⟩
  refine λd nd_=>?_
  have s1:Same H (upd H d (.dK [])):=Same.new nd_
  have hc1:=hc.new nd_ (.dK [])
  generalize (upd H d (.dK []))=H1 at s1 hc1 ⊢
  refine⟨_,rfl,⟨_,_,_,_,rfl,rfl,SqT.of (s1 _ _ h1),su (j:=0) rfl,_,rfl,⟨_,_,_,_,rfl,rfl,SqL.of (s1 _ _ h2.hs),su hxb,⟨_,_,_,_,rfl,rfl,SqT.of (s1 _ _ hsp),su (j:=0) (Gj st),rfl,_,rfl,?_⟩⟩⟩⟩
  have wy13:(W.wy (s:Int)).length<=100:=by
   have:=uB (λ(t:Tri)=>t.2.1==(s:Int)) W.be 0
   unfold Wk.wy
   rw[zM]
   split
   ·show 1+_<=_;omega
   ·show 0+_<=_;omega
  by_cases ej:st.1="joiner"
  ·have ek:kdOf st=.joiner:=by
    obtain⟨k,n⟩:=st
    replace ej:k="joiner":=ej
    rw[ej]
    exact we _
   rw[ej,show decide (V.str "joiner"=V.str "joiner")=true from by decide +kernel]
   refine iteF ?_
   refine⟨_,rfl,_,rfl,⟨_,_,_,_,rfl,rfl,SqT.of (s1 _ _ h1),su (j:=2) rfl,fa,rfl,⟨_,SqL.of (s1 _ _ h2.hf)⟩,λD nD=>?_⟩⟩
   refine s0 (a:=fa) (xs:=zs) (λi H5=>Same H1 H5/\H5 D=some (.lst (((W.fe.take i).map λ(t:Tri)=>t.1).map V.int))) ⟨Same.new nD,ss⟩ (λi H5 _ p=>SqL.of (p.1 _ _ (s1 _ _ h2.hf))) ?_ ?_
   ·rintro i x H5 m Wf hx ⟨s5,h5⟩ nx
    obtain⟨t,ht,a0,rfl,ha⟩:=h2.pf.gt hx
    have hi:=(zD.mp ht).1
    refine⟨_,rfl,⟨_,_,_,_,rfl,rfl,SqT.of (s5 _ _ (s1 _ _ ha)),(su (j:=0) rfl),_,h5,sG (by rw[zC,zC,zY];omega),nx _ ⟨s5.upd nD,?_⟩⟩⟩
    rw[ss,uh ht,zK,zK]
    rfl
   ·rintro H5 ⟨s5,h5⟩
    rw[lf,yB]at h5
    refine⟨D,_,rfl,.inl (SqL.of h5),rfl,(by rw[vC];exact kI.mpr λ_ _=>rfl),_,rfl,?_⟩
    have hc5:=hc1.same s5
    have S5:=s1.trans s5
    have ea:(if false=true then !inV (.int (s:Int)) ((W.fe.map λ(t:Tri)=>t.1).map V.int)else inV (.int (s:Int)) ((W.fe.map λ(t:Tri)=>t.1).map V.int))=W.fe.any λt=>t.1==(s:Int):=by
     rw[if_neg (by decide),AA,jU]
     rfl
    rw[ea]
    refine wx (fun σ' H'=>∃ls:List Addr,σ'=[some (.ref w),some (.int (s:Int)),some (.ref d),none]/\Same H H'/\Hc H' ([(d,.dK (jk (if W.fe.any (λt=>t.1==(s:Int))=true then [-1]else []) ls))]::jrows ls ((if W.fe.any (λt=>t.1==(s:Int))=true then [-1]else ([]:List Int)).map λ_=>[])::M)/\ls.length=(if W.fe.any (λt=>t.1==(s:Int))=true then [-1]else ([]:List Int)).length) (λhb k=>?_) (λhb k=>?_) ?_
    ·refine⟨zV _,λl nl=>⟨_,rfl,_,rfl,⟨d,_,rfl,DPut.k (k:=Sum.inl (-1)) ((hc5.new nl (.lst [])).get 1 0 rfl rfl) (sG (by show 0<=1000;decide)),?_⟩⟩⟩
     have hc6:=(hc5.new nl (.lst [])).put 1 0 rfl rfl (.dK [(Sum.inl (-1),.ref l)])
     refine k _ _ ⟨[l],rfl,(S5.trans (Same.new nl)).upd nd_,?_,by rw[hb];rfl⟩
     rw[hb,if_pos rfl]
     exact hc6.swap
    ·refine k _ _ ⟨[],rfl,S5,?_,by rw[hb];rfl⟩
     rw[hb,if_neg (by decide)]
     exact hc5.pad.swap
    ·rintro σ' H6 ⟨ls0,rfl,s6,hc6,ll0⟩
     generalize epre:(if W.fe.any (λt=>t.1==(s:Int))=true then [-1]else ([]:List Int))=pre at hc6 ll0
     have ewy:pre++idx (λ(t:Tri)=>t.2.1==(s:Int)) 0 W.be=W.wy s:=by rw[←epre];rfl
     have lpre:pre.length<=1:=by rw[←epre];split <;>decide
     have npre:∀x∈pre,x=-1:=λx hx=>by
      rw[←epre]at hx
      split at hx
      ·exact zG.mp hx
      ·exact absurd hx zI
     refine⟨_,rfl,⟨_,_,_,_,rfl,rfl,SqT.of (s6 _ _ h1),su (j:=1) rfl,ba,_,rfl,.inl (SqL.of (s6 _ _ h2.hb)),_,rfl,by rw[p62];omega,by rw[p62];omega,t4 (n:=((ys.length:Nat):Int).toNat) (λi σ H7=>∃(v3:Option V)(ls:List Addr),σ=[some (.ref w),some (.int (s:Int)),some (.ref d),v3]/\Same H H7/\Hc H7 ([(d,.dK (jk (pre++idx (λ(t:Tri)=>t.2.1==(s:Int)) 0 (W.be.take i)) ls))]::jrows ls ((pre++idx (λ(t:Tri)=>t.2.1==(s:Int)) 0 (W.be.take i)).map λ_=>[])::M)/\ls.length=(pre++idx (λ(t:Tri)=>t.2.1==(s:Int)) 0 (W.be.take i)).length)
      ⟨_,ls0,rfl,s6,by rw[show pre++idx (λ(t:Tri)=>t.2.1==(s:Int)) 0 (W.be.take 0)=pre from zP _];exact hc6,by rw[show pre++idx (λ(t:Tri)=>t.2.1==(s:Int)) 0 (W.be.take 0)=pre from zP _];exact ll0⟩ ?_ ?_⟩⟩
     ·rintro i σ H7 hi ⟨v3,ls,rfl,s7,hc7,ll⟩
      have ez:(0:Int)+(i:Int)=(i:Int):=qC _
      rw[ez]
      have hil:i<W.be.length:=by omega
      obtain⟨bt,hbt⟩:∃bt,W.be[i]?=some bt:=⟨W.be[i],zB hil⟩
      obtain⟨yb,hyb,a0,rfl,ha0⟩:=v_ h2.pb hbt
      refine⟨_,rfl,⟨_,_,_,_,rfl,rfl,SqT.of (s7 _ _ h1),su (j:=1) rfl,_,rfl,⟨_,_,_,_,rfl,rfl,SqL.of (s7 _ _ h2.hb),su hyb,⟨_,_,_,_,rfl,rfl,SqT.of (s7 _ _ ha0),su (j:=1) rfl,_,rfl,rfl,_,rfl,?_⟩⟩⟩⟩
      have et:decide (V.int bt.2.1=V.int (s:Int))=(bt.2.1==(s:Int)):=tS
      have eid:=vU (λ(t:Tri)=>t.2.1==(s:Int)) hbt
      have lid:=uB (λ(t:Tri)=>t.2.1==(s:Int)) (W.be.take i) 0
      rw[zY]at lid
      refine iteB (λhb=>?_) (λhb=>?_)
      ·rw[et]at hb
       rw[hb,if_pos rfl]at eid
       rw[eid,←z9]
       generalize ews:pre++idx (λ(t:Tri)=>t.2.1==(s:Int)) 0 (W.be.take i)=ws at hc7 ll
       have lws:ws.length<=13:=by rw[←ews,zM];omega
       have ni:(i:Int)∉ws:=λh=>by
        rw[←ews]at h
        rcases yA.mp h with z|z
        ·have:=npre _ z;omega
        ·have:=wQ _ _ _ _ z
         rw[zY]at this
         omega
       refine⟨zV _,λl nl=>⟨_,rfl,_,rfl,⟨d,_,rfl,DPut.k (k:=Sum.inl (i:Int)) ((hc7.new nl (.lst [])).get 1 0 rfl rfl) (sG (by have:=Df ws ls;omega)),?_⟩⟩⟩
       have hc8:=(hc7.new nl (.lst [])).put 1 0 rfl rfl (.dK (putK (jk ws ls) (Sum.inl (i:Int)) (.ref l)))
       refine⟨_,ls++[l],rfl,(s7.trans (Same.new nl)).upd nd_,?_,by rw[zM,zM,ll];rfl⟩
       rw[AK ll,zK]
       show Hc _ (_::jrows (ls++[l]) ((ws.map λ_=>[])++[[]])::M)
       rw[wU (by rw[zC];exact ll),←vw _ (xO ni)]
       exact(Hc.join (hc8.pick 2 rfl)).swap
      ·rw[et]at hb
       rw[hb,if_neg zQ,zP]at eid
       rw[eid]
       exact⟨_,ls,rfl,s7,hc7,ll⟩
     ·rintro σ H7 ⟨v3,ls,rfl,s7,hc7,ll⟩
      have e8:((ys.length:Nat):Int).toNat=W.be.length:=by omega
      rw[e8,yB,ewy]at hc7 ll
      refine⟨_,rfl,q ⟨0,0,0,0,d,.joiner,W.wy s,W.lv s,ls,0,(W.wy s).map λ_=>[]⟩ H7 s7 ?_ ⟨⟨st,hst,ek.symm⟩,rfl,rfl,rfl,?_,⟨W.wy_nd s,wy13,λ_=>⟨ll,zC _,λrow hr0=>?_⟩,λn h=>by cases h⟩⟩⟩
      ·exact hc7.join
      ·show _=if Kd.joiner=Kd.joiner then _ else _
       rw[if_pos rfl]
      ·obtain⟨_,_,rfl⟩:=yI.mp hr0
       exact zH _
  ·have enj:kdOf st≠.joiner:=by
    rcases stok with ⟨n,rfl,_,_⟩|rfl|⟨n,rfl,_,_⟩|rfl|rfl
    ·rw[vH];exact λz=>nomatch z
    ·rw[vf];exact λz=>nomatch z
    ·rw[uS];exact λz=>nomatch z
    ·exact absurd rfl ej
    ·exact λz=>nomatch (show Kd.sink=Kd.joiner from z)
   have ed:decide (V.str st.1=V.str "joiner")=false:=decide_eq_false λz=>ej (by injection z)
   rw[ed]
   refine iteT ⟨_,rfl,q ⟨0,0,0,0,d,kdOf st,W.wy s,W.lv s,[],0,[]⟩ H1 s1 ?_ ⟨⟨st,hst,rfl⟩,rfl,rfl,rfl,?_,⟨W.wy_nd s,wy13,λh=>absurd h enj,λn h=>?_⟩⟩⟩
   ·unfold kpC
    dsimp only
    split
    ·rename_i h;exact absurd h enj
    ·exact hc1
    ·exact hc1
   ·show []=if kdOf st=Kd.joiner then _ else []
    rw[if_neg enj]
   ·replace h:kdOf st=.thinner n:=h
    rcases stok with ⟨n',rfl,_,_⟩|rfl|⟨n',rfl,_,_⟩|rfl|rfl
    ·rw[vH]at h;cases h
    ·rw[vf]at h;cases h
    ·rw[uS]at h;cases h;assumption
    ·exact absurd rfl ej
    ·exact nomatch (show Kd.sink=Kd.thinner n from h)
end
end Oc
namespace Oc
open PySem L2
def IsP2(H:Hp)(x:V)(t:Tri):Prop:=IsPr H x (t.1,t.2.2)
def keyK(s w:Int):List Key:=[.inl s,.inl w]
def dKvs(da:List Addr)(n:Nat):List (List Key×V):=(List.range n).map λs:Nat=>(keyK (s:Int) (-1),V.ref (da.getD s 0))
def bKvs(W:Wk)(ra:List Addr)(n:Nat):List (List Key×V):=(List.range n).map λb:Nat=>(keyK (W.be.getD b (0,0,0)).2.1 (b:Int),V.ref (ra.getD b 0))
def kvs(da ra:List Addr)(W:Wk):List (List Key×V):=dKvs da W.st.length++bKvs W ra W.be.length
def Wk.pT(W:Wk)(s:Int)(t k:Nat):List Tri:=((List.range t).flatMap λ(i:Nat)=>W.fe.filter λf=>f.1==s&&f.2.1==(i:Int))++(W.fe.take k).filter λf=>f.1==s&&f.2.1==(t:Int)
def evOf(f:Tri):Tri:=(f.2.1,-1,f.2.2)
theorem DL(W:Wk)(s:Int)(t:Nat):W.pT s t W.fe.length=W.pT s (t+1) 0:=by
 unfold Wk.pT
 rw[yB,yU,qH,List.take_zero,yN,zP]
 simp
theorem Fu(W:Wk)(s:Int):(W.pT s 51 0).map evOf=W.de s:=by
 unfold Wk.pT Wk.de Wk.dr Wk.drs
 rw[List.take_zero,yN,zP,vA]
 rfl
theorem Dm{W:Wk}{s:Int}{t k:Nat}{f:Tri}(h:W.fe[k]?=some f):W.pT s t (k+1)=W.pT s t k++(if (f.1==s&&f.2.1==(t:Int))=true then [f]else []):=by
 unfold Wk.pT
 rw[uh h,yJ,z9]
 congr 2
 rw[List.filter_cons,yN]
theorem FK(W:Wk)(s:Int)(t k:Nat):(W.pT s t k).length<=(t+1)*W.fe.length:=by
 unfold Wk.pT
 rw[zM]
 have h1:∀n:Nat,((List.range n).flatMap λ(i:Nat)=>W.fe.filter λf=>f.1==s&&f.2.1==(i:Int)).length<=n*W.fe.length:=λn=>by
  induction n with
  | zero=>exact zV _
  | succ n ih =>
   rw[yU,qH,zM]
   have:(List.flatMap (λ(i:Nat)=>W.fe.filter λf=>f.1==s&&f.2.1==(i:Int)) [n]).length<=W.fe.length:=by
    simp only [j6,List.flatMap_nil,zP]
    exact y8 _ _
   rw[Nat.succ_mul]
   omega
 have h2:((W.fe.take k).filter λf=>f.1==s&&f.2.1==(t:Int)).length<=W.fe.length:=z0 (y8 _ _) (by rw[zY];omega)
 have:=h1 t
 rw[Nat.succ_mul]
 omega
end Oc
namespace Oc
open PySem L2
theorem IsP2.keep{H:Hp}{a:Addr}{xs ys:List V}(e:H a=some (.lst xs)){x:V}{t:Tri}(h:IsP2 H x t):IsP2 (upd H a (.lst ys)) x t:=IsPr.keep e h
theorem IsP2.same{H H':Hp}(s:Same H H'){x:V}{t:Tri}(h:IsP2 H x t):IsP2 H' x t:=IsPr.same s h
theorem IsP2.tk{H H':Hp}(k:Tk H H'){x:V}{t:Tri}(h:IsP2 H x t):IsP2 H' x t:=by
 obtain⟨p,e,q⟩:=h
 exact⟨p,e,k.tup q⟩
theorem IsP2.keepD{H:Hp}{rd:Addr}{kv:List (List Key×V)}{o:HO}(e:H rd=some (.dT kv)){x:V}{t:Tri}(h:IsP2 H x t):IsP2 (upd H rd o) x t:=by
 obtain⟨p,rfl,q⟩:=h
 exact⟨p,rfl,by rw[sD (tR q e (by intro z;cases z))];exact q⟩
abbrev P2s(H:Hp):List (List V)->List (List Tri)->Prop:=Paired (λus ts=>Paired (IsP2 H) us ts)
theorem P2s.mono{H H':Hp}(f:∀x t,IsP2 H x t->IsP2 H' x t){a:List (List V)}{b:List (List Tri)}(h:P2s H a b):P2s H' a b:=sw (λ_ _ h=>sw (λ_ _ h=>f _ _ h) h) h
theorem w_{l:List Addr}{a:Addr}{i:Nat}(h:i<l.length):(l++[a]).getD i 0=l.getD i 0:=by rw[zA,yF h,←zA]
theorem xu{l:List Addr}{a:Addr}:(l++[a]).getD l.length 0=a:=by rw[zA,zN (zH _),qB];rfl
theorem xq{da:List Addr}{a:Addr}:dKvs (da++[a]) (da.length+1)=dKvs da da.length++[(keyK (da.length:Int) (-1),V.ref a)]:=by
 unfold dKvs
 rw[yU,zK]
 congr 1
 ·refine List.map_congr_left λs hs=>?_
  rw[w_ (yO.mp hs)]
 ·show [(_,V.ref ((da++[a]).getD da.length 0))]=_
  rw[xu]
theorem Bv{W:Wk}{ra:List Addr}{a:Addr}:bKvs W (ra++[a]) (ra.length+1)=bKvs W ra ra.length++[(keyK (W.be.getD ra.length (0,0,0)).2.1 (ra.length:Int),V.ref a)]:=by
 unfold bKvs
 rw[yU,zK]
 congr 1
 ·refine List.map_congr_left λs hs=>?_
  rw[w_ (yO.mp hs)]
 ·show [(_,V.ref ((ra++[a]).getD ra.length 0))]=_
  rw[xu]
theorem wL{κ:Type}[DecidableEq κ]{l:List (κ×V)}{x:κ}(h:∀p∈l,p.1≠x):valV l x=none:=by
 unfold valV
 rw[jA.mpr λp hp z=>h p hp (of_decide_eq_true z)]
 rfl
theorem xT{da:List Addr}{n m:Nat}(h:n<=m):∀p∈dKvs da n,p.1≠keyK (m:Int) (-1):=λp hp z=>by
 obtain⟨s,hs,rfl⟩:=yI.mp hp
 unfold keyK at z
 injection z with z _
 injection z with z
 have:=yO.mp hs
 omega
theorem ze{da:List Addr}{n m:Nat}{x:Int}:∀p∈dKvs da n,p.1≠keyK x (m:Int):=λp hp z=>by
 obtain⟨s,hs,rfl⟩:=yI.mp hp
 unfold keyK at z
 injection z with _ z
 injection z with z _
 injection z with z
 omega
theorem AO{W:Wk}{ra:List Addr}{n m:Nat}{x:Int}(h:n<=m):∀p∈bKvs W ra n,p.1≠keyK x (m:Int):=λp hp z=>by
 obtain⟨s,hs,rfl⟩:=yI.mp hp
 unfold keyK at z
 injection z with _ z
 injection z with z _
 injection z with z
 have:=yO.mp hs
 omega
theorem ix{da ra:List Addr}{W:Wk}{s:Nat}{a:Addr}(hs:s<W.st.length)(ha:da[s]?=some a):valV (kvs da ra W) (keyK (s:Int) (-1))=some (.ref a):=by
 have:∀n:Nat,s<n->valV (dKvs da n) (keyK (s:Int) (-1))=some (.ref a):=λn=>by
  induction n with
  | zero=>intro h;exact absurd h (qN _)
  | succ n ih =>
   intro h
   have e:dKvs da (n+1)=dKvs da n++[(keyK (n:Int) (-1),V.ref (da.getD n 0))]:=by unfold dKvs;rw[yU,zK];rfl
   unfold valV at ih ⊢
   rw[e,jD]
   by_cases z:s<n
   ·have:=ih z
    cases ef:List.find? (λkv=>decide (kv.1=keyK (s:Int) (-1))) (dKvs da n) with
    | none=>rw[ef]at this;cases this
    | some kv=>rw[ef]at this;exact this
   ·have z':s=n:=by omega
    subst z'
    rw[jA.mpr λp hp y=>xT (zH s) p hp (of_decide_eq_true y)]
    show((none.or (List.find? _ [(keyK (s:Int) (-1),V.ref (da.getD s 0))])).map _)=_
    rw[qG,decide_eq_true rfl,zA,ha]
    rfl
 have h1:=this _ hs
 unfold valV at h1 ⊢
 unfold kvs
 rw[jD]
 cases ef:List.find? (λkv=>decide (kv.1=keyK (s:Int) (-1))) (dKvs da W.st.length) with
 | none=>rw[ef]at h1;cases h1
 | some kv=>rw[ef]at h1;exact h1
theorem zg{da ra:List Addr}{W:Wk}{b:Nat}{bt:Tri}{a:Addr}(hb:W.be[b]?=some bt)(ha:ra[b]?=some a):valV (kvs da ra W) (keyK bt.2.1 (b:Int))=some (.ref a):=by
 have hl:=(zD.mp hb).1
 have:∀n:Nat,b<n->valV (bKvs W ra n) (keyK bt.2.1 (b:Int))=some (.ref a):=λn=>by
  induction n with
  | zero=>intro h;exact absurd h (qN _)
  | succ n ih =>
   intro h
   have e:bKvs W ra (n+1)=bKvs W ra n++[(keyK (W.be.getD n (0,0,0)).2.1 (n:Int),V.ref (ra.getD n 0))]:=by unfold bKvs;rw[yU,zK];rfl
   unfold valV at ih ⊢
   rw[e,jD]
   by_cases z:b<n
   ·have:=ih z
    cases ef:List.find? (λkv=>decide (kv.1=keyK bt.2.1 (b:Int))) (bKvs W ra n) with
    | none=>rw[ef]at this;cases this
    | some kv=>rw[ef]at this;exact this
   ·have z':b=n:=by omega
    subst z'
    rw[jA.mpr λp hp y=>AO (zH b) p hp (of_decide_eq_true y)]
    have eb:(W.be.getD b (0,0,0)).2.1=bt.2.1:=by rw[zA,hb];rfl
    show((none.or (List.find? _ [(keyK (W.be.getD b (0,0,0)).2.1 (b:Int),V.ref (ra.getD b 0))])).map _)=_
    rw[eb,qG,decide_eq_true rfl,zA,ha]
    rfl
 unfold valV kvs
 rw[jD,jA.mpr λp hp y=>ze p hp (of_decide_eq_true y)]
 have h1:=this _ hl
 unfold valV at h1
 exact h1
theorem F9{da ra:List Addr}{W:Wk}{s:Nat}{w:Int}(h:w ≠ -1)(n:∀(b:Nat) bt,W.be[b]?=some bt->bt.2.1=(s:Int)->w≠(b:Int)):valV (kvs da ra W) (keyK (s:Int) w)=none:=by
 refine wL λp hp z=>?_
 rcases yA.mp hp with y|y
 ·obtain⟨k,_,rfl⟩:=yI.mp y
  unfold keyK at z
  injection z with _ z
  injection z with z _
  injection z with z
  exact h z.symm
 ·obtain⟨k,hk,rfl⟩:=yI.mp y
  have hk:=yO.mp hk
  have e:W.be[k]?=some (W.be[k]):=zB hk
  unfold keyK at z
  injection z with z1 z
  injection z1 with z1
  injection z with z _
  injection z with z
  rw[zA,e]at z1
  exact n k _ e z1 z.symm
inductive spRws(vs:List V)(H:Hp)(Q:VK)(x_3:XK):Prop where
 | mk (w:Addr) (W:Wk) (M:List (List Cell)) (h_0:vs=[.ref w]) (h_1:WkAt H w W) (h_2:W.Ok) (h_3:Hc H M) (h_4:∀(rd:Addr)(da ra:List Addr)(dv:List (List V))(H':Hp),Same H H'->Hc H' ([(rd,.dT (kvs da ra W))]::liC da dv::liC ra (ra.map λ_=>[])::M)->da.length=W.st.length->dv.length=W.st.length->ra.length=W.be.length->P2s H' dv W.des->Q (.ref rd) H'):spRws vs H Q x_3
section
variable{P:Program}{w:World}{K:PySem.W.Frag}{mg:Str->Option Value}{base:Heap}
theorem Dj:FnScope ["works","rows","station","time","goal","when","piece","belt"] ["works"] (defScope (top 31)):=⟨rfl,rfl,rfl,by decide +kernel,rfl,by decide +kernel,by decide +kernel⟩
theorem FS{f:Addr}{fd:FuncData}(F:Fun K "_law_rows" "_law_rows" (top 31) f fd)(T:Txt K mg):FnOk P w K mg base CX0 1 f fd ["works"] spRws:=by
 have nd:=Dj.nd
 refine F.ok Dj (λvs H Q E h=>?_) (λcdv A outer s H vs Q E hr h=>?_)
 ·obtain⟨w,W,M,rfl,_⟩:=h
  rfl
 ·obtain⟨w,W,M,rfl,hw,ok,hc,q⟩:=h
  have hu:=xf hr
  have b12:=ok.b12
  have s8:=ok.s8
  have f60:=ok.f60
  obtain⟨sa,ba,fa,xs,ys,zs,h1,h2⟩:=hw.ex
  have ls:=h2.ps.length
  have lb:=h2.pb.length
  have lf:=h2.pf.length
  refine⟨_,(@sq _ _ _ _ _ (sL (i:=1) nd rfl (by nofun) Cb)
   (@sq _ _ _ _ _ (ub PassesOwn.never rfl (s_ rfl T.n_range (@sf _ _ _ _ _ (sR (sM (K:=K) rfl) (by rfl) T.n_len tX (@sf _ _ _ _ _ (@sE _ _ _ _ _ _ _ (sA (K:=K) rfl) (pv 0) sg (λ_ _=>rfl)) sh (by rfl))) sh (by rfl))) (sH (i:=2) nd rfl (by nofun)) (@sq _ _ _ _ _ (u9 hu (pv 1) (@tj _ _ _ _ _ (@sf _ _ _ _ _ (pv 2) (@sf _ _ _ _ _ (AH xE sg) sh (by rfl)) (by rfl))) (@tJ _ _ _ _ sh) rfl)
   (@sy _ _ _ (ub PassesOwn.never rfl (s_ rfl T.n_range (@sf _ _ _ _ _ sg sh (by rfl))) (sH (i:=3) nd rfl (by nofun)) (@sy _ _ _ (ub PassesOwn.never rfl (sY (K:=K) rfl (@sE _ _ _ _ _ _ _ (sA (K:=K) rfl) (pv 0) sg (λ_ _=>rfl))) (Cy rfl (ux (sH (i:=4) nd rfl (by nofun)) (ux (sH (i:=5) nd rfl (by nofun)) (ux (sH (i:=6) nd rfl (by nofun)) x_)))) (@sy _ _ _ (tG ((xF (sJ tN (pv 4) (pv 2) (sP _)) (wA (sJ tN (pv 5) (pv 3) (sP _))))).pt (@sy _ _ _ (tM (uH PySem.F.plainAttrs_list PySem.F.slot_list_append PySem.F.type_list_append tL (uz hu (pv 1) (@tj _ _ _ _ _ (@sf _ _ _ _ _ (pv 2) (@sf _ _ _ _ _ (AH xE sg) sh (by rfl)) (by rfl))) (λ_ _=>rfl)) (@sf _ _ _ _ _ (@tj _ _ _ _ _ (@sf _ _ _ _ _ (pv 3) (@sf _ _ _ _ _ (pv 6) sh (by rfl)) (by rfl))) sh (by rfl))))) sS))))))))
   (@sq _ _ _ _ _ (ub PassesOwn.never rfl (s_ rfl T.n_range (@sf _ _ _ _ _ (sR (sM (K:=K) rfl) (by rfl) T.n_len tX (@sf _ _ _ _ _ (@sE _ _ _ _ _ _ _ (sA (K:=K) rfl) (pv 0) sg (λ_ _=>rfl)) sh (by rfl))) sh (by rfl))) (sH (i:=7) nd rfl (by nofun)) (@sy _ _ _ (u9 hu (pv 1) (@tj _ _ _ _ _ (@sf _ _ _ _ _ (@sE _ _ _ _ _ _ _ (sA (K:=K) rfl) (@sE _ _ _ _ _ _ _ (sO (K:=K) rfl) (@sE _ _ _ _ _ _ _ (sA (K:=K) rfl) (pv 0) sg (λ_ _=>rfl)) (pv 7) (λ_ _=>rfl)) sg (λ_ _=>rfl)) (@sf _ _ _ _ _ (pv 7) sh (by rfl)) (by rfl))) (@tJ _ _ _ _ sh) rfl)))
   (@sy _ _ _ (@sN _ _ _ _ (pv 1)))))),?_⟩
  refine λrd nrd=>?_
  have s1:Same H (upd H rd (.dT [])):=Same.new nrd
  have hc1:=hc.new nrd (.dT [])
  generalize (upd H rd (.dT []))=H1 at s1 hc1 ⊢
  refine⟨_,rfl,⟨_,_,_,_,rfl,rfl,SqT.of (s1 _ _ h1),su (j:=0) rfl,sa,_,rfl,.inl (SqL.of (s1 _ _ h2.hs)),_,rfl,by rw[p62];omega,by rw[p62];omega,t4 (n:=((xs.length:Nat):Int).toNat) (λi σ H6=>∃(v2 v3 v4 v5 v6:Option V)(da:List Addr)(dv:List (List V)),σ=[some (.ref w),some (.ref rd),v2,v3,v4,v5,v6,none]/\Same H H6/\Hc H6 ([(rd,.dT (dKvs da i))]::liC da dv::M)/\da.length=i/\dv.length=i/\P2s H6 dv ((List.range i).map λ(s:Nat)=>W.de (s:Int)))
   ⟨_,_,_,_,_,[],[],rfl,s1,hc1.pad.swap,rfl,rfl,.nil⟩ ?_ ?_⟩⟩
  ·rintro i σ H6 hi ⟨v2,v3,v4,v5,v6,da,dv,rfl,s6,hc6,la,lv,pr⟩
   have ez:(0:Int)+(i:Int)=(i:Int):=qC _
   rw[ez]
   have hi8:i<8:=by omega
   refine⟨zV _,λl nl=>?_⟩
   have t7:Same H6 (upd H6 l (.lst [])):=Same.new nl
   have hc7:=hc6.new nl (.lst [])
   generalize (upd H6 l (.lst []))=H7 at t7 hc7 ⊢
   refine⟨_,rfl,_,rfl,_,rfl,(by show 2<=sizeLine;decide),λb nb=>?_⟩
   have t8:Same H7 (upd H7 b (.tup [.int (i:Int),.int (-1)])):=Same.new nb
   have g8:(upd H7 b (.tup [.int (i:Int),.int (-1)])) b=some (.tup [.int (i:Int),.int (-1)]):=ss
   have hc8:=hc7.same t8
   change sDPut_ _ _ _ _ _ (upd H7 b (.tup [.int (i:Int),.int (-1)]))
   generalize (upd H7 b (.tup [.int (i:Int),.int (-1)]))=H8 at t8 g8 hc8 ⊢
   have grd:=hc8.get 1 0 rfl rfl
   refine⟨rd,_,rfl,DPut.t (k:=keyK (i:Int) (-1)) grd g8 (sG (by unfold dKvs;rw[zC,yC];omega)),?_⟩
   have e1:putK (dKvs da i) (keyK (i:Int) (-1)) (V.ref l)=dKvs (da++[l]) (i+1):=by
    rw[vw _ (wL (xT (zH i))),←la,xq]
   rw[e1]
   have hc9:=hc8.put 1 0 rfl rfl (.dT (dKvs (da++[l]) (i+1)))
   have s9:Same H (upd H8 rd (.dT (dKvs (da++[l]) (i+1)))):=(s6.trans (t7.trans t8)).upd nrd
   have pr9:=pr.mono (λx t h=>(IsP2.same (t7.trans t8) h).keepD (o:=.dT (dKvs (da++[l]) (i+1))) grd)
   generalize (upd H8 rd (.dT (dKvs (da++[l]) (i+1))))=H9 at hc9 s9 pr9 ⊢
   replace hc9:Hc H9 ([(l,.lst [])]::[(rd,.dT (dKvs (da++[l]) (i+1)))]::liC da dv::M):=hc9
   have lda:(da++[l])[i]?=some l:=by rw[←la,zN (zH _),qB];rfl
   have nl':H l=none:=(s6).free nl
   have kv:valV (dKvs (da++[l]) (i+1)) (keyK (i:Int) (-1))=some (.ref l):=by
    have e:=xq (da:=da) (a:=l)
    rw[la]at e
    rw[e]
    unfold valV
    rw[jD,jA.mpr λp hp y=>xT (zH i) p hp (of_decide_eq_true y),qG,decide_eq_true rfl]
    rfl
   refine⟨_,rfl,by rw[p62];decide,by rw[p62];decide,t4 (n:=(51:Int).toNat) (λt σ H10=>∃(v3 v4 v5 v6:Option V)(us:List V),σ=[some (.ref w),some (.ref rd),some (.int (i:Int)),v3,v4,v5,v6,none]/\Same H H10/\Hc H10 ([(l,.lst us)]::[(rd,.dT (dKvs (da++[l]) (i+1)))]::liC da dv::M)/\P2s H10 dv ((List.range i).map λ(s:Nat)=>W.de (s:Int))/\Paired (IsP2 H10) us ((W.pT (i:Int) t 0).map evOf)) ⟨_,_,_,_,[],rfl,s9,hc9,pr9,.nil⟩ ?_ ?_⟩
   ·rintro tm σ H10 htm ⟨v3,v4,v5,v6,us,rfl,s10,hc10,pr10,pu10⟩
    have ez:(0:Int)+(tm:Int)=(tm:Int):=qC _
    rw[ez]
    have ht51:tm<51:=htm
    refine⟨_,rfl,⟨_,_,_,_,rfl,rfl,SqT.of (s10 _ _ h1),su (j:=2) rfl,fa,rfl,⟨_,SqL.of (s10 _ _ h2.hf)⟩,vS (K:=K) (a:=fa) (xs:=zs) (λk σ H11=>∃(v4 v5 v6:Option V)(us:List V),σ=[some (.ref w),some (.ref rd),some (.int (i:Int)),some (.int (tm:Int)),v4,v5,v6,none]/\Same H H11/\Hc H11 ([(l,.lst us)]::[(rd,.dT (dKvs (da++[l]) (i+1)))]::liC da dv::M)/\P2s H11 dv ((List.range i).map λ(s:Nat)=>W.de (s:Int))/\Paired (IsP2 H11) us ((W.pT (i:Int) tm k).map evOf)) ⟨_,_,_,us,rfl,s10,hc10,pr10,pu10⟩ (λk σ H11 _ ⟨_,_,_,_,_,s11,_⟩=>SqL.of (s11 _ _ h2.hf)) ?_ ?_⟩⟩
    ·rintro k x σ H11 hx ⟨v4,v5,v6,us,rfl,s11,hc11,pr11,pu11⟩
     obtain⟨fd_,hfd,a0,rfl,ha⟩:=h2.pf.gt hx
     have ept:=Dm (s:=(i:Int)) (t:=tm) hfd
     have lpu:=pu11.length
     have lpt:=FK W (i:Int) tm k
     rw[zC]at lpu
     have bnd:(tm+1)*W.fe.length<=51*60:=Nat.mul_le_mul (by omega) f60
     refine⟨a0,_,rfl,SqT.of (s11 _ _ ha),rfl,⟨_,_,rfl,⟨_,_,rfl,⟨_,_,rfl,rfl,?_⟩⟩⟩⟩
     refine⟨_,rfl,_,rfl,rfl,_,rfl,?_⟩
     have et:decide (V.int fd_.1=V.int (i:Int))=(fd_.1==(i:Int)):=tS
     have et2:decide (V.int fd_.2.1=V.int (tm:Int))=(fd_.2.1==(tm:Int)):=tS
     refine iteB (λhb=>?_) (λhb=>?_)
     ·rw[et]at hb
      refine⟨_,rfl,_,rfl,rfl,_,rfl,?_⟩
      refine iteB (λhb2=>?_) (λhb2=>?_)
      ·rw[et2]at hb2
       rw[hb,hb2,Bool.and_true,if_pos rfl]at ept
       have etm:fd_.2.1=(tm:Int):=by simpa using hb2
       refine⟨_,rfl,_,rfl,_,rfl,(by show 2<=sizeLine;decide),λb2 nb2=>?_⟩
       have t12:Same H11 (upd H11 b2 (.tup [.int (i:Int),.int (-1)])):=Same.new nb2
       have g12:(upd H11 b2 (.tup [.int (i:Int),.int (-1)])) b2=some (.tup [.int (i:Int),.int (-1)]):=ss
       have hc12:=hc11.same t12
       change tDGet_ _ _ _ (upd H11 b2 (.tup [.int (i:Int),.int (-1)]))
       generalize (upd H11 b2 (.tup [.int (i:Int),.int (-1)]))=H12 at t12 g12 hc12 ⊢
       have dg:DGet H12 rd (.ref b2) (some (.ref l)):=by
        have:=DGet.t (k:=keyK (i:Int) (-1)) (hc12.get 1 0 rfl rfl) g12
        rw[kv]at this
        exact this
       refine⟨rd,_,rfl,dg,tyL (hc12.get 0 0 rfl rfl),_,rfl,_,rfl,(by show 2<=sizeLine;decide),λpn nn=>?_⟩
       have t13:Same H12 (upd H12 pn (.tup [.int (tm:Int),.int fd_.2.2])):=Same.new nn
       have g13:(upd H12 pn (.tup [.int (tm:Int),.int fd_.2.2])) pn=some (.tup [.int (tm:Int),.int fd_.2.2]):=ss
       have hc13:=hc12.same t13
       change rAppend _ _ (upd H12 pn (.tup [.int (tm:Int),.int fd_.2.2])) _
       generalize (upd H12 pn (.tup [.int (tm:Int),.int fd_.2.2]))=H13 at t13 g13 hc13 ⊢
       have gl13:=hc13.get 0 0 rfl rfl
       refine⟨l,us,_,rfl,rfl,gl13,vn (by omega),?_⟩
       have hc14:=hc13.put 0 0 rfl rfl (.lst (us++[.ref pn]))
       have f14:∀x t,IsP2 H11 x t->IsP2 (upd H13 l (.lst (us++[.ref pn]))) x t:=λx t h=>IsP2.keep gl13 (IsP2.same (t12.trans t13) h)
       refine⟨_,_,_,us++[V.ref pn],rfl,(s11.trans (t12.trans t13)).upd nl',hc14,pr11.mono f14,?_⟩
       rw[ept,zK]
       refine sW (sw (λ_ _ h=>f14 _ _ h) pu11) (.cons (IsP2.keep gl13 ⟨pn,rfl,?_⟩) .nil)
       rw[g13]
       unfold evOf
       rw[etm]
      ·rw[et2]at hb2
       rw[hb2,Bool.and_false,if_neg zQ,zP]at ept
       rw[ept]
       exact⟨_,_,_,us,rfl,s11,hc11,pr11,pu11⟩
     ·rw[et]at hb
      rw[hb,Bool.false_and,if_neg zQ,zP]at ept
      rw[ept]
      exact iteF ⟨_,_,_,us,rfl,s11,hc11,pr11,pu11⟩
    ·rintro σ H11 ⟨v4,v5,v6,us,rfl,s11,hc11,pr11,pu11⟩
     rw[lf,DL]at pu11
     exact⟨_,_,_,_,us,rfl,s11,hc11,pr11,pu11⟩
   ·rintro σ H10 ⟨v3,v4,v5,v6,us,rfl,s10,hc10,pr10,pu10⟩
    rw[show(51:Int).toNat=51 from rfl,Fu]at pu10
    refine⟨_,_,_,_,_,da++[l],dv++[us],rfl,s10,?_,by rw[zM,la];rfl,by rw[zM,lv];rfl,?_⟩
    ·rw[uo (by omega)]
     exact(Hc.join (hc10.pick 2 rfl)).swap
    ·rw[yU,zK]
     exact sW pr10 (.cons pu10 .nil)
  ·rintro σ H6 ⟨v2,v3,v4,v5,v6,da,dv,rfl,s6,hc6,la,lv,pr⟩
   have e8:((xs.length:Nat):Int).toNat=W.st.length:=by omega
   rw[e8]at hc6 la lv pr
   refine⟨_,rfl,⟨_,_,_,_,rfl,rfl,SqT.of (s6 _ _ h1),su (j:=1) rfl,ba,_,rfl,.inl (SqL.of (s6 _ _ h2.hb)),_,rfl,by rw[p62];omega,by rw[p62];omega,t4 (n:=((ys.length:Nat):Int).toNat) (λi σ H7=>∃(v7:Option V)(ra:List Addr),σ=[some (.ref w),some (.ref rd),v2,v3,v4,v5,v6,v7]/\Same H H7/\Hc H7 ([(rd,.dT (dKvs da W.st.length++bKvs W ra i))]::liC ra (ra.map λ_=>[])::liC da dv::M)/\ra.length=i/\P2s H7 dv W.des)
    ⟨_,[],rfl,s6,(by
     have e:dKvs da W.st.length++bKvs W [] 0=dKvs da W.st.length:=zP _
     rw[e]
     exact hc6.pad.swap),rfl,pr⟩ ?_ ?_⟩⟩
   ·rintro i σ H7 hi ⟨v7,ra,rfl,s7,hc7,lra,pr7⟩
    have ez:(0:Int)+(i:Int)=(i:Int):=qC _
    rw[ez]
    have hil:i<W.be.length:=by omega
    obtain⟨bt,hbt⟩:∃bt,W.be[i]?=some bt:=⟨W.be[i],zB hil⟩
    obtain⟨yb,hyb,a0,rfl,ha0⟩:=v_ h2.pb hbt
    refine⟨zV _,λpn npn=>?_⟩
    have t8:Same H7 (upd H7 pn (.lst [])):=Same.new npn
    have hc8:=hc7.new npn (.lst [])
    generalize (upd H7 pn (.lst []))=H8 at t8 hc8 ⊢
    have S8:=s7.trans t8
    refine⟨_,rfl,_,rfl,⟨_,_,_,_,rfl,rfl,SqT.of (S8 _ _ h1),su (j:=1) rfl,_,rfl,⟨_,_,_,_,rfl,rfl,SqL.of (S8 _ _ h2.hb),su hyb,⟨_,_,_,_,rfl,rfl,SqT.of (S8 _ _ ha0),su (j:=1) rfl,_,rfl,(by show 2<=sizeLine;decide),λb nb=>?_⟩⟩⟩⟩
    have s9:Same H8 (upd H8 b (.tup [.int bt.2.1,.int (i:Int)])):=Same.new nb
    have g9:(upd H8 b (.tup [.int bt.2.1,.int (i:Int)])) b=some (.tup [.int bt.2.1,.int (i:Int)]):=ss
    have hc9:=hc8.same s9
    change sDPut_ _ _ _ _ _ (upd H8 b (.tup [.int bt.2.1,.int (i:Int)]))
    generalize (upd H8 b (.tup [.int bt.2.1,.int (i:Int)]))=H9 at s9 g9 hc9 ⊢
    have grd:=hc9.get 1 0 rfl rfl
    refine⟨rd,_,rfl,DPut.t (k:=keyK bt.2.1 (i:Int)) grd g9 (sG (by unfold dKvs bKvs;rw[zM,zC,yC,zC,yC];omega)),?_⟩
    have ebt:(W.be.getD i (0,0,0)).2.1=bt.2.1:=by rw[zA,hbt];rfl
    have e1:putK (dKvs da W.st.length++bKvs W ra i) (keyK bt.2.1 (i:Int)) (V.ref pn)=dKvs da W.st.length++bKvs W (ra++[pn]) (i+1):=by
     rw[vw _ (wL λp hp=>by
      rcases yA.mp hp with z|z
      ·exact ze p z
      ·exact AO (zH i) p z),←lra,Bv,lra,ebt,z9]
    rw[e1]
    have hc10:=hc9.put 1 0 rfl rfl (.dT (dKvs da W.st.length++bKvs W (ra++[pn]) (i+1)))
    refine⟨_,ra++[pn],rfl,(s7.trans (t8.trans s9)).upd nrd,?_,by rw[zM,lra];rfl,pr7.mono λx t h=>(IsP2.same (t8.trans s9) h).keepD grd⟩
    rw[zK]
    have e:=uo (ls:=ra) (vs:=ra.map λ_=>[]) (by rw[zC]) pn []
    show Hc _ (_::liC (ra++[pn]) ((ra.map λ_=>[])++[[]])::_)
    rw[e]
    exact(Hc.join (hc10.pick 2 rfl)).swap
   ·rintro σ H7 ⟨v7,ra,rfl,s7,hc7,lra,pr7⟩
    have e8:((ys.length:Nat):Int).toNat=W.be.length:=by omega
    rw[e8]at hc7 lra
    exact⟨_,rfl,q rd da ra dv H7 s7 ((hc7.pick 2 rfl).pick 1 rfl) la lv lra pr7⟩
end
end Oc
namespace Oc
open PySem L2
def kpS(srs:List SR):List Cell:=srs.flatMap kpC
def ouV(W:Wk):List (List V):=(List.range W.st.length).map λs:Nat=>(W.lv (s:Int)).map V.int
def rnH(W:Wk)(o:OR)(oa:List Addr):List Cell:=[(o.rl,.dT (kvs o.da o.ra W)),(o.sl,.lst (o.srs.map λr=>V.ref r.d)),(o.ol,.lst (oa.map V.ref)),(o.gl,.lst (o.ga.map V.ref))]
def runC(W:Wk)(o:OR)(oa:List Addr):List (List Cell):=[rnH W o oa,liC o.da o.dv,liC o.ra o.rv,liC o.ga o.gv,liC oa (ouV W),kpS o.srs]
structure RunF(W:Wk)(m:Nat)(H:Hp)(o:OR)(A:OA):Prop where
 ld:o.da.length=W.st.length
 ldv:o.dv.length=W.st.length
 lr:o.ra.length=W.be.length
 lrv:o.rv.length=W.be.length
 lg:o.ga.length=W.st.length
 lgv:o.gv.length=W.st.length
 d:P2s H o.dv A.de
 r:P2s H o.rv A.re
 g:Paired (λus ts=>Paired (IsTri H) us ts) o.gv A.ge
 s:o.srs.map SR.pu=A.srs
 so:∀q∈o.srs,SOk m q/\0<=q.seen
 ao:AOk m A
theorem RunF.via{W:Wk}{m:Nat}{H H':Hp}{o:OR}{A:OA}(k:Tk H H')(f:RunF W m H o A):RunF W m H' o A :=
 ⟨f.ld,f.ldv,f.lr,f.lrv,f.lg,f.lgv,f.d.mono λ_ _ h=>h.tk k,f.r.mono λ_ _ h=>h.tk k,sw (λ_ _ h=>sw (λ_ _ h=>h.tk k) h) f.g,f.s,f.so,f.ao⟩
section
variable{W:Wk}{M:List (List Cell)}{H:Hp}{o:OR}{oa:List Addr}{A:OA}{m s:Nat}
theorem AR(hc:Hc H (runC W o oa++M))(f:RunF W m H o A)(hs:s<W.st.length){w:Int}(hw:w∈W.wy (s:Int)):∃us a,o.at s w=some us/\o.atA s w=some a/\H a=some (.lst us)/\Paired (IsP2 H) us (evAt A.de A.re s w)/\valV (kvs o.da o.ra W) (keyK (s:Int) w)=some (.ref a):=by
 have l1:=f.ld
 have l2:=f.ldv
 have l3:=f.lr
 have l4:=f.lrv
 rcases Wk.wy_mem hw with e|⟨j,bt,hj,eb,e⟩
 ·subst e
  have h:o.dv[s]?=some (o.dv[s]'(by omega)):=zB _
  have ha:o.da[s]?=some (o.da[s]'(by omega)):=zB _
  obtain⟨ts,h1,h2⟩:=f.d.gt h
  refine⟨_,_,by unfold OR.at;rw[if_pos rfl];exact h,by unfold OR.atA;rw[if_pos rfl];exact ha,hc.get 1 s rfl (sX ha h),?_,ix hs ha⟩
  unfold evAt
  rw[if_pos rfl,zA,h1]
  exact h2
 ·subst e
  have hl':=(zD.mp hj).1
  have h:o.rv[j]?=some (o.rv[j]'(by omega)):=zB _
  have ha:o.ra[j]?=some (o.ra[j]'(by omega)):=zB _
  obtain⟨ts,h1,h2⟩:=f.r.gt h
  refine⟨_,_,by unfold OR.at;rw[if_neg (by omega)];exact h,by unfold OR.atA;rw[if_neg (by omega)];exact ha,hc.get 2 j rfl (sX ha h),?_,by rw[←eb];exact zg hj ha⟩
  unfold evAt
  rw[if_neg (by omega),zU,zA,h1]
  exact h2
theorem DF(hc:Hc H (runC W o oa++M))(f:RunF W m H o A){w:Int}{us:List V}{a:Addr}(hat:o.at s w=some us)(ha:o.atA s w=some a):∃o1,Hc (upd H a (.lst (us.eraseIdx 0))) (runC W o1 oa++M)/\RunF W m (upd H a (.lst (us.eraseIdx 0))) o1 (A.pop s w)/\Tk H (upd H a (.lst (us.eraseIdx 0)))/\o1.rl=o.rl/\o1.sl=o.sl/\o1.ol=o.ol/\o1.gl=o.gl/\o1.srs=o.srs/\o1.da=o.da/\o1.ra=o.ra:=by
 have ao:=f.ao.pop s w
 unfold OR.at at hat
 unfold OR.atA at ha
 unfold OA.pop at ao ⊢
 by_cases e:w=-1
 ·rw[if_pos e]at hat ha ao ⊢
  have hput:=hc.put 1 s rfl (sX ha hat) (.lst (us.eraseIdx 0))
  have tk:Tk H (upd H a (.lst (us.eraseIdx 0))):=(Tk.refl H).put (hc.get 1 s rfl (sX ha hat)) (λz=>z)
  rw[uG ha]at hput
  obtain⟨ts,hts,pt⟩:=f.d.gt hat
  have f':=f.via tk
  refine⟨{ o with dv:=o.dv.set s (us.eraseIdx 0) },hput,⟨f.ld,zZ.trans f.ldv,f.lr,f.lrv,f.lg,f.lgv,?_,f'.r,f'.g,f.s,f.so,ao⟩,tk,rfl,rfl,rfl,rfl,rfl,rfl,rfl⟩
  show P2s _ (o.dv.set s (us.eraseIdx 0)) (A.de.set s (A.de.getD s []).tail)
  rw[zA,hts]
  exact tZ f'.d (uF (sw (λ_ _ h=>h.tk tk) pt))
 ·rw[if_neg e]at hat ha ao ⊢
  have hput:=hc.put 2 w.toNat rfl (sX ha hat) (.lst (us.eraseIdx 0))
  have tk:Tk H (upd H a (.lst (us.eraseIdx 0))):=(Tk.refl H).put (hc.get 2 w.toNat rfl (sX ha hat)) (λz=>z)
  rw[uG ha]at hput
  obtain⟨ts,hts,pt⟩:=f.r.gt hat
  have f':=f.via tk
  refine⟨{ o with rv:=o.rv.set w.toNat (us.eraseIdx 0) },hput,⟨f.ld,f.ldv,f.lr,zZ.trans f.lrv,f.lg,f.lgv,f'.d,?_,f'.g,f.s,f.so,ao⟩,tk,rfl,rfl,rfl,rfl,rfl,rfl,rfl⟩
  show P2s _ (o.rv.set w.toNat (us.eraseIdx 0)) (A.re.set w.toNat (A.re.getD w.toNat []).tail)
  rw[zA,hts]
  exact tZ f'.r (uF (sw (λ_ _ h=>h.tk tk) pt))
theorem Eh(hc:Hc H (runC W o oa++M))(f:RunF W m H o A){gs:List V}{a:Addr}{v:V}{t:Tri}(hg:o.gv[s]?=some gs)(ha:o.ga[s]?=some a)(ht:IsTri H v t):∃o1,Hc (upd H a (.lst (gs++[v]))) (runC W o1 oa++M)/\RunF W (m+1) (upd H a (.lst (gs++[v]))) o1 (A.log s t)/\Tk H (upd H a (.lst (gs++[v])))/\o1.rl=o.rl/\o1.sl=o.sl/\o1.ol=o.ol/\o1.gl=o.gl/\o1.srs=o.srs/\o1.da=o.da/\o1.ra=o.ra:=by
 have hput:=hc.put 3 s rfl (sX ha hg) (.lst (gs++[v]))
 have tk:Tk H (upd H a (.lst (gs++[v]))):=(Tk.refl H).put (hc.get 3 s rfl (sX ha hg)) (λz=>z)
 rw[uG ha]at hput
 obtain⟨ts,hts,pt⟩:=f.g.gt hg
 have f':=f.via tk
 refine⟨{ o with gv:=o.gv.set s (gs++[v]) },hput,⟨f.ld,f.ldv,f.lr,f.lrv,f.lg,zZ.trans f.lgv,f'.d,f'.r,?_,f.s,λq hq=>⟨((f.so q hq).1).le (yZ m),(f.so q hq).2⟩,f.ao.log s t⟩,tk,rfl,rfl,rfl,rfl,rfl,rfl,rfl⟩
 show Paired _ (o.gv.set s (gs++[v])) (A.ge.set s (A.ge.getD s []++[t]))
 rw[zA,hts]
 exact tZ f'.g (sW (sw (λ_ _ h=>h.tk tk) pt) (.cons (ht.tk tk) .nil))
end
end Oc
namespace Oc
open PySem L2
theorem SR.nxt_d(r:SR)(j:Nat)(z:Int):(r.nxt j z).d=r.d/\(0<=r.seen->0<=(r.nxt j z).seen):=by
 unfold SR.nxt
 cases e:r.k <;>simp [e] <;>omega
theorem AS(X Y:List SR)(r:SR):kpS (X++r::Y)=kpS X++(kpC r++kpS Y):=by
 unfold kpS
 rw[qH,j6]
theorem D9{X Y:List SR}{r:SR}{H:Hp}{M:List (List Cell)}(hc:Hc H (kpS (X++r::Y)::M)):Hc H (kpC r::(kpS X++kpS Y)::M):=wF hc λc=>by
 rw[AS]
 simp only [yD,jF]
 omega
section
variable{W:Wk}{M:List (List Cell)}{H:Hp}{o:OR}{oa:List Addr}{A:OA}{m s:Nat}
theorem DH(hc:Hc H (runC W o oa++M))(f:RunF W m H o A){b:Nat}{us:List V}{a:Addr}{v:V}{t:Tri}(hg:o.rv[b]?=some us)(ha:o.ra[b]?=some a)(ht:IsP2 H v t)(ao:AOk m (A.lay b t)):∃o1,Hc (upd H a (.lst (us++[v]))) (runC W o1 oa++M)/\RunF W m (upd H a (.lst (us++[v]))) o1 (A.lay b t)/\Tk H (upd H a (.lst (us++[v])))/\o1.rl=o.rl/\o1.sl=o.sl/\o1.ol=o.ol/\o1.gl=o.gl/\o1.srs=o.srs/\o1.da=o.da/\o1.ra=o.ra:=by
 have hput:=hc.put 2 b rfl (sX ha hg) (.lst (us++[v]))
 have tk:Tk H (upd H a (.lst (us++[v]))):=(Tk.refl H).put (hc.get 2 b rfl (sX ha hg)) (λz=>z)
 rw[uG ha]at hput
 obtain⟨ts,hts,pt⟩:=f.r.gt hg
 have f':=f.via tk
 refine⟨{ o with rv:=o.rv.set b (us++[v]) },hput,⟨f.ld,f.ldv,f.lr,zZ.trans f.lrv,f.lg,f.lgv,f'.d,?_,f'.g,f.s,f.so,ao⟩,tk,rfl,rfl,rfl,rfl,rfl,rfl,rfl⟩
 show P2s _ (o.rv.set b (us++[v])) (A.re.set b (A.re.getD b []++[t]))
 rw[zA,hts]
 exact tZ f'.r (sW (sw (λ_ _ h=>h.tk tk) pt) (.cons (ht.tk tk) .nil))
theorem DS{H':Hp}{ft:List Cell}{r r':SR}{X Y:List SR}(f:RunF W m H o A)(hs:o.srs[s]?=some r)(eXY:o.srs=X++r::Y)(lX:X.length=s)(hd:r'.d=r.d)(so:SOk m r'/\0<=r'.seen)
  (hc:Hc H' (ft::kpC r'::(kpS X++kpS Y)::rnH W o oa::liC o.da o.dv::liC o.ra o.rv::liC o.ga o.gv::liC oa (ouV W)::M)) (tk:Tk H H'):Hc H' (runC W { o with srs:=o.srs.set s r' } oa++(ft::M))/\RunF W m H' { o with srs:=o.srs.set s r' } (A.sta s r'.pu):=by
 have eset:o.srs.set s r'=X++r'::Y:=by rw[eXY,←lX];exact vK
 have erefs:(o.srs.set s r').map (λr=>V.ref r.d)=o.srs.map λr=>V.ref r.d:=vI hs (by rw[hd])
 have eh:rnH W { o with srs:=o.srs.set s r' } oa=rnH W o oa:=by
  show [(_,_),(_,HO.lst ((o.srs.set s r').map λr=>V.ref r.d)),_,_]=_
  rw[erefs]
  rfl
 have f':=f.via tk
 refine⟨wF hc λc=>?_,⟨f.ld,f.ldv,f.lr,f.lrv,f.lg,f.lgv,f'.d,f'.r,f'.g,?_,ut f.so so,⟨f.ao.d,f.ao.r,f.ao.lr,f.ao.lg⟩⟩⟩
 ·have ek:kpS ({ o with srs:=o.srs.set s r' }:OR).srs=kpS X++(kpC r'++kpS Y):=by
   show kpS (o.srs.set s r')=_
   rw[eset,AS]
  have er:runC W { o with srs:=o.srs.set s r' } oa=[rnH W o oa,liC o.da o.dv,liC o.ra o.rv,liC o.ga o.gv,liC oa (ouV W),kpS X++(kpC r'++kpS Y)]:=by
   unfold runC
   rw[eh,ek]
  rw[er]
  simp only [yD,kH,qR,jF,zP,kL]
  omega
 ·show(o.srs.set s r').map SR.pu=A.srs.set s r'.pu
  rw[jN,f.s]
end
end Oc
namespace Oc
open PySem L2
structure RS(W:Wk)(oa:List Addr)(M:List (List Cell))(rl sl ol gl:Addr)(H:Hp)(o:OR)(A:OA)(m:Nat)(T:Nat):Prop where
 hc:Hc H (runC W o oa++M)
 f:RunF W m H o A
 p:Wp W A
 tot:A.tot<=60
 mb:m+A.atT (T:Int)<=60*(T+1)
 dn:∀s:Nat,s<W.st.length->(-1:Int)∉W.wy s->A.de.getD s []=[]
 e1:o.rl=rl
 e2:o.sl=sl
 e3:o.ol=ol
 e4:o.gl=gl
theorem RS.same{W:Wk}{oa:List Addr}{M:List (List Cell)}{rl sl ol gl:Addr}{H H':Hp}{o:OR}{A:OA}{m T:Nat}(h:RS W oa M rl sl ol gl H o A m T)(s:Same H H'):RS W oa M rl sl ol gl H' o A m T:=⟨h.hc.same s,h.f.via (Tk.of s),h.p,h.tot,h.mb,h.dn,h.e1,h.e2,h.e3,h.e4⟩
theorem RS.next{W:Wk}{oa:List Addr}{M:List (List Cell)}{rl sl ol gl:Addr}{H:Hp}{o:OR}{A:OA}{m T:Nat}(h:RS W oa M rl sl ol gl H o A m T):RS W oa M rl sl ol gl H o A m (T+1):=by
 have h1:=h.mb
 have h2:=BW A ((T+1:Nat):Int)
 have h3:=h.tot
 exact⟨h.hc,h.f,h.p,h.tot,by omega,h.dn,h.e1,h.e2,h.e3,h.e4⟩
theorem ER(W:Wk){s:Nat}(hs:s<W.st.length)(n:(-1:Int)∉W.wy s):W.oa.de.getD s []=[]:=by
 show W.des.getD s []=[]
 unfold Wk.des
 rw[zA,zF,yR hs]
 show W.de (s:Int)=[]
 cases e:W.de (s:Int) with
 | nil=>rfl
 | cons t l =>
  exfalso
  have hm:t∈W.de (s:Int):=by rw[e];exact zJ
  unfold Wk.de Wk.dr at hm
  obtain⟨p,hp,_⟩:=yI.mp hm
  obtain⟨f,hf,_⟩:=yI.mp hp
  obtain⟨h1,h2⟩:=Wk.drs_mem hf
  refine n ?_
  unfold Wk.wy
  rw[jI.mpr ⟨f,h1,by simpa using h2⟩]
  exact qE _ (yQ _)
theorem Du(ts:List Tri):PyData.eqv (.list ((ts.map λt=>(t.1,t.2.2)).map prD)) (.list [])=ts.isEmpty:=by cases ts <;>simp [PyData.eqv,PyData.eqvAll]
theorem FZ{K:PySem.W.Frag}{H:Hp}{p:Addr}{us:List V}{ts:List Tri}(h:H p=some (.lst us))(r:Paired (IsP2 H) us ts):Dt K H 2 (.ref p) (.list ((ts.map λt=>(t.1,t.2.2)).map prD)):=E9 h (wM (f:=λt:Tri=>(t.1,t.2.2)) (λ_ _ h=>h) r)
section
variable{W:Wk}{oa:List Addr}{M:List (List Cell)}{rl sl ol gl:Addr}{H:Hp}{o:OR}{A:OA}{m T s:Nat}
theorem RS.take(ok:W.Ok)(h:RS W oa M rl sl ol gl H o A m T){p:SP}{t:Tri}{r:List Tri}(hs:s<W.st.length)(hp:A.srs[s]?=some p)(tw:t.2.1∈W.wy s)(er:evAt A.de A.re s t.2.1=t::r)(tT:t.1=(T:Int))(Z:At W A (T:Int) s t.2.1){H':Hp}{o':OR}(hc:Hc H' (runC W o' oa++M))(f:RunF W (m+1) H' o' (A.take s p t))(e1:o'.rl=rl)(e2:o'.sl=sl)(e3:o'.ol=ol)(e4:o'.gl=gl):RS W oa M rl sl ol gl H' o' (A.take s p t) (m+1) T/\At W (A.take s p t) (T:Int) s t.2.1/\(A.take s p t).atT (T:Int)<A.atT (T:Int):=by
 have w:=Dn ok h.p (by omega) Z hs hp tw er tT
 have a:=BV ok h.p hs hp tw er
 have b:=BZ ok h.p hs hp tw er
 rw[tT]at b
 have mb:=h.mb
 have tt:=h.tot
 refine⟨⟨hc,f,w.1,by omega,by omega,λj hj n=>?_,e1,e2,e3,e4⟩,w.2,by omega⟩
 rw[uW,h.dn j hj n]
 split <;>rfl
end
end Oc
namespace Oc
open PySem L2
theorem B9{m:Nat}{A:OA}(h:AOk m A){s:Nat}{w:Int}(w0:w=-1\/0<=w){t:Tri}(hin:t∈evAt A.de A.re s w):t.2.1=w:=by
 unfold evAt at hin
 split at hin
 ·rename_i z
  rw[z]
  exact ur (p:=λrow=>∀t∈row,t.2.1=-1) (λ_ z=>absurd z zI) h.d t hin
 ·rename_i z
  have w0:=w0.resolve_left z
  rw[zA]at hin
  cases er:A.re[w.toNat]? with
  | none=>rw[er]at hin;exact absurd hin zI
  | some row =>
   rw[er]at hin
   have:=h.r w.toNat row er t hin
   omega
theorem EF:∀(g:List Tri)(p:SP),(p.aft g).k=p.k
 | [],_=>rfl
 | t::g,p=>(EF g (p.go t)).trans (p.nxt_k _ _)
theorem B7(srs:List SR)(r:SR):kpS (srs++[r])=kpS srs++kpC r:=by
 unfold kpS
 rw[qH]
 simp
inductive spRunL(vs:List V)(H:Hp)(Q:VK)(x_3:XK):Prop where
 | mk (w:Addr) (W:Wk) (u:Nat) (M:List (List Cell)) (h_0:vs=[.ref w,.int (u:Int)]) (h_1:(∀H',Hc H' M->WkAt H' w W)) (h_2:W.Ok) (h_3:u<=60) (h_4:Hc H M) (h_5:∀(gl:Addr)(ga:List Addr)(gv:List (List V))(A:OA)(H':Hp),Tk H H'->Hc H' ([(gl,.lst (ga.map V.ref))]::liC ga gv::M)->ga.length=W.st.length->gv.length=W.st.length->Paired (λus ts=>Paired (IsTri H') us ts) gv A.ge->Wp W A->At W A ((u:Int)+1) 0 (-1)->(∀s:Nat,∀e∈A.ge.getD s [],e.1<=(u:Int))->Q (.ref gl) H'):spRunL vs H Q x_3
section
variable{P:Program}{w:World}{K:PySem.W.Frag}{mg:Str->Option Value}{base:Heap}
theorem mJ:FnScope ["works","until","rows","stations","kept","out","told","time","station","way","row","piece","put","belt"] ["works","until"] (defScope (top 33)):=⟨rfl,rfl,rfl,by decide +kernel,rfl,by decide +kernel,by decide +kernel⟩
theorem pB{f:Addr}{fd:FuncData}(F:Fun K "_law_run" "_law_run" (top 33) f fd)(T:Txt K mg)(bC:FnAt P w K mg base 1 "_law_rows" ["works"] spRws)(bz:FnAt P w K mg base 1 "_law_kept" ["works","station"] spKep)(ce:FnAt P w K mg base 1 "_law_put" ["station","kept","way","piece","belts"] spPutL):FnOk P w K mg base CX0 2 f fd ["works","until"] spRunL:=by
 have nd:=mJ.nd
 refine F.ok mJ (λvs H Q E h=>?_) (λcdv A outer s H vs Q E hr h=>?_)
 ·obtain⟨w,W,u,M,rfl,_⟩:=h
  rfl
 ·obtain⟨w,W,u,M,rfl,wk,ok,u60,hc,q⟩:=h
  have hu:=xf hr
  have b12:=ok.b12
  have s8:=ok.s8
  have wH:=wk H hc
  obtain⟨sa,ba,fa,xs,ys,zs,h1,h2⟩:=id wH.ex
  have ls:=h2.ps.length
  have lb:=h2.pb.length
  refine⟨_,(@sq _ _ _ _ _ (sL (i:=2) nd rfl (by nofun) (sU bC (hr.mono (by decide)) (by rfl) (@sf _ _ _ _ _ (pv 0) sh (by rfl))))
   (@sq _ _ _ _ _ (sL (i:=3) nd rfl (by nofun) (vc (w4 rfl) (by rfl) T.n_list AX (@sf _ _ _ _ _ (Bs (by rfl) T.n_range (@sf _ _ _ _ _ (sR (sM (K:=K) rfl) (by rfl) T.n_len tX (@sf _ _ _ _ _ (@sE _ _ _ _ _ _ _ (sA (K:=K) rfl) (pv 0) sg (λ_ _=>rfl)) sh (by rfl))) sh (by rfl))) sh (by rfl))))
   (@sq _ _ _ _ _ (ue (i:=4) nd rfl (Or.inl rfl) rfl (own:=["station"]) (fr:=["works"]) (js:=[0]) (by and_intros) (sY (K:=K) rfl (pv 3)) (λ_ _ _ _=>(sH (i:=0) (show List.Nodup (["station","works"]:List Str)from by decide +kernel) rfl (by nofun))) (λ_ _ _ _=>tq) (λ_ _ _ _=>(sU bz (hr.mono (by decide)) (by rfl) (@sf _ _ _ _ _ (pv 1) (@sf _ _ _ _ _ (pv 0) sh (by rfl)) (by rfl)))))
   (@sq _ _ _ _ _ (C2 (i:=5) nd rfl (Or.inl rfl) rfl (x0:="station") (own:=["station"]) (fr:=["works"]) (js:=[0]) ⟨rfl,rfl,λ_=>rfl,λ_=>rfl,by decide +kernel,by repeat (first|exact Each.nil|refine Each.cons rfl ?_),rfl,by repeat (first|exact Each.nil|refine Each.cons rfl ?_),by repeat (first|exact Paired.nil|refine Paired.cons ⟨⟨rfl,by first|exact Or.inl rfl|exact Or.inr rfl,by first|exact Or.inl rfl|exact Or.inr rfl⟩,rfl⟩ ?_),rfl⟩ (sY (K:=K) rfl (pv 3)) (λ_ _ _ _ _=>(sH (i:=0) (show List.Nodup (["station","works"]:List Str)from by decide +kernel) rfl (by nofun))) (λ_ _ _ _ _=>tq) (λ_ _ _ _ _=>(by exact(by exact(tE (own:=["k"]) (fr:=["works","station"]) (js:=[1,0]) (by and_intros) (s_ rfl T.n_range (@sf _ _ _ _ _ (sR (sM (K:=K) rfl) (by rfl) T.n_len tX (@sf _ _ _ _ _ (@sE _ _ _ _ _ _ _ (sA (K:=K) rfl) (pv 1) sg (λ_ _=>rfl)) sh (by rfl))) sh (by rfl))) (λ_ _ _ _=>(sH (i:=0) (show List.Nodup (["k","works","station"]:List Str)from by decide +kernel) rfl (by nofun))) (λ_ _ _ _=>(uj (sJ tN (@sE _ _ _ _ _ _ _ (sA (K:=K) rfl) (@sE _ _ _ _ _ _ _ (sO (K:=K) rfl) (@sE _ _ _ _ _ _ _ (sA (K:=K) rfl) (pv 1) sg (λ_ _=>rfl)) (pv 0) (λ_ _=>rfl)) sg (λ_ _=>rfl)) (pv 2) (sP _)))) (λ_ _ _ _=>(pv 0)))))))
   (@sq _ _ _ _ _ (ue (i:=6) nd rfl (Or.inl rfl) rfl (own:=["station"]) (fr:=[]) (js:=[]) (by and_intros) (sY (K:=K) rfl (pv 3)) (λ_ _ _ _=>(sH (i:=0) (show List.Nodup (["station"]:List Str)from by decide +kernel) rfl (by nofun))) (λ_ _ _ _=>tq) (λ_ _ _ _=>(@tJ _ _ _ _ sh)))
   (@sq _ _ _ _ _ (ub PassesOwn.never rfl (s_ rfl T.n_range (@sf _ _ _ _ _ (sK tH (pv 1) sg) sh (by rfl))) (sH (i:=7) nd rfl (by nofun)) (@sy _ _ _ (ub PassesOwn.never rfl (sY (K:=K) rfl (pv 3)) (sH (i:=8) nd rfl (by nofun)) (@sy _ _ _ (ub PassesOwn.never rfl (Bd rfl T.n_range (@sf _ _ _ _ _ (AH xE sg) (@sf _ _ _ _ _ (sR (sM (K:=K) rfl) (by rfl) T.n_len tX (@sf _ _ _ _ _ (@sE _ _ _ _ _ _ _ (sA (K:=K) rfl) (pv 0) sg (λ_ _=>rfl)) sh (by rfl))) sh (by rfl)) (by rfl))) (sH (i:=9) nd rfl (by nofun)) (@sq _ _ _ _ _ (sL (i:=10) nd rfl (by nofun) (yk hu (pv 2) (@tj _ _ _ _ _ (@sf _ _ _ _ _ (pv 8) (@sf _ _ _ _ _ (pv 9) sh (by rfl)) (by rfl))) (@tJ _ _ _ _ sh) ⟨rfl,rfl,rfl,rfl⟩))
   (@sy _ _ _ (zd PassesOwn.never ((xF (sJ (xP (K:=K) rfl hr.units) (pv 10) (@tJ _ _ _ _ sh) (sP _)) (wA (sJ tN (@sE _ _ _ _ _ _ _ (sA (K:=K) rfl) (@sE _ _ _ _ _ _ _ (sO (K:=K) rfl) (pv 10) sg (λ_ _=>rfl)) sg (λ_ _=>rfl)) (pv 7) (sP _))))).pt (@sq _ _ _ _ _ (sL (i:=11) nd rfl (by nofun) (@sE _ _ _ _ _ _ _ (sA (K:=K) rfl) (uH PySem.F.plainAttrs_list PySem.F.slot_list_pop PySem.F.type_list_pop vv (pv 10) (@sf _ _ _ _ _ sg sh (by rfl))) sg (λ_ _=>rfl)))
   (@sq _ _ _ _ _ (tM (uH PySem.F.plainAttrs_list PySem.F.slot_list_append PySem.F.type_list_append tL (@sE _ _ _ _ _ _ _ (sO (K:=K) rfl) (pv 6) (pv 8) (λ_ _=>rfl)) (@sf _ _ _ _ _ (@tj _ _ _ _ _ (@sf _ _ _ _ _ (pv 7) (@sf _ _ _ _ _ (pv 9) (@sf _ _ _ _ _ (pv 11) sh (by rfl)) (by rfl)) (by rfl))) sh (by rfl))))
   (@sq _ _ _ _ _ (sL (i:=12) nd rfl (by nofun) (sU ce (hr.mono (by decide)) (by rfl) (@sf _ _ _ _ _ (@sE _ _ _ _ _ _ _ (sO (K:=K) rfl) (@sE _ _ _ _ _ _ _ (sA (K:=K) rfl) (pv 0) sg (λ_ _=>rfl)) (pv 8) (λ_ _=>rfl)) (@sf _ _ _ _ _ (@sE _ _ _ _ _ _ _ (sO (K:=K) rfl) (pv 4) (pv 8) (λ_ _=>rfl)) (@sf _ _ _ _ _ (pv 9) (@sf _ _ _ _ _ (pv 11) (@sf _ _ _ _ _ (@sE _ _ _ _ _ _ _ (sO (K:=K) rfl) (pv 5) (pv 8) (λ_ _=>rfl)) sh (by rfl)) (by rfl)) (by rfl)) (by rfl)) (by rfl))))
   (@sy _ _ _ (tG (sJ u_ (pv 12) tY (sP _)) (@sq _ _ _ _ _ (sL (i:=13) nd rfl (by nofun) (@sE _ _ _ _ _ _ _ (sO (K:=K) rfl) (@sE _ _ _ _ _ _ _ (sA (K:=K) rfl) (pv 0) sg (λ_ _=>rfl)) (@sE _ _ _ _ _ _ _ (sA (K:=K) rfl) (pv 12) sg (λ_ _=>rfl)) (λ_ _=>rfl)))
   (@sy _ _ _ (tM (uH PySem.F.plainAttrs_list PySem.F.slot_list_append PySem.F.type_list_append tL (uz hu (pv 2) (@tj _ _ _ _ _ (@sf _ _ _ _ _ (@sE _ _ _ _ _ _ _ (sA (K:=K) rfl) (pv 13) sg (λ_ _=>rfl)) (@sf _ _ _ _ _ (@sE _ _ _ _ _ _ _ (sA (K:=K) rfl) (pv 12) sg (λ_ _=>rfl)) sh (by rfl)) (by rfl))) (λ_ _=>rfl)) (@sf _ _ _ _ _ (@tj _ _ _ _ _ (@sf _ _ _ _ _ (sK tH (pv 7) (@sE _ _ _ _ _ _ _ (sA (K:=K) rfl) (pv 13) sg (λ_ _=>rfl))) (@sf _ _ _ _ _ (@sE _ _ _ _ _ _ _ (sA (K:=K) rfl) (pv 12) sg (λ_ _=>rfl)) sh (by rfl)) (by rfl))) sh (by rfl)))))) sS)))))))))))))
   (@sy _ _ _ (@sN _ _ _ _ (pv 6))))))))),?_⟩
  refine⟨_,rfl,w,W,M,rfl,wH,ok,hc,λrd da ra dv H1 s1 hc1 la lv lra pr1=>?_⟩
  refine⟨_,rfl,⟨_,_,_,_,rfl,rfl,SqT.of (s1 _ _ h1),su (j:=0) rfl,sa,_,rfl,.inl (SqL.of (s1 _ _ h2.hs)),_,rfl,λrg nrg=>⟨rg,xs.length,rfl,ss,by omega,λmn nmn=>?_⟩⟩⟩
  rw[ls]at nmn ⊢
  have t2:Same H1 (upd (upd H1 rg (.rng 0 ((W.st.length:Nat):Int))) mn (.lst ((List.range W.st.length).map λ(i:Nat)=>V.int (i:Int)))):=(Same.new nrg).trans (Same.new nmn)
  have hc2:=(hc1.same (Same.new (o:=.rng 0 ((W.st.length:Nat):Int)) nrg)).new nmn (.lst ((List.range W.st.length).map λ(i:Nat)=>V.int (i:Int)))
  generalize (upd (upd H1 rg (.rng 0 ((W.st.length:Nat):Int))) mn (.lst ((List.range W.st.length).map λ(i:Nat)=>V.int (i:Int))))=H2 at t2 hc2 ⊢
  have gm:=hc2.get 0 0 rfl rfl
  have S2:=s1.trans t2
  refine⟨_,rfl,mn,rfl,⟨_,SqL.of gm⟩,λD nD=>?_⟩
  refine s0 (a:=mn) (xs:=(List.range W.st.length).map λ(i:Nat)=>V.int (i:Int)) (λi H5=>∃srs:List SR,Same H2 H5/\Hc H5 ([(D,.lst (srs.map λr:SR=>V.ref r.d))]::kpS srs::[(mn,.lst ((List.range W.st.length).map λ(i:Nat)=>V.int (i:Int)))]::[(rd,.dT (kvs da ra W))]::liC da dv::liC ra (ra.map λ_=>[])::M)/\srs.length=i/\∀j r,srs[j]?=some r->Made W j r) ⟨[],Same.new nD,(hc2.new nD (.lst [])).pad.swap,rfl,λj r h=>by cases h⟩ (λi H5 _ ⟨_,s5,_⟩=>SqL.of (s5 _ _ gm)) ?_ ?_
  ·rintro i x H5 m' Wf hx ⟨srs,s5,hc5,l5,mk5⟩ nx
   rw[zF]at hx
   obtain⟨i',hi',rfl⟩:=yM.mp hx
   have hi:=(zD.mp hi').1
   rw[yC]at hi
   rw[yR hi]at hi'
   cases hi'
   refine⟨_,rfl,_,rfl,w,W,i,_,rfl,wH.same (S2.trans s5),ok,hi,hc5,λr H6 s6 hc6 mk=>?_⟩
   have g6:=hc6.get 1 0 rfl rfl
   refine⟨_,g6,sG (by rw[zC];omega),nx _ ⟨srs++[r],(s5.trans s6).upd nD,?_,by rw[zM,l5];rfl,wj mk5 (by rw[l5];exact mk)⟩⟩
   have:=hc6.put 1 0 rfl rfl (.lst ((srs.map λr:SR=>V.ref r.d)++[.ref r.d]))
   rw[zK,B7]
   exact(Hc.join (this.pick 2 rfl)).swap
  ·rintro H5 ⟨srs,s5,hc5,l5,mk5⟩
   rw[zC,yC]at l5
   have S5:=S2.trans s5
   have gm5:=s5 _ _ gm
   refine⟨_,rfl,mn,rfl,⟨_,SqL.of gm5⟩,λD2 nD2=>?_⟩
   refine s0 (a:=mn) (xs:=(List.range W.st.length).map λ(i:Nat)=>V.int (i:Int)) (λi H6=>∃oa:List Addr,Same H5 H6/\Hc H6 ([(D2,.lst (oa.map V.ref))]::liC oa ((List.range i).map λs:Nat=>(W.lv (s:Int)).map V.int)::[(D,.lst (srs.map λr:SR=>V.ref r.d))]::kpS srs::[(mn,.lst ((List.range W.st.length).map λ(i:Nat)=>V.int (i:Int)))]::[(rd,.dT (kvs da ra W))]::liC da dv::liC ra (ra.map λ_=>[])::M)/\oa.length=i) ⟨[],Same.new nD2,(hc5.new nD2 (.lst [])).pad.swap,rfl⟩ (λi H6 _ ⟨_,s6,_⟩=>SqL.of (s6 _ _ gm5)) ?_ ?_
   ·rintro i x H6 m' Wf hx ⟨oa,s6,hc6,l6⟩ nx
    rw[zF]at hx
    obtain⟨i',hi',rfl⟩:=yM.mp hx
    have hi:=(zD.mp hi').1
    rw[yC]at hi
    rw[yR hi]at hi'
    cases hi'
    have S6:=S5.trans s6
    refine⟨_,rfl,⟨_,_,_,_,rfl,rfl,SqT.of (S6 _ _ h1),su (j:=1) rfl,ba,_,rfl,.inl (SqL.of (S6 _ _ h2.hb)),_,rfl,by rw[p62];omega,by rw[p62];omega,λD3 nD3=>?_⟩⟩
    refine t9 (lo:=0) (n:=((ys.length:Nat):Int).toNat) (λk H8=>Same H6 H8/\H8 D3=some (.lst ((idx (λ(t:Tri)=>t.1==(i:Int)) 0 (W.be.take k)).map V.int))) ⟨Same.new nD3,ss⟩ ?_ ?_
    ·rintro k H8 m2 Wf2 hk ⟨s8',h8⟩ nx2
     have ez:(0:Int)+(k:Int)=(k:Int):=qC _
     rw[ez]
     have hkl:k<W.be.length:=by omega
     obtain⟨bt,hbt⟩:∃bt,W.be[k]?=some bt:=⟨W.be[k],zB hkl⟩
     obtain⟨yb,hyb,a0,rfl,ha0⟩:=v_ h2.pb hbt
     have S8:=S6.trans s8'
     refine⟨_,rfl,⟨_,_,_,_,rfl,rfl,SqT.of (S8 _ _ h1),(su (j:=1) rfl),_,rfl,⟨_,_,_,_,rfl,rfl,SqL.of (S8 _ _ h2.hb),(su hyb),⟨_,_,_,_,rfl,rfl,SqT.of (S8 _ _ ha0),(su (j:=0) rfl),_,rfl,rfl,_,rfl,?_⟩⟩⟩⟩
     have et:decide (V.int bt.1=V.int (i:Int))=(bt.1==(i:Int)):=tS
     have eid:=vU (λ(t:Tri)=>t.1==(i:Int)) hbt
     refine iteB (λhb=>?_) (λhb=>?_)
     ·rw[et]at hb
      refine⟨_,rfl,_,h8,sG (by rw[zC];have:=uB (λ(t:Tri)=>t.1==(i:Int)) (W.be.take k) 0;rw[zY]at this;omega),nx2 _ ⟨s8'.upd nD3,?_⟩⟩
      rw[ss,eid,hb,if_pos rfl,zK]
      rfl
     ·rw[et]at hb
      refine nx2 _ ⟨s8',?_⟩
      rw[eid,hb,if_neg zQ,zP]
      exact h8
    ·rintro H8 ⟨s8',h8⟩
     have e8:((ys.length:Nat):Int).toNat=W.be.length:=by omega
     rw[e8,yB]at h8
     replace h8:H8 D3=some (.lst ((W.lv (i:Int)).map V.int)):=h8
     have hc8:=hc6.newS nD3 h8 s8'
     have g8:=hc8.get 1 0 rfl rfl
     refine⟨_,g8,sG (by rw[zC];omega),nx _ ⟨oa++[D3],(s6.trans s8').upd nD2,?_,by rw[zM,l6];rfl⟩⟩
     have:=hc8.put 1 0 rfl rfl (.lst (oa.map V.ref++[.ref D3]))
     rw[zK,yU,zK]
     have e:=uo (ls:=oa) (vs:=(List.range i).map λs:Nat=>(W.lv (s:Int)).map V.int) (by rw[zC,yC];exact l6) D3 ((W.lv (i:Int)).map V.int)
     show Hc _ (_::liC (oa++[D3]) (((List.range i).map λs:Nat=>(W.lv (s:Int)).map V.int)++[(W.lv (i:Int)).map V.int])::_)
     rw[e]
     exact(Hc.join (this.pick 2 rfl)).swap
   ·rintro H6 ⟨oa,s6,hc6,l6⟩
    rw[zC,yC]at l6 hc6
    have S6:=S5.trans s6
    have gm6:=s6 _ _ gm5
    refine⟨_,rfl,mn,rfl,⟨_,SqL.of gm6⟩,λD4 nD4=>?_⟩
    refine s0 (a:=mn) (xs:=(List.range W.st.length).map λ(i:Nat)=>V.int (i:Int)) (λi H9=>∃ga:List Addr,Same H6 H9/\Hc H9 ([(D4,.lst (ga.map V.ref))]::liC ga (ga.map λ_=>[])::[(D2,.lst (oa.map V.ref))]::liC oa (ouV W)::[(D,.lst (srs.map λr:SR=>V.ref r.d))]::kpS srs::[(mn,.lst ((List.range W.st.length).map λ(i:Nat)=>V.int (i:Int)))]::[(rd,.dT (kvs da ra W))]::liC da dv::liC ra (ra.map λ_=>[])::M)/\ga.length=i)
     ⟨[],Same.new nD4,(hc6.new nD4 (.lst [])).pad.swap,rfl⟩ (λi H9 _ ⟨_,s9,_⟩=>SqL.of (s9 _ _ gm6)) ?_ ?_
    ·rintro i x H9 m Wf hx ⟨ga,s9,hc9,l9⟩ nx
     have hi:=(zD.mp hx).1
     rw[zC,yC]at hi
     refine⟨zV _,λpn npn=>?_⟩
     have hc10:=hc9.new npn (.lst [])
     have g10:=hc10.get 1 0 rfl rfl
     refine⟨_,g10,sG (by rw[zC];omega),nx _ ⟨ga++[pn],(s9.trans (Same.new npn)).upd nD4,?_,by rw[zM,l9];rfl⟩⟩
     have:=hc10.put 1 0 rfl rfl (.lst (ga.map V.ref++[.ref pn]))
     rw[zK,zK]
     have e:=uo (ls:=ga) (vs:=ga.map λ_=>[]) (by rw[zC]) pn []
     show Hc _ (_::liC (ga++[pn]) ((ga.map λ_=>[])++[[]])::_)
     rw[e]
     exact(Hc.join (this.pick 2 rfl)).swap
    ·rintro H9 ⟨ga,s9,hc9,l9⟩
     rw[zC,yC]at l9
     have S9:=S6.trans s9
     have e1:W.dels.length=W.be.length:=zC _
     let o0:OR:=⟨0,0,D,0,D2,rd,0,D4,srs,W.dels,da,ra,ga,dv,ra.map λ_=>[],ga.map λ_=>[],[]⟩
     have pu0:srs.map SR.pu=W.oa.srs:=by
      refine jE λi=>?_
      show(srs.map SR.pu)[i]?=((List.range W.st.length).map W.sp)[i]?
      rw[zF,zF]
      cases e:srs[i]? with
      | none =>
       have hl:=jP.mp e
       rw[yH (by rw[yC,←l5];exact hl)]
       rfl
      | some r =>
       have hl:=(zD.mp e).1
       rw[yR (by rw[←l5];exact hl)]
       show some r.pu=some (W.sp i)
       rw[(mk5 i r e).pu]
     have R0:RS W oa ([(mn,.lst ((List.range W.st.length).map λ(i:Nat)=>V.int (i:Int)))]::M) rd D D2 D4 H9 o0 W.oa 0 0:=by
      refine⟨wF hc9 λc=>?_,⟨la,lv,lra,by show(ra.map _).length=_;rw[zC];exact lra,l9,by show(ga.map _).length=_;rw[zC];exact l9,pr1.mono λ_ _ h=>IsP2.same ((t2.trans s5).trans (s6.trans s9)) h,uP .nil lra,uP .nil l9,pu0,λr hr0=>?_,xV W⟩,FN ok,z0 (Aa W) ok.f60,?_,λs hs n=>ER W hs n,rfl,rfl,rfl,rfl⟩
      ·have er:runC W o0 oa=[[(rd,.dT (kvs da ra W)),(D,.lst (srs.map λr:SR=>V.ref r.d)),(D2,.lst (oa.map V.ref)),(D4,.lst (ga.map V.ref))],liC da dv,liC ra (ra.map λ_=>[]),liC ga (ga.map λ_=>[]),liC oa (ouV W),kpS srs]:=rfl
       rw[er]
       simp only [yD,kH,qR,jF,zP,kL,List.count_cons,jH,jK]
       omega
      ·obtain⟨j,hj⟩:=yL hr0
       exact⟨(mk5 j r hj).ok,by rw[(mk5 j r hj).seen];exact qO _⟩
      ·have h1:=BW W.oa ((0:Nat):Int)
       have h2:W.oa.tot<=60:=z0 (Aa W) ok.f60
       omega
     have Z0:=yd ok
     have wkN:∀H',Hc H' ([(mn,.lst ((List.range W.st.length).map λ(i:Nat)=>V.int (i:Int)))]::M)->H' mn=some (.lst ((List.range W.st.length).map λ(i:Nat)=>V.int (i:Int)))/\WkAt H' w W:=λH' k=>⟨k.get 0 0 rfl rfl,wk H' k.tl⟩
     have lt0:∀s:Nat,∀e∈W.oa.ge.getD s [],e.1<((0:Nat):Int):=λs e he=>by rw[show W.oa.ge.getD s []=[]from tK W.st s]at he;exact absurd he zI
     clear hc9 hc6 hc5 hc2 hc1
     generalize o0=oB at R0
     generalize W.oa=B at R0 Z0 lt0
     have tkB:Tk H H9:=Tk.of S9
     generalize eN:([(mn,HO.lst ((List.range W.st.length).map λ(i:Nat)=>V.int (i:Int)))]::M)=N at R0 wkN
     refine⟨_,rfl,_,_,rfl,rfl,_,rfl,by rw[p62];omega,by rw[p62];omega,t4 (n:=((u:Int)+1).toNat) (λt σ H10=>∃(v7 v8 v9 v10 v11 v12 v13:Option V)(o:OR)(A:OA)(m:Nat),σ=[some (.ref w),some (.int (u:Int)),some (.ref rd),some (.ref mn),some (.ref D),some (.ref D2),some (.ref D4),v7,v8,v9,v10,v11,v12,v13]/\RS W oa N rd D D2 D4 H10 o A m t/\At W A (t:Int) 0 (-1)/\(∀s:Nat,∀e∈A.ge.getD s [],e.1<(t:Int))/\Tk H H10) ⟨_,_,_,_,_,_,_,oB,B,0,rfl,R0,Z0,lt0,tkB⟩ ?_ ?_⟩
     ·clear R0 Z0 lt0 tkB
      rintro t σ H10 ht ⟨v7,v8,v9,v10,v11,v12,v13,o,A,m,rfl,R,Z,lt,tk⟩
      have ez:(0:Int)+(t:Int)=(t:Int):=qC _
      rw[ez]
      refine⟨_,rfl,mn,rfl,⟨_,SqL.of (wkN _ R.hc.drop).1⟩,vS (K:=K) (a:=mn) (xs:=(List.range W.st.length).map λ(i:Nat)=>V.int (i:Int)) (λi σ H11=>∃(v8 v9 v10 v11 v12 v13:Option V)(o:OR)(A:OA)(m:Nat),σ=[some (.ref w),some (.int (u:Int)),some (.ref rd),some (.ref mn),some (.ref D),some (.ref D2),some (.ref D4),some (.int (t:Int)),v8,v9,v10,v11,v12,v13]/\RS W oa N rd D D2 D4 H11 o A m t/\At W A (t:Int) i (-1)/\Tk H H11) ⟨_,_,_,_,_,_,o,A,m,rfl,R,Z,tk⟩ (λi σ H11 _ ⟨_,_,_,_,_,_,_,_,_,_,R,_⟩=>SqL.of (wkN _ R.hc.drop).1) ?_ ?_⟩
      ·clear R Z lt tk
       rintro i x σ H11 hx ⟨v8,v9,v10,v11,v12,v13,o,A,m,rfl,R,Z,tk⟩
       rw[zF]at hx
       obtain⟨i',hi',rfl⟩:=yM.mp hx
       have hi:=(zD.mp hi').1
       rw[yC]at hi
       rw[yR hi]at hi'
       cases hi'
       obtain⟨sa',ba',fa',xs',ys',zs',k1,k2⟩:=(wkN _ R.hc.drop).2.ex
       have lb':=k2.pb.length
       refine⟨_,rfl,_,rfl,⟨_,_,_,_,rfl,rfl,SqT.of k1,su (j:=1) rfl,ba',_,rfl,.inl (SqL.of k2.hb),_,_,rfl,by rw[p62];omega,t4 (lo:=-1) (n:=((ys'.length:Int)-(-1)).toNat) (λk σ H12=>∃(v9 v10 v11 v12 v13:Option V)(o:OR)(A:OA)(m:Nat),σ=[some (.ref w),some (.int (u:Int)),some (.ref rd),some (.ref mn),some (.ref D),some (.ref D2),some (.ref D4),some (.int (t:Int)),some (.int (i:Int)),v9,v10,v11,v12,v13]/\RS W oa N rd D D2 D4 H12 o A m t/\At W A (t:Int) i (-1+(k:Int))/\Tk H H12) ⟨_,_,_,_,_,o,A,m,rfl,R,by simpa using Z,tk⟩ ?_ ?_⟩⟩
       ·clear R Z tk k1 k2
        rintro k σ H12 hk ⟨v9,v10,v11,v12,v13,o,A,m,rfl,R,Z,tk⟩
        generalize ewv:(-1:Int)+(k:Int)=wv at Z ⊢
        have ewv1:(-1:Int)+((k+1:Nat):Int)=wv+1:=by omega
        rw[ewv1]
        refine⟨_,rfl,rd,rfl,.inr ⟨_,.inl (by rw[←R.e1];exact R.hc.get 0 0 rfl rfl)⟩,_,rfl,_,rfl,(by show 2<=sizeLine;decide),λb nb=>?_⟩
        have s13:Same H12 (upd H12 b (.tup [.int (i:Int),.int wv])):=Same.new nb
        have gb:(upd H12 b (.tup [.int (i:Int),.int wv])) b=some (.tup [.int (i:Int),.int wv]):=ss
        generalize (upd H12 b (.tup [.int (i:Int),.int wv]))=H13 at s13 gb ⊢
        refine⟨zV _,λl nl=>?_⟩
        have s14:Same H13 (upd H13 l (.lst [])):=Same.new nl
        have gl:(upd H13 l (.lst [])) l=some (.lst []):=ss
        generalize (upd H13 l (.lst []))=H14 at s14 gl ⊢
        have R14:=R.same (s13.trans s14)
        have tk14:=tk.trans (Tk.of (s13.trans s14))
        have key:∃(ra:Addr)(od:Option V),DGet H14 rd (.ref b) od/\od.getD (.ref l)=.ref ra/\((wv∈W.wy (i:Int)/\o.atA i wv=some ra)\/(wv∉W.wy (i:Int)/\H14 ra=some (.lst []))):=by
         have dg:=DGet.t (k:=keyK (i:Int) wv) (R14.hc.get 0 0 rfl rfl) (s14 _ _ gb)
         rw[R14.e1]at dg
         by_cases hw:wv∈W.wy (i:Int)
         ·obtain⟨us,a,g1,g2,g3,g4,g5⟩:=AR R14.hc R14.f hi hw
          rw[g5]at dg
          exact⟨a,_,dg,rfl,.inl ⟨hw,g2⟩⟩
         ·by_cases wd:wv=-1
          ·subst wd
           have l1:=R14.f.ld
           have l2:=R14.f.ldv
           have h:o.dv[i]?=some (o.dv[i]'(by omega)):=zB _
           have ha:o.da[i]?=some (o.da[i]'(by omega)):=zB _
           obtain⟨ts,g1,g2⟩:=R14.f.d.gt h
           have e0:=R14.dn i hi hw
           rw[zA,g1]at e0
           have e0:ts=[]:=e0
           rw[e0]at g2
           have e2:o.dv[i]'(by omega)=[]:=List.length_eq_zero_iff.mp g2.length
           rw[ix hi ha]at dg
           refine⟨_,_,dg,rfl,.inr ⟨hw,?_⟩⟩
           rw[←e2]
           exact R14.hc.get 1 i rfl (sX ha h)
          ·rw[F9 wd (λb' bt hb' e z=>hw (by
            unfold Wk.wy
            refine zO _ ?_
            rw[z]
            have:=wD (λ(t:Tri)=>t.2.1==(i:Int)) W.be 0 hb' (by simpa using e)
            simpa using this))]at dg
           exact⟨l,_,dg,rfl,.inr ⟨hw,gl⟩⟩
        obtain⟨ra,od,dg,eod,cond⟩:=key
        refine⟨od,dg,?_⟩
        rw[eod]
        refine⟨λn σ H'=>∃(v11 v12 v13:Option V)(o:OR)(A:OA)(m:Nat),n=A.atT (t:Int)/\σ=[some (.ref w),some (.int (u:Int)),some (.ref rd),some (.ref mn),some (.ref D),some (.ref D2),some (.ref D4),some (.int (t:Int)),some (.int (i:Int)),some (.int wv),some (.ref ra),v11,v12,v13]/\RS W oa N rd D D2 D4 H' o A m t/\At W A (t:Int) i wv/\Tk H H'/\((wv∈W.wy (i:Int)/\o.atA i wv=some ra)\/(wv∉W.wy (i:Int)/\H' ra=some (.lst []))),⟨_,_,_,_,o,A,m,rfl,rfl,R14,Z,tk14,cond⟩,?_⟩
        clear R14 R Z tk tk14 cond dg eod
        rintro n σ H15 ⟨v11,v12,v13,o,A,m,rfl,rfl,R,Z,tk,cond⟩
        obtain⟨us,ts,hl,pe,ets,inw⟩:∃us ts,H15 ra=some (.lst us)/\Paired (IsP2 H15) us ts/\(wv∈W.wy (i:Int)->ts=evAt A.de A.re i wv)/\(ts≠[]->wv∈W.wy (i:Int)/\o.at i wv=some us/\o.atA i wv=some ra):=by
         rcases cond with ⟨hw,ha⟩|⟨hw,hl⟩
         ·obtain⟨us,a,g1,g2,g3,g4,_⟩:=AR R.hc R.f hi hw
          rw[ha]at g2
          cases g2
          exact⟨us,_,g3,g4,λ_=>rfl,λ_=>⟨hw,g1,ha⟩⟩
         ·exact⟨[],[],hl,.nil,λz=>absurd z hw,λz=>absurd rfl z⟩
        have out_:∀H16,Same H15 H16->(wv∈W.wy (i:Int)->∀e r,evAt A.de A.re i wv=e::r->e.1≠(t:Int))->∃(v9 v10 v11' v12' v13':Option V)(o':OR)(A':OA)(m':Nat),[some (V.ref w),some (.int (u:Int)),some (.ref rd),some (.ref mn),some (.ref D),some (.ref D2),some (.ref D4),some (.int (t:Int)),some (.int (i:Int)),some (.int wv),some (.ref ra),v11,v12,v13]=[some (V.ref w),some (.int (u:Int)),some (.ref rd),some (.ref mn),some (.ref D),some (.ref D2),some (.ref D4),some (.int (t:Int)),some (.int (i:Int)),v9,v10,v11',v12',v13']/\RS W oa N rd D D2 D4 H16 o' A' m' t/\At W A' (t:Int) i (wv+1)/\Tk H H16:=λH16 s16 h=>⟨_,_,_,_,_,o,A,m,rfl,R.same s16,Z.way R.p (λ_=>h),tk.trans (Tk.of s16)⟩
        refine⟨_,rfl,zV _,λl2 nl2=>?_⟩
        have s16:Same H15 (upd H15 l2 (.lst [])):=Same.new nl2
        have gl2:(upd H15 l2 (.lst [])) l2=some (.lst []):=ss
        generalize (upd H15 l2 (.lst []))=H16 at s16 gl2 ⊢
        refine⟨.list ((ts.map λt=>(t.1,t.2.2)).map prD),.list [],2,FZ (s16 _ _ hl) (sw (λ_ _ h=>IsP2.same s16 h) pe),vt gl2,by decide,_,rfl,?_⟩
        rw[Du]
        cases ts with
        | nil=>exact iteF (iteF (out_ H16 s16 λhw e r he=>by rw[←ets hw]at he;cases he))
        | cons t0 ts =>
         obtain⟨hw,g1,g2⟩:=inw (λz=>nomatch z)
         obtain⟨p0,us',rfl,hp0⟩:∃p0 us',us=V.ref p0::us'/\H15 p0=some (.tup [.int t0.1,.int t0.2.2]):=by
          cases pe with
          | cons hx0 hr0 =>
           obtain⟨p,rfl,hp⟩:=hx0
           exact⟨p,_,rfl,hp⟩
         refine iteT ⟨_,rfl,⟨_,_,_,_,rfl,rfl,SqL.of (s16 _ _ hl),su (j:=0) rfl,⟨_,_,_,_,rfl,rfl,SqT.of (s16 _ _ hp0),su (j:=0) rfl,_,rfl,rfl,_,rfl,?_⟩⟩⟩
         have et:decide (V.int t0.1=V.int (t:Int))=(t0.1==(t:Int)):=tS
         refine iteB (λhb=>?_) (λhb=>?_)
         ·rw[et]at hb
          have eT:t0.1=(t:Int):=by simpa using hb
          have er:evAt A.de A.re i wv=t0::ts:=(ets hw).symm
          have eW:t0.2.1=wv:=B9 R.f.ao (Wk.wy_ok hw) (by rw[er];exact zJ)
          refine⟨fun σ' H'=>∃(v11 v12 v13:Option V)(o:OR)(A':OA)(m:Nat),A'.atT (t:Int)<A.atT (t:Int)/\σ'=[some (.ref w),some (.int (u:Int)),some (.ref rd),some (.ref mn),some (.ref D),some (.ref D2),some (.ref D4),some (.int (t:Int)),some (.int (i:Int)),some (.int wv),some (.ref ra),v11,v12,v13]/\RS W oa N rd D D2 D4 H' o A' m t/\At W A' (t:Int) i wv/\Tk H H'/\((wv∈W.wy (i:Int)/\o.atA i wv=some ra)\/(wv∉W.wy (i:Int)/\H' ra=some (.lst []))),fun σ' H' ⟨v11,v12,v13,o',A',m',lt,rest⟩=>⟨A'.atT (t:Int),lt,v11,v12,v13,o',A',m',rfl,rest⟩,?_⟩
          have R16:=R.same s16
          have mb:=R.mb
          have t60:t<=60:=by omega
          have m9:m<=90000:=by omega
          have hl16:=s16 _ _ hl
          refine⟨_,rfl,tyL hl16,ra,_,0,0,.ref p0,rfl,rfl,hl16,by decide,by decide,seqIndex_of (k:=0) (by decide) (by rw[zX];omega),rfl,?_⟩
          obtain⟨o1,hc17,f17,tk17,q1,q2,q3,q4,q5,q6,q7⟩:=DF R16.hc R16.f g1 g2
          have hp17:=tk17.tup (s16 _ _ hp0)
          generalize (upd H16 ra (.lst ((V.ref p0::us').eraseIdx 0)))=H17 at hc17 f17 tk17 hp17 ⊢
          refine⟨_,_,_,_,rfl,rfl,SqT.of hp17,su (j:=1) rfl,?_⟩
          have lgv:=f17.lgv
          have lga:=f17.lg
          obtain⟨gs,hgs⟩:∃gs,o1.gv[i]?=some gs:=⟨o1.gv[i]'(by omega),zB _⟩
          obtain⟨ga_,hga⟩:∃a,o1.ga[i]?=some a:=⟨o1.ga[i]'(by omega),zB _⟩
          have hgl:=hc17.get 3 i rfl (sX hga hgs)
          obtain⟨tg,htg,ptg⟩:=f17.g.gt hgs
          have lgs:gs.length<=90000:=by rw[ptg.length];exact z0 (f17.ao.lg _ (zE htg)) m9
          have gD4:=hc17.get 0 3 rfl rfl
          rw[q4,R.e4]at gD4
          refine⟨_,rfl,_,rfl,⟨_,_,_,_,rfl,rfl,SqL.of gD4,su (uE hga),tyL hgl,_,rfl,_,rfl,_,rfl,(by show 3<=sizeLine;decide),λpn nn=>?_⟩⟩
          have etr:[V.int (t:Int),V.int wv,V.int t0.2.2]=triV t0:=by rw[←eT,←eW];rfl
          change rAppend _ _ (upd H17 pn (.tup [V.int (t:Int),V.int wv,V.int t0.2.2])) _
          rw[etr]
          have s18:=Same.new (o:=.tup (triV t0)) nn
          have g18:=ss (H:=H17) (a:=pn) (o:=.tup (triV t0))
          generalize upd H17 pn (.tup (triV t0))=H18 at s18 g18 ⊢
          refine⟨ga_,gs,_,rfl,rfl,s18 _ _ hgl,vn (by omega),?_⟩
          obtain⟨o2,hc19,f19,tk19,p1,p2,p3,p4,p5,p6,p7⟩:=Eh (hc17.same s18) (f17.via (Tk.of s18)) hgs hga (v:=.ref pn) (t:=t0) ⟨pn,rfl,g18⟩
          generalize upd H18 ga_ (.lst (gs++[.ref pn]))=H19 at hc19 f19 tk19 ⊢
          have T19:=(tk.trans (Tk.of s16)).trans (tk17.trans ((Tk.of s18).trans tk19))
          have es2:o2.srs=o.srs:=p5.trans q5
          obtain⟨_,wk19⟩:=wkN _ hc19.drop
          obtain⟨sa3,ba3,fa3,xs3,ys3,zs3,m1,m2⟩:=wk19.ex
          obtain⟨st,hst⟩:∃st,W.st[i]?=some st:=⟨W.st[i],zB hi⟩
          obtain⟨xb,hxb,sp3,rfl,hsp⟩:=v_ m2.ps hst
          have lsr:o.srs.length=W.st.length:=by rw[←R.p.st,←R.f.s,zC]
          obtain⟨r,hr0⟩:∃r,o.srs[i]?=some r:=⟨o.srs[i]'(by omega),zB _⟩
          have hsr:A.srs[i]?=some r.pu:=by rw[←R.f.s,zF,hr0];rfl
          obtain⟨ews,ebs⟩:=R.p.sp i r.pu hsr
          have ews:r.ws=W.wy (i:Int):=ews
          have ebs:r.bs=W.lv (i:Int):=ebs
          have ekd:kdOf st=r.k:=by
           have e:=congrArg SP.k (R.p.af i hi)
           rw[EF,zA,hsr]at e
           have e2:(W.sp i).k=kdOf st:=by show kdOf (W.st.getD i ("",none))=_;rw[zA,hst];rfl
           rw[←e2]
           exact e.symm
          have hs2:o2.srs[i]?=some r:=by rw[es2];exact hr0
          obtain⟨X,Y,eXY,lX⟩:=ya hs2
          have hcT:Hc H19 (kpC r::(kpS X++kpS Y)::rnH W o2 oa::liC o2.da o2.dv::liC o2.ra o2.rv::liC o2.ga o2.gv::liC oa (ouV W)::N):=D9 (by rw[←eXY];exact hc19.pick 5 rfl)
          have gD:=hc19.get 0 1 rfl rfl
          rw[p2,q2,R.e2]at gD
          have gD2:=hc19.get 0 2 rfl rfl
          rw[p3,q3,R.e3]at gD2
          obtain⟨bl,hbl⟩:∃bl,oa[i]?=some bl:=⟨oa[i]'(by omega),zB _⟩
          have hov:(ouV W)[i]?=some ((W.lv (i:Int)).map V.int):=by unfold ouV;rw[zF,yR hi];rfl
          have hjm:r.ws[r.ws.idxOf wv]?=some wv:=by
           have hlt:r.ws.idxOf wv<r.ws.length:=kT.mpr (by rw[ews];exact hw)
           rw[zB hlt,List.getElem_idxOf]
          have soR:=R.f.so r (zE hr0)
          refine⟨_,rfl,⟨_,_,_,_,rfl,rfl,SqT.of m1,su (j:=0) rfl,_,rfl,⟨_,_,_,_,rfl,rfl,SqL.of m2.hs,su hxb,_,rfl,_,rfl,⟨_,_,_,_,rfl,rfl,SqL.of gD,su (show(o2.srs.map λr:SR=>V.ref r.d)[i]?=some (.ref r.d) by rw[zF,hs2];rfl),_,rfl,_,rfl,_,rfl,_,rfl,⟨_,_,_,_,rfl,rfl,SqL.of gD2,su (uE hbl),?_⟩⟩⟩⟩⟩
          refine⟨sp3,bl,st,r,r.ws.idxOf wv,m,wv,t0.2.2,_,rfl,hsp,ok.sta st (zE hst),ekd,λH' k=>by rw[ebs];exact k.get 5 i rfl (sX hbl hov),hcT,soR.1,m9,hjm,by rw[ews];exact W.wy_pw i,by rw[ews];exact Wk.wy_len ok i,soR.2,λv ft H20 hput hc20 tk20=>?_⟩
          have ndx:=r.nxt_d (r.ws.idxOf wv) t0.2.2
          obtain⟨hc21,f21⟩:=DS (oa:=oa) f19 hs2 eXY lX ndx.1 ⟨soR.1.nxt _ _,ndx.2 soR.2⟩ hc20 tk20
          rw[r.nxt_pu]at f21
          have ew:A.take i r.pu t0=OA.put (((A.pop i wv).log i t0).sta i (r.pu.nxt (r.ws.idxOf wv) t0.2.2)) t0 (r.pu.out (r.ws.idxOf wv) t0.2.2):=by unfold OA.take;rw[eW];rfl
          rw[r.out_pu]at hput
          have bok:∀b∈r.pu.bs,0<=b:=λb hb'=>by
           have hb':b∈r.bs:=hb'
           rw[ebs]at hb'
           exact(Wk.lv_in hb').1
          have aoT:=R.f.ao.take i r.pu t0 bok
          have eda:({ o2 with srs:=o2.srs.set i (r.nxt (r.ws.idxOf wv) t0.2.2) }:OR).atA i wv=some ra:=by
           have:({ o2 with srs:=o2.srs.set i (r.nxt (r.ws.idxOf wv) t0.2.2) }:OR).atA i wv=o.atA i wv:=by
            unfold OR.atA
            dsimp only
            rw[p6,p7,q6,q7]
           rw[this]
           exact g2
          have T20:=T19.trans tk20
          have x1:o2.rl=rd:=p1.trans (q1.trans R.e1)
          have x2:o2.sl=D:=p2.trans (q2.trans R.e2)
          have x3:o2.ol=D2:=p3.trans (q3.trans R.e3)
          have x4:o2.gl=D4:=p4.trans (q4.trans R.e4)
          have Zt:At W A (t:Int) i t0.2.1:=by rw[eW];exact Z
          have ert:evAt A.de A.re i t0.2.1=t0::ts:=by rw[eW];exact er
          generalize ho:r.pu.out (r.ws.idxOf wv) t0.2.2=out at hput ew
          generalize hA3:((A.pop i wv).log i t0).sta i (r.pu.nxt (r.ws.idxOf wv) t0.2.2)=A3 at f21 ew
          have y1:({ o2 with srs:=o2.srs.set i (r.nxt (r.ws.idxOf wv) t0.2.2) }:OR).rl=rd:=x1
          have y2:({ o2 with srs:=o2.srs.set i (r.nxt (r.ws.idxOf wv) t0.2.2) }:OR).sl=D:=x2
          have y3:({ o2 with srs:=o2.srs.set i (r.nxt (r.ws.idxOf wv) t0.2.2) }:OR).ol=D2:=x3
          have y4:({ o2 with srs:=o2.srs.set i (r.nxt (r.ws.idxOf wv) t0.2.2) }:OR).gl=D4:=x4
          generalize ({ o2 with srs:=o2.srs.set i (r.nxt (r.ws.idxOf wv) t0.2.2) }:OR)=o3 at hc21 f21 eda y1 y2 y3 y4
          have hcM:Hc H20 (runC W o3 oa++N):=(hc21.pick 6 rfl).tl
          have edl3:A3.dl=W.dels:=by
           rw[←hA3,←R.p.dl]
           unfold OA.sta OA.log OA.pop
           split <;>rfl
          cases hput with
          | no =>
           refine⟨_,rfl,rfl,_,rfl,iteF ?_⟩
           have fE:RunF W (m+1) H20 o3 (A.take i r.pu t0):=by rw[ew];exact f21
           obtain⟨RE,ZE,ltE⟩:=R.take ok hi hsr (by rw[eW];exact hw) ert eT Zt hcM fE y1 y2 y3 y4
           exact⟨_,_,_,o3,_,m+1,ltE,rfl,RE,by rw[←eW];exact ZE,T20,.inl ⟨hw,eda⟩⟩
          | yes b y' pt =>
           have hpt:=hc21.get 6 0 rfl rfl
           have hb':=SP.out_in ho
           have hb':b∈r.bs:=hb'
           rw[ebs]at hb'
           obtain⟨bn,bt,hbt,ebt,rfl⟩:=Wk.lv_mem hb'
           have hbn:=(zD.mp hbt).1
           have l1:=f21.lrv
           have l2:=f21.lr
           obtain⟨us3,hus3⟩:∃us,o3.rv[bn]?=some us:=⟨o3.rv[bn]'(by omega),zB _⟩
           obtain⟨ra3,hra3⟩:∃a,o3.ra[bn]?=some a:=⟨o3.ra[bn]'(by omega),zB _⟩
           have hrl:=hcM.get 2 bn rfl (sX hra3 hus3)
           obtain⟨tr,htr,ptr⟩:=f21.r.gt hus3
           have lus:us3.length<=90001:=by rw[ptr.length];exact z0 (f21.ao.lr _ (zE htr)) (by omega)
           obtain⟨_,wk20⟩:=wkN _ hcM.drop
           obtain⟨sa4,ba4,fa4,xs4,ys4,zs4,n1,n2⟩:=wk20.ex
           obtain⟨yb,hyb,a0,rfl,ha0⟩:=v_ n2.pb hbt
           refine⟨_,rfl,rfl,_,rfl,iteT ⟨_,rfl,⟨_,_,_,_,rfl,rfl,SqT.of n1,su (j:=1) rfl,_,rfl,⟨_,_,_,_,rfl,rfl,SqT.of hpt,su (j:=0) rfl,⟨_,_,_,_,rfl,rfl,SqL.of n2.hb,su hyb,?_⟩⟩⟩⟩⟩
           refine⟨_,rfl,_,rfl,⟨_,_,_,_,rfl,rfl,SqT.of ha0,su (j:=1) rfl,_,rfl,⟨_,_,_,_,rfl,rfl,SqT.of hpt,su (j:=0) rfl,(by show 2<=sizeLine;decide),λbq nbq=>?_⟩⟩⟩
           have s22:Same H20 (upd H20 bq (.tup [.int bt.2.1,.int (bn:Int)])):=Same.new nbq
           have gbq:(upd H20 bq (.tup [.int bt.2.1,.int (bn:Int)])) bq=some (.tup [.int bt.2.1,.int (bn:Int)]):=ss
           change tDGet_ _ _ _ (upd H20 bq (.tup [.int bt.2.1,.int (bn:Int)]))
           generalize (upd H20 bq (.tup [.int bt.2.1,.int (bn:Int)]))=H22 at s22 gbq ⊢
           have dg:DGet H22 rd (.ref bq) (some (.ref ra3)):=by
            have:=DGet.t (k:=keyK bt.2.1 (bn:Int)) ((hcM.same s22).get 0 0 rfl rfl) gbq
            rw[zg hbt hra3,y1]at this
            exact this
           refine⟨rd,_,rfl,dg,tyL (s22 _ _ hrl),_,rfl,_,rfl,⟨_,_,_,_,rfl,rfl,SqT.of (s22 _ _ ha0),su (j:=2) rfl,_,_,rfl,rfl,_,rfl,⟨_,_,_,_,rfl,rfl,SqT.of (s22 _ _ hpt),su (j:=1) rfl,(by show 2<=sizeLine;decide),λpn2 nn2=>?_⟩⟩⟩
           have s23:Same H22 (upd H22 pn2 (.tup [.int ((t:Int)+bt.2.2),.int y'])):=Same.new nn2
           have g23:(upd H22 pn2 (.tup [.int ((t:Int)+bt.2.2),.int y'])) pn2=some (.tup [.int ((t:Int)+bt.2.2),.int y']):=ss
           change rAppend _ _ (upd H22 pn2 (.tup [.int ((t:Int)+bt.2.2),.int y'])) _
           generalize (upd H22 pn2 (.tup [.int ((t:Int)+bt.2.2),.int y']))=H23 at s23 g23 ⊢
           have s223:=s22.trans s23
           refine⟨ra3,us3,_,rfl,rfl,s223 _ _ hrl,vn (by omega),?_⟩
           have ep:OA.put A3 t0 (some ((bn:Int),y'))=A3.lay bn ((t:Int)+bt.2.2,(bn:Int),y'):=by
            show A3.lay (Int.toNat (bn:Int)) (t0.1+A3.dl.getD (Int.toNat (bn:Int)) 0,(bn:Int),y')=_
            rw[zU,edl3,Wk.dl_at hbt,eT]
           rw[ep]at ew
           rw[ew]at aoT
           obtain⟨o5,hc24,f24,tk24,z1,z2,z3,z4,z5,z6,z7⟩:=DH (hcM.same s223) (f21.via (Tk.of s223)) hus3 hra3 (v:=.ref pn2) (t:=((t:Int)+bt.2.2,(bn:Int),y')) ⟨pn2,rfl,g23⟩ aoT
           generalize upd H23 ra3 (.lst (us3++[.ref pn2]))=H24 at hc24 f24 tk24 ⊢
           have fE:RunF W (m+1) H24 o5 (A.take i r.pu t0):=by rw[ew];exact f24
           obtain⟨RE,ZE,ltE⟩:=R.take ok hi hsr (by rw[eW];exact hw) ert eT Zt hc24 fE (z1.trans y1) (z2.trans y2) (z3.trans y3) (z4.trans y4)
           have eda5:o5.atA i wv=some ra:=by
            rw[←eda]
            unfold OR.atA
            rw[z6,z7]
           exact⟨_,_,_,o5,_,m+1,ltE,rfl,RE,by rw[←eW];exact ZE,T20.trans ((Tk.of s223).trans tk24),.inl ⟨hw,eda5⟩⟩
         ·rw[et]at hb
          exact out_ H16 s16 λ_ e r he=>by
           rw[←ets hw]at he
           cases he
           simpa using hb
       ·rintro σ H12 ⟨v9,v10,v11,v12,v13,o,A,m,rfl,R,Z,tk⟩
        have en:(-1:Int)+((((ys'.length:Int)-(-1)).toNat:Nat):Int)=(W.be.length:Int):=by omega
        rw[en]at Z
        exact⟨_,_,_,_,_,_,o,A,m,rfl,R,Z.sta R.p,tk⟩
      ·rintro σ H11 ⟨v8,v9,v10,v11,v12,v13,o,A,m,rfl,R,Z,tk⟩
       rw[zC,yC]at Z
       refine⟨_,_,_,_,_,_,_,o,A,m,rfl,R.next,by have:=Z.time;simpa using this,λs e he=>?_,tk⟩
       rcases Z.bd s e he with z|⟨z,_⟩ <;>omega
     ·rintro σ H10 ⟨v7,v8,v9,v10,v11,v12,v13,o,A,m,rfl,R,Z,lt,tk⟩
      have en:((((u:Int)+1).toNat:Nat):Int)=(u:Int)+1:=by omega
      rw[en]at Z lt
      subst eN
      have k:Hc H10 ([[(o.rl,.dT (kvs o.da o.ra W)),(o.sl,.lst (o.srs.map λr:SR=>V.ref r.d)),(o.ol,.lst (oa.map V.ref))],liC o.da o.dv,liC o.ra o.rv,liC oa (ouV W),kpS o.srs,[(mn,HO.lst ((List.range W.st.length).map λ(i:Nat)=>V.int (i:Int)))]]++([(o.gl,.lst (o.ga.map V.ref))]::liC o.ga o.gv::M)):=wF R.hc λc=>by
       simp only [runC,rnH,yD,kH,qR,jF,zP,kL,List.count_cons,jH,jK]
       omega
      have k2:=k.drop
      rw[R.e4]at k2
      exact⟨_,rfl,q D4 o.ga o.gv A H10 tk k2 R.f.lg R.f.lgv R.f.g R.p Z λs e he=>by have:=lt s e he;omega⟩
end
end Oc
namespace Oc
open PySem L2
section
variable{P:Program}{w:World}{K:PySem.W.Frag}{mg:Str->Option Value}{base:Heap}
theorem AV:FnScope ["script","head","many","stations","belts","feeds","k","cell"] ["script"] (defScope (top 34)):=⟨rfl,rfl,rfl,by decide +kernel,rfl,by decide +kernel,by decide +kernel⟩
theorem Ez{f:Addr}{fd:FuncData}(F:Fun K "_law_ring" "_law_ring" (top 34) f fd)(T:Txt K mg)(aa:FnAt P w K mg base 1 "_law_stir" ["cell","k"] spStir)(ak:FnAt P w K mg base 1 "_law_cell" ["script","k"] (spCell K)):FnOk P w K mg base CX0 2 f fd ["script"] (spWks K):=by
 have nd:=AV.nd
 refine F.ok AV (λvs H Q E h=>?_) (λcdv A outer s H vs Q E hr h=>?_)
 ·obtain⟨a,ns,rfl,_⟩:=h
  rfl
 ·obtain⟨a,ns,rfl,hS,q⟩:=h
  refine⟨_,(@sq _ _ _ _ _ (sL (i:=1) nd rfl (by nofun) (sU ak (hr.mono (by decide)) (by rfl) (@sf _ _ _ _ _ (pv 0) (@sf _ _ _ _ _ sg sh (by rfl)) (by rfl))))
   (@sq _ _ _ _ _ (sL (i:=2) nd rfl (by nofun) (sK tH sg (sK sV (sU aa (hr.mono (by decide)) (by rfl) (@sf _ _ _ _ _ (pv 1) (@sf _ _ _ _ _ sg sh (by rfl)) (by rfl))) sg)))
   (@sq _ _ _ _ _ (ue (i:=3) nd rfl (Or.inl rfl) rfl (own:=["k"]) (fr:=["head"]) (js:=[1]) (by and_intros) (s_ rfl T.n_range (@sf _ _ _ _ _ (pv 2) sh (by rfl))) (λ_ _ _ _=>(sH (i:=0) (show List.Nodup (["k","head"]:List Str)from by decide +kernel) rfl (by nofun))) (λ_ _ _ _=>tq) (λ_ _ _ _=>(@tj _ _ _ _ _ (@sf _ _ _ _ _ tW (@sf _ _ _ _ _ (sK xN (sK sV (sU aa (hr.mono (by decide)) (by rfl) (@sf _ _ _ _ _ (pv 1) (@sf _ _ _ _ _ (sK tH sg (pv 0)) sh (by rfl)) (by rfl))) sg) sg) sh (by rfl)) (by rfl)))))
   (@sq _ _ _ _ _ (ue (i:=4) nd rfl (Or.inl rfl) rfl (own:=["k"]) (fr:=["many"]) (js:=[2]) (by and_intros) (s_ rfl T.n_range (@sf _ _ _ _ _ (pv 2) sh (by rfl))) (λ_ _ _ _=>(sH (i:=0) (show List.Nodup (["k","many"]:List Str)from by decide +kernel) rfl (by nofun))) (λ_ _ _ _=>tq) (λ_ _ _ _=>(@tj _ _ _ _ _ (@sf _ _ _ _ _ (pv 0) (@sf _ _ _ _ _ (sK sV (sK tH (pv 0) sg) (pv 1)) (@sf _ _ _ _ _ sg sh (by rfl)) (by rfl)) (by rfl)))))
   (@sq _ _ _ _ _ (sL (i:=5) nd rfl (by nofun) (@tJ _ _ _ _ sh))
   (@sq _ _ _ _ _ (ub PassesOwn.never rfl (s_ rfl T.n_range (@sf _ _ _ _ _ (sK tH sg (sK sV (sU aa (hr.mono (by decide)) (by rfl) (@sf _ _ _ _ _ (pv 1) (@sf _ _ _ _ _ sg sh (by rfl)) (by rfl))) sg)) sh (by rfl))) (sH (i:=6) nd rfl (by nofun)) (@sq _ _ _ _ _ (sL (i:=7) nd rfl (by nofun) (sK tH (sU ak (hr.mono (by decide)) (by rfl) (@sf _ _ _ _ _ (pv 0) (@sf _ _ _ _ _ (pv 6) sh (by rfl)) (by rfl))) (pv 6)))
   (@sy _ _ _ (tM (uH PySem.F.plainAttrs_list PySem.F.slot_list_append PySem.F.type_list_append tL (pv 5) (@sf _ _ _ _ _ (@tj _ _ _ _ _ (@sf _ _ _ _ _ (sK sV (sU aa (hr.mono (by decide)) (by rfl) (@sf _ _ _ _ _ (pv 7) (@sf _ _ _ _ _ sg sh (by rfl)) (by rfl))) (pv 2)) (@sf _ _ _ _ _ (sK sV (sU aa (hr.mono (by decide)) (by rfl) (@sf _ _ _ _ _ (pv 7) (@sf _ _ _ _ _ sg sh (by rfl)) (by rfl))) (@sE _ _ _ _ _ _ _ (sO (K:=K) rfl) (@tJ _ _ _ _ (@sf _ _ _ _ _ sg (@sf _ _ _ _ _ sg sh (by rfl)) (by rfl))) (sK sV (sU aa (hr.mono (by decide)) (by rfl) (@sf _ _ _ _ _ (pv 7) (@sf _ _ _ _ _ sg sh (by rfl)) (by rfl))) sg) (λ_ _=>rfl))) (@sf _ _ _ _ _ (sK sV (pv 7) sg) sh (by rfl)) (by rfl)) (by rfl))) sh (by rfl)))))))
   (@sy _ _ _ (@sN _ _ _ _ (@tj _ _ _ _ _ (@sf _ _ _ _ _ (pv 3) (@sf _ _ _ _ _ (pv 4) (@sf _ _ _ _ _ (pv 5) sh (by rfl)) (by rfl)) (by rfl))))))))))),?_⟩
  refine⟨_,rfl,a,ns,0,rfl,hS,λhd H1 s1=>?_⟩
  refine⟨_,rfl,hd,5,rfl,by decide,by decide,λr r0 r1=>⟨_,_,rfl,rfl,(show(0:Int)<2 by decide),_,_,rfl,rfl,?_⟩⟩
  obtain⟨m,hm,m1,m2⟩:∃m:Nat,1+r%2=(m:Int)/\1<=m/\m<=2:=⟨(1+r%2).toNat,by omega,by omega,by omega⟩
  rw[hm]
  refine⟨_,rfl,_,rfl,by rw[p62];omega,by rw[p62];omega,λD nD=>?_⟩
  refine t9 (lo:=0) (n:=((m:Nat):Int).toNat) (λi H5=>∃(vs:List V)(st:List Sta),Same H1 H5/\H5 D=some (.lst vs)/\Paired (IsSta H5) vs st/\st.length=i/\∀s∈st,StaOk s) ⟨[],[],Same.new nD,ss,.nil,rfl,λ_ z=>absurd z zI⟩ ?_ ?_
  ·rintro i H5 m' Wf hi ⟨vs,st,s5,h5,ps,ls,oks⟩ nx
   have lv:=ps.length
   have hi2:i<2:=by omega
   refine⟨_,rfl,_,rfl,_,_,rfl,rfl,hd,6+(0+(i:Int)),rfl,by omega,by omega,λx x0 x1=>⟨_,_,rfl,rfl,(show(0:Int)<7 by decide),_,_,rfl,rfl,(by show 2<=sizeLine;decide),λp np=>?_⟩⟩
   have s6:Same H5 (upd H5 p (.tup (staV (("relay":Str),some (x%7-3))))):=Same.new np
   have g6:(upd H5 p (.tup (staV (("relay":Str),some (x%7-3))))) p=some (.tup (staV (("relay":Str),some (x%7-3)))):=ss
   have gD:(upd H5 p (.tup (staV (("relay":Str),some (x%7-3))))) D=some (.lst vs):=s6 _ _ h5
   refine⟨_,gD,sG (by omega),nx _ ⟨vs++[.ref p],st++[(("relay":Str),some (x%7-3))],(s5.trans s6).upd nD,ss,?_,by rw[zM,ls];rfl,uN oks (.inl ⟨_,rfl,by omega,by omega⟩)⟩⟩
   exact sW (sw (λ_ _ h=>(IsSta.same s6 h).keep gD) ps) (.cons (IsSta.keep gD ⟨p,rfl,g6⟩) .nil)
  ·rintro H5 ⟨vs,st,s5,h5,ps,ls,oks⟩
   have ls':st.length=m:=by omega
   have S5:=s1.trans s5
   refine⟨_,rfl,_,rfl,by rw[p62];omega,by rw[p62];omega,λaB nB=>?_⟩
   refine t9 (lo:=0) (n:=((m:Nat):Int).toNat) (λi H6=>∃(ys:List V)(be:List Tri),Same H5 H6/\H6 aB=some (.lst ys)/\Paired (IsTri H6) ys be/\be.length=i/\∀t∈be,0<=t.1/\t.1<(m:Int)/\0<=t.2.1/\t.2.1<(m:Int)/\1<=t.2.2/\t.2.2<=9) ⟨[],[],Same.new nB,ss,.nil,rfl,λ_ z=>absurd z zI⟩ ?_ ?_
   ·rintro i H6 m' Wf hi ⟨ys,be,s6,h6,pb,lb,okb⟩ nx
    have lys:=pb.length
    have him:i<m:=by omega
    refine⟨_,rfl,_,rfl,_,_,rfl,rfl,_,rfl,_,_,rfl,rfl,(by omega),(by show 3<=sizeLine;decide),λt nt=>?_⟩
    obtain⟨g1,g2⟩:=x8 (0+(i:Int),(0+(i:Int)+1)%(m:Int),1) s6 (Same.refl _) h6 nB pb nt
    refine⟨_,Same.new nt _ _ h6,sG (by omega),nx _ ⟨_,_,g1,ss,g2,by rw[zM,lb];rfl,uN okb ⟨by show 0<=0+(i:Int);omega,by show 0+(i:Int)<m;omega,yW _ (by omega),yP _ (by omega),qO _,by show(1:Int)<=9;decide⟩⟩⟩
   ·rintro H6 ⟨ys,be,s6,h6,pb,lb,okb⟩
    refine⟨zV _,λaF nF=>?_⟩
    have sF:Same H6 (upd H6 aF (.lst [])):=Same.new nF
    have hF:(upd H6 aF (.lst [])) aF=some (.lst []):=ss
    refine⟨_,rfl,hd,8,rfl,by decide,by decide,λb' b0' b1'=>⟨_,_,rfl,rfl,(show(0:Int)<9 by decide),_,_,rfl,rfl,?_⟩⟩
    refine⟨_,rfl,by rw[p62];omega,by rw[p62];omega,t4 (n:=(12+b'%9).toNat) (λi σ H7=>∃(v6 v7:Option V)(zs:List V)(fe:List Tri),σ=[some (.ref a),some (.int hd),some (.int (m:Int)),some (.ref D),some (.ref aB),some (.ref aF),v6,v7]/\Same H6 H7/\H7 aF=some (.lst zs)/\Paired (IsTri H7) zs fe/\fe.length=i/\∀t∈fe,0<=t.1/\t.1<(m:Int)/\0<=t.2.1/\t.2.1<=50/\-1000000000<=t.2.2/\t.2.2<=1000000000) ⟨_,_,[],[],rfl,sF,hF,.nil,rfl,λ_ z=>absurd z zI⟩ ?_ ?_⟩
    ·rintro i σ H7 hi ⟨v6,v7,zs,fe,rfl,s7,h7,pf,lf,okf⟩
     have lzs:=pf.length
     refine⟨_,rfl,_,rfl,a,ns,_,rfl,(S5.trans (s6.trans s7)).seq hS,λc0 H8 s8=>⟨_,rfl,_,_,rfl,rfl,?_⟩⟩
     generalize c0+(0+(i:Int))=c
     refine⟨_,rfl,tyL (s8 _ _ h7),_,rfl,c,60,rfl,by decide,by decide,λx3 x30 x31=>⟨_,rfl,_,_,rfl,rfl,(by omega),_,rfl,c,61,rfl,by decide,by decide,λx1 x10 x11=>⟨(by show 2<=sizeLine;decide),λl1 nl1=>?_⟩⟩⟩
     have s9:=s8.trans (Same.new (o:=.lst [.int 6,.int 51]) nl1)
     refine⟨_,rfl,c,62,rfl,by decide,by decide,λx2 x20 x21=>⟨_,_,rfl,rfl,(show(0:Int)<2 by decide),?_⟩⟩
     obtain⟨z,hz,mz⟩:=at3 (xs:=[6,51]) (r:=x2) (n:=2) rfl (by decide)
     have zz:z=6\/z=51:=by simpa using mz
     refine⟨_,_,_,_,rfl,rfl,SqL.of ss,hz,_,_,rfl,rfl,(by omega),_,rfl,_,_,rfl,rfl,(show(0:Int)<101 by decide),(by show 3<=sizeLine;decide),λt nt=>?_⟩
     generalize upd H8 l1 (.lst [.int 6,.int 51])=H9 at s9 nt ⊢
     have e1:=yW x1 (show z≠0 by omega)
     have e2:=yP x1 (show 0<z by omega)
     obtain⟨g1,g2⟩:=x8 (x3%(m:Int),x1%z,c%101) s7 s9 h7 nF pf nt
     refine⟨aF,zs,_,rfl,rfl,Same.new nt _ _ (s9 _ _ h7),sG (by omega),?_⟩
     exact⟨_,_,_,_,rfl,g1,ss,g2,by rw[zM,lf];rfl,uN okf ⟨yW _ (by omega),yP _ (by omega),by show 0<=x1%z;omega,by show x1%z<=50;omega,by show -1000000000<=c%101;omega,by show c%101<=1000000000;omega⟩⟩
    ·rintro σ H7 ⟨v6,v7,zs,fe,rfl,s7,h7,pf,lf,okf⟩
     refine⟨_,rfl,_,rfl,_,rfl,(by show 3<=sizeLine;decide),λt nt=>?_⟩
     have sT:=Same.new (o:=.tup [.ref D,.ref aB,.ref aF]) nt
     have S7:=s7.trans sT
     refine q t ⟨st,be,fe⟩ _ ⟨D,aB,aF,vs,ys,zs,ss,⟨S7 _ _ (s6 _ _ h5),S7 _ _ h6,sT _ _ h7,sw (λ_ _ h=>IsSta.same (s6.trans S7) h) ps,sw (λ_ _ h=>IsTri.same S7 h) pb,sw (λ_ _ h=>IsTri.same sT h) pf⟩⟩ ⟨by show 1<=st.length;omega,by show st.length<=8;omega,by show be.length<=12;omega,by show fe.length<=60;omega,oks,λt ht=>?_,λt ht=>?_⟩ (S5.trans (s6.trans S7))
     ·show 0<=t.1/\t.1<(st.length:Int)/\0<=t.2.1/\t.2.1<(st.length:Int)/\1<=t.2.2/\t.2.2<=9
      rw[ls']
      exact okb t ht
     ·show 0<=t.1/\t.1<(st.length:Int)/\0<=t.2.1/\t.2.1<=50/\-1000000000<=t.2.2/\t.2.2<=1000000000
      rw[ls']
      exact okf t ht
end
end Oc
namespace Oc
open PySem L2
def rowD(r:List Tri):PyData:=.list (r.map triD)
theorem Er{K:PySem.W.Frag}{H:Hp}{gv:List (List V)}{ge:List (List Tri)}(p:Paired (λus ts=>Paired (IsTri H) us ts) gv ge):∀{as:List Addr},(∀c∈liC as gv,H c.1=some c.2)->as.length=gv.length->DtAll K H 2 (as.map V.ref) (ge.map rowD):=by
 induction p with
 | nil=>intro as _ l;cases as with
  | nil=>exact .nil 2
  | cons _ _=>cases l
 | @cons us ts gv ge p r ih =>
  intro as m l
  cases as with
  | nil=>cases l
  | cons a as =>
   have m':∀c∈(a,HO.lst us)::liC as gv,H c.1=some c.2:=m
   exact .cons (DX (m' _ zJ) p) (ih (λc hc=>m' c (zL _ hc)) (by simpa using l))
theorem zo{K:PySem.W.Frag}{H:Hp}{D:Addr}{bs:List Addr}{rv:List (List V)}{ge:List (List Tri)}(h:H D=some (.lst (bs.map V.ref)))(hc:∀c∈liC bs rv,H c.1=some c.2)(l:bs.length=rv.length)(p:Paired (λus ts=>Paired (IsTri H) us ts) rv ge):Dt K H 3 (.ref D) (.list (ge.map rowD)):=.lst (SqL.of h) (Er p hc l)
inductive spLaw(Pd Pu:Addr)(K:PySem.W.Frag)(vs:List V)(H:Hp)(Q:VK)(x_3:XK):Prop where
 | mk (a:Addr) (ns:List Int) (h_0:vs=[.ref a]) (h_1:SqL K H a (ns.map V.int)) (h_2:ns.length<=63) (h_3:DoorT Pd H) (h_4:UpT Pu H) (h_5:Pd≠Pu) (h_6:∀H',Q (.bl true) H'):spLaw Pd Pu K vs H Q x_3
section
variable{P:Program}{w:World}{K:PySem.W.Frag}{mg:Str->Option Value}{base:Heap}{cs:Cs}{C Pd Pu:Addr}
theorem Cg:FnScope ["script","works","number","until","found","some","event"] ["script"] (defScope (top 35)):=⟨rfl,rfl,rfl,by decide +kernel,rfl,by decide +kernel,by decide +kernel⟩
theorem Fq{f:Addr}{fd:FuncData}(F:Fun K "law" "law" (top 35) f fd)(T:Txt K mg)(tt_:PySem.W.kitOne K (.type "tuple") (.type "tuple")=some true)(ib_:PySem.W.kitOne K (.type "int") (.type "bool")=some false)(aa:FnAt P w K mg base 1 "_law_stir" ["cell","k"] spStir)(ak:FnAt P w K mg base 1 "_law_cell" ["script","k"] (spCell K))(aV:FnAt P w K mg base 3 "_law_works" ["script"] (spWks K))(bg:FnAt P w K mg base 2 "_law_ring" ["script"] (spWks K))(cZ:FnAt P w K mg base 7 "settled" ["works","until"] (spSet cs C Pd Pu))(cp:FnAt P w K mg base 2 "_law_run" ["works","until"] spRunL):FnOk P w K mg base CX0 8 f fd ["script"] (spLaw Pd Pu K):=by
 have nd:=Cg.nd
 refine F.ok Cg (λvs H Q E h=>?_) (λcdv A outer s H vs Q E hr h=>?_)
 ·obtain⟨a,ns,rfl,_⟩:=h
  rfl
 ·obtain⟨a,ns,rfl,hS,hl,hT,hU,nePP,q⟩:=h
  refine⟨_,(@sq _ _ _ _ _ (sL (i:=1) nd rfl (by nofun) (sU aV (hr.mono (by decide)) (by rfl) (@sf _ _ _ _ _ (pv 0) sh (by rfl))))
   (@sq _ _ _ _ _ (sL (i:=2) nd rfl (by nofun) (sU ak (hr.mono (by decide)) (by rfl) (@sf _ _ _ _ _ (pv 0) (@sf _ _ _ _ _ sg sh (by rfl)) (by rfl))))
   (@sq _ _ _ _ _ (sL (i:=3) nd rfl (by nofun) (sK sV (sU aa (hr.mono (by decide)) (by rfl) (@sf _ _ _ _ _ (pv 2) (@sf _ _ _ _ _ sg sh (by rfl)) (by rfl))) sg))
   (@sq _ _ _ _ _ (tG (sJ tN (sK sV (sU aa (hr.mono (by decide)) (by rfl) (@sf _ _ _ _ _ (pv 2) (@sf _ _ _ _ _ sg sh (by rfl)) (by rfl))) sg) sg (sP _)) (@sy _ _ _ (sL (i:=3) nd rfl (by nofun) (sK sV (sU aa (hr.mono (by decide)) (by rfl) (@sf _ _ _ _ _ (pv 2) (@sf _ _ _ _ _ sg sh (by rfl)) (by rfl))) sg))) sS)
   (@sq _ _ _ _ _ (tG (sJ tN (sK sV (sU aa (hr.mono (by decide)) (by rfl) (@sf _ _ _ _ _ (pv 2) (@sf _ _ _ _ _ sg sh (by rfl)) (by rfl))) sg) sg (sP _)) (@sq _ _ _ _ _ (sL (i:=1) nd rfl (by nofun) (sU bg (hr.mono (by decide)) (by rfl) (@sf _ _ _ _ _ (pv 0) sh (by rfl))))
   (@sy _ _ _ (sL (i:=3) nd rfl (by nofun) sg))) sS)
   (@sq _ _ _ _ _ (sL (i:=4) nd rfl (by nofun) (sU cZ (hr.mono (by decide)) (by rfl) (@sf _ _ _ _ _ (pv 1) (@sf _ _ _ _ _ (pv 3) sh (by rfl)) (by rfl))))
   (@sq _ _ _ _ _ (tG ((Ba (C7 (uI (sR (vq (K:=K) rfl) (by rfl) T.n_isinstance uK (@sf _ _ _ _ _ (pv 4) (@sf _ _ _ _ _ (x9 (v:=.ty _) (by rfl) T.n_tuple vP rfl) sh (by rfl)) (by rfl))))) (xM (sJ (xP (K:=K) rfl hr.units) (@sE _ _ _ _ _ _ _ (sA (K:=K) rfl) (pv 4) sg (λ_ _=>rfl)) (sU cp (hr.mono (by decide)) (by rfl) (@sf _ _ _ _ _ (pv 1) (@sf _ _ _ _ _ (pv 3) sh (by rfl)) (by rfl))) (sP _))))).pt (@sy _ _ _ (@sN _ _ _ _ wo)) sS)
   (@sq _ _ _ _ _ (ub PassesOwn.never rfl (sY (K:=K) rfl (@sE _ _ _ _ _ _ _ (sA (K:=K) rfl) (pv 4) sg (λ_ _=>rfl))) (sH (i:=5) nd rfl (by nofun)) (@sy _ _ _ (ub PassesOwn.never rfl (sY (K:=K) rfl (pv 5)) (sH (i:=6) nd rfl (by nofun)) (@sy _ _ _ (tG ((Ba (C7 (uI (sR (vq (K:=K) rfl) (by rfl) T.n_isinstance uK (@sf _ _ _ _ _ (pv 6) (@sf _ _ _ _ _ (x9 (v:=.ty _) (by rfl) T.n_tuple vP rfl) sh (by rfl)) (by rfl))))) (xM (sJ (xP (K:=K) rfl hr.units) (by exact(tE (own:=["part"]) (fr:=[]) (js:=[]) (by and_intros) (uA (K:=K) rfl (pv 6)) (λ_ _ _ _=>(sH (i:=0) (show List.Nodup (["part"]:List Str)from by decide +kernel) rfl (by nofun))) (λ_ _ _ _=>(uj (uI (sR (vq (K:=K) rfl) (by rfl) T.n_isinstance uK (@sf _ _ _ _ _ (pv 0) (@sf _ _ _ _ _ (x9 (v:=.ty _) (by rfl) T.n_bool Dv rfl) sh (by rfl)) (by rfl)))))) (λ_ _ _ _=>(pv 0)))) (@tJ _ _ _ _ sh) (sP _))))).pt (@sy _ _ _ (@sN _ _ _ _ wo)) sS)))))
   (@sy _ _ _ (@sN _ _ _ _ wo)))))))))),?_⟩
  refine⟨_,rfl,a,ns,rfl,hS,λwa W H1 hW ok s1=>?_⟩
  refine⟨_,rfl,a,ns,1,rfl,s1.seq hS,λnu H2 s2=>?_⟩
  refine⟨_,rfl,nu,1,rfl,by decide,by decide,λr1 p1 p2=>⟨_,_,rfl,rfl,(show(0:Int)<9 by decide),?_⟩⟩
  refine⟨_,rfl,nu,2,rfl,by decide,by decide,λr2 _ _=>⟨_,_,rfl,rfl,(show(0:Int)<8 by decide),rfl,_,rfl,?_⟩⟩
  have S2:=s1.trans s2
  refine wx (fun σ' H'=>∃u:Int,σ'=[some (.ref a),some (.ref wa),some (.int nu),some (.int u),none,none,none]/\H'=H2/\0<=u/\u<=30) (λhb k=>?_) (λhb k=>k _ _ ⟨r1%9,rfl,rfl,by omega,by omega⟩) ?_
  ·exact⟨_,rfl,nu,1,rfl,by decide,by decide,λr3 _ _=>⟨_,_,rfl,rfl,(show(0:Int)<31 by decide),k _ _ ⟨r3%31,rfl,rfl,by omega,by omega⟩⟩⟩
  rintro σ' H3 ⟨u,rfl,rfl,u0,u30⟩
  refine⟨_,rfl,nu,3,rfl,by decide,by decide,λr4 _ _=>⟨_,_,rfl,rfl,(show(0:Int)<16 by decide),rfl,_,rfl,?_⟩⟩
  refine wx (fun σ' H'=>∃(wa:Addr)(W:Wk)(u:Nat),σ'=[some (.ref a),some (.ref wa),some (.int nu),some (.int (u:Int)),none,none,none]/\WkAt H' wa W/\W.Ok/\Same H H'/\u<=60) (λhb k=>?_) (λhb k=>?_) ?_
  ·exact⟨_,rfl,a,ns,rfl,S2.seq hS,λwb W' H4 hW' ok' s4=>k _ _ ⟨wb,W',60,rfl,hW',ok',S2.trans s4,zH _⟩⟩
  ·obtain⟨un,rfl⟩:∃un:Nat,u=(un:Int):=⟨u.toNat,by omega⟩
   exact k _ _ ⟨wa,W,un,rfl,hW.same s2,ok,S2,by omega⟩
  clear hW ok
  rintro σ' H4 ⟨wa,W,u,rfl,hW,ok,s4,u60⟩
  obtain⟨M0,sa,ba,fa,xs,ys,zs,k1,nM0,back⟩:=Eo hW (s4.seq hS)
  have wk:∀H',Hc H' M0->WkAt H' wa W:=λH' k=>by
   obtain⟨e1,e2,_⟩:=back H' k
   exact⟨sa,ba,fa,xs,ys,zs,e1,e2⟩
  refine⟨_,rfl,_,rfl,wa,W,M0,(u:Int),rfl,k1,nM0,wk,ok,(by omega),(by omega),hT.same s4,hU.same s4,nePP,λt D bs rv r H5 sx k9 lb pr hT5 hU5 _=>?_⟩
  have ht:=k9.get 0 0 rfl rfl
  have hD:=k9.get 1 0 rfl rfl
  refine⟨_,rfl,_,"tuple",_,true,rfl,.tup ht,tt_,_,rfl,iteF ?_⟩
  refine⟨_,rfl,⟨_,_,_,_,rfl,rfl,SqT.of ht,(su (j:=0) rfl),_,rfl,_,rfl,wa,W,u,_,rfl,(λH' k=>wk H' k.tl.tl.tl),ok,u60,k9,λgl ga gv B H6 tk k10 lga lgv prB wp az le60=>?_⟩⟩
  have e:(W.oa.rnds W.st.length r).upT (u:Int) W.st.length=B.ge:=by
   refine jE λi=>?_
   unfold OA.upT
   by_cases hi:i<W.st.length
   ·rw[zF,yR hi]
    show some (((W.oa.rnds W.st.length r).ge.getD i []).filter (upTo (u:Int)))=_
    rw[FT ok wp az le60 sx.em hi,zA,zB (by rw[wp.lg];exact hi)]
    rfl
   ·rw[yH (by rw[zC,yC];omega),yH (by rw[wp.lg];omega)]
  rw[e]at pr
  have pr6:Paired (λus ts=>Paired (IsTri H6) us ts) rv B.ge:=sw (λ_ _ h=>sw (λ_ _ h=>h.tk tk) h) pr
  have hD6:=k10.get 3 0 rfl rfl
  have ht6:=k10.get 2 0 rfl rfl
  have hG6:=k10.get 0 0 rfl rfl
  have cA:∀c∈liC bs rv,H6 c.1=some c.2:=λc hc=>k10.2 c (jG.mpr ⟨_,zE (i:=4) rfl,hc⟩)
  have cB:∀c∈liC ga gv,H6 c.1=some c.2:=λc hc=>k10.2 c (jG.mpr ⟨_,zE (i:=1) rfl,hc⟩)
  have dA:=zo (K:=K) hD6 cA lb pr6
  refine⟨_,_,3,dA,zo hG6 cB (lga.trans lgv.symm) prB,by decide,_,rfl,?_⟩
  rw[SeqAt.eqv_refl _ dA.can]
  refine iteF ?_
  refine⟨_,rfl,⟨_,_,_,_,rfl,rfl,SqT.of ht6,(su (j:=0) rfl),D,rfl,⟨_,SqL.of hD6⟩,vS (K:=K) (a:=D) (xs:=bs.map V.ref) (λi σ H9=>∃(v5 v6:Option V),σ=[some (.ref a),some (.ref wa),some (.int nu),some (.int (u:Int)),some (.ref t),v5,v6]/\Same H6 H9) ⟨_,_,rfl,Same.refl _⟩ (λi σ H9 _ ⟨_,_,_,s9⟩=>SqL.of (s9 _ _ hD6)) ?_ ?_⟩⟩
  ·rintro i x σ H9 hx ⟨v5,v6,rfl,s9⟩
   rw[zF]at hx
   obtain⟨b,hb,rfl⟩:=yM.mp hx
   obtain⟨us,hus⟩:=u4 lb hb
   obtain⟨ts,hts,pts⟩:=pr6.gt hus
   have hl:=cA _ (zE (sX hb hus))
   refine⟨_,rfl,b,rfl,⟨_,SqL.of (s9 _ _ hl)⟩,vS (K:=K) (a:=b) (xs:=us) (λj σ H10=>∃(v6:Option V),σ=[some (.ref a),some (.ref wa),some (.int nu),some (.int (u:Int)),some (.ref t),some (.ref b),v6]/\Same H6 H10) ⟨_,rfl,s9⟩ (λj σ H10 _ ⟨_,_,s10⟩=>SqL.of (s10 _ _ hl)) ?_ ?_⟩
   ·rintro j y σ H10 hy ⟨v6,rfl,s10⟩
    obtain⟨e0,he0,pe,rfl,hpe⟩:=pts.gt hy
    have hpe10:=s10 _ _ hpe
    refine⟨_,rfl,_,"tuple",_,true,rfl,.tup hpe10,tt_,_,rfl,iteF ?_⟩
    refine⟨_,rfl,pe,rfl,⟨_,SqT.of hpe10⟩,λD7 nD7=>?_⟩
    refine u3 (a:=pe) (xs:=triV e0) (λk H11=>Same H10 H11/\H11 D7=some (.lst [])) ⟨Same.new nD7,ss⟩ (λk H11 _ p=>SqT.of (p.1 _ _ hpe10)) ?_ ?_
    ·rintro k z H11 m' Wf hz ⟨s11,h11⟩ nx
     obtain⟨n,rfl⟩:∃n,z=V.int n:=by
      have:=zE hz
      unfold triV at this
      simp only [zR,zI,or_false]at this
      rcases this with h|h|h <;>exact⟨_,h⟩
     exact⟨_,rfl,_,"bool",_,false,rfl,.int _,ib_,_,rfl,iteF (nx _ ⟨s11,h11⟩)⟩
    ·rintro H11 ⟨s11,h11⟩
     refine⟨zV _,λl nl=>?_⟩
     have s12:Same H11 (upd H11 l (.lst [])):=Same.new nl
     refine⟨.list [],.list [],2,vt (s12 _ _ h11),vt ss,by decide,_,rfl,?_⟩
     rw[show PyData.eqv (.list []) (.list [])=true from by simp [PyData.eqv,PyData.eqvAll]]
     exact iteF ⟨_,rfl,s10.trans (s11.trans s12)⟩
   ·rintro σ H10 ⟨v6,rfl,s10⟩
    exact⟨_,_,rfl,s10⟩
  ·rintro σ H9 ⟨v5,v6,rfl,s9⟩
   exact q _
end
end Oc
namespace Oc
open PySem L2
inductive FnF(K:PySem.W.Frag)(s:Stmt)(m q:Str)(f:Addr)(cd:Value):Prop where
 | mk {oc:Value} {od an:Option Addr} {sl:Array (Option Value)} {kV dc pm ct:Value} (l:K.lookup f=some ⟨oc,od,.func (PySem.W.fnOf m q (defArgs s) (defBody s) (defScope s) .none kV dc pm an cd ct),sl⟩) (c:PySem.W.codeIn K cd q=true) (k:PySem.W.keepIn K (.ref f)=true):FnF K s m q f cd
theorem FnF.fn{K:PySem.W.Frag}{s:Stmt}{m q:Str}{f:Addr}{cd:Value}(h:FnF K s m q f cd):∃fd,Fun K m q s f fd/\PySem.W.keepIn K (.ref f)=true/\fd.code=cd:=by
 obtain⟨l,c,k⟩:=h
 exact⟨_,C3 l c k,k,rfl⟩
def MtF(K:PySem.W.Frag)(C:Addr)(m:Str)(f:Addr):Prop:=PySem.W.findIn K (.ref C) m=some (some (.ref f))/\PySem.W.isFn K (.ref f)=true
set_option hygiene false in
local macro_rules | `(tactic| injections) => `(tactic| (intro _ _ _ _ _ _ us hl; first | (obtain ⟨_, rfl⟩ := len1 hl; rfl) | (obtain ⟨_, _, rfl⟩ := len2 hl; rfl) | (obtain ⟨_, _, _, rfl⟩ := len3 hl; rfl) | (obtain ⟨_, _, _, _, rfl⟩ := len4 hl; rfl) | (obtain ⟨_, _, _, _, _, rfl⟩ := len5 hl; rfl)))
theorem all_mk{l:PySem.W.OpenLaw}{w:World}{K:PySem.W.Frag}{h:Heap}{mg:Str->Option Value}{fa aj ah ae ab ad ai C_Own og gO mD al aJ am aR cC bS aL a9 aO bU cP nY bN bj dB gN bA dy a7 e7 bo aG aC aT eK dG c_ bu cE dY dm dF fb dD dk jx fP bP gR f_law:Addr}(X:K.In h)(G:h.Ns mainGlobals mg)(hfa:mg "law"=some (.ref fa))
  {od_law an_law:Option Addr} {sl_law:Array (Option Value)} {pK lH oW bM dP bI cw f7 fK bH dN cm fc gH mI eG dQ ig lW dJ ia aW iM dR bc aX cK iW gT hJ dI gG iI gW ip jc gZ gY nI jp d8 km oc_law kV_law dc_law pm_law cd_law ct_law cu:Value} {tkD:Tok} {cD PD cU PU:Addr}
  (lO:PySem.W.nsIn K mainGlobals "Station"=some (some (.ref aj)))
  (nZ:PySem.W.nsIn K mainGlobals "Relay"=some (some (.ref ah)))
  (nv:PySem.W.nsIn K mainGlobals "Sorter"=some (some (.ref ae)))
  (kl:PySem.W.nsIn K mainGlobals "Thinner"=some (some (.ref ab)))
  (mS:PySem.W.nsIn K mainGlobals "Joiner"=some (some (.ref ad)))
  (pR:PySem.W.nsIn K mainGlobals "Sink"=some (some (.ref ai)))
  (qr:PySem.W.nsIn K mainGlobals "Own"=some (some (.ref C_Own)))
  (qq:PySem.W.nsIn K mainGlobals "ways"=some (some (.ref og)))
  (rJ:FnF K (top 3) "ways" "ways" og pK)
  (m8:PySem.W.nsIn K mainGlobals "leaving"=some (some (.ref gO)))
  (nR:FnF K (top 6) "leaving" "leaving" gO lH)
  (pE:PySem.W.nsIn K mainGlobals "sides"=some (some (.ref mD)))
  (pH:FnF K (top 7) "sides" "sides" mD oW)
  (b_:MtF K aj "__init__" al)
  (cr:FnF K (inClass (top 9) 0) "__init__" "Station.__init__" al bM)
  (fI:MtF K aj "take" aJ)
  (eR:FnF K (inClass (top 9) 1) "take" "Station.take" aJ dP)
  (ci:MtF K aj "on_first" am)
  (cg:FnF K (inClass (top 9) 2) "on_first" "Station.on_first" am bI)
  (c7:MtF K ah "__init__" aR)
  (c3:FnF K (inClass (top 10) 0) "__init__" "Relay.__init__" aR cw)
  (h_:MtF K ah "take" cC)
  (hE:FnF K (inClass (top 10) 1) "take" "Relay.take" cC f7)
  (gr:MtF K ae "take" bS)
  (fZ:FnF K (inClass (top 11) 0) "take" "Sorter.take" bS fK)
  (cn:MtF K ab "__init__" aL)
  (cq:FnF K (inClass (top 12) 0) "__init__" "Thinner.__init__" aL bH)
  (fg:MtF K ab "take" a9)
  (e_:FnF K (inClass (top 12) 1) "take" "Thinner.take" a9 dN)
  (cI:MtF K ad "__init__" aO)
  (cM:FnF K (inClass (top 13) 0) "__init__" "Joiner.__init__" aO cm)
  (gK:MtF K ad "take" bU)
  (gx:FnF K (inClass (top 13) 1) "take" "Joiner.take" bU fc)
  (iq:PySem.W.nsIn K mainGlobals "station_of"=some (some (.ref cP)))
  (ij:FnF K (top 15) "station_of" "station_of" cP gH)
  (rq:PySem.W.nsIn K mainGlobals "door"=some (some (.ref nY)))
  (rE:FnF K (top 4) "door" "door" nY mI)
  (gy:PySem.W.nsIn K mainGlobals "door_events"=some (some (.ref bN)))
  (gC:FnF K (top 5) "door_events" "door_events" bN eG)
  (ei:MtF K C_Own "__init__" bj)
  (d9:FnF K (inClass (top 17) 0) "__init__" "Own.__init__" bj dQ)
  (j_:MtF K C_Own "taken" dB)
  (i7:FnF K (inClass (top 17) 1) "taken" "Own.taken" dB ig)
  (mW:MtF K C_Own "row" gN)
  (mN:FnF K (inClass (top 17) 6) "row" "Own.row" gN lW)
  (fV:MtF K C_Own "earliest" bA)
  (eD:FnF K (inClass (top 17) 7) "earliest" "Own.earliest" bA dJ)
  (jw:MtF K C_Own "clock" dy)
  (iG:FnF K (inClass (top 17) 4) "clock" "Own.clock" dy ia)
  (d4:MtF K C_Own "upcoming" a7)
  (fj:FnF K (inClass (top 17) 8) "upcoming" "Own.upcoming" a7 aW)
  (mx:MtF K C_Own "lets" e7)
  (lR:FnF K (inClass (top 17) 10) "lets" "Own.lets" e7 iM)
  (eJ:MtF K C_Own "may_take" bo)
  (eM:FnF K (inClass (top 17) 9) "may_take" "Own.may_take" bo dR)
  (bG:MtF K C_Own "raise_promise" aG)
  (bJ:FnF K (inClass (top 17) 13) "raise_promise" "Own.raise_promise" aG bc)
  (a8:MtF K C_Own "raise_promises" aC)
  (aZ:FnF K (inClass (top 17) 12) "raise_promises" "Own.raise_promises" aC aX)
  (cX:MtF K C_Own "take_event" aT)
  (c5:FnF K (inClass (top 17) 11) "take_event" "Own.take_event" aT cK)
  (mq:MtF K C_Own "step" eK)
  (kh:FnF K (inClass (top 17) 5) "step" "Own.step" eK iW)
  (i5:PySem.W.nsIn K mainGlobals "_law_stir"=some (some (.ref dG)))
  (iN:FnF K (top 25) "_law_stir" "_law_stir" dG gT)
  (i4:PySem.W.nsIn K mainGlobals "_law_cell"=some (some (.ref c_)))
  (iO:FnF K (top 26) "_law_cell" "_law_cell" c_ hJ)
  (fu:PySem.W.nsIn K mainGlobals "_law_station"=some (some (.ref bu)))
  (fN:FnF K (top 27) "_law_station" "_law_station" bu dI)
  (g_:PySem.W.nsIn K mainGlobals "_law_works"=some (some (.ref cE)))
  (ik:FnF K (top 28) "_law_works" "_law_works" cE gG)
  (lN:PySem.W.nsIn K mainGlobals "_law_put"=some (some (.ref dY)))
  (ky:FnF K (top 30) "_law_put" "_law_put" dY iI)
  (iF:PySem.W.nsIn K mainGlobals "_law_rows"=some (some (.ref dm)))
  (iz:FnF K (top 31) "_law_rows" "_law_rows" dm gW)
  (i_:PySem.W.nsIn K mainGlobals "_law_kept"=some (some (.ref dF)))
  (ja:FnF K (top 32) "_law_kept" "_law_kept" dF ip)
  (kg:PySem.W.nsIn K mainGlobals "_law_run"=some (some (.ref fb)))
  (kr:FnF K (top 33) "_law_run" "_law_run" fb jc)
  (iB:PySem.W.nsIn K mainGlobals "_law_ring"=some (some (.ref dD)))
  (jt:FnF K (top 34) "_law_ring" "_law_ring" dD gZ)
  (i6:PySem.W.nsIn K mainGlobals "is_behind"=some (some (.ref dk)))
  (iE:FnF K (top 19) "is_behind" "is_behind" dk gY)
  (oO:PySem.W.nsIn K mainGlobals "behind"=some (some (.ref jx)))
  (ot:FnF K (top 20) "behind" "behind" jx nI)
  (kx:PySem.W.nsIn K mainGlobals "go_round"=some (some (.ref fP)))
  (lU:FnF K (top 21) "go_round" "go_round" fP jp)
  (gd:PySem.W.nsIn K mainGlobals "taken_until"=some (some (.ref bP)))
  (f_:FnF K (top 22) "taken_until" "taken_until" bP d8)
  (mQ:PySem.W.nsIn K mainGlobals "settled"=some (some (.ref gR)))
  (mO:FnF K (top 23) "settled" "settled" gR km)
  (a_law:PySem.W.nsIn K mainGlobals "law"=some (some (.ref f_law)))
  (l_law:K.lookup f_law=some ⟨oc_law,od_law,.func (PySem.W.fnOf "law" "law" (defArgs (top 35)) (defBody (top 35)) (defScope (top 35)) .none kV_law dc_law pm_law an_law cd_law ct_law),sl_law⟩)
  (c_law:PySem.W.codeIn K cd_law "law"=true)
  (k_law:PySem.W.keepIn K (.ref f_law)=true)
  (cT:PySem.W.findIn K (.ref ah) "on_first"=some (some (.ref am)))
  (bW:PySem.W.findIn K (.ref ab) "on_first"=some (some (.ref am)))
  (cJ:PySem.W.findIn K (.ref ad) "on_first"=some (some (.ref am)))
  (cQ:PySem.W.findIn K (.ref ae) "__init__"=some (some (.ref al)))
  (dM:PySem.W.findIn K (.ref ai) "__init__"=some (some (.ref al)))
  (iR:PySem.W.findIn K (.ref ai) "take"=some (some (.ref aJ)))
  (mw:PySem.W.specialIn K (.ref aj) "__getattribute__"=some (some (.builtin "type.__getattribute__")))
  (q_:PySem.W.typeIn K (.ref aj)=some cu)
  (lT:PySem.W.readsIn K aj cu=true)
  (bF:PySem.W.findCls K (.ref aj) cu "__init__"=some (.val (.ref al)))
  (ke:PySem.W.plainGet K aj Str.empty=true)
  (lm:PySem.W.hasDictIn K aj=true)
  (lA:PySem.W.plainOver K aj=true)
  (lq:PySem.W.findIn K (.ref aj) "__setattr__"=some (some (.builtin "object.__setattr__")))
  (rj:PySem.W.makesIn K aj=true)
  (qm:PySem.W.keepIn K (.ref aj)=true)
  (oG:PySem.W.findIn K (.ref aj) "ways"=some none)
  (nS:PySem.W.findIn K (.ref aj) "belts"=some none)
  (oU:PySem.W.plainGet K ah Str.empty=true)
  (oi:PySem.W.hasDictIn K ah=true)
  (nU:PySem.W.plainOver K ah=true)
  (oy:PySem.W.findIn K (.ref ah) "__setattr__"=some (some (.builtin "object.__setattr__")))
  (oT:PySem.W.makesIn K ah=true)
  (oV:PySem.W.keepIn K (.ref ah)=true)
  (iu:PySem.W.findIn K (.ref ah) "ways"=some none)
  (f6:PySem.W.findIn K (.ref ah) "belts"=some none)
  (io:PySem.W.findIn K (.ref ah) "more"=some none)
  (mV:PySem.W.plainGet K ae Str.empty=true)
  (mM:PySem.W.hasDictIn K ae=true)
  (mP:PySem.W.plainOver K ae=true)
  (nJ:PySem.W.findIn K (.ref ae) "__setattr__"=some (some (.builtin "object.__setattr__")))
  (m3:PySem.W.makesIn K ae=true)
  (mT:PySem.W.keepIn K (.ref ae)=true)
  (gq:PySem.W.findIn K (.ref ae) "ways"=some none)
  (fL:PySem.W.findIn K (.ref ae) "belts"=some none)
  (ly:PySem.W.plainGet K ab Str.empty=true)
  (mi:PySem.W.hasDictIn K ab=true)
  (lM:PySem.W.plainOver K ab=true)
  (mf:PySem.W.findIn K (.ref ab) "__setattr__"=some (some (.builtin "object.__setattr__")))
  (lV:PySem.W.makesIn K ab=true)
  (l0:PySem.W.keepIn K (.ref ab)=true)
  (d3:PySem.W.findIn K (.ref ab) "ways"=some none)
  (dO:PySem.W.findIn K (.ref ab) "belts"=some none)
  (dL:PySem.W.findIn K (.ref ab) "every"=some none)
  (eP:PySem.W.findIn K (.ref ab) "seen"=some none)
  (nr:PySem.W.plainGet K ad Str.empty=true)
  (ng:PySem.W.hasDictIn K ad=true)
  (nQ:PySem.W.plainOver K ad=true)
  (m6:PySem.W.findIn K (.ref ad) "__setattr__"=some (some (.builtin "object.__setattr__")))
  (mY:PySem.W.makesIn K ad=true)
  (m7:PySem.W.keepIn K (.ref ad)=true)
  (gJ:PySem.W.findIn K (.ref ad) "ways"=some none)
  (eF:PySem.W.findIn K (.ref ad) "belts"=some none)
  (gn:PySem.W.findIn K (.ref ad) "kept"=some none)
  (pj:PySem.W.plainGet K ai Str.empty=true)
  (pz:PySem.W.hasDictIn K ai=true)
  (pP:PySem.W.plainOver K ai=true)
  (pM:PySem.W.findIn K (.ref ai) "__setattr__"=some (some (.builtin "object.__setattr__")))
  (o_:PySem.W.makesIn K ai=true)
  (pL:PySem.W.keepIn K (.ref ai)=true)
  (jy:PySem.W.findIn K (.ref ai) "ways"=some none)
  (ib:PySem.W.findIn K (.ref ai) "belts"=some none)
  (rO:PySem.W.plainGet K C_Own Str.empty=true)
  (qw:PySem.W.hasDictIn K C_Own=true)
  (qv:PySem.W.plainOver K C_Own=true)
  (rc:PySem.W.findIn K (.ref C_Own) "__setattr__"=some (some (.builtin "object.__setattr__")))
  (qz:PySem.W.makesIn K C_Own=true)
  (rN:PySem.W.keepIn K (.ref C_Own)=true)
  (fX:PySem.W.findIn K (.ref C_Own) "stations"=some none)
  (iw:PySem.W.findIn K (.ref C_Own) "delays"=some none)
  (iX:PySem.W.findIn K (.ref C_Own) "doors"=some none)
  (mo:PySem.W.findIn K (.ref C_Own) "rows"=some none)
  (d5:PySem.W.findIn K (.ref C_Own) "promises"=some none)
  (lC:PySem.W.findIn K (.ref C_Own) "logs"=some none)
  (aD_:PySem.W.nsIn K mainGlobals "DOOR"=some (some (.int (-1) tkD)))
  (cd_is:mI=.ref cD)
  (cu_is:aW=.ref cU)
  (tt_:PySem.W.kitOne K (.type "tuple") (.type "tuple")=some true)
  (ib_:PySem.W.kitOne K (.type "int") (.type "bool")=some false)
  (z_tuple:PySem.W.nsIn K mainGlobals "tuple"=some none)
  (z_len:PySem.W.nsIn K mainGlobals "len"=some none)
  (z_range:PySem.W.nsIn K mainGlobals "range"=some none)
  (z_list:PySem.W.nsIn K mainGlobals "list"=some none)
  (z_isinstance:PySem.W.nsIn K mainGlobals "isinstance"=some none)
  (z_bool:PySem.W.nsIn K mainGlobals "bool"=some none)
  (z_int:PySem.W.nsIn K mainGlobals "int"=some none)
  (z_any:PySem.W.nsIn K mainGlobals "any"=some none)
  (z_min:PySem.W.nsIn K mainGlobals "min"=some none)
  (z_enumerate:PySem.W.nsIn K mainGlobals "enumerate"=some none)
  (z_sorted:PySem.W.nsIn K mainGlobals "sorted"=some none)
  (z_sum:PySem.W.nsIn K mainGlobals "sum"=some none)
  (z_all:PySem.W.nsIn K mainGlobals "all"=some none) :
  ∃fd:FuncData,(∀(s:Shared)(v:Value),BindsTo s fd ⟨[v],[]⟩ [("script",v)])/\∀base:Heap,K.In base->base.Ns mainGlobals mg->Tab K mg base cD PD->Tab K mg base cU PU->FnOk l.prog w K mg base CX0 8 fa fd ["script"] (spLaw PD PU K):=by
 have e:=hfa.symm.trans (PySem.W.mg_of X G a_law)
 cases e
 have T:Txt K mg:=⟨PySem.W.mg_none_of X G z_tuple,PySem.W.mg_none_of X G z_len,PySem.W.mg_none_of X G z_range,PySem.W.mg_none_of X G z_list,PySem.W.mg_none_of X G z_isinstance,PySem.W.mg_none_of X G z_bool,PySem.W.mg_none_of X G z_int,PySem.W.mg_none_of X G z_any,PySem.W.mg_none_of X G z_min,PySem.W.mg_none_of X G z_enumerate,PySem.W.mg_none_of X G z_sorted,PySem.W.mg_none_of X G z_sum,PySem.W.mg_none_of X G z_all⟩
 obtain⟨r_,oQ,rk,r9⟩:=rJ.fn
 have rD:=oQ.binds (ps:=["works","station"]) (by injections)
 have rh:=PySem.W.mg_of X G qq
 obtain⟨rQ,gQ,nL,rV⟩:=nR.fn
 have ny:=gQ.binds (ps:=["works","station"]) (by injections)
 have mU:=PySem.W.mg_of X G m8
 obtain⟨rZ,mB,pJ,rY⟩:=pH.fn
 have pI:=mB.binds (ps:=["works","station"]) (by injections)
 have pO:=PySem.W.mg_of X G pE
 obtain⟨lE,aq,bY,kq⟩:=cr.fn
 obtain⟨ml,aI⟩:=b_
 have ax:=aq.binds (ps:=["self","ways","belts"]) (by injections)
 obtain⟨ox,a_,d2,oM⟩:=eR.fn
 obtain⟨oE,fm⟩:=fI
 have fH:=a_.binds (ps:=["self","way","piece"]) (by injections)
 obtain⟨lG,ar,aA,kn⟩:=cg.fn
 obtain⟨lZ,ay⟩:=ci
 have aw:=ar.binds (ps:=["self","piece"]) (by injections)
 obtain⟨m_,aU,mR,nh⟩:=c3.fn
 obtain⟨c8,cY⟩:=c7
 have c4:=aU.binds (ps:=["self","ways","belts","more"]) (by injections)
 obtain⟨pF,cx,ic,pG⟩:=hE.fn
 obtain⟨hZ,im⟩:=h_
 have ir:=cx.binds (ps:=["self","way","piece"]) (by injections)
 obtain⟨oY,bQ,gu,o8⟩:=fZ.fn
 obtain⟨gk,gF⟩:=gr
 have gz:=bQ.binds (ps:=["self","way","piece"]) (by injections)
 obtain⟨k_,aM,mh,lP⟩:=cq.fn
 obtain⟨bX,bV⟩:=cn
 have cj:=aM.binds (ps:=["self","ways","belts","every"]) (by injections)
 obtain⟨oR,br,fh,n8⟩:=e_.fn
 obtain⟨fk,dZ⟩:=fg
 have eI:=br.binds (ps:=["self","way","piece"]) (by injections)
 obtain⟨mF,aN,my,mH⟩:=cM.fn
 obtain⟨cG,cz⟩:=cI
 have cy:=aN.binds (ps:=["self","ways","belts"]) (by injections)
 obtain⟨o6,bO,gB,o7⟩:=gx.fn
 obtain⟨gp,gf⟩:=gK
 have gc:=bO.binds (ps:=["self","way","piece"]) (by injections)
 obtain⟨pQ,cH,h9,pA⟩:=ij.fn
 have hV:=cH.binds (ps:=["works","station"]) (by injections)
 have ii:=PySem.W.mg_of X G iq
 obtain⟨r6,oo,rK,rf⟩:=rE.fn
 replace cd_is:=rf.trans cd_is
 have rm:=oo.binds (ps:=["works","station"]) (by injections)
 have qt:=PySem.W.mg_of X G rq
 obtain⟨oZ,bR,f9,o4⟩:=gC.fn
 have f8:=bR.binds (ps:=["works","station"]) (by injections)
 have gh:=PySem.W.mg_of X G gy
 obtain⟨oh,bi,oK,oJ⟩:=d9.fn
 obtain⟨eB,fW⟩:=ei
 have dS:=bi.binds (ps:=["self","works"]) (by injections)
 obtain⟨qj,du,iA,qi⟩:=i7.fn
 obtain⟨jo,iD⟩:=j_
 have iJ:=du.binds (ps:=["self","station"]) (by injections)
 obtain⟨rS,gL,nw,rT⟩:=mN.fn
 obtain⟨mZ,nj⟩:=mW
 have mK:=gL.binds (ps:=["self","station","way"]) (by injections)
 obtain⟨oN,a6,d7,oF⟩:=eD.fn
 obtain⟨eQ,fY⟩:=fV
 have fQ:=a6.binds (ps:=["self","station","way"]) (by injections)
 obtain⟨p_,dH,ji,qb⟩:=iG.fn
 obtain⟨iK,iV⟩:=jw
 have iZ:=dH.binds (ps:=["self","station"]) (by injections)
 obtain⟨oq,bx,fG,ff⟩:=fj.fn
 obtain⟨eU,dX⟩:=d4
 replace cu_is:=ff.trans cu_is
 have d6:=bx.binds (ps:=["self","station"]) (by injections)
 obtain⟨rL,eY,lz,qy⟩:=lR.fn
 obtain⟨kt,lF⟩:=mx
 have kj:=eY.binds (ps:=["self","belt","event"]) (by injections)
 obtain⟨ou,bb,fM,oS⟩:=eM.fn
 obtain⟨fq,fw⟩:=eJ
 have fU:=bb.binds (ps:=["self","station","event"]) (by injections)
 obtain⟨ka,aH,bD,kc⟩:=bJ.fn
 obtain⟨bE,bL⟩:=bG
 have bK:=aH.binds (ps:=["self","belt","now"]) (by injections)
 obtain⟨iY,aD,bp,jh⟩:=aZ.fn
 obtain⟨bv,bh⟩:=a8
 have bB:=aD.binds (ps:=["self","station"]) (by injections)
 obtain⟨nq,aS,c9,mL⟩:=c5.fn
 obtain⟨cR,cW⟩:=cX
 have cV:=aS.binds (ps:=["self","station","event"]) (by injections)
 obtain⟨qu,eX,lL,rH⟩:=kh.fn
 obtain⟨ma,lY⟩:=mq
 have lK:=eX.binds (ps:=["self","station"]) (by injections)
 obtain⟨qf,dj,iC,qg⟩:=iN.fn
 have iU:=dj.binds (ps:=["cell","k"]) (by injections)
 have iH:=PySem.W.mg_of X G i5
 obtain⟨qk,dw,jq,qa⟩:=iO.fn
 have jf:=dw.binds (ps:=["script","k"]) (by injections)
 have ju:=PySem.W.mg_of X G i4
 obtain⟨nV,bw,dU,n_⟩:=fN.fn
 have dW:=bw.binds (ps:=["cell"]) (by injections)
 have fz:=PySem.W.mg_of X G fu
 obtain⟨ph,cF,ie,pD⟩:=ik.fn
 have gU:=cF.binds (ps:=["script"]) (by injections)
 have gX:=PySem.W.mg_of X G g_
 obtain⟨rA,d_,ku,rG⟩:=ky.fn
 have ko:=d_.binds (ps:=["station","kept","way","piece","belts"]) (by injections)
 have lS:=PySem.W.mg_of X G lN
 obtain⟨pY,di,iQ,qh⟩:=iz.fn
 have i8:=di.binds (ps:=["works"]) (by injections)
 have iS:=PySem.W.mg_of X G iF
 obtain⟨qe,dz,jb,pU⟩:=ja.fn
 have iL:=dz.binds (ps:=["works","station"]) (by injections)
 have jj:=PySem.W.mg_of X G i_
 obtain⟨rp,fF,lD,qo⟩:=kr.fn
 have lQ:=fF.binds (ps:=["works","until"]) (by injections)
 have lB:=PySem.W.mg_of X G kg
 obtain⟨qc,df,jg,pZ⟩:=jt.fn
 have je:=df.binds (ps:=["script"]) (by injections)
 have iy:=PySem.W.mg_of X G iB
 obtain⟨pX,dh,i9,qd⟩:=iE.fn
 have jv:=dh.binds (ps:=["own","station","until"]) (by injections)
 have iT:=PySem.W.mg_of X G i6
 obtain⟨rW,jz,ow,rX⟩:=ot.fn
 have om:=jz.binds (ps:=["own","works","until"]) (by injections)
 have oA:=PySem.W.mg_of X G oO
 obtain⟨qp,eV,lI,rB⟩:=lU.fn
 have lJ:=eV.binds (ps:=["own","works"]) (by injections)
 have l_:=PySem.W.mg_of X G kx
 obtain⟨o9,bT,gE,oX⟩:=f_.fn
 have gA:=bT.binds (ps:=["own","station","until"]) (by injections)
 have gw:=PySem.W.mg_of X G gd
 obtain⟨rR,gP,m4,rP⟩:=mO.fn
 have nA:=gP.binds (ps:=["works","until"]) (by injections)
 have nG:=PySem.W.mg_of X G mQ
 have F_law:=C3 (st:=(top 35)) l_law c_law k_law
 have b_law:=F_law.binds (ps:=["script"]) (by injections)
 have m_law:=PySem.W.mg_of X G a_law
 have av:=PySem.W.mg_of X G lO
 have rF:Cls K aj:=⟨ke,lm,lA,lq⟩
 have pS:=PySem.W.mg_of X G nZ
 have eE:Cls K ah:=⟨oU,oi,nU,oy⟩
 have oP:=PySem.W.mg_of X G nv
 have gM:Cls K ae:=⟨mV,mM,mP,nJ⟩
 have nC:=PySem.W.mg_of X G kl
 have b9:Cls K ab:=⟨ly,mi,lM,mf⟩
 have oj:=PySem.W.mg_of X G mS
 have c6:Cls K ad:=⟨nr,ng,nQ,m6⟩
 have qx:=PySem.W.mg_of X G pR
 have mE:Cls K ai:=⟨pj,pz,pP,pM⟩
 have g_Own:=PySem.W.mg_of X G qr
 have aE:Cls K C_Own:=⟨rO,qw,qv,rc⟩
 refine⟨PySem.W.fnOf "law" "law" (defArgs (top 35)) (defBody (top 35)) (defScope (top 35)) .none kV_law dc_law pm_law an_law cd_law ct_law,λs v=>.of_eq rfl,λbase _ _ tb tu=>?_⟩
 have g_DOOR:=PySem.W.mg_of X G aD_
 have c:CsOk K ⟨ah,ae,ab,ad,ai⟩:=⟨⟨⟨eE,iu,f6⟩,io⟩,⟨gM,gq,fL⟩,⟨⟨b9,d3,dO⟩,dL,eP⟩,⟨⟨c6,gJ,eF⟩,gn⟩,⟨mE,jy,ib⟩⟩
 have L1:ClsAt l.prog w K mg base 1 aj "__init__" ["self","ways","belts"] (spStI K):=⟨⟨_,_,Am aq T,⟨mw,⟨_,lT,bF⟩,bY⟩,ax⟩⟩
 have O1:MethAt l.prog w K mg base 1 ah "on_first" ["self","piece"] (spOne K):=⟨⟨_,_,Ac ar T,⟨cT,ay,aA⟩,aw⟩,eE⟩
 have O3:MethAt l.prog w K mg base 1 ab "on_first" ["self","piece"] (spOne K):=⟨⟨_,_,Ac ar T,⟨bW,ay,aA⟩,aw⟩,b9⟩
 have O4:MethAt l.prog w K mg base 1 ad "on_first" ["self","piece"] (spOne K):=⟨⟨_,_,Ac ar T,⟨cJ,ay,aA⟩,aw⟩,c6⟩
 have K1:MethAt l.prog w K mg base 2 ah "take" ["self","way","piece"] (spRlT ah):=⟨⟨_,_,FQ cx c.rl O1,⟨hZ,im,ic⟩,ir⟩,eE⟩
 have K2:MethAt l.prog w K mg base 1 ae "take" ["self","way","piece"] (spSrT ae):=⟨⟨_,_,FA bQ T c.so,⟨gk,gF,gu⟩,gz⟩,gM⟩
 have K3:MethAt l.prog w K mg base 2 ab "take" ["self","way","piece"] (spThT ab):=⟨⟨_,_,Ft br c.th O3,⟨fk,dZ,fh⟩,eI⟩,b9⟩
 have K4:MethAt l.prog w K mg base 2 ad "take" ["self","way","piece"] (spJnT ad):=⟨⟨_,_,ES bO T c.jn O4,⟨gp,gf,gB⟩,gc⟩,c6⟩
 have K5:MethAt l.prog w K mg base 1 ai "take" ["self","way","piece"] spNon:=⟨⟨_,_,F5 a_,⟨iR,fm,d2⟩,fH⟩,mE⟩
 have TK:=Ci (cs:=⟨ah,ae,ab,ad,ai⟩) K1 K2 K3 K4 K5
 have M1:MkAt l.prog w K mg base 2 "Relay" ah ["self","ways","belts","more"] (spRlI K):=⟨⟨_,_,FB aU av L1,⟨oT,c8,cY,oV⟩,c4⟩,pS⟩
 have M2:MkAt l.prog w K mg base 1 "Sorter" ae ["self","ways","belts"] (spStI K):=⟨⟨_,_,Am aq T,⟨m3,cQ,aI,mT⟩,ax⟩,oP⟩
 have M3:MkAt l.prog w K mg base 2 "Thinner" ab ["self","ways","belts","every"] (spThI K):=⟨⟨_,_,FL aM av L1,⟨lV,bX,bV,l0⟩,cj⟩,nC⟩
 have M4:MkAt l.prog w K mg base 2 "Joiner" ad ["self","ways","belts"] (spJnI K):=⟨⟨_,_,Fb aN av L1,⟨mY,cG,cz,m7⟩,cy⟩,oj⟩
 have M5:MkAt l.prog w K mg base 1 "Sink" ai ["self","ways","belts"] (spStI K):=⟨⟨_,_,Am aq T,⟨o_,dM,aI,pL⟩,ax⟩,qx⟩
 have GW:FnAt l.prog w K mg base 1 "ways" ["works","station"] spWays:=⟨⟨_,_,pq oQ T g_DOOR,rh,rk,rD⟩⟩
 have GL:FnAt l.prog w K mg base 1 "leaving" ["works","station"] spLeav:=⟨⟨_,_,EA gQ T,mU,nL,ny⟩⟩
 have GS:FnAt l.prog w K mg base 2 "sides" ["works","station"] spSides:=⟨⟨_,_,oz mB GW GL,pO,pJ,pI⟩⟩
 have GO:FnAt l.prog w K mg base 4 "station_of" ["works","station"] (spSo ⟨ah,ae,ab,ad,ai⟩):=⟨⟨_,_,Gq cH c GS M1 M2 M3 M4 M5,ii,h9,hV⟩⟩
 have cO:OwC K C_Own:=⟨aE,fX,iw,iX,mo,d5,lC⟩
 have me:FnAt l.prog w K mg base 1 "door" ["works","station"] (spDoor PD):=⟨⟨_,_,pi oo cd_is tb T,qt,rK,rm⟩⟩
 have aP:FnAt l.prog w K mg base 2 "door_events" ["works","station"] (spDE PD):=⟨⟨_,_,Gi bR g_DOOR me,gh,f9,f8⟩⟩
 have MO:MkAt l.prog w K mg base 5 "Own" C_Own ["self","works"] (spOwI K ⟨ah,ae,ab,ad,ai⟩ C_Own PD):=⟨⟨_,_,Fd bi T cO GO aP,⟨qz,eB,fW,rN⟩,dS⟩,g_Own⟩
 have O_taken:MethAt l.prog w K mg base 1 C_Own "taken" ["self","station"] (spTaken ⟨ah,ae,ab,ad,ai⟩ C_Own):=⟨⟨_,_,Co du T cO,⟨jo,iD,iA⟩,iJ⟩,aE⟩
 have O_row:MethAt l.prog w K mg base 1 C_Own "row" ["self","station","way"] (spRow ⟨ah,ae,ab,ad,ai⟩ C_Own):=⟨⟨_,_,DJ gL g_DOOR cO,⟨mZ,nj,nw⟩,mK⟩,aE⟩
 have O_earliest:MethAt l.prog w K mg base 2 C_Own "earliest" ["self","station","way"] (spEar ⟨ah,ae,ab,ad,ai⟩ C_Own):=⟨⟨_,_,Fc a6 T g_DOOR cO O_row,⟨eQ,fY,d7⟩,fQ⟩,aE⟩
 have O_clock:MethAt l.prog w K mg base 3 C_Own "clock" ["self","station"] (spClk ⟨ah,ae,ab,ad,ai⟩ C_Own):=⟨⟨_,_,EX dH T cO c O_earliest,⟨iK,iV,ji⟩,iZ⟩,aE⟩
 have O_upcoming:MethAt l.prog w K mg base 2 C_Own "upcoming" ["self","station"] (spUpc ⟨ah,ae,ab,ad,ai⟩ C_Own PU):=⟨⟨_,_,F4 bx cu_is tu T cO c O_row,⟨eU,dX,fG⟩,d6⟩,aE⟩
 have O_lets:MethAt l.prog w K mg base 1 C_Own "lets" ["self","belt","event"] (spLets ⟨ah,ae,ab,ad,ai⟩ C_Own):=⟨⟨_,_,DO eY T cO,⟨kt,lF,lz⟩,kj⟩,aE⟩
 have O_may_take:MethAt l.prog w K mg base 2 C_Own "may_take" ["self","station","event"] (spMay ⟨ah,ae,ab,ad,ai⟩ C_Own):=⟨⟨_,_,Fs bb T g_DOOR cO c O_lets,⟨fq,fw,fM⟩,fU⟩,aE⟩
 have O_raise_promise:MethAt l.prog w K mg base 1 C_Own "raise_promise" ["self","belt","now"] (spRp ⟨ah,ae,ab,ad,ai⟩ C_Own):=⟨⟨_,_,Gb aH cO,⟨bE,bL,bD⟩,bK⟩,aE⟩
 have O_raise_promises:MethAt l.prog w K mg base 4 C_Own "raise_promises" ["self","station"] (spRps ⟨ah,ae,ab,ad,ai⟩ C_Own):=⟨⟨_,_,FG aD cO c O_clock O_raise_promise,⟨bv,bh,bp⟩,bB⟩,aE⟩
 have O_take_event:MethAt l.prog w K mg base 3 C_Own "take_event" ["self","station","event"] (spTE ⟨ah,ae,ab,ad,ai⟩ C_Own):=⟨⟨_,_,Gc aS T cO c O_row TK,⟨cR,cW,c9⟩,cV⟩,aE⟩
 have O_step:MethAt l.prog w K mg base 5 C_Own "step" ["self","station"] (spStep ⟨ah,ae,ab,ad,ai⟩ C_Own PU):=⟨⟨_,_,DN eX O_upcoming O_may_take O_take_event O_raise_promises,⟨ma,lY,lL⟩,lK⟩,aE⟩
 have aa:FnAt l.prog w K mg base 1 "_law_stir" ["cell","k"] (spStir):=⟨⟨_,_,DI dj,iH,iC,iU⟩⟩
 have ak:FnAt l.prog w K mg base 1 "_law_cell" ["script","k"] (spCell K):=⟨⟨_,_,DT dw T,ju,jq,jf⟩⟩
 have aK:FnAt l.prog w K mg base 2 "_law_station" ["cell"] (spSta):=⟨⟨_,_,Fa bw aa,fz,dU,dW⟩⟩
 have aV:FnAt l.prog w K mg base 3 "_law_works" ["script"] (spWks K):=⟨⟨_,_,Fh cF T aa ak aK,gX,ie,gU⟩⟩
 have ce:FnAt l.prog w K mg base 1 "_law_put" ["station","kept","way","piece","belts"] (spPutL):=⟨⟨_,_,D0 d_ T,lS,ku,ko⟩⟩
 have bC:FnAt l.prog w K mg base 1 "_law_rows" ["works"] (spRws):=⟨⟨_,_,FS di T,iS,iQ,i8⟩⟩
 have bz:FnAt l.prog w K mg base 1 "_law_kept" ["works","station"] (spKep):=⟨⟨_,_,E3 dz T,jj,jb,iL⟩⟩
 have cp:FnAt l.prog w K mg base 2 "_law_run" ["works","until"] (spRunL):=⟨⟨_,_,pB fF T bC bz ce,lB,lD,lQ⟩⟩
 have bg:FnAt l.prog w K mg base 2 "_law_ring" ["script"] (spWks K):=⟨⟨_,_,Ez df T aa ak,iy,jg,je⟩⟩
 have aY:FnAt l.prog w K mg base 4 "is_behind" ["own","station","until"] (spIb ⟨ah,ae,ab,ad,ai⟩ C_Own):=⟨⟨_,_,Go dh O_clock,iT,i9,jv⟩⟩
 have eZ:FnAt l.prog w K mg base 5 "behind" ["own","works","until"] (spBhd ⟨ah,ae,ab,ad,ai⟩ C_Own):=⟨⟨_,_,Fp jz T aY,oA,ow,om⟩⟩
 have bZ:FnAt l.prog w K mg base 6 "go_round" ["own","works"] (spGor ⟨ah,ae,ab,ad,ai⟩ C_Own PD PU):=⟨⟨_,_,F6 eV T O_step,l_,lI,lJ⟩⟩
 have aQ:FnAt l.prog w K mg base 2 "taken_until" ["own","station","until"] (spTu ⟨ah,ae,ab,ad,ai⟩ C_Own):=⟨⟨_,_,Gn bT O_taken,gw,gE,gA⟩⟩
 have cZ:FnAt l.prog w K mg base 7 "settled" ["works","until"] (spSet ⟨ah,ae,ab,ad,ai⟩ C_Own PD PU):=⟨⟨_,_,FX gP T MO eZ bZ aQ,nG,m4,nA⟩⟩
 exact Fq F_law T tt_ ib_ aa ak aV bg cZ cp
def CodeIn(_:PySem.W.Frag)(_ _:Str)(_ _:Addr):Prop:=True
theorem codeIn_of{K:PySem.W.Frag}{y x:Str}{C f c P:Addr}{oc oc':Value}{od od':Option Addr}{fd:FuncData}{vs:Array Value}{sl sl':Array (Option Value)}(_:PySem.W.nsIn K mainGlobals y=some (some (.ref C)))(_:PySem.W.findIn K (.ref C) x=some (some (.ref f)))(_:K.lookup f=some ⟨oc,od,.func fd,sl⟩)(_:fd.code=.ref c)
  (_:K.lookup c=some ⟨oc',od',.fields vs,sl'⟩) (_:vs[11]?=some (.ref P)):CodeIn K y x c P:=trivial
theorem walk{l:PySem.W.OpenLaw}{q:Program}{loose:List Str}{XP:(Str->Option Value)->Heap->Prop}{YP:World->Heap->Prop}{d:DefRec}{K:Params->PySem.W.Frag}{ts:List Addr}{cD PD cU PU:Addr}(hn:l.most=some 63)(hdf:d.params.defaults=[])
  (hY:∀(w:World)(h:Heap),YP w h->(K w.params).In h) (hYt:∀(w:World)(h:Heap),YP w h->∀P∈ts,h.get? P=some (PySem.W.tabObj #[]))
  (_:∀w:World,PySem.W.tabIn (K w.params) "door"=some (cD,PD)) (_:∀w:World,CodeIn (K w.params) "Own" "upcoming" cU PU)
  (hN1:PD∈ts/\∀w:World,PySem.W.codeHdIn (K w.params) cD PD=true/\(K w.params).lookup PD=none) (hN2:PU∈ts/\∀w:World,PySem.W.codeHdIn (K w.params) cU PU=true/\(K w.params).lookup PU=none) (ne:PD≠PU)
  (F:∀(w:World)(mg:Str->Option Value)(fa:Addr)(h:Heap),(K w.params).In h->h.Ns mainGlobals mg->mg d.name=some (.ref fa) ->
   ∃fd:FuncData,(∀(s:Shared)(u:Value),BindsTo s fd ⟨[u],[]⟩ [("script",u)])/\∀base:Heap,(K w.params).In base->base.Ns mainGlobals mg->Tab (K w.params) mg base cD PD->Tab (K w.params) mg base cU PU->FnOk l.prog w (K w.params) mg base CX0 8 fa fd ["script"] (spLaw PD PU (K w.params))) :
  PySem.W.WalkO q loose XP YP l.row.toRowW d [] (λf vs=>PySem.call f vs):=by
 refine Att.attach_call hn hdf λw s₀ s₁ mg mb fa o pm cd doc a vs ns G Y ho hd hcd hmg hobj hints hlen hg=>?_
 have KX:=hY w _ Y
 obtain⟨fd,hb,hF⟩:=F w mg fa _ KX G.T.g hmg
 have mk:∀{c P:Addr},P∈ts->PySem.W.codeHdIn (K w.params) c P=true->(K w.params).lookup P=none->Tab (K w.params) mg s₁.heap c P/\s₁.heap.get? P=some (PySem.W.tabObj #[])/\(K w.params).lookup P=none:=fun {c P} h1 h2 h3=>by
  have hP:=hYt w _ Y P h1
  obtain⟨bm,ob,b1,b2,b3,b4,b5,b6⟩:=G.T.bmain
  have hbP:bm≠P:=λq=>by rw[q,hP]at b3;cases b3;cases b4
  have hbG:bm≠mainGlobals:=λq=>by
   obtain⟨o,es,ep,e,hd,_⟩:=G.T.g
   rw[q,e]at b3;cases b3;rw[hd]at b6;cases b6
  exact⟨⟨PySem.W.codeHd_of_K KX h2,⟨bm,ob,b1,b2,hbG,hbP,b3,b4,b5,b6⟩⟩,hP,h3⟩
 refine L2.law_callT (k:=8) (x:="script") (CX:=CX0) (sp:=spLaw PD PU (K w.params)) (tabs:=[(cD,PD),(cU,PU)]) KX G.T.g G.T.b G.T.builtins G.T.nolimit hg hobj hints (z0 hlen (by decide)) ⟨rfl,by decide,by decide⟩ (λt ht=>?_) (λbase kb nb hTb=>hF base kb nb (hTb _ zJ) (hTb _ (zL _ zJ))) hb (λH hO hS=>?_) λH e s' z=>z
 ·rcases zR.mp ht with e|e
  ·rw[e];exact mk hN1.1 (hN1.2 w).1 (hN1.2 w).2
  ·rw[zG.mp e];exact mk hN2.1 (hN2.2 w).1 (hN2.2 w).2
 ·have tb:∀P∈[PD,PU],H P=some (.tbl #[]):=λP hP=>by
   rcases hO P with ⟨_,h⟩|⟨h,_⟩
   ·exact h
   ·exact absurd hP h
  exact⟨a,ns,rfl,hS,hlen,.inl (tb PD zJ),.inl (tb PU (zL _ zJ)),ne,λ_=>rfl⟩
end Oc
namespace Oc
open PySem PySem.W PyProof.Rows PySem.Calls
abbrev pW:Program:=PySem.Challenge.pw_ownclocks_k32_whole_settled_as_by_one_cl
noncomputable def hEnv:Env:={ scope:=pW.main.scope,locals:=mainNs,globals:=mainNs,cells:=[],code:=.ref 13,frame:=some 14 }
noncomputable def hB:List Stmt:=behindTheImports pW
noncomputable def hC:Code:=.body hB hEnv
noncomputable def hF:List Frame:=[topFrame ⟨0,0,0,0⟩]
noncomputable def o11:Obj:=⟨.type "tuple",none,.seq #[] 0,#[]⟩
noncomputable def o12:Obj:=⟨.none,none,.fields #[],#[]⟩
noncomputable def o13:Obj:=⟨.type "code",none,.fields #[.str "<module>" 182,.str "<module>" 183,.str "/claim/cut.py" 184,.int 1 0,.int 0 0,.int 0 0,.int 0 0,.int 0 0,.ref 11,.bool false,.int 181 0,.ref 12,.none,.none,.none,.none,.int 185 0,.int 1 0,.str "/claim/cut.py" 186],#[]⟩
noncomputable def o14:Obj:=⟨.type "frame",none,.plain,#[some (.ref 13),some (.ref 3),some (.ref 3),none,some (.str "__main__" 164),none,some (.ref 0)]⟩
noncomputable def hT(P:Params):BT:=(.node (boot_o_0 P) (.node (boot_o_1 P) (.node (boot_o_3 P) (.node (boot_o_7 P) .nil .nil) (.node o11 .nil .nil)) (.node (boot_o_5 P) (.node (boot_o_9 P) .nil .nil) (.node o13 .nil .nil))) (.node (boot_o_2 P) (.node (boot_o_4 P) (.node (boot_o_8 P) .nil .nil) (.node o12 .nil .nil)) (.node (boot_o_6 P) (.node (boot_o_10 P) .nil .nil) (.node o14 .nil .nil))))
noncomputable def hS(w:World)(os:OsState):SharedT:=⟨hT w.params,15,(boot_heap w.params).life,#[],boot_drawn,187,os⟩
theorem Gg(w:World)(s:SharedT)(q:Pos):topRun treeTable pW w 11 (some (.ref 6)) 2 s.abs ⟨doneF .next,hC,q,hF⟩=some s.abs:=rfl
theorem DK(w:World)(os:OsState):segRunT treeTable pW w 11 (some (.ref 6)) 1 1 (hS w os) (blockOf hB hEnv hC ⟨0,0,0,0⟩ hF)=some (.next,hS w os,hC,⟨0,0,0,0⟩):=by
 kernel_rfl
theorem Ge(w:World)(os:OsState):topGo treeTable pW w 11 (some (.ref 6)) 12 ⟨boot_heap w.params,#[],boot_drawn,boot_toks,os⟩ (topStub pW)=some ((hS w os).abs,⟨denote treeTable hC,hC,⟨0,0,0,0⟩,hF⟩):=by
 kernel_rfl
noncomputable def dE(P:Params)(k:Str)(t:Nat)(v:Value):DictEntry:=⟨PyData.keyHash P k,.str k t,v⟩
noncomputable def cO(nm ql:Str)(t ln ac fl:Nat)(tp:Addr)(b:Bool)(tb:Addr)(x y z:Value)(T:Nat):Obj:=⟨.type "code",none,.fields #[.str nm t,.str ql (t+1),.str "/claim/cut.py" (t+2),.int ln 0,.int ac 0,.int 0 0,.int 0 0,.int fl 0,.ref tp,.bool b,.int 181 0,.ref tb,.none,x,y,z,.int T 0,.int ln 0,.str "/claim/cut.py" (T+1)],#[]⟩
noncomputable def fO(s:Stmt)(nm ql:Str)(pm cd:Value):Obj:=⟨.type "function",none,.func (fnOf nm ql (L2.defArgs s) (L2.defBody s) (L2.defScope s) .none .none .none pm none cd .none),#[]⟩
noncomputable def cL(nm:Str)(bs mr:List Value)(ns:Addr)(ql:Str)(hd:Bool)(sub:List Value):ClassData:={ name:=nm,bases:=bs,mro:=mr,ns:=ns,qualname:=ql,hasDict:=hd,subclasses:=sub }
noncomputable def hK:Params->Frag:=λP=>(nat_lit 2,⟨.none,none,.dict #[] 0,#[]⟩) ::
 (nat_lit 3,⟨.type "dict",none,.dict #[dE P "__name__" 165 (.str "law_ownclocks_k32_whole_settled_as_by_one_cl" 627),dE P "__doc__" 166 (.none),dE P "__package__" 167 (.none),dE P "__loader__" 168 (.builtin "__main__.__loader__#opaque"),dE P "__spec__" 169 (.none),dE P "__annotations__" 170 (.ref 6),dE P "__builtins__" 171 (.ref 4),dE P "__file__" 173 (.str "/claim/cut.py" 172),dE P "__cached__" 174 (.none),dE P "_wall" 193 (.ref 21),dE P "DOOR" 198 (.int (-1) 197),dE P "ways" 204 (.ref 26),dE P "door" 210 (.ref 31),dE P "door_events" 216 (.ref 36),dE P "leaving" 222 (.ref 41),dE P "sides" 230 (.ref 48),dE P "Station" 280 (.ref 79),dE P "Relay" 316 (.ref 107),dE P "Sorter" 341 (.ref 126),dE P "Thinner" 378 (.ref 152),dE P "Joiner" 411 (.ref 176),dE P "Sink" 427 (.ref 188),dE P "station_of" 438 (.ref 197),dE P "Own" 587 (.ref 297),dE P "is_behind" 599 (.ref 308),dE P "behind" 605 (.ref 313),dE P "go_round" 614 (.ref 320),dE P "taken_until" 620 (.ref 325),dE P "settled" 626 (.ref 330),dE P "_law_stir" 637 (.ref 337),dE P "_law_cell" 645 (.ref 344),dE P "_law_station" 653 (.ref 351),dE P "_law_works" 659 (.ref 356),dE P "_law_turns" 665 (.ref 361),dE P "_law_put" 671 (.ref 366),dE P "_law_rows" 685 (.ref 373),dE P "_law_kept" 691 (.ref 378),dE P "_law_run" 697 (.ref 383),dE P "_law_ring" 703 (.ref 388),dE P "law" 709 (.ref 393)] 40,#[]⟩) ::
 (nat_lit 13,cO "<module>" "<module>" 182 1 0 0 11 false 12 (.none) (.none) (.none) 185) ::
 (nat_lit 20,cO "_wall" "_wall" 187 1 1 3 15 true 16 (.ref 17) (.ref 18) (.ref 19) 191) ::
 (nat_lit 21,fO (top 0) "_wall" "_wall" (.str "__main__" 164) (.ref 20)) ::
 (nat_lit 25,cO "ways" "ways" 199 6 2 3 22 true 23 (.none) (.none) (.ref 24) 202) ::
 (nat_lit 26,fO (top 3) "ways" "ways" (.str "ownclocks.works" 194) (.ref 25)) ::
 (nat_lit 30,cO "door" "door" 205 10 2 3 27 true 28 (.none) (.none) (.ref 29) 208) ::
 (nat_lit 31,fO (top 4) "door" "door" (.str "ownclocks.works" 194) (.ref 30)) ::
 (nat_lit 35,cO "door_events" "door_events" 211 13 2 3 32 true 33 (.none) (.none) (.ref 34) 214) ::
 (nat_lit 36,fO (top 5) "door_events" "door_events" (.str "ownclocks.works" 194) (.ref 35)) ::
 (nat_lit 40,cO "leaving" "leaving" 217 15 2 3 37 true 38 (.none) (.none) (.ref 39) 220) ::
 (nat_lit 41,fO (top 6) "leaving" "leaving" (.str "ownclocks.works" 194) (.ref 40)) ::
 (nat_lit 47,cO "sides" "sides" 223 17 2 3 42 true 43 (.ref 44) (.ref 45) (.ref 46) 228) ::
 (nat_lit 48,fO (top 7) "sides" "sides" (.str "ownclocks.works" 194) (.ref 47)) ::
 (nat_lit 54,cO "Station" "Station" 235 20 0 0 52 false 53 (.none) (.none) (.none) 238) ::
 (nat_lit 61,cO "__init__" "Station.__init__" 245 22 3 3 56 true 57 (.ref 58) (.ref 59) (.ref 60) 251) ::
 (nat_lit 62,fO (L2.inClass (top 9) 0) "__init__" "Station.__init__" (.str "ownclocks.kinds" 231) (.ref 61)) ::
 (nat_lit 68,cO "take" "Station.take" 254 26 3 3 63 true 64 (.ref 65) (.ref 66) (.ref 67) 260) ::
 (nat_lit 69,fO (L2.inClass (top 9) 1) "take" "Station.take" (.str "ownclocks.kinds" 231) (.ref 68)) ::
 (nat_lit 75,cO "on_first" "Station.on_first" 263 29 2 3 70 true 71 (.ref 72) (.ref 73) (.ref 74) 268) ::
 (nat_lit 76,fO (L2.inClass (top 9) 2) "on_first" "Station.on_first" (.str "ownclocks.kinds" 231) (.ref 75)) ::
 (nat_lit 78,⟨.type "dict",none,.dict #[dE P "__module__" 240 (.str "ownclocks.kinds" 231),dE P "__firstlineno__" 244 (.int 20 243),dE P "__init__" 253 (.ref 62),dE P "take" 262 (.ref 69),dE P "on_first" 270 (.ref 76),dE P "__static_attributes__" 273 (.ref 77),dE P "__dict__" 275 (.ref 80),dE P "__weakref__" 277 (.ref 81),dE P "__doc__" 278 (.none)] 4,#[]⟩) ::
 (nat_lit 79,⟨.type "type",none,.cls (cL "Station" [.type "object"] [.ref 79,.type "object"] 78 "Station" true [.ref 107,.ref 126,.ref 152,.ref 176,.ref 188]),#[none,none,some (.str "Station" 233),some (.str "Station" 241),some (.builtin "object.__new__"),some (.bool true)]⟩) ::
 (nat_lit 80,⟨.type "getset_descriptor",none,.fields #[.str "__dict__" 274,.ref 79,.builtin "function.__dict__",.builtin "function.__dict__#set"],#[]⟩) ::
 (nat_lit 81,⟨.type "getset_descriptor",none,.fields #[.str "__weakref__" 276,.ref 79,.builtin "ExceptionGroup.__weakref__",.none],#[]⟩) ::
 (nat_lit 84,⟨.type "tuple",none,.seq #[.ref 79] 0,#[]⟩) ::
 (nat_lit 89,cO "Relay" "Relay" 283 31 0 0 87 false 88 (.none) (.none) (.none) 286) ::
 (nat_lit 96,cO "__init__" "Relay.__init__" 293 33 4 3 91 true 92 (.ref 93) (.ref 94) (.ref 95) 300) ::
 (nat_lit 97,fO (L2.inClass (top 10) 0) "__init__" "Relay.__init__" (.str "ownclocks.kinds" 231) (.ref 96)) ::
 (nat_lit 103,cO "take" "Relay.take" 303 37 3 3 98 true 99 (.ref 100) (.ref 101) (.ref 102) 309) ::
 (nat_lit 104,fO (L2.inClass (top 10) 1) "take" "Relay.take" (.str "ownclocks.kinds" 231) (.ref 103)) ::
 (nat_lit 106,⟨.type "dict",none,.dict #[dE P "__module__" 288 (.str "ownclocks.kinds" 231),dE P "__firstlineno__" 292 (.int 31 291),dE P "__init__" 302 (.ref 97),dE P "take" 311 (.ref 104),dE P "__static_attributes__" 313 (.ref 105),dE P "__doc__" 314 (.none)] 2,#[]⟩) ::
 (nat_lit 107,⟨.type "type",none,.cls (cL "Relay" [.ref 79] [.ref 107,.ref 79,.type "object"] 106 "Relay" true []),#[some (.ref 84),none,some (.str "Relay" 281),some (.str "Relay" 289),some (.builtin "object.__new__"),some (.bool true)]⟩) ::
 (nat_lit 110,⟨.type "tuple",none,.seq #[.ref 79] 0,#[]⟩) ::
 (nat_lit 115,cO "Sorter" "Sorter" 319 39 0 0 113 false 114 (.none) (.none) (.none) 322) ::
 (nat_lit 122,cO "take" "Sorter.take" 329 41 3 3 117 true 118 (.ref 119) (.ref 120) (.ref 121) 335) ::
 (nat_lit 123,fO (L2.inClass (top 11) 0) "take" "Sorter.take" (.str "ownclocks.kinds" 231) (.ref 122)) ::
 (nat_lit 125,⟨.type "dict",none,.dict #[dE P "__module__" 324 (.str "ownclocks.kinds" 231),dE P "__firstlineno__" 328 (.int 39 327),dE P "take" 337 (.ref 123),dE P "__static_attributes__" 338 (.ref 124),dE P "__doc__" 339 (.none)] 2,#[]⟩) ::
 (nat_lit 126,⟨.type "type",none,.cls (cL "Sorter" [.ref 79] [.ref 126,.ref 79,.type "object"] 125 "Sorter" true []),#[some (.ref 110),none,some (.str "Sorter" 317),some (.str "Sorter" 325),some (.builtin "object.__new__"),some (.bool true)]⟩) ::
 (nat_lit 129,⟨.type "tuple",none,.seq #[.ref 79] 0,#[]⟩) ::
 (nat_lit 134,cO "Thinner" "Thinner" 344 45 0 0 132 false 133 (.none) (.none) (.none) 347) ::
 (nat_lit 141,cO "__init__" "Thinner.__init__" 354 47 4 3 136 true 137 (.ref 138) (.ref 139) (.ref 140) 361) ::
 (nat_lit 142,fO (L2.inClass (top 12) 0) "__init__" "Thinner.__init__" (.str "ownclocks.kinds" 231) (.ref 141)) ::
 (nat_lit 148,cO "take" "Thinner.take" 364 52 3 3 143 true 144 (.ref 145) (.ref 146) (.ref 147) 370) ::
 (nat_lit 149,fO (L2.inClass (top 12) 1) "take" "Thinner.take" (.str "ownclocks.kinds" 231) (.ref 148)) ::
 (nat_lit 151,⟨.type "dict",none,.dict #[dE P "__module__" 349 (.str "ownclocks.kinds" 231),dE P "__firstlineno__" 353 (.int 45 352),dE P "__init__" 363 (.ref 142),dE P "take" 372 (.ref 149),dE P "__static_attributes__" 375 (.ref 150),dE P "__doc__" 376 (.none)] 2,#[]⟩) ::
 (nat_lit 152,⟨.type "type",none,.cls (cL "Thinner" [.ref 79] [.ref 152,.ref 79,.type "object"] 151 "Thinner" true []),#[some (.ref 129),none,some (.str "Thinner" 342),some (.str "Thinner" 350),some (.builtin "object.__new__"),some (.bool true)]⟩) ::
 (nat_lit 155,⟨.type "tuple",none,.seq #[.ref 79] 0,#[]⟩) ::
 (nat_lit 160,cO "Joiner" "Joiner" 381 57 0 0 158 false 159 (.none) (.none) (.none) 384) ::
 (nat_lit 167,cO "__init__" "Joiner.__init__" 391 59 3 3 162 true 163 (.ref 164) (.ref 165) (.ref 166) 398) ::
 (nat_lit 168,fO (L2.inClass (top 13) 0) "__init__" "Joiner.__init__" (.str "ownclocks.kinds" 231) (.ref 167)) ::
 (nat_lit 172,cO "take" "Joiner.take" 401 65 3 3 169 true 170 (.none) (.none) (.ref 171) 404) ::
 (nat_lit 173,fO (L2.inClass (top 13) 1) "take" "Joiner.take" (.str "ownclocks.kinds" 231) (.ref 172)) ::
 (nat_lit 175,⟨.type "dict",none,.dict #[dE P "__module__" 386 (.str "ownclocks.kinds" 231),dE P "__firstlineno__" 390 (.int 57 389),dE P "__init__" 400 (.ref 168),dE P "take" 406 (.ref 173),dE P "__static_attributes__" 408 (.ref 174),dE P "__doc__" 409 (.none)] 2,#[]⟩) ::
 (nat_lit 176,⟨.type "type",none,.cls (cL "Joiner" [.ref 79] [.ref 176,.ref 79,.type "object"] 175 "Joiner" true []),#[some (.ref 155),none,some (.str "Joiner" 379),some (.str "Joiner" 387),some (.builtin "object.__new__"),some (.bool true)]⟩) ::
 (nat_lit 179,⟨.type "tuple",none,.seq #[.ref 79] 0,#[]⟩) ::
 (nat_lit 184,cO "Sink" "Sink" 414 73 0 0 182 false 183 (.none) (.none) (.none) 417) ::
 (nat_lit 187,⟨.type "dict",none,.dict #[dE P "__module__" 419 (.str "ownclocks.kinds" 231),dE P "__firstlineno__" 423 (.int 73 422),dE P "__static_attributes__" 424 (.ref 186),dE P "__doc__" 425 (.none)] 2,#[]⟩) ::
 (nat_lit 188,⟨.type "type",none,.cls (cL "Sink" [.ref 79] [.ref 188,.ref 79,.type "object"] 187 "Sink" true []),#[some (.ref 179),none,some (.str "Sink" 412),some (.str "Sink" 420),some (.builtin "object.__new__"),some (.bool true)]⟩) ::
 (nat_lit 196,cO "station_of" "station_of" 428 75 2 3 191 true 192 (.ref 193) (.ref 194) (.ref 195) 436) ::
 (nat_lit 197,fO (top 15) "station_of" "station_of" (.str "ownclocks.kinds" 231) (.ref 196)) ::
 (nat_lit 203,cO "Own" "Own" 443 89 0 0 201 false 202 (.none) (.none) (.none) 446) ::
 (nat_lit 208,cO "__init__" "Own.__init__" 453 91 2 3 205 true 206 (.none) (.none) (.ref 207) 456) ::
 (nat_lit 209,fO (L2.inClass (top 17) 0) "__init__" "Own.__init__" (.str "ownclocks.own" 439) (.ref 208)) ::
 (nat_lit 215,cO "taken" "Own.taken" 459 99 2 3 210 true 211 (.ref 212) (.ref 213) (.ref 214) 464) ::
 (nat_lit 216,fO (L2.inClass (top 17) 1) "taken" "Own.taken" (.str "ownclocks.own" 439) (.ref 215)) ::
 (nat_lit 222,cO "waiting" "Own.waiting" 467 102 2 3 217 true 218 (.ref 219) (.ref 220) (.ref 221) 472) ::
 (nat_lit 223,fO (L2.inClass (top 17) 2) "waiting" "Own.waiting" (.str "ownclocks.own" 439) (.ref 222)) ::
 (nat_lit 229,cO "promise" "Own.promise" 475 105 2 3 224 true 225 (.ref 226) (.ref 227) (.ref 228) 480) ::
 (nat_lit 230,fO (L2.inClass (top 17) 3) "promise" "Own.promise" (.str "ownclocks.own" 439) (.ref 229)) ::
 (nat_lit 234,cO "clock" "Own.clock" 483 108 2 3 231 true 232 (.none) (.none) (.ref 233) 486) ::
 (nat_lit 235,fO (L2.inClass (top 17) 4) "clock" "Own.clock" (.str "ownclocks.own" 439) (.ref 234)) ::
 (nat_lit 241,cO "step" "Own.step" 489 112 2 3 236 true 237 (.ref 238) (.ref 239) (.ref 240) 497) ::
 (nat_lit 242,fO (L2.inClass (top 17) 5) "step" "Own.step" (.str "ownclocks.own" 439) (.ref 241)) ::
 (nat_lit 248,cO "row" "Own.row" 500 122 3 3 243 true 244 (.ref 245) (.ref 246) (.ref 247) 506) ::
 (nat_lit 249,fO (L2.inClass (top 17) 6) "row" "Own.row" (.str "ownclocks.own" 439) (.ref 248)) ::
 (nat_lit 255,cO "earliest" "Own.earliest" 509 125 3 3 250 true 251 (.ref 252) (.ref 253) (.ref 254) 516) ::
 (nat_lit 256,fO (L2.inClass (top 17) 7) "earliest" "Own.earliest" (.str "ownclocks.own" 439) (.ref 255)) ::
 (nat_lit 260,cO "upcoming" "Own.upcoming" 519 131 2 3 257 true 258 (.none) (.none) (.ref 259) 522) ::
 (nat_lit 261,fO (L2.inClass (top 17) 8) "upcoming" "Own.upcoming" (.str "ownclocks.own" 439) (.ref 260)) ::
 (nat_lit 265,cO "may_take" "Own.may_take" 525 136 3 3 262 true 263 (.none) (.none) (.ref 264) 528) ::
 (nat_lit 266,fO (L2.inClass (top 17) 9) "may_take" "Own.may_take" (.str "ownclocks.own" 439) (.ref 265)) ::
 (nat_lit 272,cO "lets" "Own.lets" 531 139 3 3 267 true 268 (.ref 269) (.ref 270) (.ref 271) 538) ::
 (nat_lit 273,fO (L2.inClass (top 17) 10) "lets" "Own.lets" (.str "ownclocks.own" 439) (.ref 272)) ::
 (nat_lit 279,cO "take_event" "Own.take_event" 541 145 3 3 274 true 275 (.ref 276) (.ref 277) (.ref 278) 549) ::
 (nat_lit 280,fO (L2.inClass (top 17) 11) "take_event" "Own.take_event" (.str "ownclocks.own" 439) (.ref 279)) ::
 (nat_lit 286,cO "raise_promises" "Own.raise_promises" 552 153 2 3 281 true 282 (.ref 283) (.ref 284) (.ref 285) 560) ::
 (nat_lit 287,fO (L2.inClass (top 17) 12) "raise_promises" "Own.raise_promises" (.str "ownclocks.own" 439) (.ref 286)) ::
 (nat_lit 293,cO "raise_promise" "Own.raise_promise" 563 161 3 3 288 true 289 (.ref 290) (.ref 291) (.ref 292) 571) ::
 (nat_lit 294,fO (L2.inClass (top 17) 13) "raise_promise" "Own.raise_promise" (.str "ownclocks.own" 439) (.ref 293)) ::
 (nat_lit 296,⟨.type "dict",none,.dict #[dE P "__module__" 448 (.str "ownclocks.own" 439),dE P "__firstlineno__" 452 (.int 89 451),dE P "__init__" 458 (.ref 209),dE P "taken" 466 (.ref 216),dE P "waiting" 474 (.ref 223),dE P "promise" 482 (.ref 230),dE P "clock" 488 (.ref 235),dE P "step" 499 (.ref 242),dE P "row" 508 (.ref 249),dE P "earliest" 518 (.ref 256),dE P "upcoming" 524 (.ref 261),dE P "may_take" 530 (.ref 266),dE P "lets" 540 (.ref 273),dE P "take_event" 551 (.ref 280),dE P "raise_promises" 562 (.ref 287),dE P "raise_promise" 573 (.ref 294),dE P "__static_attributes__" 580 (.ref 295),dE P "__dict__" 582 (.ref 298),dE P "__weakref__" 584 (.ref 299),dE P "__doc__" 585 (.none)] 4,#[]⟩) ::
 (nat_lit 297,⟨.type "type",none,.cls (cL "Own" [.type "object"] [.ref 297,.type "object"] 296 "Own" true []),#[none,none,some (.str "Own" 441),some (.str "Own" 449),some (.builtin "object.__new__"),some (.bool true)]⟩) ::
 (nat_lit 298,⟨.type "getset_descriptor",none,.fields #[.str "__dict__" 581,.ref 297,.builtin "function.__dict__",.builtin "function.__dict__#set"],#[]⟩) ::
 (nat_lit 299,⟨.type "getset_descriptor",none,.fields #[.str "__weakref__" 583,.ref 297,.builtin "ExceptionGroup.__weakref__",.none],#[]⟩) ::
 (nat_lit 307,cO "is_behind" "is_behind" 590 169 3 3 302 true 303 (.ref 304) (.ref 305) (.ref 306) 597) ::
 (nat_lit 308,fO (top 19) "is_behind" "is_behind" (.str "ownclocks.together" 588) (.ref 307)) ::
 (nat_lit 312,cO "behind" "behind" 600 172 3 3 309 true 310 (.none) (.none) (.ref 311) 603) ::
 (nat_lit 313,fO (top 20) "behind" "behind" (.str "ownclocks.together" 588) (.ref 312)) ::
 (nat_lit 319,cO "go_round" "go_round" 606 174 2 3 314 true 315 (.ref 316) (.ref 317) (.ref 318) 612) ::
 (nat_lit 320,fO (top 21) "go_round" "go_round" (.str "ownclocks.together" 588) (.ref 319)) ::
 (nat_lit 324,cO "taken_until" "taken_until" 615 177 3 3 321 true 322 (.none) (.none) (.ref 323) 618) ::
 (nat_lit 325,fO (top 22) "taken_until" "taken_until" (.str "ownclocks.together" 588) (.ref 324)) ::
 (nat_lit 329,cO "settled" "settled" 621 179 2 3 326 true 327 (.none) (.none) (.ref 328) 624) ::
 (nat_lit 330,fO (top 23) "settled" "settled" (.str "ownclocks.together" 588) (.ref 329)) ::
 (nat_lit 336,cO "_law_stir" "_law_stir" 629 187 2 3 331 true 332 (.ref 333) (.ref 334) (.ref 335) 635) ::
 (nat_lit 337,fO (top 25) "_law_stir" "_law_stir" (.str "law_ownclocks_k32_whole_settled_as_by_one_cl" 627) (.ref 336)) ::
 (nat_lit 343,cO "_law_cell" "_law_cell" 638 191 2 3 338 true 339 (.ref 340) (.ref 341) (.ref 342) 643) ::
 (nat_lit 344,fO (top 26) "_law_cell" "_law_cell" (.str "law_ownclocks_k32_whole_settled_as_by_one_cl" 627) (.ref 343)) ::
 (nat_lit 350,cO "_law_station" "_law_station" 646 193 1 3 345 true 346 (.ref 347) (.ref 348) (.ref 349) 651) ::
 (nat_lit 351,fO (top 27) "_law_station" "_law_station" (.str "law_ownclocks_k32_whole_settled_as_by_one_cl" 627) (.ref 350)) ::
 (nat_lit 355,cO "_law_works" "_law_works" 654 200 1 3 352 true 353 (.none) (.none) (.ref 354) 657) ::
 (nat_lit 356,fO (top 28) "_law_works" "_law_works" (.str "law_ownclocks_k32_whole_settled_as_by_one_cl" 627) (.ref 355)) ::
 (nat_lit 360,cO "_law_turns" "_law_turns" 660 218 3 3 357 true 358 (.none) (.none) (.ref 359) 663) ::
 (nat_lit 361,fO (top 29) "_law_turns" "_law_turns" (.str "law_ownclocks_k32_whole_settled_as_by_one_cl" 627) (.ref 360)) ::
 (nat_lit 365,cO "_law_put" "_law_put" 666 223 5 3 362 true 363 (.none) (.none) (.ref 364) 669) ::
 (nat_lit 366,fO (top 30) "_law_put" "_law_put" (.str "law_ownclocks_k32_whole_settled_as_by_one_cl" 627) (.ref 365)) ::
 (nat_lit 372,cO "_law_rows" "_law_rows" 672 242 1 3 367 true 368 (.ref 369) (.ref 370) (.ref 371) 683) ::
 (nat_lit 373,fO (top 31) "_law_rows" "_law_rows" (.str "law_ownclocks_k32_whole_settled_as_by_one_cl" 627) (.ref 372)) ::
 (nat_lit 377,cO "_law_kept" "_law_kept" 686 253 2 3 374 true 375 (.none) (.none) (.ref 376) 689) ::
 (nat_lit 378,fO (top 32) "_law_kept" "_law_kept" (.str "law_ownclocks_k32_whole_settled_as_by_one_cl" 627) (.ref 377)) ::
 (nat_lit 382,cO "_law_run" "_law_run" 692 263 2 3 379 true 380 (.none) (.none) (.ref 381) 695) ::
 (nat_lit 383,fO (top 33) "_law_run" "_law_run" (.str "law_ownclocks_k32_whole_settled_as_by_one_cl" 627) (.ref 382)) ::
 (nat_lit 387,cO "_law_ring" "_law_ring" 698 281 1 3 384 true 385 (.none) (.none) (.ref 386) 701) ::
 (nat_lit 388,fO (top 34) "_law_ring" "_law_ring" (.str "law_ownclocks_k32_whole_settled_as_by_one_cl" 627) (.ref 387)) ::
 (nat_lit 392,cO "law" "law" 704 291 1 3 389 true 390 (.none) (.none) (.ref 391) 707) ::
 (nat_lit 393,fO (top 35) "law" "law" (.str "law_ownclocks_k32_whole_settled_as_by_one_cl" 627) (.ref 392))::[]
noncomputable def hA:List Addr:=[2,3,13,20,21,25,26,30,31,35,36,40,41,47,48,54,61,62,68,69,75,76,78,79,80,81,84,89,96,97,103,104,106,107,110,115,122,123,125,126,129,134,141,142,148,149,151,152,155,160,167,168,172,173,175,176,179,184,187,188,196,197,203,208,209,215,216,222,223,229,230,234,235,241,242,248,249,255,256,260,261,265,266,272,273,279,280,286,287,293,294,296,297,298,299,307,308,312,313,319,320,324,325,329,330,336,337,343,344,350,351,355,356,360,361,365,366,372,373,377,378,382,383,387,388,392,393]
noncomputable def hTs:List Addr:=[28,258]
noncomputable def hL:List Str:=["_wall","DOOR","ways","door","door_events","leaving","sides","Station","Relay","Sorter","Thinner","Joiner","Sink","station_of","Own","is_behind","behind","go_round","taken_until","settled","_law_stir","_law_cell","_law_station","_law_works","_law_turns","_law_put","_law_rows","_law_kept","_law_run","_law_ring"]
noncomputable def hQ:Program:={ pW with main:={ pW.main with body:=[top 35] } }
noncomputable def hX(s:Shared):Bool:=recOk [] s
noncomputable def hYf(s:Shared):List (Option Obj)×List (Option Obj):=(hA.map s.heap.get?,hTs.map s.heap.get?)
noncomputable def hYa(w:World):List (Option Obj)×List (Option Obj):=((hK w.params).map λp=>some p.2,hTs.map λ_=>some (tabObj #[]))
noncomputable def hLook(w:World)(s:Shared):=(staticsOk (importedModules pW.main.body) (boot_heap w.params) s.heap&&namesBound pW s.heap&&gensDone s&&laidKept (boot_heap w.params) s.heap,openSeen hQ hL (importedModules pW.main.body) hX true s,hYf s)
theorem Gr(w:World)(os:OsState):(segRunT treeTable pW w 11 (some (.ref 6)) 1 2933 (hS w os) (piecesOf hB hEnv hC ⟨0,0,0,0⟩ hF)).map (λr=>(r.1,r.2.2.1,r.2.2.2,hLook w r.2.1.abs))=some (.next,hC,⟨291,0,307,15⟩,true,openGood hQ hL,hYa w):=by
 unfold hLook
 rw[Fast.te10110043849684766642,Fast.te14364793385576792824,Fast.te4187177175401517315,Fast.te5923862056798008813]
 kernel_rfl
theorem BX{p q:Program}{loose:List Str}{Xt:Shared->Bool}{α:Type}{Yf:Shared->α}{Ya:World->α}{N:Nat}{g0:Bool}{H₀:Params->Heap}{gs₀:Array GenState}{d₀:Drawn}{k₀ m₀:Nat}{ann:Option Value}{M:Nat}
  (open_:∀w:World,(fencedOpening treeTable p w N).map (λs=>(s.heap,s.gens,s.drawn,s.toks))=some (H₀ w.params,gs₀,d₀,k₀))
  (size:∀w:World,((H₀ w.params).isNs mainGlobals&&gs₀.size==0,(H₀ w.params).objs.size,(H₀ w.params).nsMap mainGlobals "__annotations__")=(true,m₀,ann)) (le:Nat.ble M N=true)
  (run:∀(w:World)(os:OsState),∃s₁,topRun treeTable p w m₀ ann M ⟨H₀ w.params,gs₀,d₀,k₀,os⟩ (topStub p)=some s₁ /\
   (staticsOk (importedModules p.main.body) (H₀ w.params) s₁.heap&&namesBound p s₁.heap&&gensDone s₁&&laidKept (H₀ w.params) s₁.heap)=true/\openSeen q loose (importedModules p.main.body) Xt g0 s₁=openGood q loose/\Yf s₁=Ya w):LeftO p q loose Xt Yf Ya N g0:=λw=>by
 obtain⟨⟨h,gs,d,k,os⟩,e,e'⟩:=yM.mp (open_ w)
 obtain⟨rfl,rfl,rfl,rfl⟩:h=H₀ w.params/\gs=gs₀/\d=d₀/\k=k₀:=by simpa using e'
 obtain⟨z1,z2,z3⟩:_/\_/\_:=by simpa only [Prod.mk.injEq]using size w
 obtain⟨s₁,hr,l1,l2,l3⟩:=run w os
 have r:=topRun_mono (N-M) _ _ _ _ hr
 rw[show M+(N-M)=N by have:=Nat.le_of_ble_eq_true le;omega]at r
 have t:topFrom treeTable p w N ⟨H₀ w.params,gs,d,k,os⟩=some s₁:=by
  unfold topFrom
  dsimp only
  rw[z1,z2,z3,r]
  show(match staticsOk (importedModules p.main.body) (H₀ w.params) s₁.heap&&namesBound p s₁.heap&&gensDone s₁&&laidKept (H₀ w.params) s₁.heap with|true=>_|false=>_)=_
  rw[l1]
 unfold openEnds
 rw[e]
 show(topFrom treeTable p w N _).map _=_
 rw[t]
 exact congrArg some (Prod.ext l2 l3)
theorem h_left:LeftO pW hQ hL hX hYf hYa 5990:=by
 refine BX (M:=12+(1+(2933+2))) (boot_open (by kernel_rfl) rfl (λs=>rfl)) (m₀:=11) (ann:=some (.ref 6)) (λw=>by kernel_rfl) rfl λw os=>?_
 obtain⟨⟨f,s',c,q⟩,e,e'⟩:=yM.mp (Gr w os)
 simp only [Prod.mk.injEq]at e'
 obtain⟨rfl,rfl,rfl,l⟩:=e'
 have k:=piece_app (rest:=[]) (segRun_of e) (piece_nil (Gg w s' _))
 rw[zP]at k
 have k2:=go_top (Ge w os) (piece_block (segRun_of (DK w os)) k)
 unfold hLook at l
 simp only [Prod.mk.injEq]at l
 exact⟨_,k2,l.1,l.2.1,l.2.2⟩
theorem walkX_H{q:Program}{loose:List Str}{XP:(Str->Option Value)->Heap->Prop}{r:RowW}{d:DefRec}{kwd:List (Str×PySem.Expr)}{run:Value->List Value->Sem Value}{K:Params->Frag}{as ts:List Addr}(e:∀P,as=(K P).map (·.1))
  (h:WalkO q loose XP (λw h=>InK K w h/\∀P∈ts,h.get? P=some (tabObj #[])) r d kwd run):WalkX q loose XP (λs=>(as.map s.heap.get?,ts.map s.heap.get?)) (λw=>((K w.params).map λp=>some p.2,ts.map λ_=>some (tabObj #[]))) r d kwd run:=by
 intro w s₀ s₁ mg mb G y fa o pm cd doc dV kV ho hd hcd hD hmg hg args vals as' L hpre hlay hrd hwl hlo
 exact h w s₀ s₁ mg mb G ⟨InK.keeps w _ _ (InK.of e w s₀ (congrArg Prod.fst y)) L.keeps,λP hP=>L.keeps _ _ (List.map_inj_left.mp (congrArg Prod.snd y) P hP)⟩ fa o pm cd doc dV kV ho hd hcd hD hmg hg args vals as' hpre hlay hrd hwl hlo
end Oc
open PySem PySem.W PySem.W.X PyProof.Rows
set_option maxRecDepth 100000 in
set_option maxHeartbeats 0 in
theorem PySem.Challenge.cw_ownclocks_k32_whole_settled_as_by_one_cl_holds : PySem.Challenge.rw_ownclocks_k32_whole_settled_as_by_one_cl.Holds := by
 refine holds_law (by kernel_rfl) λsaid=>?_
 refine holds_openX (q:=Oc.hQ) (loose:=Oc.hL) (Xt:=Oc.hX) (XP:=λ_ _=>True) (Yf:=Oc.hYf) (Ya:=Oc.hYa) (N:=5990) Oc.h_left (λ_ _=>trivial) (λ_ _ _ h _=>h) (by rfl) (by rfl) (by rfl) (λs e=>recFacts_of e) (by rfl) said (by decide +kernel) ⟨rfl,rfl,rfl,rfl,rfl,by decide +kernel⟩ ?hw ?hc
 case hw=>w_witness2
 refine Oc.walkX_H (K:=Oc.hK) (as:=Oc.hA) (ts:=Oc.hTs) (λ_=>rfl) ?_
 k_fill
 refine' Oc.walk (l:=PySem.Challenge.rw_ownclocks_k32_whole_settled_as_by_one_cl) rfl rfl (λw h Y=>Y.1) (λw h Y=>Y.2) ?U1 ?U2 ?N1 ?N2 ?N3 ?F
 case U1 =>
  intro w
  refine' L2.tabIn_of ?e1 ?e2 ?e3 ?e4 ?e5
  (case e1=>first|k_is|kit_is)
  (case e2=>first|k_is|kit_is)
  (case e3=>exact rfl)
  (case e4=>first|k_is|kit_is)
  (case e5=>exact rfl)
 case U2 =>
  intro w
  refine' Oc.codeIn_of ?e0 ?e1 ?e2 ?e3 ?e4 ?e5
  (case e0=>first|k_is|kit_is)
  (case e1=>first|k_is|kit_is)
  (case e2=>first|k_is|kit_is)
  (case e3=>exact rfl)
  (case e4=>first|k_is|kit_is)
  (case e5=>exact rfl)
 case N1=>exact⟨by decide,λw=>⟨by kernel_rfl,by kernel_rfl⟩⟩
 case N2=>exact⟨by decide,λw=>⟨by kernel_rfl,by kernel_rfl⟩⟩
 case N3=>decide
 case F =>
  intro w mg fa h KX G hmg
  refine' Oc.all_mk KX G hmg ?_ ?_ ?_ ?_ ?_ ?_ ?_ ?_ ?_ ?_ ?_ ?_ ?_ ?_ ?_ ?_ ?_ ?_ ?_ ?_ ?_ ?_ ?_ ?_ ?_ ?_ ?_ ?_ ?_ ?_ ?_ ?_ ?_ ?_ ?_ ?_ ?_ ?_ ?_ ?_ ?_ ?_ ?_ ?_ ?_ ?_ ?_ ?_ ?_ ?_ ?_ ?_ ?_ ?_ ?_ ?_ ?_ ?_ ?_ ?_ ?_ ?_ ?_ ?_ ?_ ?_ ?_ ?_ ?_ ?_ ?_ ?_ ?_ ?_ ?_ ?_ ?_ ?_ ?_ ?_ ?_ ?_ ?_ ?_ ?_ ?_ ?_ ?_ ?_ ?_ ?_ ?_ ?_ ?_ ?_ ?_ ?_ ?_ ?_ ?_ ?_ ?_ ?_ ?_ ?_ ?_ ?_ ?_ ?_ ?_ ?_ ?_ ?_ ?_ ?_ ?_ ?_ ?_ ?_ ?_ ?_ ?_ ?_ ?_ ?_ ?_ ?_ ?_ ?_ ?_ ?_ ?_ ?_ ?_ ?_ ?_ ?_ ?_ ?_ ?_ ?_ ?_ ?_ ?_ ?_ ?_ ?_ ?_ ?_ ?_ ?_ ?_ ?_ ?_ ?_ ?_ ?_ ?_ ?_ ?_ ?_ ?_ ?_ ?_ ?_ ?_ ?_ ?_ ?_ ?_ ?_ ?_ ?_ ?_ ?_ ?_ ?_ ?_ ?_ ?_ ?_ ?_ ?_ ?_ ?_ ?_ ?_
  all_goals (try first|k_is|kit_is|exact rfl|(refine⟨?_,?_⟩ <;>k_is))
  all_goals (try first|k_is|kit_is|exact rfl|(refine' Oc.FnF.mk ?l ?c ?k;(case l=>k_is);(case c=>k_is);(case k=>k_is)))
  all_goals first|k_is|kit_is|exact rfl|(refine' Oc.FnF.mk ?l ?c ?k;(case l=>k_is);(case c=>k_is);(case k=>k_is))
#print axioms PySem.Challenge.cw_ownclocks_k32_whole_settled_as_by_one_cl_holds
