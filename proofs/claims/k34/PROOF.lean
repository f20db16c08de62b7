import PyProof.Rows.All
import Wide.All
import OpenK.AllK
import Wide.FinOn
import Lean
import PyProof.EqAt
import PyProof.EqKinds
import PyProof.TupleCall
import PyProof.NeData
import PyProof.P3Eq
import PySem.Challenge.RW_ownclocks_k34_whole_from_text
set_option Elab.async false
set_option linter.all false
set_option maxRecDepth 100000
set_option maxHeartbeats 4000000
set_option hygiene false
local macro_rules | `(tactic| exists $n) => `(tactic| (refine F.ok (N := $n) ⟨rfl, rfl, rfl, by decide +kernel, rfl, by decide +kernel, by decide +kernel⟩ (fun vs H Q E h => by first | (obtain ⟨rfl, _⟩ := h; rfl) | (obtain ⟨_, rfl, _⟩ := h; rfl) | (obtain ⟨_, _, rfl, _⟩ := h; rfl) | (obtain ⟨_, _, _, rfl, _⟩ := h; rfl) | (obtain ⟨_, _, _, _, rfl, _⟩ := h; rfl) | (obtain ⟨_, _, _, _, _, rfl, _⟩ := h; rfl) | (obtain ⟨_, _, _, _, _, _, rfl, _⟩ := h; rfl) | (obtain ⟨_, _, _, _, _, _, _, rfl, _⟩ := h; rfl) | (obtain ⟨_, _, _, _, _, _, _, _, rfl, _⟩ := h; rfl) | (obtain ⟨_, _, _, _, _, _, _, _, _, rfl, _⟩ := h; rfl) | (obtain ⟨_, _, _, _, _, _, _, _, _, _, rfl, _⟩ := h; rfl) | (obtain ⟨_, _, _, _, _, _, _, _, _, _, _, rfl, _⟩ := h; rfl) | (obtain ⟨_, _, _, _, _, _, _, _, _, _, _, _, rfl, _⟩ := h; rfl) | (obtain ⟨_, _, _, _, _, _, _, _, _, _, _, _, _, rfl, _⟩ := h; rfl) | (obtain ⟨_, _, _, _, _, _, _, _, _, _, _, _, _, _, rfl, _⟩ := h; rfl)) (fun Bj A outer s H vs Q E hr h => ?_); have nd : List.Nodup (α := Str) $n := by decide +kernel))
local macro_rules | `({$n:num}) => `((pv $n))
local macro_rules | `($a >> $b) => `((@Bk _ _ _ _ _ $a $b (by rfl)))
local macro_rules | `($g <$> $o >> $a) => `((JK $g (hr.mono (by decide)) $o $a))
local macro_rules | `($a <*> $b) => `((@IK _ _ _ _ _ _ _ (Hy (K := K) rfl) $a $b (fun _ _ => rfl)))
local macro_rules | `($a <* $b) => `((@IK _ _ _ _ _ _ _ (FC (K := K) rfl) $a $b (fun _ _ => rfl)))
local macro_rules | `($a <|> $b) => `((@FD _ _ _ _ _ $a $b))
local macro_rules | `($n:num >>= $e) => `((JL (i := $n) nd rfl (by nofun) $e))
local macro_rules | `(‹$a›) => `((z_ (CJ (K := K) rfl) (by rfl) T.IL FE (@Bk _ _ _ _ _ $a a_ (by rfl))))
local macro_rules | `($g <&> $a) => `((LO $g (hr.mono (by decide)) (by rfl) $a))
local macro_rules | `(~~~ $a) => `((@ei _ _ _ (@JM _ _ _ _ $a)))
local macro_rules | `($o ^^^ $f ^^^ $j ^^^ $i ^^^ $t ^^^ $e) => `((EJ (own := $o) (fr := $f) (js := $j) (by and_intros) $i (fun _ _ _ _ => fB (i := 0) (show List.Nodup (List.append (α := Str) $o $f) from by decide +kernel) rfl (by nofun)) (fun _ _ _ _ => $t) (fun _ _ _ _ => $e)))
local macro_rules | `($n:num ||| $o ||| $f ||| $j ||| $i ||| $t ||| $e) => `((Dd (i := $n) nd rfl (Or.inl rfl) rfl (own := $o) (fr := $f) (js := $j) (by and_intros) $i (fun _ _ _ _ => fB (i := 0) (show List.Nodup (List.append (α := Str) $o $f) from by decide +kernel) rfl (by nofun)) (fun _ _ _ _ => $t) (fun _ _ _ _ => $e)))
local macro_rules | `($x <<< $j:num >>> $r) => `(⟨_, _, _, _, rfl, rfl, ze.of $x, d5 (j := $j) rfl, $r⟩)
local macro_rules | `(tactic| and_intros) => `(tactic| exact ⟨rfl, rfl, by decide +kernel, by decide +kernel, by repeat (first | exact Each.nil | refine Each.cons rfl ?_), by repeat (first | exact Each.nil | refine Each.cons rfl ?_), by repeat (first | exact Paired.nil | refine Paired.cons ⟨rfl, by first | exact Or.inl rfl | exact Or.inr rfl, by first | exact Or.inl rfl | exact Or.inr rfl⟩ ?_), rfl⟩)
local macro_rules | `(tactic| nofun) => `(tactic| first | exact Or.inl rfl | exact Or.inr rfl)
local macro_rules | `(tactic| ac_rfl) => `(tactic| (first | (refine Ze rfl ?_) | (refine Zf rfl ?_) | (refine Zg rfl ?_) | (refine tv rfl ?_) | (refine ⟨_, rfl, ?_⟩)))
local macro_rules | `(tactic| infer_instance) => `(tactic| repeat (first | (refine ⟨_, rfl, ?_⟩) | (refine ⟨_, _, rfl, rfl, ⟨by decide, by decide⟩, ?_⟩) | (refine ⟨_, _, rfl, rfl, .inl ⟨by decide, by decide⟩, ?_⟩) | (refine ⟨_, _, rfl, rfl, .inr ⟨by decide, by decide⟩, ?_⟩) | (refine ⟨_, _, rfl, rfl, (show (0 : Int) < _ from by decide), ?_⟩) | (refine ⟨_, _, rfl, rfl, ?_⟩) | (refine ⟨rfl, ?_⟩)))
local macro_rules | `(tactic| walk_at "a") => `(tactic| (
 refine wpAny_bind (wpAny_pure (wpAny_bind (wpAny_pyIter_list hl (wpAny_bind (wpAny_newList ?_ (yH _))))))
 rw[fX]
 refine wpAny_pure ⟨plainId_quiet Z8 _,?_⟩
 have Su:l<s.heap.objs.size:=by obtain⟨o,e,_⟩:=hl;exact Heap.lt_size e
 show codeAny _ _ _ _ { s with heap:=(s.heap.push (Hz l)).push (seqObj "list" #[] 0) }
 have gI:((s.heap.push (Hz l)).push (seqObj "list" #[] 0)).get? s.heap.objs.size=some (Hz l):=Heap.get?_push_of_some _ (Heap.get?_push_size _ rfl)
 have Sv:(s.heap.push (Hz l)).objs.size=s.heap.objs.size+1:=size_push' ..
 have gS:((s.heap.push (Hz l)).push (seqObj "list" #[] 0)).get? (s.heap.push (Hz l)).objs.size=some (seqObj "list" #[] 0):=Heap.get?_push_size _ rfl
 have KK:Kept s.heap ((s.heap.push (Hz l)).push (seqObj "list" #[] 0)):=λb o e=>Heap.get?_push_of_some _ (Heap.get?_push_of_some _ e)
 have BF:((s.heap.push (Hz l)).push (seqObj "list" #[] 0)).IsList l vs.toArray:=by obtain⟨o,e,r⟩:=hl;exact⟨o,KK _ _ e,r⟩
 rw[Sv]at gS
 have JN:(s.heap.push { cls:=.type "list_iterator",data:=.fields #[.ref l,.int 0 0] }).objs.size=s.heap.objs.size+1:=Sv))
local macro_rules | `(tactic| walk_at "b") => `(tactic| (
 rw[Around.under_plainId Z8 _]
 by_cases hn:0<vs.length
 ·refine wpAny_bind (m:=seqItems? (.ref (I+1))) (wpAny_seqItems gS rfl (wpAny_bind (wpAny_tryCatch (W.item 0 _ _ _ (by rw[hsz];exact hn) ⟨hit,BF⟩ λv h' Bo hP DG Bp=>?_))))
  have hv:vs[0]?=some v:=by simpa using hP
  have IM:=Bp (I+1) _ (λz=>Ft (zF.mp z)) gS
  have K1:Kept s.heap h':=λb o e=>Bp b o (λz=>by rw[zF.mp z,Hj]at e;cases e) (KK b o e)
  refine wpAny_bind (m:=tryCatch (holding [v] (call (.ref q) [v])) _) (wpAny_tryCatch (wpAny_holding (turn 0 v hv h' Bo _ _ K1 λu h2 IP k2 HG=>?_)))
  obtain⟨Vl,Vm,Vn,Vo⟩:=DG.1
  obtain⟨Vp,Vq,Vr⟩:=DG.2
  have Ca:h2.IsListIter I l 1/\h2.IsList l vs.toArray:=⟨⟨Vl,k2 _ _ Vm,Vn,Vo⟩,⟨Vp,k2 _ _ Vq,Vr⟩⟩
  have K2:Kept s.heap h2:=λb o e=>k2 b o (K1 b o e)
  have D8:=k2 _ _ IM
  refine wpAny_bind (wpAny_updateSeq D8 rfl ?_)
  rw[fX]
  have T3:Ci h2 (h2.update (I+1) (Obj.mapSeq λ_=>#[v,u])):=fK D8 rfl
  have CK:∀b o,b≠I+1->h2.get? b=some o->(h2.update (I+1) (Obj.mapSeq λ_=>#[v,u])).get? b=some o:=λb o n e=>(Heap.get?_update_other _ _ (Ne.symm n)).trans e
  obtain⟨oI,i1,i2,i3⟩:=Ca.1
  obtain⟨oL,l1,l2⟩:=Ca.2
  refine wpAny_pure ⟨plainId_quiet Z8 _,qw hh JO Ft IQ s turn mono DH Hj HH (λv' Eh JP e1 e2=>A5 hn v' Eh JP e1 e2) _ 0 _ _ v u _ rfl hn (λb o e=>CK b o (λz=>by rw[z,HH]at e;cases e) (K2 b o e)) ⟨oI,CK _ _ Ft.symm i1,i2,i3⟩ ⟨oL,CK _ _ IQ l1,l2⟩ (mono _ _ _ _ HG T3) hv (Heap.get?_update_self _ D8 rfl)⟩))
local macro_rules | `(tactic| walk_at "c") => `(tactic| (
 generalize hI:s.heap.objs.size=I at *
 have JO:l≠I:=yK Su
 have Ft:I+1≠I:=Nat.succ_ne_self _
 have IQ:l≠I+1:=yK (jX Su)
 have Hj:s.heap.get? I=none:=Heap.get?_none_of_le (by lia)
 have HH:s.heap.get? (I+1)=none:=Heap.get?_none_of_le (by lia)
 generalize ((s.heap.push (Hz l)).push (seqObj "list" #[] 0))=h1 at *
 have W:=Walks.list (prog:=prog) (w:=w) (A:=A.in1) hh I l JO vs.toArray
 have hsz:vs.toArray.size=vs.length:=zP ..
 have hit:h1.IsListIter I l 0:=⟨_,gI,rfl,rfl⟩))
local macro_rules | `(tactic| walk_at "d") => `(tactic| (
 have HI:=s6 _ _ (s5 _ _ DI)
 refine⟨_,rfl,pt,rfl,⟨_,ze.of HI⟩,λD nD=>?_⟩
 refine dj (a:=pt) (xs:=vs) (λk H7=>c0 H6 H7/\H7 D=some (.lst ((ts.take k).map V.str))) ⟨c0.new nD,bg⟩ (λk H7 _ p=>ze.of (p.1 _ _ HI)) ?_ ?_
 ·rintro k v H7 m Wf hv ⟨s7,g7⟩ nx
  obtain⟨t,ht,e1,e2,e3⟩:=Fc.gt hv
  refine⟨_,rfl,v,t,rfl,e1,e2,_,g7,bo (by rw[zB,yA];lia),nx _ ⟨s7.upd nD,?_⟩⟩
  rw[bg,yR,ht,zK]
  rfl))
local macro_rules | `(tactic| walk_at "e") => `(tactic| (
 obtain⟨p,hp⟩:∃p,A.fi[s]?=some p:=⟨A.fi[s]'(by rw[I.st];exact hs),zD _⟩
 have ep:A.fi.getD s Ao=p:=by rw[zA,hp];rfl))
local macro_rules | `(tactic| walk_at "f") => `(tactic| (
 refine nj ?_
 refine⟨_,rfl,yH _,λe0 JQ=>?_⟩
 have sE:c0 H3 (upd H3 e0 (.lst [])):=c0.new JQ
 have gE:(upd H3 e0 (.lst [])) e0=some (.lst []):=bg
 generalize upd H3 e0 (.lst [])=HE at sE gE ⊢
 refine⟨_,_,2,Dt.ints 1 (eH.of (sE _ _ g3)),d2 gE,by decide,_,rfl,?_⟩
 rw[ig]
 have Od:=sE _ _ CG
 have DE:=sE _ _ g3
 have uE:=sE _ _ LP
 have pE:Paired (wh HE) _ _:=bf (λ_ _ h=>wh.same sE h) p3
 have kE:ql [k] H HE:=K3.trans (ql.same sE)))
local macro_rules | `(tactic| walk_at "g") => `(tactic| (
 obtain⟨it,fp,tn,J,H2,rfl,I2,T,Ca,f2,q⟩:=h2
 refine wpAny_newObj_type (wpAny_newFunctionEnv c.JR (by intro y hy;simp at hy) (λh₁ HJ HK=>?_) c.kind)
 dsimp only at HJ HK ⊢
 generalize Pk:s2.heap.push { cls:=.type "list",dict:=none,data:=.seq ([]:List Value).toArray }=hp at HJ HK ⊢
 have hC:hp.objs.size=s2.heap.objs.size+1:=by rw[←Pk,Heap.size_push]
 have JS:s2.heap.objs.size≠hp.objs.size:=by rw[hC];exact yK (vO _)
 have HL:s2.heap.objs.size<=hp.objs.size:=by rw[hC];exact qQ _
 have old:∀b o,s2.heap.get? b=some o->h₁.get? b=some o:=λb o e=>HK.extBut b o (by rw[hC];exact yK (jX (Heap.lt_size e))) (Heap.get?_push_of_some _ (Pk▸Heap.get?_push_of_some _ e))
 have hl:h₁.get? s2.heap.objs.size=some { cls:=.type "list",data:=.seq #[] }:=HK.extBut _ _ JS (Heap.get?_push_of_some _ (Pk▸Heap.get?_push_size _ rfl))))
local macro_rules | `(tactic| walk_at "h") => `(tactic| (
 intro j h tk vb kb c hk hj K0 hit Oe hK LQ hS 
 have BR:j+1=vs.length:=by lia
 refine codeAny_builtin a04 (by
  rw[Around.under_plainId Z8 _]
  refine wpAny_bind (m:=seqItems? (.ref S)) (wpAny_seqItems hS rfl (wpAny_bind (wpAny_tryCatch (W.done _ _ _ ⟨by rw[hsz,←BR];exact hit,Oe⟩ λh' Bo Bp=>?_))))
  have IM:=Bp S _ (λz=>Ft (zF.mp z)) hS
  refine wpAny_bind (m:=updateSeq S (λ_=>#[])) (wpAny_updateSeq IM rfl (wpAny_bind (wpAny_letGo (wpAny_pure ?_))))
  refine hR vb _ _ (by rw[←BR];exact LQ) λb o e=>?_
  have n1:b≠S:=λz=>by rw[z,HH]at e;cases e
  have n2:b≠I:=λz=>by rw[z,Hj]at e;cases e
  exact(Heap.get?_update_other _ _ (Ne.symm n1)).trans (Bp b o (λz=>n2 (zF.mp z)) (K0 b o e)))))
local macro_rules | `(tactic| walk_at "i") => `(tactic| (
 obtain⟨h1,h2,⟨a,b,h3⟩,h4,h5⟩:=st
 have n1:∀c∈[z,TI,TO,i1,i2],a1≠c:=λc hc=>vt I (hf c hc) JT
 have n2:∀c∈[z,TI,TO,i1,i2],a2≠c:=λc hc=>vt I (hf c hc) HM
 have hd:=I.ok.hd hc
 have N1:=vo (prog:=X.prog) (w:=X.w) (A:=X.A.in1) hd b1 i1 a1 (n1 i1 (by simp)) HN.toArray
 have N2:=vo (prog:=X.prog) (w:=X.w) (A:=X.A.in1) hd b2 i2 a2 (n2 i2 (by simp)) CM.toArray
 have D2:Of z TI TO i1 i2 [i1,a1] [i2,a2]:=⟨D.TIz,D.TOz,D.i1z,D.i2z,D.TITO,D.TIi1,D.TIi2,D.TOi1,D.TOi2,D.i12,
  by simp [D.i1z.symm,(n1 z (by simp)).symm],by simp [D.TOi1,(n1 TO (by simp)).symm],by simp [D.i12.symm,(n1 i2 (by simp)).symm],
  by simp [D.i2z.symm,(n2 z (by simp)).symm],by simp [D.TOi2,(n2 TO (by simp)).symm],by simp [D.i12,(n2 i1 (by simp)).symm]⟩))
local macro_rules | `(tactic| walk_at "j") => `(tactic| (
 have hi:own.length<=i:=by
  by_cases q:own.length<=i
  ·exact q
  ·unfold FF at h2
   rw[yP (by rw[zB];lia),zG]at h2
   cases e:own[i]? with
   | none=>rw[e]at h2;cases h2
   | some z=>rw[e]at h2;cases h2
 have Og:fr[i-own.length]?=some x:=by
  have q:(own++fr)[i]?=some x:=h1
  rw[zX hi]at q
  exact q
 obtain⟨j,hj,hN,hk,hr⟩:=c.fr.getL Og
 have Pl:σ[j]?=some (some v):=by
  unfold FF at h2
  rw[zX (by rw[zB];exact hi),zB,zG,hj]at h2
  have q:some ((σ[j]?).join)=some (some v):=h2
  have q':=Option.some.inj q
  cases e:σ[j]? with
  | none=>rw[e]at q';cases q'
  | some z=>rw[e]at q';rw[show z=some v from q']))
local macro_rules | `(tactic| walk_at "k") => `(tactic| (
 obtain⟨o,ho,hc,hd⟩:=id hit
 obtain⟨ol,Vs,_,nl,Vt⟩:=ht
 unfold Builtin.SmallTypes.nextOf
 refine wpAny_bind (wpAny_callSpecial?_slot (name:=Str.ofString "__next__") hit.typeIs F.slot_tuple_iterator_next (wpAny_call_entry F.slot_tuple_iterator_next hit.typeIs F.entry_tuple_iterator_next ?_ (F.args_tuple_iterator_next_1 _)))
 show wpAny _ _ (field (.ref it) 0>>=_) _ _ s
 refine wpAny_bind (wpAny_field ho hd (x:=.ref t) rfl ?_)
 rw[if_neg (show ¬((Value.ref t==Value.none)=true)from zS)]
 show wpAny _ _ (field (.ref it) 1>>=_) _ _ s
 refine wpAny_bind (wpAny_field ho hd (x:=.int i 0) rfl ?_)
 refine wpAny_bind (wpAny_seqItems Vs Vt ?_)
 simp only [zV,hx]))
local macro_rules | `(tactic| walk_at "l") => `(tactic| (
 show wpAny _ _ (field (.ref z) 2>>=_) _ _ _
 refine wpAny_bind (wpAny_field hz rfl (x:=.bool false) rfl ?_)
 show wpAny _ _ (field (.ref z) 3>>=_) _ _ _
 refine wpAny_bind (wpAny_field hz rfl (x:=.ref TI) rfl (wpAny_bind (wpAny_seqItems Sw rfl ?_)))
 show wpAny _ _ (Builtin.SmallTypes.ownedTupleIsFree (.ref z)>>=_) _ _ _
 refine wpAny_bind ?_
 unfold Builtin.SmallTypes.ownedTupleIsFree
 refine wpAny_bind (wpAny_field hz rfl (x:=.none) rfl (wpAny_pure ?_))
 simp only [if_true]
 refine wpAny_bind (wpAny_rule (wpAny_bind (wpAny_field hz rfl (x:=.ref TO) rfl (wpAny_bind (wpAny_setField_rec hz (by simp) λh₁ LR e1=>?_)))))
 replace LR:IsZip h₁ z TI TO .ellipsis:=LR))
local macro_rules | `(tactic| walk_at "m") => `(tactic| (
 have:=A9.put 1 0 rfl rfl (.lst (ea.map V.ref++[.ref pn]))
 rw[zK,zK]
 have e:=dG (ls:=ea) (vs:=ea.map λ_=>[]) (by rw[zB]) pn []
 show Hc _ (_::zb (ea++[pn]) ((ea.map λ_=>[])++[[]])::_)
 rw[e]
 exact(Hc.join (this.pick 2 rfl)).swap))
local macro_rules | `(tactic| walk_at "n") => `(tactic| (
 refine⟨λi m H=>m=xs.length-i/\i<=xs.length/\Pv i H,⟨xs.length,by simp,yH _,h0⟩,?_⟩
 rintro i m H ⟨rfl,hi,p⟩
 have q:=hl i H hi p
 by_cases Ay:i<xs.length
 ·refine .inr ⟨⟨xs,xs[i],q,by simp [Ay]⟩,λx H' y=>?_⟩
  obtain⟨e,y⟩:=y
  subst e
  exact hs i x _ (xs.length-i) (λi m H=>m=xs.length-i/\i<=xs.length/\Pv i H) (y xs q) p λH' p'=>⟨xs.length-(i+1),by lia,rfl,Ay,p'⟩
 ·have e:i=xs.length:=by lia
  subst e
  exact .inl ⟨⟨xs,q,zJ _⟩,hd H p⟩))
local macro_rules | `(tactic| walk_at "o") => `(tactic| (
 have D9:∀w∈p.ws,w=-1\/0<=w:=λw hw=>by rw[C2]at hw;exact Wk.BI hw
 have T:=ke ao D9 e))
local macro_rules | `(tactic| walk_at "p") => `(tactic| (
 refine⟨λi m σ H=>m=xs.length-i/\i<=xs.length/\Pv i σ H,⟨xs.length,by simp,yH _,h0⟩,?_⟩
 rintro i m σ H ⟨rfl,hi,p⟩
 have q:=hl i σ H hi p
 by_cases Ay:i<xs.length
 ·refine .inr ⟨⟨xs,xs[i],q,by simp [Ay]⟩,Pv (i+1),fun σ' H' p'=>⟨xs.length-(i+1),by lia,rfl,Ay,p'⟩,λx H' y=>?_⟩
  obtain⟨e,y⟩:=y
  subst e
  exact hs i x σ _ (y xs q) p
 ·have e:i=xs.length:=by lia
  subst e
  exact .inl ⟨⟨xs,q,zJ _⟩,hd σ H p⟩))
local macro_rules | `(tactic| walk_at "q") => `(tactic| (
 have BR:t∈n7 A.de A.re s w:=xK hh
 have ew:t.2.1=w:=by
  unfold n7 at BR
  split at BR
  ·rename_i z
   rw[z]
   exact dH (p:=λrow=>∀t∈row,t.2.1=-1) (λ_ z=>absurd z zI) h.d t BR
  ·rename_i z
   have w0:=(hw w FG).resolve_left z
   rw[zA]at BR
   cases er:A.re[w.toNat]? with
   | none=>rw[er]at BR;exact absurd BR zI
   | some row =>
    rw[er]at BR
    have:=h.r w.toNat row er t BR
    lia))
local macro_rules | `(tactic| walk_at "r") => `(tactic| (
 rw[Around.under_plainId Z8 _]
 refine wpAny_bind (m:=seqItems? (.ref S)) (wpAny_seqItems hS rfl (wpAny_bind (wpAny_tryCatch (W.item (j+1) _ _ _ (by rw[hsz];exact Ay) ⟨hit,Oe⟩ λv h' Bo hP DG Bp=>?_))))
 have hv:vs[j+1]?=some v:=by simpa using hP
 have IM:=Bp S _ (λz=>Ft (zF.mp z)) hS
 have T1:=uz hit Bp
 have K1:Kept s₀.heap h':=λb o e=>Bp b o (λz=>by rw[zF.mp z,Hj]at e;cases e) (K0 b o e)))
local macro_rules | `(tactic| walk_at "s") => `(tactic| (
 intro X hP hw hK hc i aO s σ H E I hf st hg
 subst hP hw hK))
local macro_rules | `(tactic| walk_at "t") => `(tactic| (
 have Cj:CN (p.Aw (p.ws.idxOf a) z) (kp++[(a,z)]):=wO Pm (by rw[ek];exact λe=>nomatch e)
 refine⟨_,rfl,(CG<<<0>>>⟨rfl,_,rfl,?_⟩)⟩))
local macro_rules | `(tactic| walk_at "u") => `(tactic| (
 refine⟨_,rfl,_,rfl,(by show 2<=sizeLine;decide),λt nt=>?_⟩
 have sT:c0 H8 (upd H8 t (.tup [.ref D1,.ref D2])):=c0.new nt
 have B6:=(((L.hc.tl).pick 4 rfl).tl.pick 4 rfl).tl.new nt (.tup [.ref D1,.ref D2])
 exact q S t D1 D2 ea oa Bw Ck _ (L.rn S (.stop hs)) L.ok B6 L.l1 L.l2 (sB (Pd:=Pd) (Tp.of sT) L.ev) (sO (Pd:=Pd) (Tp.of sT) L.og) (L.tp.trans (Tp.of sT)) (L.dT.same sT) (λus B7=>by have:=L.le us B7;have:=L.km;lia)))
local macro_rules | `(tactic| walk_at "v") => `(tactic| (
 have Ei:=I1.yx.fresh HP
 have CK:∀{b:Addr}{u:HO},Rd H1 b u->(∀ps,u≠.AB ps)->Rd (upd (upd H1 P (.AB (#[]++#[rawInt lp.line,rawInt lp.col,.ref c']))) c' (Bs c' q)) b u:=fun {b u} hb hu=>by
  rcases hb with hb|⟨o,hb⟩
  ·exact .inl (by rw[bj (bi hb Ei),bj (bK hb hP (hu _))];exact hb)
  ·exact .inr ⟨o,by rw[bj (bi hb Ei),bj (bK hb hP (λz=>nomatch z))];exact hb⟩))
local macro_rules | `(tactic| walk_at "w") => `(tactic| (
 refine Subscript_ (wpAny_Name (wpAny_loadName_local rfl ?_ HQ (v:=.ref t) ?_ (wpAny_Constant_int ?_)) hd)
 ·show List.lookup x [(x,NameKind.local)]=_
  simp [List.lookup]
 ·show List.lookup x [(x,Value.ref t)]=_
  simp [List.lookup]))
local macro_rules | `(tactic| walk_at "x") => `(tactic| (
 refine⟨_,rfl,(Od<<<0>>>⟨rfl,_,rfl,?_⟩)⟩))
local macro_rules | `(tactic| walk_at "y") => `(tactic| (
 obtain⟨⟨x,dx,p1,p2,d,k,ws,bs,ls,seen,rows⟩,j,m,wv,z,M,rfl,e,hc,ok,hm,hw,q⟩:=h
 cases e))
local macro_rules | `(tactic| walk_at "z") => `(tactic| (
 have g5:=AM.get 1 0 rfl rfl
 refine⟨_,g5,bo (by unfold zj;rw[zB];lia),nx _ ⟨fi++[r],(s4.trans s5).upd nD,?_,by rw[zN,l4];rfl,lI Hk (by rw[l4];exact mk)⟩⟩
 have:=AM.put 1 0 rfl rfl (.lst (zj fi++[.ref r.x]))
 rw[show zj (fi++[r])=zj fi++[.ref r.x]from zK,rQ]
 exact(Hc.join (this.pick 2 rfl)).swap))
local macro_rules | `(tactic| walk_at "A") => `(tactic| (
 refine wpAny_bind (N1.item k1 x { s with heap:=h₁ } _ _ (N1.ext h1 e1.extBut D.Pn) hx λh₂ s2 e2=>wpAny_pure ?_)
 have e2:Heap.SameBut i1 h₁ h₂:=e2
 have o2:IsPair h₂ TO a b:=e2.extBut _ _ D.TOi1 (e1.extBut _ _ D.TOz Sy)
 refine wpAny_bind (wpAny_seqItems o2 rfl (wpAny_bind (wpAny_updateSeq_pair o2 λh₃ o3 e3=>?_)))
 have e3:Heap.SameBut TO h₂ h₃:=e3))
local macro_rules | `(tactic| walk_at "B") => `(tactic| (
 refine⟨_,rfl,(FH<<<0>>>⟨rfl,_,rfl,?_⟩)⟩
 rw[show decide (V.str "joiner"=V.str (Str.ofString "sink"))=false from by decide +kernel]
 refine nj ?_
 refine⟨_,rfl,yH _,λe0 JQ=>?_⟩
 have sE:c0 H5 (upd H5 e0 (.lst [])):=c0.new JQ
 have gE:(upd H5 e0 (.lst [])) e0=some (.lst []):=bg
 generalize upd H5 e0 (.lst [])=HE at sE gE ⊢))
local macro_rules | `(tactic| walk_at "C") => `(tactic| (
 have hm:a∈S.ar:=zE ha
 obtain⟨h1,h2⟩:=h.ar a hm
 have hp:=gy (d:=Ao) (l:=S.st) (i:=a.s) (by rw[h.l1];exact h1)
 obtain⟨w1,w2⟩:=h.ws _ _ hp))
local macro_rules | `(tactic| walk_at "D") => `(tactic| (
 have hi:=(zC.mp hx).1
 refine⟨yH _,λpn C3=>?_⟩))
local macro_rules | `(tactic| walk_at "E") => `(tactic| (
 have hi:its[i]?=some v:=by simpa using hP
 have Fu:i<bs.length:=by have:=(zC.mp hi).1;lia
 obtain⟨u,hu,ru⟩:=rv.get (i:=i) (x:=V.bl bs[i]) (by rw[zG,zD Fu];rfl)
 rw[hi]at hu
 cases hu
 cases (show v=Value.bool bs[i]from ru)
 refine wpAny_truthy_bool ?_))
local macro_rules | `(tactic| walk_at "F") => `(tactic| (
 rw[Fc.length,zY]at g7
 refine⟨l1,D,_,_,rfl,rfl,s7 _ _ g6,g7,(by rw[a00,zB,kU];lia),λl3 Hl=>?_⟩))
local macro_rules | `(tactic| walk_at "G") => `(tactic| (
 intro aO s σ H Q I h
 refine wpAny_Call_Name_kw (gh I hg hm hv ?_ hn Dy)))
local macro_rules | `(tactic| walk_at "H") => `(tactic| (
 have ne:∀c∈Ms.flatten,c.1≠p:=λc hc z=>by
  have e:=h.2 c hc
  rw[z,n]at e
  cases e
 refine⟨?_,λc hc=>?_⟩
 ·show((p,o)::Ms.flatten |>.map Prod.fst).Nodup
  rw[yM,qZ]
  exact⟨λz=>by obtain⟨c,hc,e⟩:=yF.mp z;exact ne c hc e,h.1⟩))
local macro_rules | `(tactic| walk_at "I") => `(tactic| (
 refine⟨_,rfl,o.x,C,o.dx,o.zg,_,rfl,hc.get 0 0 rfl rfl,oc.cl,oc.n1,jm,_,rfl,⟨_,_,_,_,rfl,rfl,eH.of (hc.get 0 1 rfl rfl),d5 (d3 hs),r.x,cs.of r.k,r.dx,r.zg,_,rfl,JU hc hs,ct.cl,ct.nW,r.C4,r.p1,rfl,⟨_,ze.of (me hc hs)⟩,λD nD=>?_⟩⟩))
local macro_rules | `(tactic| walk_at "J") => `(tactic| (
 have hn:∀(s:Nat) l,(W.cS L).ev[s]?=some l->l=[]/\s<W.st.length:=λs l h=>by
  have h':(W.st.map λ_=>([]:List fc))[s]?=some l:=h
  rw[zG]at h'
  obtain⟨x,hx,e⟩:=y6.mp h'
  exact⟨e.symm,(zC.mp hx).1⟩))
local macro_rules | `(tactic| walk_at "K") => `(tactic| (
 obtain⟨f0,f1,f2,f3,f4,f5⟩:=hf it (by simp)))
local macro_rules | `(tactic| walk_at "L") => `(tactic| (
 obtain⟨b1,b2,b3,b4,b5,b6⟩:=ok.EK bt (zE hb)))
local macro_rules | `(tactic| walk_at "M") => `(tactic| (
 ·exact d8 (by decide) (λt ht=>by simp only [AQ,zO,zI,or_false]at ht;rcases ht with e|e <;>rw[e];decide;exact gW n)
 ·exact d8 (by decide) (λt ht=>by simp only [AQ,zO,zI,or_false]at ht;rw[ht];decide)))
local macro_rules | `(tactic| walk_at "N") => `(tactic| (
 rw[B0]
 refine wpAny_pure (wpAny_newFunctionEnv (λy hy=>?_) (λy hy=>?_) (λh₁ HQ Ln=>⟨lim.fresh _ Ln,?_⟩) rfl)
 ·rw[zF.mp hy];exact λz=>nomatch z
 ·rw[zF.mp hy]
  show List.lookup x [(x,NameKind.local)]=_
  simp [List.lookup]))
local macro_rules | `(tactic| walk_at "O") => `(tactic| (
 intro aO s σ H xs us Q I r h
 obtain⟨p,bs,rfl,hq,q⟩:=h
 obtain⟨u,rfl,ru⟩:=dy r
 cases ru
 obtain⟨its,rv,pl,hz⟩:=I.list hq
 have hl:=rv.length
 rw[zB]at hl
 have lt:p<s.heap.objs.size:=by obtain⟨o,e,_⟩:=pl.isList;exact Heap.lt_size e))
local macro_rules | `(tactic| walk_at "P") => `(tactic| (
 ·obtain⟨a,ts,e1,⟨o,e2,e3,e4⟩,e5⟩:=z
  exact⟨a,ts,e1,⟨o,tk a o e3 e2,e3,e4⟩,e5⟩
 ·obtain⟨a,ts,rfl,e2,e3⟩:=z1
  obtain⟨b,Zh,rfl,e5,e6⟩:=z2
  refine HT.Ej (A:=X.A.in1) e2 e5 e3 e6 ?_ IS
  have:=hr.un
  show X.A.units+1<_
  lia))
local macro_rules | `(tactic| walk_at "Q") => `(tactic| (
 have ea:A.AS s p=A.take s p t:=by unfold OA.AS;rw[e]))
local macro_rules | `(tactic| walk_at "R") => `(tactic| (
 simp only [yX,if_false]
 refine wpAny_bind (wpAny_letGo ?_)
 rw[fX]
 refine wpAny_pure ⟨plainId_quiet Z8 _,ih (j+1) _ _ vb kb _ (by lia) Ay K2 Ca.1 Ca.2 ?_ ?_ D8 ⟩
 ·simp only [argBest,hb,yX,if_false];exact JV))
local macro_rules | `(tactic| walk_at "S") => `(tactic| (
 refine Fd (λhb=>?_) (λhb=>?_)))
local macro_rules | `(tactic| walk_at "T") => `(tactic| (
 have z:∀kd,(relabel scope X.env).names.lookup x=some kd->(kd=.cell\/kd=.free)->∃a,cl.lookup x=some a:=λkd e1 e2=>by
  have q:=c.has.mem _ (a03 e1)
  rcases e2 with e2|e2 <;>subst e2 <;>exact xC.mp q))
set_option Elab.async false
set_option linter.all false
set_option maxRecDepth 100000
variable{us vs its:List PySem.Value}{x y qual name q nm:PySem.Str}{u cd doc pm Bj ct oc:PySem.Value}{a b it p dx C sl D c' fa S I Pd Pu:PySem.Addr}{α β γ κ:Type}{P prog:PySem.Program}{w:PySem.World}{h base h':PySem.Heap}{t' i j n x1 Ap ln cl F:Nat}{N ps loose ts own:List PySem.Str}{A:PySem.Around}{E Q:PySem.Value->PySem.Shared->Prop}{s' s:PySem.Shared}{pos pos' p2 apos HR p1 p3 p4 p5 AE:PySem.Pos}{aO:List (PySem.Addr×PySem.Obj)}{K:PySem.W.Frag}{es elts:List PySem.Expr}{tg iter value elt:PySem.Expr}{body:List PySem.Stmt}{lo z:Int}{fp L ls as:List PySem.Addr}{kw:List (PySem.Str×PySem.Value)}{mg:PySem.Str->Option PySem.Value}{fd:PySem.FuncData}{scope:PySem.Scope}{od:Option PySem.Addr}{T:String}{items:Array PySem.Value}{ns kz r:List Int}{B:Prop}{is js:List Nat}{b1 b2:Bool}{Oh:PySem.Tok}
abbrev Z5:=@PySem.F.plainAttrs_list
abbrev Z6:=@PySem.F.slot_list_append
abbrev Z7:=@PySem.F.type_list_append
abbrev Z8:=@PySem.F.plain_min_loop
abbrev Z9:=@PySem.F.plainAttrs_str
abbrev Z_:=@PySem.W.kia_one
abbrev a00:=@PySem.sizeLine_eq
abbrev a01:=@PySem.F.slot_str_join
abbrev a02:=@PySem.F.type_str_join
abbrev a03:=@PySem.mem_of_lookup
abbrev a04:=@PySem.F.entry_min_loop
abbrev a05:=@PySem.StrLaws.sumLen_le
abbrev a06:=@PySem.StrLaws.glued_eq_join
abbrev a07:=@PySem.W.callWith_K
abbrev a08:=@PySem.W.methodCall_KW
abbrev a09:=@PySem.F.slot_list_pop
abbrev a0_:=@PySem.F.type_list_pop
abbrev a0a:=@PySem.W.plainGet_of
abbrev a0b:=@PySem.F.plain_min
abbrev a0c:=@PySem.F.entry_min
abbrev a0d:=@PySem.F.kind_min
abbrev zA:=@List.getD_eq_getElem?_getD
abbrev zB:=@List.length_map
abbrev zC:=@List.getElem?_eq_some_iff
abbrev zD:=@List.getElem?_eq_getElem
abbrev zE:=@List.mem_of_getElem?
abbrev zF:=@List.mem_singleton
abbrev zG:=@List.getElem?_map
abbrev zH:=@List.mem_cons_self
abbrev zI:=@List.not_mem_nil
abbrev zJ:=@Nat.le_refl
abbrev zK:=@List.map_append
abbrev zL:=@List.mem_cons_of_mem
abbrev zM:=@List.filter_append
abbrev zN:=@List.length_append
abbrev zO:=@List.mem_cons
abbrev zP:=@List.size_toArray
abbrev zQ:=@List.append_nil
abbrev zR:=@List.mem_filter
abbrev zS:=@Bool.false_ne_true
abbrev zU:=@List.mem_append_right
abbrev zV:=@Int.toNat_natCast
abbrev zW:=@List.mem_append
abbrev zX:=@List.getElem?_append_right
abbrev zY:=@List.take_length
abbrev zZ:=@List.filter_cons_of_pos
abbrev yA:=@List.length_take
abbrev yB:=@List.filter_cons_of_neg
abbrev yC:=@Nat.lt_of_lt_of_le
abbrev yD:=@List.length_cons
abbrev yE:=@Nat.le_trans
abbrev yF:=@List.mem_map
abbrev yG:=@List.length_set
abbrev yH:=@Nat.zero_le
abbrev yI:=@List.append_assoc
abbrev yJ:=@List.filter_eq_nil_iff
abbrev yK:=@Nat.ne_of_lt
abbrev yL:=@Bool.and_eq_true
abbrev yM:=@List.map_cons
abbrev yN:=@List.filter_nil
abbrev yO:=@List.flatten_cons
abbrev yP:=@List.getElem?_append_left
abbrev yQ:=@List.mem_append_left
abbrev yR:=@List.take_add_one
abbrev yS:=@List.getElem?_of_mem
abbrev yT:=@List.getElem?_eq_none
abbrev yU:=@Array.length_toList
abbrev yV:=@List.take_of_length_le
abbrev yW:=@List.getElem?_set_self
abbrev yX:=@Bool.false_eq_true
abbrev yY:=@List.pairwise_cons
abbrev yZ:=@List.mem_filterMap
abbrev y3:=@Int.emod_lt_of_pos
abbrev y4:=@List.getElem?_set_ne
abbrev y6:=@Option.map_eq_some_iff
abbrev y7:=@List.flatten_singleton
abbrev y8:=@List.mem_range
abbrev y9:=@List.mem_singleton_self
abbrev qA:=@List.pairwise_append
abbrev qB:=@List.sum_cons
abbrev qC:=@Int.emod_nonneg
abbrev qD:=@List.map_map
abbrev qE:=@List.sublist_append_right
abbrev qF:=@List.getElem?_range
abbrev qG:=@List.filter_eq_self
abbrev qH:=@Array.getElem?_toList
abbrev qI:=@List.nil_append
abbrev qJ:=@Nat.lt_of_le_of_lt
abbrev qK:=@Nat.le_of_eq
abbrev qL:=@List.length_range
abbrev qM:=@List.range_succ
abbrev qN:=@Nat.sub_self
abbrev qO:=@Nat.lt_irrefl
abbrev qP:=@Nat.le_of_lt
abbrev qQ:=@Nat.le_succ
abbrev qR:=@List.eq_nil_of_length_eq_zero
abbrev qS:=@Nat.le_succ_of_le
abbrev qT:=@Nat.not_lt_zero
abbrev qU:=@Nat.min_eq_left
abbrev qV:=@List.flatMap_append
abbrev qW:=@Int.zero_add
abbrev qX:=@List.take_zero
abbrev qY:=@List.min?_eq_some_iff
abbrev qZ:=@List.nodup_cons
abbrev q8:=@List.map_eq_nil_iff
abbrev q9:=@List.length_pos_iff
abbrev jA:=@Nat.succ_le_succ
abbrev jB:=@List.mem_flatten
abbrev jC:=@List.mem_flatMap
abbrev jD:=@Nat.zero_add
abbrev jE:=@Int.lt_of_lt_of_le
abbrev jF:=@Array.getElem?_eq_none
abbrev jG:=@List.length_nil
abbrev jH:=@List.length_filter_le
abbrev jI:=@List.ext_getElem?
abbrev jJ:=@List.mem_of_mem_tail
abbrev jK:=@List.drop_zero
abbrev jL:=@Int.le_refl
abbrev jM:=@List.map_nil
abbrev jN:=@List.length_drop
abbrev jO:=@List.any_eq_true
abbrev jP:=@List.getElem?_eq_none_iff
abbrev jQ:=@List.replicate_succ
abbrev jR:=@List.filterMap_cons
abbrev jS:=@Int.toNat_of_nonneg
abbrev jT:=@Array.swapIfInBounds_def
abbrev jU:=@List.of_mem_zip
abbrev jV:=@List.find?_cons
abbrev jW:=@List.pairwise_singleton
abbrev jX:=@Nat.lt_succ_of_lt
abbrev jY:=@List.pairwise_lt_range
abbrev jZ:=@List.flatMap_singleton
abbrev j0:=@List.filter_congr
abbrev j2:=@List.length_replicate
abbrev j3:=@List.countP_cons
abbrev j4:=@List.take_append_of_le_length
abbrev j5:=@List.replicate_succ'
abbrev j6:=@Nat.ne_of_gt
abbrev j7:=@List.map_set
abbrev j8:=@List.zip_cons_cons
abbrev j9:=@List.getElem_range
abbrev kG:=@List.filter_filter
abbrev kH:=@Array.getElem?_eq_some_iff
abbrev kI:=@Nat.le_of_lt_succ
abbrev kJ:=@List.getElem?_take_of_lt
abbrev kK:=@List.any_cons
abbrev kL:=@List.eraseIdx_cons_succ
abbrev kN:=@List.cons_append
abbrev kO:=@Nat.zero_sub
abbrev kP:=@List.filter_map
abbrev kQ:=@Bool.eq_iff_iff
abbrev kR:=@List.perm_append_comm
abbrev kT:=@List.pairwise_flatMap
abbrev kU:=@List.length_singleton
abbrev kW:=@List.filterMap_append
abbrev kX:=@List.map_congr_left
abbrev kY:=@List.flatten_append
abbrev kZ:=@List.filter_sublist
abbrev vA:=@List.map_take
abbrev vB:=@List.map_drop
abbrev vC:=@Bool.and_comm
abbrev vD:=@List.prefix_append
abbrev vE:=@List.getElem_idxOf
abbrev vF:=@Nat.min_self
abbrev vG:=@Nat.add_comm
abbrev vH:=@List.getElem?_set
abbrev vI:=@List.getElem?_inj
abbrev vJ:=@List.foldl_append
abbrev vK:=@List.flatMap_cons
abbrev vL:=@List.any_map
abbrev vM:=@Int.le_trans
abbrev vN:=@List.eraseIdxIfInBounds_toArray
abbrev vO:=@Nat.lt_succ_self
abbrev vP:=@List.map_flatMap
abbrev vQ:=@List.length_tail
abbrev vR:=@Nat.add_mul
abbrev vS:=@List.zip_append
abbrev vT:=@List.forIn_cons
abbrev vU:=@Nat.sub_le
abbrev vV:=@Int.not_lt
abbrev vW:=@Int.negSucc_eq
abbrev vX:=@Array.perm_iff_toList_perm
abbrev vY:=@List.mem_or_eq_of_mem_set
abbrev vZ:=@List.getElem?_zip_eq_some
abbrev xA:=@List.drop_eq_getElem_cons
abbrev xB:=@Array.getElem?_eq_getElem
abbrev xC:=@Option.isSome_iff_exists
abbrev xD:=@List.length_filterMap_le
abbrev xE:=@List.idxOf_lt_length_iff
abbrev xF:=@Bool.and_true
abbrev xG:=@Nat.sub_zero
abbrev xH:=@Nat.lt_trans
abbrev xI:=@List.range_succ_eq_map
abbrev xJ:=@Nat.le_of_ble_eq_true
abbrev xK:=@List.mem_of_mem_head?
abbrev xL:=@List.countP_mono_left
abbrev xM:=@List.countP_le_length
abbrev xN:=@Nat.one_mul
abbrev xO:=@List.getElem_toArray
abbrev xP:=@Array.mem_toList_iff
namespace L2
open PySem PySem.Spec PyProof.Rows
abbrev Key:=Sum Int Str
def C5:Key->Value->Bool
 | .inl k,v=>Value.isInt k v
 | .inr x,v=>Value.isStrOf x v
def Po(w:World):Key->Int
 | .inl k=>hashInt k
 | .inr x=>hashStr w x
variable{kindOf:Str->Option NameKind}{p:Pos}{M:Model}{mA:Str->Option Value}{ch:List Addr}
theorem bV:∀{k:Key}{v:Value},C5 k v=true->(∃i t,k=Sum.inl i/\v=Value.int i t)\/(∃x t,k=Sum.inr x/\v=Value.str x t)
 | .inl i,v,h=>by
  obtain⟨t,e⟩:=Value.isInt_shape (k:=i) (v:=v) h
  exact .inl ⟨i,t,rfl,e⟩
 | .inr x,v,h=>by
  obtain⟨t,e⟩:=Value.isStrOf_shape (x:=x) (v:=v) h
  exact .inr ⟨x,t,rfl,e⟩
theorem pK(i:Int)(t:Tok):C5 (.inl i) (.int i t)=true:=by simp [C5,Value.isInt]
theorem f8(x:Str)(t:Tok):C5 (.inr x) (.str x t)=true:=by simp [C5,Value.isStrOf]
theorem w4(a b:Int):decide ((Sum.inl a:Key)=Sum.inl b)=(a==b):=by
 by_cases e:a=b
 ·subst e;simp
 ·have h:¬(Sum.inl a:Key)=Sum.inl b:=λq=>e (Sum.inl.inj q)
  rw[decide_eq_false h]
  exact(beq_eq_false_iff_ne.mpr e).symm
theorem xV(a b:Str):decide ((Sum.inr a:Key)=Sum.inr b)=decide (a=b):=by
 by_cases e:a=b
 ·subst e;simp
 ·have h:¬(Sum.inr a:Key)=Sum.inr b:=λq=>e (Sum.inr.inj q)
  rw[decide_eq_false h,decide_eq_false e]
theorem xm(a:Int)(b:Str):decide ((Sum.inl a:Key)=Sum.inr b)=false:=decide_eq_false (λq=>nomatch q)
theorem wk(a:Str)(b:Int):decide ((Sum.inr a:Key)=Sum.inl b)=false:=decide_eq_false (λq=>nomatch q)
def za(prog:Program)(w:World):PySem.KeyKind prog w Key where
 is:=C5
 hash:=Po w
 inj:=λv a b ha hb=>by
  rcases bV ha with ⟨i,t,rfl,rfl⟩|⟨x,t,rfl,rfl⟩
  ·rcases bV hb with ⟨j,u,rfl,e⟩|⟨y,u,rfl,e⟩
   ·injection e with e1 _;rw[e1]
   ·exact nomatch e
  ·rcases bV hb with ⟨j,u,rfl,e⟩|⟨y,u,rfl,e⟩
   ·exact nomatch e
   ·injection e with e1 _;rw[e1]
 byValue:=λk v h=>by
  rcases bV h with ⟨i,t,rfl,rfl⟩|⟨x,t,rfl,rfl⟩ <;>rfl
 pyHash:=λhv h=>by
  rcases bV hv with ⟨i,t,rfl,rfl⟩|⟨x,t,rfl,rfl⟩
  ·exact wpAny_pyHash_int h
  ·exact wpAny_pyHash_str h
 eqBool:=λhu hv h=>by
  rcases bV hu with ⟨i,t,rfl,rfl⟩|⟨x,t,rfl,rfl⟩
  ·rcases bV hv with ⟨j,u,rfl,rfl⟩|⟨y,u,rfl,rfl⟩
   ·rw[w4]at h;exact wpAny_eqBool_int h
   ·rw[xm]at h;exact SeqAt.EqAt.int_str i t y u _ _ _ _ h
  ·rcases bV hv with ⟨j,u,rfl,rfl⟩|⟨y,u,rfl,rfl⟩
   ·rw[wk]at h;exact SeqAt.EqAt.str_int x t j u _ _ _ _ h
   ·rw[xV]at h;exact wpAny_eqBool_str h
 «strs»:=λk x t v h=>by
  rcases bV h with ⟨i,u,rfl,e⟩|⟨y,u,rfl,e⟩
  ·exact nomatch e
  ·injection e with e1 _
   subst e1
   cases v <;>rfl
theorem kt(prog:Program)(w:World)(i:Int)(t:Tok):(za prog w).is (.inl i) (.int i t)=true:=pK i t
theorem lY(prog:Program)(w:World)(x:Str)(t:Tok):(za prog w).is (.inr x) (.str x t)=true:=f8 x t
inductive V where
 | y2|bl (b:Bool)|int (i:Int)|str (x:Str)|Fv (b:Array UInt8)|HS (b:UInt64)|ref (a:Addr)|ty (n:String)
 deriving DecidableEq
def RelV:V->Value->Prop
 | .y2,u=>u=Value.none
 | .bl b,u=>u=Value.bool b
 | .int i,u=>∃t,u=Value.int i t
 | .str x,u=>∃t,u=Value.str x t
 | .Fv b,u=>∃t,u=Value.bytes b t
 | .HS b,u=>∃t,u=Value.float b t
 | .ref a,u=>u=Value.ref a
 | .ty n,u=>u=Value.type n
abbrev Vals:List V->List Value->Prop:=Paired RelV
variable{y v:V}{kvs:List (Key×V)}{xs:List V}
theorem Vals.length(r:Vals xs us):xs.length=us.length:=Paired.length r
theorem Vals.get:∀{xs:List V}{us:List Value}{i:Nat}{x:V},Vals xs us->xs[i]?=some x->∃u,us[i]?=some u/\RelV x u
 | _,_,_,_,.nil,e=>by simp at e
 | _,_,0,_,.cons r _,e=>by simp at e;subst e;exact⟨_,rfl,r⟩
 | _,_,i+1,x,.cons _ t,e=>by
  obtain⟨u,h1,h2⟩:=Vals.get (i:=i) (x:=x) t (by simpa using e)
  exact⟨u,by simpa using h1,h2⟩
theorem Vals.set{x:V}(r:RelV x u):∀{xs:List V}{us:List Value}(i:Nat),Vals xs us->Vals (xs.set i x) (us.set i u)
 | _,_,_,.nil=>.nil
 | _,_,0,.cons _ t=>.cons r t
 | _,_,i+1,.cons q t=>.cons q (Vals.set r i t)
theorem Vals.append:∀{xs ys:List V}{us ws:List Value},Vals xs us->Vals ys ws->Vals (xs++ys) (us++ws)
 | _,_,_,_,.nil,s=>s
 | _,_,_,_,.cons r t,s=>.cons r (Vals.append t s)
theorem Vals.take:∀{xs:List V}{us:List Value}(n:Nat),Vals xs us->Vals (xs.take n) (us.take n)
 | _,_,0,_=>.nil
 | _,_,_+1,.nil=>.nil
 | _,_,n+1,.cons r t=>.cons r (Vals.take n t)
theorem Vals.drop:∀{xs:List V}{us:List Value}(n:Nat),Vals xs us->Vals (xs.drop n) (us.drop n)
 | _,_,0,r=>r
 | _,_,_+1,.nil=>.nil
 | _,_,n+1,.cons _ t=>Vals.drop n t
def A6:Option V->Option Value->Prop
 | some v,some u=>RelV v u
 | none,none=>True
 | _,_=>False
def KV{κ:Type}:List (κ×V)->List (κ×Value)->Prop:=Paired λ(p:κ×V)(q:κ×Value)=>p.1=q.1/\RelV p.2 q.2
def kV:Key->V
 | .inl i=>.int i
 | .inr x=>.str x
inductive HO where
  | lst (xs:List V)
  | tup (xs:List V)
  | dK (kvs:List (Key×V))|dT (kvs:List (List Key×V))
  | set (S:Int->Bool) (n:Nat)
  | ins (C dx:Addr) (fs:List (Str×V))
  | own (x:Addr)
  | xd (fs:List (Str×V))
  | met (f x:Addr)
  | Pp (lo hi:Int)
  | Ek (o:Obj) (u:HO)
  | AB (ps:Array Value)
  | ext (φ:Heap->Prop)
abbrev Hp:=Addr->Option HO
def upd(H:Hp)(a:Addr)(o:HO):Hp:=λb=>if b=a then some o else H b
variable{H H':Hp}{o:HO}
theorem bg:upd H a o a=some o:=by unfold upd;rw[if_pos rfl]
theorem bj(h:b≠a):upd H a o b=H b:=by unfold upd;rw[if_neg h]
theorem bK{u:HO}(h:H a=some o)(h':H b=some u)(d:o≠u):a≠b:=by
 intro e;subst e;rw[h]at h';exact d (Option.some.inj h')
theorem bi(h:H a=some o)(h':H b=none):a≠b:=by
 intro e;subst e;rw[h]at h';cases h'
section
variable(P:Program)(w:World)
def zk(H:Hp)(h:Heap)(a:Addr):HO->Prop
 | .lst xs=>xs.length<=sizeLine/\∃(its:List Value)(n:Nat),Vals xs its/\h.get? a=some { cls:=.type "list",data:=.seq its.toArray n }
 | .tup xs=>xs.length<=sizeLine/\∃its:List Value,Vals xs its/\IsTup h a its.toArray
 | .dK kvs=>kvs.length<=sizeLine/\(a==sysModules)=false/\∃vs,KV kvs vs/\h.DictOf (za P w) a vs
 | .dT kvs=>kvs.length<=sizeLine/\(a==sysModules)=false/\∃xs:List (List Key×Addr×Value),
   Paired (λ(p:List Key×V)(q:List Key×Addr×Value)=>p.1=q.1/\H q.2.1=some (.tup (p.1.map kV))/\RelV p.2 q.2.2) kvs xs /\
   ∃o es ep,h.get? a=some o/\o.ExactDict/\o.data=.dict es ep/\es.toList=xs.map (entryOfKey (tupleKind (za P w)))/\(xs.map (·.1)).Nodup
 | .set S n=>h.SetOf (intKind P w) a S n
 | .ins C dx fs=>H dx=some (.own a)/\fs.length<=1000/\dx≠a/\h.get? a=some (PySem.W.instObj C dx) /\
   ∃mA,h.Ns1 dx mA/\(∀f,A6 (fs.lookup f) (mA f))/\PySem.Within mA (fs.map (·.1))
 | .own _=>∃o,h.get? a=some o
 | .xd fs=>∃mA,h.Ns1 a mA/\∀f,A6 (fs.lookup f) (mA f)
 | .Pp lo hi=>∃t u v,h.get? a=some { cls:=.type "range",data:=.fields #[.int lo t,.int hi u,.int 1 v] }
 | .Ek o u=>h.get? a=some o/\zk H h a u
 | .AB ps=>h.get? a=some { cls:=.none,data:=.fields ps }
 | .met f x=>h.get? a=some (PySem.W.methodObj (.ref f) (.ref x))
 | .ext φ=>φ h/\(∃o,h.get? a=some o)/\∀h1 h2:Heap,φ h1->(∀o,h1.get? a=some o->h2.get? a=some o)->φ h2
def BG(H:Hp)(h:Heap):Prop:=∀a o,H a=some o->zk P w H h a o
end
theorem zk.lt(x:zk P w H h a o):a<h.objs.size:=by
 cases o with
 | lst xs=>obtain⟨_,_,_,_,e⟩:=x;exact Heap.lt_size e
 | tup xs=>obtain⟨_,_,_,p⟩:=x;exact p.lt
 | dK kvs=>obtain⟨_,_,_,_,o,_,_,e,_⟩:=x;exact Heap.lt_size e
 | dT kvs=>obtain⟨_,_,_,_,o,_,_,e,_⟩:=x;exact Heap.lt_size e
 | set S n=>obtain⟨o,_,_,_,e,_⟩:=x;exact Heap.lt_size e
 | ins C dx fs=>obtain⟨_,_,_,e,_⟩:=x;exact Heap.lt_size e
 | own y=>obtain⟨_,e⟩:=x;exact Heap.lt_size e
 | xd fs=>obtain⟨_,⟨_,_,_,e,_⟩,_⟩:=x;exact Heap.lt_size e
 | Pp lo hi=>obtain⟨_,_,_,e⟩:=x;exact Heap.lt_size e
 | Ek B u=>obtain⟨e,_⟩:=x;exact Heap.lt_size e
 | AB ps=>exact Heap.lt_size (show h.get? a=some _ from x)
 | met f y=>exact Heap.lt_size (show h.get? a=some _ from x)
 | ext φ=>obtain⟨_,⟨_,e⟩,_⟩:=x;exact Heap.lt_size e
theorem Paired.HU{F G:α->β->Prop}:∀{l₁:List α}{l₂:List β},Paired F l₁ l₂->(∀a b,F a b->G a b)->Paired G l₁ l₂
 | _,_,.nil,_=>.nil
 | _,_,.cons r t,f=>.cons (f _ _ r) (Paired.HU t f)
theorem zk.De(x:zk P w H h a o)(k:∀b u,(b=a\/H b=some (.own a))->h.get? b=some u->h'.get? b=some u)
  (ho:∀b,H b=some (.own a)->H' b=some (.own a)) (ht:∀b xs,H b=some (.tup xs)->H' b=some (.tup xs)):zk P w H' h' a o:=by
 induction o with
 | lst xs=>obtain⟨z,its,n,r,e⟩:=x;exact⟨z,its,n,r,k _ _ (.inl rfl) e⟩
 | tup xs=>obtain⟨z,its,r,B,e,c⟩:=x;exact⟨z,its,r,B,k _ _ (.inl rfl) e,c⟩
 | dK kvs=>obtain⟨z,y,vs,r,B,es,ep,e,c⟩:=x;exact⟨z,y,vs,r,B,es,ep,k _ _ (.inl rfl) e,c⟩
 | dT kvs =>
  obtain⟨z,y,xs,r,B,es,ep,e,c⟩:=x
  exact⟨z,y,xs,Paired.HU r λp q z=>⟨z.1,ht _ _ z.2.1,z.2.2⟩,B,es,ep,k _ _ (.inl rfl) e,c⟩
 | set S n=>obtain⟨B,es,ep,t,e,c⟩:=x;exact⟨B,es,ep,t,k _ _ (.inl rfl) e,c⟩
 | ins C dx fs =>
  obtain⟨d,z,ne,e,mA,⟨od,es,ep,e2,c⟩,r⟩:=x
  exact⟨ho _ d,z,ne,k _ _ (.inl rfl) e,mA,⟨od,es,ep,k _ _ (.inr d) e2,c⟩,r⟩
 | own y=>obtain⟨B,e⟩:=x;exact⟨B,k _ _ (.inl rfl) e⟩
 | xd fs=>obtain⟨mA,⟨od,es,ep,e,c⟩,r⟩:=x;exact⟨mA,⟨od,es,ep,k _ _ (.inl rfl) e,c⟩,r⟩
 | Pp lo hi=>obtain⟨t,u,v,e⟩:=x;exact⟨t,u,v,k _ _ (.inl rfl) e⟩
 | Ek B u ih=>obtain⟨e,q⟩:=x;exact⟨k _ _ (.inl rfl) e,ih q⟩
 | AB ps =>
  have e:h.get? a=some { cls:=.none,data:=.fields ps }:=x
  show h'.get? a=some { cls:=.none,data:=.fields ps }
  exact k a _ (.inl rfl) e
 | met f y =>
  have e:h.get? a=some (PySem.W.methodObj (.ref f) (.ref y)):=x
  show h'.get? a=some (PySem.W.methodObj (.ref f) (.ref y))
  exact k a _ (.inl rfl) e
 | ext φ=>obtain⟨p,⟨o,e⟩,st⟩:=x;exact⟨st _ _ p λo q=>k _ _ (.inl rfl) q,⟨o,k _ _ (.inl rfl) e⟩,st⟩
theorem BG.lt(x:BG P w H h)(e:H a=some o):a<h.objs.size:=(x a o e).lt
theorem BG.fresh(x:BG P w H h)(e:h.objs.size<=a):H a=none:=by
 cases q:H a with
 | none=>rfl
 | some u=>exact absurd (yC (x.lt q) e) (qO _)
theorem BG.kept(x:BG P w H h)(k:∀b u,h.get? b=some u->h'.get? b=some u):BG P w H h':=λa o e =>
 (x a o e).De (λb u _ q=>k b u q) (λ_ q=>q) λ_ _ q=>q
theorem BG.laid(x:BG P w H h)(k:∀b u,h.get? b=some u->h'.get? b=some u)(hp:h.objs.size<=a)(new:zk P w (upd H a o) h' a o):BG P w (upd H a o) h':=λb u e=>by
 have hn:=x.fresh hp
 by_cases hb:b=a
 ·subst hb;rw[bg]at e;cases e;exact new
 ·rw[bj hb]at e
  exact(x b u e).De (λc v _ q=>k c v q) (λc q=>by rw[bj (bi q hn)];exact q) λc xs q=>by rw[bj (bi q hn)];exact q
def Rd(H:Hp)(a:Addr)(u:HO):Prop:=H a=some u\/∃o,H a=some (.Ek o u)
theorem Rd.ok{u:HO}(r:Rd H a u)(x:BG P w H h):zk P w H h a u:=by
 rcases r with r|⟨o,r⟩
 ·exact x a u r
 ·obtain⟨_,q⟩:=x a _ r
  exact q
def LS:Option HO->Prop
 | some (.lst _)=>True
 | some (.dK _)=>True
 | some (.dT _)=>True
 | some (.set _ _)=>True
 | some (.ins _ _ _)=>True
 | some (.ext _)=>True
 | _=>False
section
variable{x e:Addr}{o':HO}
theorem BG.write(ok:BG P w H h)(U:LS (H x))(he:e=x\/H e=some (.own x))(k:∀b u,b≠e->h.get? b=some u->h'.get? b=some u)(Y:∃u,h'.get? e=some u)
  (new:zk P w (upd H x o') h' x o'):BG P w (upd H x o') h':=λb u q=>by
 have G:∀c y,H c=some (.own y)->c≠x:=λc y r z=>by subst z;rw[r]at U;exact U
 have O:∀c xs,H c=some (.tup xs)->c≠x:=λc xs r z=>by subst z;rw[r]at U;exact U
 by_cases hb:b=x
 ·subst hb;rw[bg]at q;cases q;exact new
 ·rw[bj hb]at q
  by_cases B:b=e
  ·have q':H b=some (.own x):=by
    rcases he with z|z
    ·exact absurd (B.trans z) hb
    ·rw[B];exact z
   rw[q]at q';cases q'
   obtain⟨v,hv⟩:=Y
   exact⟨v,by rw[B];exact hv⟩
  ·refine(ok b u q).De (λc v hc r=>k c v ?_ r) (λc r=>by rw[bj (G c b r)];exact r) λc xs r=>by rw[bj (O c xs r)];exact r
   rcases hc with rfl|hc
   ·exact B
   ·rintro rfl
    rcases he with z|z
    ·exact G c b hc z
    ·rw[hc]at z;cases z;exact hb rfl
end
structure Un(fs ex:List Addr)(H H':Hp)(h h':Heap):Prop where
 keep:∀b o,h.get? b=some o->H b=none->b∉fs->b∉ex->h'.get? b=some o
 slot:∀b o,h.get? b=some o->H b=none->b∈fs->b∉ex->∃sl,h'.get? b=some { o with slots:=sl }
 free:∀b o,h.get? b=some o->H b=none->b∉ex->H' b=none
 there:∀b o,h.get? b=some o->b∉ex->∃o',h'.get? b=some o'
 DJ:∀b xs,H b=some (.tup xs)->H' b=some (.tup xs)
 Df:∀b o u,H b=some (.Ek o u)->H' b=some (.Ek o u)
 Dg:∀b ps,H b=some (.AB ps)->∃more,H' b=some (.AB (ps++more))
section
variable{fs Vu ex Zi:List Addr}{H1 H2:Hp}{h1 h2:Heap}{x e:Addr}
theorem Un.any(u:Un fs ex H H1 h h1){B:Obj}(q:h.get? b=some B)(n:H b=none)(hx:b∉ex):∃sl,h1.get? b=some { B with slots:=sl }:=by
 by_cases hb:b∈fs
 ·exact u.slot b B q n hb hx
 ·exact⟨B.slots,u.keep b B q n hb hx⟩
theorem Un.kept(k:∀b u,h.get? b=some u->h'.get? b=some u):Un fs ex H H h h' :=
 ⟨λb B q _ _ _=>k b B q,λb B q _ _ _=>⟨B.slots,k b B q⟩,λ_ _ _ n _=>n,λb B q _=>⟨B,k b B q⟩,λ_ _ q=>q,λ_ _ _ q=>q,λ_ ps q=>⟨#[],by rw[q];simp⟩⟩
theorem Un.refl:Un fs ex H H h h:=Un.kept λ_ _ q=>q
theorem Un.laid(k:∀b u,h.get? b=some u->h'.get? b=some u)(hp:h.objs.size<=a)(hn:H a=none):Un fs ex H (upd H a o) h h' where
 keep:=λb u q _ _ _=>k b u q
 slot:=λb u q _ _ _=>⟨u.slots,k b u q⟩
 free:=λb u q n _=>by rw[bj (yK (yC (Heap.lt_size q) hp))];exact n
 there:=λb u q _=>⟨u,k b u q⟩
 DJ:=λb xs q=>by rw[bj (bi q hn)];exact q
 Df:=λb u xs q=>by rw[bj (bi q hn)];exact q
 Dg:=λb ps q=>⟨#[],by rw[bj (bi q hn),q];simp⟩
theorem Un.write(G:LS (H x))(U:e=x\/H e=some (.own x))(k:∀b u,b≠e->h.get? b=some u->h'.get? b=some u)(O:∃u,h'.get? e=some u):Un fs ex H (upd H x o) h h':=by
 have hx:∀b,H b=none->b≠x:=λb n z=>by subst z;rw[n]at G;exact G
 have hb:∀b,H b=none->b≠e:=λb n z=>by
  subst z
  rcases U with r|r
  ·exact hx b n r
  ·rw[n]at r;cases r
 have hm:∀b u,H b=some u->¬LS (some u)->b≠x:=λb u q nm z=>by subst z;rw[q]at G;exact nm G
 refine⟨λb u q n _ _=>k b u (hb b n) q,λb u q n _ _=>⟨u.slots,k b u (hb b n) q⟩,λb u q n _=>by rw[bj (hx b n)];exact n,λb u q _=>?_,
  λb xs q=>by rw[bj (hm b _ q λz=>z)];exact q,λb u xs q=>by rw[bj (hm b _ q λz=>z)];exact q,λb ps q=>⟨#[],by rw[bj (hm b _ q λz=>z),q];simp⟩⟩
 by_cases B:b=e
 ·subst B;exact O
 ·exact⟨u,k b u B q⟩
end
def El(h:Heap)(H:Hp):List Addr:=(List.range h.objs.size).filter λa=>(H a).isSome
def CO(h:Heap)(H:Hp):Heap:=PySem.W.hideAll h (El h H)
theorem qa(h:Heap)(H:Hp):(CO h H).objs.size=h.objs.size:=PySem.W.hideAll_size _ _
theorem qy{o:Obj}(e:h.get? b=some o)(n:H b=none):(CO h H).get? b=some o :=
 PySem.W.hideAll_get _ e λhm=>by
  have q:(H b).isSome=true:=(zR.mp hm).2
  rw[n]at q;simp at q
theorem ub{o:Obj}(e:(CO h H).get? b=some o):h.get? b=some o/\H b=none:=by
 have B:h.get? b=some o:=PySem.W.of_hideAll (El h H) e
 refine⟨B,?_⟩
 cases q:H b with
 | none=>rfl
 | some x =>
  have hm:b∈El h H:=zR.mpr ⟨y8.mpr (Heap.lt_size B),by simp [q]⟩
  have z:(CO h H).get? b=none:=PySem.W.hideAll_none (El h H) hm
  rw[z]at e;cases e
structure Mod(K:PySem.W.Frag)(mg:Str->Option Value)(base:Heap):Prop where
 IT:K.In base
 glob:base.Ns mainGlobals mg
 blt:∃mb,base.Ns builtinsNs mb/\∀x:Str,x ≠ "__name__"->mb x=bootBuiltins x
 nolimit:base.NoLimit
set_option genInjectivity false in
set_option genSizeOf false in
structure Cx where
 prog:Program
 w:World
 K:PySem.W.Frag
 mg:Str->Option Value
 base:Heap
 A:Around
 N:List Str
 s₀:Shared
 H₀:Hp
 env:Env
 outer:List Env
 stack:List Env
 ex:List Addr
 fn:Str->Bool
 calm:Bool
 pn:List (Addr×Obj)
 xe:Value->Shared->Prop
def FI(l:List Env):List Addr:=l.filterMap (·.frame)
abbrev Cx.fs(X:Cx):List Addr:=FI X.outer
def Oi(sc:Scope)(x:Str):Prop:=sc.names.lookup x=some .local\/sc.names.lookup x=some .cell\/sc.names.lookup x=some .free
def Loc(sc:Scope)(x:Str):Prop:=sc.names.lookup x=some .local\/sc.names.lookup x=some .cell
def Look(env:Env)(h:Heap)(m:Str->Option Value)(x:Str)(u:Value):Prop :=
 (env.kindOf x=some .local/\m x=some u)\/((env.kindOf x=some .cell\/env.kindOf x=some .free)/\∃c,env.cells.lookup x=some c/\h.IsCell c (some u))
structure Cx.Ok(X:Cx):Prop where
 mod:Mod X.K X.mg X.base
 kind:X.env.scope.kind=.function
 glob:X.env.globals=mainGlobals
 blt:X.env.builtins=builtinsNs
 above:X.s₀.heap.objs.size<=X.env.locals
 inj:∀x y c,X.env.cells.lookup x=some c->X.env.cells.lookup y=some c->x=y
 has:∀x,(X.env.kindOf x=some .cell\/X.env.kindOf x=some .free)->∃c,X.env.cells.lookup x=some c
 LU:∀x c,X.fn x=true->X.env.cells.lookup x=some c->X.s₀.heap.objs.size<=c
 hd:X.calm=true->X.A.handled=none
 frames:X.A.frames=some X.stack
 Oj:X.stack=X.outer\/(X.stack=X.env::X.outer/\X.env.frame=some X.env.locals)
 Sz:∀b∈X.ex,b≠X.env.locals/\∀x c,X.env.cells.lookup x=some c->c≠b
 bs:∀b o,X.base.get? b=some o->X.s₀.heap.get? b=some o/\X.H₀ b=none
 HV:X.base.objs.size<=X.s₀.heap.objs.size
 Fe:∀b o,X.base.get? b=some o->b∉X.ex
 HW:∀b∈X.ex,b∉X.fs
 B8:X.s₀.heap.FunFrames X.base X.outer
 JW:∀b∈X.fs,X.H₀ b=none
structure Inv(X:Cx)(aO:List (Addr×Obj))(σ:List (Option V))(H:Hp)(s:Shared):Prop where
 ok:X.Ok
 os:s.os=X.s₀.os
 bare:AllBare s.gens
 base:Un X.fs X.ex X.H₀ H X.s₀.heap s.heap
 loc:∃m,s.heap.Ns X.env.locals m/\∀(i:Nat)(x:Str)(v:V),X.N[i]?=some x->σ[i]?=some (some v)->Oi X.env.scope x->∃u,RelV v u/\Look X.env s.heap m x u
 cell:∀x c,X.env.cells.lookup x=some c->∃v,s.heap.IsCell c v
 free:H X.env.locals=none
 A_:∀x c,X.env.cells.lookup x=some c->H c=none
 pin:∀p∈X.pn++aO,s.heap.get? p.1=some p.2/\H p.1=none/\p.1≠X.env.locals/\p.1∉X.fs/\∀v,p.2.data≠.cell v
 yx:BG X.prog X.w H s.heap
 len:σ.length=X.N.length
variable{X:Cx}
section
variable{σ:List (Option V)}
theorem Cx.Ok.Pq(ok:X.Ok){o:Obj}(e:X.base.get? b=some o):b∉X.fs:=λhb=>by
 have:=(ok.B8.mem hb).1
 rw[e]at this;cases this
theorem Inv.bs(I:Inv X aO σ H s):∀b o,X.base.get? b=some o->s.heap.get? b=some o/\H b=none:=λb o e =>
 ⟨I.base.keep b o (I.ok.bs b o e).1 (I.ok.bs b o e).2 (I.ok.Pq e) (I.ok.Fe b o e),I.base.free b o (I.ok.bs b o e).1 (I.ok.bs b o e).2 (I.ok.Fe b o e)⟩
theorem Inv.bk(I:Inv X aO σ H s):∀b o,X.base.get? b=some o->s.heap.get? b=some o:=λb o e=>(I.bs b o e).1
theorem Inv.mod(I:Inv X aO σ H s):Mod X.K X.mg X.base:=I.ok.mod
theorem Inv.Bt(I:Inv X aO σ H s):X.K.In s.heap:=I.ok.mod.IT.keeps I.bk
theorem Inv.nolimit(I:Inv X aO σ H s):s.heap.NoLimit:=I.ok.mod.nolimit.keeps I.bk
theorem Inv.lt(I:Inv X aO σ H s):X.env.locals<s.heap.objs.size:=let ⟨_,hn,_⟩:=I.loc;hn.lt
theorem Inv.sz(I:Inv X aO σ H s):X.s₀.heap.objs.size<=s.heap.objs.size:=yE I.ok.above (qP I.lt)
theorem Inv.Pr(I:Inv X aO σ H s)(h:s.heap.objs.size<=a):a∉X.fs:=λhb=>by
 obtain⟨_,o,ho,_⟩:=I.ok.B8.mem hb
 exact absurd (yC (Heap.lt_size ho) (yE I.sz h)) (qO _)
theorem Inv.Hm(I:Inv X aO σ H s):∀x c,X.env.cells.lookup x=some c->c≠X.env.locals:=λx c e z=>by
 obtain⟨v,o,ho,hd⟩:=I.cell x c e
 obtain⟨m,⟨o',es,ep,B,G,_⟩,_⟩:=I.loc
 rw[z,B]at ho;cases ho;rw[G]at hd;cases hd
theorem Inv.B8(I:Inv X aO σ H s):s.heap.FunFrames X.base X.outer:=by
 have all:∀(l:List Env),(∀b∈FI l,b∈X.fs)->X.s₀.heap.FunFrames X.base l->s.heap.FunFrames X.base l:=by
  intro l
  induction l with
  | nil=>intro _ _;trivial
  | cons env r ih =>
   intro hs hl
   obtain⟨hk,⟨L,o,hf,hn,ho,hd⟩,hr⟩:=hl
   have hL:L∈X.fs:=hs L (by unfold FI;rw[jR,hf];exact zH)
   obtain⟨sl,e⟩:=I.base.slot L o ho (I.ok.JW L hL) hL λz=>I.ok.HW L z hL
   exact⟨hk,⟨L,_,hf,hn,e,hd⟩,ih (λb hb=>hs b (by unfold FI;rw[jR,hf];exact zL _ hb)) hr⟩
 exact all X.outer (λ_ hb=>hb) I.ok.B8
theorem Inv.stack(I:Inv X aO σ H s):s.heap.FunFrames X.base X.stack:=by
 rcases I.ok.Oj with e|⟨e,hf⟩
 ·rw[e];exact I.B8
 ·rw[e]
  obtain⟨m,hn,_⟩:=I.loc
  refine .cons (by rw[I.ok.kind];decide) hf hn ?_ I.B8
  exact Heap.get?_none_of_le (yE I.ok.HV I.ok.above)
theorem Inv.Dh(I:Inv X aO σ H s):∀b∈FI X.stack,b∈X.env.locals::X.fs:=λb hb=>by
 rcases I.ok.Oj with e|⟨e,hf⟩
 ·rw[e]at hb;exact zL _ hb
 ·rw[e]at hb
  unfold FI at hb
  rw[jR,hf]at hb
  exact hb
theorem Inv.EL(I:Inv X aO σ H s):∀b∈FI X.stack,H b=none:=λb hb=>by
 rcases zO.mp (I.Dh b hb)with e|hb
 ·rw[e];exact I.free
 ·obtain⟨_,o,ho,_⟩:=I.ok.B8.mem hb
  exact I.base.free b o ho (I.ok.JW b hb) λz=>I.ok.HW b z hb
theorem Inv.step{g':Array GenState}{d':Drawn}(I:Inv X aO σ H s)
  (B:∀b∈ch,(b∈X.ex\/X.s₀.heap.objs.size<=b)/\b≠X.env.locals/\(∀x c,X.env.cells.lookup x=some c->c≠b)/\∀p∈X.pn++aO,p.1≠b)
  (keep:∀b o,b≠X.env.locals->b∉X.fs->b∉ch->s.heap.get? b=some o->H b=none->h'.get? b=some o)
  (slot:∀b o,b≠X.env.locals->b∈X.fs->b∉ch->s.heap.get? b=some o->H b=none->∃sl,h'.get? b=some { o with slots:=sl }) (free:∀b o,b∉ch->s.heap.get? b=some o->H b=none->H' b=none)
  (there:∀b o,b∉ch->s.heap.get? b=some o->∃o',h'.get? b=some o')
  (DJ:∀b xs,H b=some (.tup xs)->H' b=some (.tup xs)) (Df:∀b o u,H b=some (.Ek o u)->H' b=some (.Ek o u)) (Dg:∀b ps,H b=some (.AB ps)->∃more,H' b=some (.AB (ps++more)))
  (ns:∀m,s.heap.Ns X.env.locals m->h'.Ns X.env.locals m) (yx:BG X.prog X.w H' h') (hg:AllBare g') :
  Inv X aO σ H' { s with heap:=h',gens:=g',drawn:=d',toks:=t' }:=by
 have Y:∀b o,X.s₀.heap.get? b=some o->b≠X.env.locals:=λb o e=>yK (yC (Heap.lt_size e) I.ok.above)
 have U:∀b o,X.s₀.heap.get? b=some o->b∉X.ex->b∉ch:=λb o e hx hb=>by
  rcases(B b hb).1 with z|z
  ·exact hx z
  ·exact absurd (yC (Heap.lt_size e) z) (qO _)
 have G:∀x c,X.env.cells.lookup x=some c->∀v,s.heap.IsCell c v->h'.IsCell c v:=λx c e v ⟨o,ho,hd⟩=>by
  have O:c∉ch:=λz=>(B c z).2.2.1 x c e rfl
  by_cases hc:c∈X.fs
  ·obtain⟨sl,q⟩:=slot c o (I.Hm x c e) hc O ho (I.A_ x c e)
   exact⟨_,q,hd⟩
  ·exact⟨o,keep c o (I.Hm x c e) hc O ho (I.A_ x c e),hd⟩
 refine⟨I.ok,I.os,hg,⟨λb o e n hb hx=>?_,λb o e n hb hx=>?_,λb o e n hx=>?_,λb o e hx=>?_,λb xs e=>DJ b xs (I.base.DJ b xs e),λb o xs e=>Df b o xs (I.base.Df b o xs e),λb ps e=>?_⟩,?_,λx c e=>?_,?_,λx c e=>?_,λp hp=>?_,yx,I.len⟩
 ·exact keep b o (Y b o e) hb (U b o e hx) (I.base.keep b o e n hb hx) (I.base.free b o e n hx)
 ·obtain⟨sl,e1⟩:=I.base.slot b o e n hb hx
  obtain⟨Vv,e2⟩:=slot b _ (Y b o e) hb (U b o e hx) e1 (I.base.free b o e n hx)
  exact⟨Vv,e2⟩
 ·obtain⟨o',e1⟩:=I.base.there b o e hx
  exact free b o' (U b o e hx) e1 (I.base.free b o e n hx)
 ·obtain⟨o',e1⟩:=I.base.there b o e hx
  exact there b o' (U b o e hx) e1
 ·obtain⟨m1,e1⟩:=I.base.Dg b ps e
  obtain⟨m2,e2⟩:=Dg b _ e1
  exact⟨m1++m2,by rw[e2,Array.append_assoc]⟩
 ·obtain⟨m,hn,hl⟩:=I.loc
  refine⟨m,ns m hn,λi x v e1 e2 e3=>?_⟩
  obtain⟨u,r,l⟩:=hl i x v e1 e2 e3
  refine⟨u,r,?_⟩
  rcases l with l|⟨k,c,e,z⟩
  ·exact .inl l
  ·exact .inr ⟨k,c,e,G x c e _ z⟩
 ·obtain⟨v,z⟩:=I.cell x c e
  exact⟨v,G x c e v z⟩
 ·obtain⟨m,⟨o,_,_,ho,_⟩,_⟩:=I.loc
  exact free _ o (λz=>(B _ z).2.1 rfl) ho I.free
 ·obtain⟨v,o,ho,hd⟩:=I.cell x c e
  exact free c o (λz=>(B c z).2.2.1 x c e rfl) ho (I.A_ x c e)
 ·obtain⟨e,n,ne,nf,d⟩:=I.pin p hp
  have O:p.1∉ch:=λz=>(B p.1 z).2.2.2 p hp rfl
  exact⟨keep p.1 p.2 ne nf O e n,free p.1 p.2 O e n,ne,nf,d⟩
theorem Inv.un(I:Inv X aO σ H s)(u:Un X.fs [] H H' s.heap h')(yx:BG X.prog X.w H' h'):Inv X aO σ H' { s with heap:=h',toks:=t' }:=by
 obtain⟨m,⟨o,es,ep,ho,r⟩,_⟩:=id I.loc
 obtain⟨sl,hL⟩:=u.any ho I.free (by simp)
 exact I.step (g':=s.gens) (d':=s.drawn) (ch:=[]) (λ_ z=>nomatch z) (λb o _ hb _ e n=>u.keep b o e n hb (by simp)) (λb o _ hb _ e n=>u.slot b o e n hb (by simp)) (λb o _ e n=>u.free b o e n (by simp)) (λb o _ e=>u.there b o e (by simp)) u.DJ u.Df u.Dg (λU hm=>by
  obtain⟨o',G,O,B,r'⟩:=hm
  rw[ho]at B;cases B
  exact⟨_,G,O,hL,r'⟩) yx I.bare
theorem Inv.call{g':Array GenState}{d':Drawn}(I:Inv X aO σ H s)(u:Un (FI X.stack) ch H H' s.heap h')(yx:BG X.prog X.w H' h')(hg:AllBare g')
  (B:∀b∈ch,(b∈X.ex\/X.s₀.heap.objs.size<=b)/\b≠X.env.locals/\(∀x c,X.env.cells.lookup x=some c->c≠b)/\∀p∈X.pn++aO,p.1≠b) :
  Inv X aO σ H' { s with heap:=h',gens:=g',drawn:=d',toks:=t' }:=by
 obtain⟨m,⟨o,es,ep,ho,r⟩,_⟩:=id I.loc
 obtain⟨sl,hL⟩:=u.any ho I.free λz=>(B _ z).2.1 rfl
 exact I.step (ch:=ch) B (λb o hL hb hc e n=>u.keep b o e n (λz=>(zO.mp (I.Dh b z)).elim hL hb) hc) (λb o _ _ hc e n=>u.any e n hc) (λb o hc e n=>u.free b o e n hc) (λb o hc e=>u.there b o e hc) u.DJ u.Df u.Dg (λY hm=>by
  obtain⟨o',O,U,G,r'⟩:=hm
  rw[ho]at G;cases G
  exact⟨_,O,U,hL,r'⟩) yx hg
theorem Inv.turned(I:Inv X aO σ H s)(k:∀b o,b≠it->s.heap.get? b=some o->h'.get? b=some o)(hn:H it=none)(hL:it≠X.env.locals)
  (h1:it∈X.ex\/X.s₀.heap.objs.size<=it) (h2:∀x c,X.env.cells.lookup x=some c->c≠it) (h3:∀p∈X.pn++aO,p.1≠it):Inv X aO σ H { s with heap:=h',toks:=t' }:=by
 have B:∀b u,H b=some u->b≠it:=λb u e z=>by rw[z,hn]at e;cases e
 refine I.step (g':=s.gens) (d':=s.drawn) (ch:=[it]) (λb hb=>?_) (λb o _ _ hc e _=>k b o (λz=>hc (by simp [z])) e) (λb o _ _ hc e _=>⟨o.slots,k b o (λz=>hc (by simp [z])) e⟩) (λ_ _ _ _ n=>n)
  (λb o hc e=>⟨o,k b o (λz=>hc (by simp [z])) e⟩) (λ_ _ e=>e) (λ_ _ _ e=>e) (λb ps e=>⟨#[],by rw[e];simp⟩) (λm hm=>?_) (λb u e=>?_) I.bare
 ·have e:b=it:=by simpa using hb
  subst e
  exact⟨h1,hL,h2,h3⟩
 ·obtain⟨o,es,ep,ho,r⟩:=hm
  exact⟨o,es,ep,k _ o (Ne.symm hL) ho,r⟩
 ·refine(I.yx b u e).De (λc v hc q=>k c v ?_ q) (λ_ q=>q) λ_ _ q=>q
  rcases hc with z|z
  ·rw[z];exact B b u e
  ·exact B c _ z
theorem Inv.tok(I:Inv X aO σ H s)(t:Nat):Inv X aO σ H { s with toks:=t }:=I.un (h':=s.heap) (t':=t) Un.refl I.yx
theorem Inv.kept(I:Inv X aO σ H s)(k:∀b u,s.heap.get? b=some u->h'.get? b=some u):Inv X aO σ H { s with heap:=h',toks:=t' }:=I.un (Un.kept k) (I.yx.kept k)
theorem Inv.laid(I:Inv X aO σ H s)(k:∀b u,s.heap.get? b=some u->h'.get? b=some u)(hp:s.heap.objs.size<=a)(new:zk X.prog X.w (upd H a o) h' a o) :
  Inv X aO σ (upd H a o) { s with heap:=h',toks:=t' }:=I.un (Un.laid k hp (I.yx.fresh hp)) (I.yx.laid k hp new)
theorem Inv.write{x e:Addr}(I:Inv X aO σ H s)(G:LS (H x))(O:e=x\/H e=some (.own x))(k:∀b u,b≠e->s.heap.get? b=some u->h'.get? b=some u)(B:∃u,h'.get? e=some u)
  (new:zk X.prog X.w (upd H x o) h' x o):Inv X aO σ (upd H x o) { s with heap:=h',toks:=t' }:=I.un (Un.write G O k B) (I.yx.write G O k B new)
theorem Inv.Di{B:List (Addr×Obj)}(I:Inv X aO σ H s)(h:∀p∈B,s.heap.get? p.1=some p.2/\H p.1=none/\p.1≠X.env.locals/\p.1∉X.fs/\∀v,p.2.data≠.cell v):Inv X B σ H s :=
 ⟨I.ok,I.os,I.bare,I.base,I.loc,I.cell,I.free,I.A_,λp hp=>(zW.mp hp).elim (λz=>I.pin p (yQ _ z)) (h p),I.yx,I.len⟩
theorem lJ(hN:N.Nodup)(a:N[i]?=some x)(b:N[j]?=some x):i=j:=by
 obtain⟨h1,e1⟩:=zC.mp a
 obtain⟨h2,e2⟩:=zC.mp b
 exact(List.getElem_inj hN).mp (e1.trans e2.symm)
theorem pA{Q:Unit->Shared->Prop}(I:Inv X aO σ H s)(hN:X.N.Nodup)(hi:X.N[i]?=some x)(hx:Loc X.env.scope x)(r:RelV v u)
  (h:∀s',Inv X aO (σ.set i (some v)) H s'->(∃a,Heap.SameBut a s.heap s'.heap/\(a=X.env.locals\/X.env.cells.lookup x=some a))->Q () s') (hf:X.fn x=true\/X.env.scope.names.lookup x=some .local:=by first|exact .inl rfl|exact .inr rfl|assumption):wpAny M A (storeName X.env x u) Q E s:=by
 obtain⟨m,hn,hl⟩:=id I.loc
 have U:(X.env.scope.kind==.class||(X.env.scope.kind==.module&&X.env.locals != X.env.globals))=false:=by rw[I.ok.kind];rfl
 have hiσ:i < σ.length:=by rw[I.len];exact(zC.mp hi).1
 have Hm:=I.Hm
 have B:∀{a:Addr}{h':Heap},(∃o,s.heap.get? a=some o/\H a=none)->Heap.SameBut a s.heap h'->BG X.prog X.w H h':=fun {a h'} ha hs b ob e=>by
  obtain⟨_,_,G⟩:=ha
  refine(I.yx b ob e).De (λc w' hc q=>(hs.2 c ?_).trans q) (λ_ q=>q) λ_ _ q=>q
  rintro rfl
  rcases hc with rfl|hc
  ·rw[G]at e;cases e
  ·rw[G]at hc;cases hc
 rcases hx with hk|hk
 ·refine wpAny_storeName_local hk hn (λh' Ff hs=>?_) U
  obtain⟨oL,_,_,Vw,_⟩:=id hn
  refine h _ ⟨I.ok,I.os,I.bare,⟨λb o e n hb hx=>?_,λb o e n hb hx=>?_,I.base.free,λb o e hx=>?_,I.base.DJ,I.base.Df,I.base.Dg⟩,⟨_,Ff,λj y v' e1 e2 e3=>?_⟩,λy c e=>?_,I.free,I.A_,λp hp=>?_,B ⟨oL,Vw,I.free⟩ hs,by simpa using I.len⟩ ⟨_,hs,.inl rfl⟩
  ·exact(hs.2 b (yK (yC (Heap.lt_size e) I.ok.above))).trans (I.base.keep b o e n hb hx)
  ·obtain⟨sl,e1⟩:=I.base.slot b o e n hb hx
   exact⟨sl,(hs.2 b (yK (yC (Heap.lt_size e) I.ok.above))).trans e1⟩
  ·obtain⟨o',e1⟩:=I.base.there b o e hx
   exact⟨o',(hs.2 b (yK (yC (Heap.lt_size e) I.ok.above))).trans e1⟩
  ·by_cases hj:j=i
   ·subst hj
    rw[hi]at e1;cases e1
    rw[yW hiσ]at e2
    cases e2
    exact⟨u,r,.inl ⟨hk,by simp⟩⟩
   ·rw[y4 (Ne.symm hj)]at e2
    obtain⟨u',r',q⟩:=hl j y v' e1 e2 e3
    refine⟨u',r',?_⟩
    rcases q with ⟨k,e⟩|⟨k,c,e,z⟩
    ·refine .inl ⟨k,?_⟩
     have:y≠x:=λe=>hj (lJ hN e1 (e▸hi))
     simp [this,e]
    ·exact .inr ⟨k,c,e,z.sameBut hs (Hm y c e)⟩
  ·obtain⟨w',z⟩:=I.cell y c e
   exact⟨w',z.sameBut hs (Hm y c e)⟩
  ·obtain⟨e,n,ne,nf,d⟩:=I.pin p hp
   exact⟨(hs.2 p.1 ne).trans e,n,ne,nf,d⟩
 ·have O:X.fn x=true:=by
   rcases hf with z|z
   ·exact z
   ·rw[z]at hk;cases hk
  obtain⟨c,hc⟩:=I.ok.has x (.inl hk)
  obtain⟨w',z⟩:=I.cell x c hc
  refine wpAny_storeName_cell I.ok.kind hk hc z (λh' Y hs=>?_)
  obtain⟨oc,SA,Pt⟩:=id z
  refine h { s with heap:=h' } ⟨I.ok,I.os,I.bare,⟨λb o e n hb hx=>?_,λb o e n hb hx=>?_,I.base.free,λb o e hx=>?_,I.base.DJ,I.base.Df,I.base.Dg⟩,⟨m,hn.sameBut hs (Ne.symm (Hm x c hc)),λj y v' e1 e2 e3=>?_⟩,λy c' e=>?_,I.free,I.A_,λp hp=>?_,B ⟨oc,SA,I.A_ x c hc⟩ hs,by simpa using I.len⟩ ⟨c,hs,.inr hc⟩
  ·exact(hs.2 b (yK (yC (Heap.lt_size e) (I.ok.LU x c O hc)))).trans (I.base.keep b o e n hb hx)
  ·obtain⟨sl,e1⟩:=I.base.slot b o e n hb hx
   exact⟨sl,(hs.2 b (yK (yC (Heap.lt_size e) (I.ok.LU x c O hc)))).trans e1⟩
  ·obtain⟨o',e1⟩:=I.base.there b o e hx
   exact⟨o',(hs.2 b (yK (yC (Heap.lt_size e) (I.ok.LU x c O hc)))).trans e1⟩
  ·by_cases hj:j=i
   ·subst hj
    rw[hi]at e1;cases e1
    rw[yW hiσ]at e2
    cases e2
    exact⟨u,r,.inr ⟨.inl hk,c,hc,Y⟩⟩
   ·rw[y4 (Ne.symm hj)]at e2
    obtain⟨u',r',q⟩:=hl j y v' e1 e2 e3
    refine⟨u',r',?_⟩
    rcases q with q|⟨k,c',e,z'⟩
    ·exact .inl q
    ·refine .inr ⟨k,c',e,z'.sameBut hs ?_⟩
     rintro rfl
     exact hj (lJ hN e1 (I.ok.inj _ _ _ e hc▸hi))
  ·by_cases SD:c'=c
   ·subst SD;exact⟨_,Y⟩
   ·obtain⟨w2,z2⟩:=I.cell y c' e
    exact⟨w2,z2.sameBut hs SD⟩
  ·obtain⟨e,n,ne,nf,d⟩:=I.pin p hp
   refine⟨(hs.2 p.1 ?_).trans e,n,ne,nf,d⟩
   intro q
   rw[q,SA]at e
   have q':oc=p.2:=Option.some.inj e
   exact d w' (by rw[←q'];exact Pt)
theorem hZ{Q:Unit->Shared->Prop}(I:Inv X aO σ H s)(hN:X.N.Nodup)(hi:X.N[i]?=some x)(hx:Loc X.env.scope x)(r:RelV v u)
  (h:∀s',Inv X aO (σ.set i (some v)) H s'->Q () s') (hf:X.fn x=true\/X.env.scope.names.lookup x=some .local:=by first|exact .inl rfl|exact .inr rfl|assumption):wpAny M A (storeName X.env x u) Q E s :=
 pA I hN hi hx r (λs' B _=>h s' B) hf
theorem Inv.LV(I:Inv X aO σ H s)(ho:s'.os=s.os)(u:Un (FI X.stack) ch H H' s.heap s'.heap)(yx:BG X.prog X.w H' s'.heap)(hg:AllBare s'.gens)
  (B:∀b∈ch,(b∈X.ex\/X.s₀.heap.objs.size<=b)/\b≠X.env.locals/\(∀x c,X.env.cells.lookup x=some c->c≠b)/\∀p∈X.pn++aO,p.1≠b):Inv X aO σ H' s':=by
 obtain⟨h',g',d',t',o'⟩:=s'
 have e:o'=s.os:=ho
 subst e
 exact I.call (g':=g') (t':=t') (d':=d') u yx hg B
end
abbrev XK:=Value->Option Addr->Hp->Prop
abbrev St:=List (Option V)
abbrev VK:=V->Hp->Prop
abbrev TE:=St->Hp->VK->Prop
abbrev TT:=St->Hp->(Bool->Hp->Prop)->Prop
abbrev TA:=St->Hp->(List V->Hp->Prop)->Prop
set_option genInjectivity false in
set_option genSizeOf false in
structure Ends where
 nx:St->Hp->Prop
 rt:VK
 bk:St->Hp->Prop:=λ_ _=>False
 ct:St->Hp->Prop:=λ_ _=>False
abbrev TS:=Ends->St->Hp->Prop
inductive EP(X:Cx)(aO:List (Addr×Obj))(σ:St)(Q:VK)(u:Value)(s':Shared):Prop where
 | mk (v H':_) (ui:Inv X aO σ H' s') (uj:RelV v u) (zf:Q v H'):EP X aO σ Q u s'
inductive TP(X:Cx)(aO:List (Addr×Obj))(σ:St)(Q:Bool->Hp->Prop)(b:Bool)(s':Shared):Prop where
 | mk (H':_) (ui:Inv X aO σ H' s') (uj:Q b H'):TP X aO σ Q b s'
inductive AP(X:Cx)(aO:List (Addr×Obj))(σ:St)(Q:List V->Hp->Prop)(us:List Value)(s':Shared):Prop where
 | mk (vs H':_) (ui:Inv X aO σ H' s') (uj:Vals vs us) (zf:Q vs H'):AP X aO σ Q us s'
def SP(X:Cx)(aO:List (Addr×Obj))(D:Ends)(f:Flow)(s':Shared):Prop :=
 match f with
 | .next=>∃σ' H',Inv X aO σ' H' s'/\D.nx σ' H'
 | .brk=>∃σ' H',Inv X aO σ' H' s'/\D.bk σ' H'
 | .cont=>∃σ' H',Inv X aO σ' H' s'/\D.ct σ' H'
 | .ret u=>∃v σ' H',Inv X aO σ' H' s'/\RelV v u/\D.rt v H'
def PE(X:Cx)(e:Expr)(t:TE):Prop :=
 ∀(aO:List (Addr×Obj))(s:Shared)(σ:St)(H:Hp)(Q:VK),Inv X aO σ H s->t σ H Q->wpAny (model X.prog X.w) X.A (eval e X.env) (EP X aO σ Q) X.xe s
def PT(X:Cx)(e:Expr)(t:TT):Prop :=
 ∀(aO:List (Addr×Obj))(s:Shared)(σ:St)(H:Hp)(Q:Bool->Hp->Prop),Inv X aO σ H s->t σ H Q->wpAny (model X.prog X.w) X.A (isTrue e X.env (eval e X.env)) (TP X aO σ Q) X.xe s
def PW(X:Cx)(e:Expr)(t:TT):Prop :=
 ∀(whole:Sem Value)(aO:List (Addr×Obj))(s:Shared)(σ:St)(H:Hp)(Q:Bool->Hp->Prop),Inv X aO σ H s->t σ H Q->wpAny (model X.prog X.w) X.A (isTrue e X.env whole) (TP X aO σ Q) X.xe s
variable{σ:St}{te ta:TE}{tb:TS}{t:TA}{D:Ends}
theorem PW.pt{e:Expr}{t:TT}(h:PW X e t):PT X e t:=h _
def PA(X:Cx)(es:List Expr)(t:TA):Prop :=
 ∀(pos:Pos)(aO:List (Addr×Obj))(s:Shared)(σ:St)(H:Hp)(Q:List V->Hp->Prop),Inv X aO σ H s->t σ H Q->wpAny (model X.prog X.w) X.A (spliced (backTo pos (starEach es X.env))) (AP X aO σ Q) X.xe s
def PS(X:Cx)(st:Stmt)(t:TS):Prop :=
 ∀(aO:List (Addr×Obj))(s:Shared)(σ:St)(H:Hp)(D:Ends),Inv X aO σ H s->t D σ H->wpAny (model X.prog X.w) X.A (exec st X.env) (SP X aO D) X.xe s
def EM(X:Cx)(st:List Stmt)(t:TS):Prop :=
 ∀(aO:List (Addr×Obj))(s:Shared)(σ:St)(H:Hp)(D:Ends),Inv X aO σ H s->t D σ H->wpAny (model X.prog X.w) X.A (execs st X.env) (SP X aO D) X.xe s
theorem zd{t:Sem α}{Q B:α->Shared->Prop}(h:wpAny M A t Q E s)(hQ:∀a s,Q a s->B a s):wpAny M A t B E s:=wpAny_mono h hQ λ_ _ x=>x
section
inductive JX(i:Nat)(σ:St)(H:Hp)(Q:VK):Prop where
 | mk (v:_) (ui:σ[i]?=some (some v)) (uj:Q v H):JX i σ H Q
def tC(v:V):TE:=λ_ H Q=>Q v H
theorem x9(hN:X.N[i]?=some x)(hv:Oi X.env.scope x)(hd:(x==("__debug__":Str))=false:=by decide)(G:(x==("__classdict__":Str))=false:=by decide):PE X (.Name x pos) (JX i):=by
 intro aO s σ H Q I h
 obtain⟨v,e,h⟩:=h
 obtain⟨m,hn,hl⟩:=I.loc
 obtain⟨u,r,l⟩:=hl i x v hN e hv
 have fin:EP X aO σ Q u s:=⟨v,H,I,r,h⟩
 rcases l with ⟨hk,hm⟩|⟨hk,c,hc,B⟩
 ·exact wpAny_Name (wpAny_loadName_local I.ok.kind hk hn hm fin) hd
 ·rcases hk with hk|hk
  ·exact wpAny_Name (wpAny_loadName_cell I.ok.kind hk hc B fin) hd
  ·exact wpAny_Name (wpAny_loadName_free I.ok.kind hk hc B fin G) hd
theorem bh{i j pos}:PE X (.Constant (.int i) j pos) (tC (.int i)):=λ_ _ _ H _ I h=>wpAny_Constant_int ⟨.int i,H,I.tok _,⟨_,rfl⟩,h⟩
theorem iC{b j pos}:PE X (.Constant (.bool b) j pos) (tC (.bl b)):=λ_ _ _ H _ I h=>Constant_bool ⟨.bl b,H,I,rfl,h⟩
theorem bS{j pos}:PE X (.Constant .none j pos) (tC .y2):=λ_ _ _ H _ I h=>Constant_none ⟨.y2,H,I,rfl,h⟩
theorem bE{x j pos}:PE X (.Constant (.str x) j pos) (tC (.str x)):=λ_ _ _ H _ I h=>Calls.Constant_str ⟨.str x,H,I.tok _,⟨_,rfl⟩,h⟩
def Gl(X:Cx)(x:Str):Prop:=X.env.kindOf x=some .globalImplicit
theorem fz(I:Inv X aO σ H s)(hg:Gl X x)(hm:X.mg x=some u)(h:Q u s)
  (hd:(x==("__debug__":Str))=false:=by decide):wpAny (model X.prog X.w) X.A (eval (.Name x pos) X.env) Q E s :=
 Calls.Name_function_global I.ok.kind hg (Calls.loadGlobal_global (by rw[I.ok.glob];exact I.mod.glob.keeps I.bk) hm h) hd
theorem gh(I:Inv X aO σ H s)(hg:Gl X x)(hm:X.mg x=none)(hv:bootBuiltins x=some u)(h:Q u s)
  (hn:x ≠ "__name__":=by decide) (hd:(x==("__debug__":Str))=false:=by decide):wpAny (model X.prog X.w) X.A (eval (.Name x pos) X.env) Q E s:=by
 obtain⟨mb,h1,h2⟩:=I.mod.blt
 exact Calls.Name_function_global I.ok.kind hg (Calls.loadGlobal_builtin (by rw[I.ok.glob];exact I.mod.glob.keeps I.bk) hm (by rw[I.ok.blt];exact h1.keeps I.bk) ((h2 x hn).trans hv) h) hd
theorem cK(hg:Gl X x)(hm:X.mg x=some u)(r:RelV v u)(hd:(x==("__debug__":Str))=false:=by decide):PE X (.Name x pos) (tC v) :=
 λ_ _ _ H _ I h=>fz I hg hm ⟨v,H,I,r,h⟩ hd
theorem oM(hg:Gl X x)(hm:X.mg x=none)(hv:bootBuiltins x=some u)(r:RelV v u)(hn:x ≠ "__name__":=by decide)(hd:(x==("__debug__":Str))=false:=by decide):PE X (.Name x pos) (tC v) :=
 λ_ _ _ H _ I h=>gh I hg hm hv ⟨v,H,I,r,h⟩ hn hd
variable{a b:Expr}{tb:TE}
inductive SE(Q:Bool->Hp->Prop)(x:V)(H1:Hp):Prop where
 | mk (c:_) (ui:x=.bl c) (uj:Q c H1):SE Q x H1
def tB(t:TE):TT:=fun σ H Q=>t σ H λx H1=>SE Q x H1
theorem dk{e:Expr}{t:TE}(h:PE X e t)(B:∀whole,isTrue e X.env whole=(do let v ←whole;standAt e.pos;holding [v] (truthy v)):=by intro _;rfl):PT X e (tB t):=by
 intro aO s σ H Q I hw
 refine isTrue_plain (zd (h aO s σ H _ I hw) λv s1 ⟨x,H1,I1,G,O⟩=>?_) (B _)
 obtain⟨d,rfl,q⟩:=O
 cases G
 exact wpAny_truthy_bool ⟨H1,I1,q⟩
variable{tA Ol:TT}{rest:List Expr}
def Pw(t u:TT):TT:=fun σ H Q=>t σ H λc H1=>if c=true then u σ H1 Q else Q false H1
def Vx(t u:TT):TT:=fun σ H Q=>t σ H λc H1=>if c=true then Q true H1 else u σ H1 Q
def Px(t:TT):TT:=fun σ H Q=>t σ H λc H1=>Q (!c) H1
theorem gH(ha:PT X a tA):PW X (.BoolOp .And [a] pos) tA:=by
 intro B aO s σ H Q I h
 refine isTrue_and (zd (ha aO s σ H Q I h) λc s1 e=>?_)
 cases c with
 | true=>exact isTrue_and_nil e
 | false=>exact e
theorem hV(ha:PT X a tA):PW X (.BoolOp .Or [a] pos) tA:=by
 intro B aO s σ H Q I h
 refine isTrue_or (zd (ha aO s σ H Q I h) λc s1 e=>?_)
 cases c with
 | false=>exact isTrue_or_nil e
 | true=>exact e
theorem i7(ha:PT X a tA)(hb:PW X (.BoolOp .And (b::rest) pos) Ol):PW X (.BoolOp .And (a::b::rest) pos) (Pw tA Ol):=by
 intro G aO s σ H Q I h
 refine isTrue_and (zd (ha aO s σ H _ I h) λc s1 ⟨H1,I1,B⟩=>?_)
 cases c with
 | true=>exact hb G aO s1 σ H1 Q I1 B
 | false=>exact⟨H1,I1,B⟩
theorem gQ(ha:PT X a tA)(hb:PW X (.BoolOp .Or (b::rest) pos) Ol):PW X (.BoolOp .Or (a::b::rest) pos) (Vx tA Ol):=by
 intro G aO s σ H Q I h
 refine isTrue_or (zd (ha aO s σ H _ I h) λc s1 ⟨H1,I1,B⟩=>?_)
 cases c with
 | true=>exact⟨H1,I1,B⟩
 | false=>exact hb G aO s1 σ H1 Q I1 B
theorem hG(ha:PT X a tA):PT X (.UnaryOp .Not a pos) (Px tA):=by
 intro aO s σ H Q I h
 exact isTrue_not (zd (ha aO s σ H (λc H1=>Q (!c) H1) I h) λc s' ⟨H',B,q'⟩=>⟨H',B,q'⟩)
inductive FJ(tb:TE)(σ:St)(Q:VK)(x:V)(H1:Hp):Prop where
 | mk (c:_) (ui:x=.bl c) (uj:if c=true then tb σ H1 Q else Q (.bl false) H1):FJ tb σ Q x H1
def LW(ta tb:TE):TE:=fun σ H Q=>ta σ H λx H1=>FJ tb σ Q x H1
inductive IU(tb:TE)(σ:St)(Q:VK)(x:V)(H1:Hp):Prop where
 | mk (c:_) (ui:x=.bl c) (uj:if c=true then Q (.bl true) H1 else tb σ H1 Q):IU tb σ Q x H1
def Py(ta tb:TE):TE:=fun σ H Q=>ta σ H λx H1=>IU tb σ Q x H1
theorem kj{op}{t:TE}(h:PE X a t):PE X (.BoolOp op [a] pos) t:=λaO s σ H Q I hw=>BoolOp_one (h aO s σ H Q I hw)
theorem je(ha:PE X a ta)(hb:PE X (.BoolOp .And (b::rest) pos) tb):PE X (.BoolOp .And (a::b::rest) pos) (LW ta tb):=by
 intro aO s σ H Q I h
 refine BoolOp_and (zd (ha aO s σ H _ I h) λv s1 ⟨x,H1,I1,G,B⟩=>?_)
 obtain⟨c,rfl,B⟩:=B
 cases G
 refine wpAny_truthy_bool ?_
 cases c with
 | true=>exact hb aO s1 σ H1 Q I1 B
 | false=>exact⟨.bl false,H1,I1,rfl,B⟩
theorem yo(ha:PE X a ta)(hb:PE X (.BoolOp .Or (b::rest) pos) tb):PE X (.BoolOp .Or (a::b::rest) pos) (Py ta tb):=by
 intro aO s σ H Q I h
 refine BoolOp_or (zd (ha aO s σ H _ I h) λv s1 ⟨x,H1,I1,G,B⟩=>?_)
 obtain⟨c,rfl,B⟩:=B
 cases G
 refine wpAny_truthy_bool ?_
 cases c with
 | false=>exact hb aO s1 σ H1 Q I1 B
 | true=>exact⟨.bl true,H1,I1,rfl,B⟩
def Vy(t:TT)(ta tb:TE):TE:=fun σ H Q=>t σ H λc H1=>if c=true then ta σ H1 Q else tb σ H1 Q
theorem c6{c:Expr}(hc:PT X c tA)(ha:PE X a ta)(hb:PE X b tb):PE X (.IfExp c a b pos) (Vy tA ta tb):=by
 intro aO s σ H Q I h
 refine wpAny_IfExp (zd (hc aO s σ H _ I h) λd s1 ⟨H1,I1,B⟩=>?_)
 cases d with
 | true=>exact ha aO s1 σ H1 Q I1 B
 | false=>exact hb aO s1 σ H1 Q I1 B
end
def eH(K:PySem.W.Frag)(H:Hp)(a:Addr)(xs:List V):Prop :=
 Rd H a (.lst xs) \/
  ∃(o:Obj)(its:Array Value)(n:Nat),K.lookup a=some o/\o.cls=.type "list"/\o.dict=none/\o.data=.seq its n/\its.size<=sizeLine/\Vals xs its.toList
def ze(K:PySem.W.Frag)(H:Hp)(a:Addr)(xs:List V):Prop :=
 Rd H a (.tup xs) \/
  ∃(o:Obj)(its:Array Value)(n:Nat),K.lookup a=some o/\o.cls=.type "tuple"/\o.data=.seq its n/\its.size<=sizeLine/\Vals xs its.toList
def Pz:Value->Option V
 | .none=>some .y2
 | .bool b=>some (.bl b)
 | .int i _=>some (.int i)
 | .str x _=>some (.str x)
 | .bytes b _=>some (.Fv b)
 | .float b _=>some (.HS b)
 | .ref a=>some (.ref a)
 | .type n=>some (.ty n)
 | _=>none
theorem RelV.abs{x:V}(r:RelV x u):Pz u=some x:=by
 cases x with
 | y2=>cases r;rfl
 | bl _=>cases r;rfl
 | int _=>obtain⟨t,rfl⟩:=r;rfl
 | str _=>obtain⟨t,rfl⟩:=r;rfl
 | Fv _=>obtain⟨t,rfl⟩:=r;rfl
 | HS _=>obtain⟨t,rfl⟩:=r;rfl
 | ref _=>cases r;rfl
 | ty _=>cases r;rfl
theorem RelV.inj{x:V}(r:RelV x u)(q:RelV y u):x=y:=Option.some.inj (r.abs.symm.trans q.abs)
theorem Vals.inj:∀{xs ys:List V}{us:List Value},Vals xs us->Vals ys us->xs=ys
 | _,_,_,.nil,.nil=>rfl
 | _,_,_,.cons r t,.cons r' t'=>by rw[r.inj r',Vals.inj t t']
section
variable{ys:List V}
theorem eH.of(h:H a=some (.lst xs)):eH K H a xs:=.inl (.inl h)
theorem ze.of(h:H a=some (.tup xs)):ze K H a xs:=.inl (.inl h)
theorem Inv.list(I:Inv X aO σ H s)(h:eH X.K H a xs):∃its:List Value,Vals xs its/\PlainL s.heap a its.toArray/\xs.length<=sizeLine:=by
 rcases h with h|⟨o,its,n,hk,hc,hd,hs,hz,r⟩
 ·obtain⟨z,its,n,r,e⟩:=h.ok I.yx
  exact⟨its,r,⟨_,n,e,rfl,rfl,rfl⟩,z⟩
 ·refine⟨its.toList,r,⟨o,n,I.Bt a o hk,hc,hd,by simpa using hs⟩,?_⟩
  have e:=r.length
  simp only [yU]at e
  lia
theorem Inv.tuple(I:Inv X aO σ H s)(h:ze X.K H a xs):∃its:List Value,Vals xs its/\IsTup s.heap a its.toArray/\xs.length<=sizeLine:=by
 rcases h with h|⟨o,its,n,hk,hc,hs,hz,r⟩
 ·obtain⟨z,its,r,p⟩:=h.ok I.yx
  exact⟨its,r,p,z⟩
 ·refine⟨its.toList,r,⟨o,I.Bt a o hk,hc,n,by simpa using hs⟩,?_⟩
  have e:=r.length
  simp only [yU]at e
  lia
theorem Inv.Cm(I:Inv X aO σ H s)(h:eH X.K H a xs)(h':eH X.K H a ys):xs=ys:=by
 obtain⟨its,r,⟨o,n,e,_,_,d⟩,_⟩:=I.list h
 obtain⟨its',r',⟨o',G,B,_,_,d'⟩,_⟩:=I.list h'
 rw[e]at B;cases B
 rw[d]at d'
 injection d' with d1 _
 have:its=its':=by simpa using congrArg Array.toList d1
 subst this
 exact r.inj r'
theorem Inv.C6(I:Inv X aO σ H s)(h:ze X.K H a xs)(h':ze X.K H a ys):xs=ys:=by
 obtain⟨its,r,⟨o,e,_,n,d⟩,_⟩:=I.tuple h
 obtain⟨its',r',⟨o',B,_,G,d'⟩,_⟩:=I.tuple h'
 rw[e]at B;cases B
 rw[d]at d'
 injection d' with d1 _
 have:its=its':=by simpa using congrArg Array.toList d1
 subst this
 exact r.inj r'
end
abbrev Cx.CP(X:Cx)(E:Value->Shared->Prop):Cx:={ X with xe:=E }
abbrev Cx.Lo(X:Cx):Cx:=X.CP λ_ _=>False
theorem Cx.Ok.CP(ok:X.Ok)(E:Value->Shared->Prop):(X.CP E).Ok :=
 ⟨ok.mod,ok.kind,ok.glob,ok.blt,ok.above,ok.inj,ok.has,ok.LU,ok.hd,ok.frames,ok.Oj,ok.Sz,ok.bs,ok.HV,ok.Fe,ok.HW,ok.B8,ok.JW⟩
theorem Cx.Ok.Ba(ok:(X.CP E).Ok):X.Ok :=
 ⟨ok.mod,ok.kind,ok.glob,ok.blt,ok.above,ok.inj,ok.has,ok.LU,ok.hd,ok.frames,ok.Oj,ok.Sz,ok.bs,ok.HV,ok.Fe,ok.HW,ok.B8,ok.JW⟩
theorem Inv.CP(I:Inv X aO σ H s)(E:Value->Shared->Prop):Inv (X.CP E) aO σ H s:=⟨I.ok.CP E,I.os,I.bare,I.base,I.loc,I.cell,I.free,I.A_,I.pin,I.yx,I.len⟩
theorem Inv.Ba(I:Inv (X.CP E) aO σ H s):Inv X aO σ H s:=⟨I.ok.Ba,I.os,I.bare,I.base,I.loc,I.cell,I.free,I.A_,I.pin,I.yx,I.len⟩
theorem SP.Ba{f:Flow}(h:SP (X.CP E) aO D f s'):SP X aO D f s':=by
 cases f with
 | next=>obtain⟨σ',H',I,q⟩:=h;exact⟨σ',H',I.Ba,q⟩
 | brk=>obtain⟨σ',H',I,q⟩:=h;exact⟨σ',H',I.Ba,q⟩
 | cont=>obtain⟨σ',H',I,q⟩:=h;exact⟨σ',H',I.Ba,q⟩
 | ret u=>obtain⟨v,σ',H',I,r,q⟩:=h;exact⟨v,σ',H',I.Ba,r,q⟩
theorem EM.Lo{st:List Stmt}{t:TS}(h:EM X.Lo st t):EM X st t:=λaO s σ H D I hw =>
 wpAny_mono (h aO s σ H D (I.CP _) hw) (λ_ _ q=>q.Ba) λ_ _ z=>False.elim z
section
variable{st:Stmt}{rest:List Stmt}{t u:TS}{e:Expr}
def LX:TS:=λD σ H=>D.nx σ H
def PB(t u:TS):TS:=λD σ H=>t { D with nx:=u D } σ H
theorem bz:EM X [] LX:=λ_ _ σ H _ I h=>wpAny_execs_nil ⟨σ,H,I,h⟩
theorem FD(h1:PS X st t)(h2:EM X rest u):EM X (st::rest) (PB t u):=by
 intro aO s σ H D I h
 refine wpAny_execs_cons (zd (h1 aO s σ H { D with nx:=u D } I h) λf s1 q=>?_)
 cases f with
 | next =>
  obtain⟨σ',H',B,q⟩:=q
  exact h2 aO s1 σ' H' D B q
 | ret v=>exact q
 | brk=>exact q
 | cont=>exact q
theorem ei(h1:PS X st t):EM X [st] t:=by
 intro aO s σ H D I h
 refine wpAny_execs_cons (zd (h1 aO s σ H D I h) λf s1 q=>?_)
 cases f with
 | next=>exact wpAny_execs_nil q
 | ret v=>exact q
 | brk=>exact q
 | cont=>exact q
def JY:TS:=λD σ H=>D.bk σ H
theorem sJ:PS X (.Break pos) JY:=λ_ _ σ H _ I h=>wpAny_Break ⟨σ,H,I,h⟩
theorem Inv.quiet(I:Inv X aO σ H s):interactive X.env=false:=by simp [interactive,I.ok.kind]
def LY(te:TE):TS:=λD σ H=>te σ H λ_ H1=>D.nx σ H1
theorem bC(B:PE X e te)(hs:swapsWith e none pos.line X.env=pure false:=by rfl):PS X (.Expr e pos) (LY te):=by
 intro aO s σ H D I h
 exact wpAny_Expr_any (zd (B aO s σ H _ I h) λv s1 ⟨x,H1,I1,O,G⟩=>⟨σ,H1,I1,G⟩) I.quiet hs
def PC(te:TE):TS:=λD σ H=>te σ H D.rt
theorem JM(B:PE X e te):PS X (.Return (some e) pos) (PC te):=by
 intro aO s σ H D I h
 exact wpAny_Return_some (zd (B aO s σ H _ I h) λv s1 ⟨x,H1,I1,G,O⟩=>⟨x,σ,H1,I1,G,O⟩)
def PD(c:TT)(t u:TS):TS:=λD σ H=>c σ H λb H1=>if b=true then t D σ H1 else u D σ H1
theorem bL{c:Expr}{a b:List Stmt}{tc:TT}(hc:PT X c tc)(ha:EM X a t)(hb:EM X b u):PS X (.If c a b pos) (PD tc t u):=by
 intro aO s σ H D I h
 refine wpAny_If (zd (hc aO s σ H _ I h) λd s1 ⟨H1,I1,B⟩=>?_)
 cases d with
 | true=>exact ha aO s1 σ H1 D I1 B
 | false=>exact hb aO s1 σ H1 D I1 B
def JZ:TS:=λ_ _ _=>False
theorem c7:PS X st JZ:=λ_ _ _ _ _ _ h=>h.elim
end
abbrev TG:=V->St->Hp->(St->Hp->Prop)->Prop
abbrev J1:=List V->St->Hp->(St->Hp->Prop)->Prop
def PG(X:Cx)(B:Expr)(t:TG):Prop :=
 ∀(aO:List (Addr×Obj))(s:Shared)(σ:St)(H:Hp)(v:V)(u:Value)(Q:St->Hp->Prop),Inv X aO σ H s->RelV v u->t v σ H Q ->
  wpAny (model X.prog X.w) X.A (assign B X.env u) (λ_ s'=>∃σ' H',Inv X aO σ' H' s'/\Q σ' H') X.xe s
def LZ(X:Cx)(ts:List Expr)(t:J1):Prop :=
 ∀(aO:List (Addr×Obj))(s:Shared)(σ:St)(H:Hp)(vs:List V)(us:List Value)(Q:St->Hp->Prop),Inv X aO σ H s->Vals vs us->t vs σ H Q ->
  wpAny (model X.prog X.w) X.A (assignInOrder ((assignEach ts X.env).map (·.2)) us) (λ_ s'=>∃σ' H',Inv X aO σ' H' s'/\Q σ' H') X.xe s
abbrev J2:=V->V->V->Hp->(Hp->Prop)->Prop
def L1(X:Cx)(t:J2):Prop :=
 ∀(aO:List (Addr×Obj))(s:Shared)(σ:St)(H:Hp)(o i v:V)(B G u:Value)(Q:Hp->Prop),Inv X aO σ H s->RelV o B->RelV i G->RelV v u->t o i v H Q ->
  wpAny (model X.prog X.w) X.A (setItem B G u) (λ_ s'=>∃H',Inv X aO σ H' s'/\Q H') X.xe s
abbrev PF:=V->V->Hp->VK->Prop
def SF(X:Cx)(op:Operator)(t:PF):Prop :=
 ∀(aO:List (Addr×Obj))(s:Shared)(σ:St)(H:Hp)(x y:V)(v u:Value)(Q:VK),Inv X aO σ H s->RelV x v->RelV y u->t x y H Q ->
  wpAny (model X.prog X.w) X.A (inplaceOp op v u) (EP X aO σ Q) X.xe s
def FK(i:Nat):TG:=λv σ H Q=>Q (σ.set i (some v)) H
theorem fB(hN:X.N.Nodup)(hi:X.N[i]?=some x)(hx:Loc X.env.scope x)(hf:X.fn x=true\/X.env.scope.names.lookup x=some .local:=by first|exact .inl rfl|exact .inr rfl|assumption):PG X (.Name x pos) (FK i):=by
 intro aO s σ H v u Q I r h
 exact wpAny_assign_Name (hZ I hN hi hx r (λs' B=>⟨_,H,B,h⟩) hf)
def PH:J1:=λvs σ H Q=>vs=[]/\Q σ H
inductive IV(t:TG)(u:J1)(vs:List V)(σ:St)(H:Hp)(Q:St->Hp->Prop):Prop where
 | mk (v r:_) (ui:vs=v::r) (uj:t v σ H fun σ' H'=>u r σ' H' Q):IV t u vs σ H Q
theorem dW:LZ X [] PH:=by
 intro aO s σ H vs us Q I r h
 obtain⟨e,h⟩:=h
 subst e
 cases r
 exact assignInOrder_nil ⟨σ,H,I,h⟩
theorem bJ{e:Expr}{t:TG}{u:J1}(h1:PG X e t)(h2:LZ X es u)
  (hs:(assignEach (e::es) X.env).map (·.2)=assign e X.env::(assignEach es X.env).map (·.2):=by rfl):LZ X (e::es) (IV t u):=by
 intro aO s σ H vs us Q I r h
 obtain⟨v,O,e1,h⟩:=h
 subst e1
 cases r with
 | cons r B =>
  rw[hs]
  refine assignInOrder_cons (zd (h1 aO s σ H _ _ _ I r h) λ_ s1 ⟨σ1,H1,I1,G⟩=>?_)
  exact h2 aO s1 σ1 H1 _ _ Q I1 B G
inductive J3(K:PySem.W.Frag)(n:Nat)(t:J1)(v:V)(σ:St)(H:Hp)(Q:St->Hp->Prop):Prop where
 | mk (a xs:_) (ui:v=.ref a) (uj:ze K H a xs) (zf:xs.length=n) (zq:t xs σ H Q):J3 K n t v σ H Q
theorem ik{k:Nat}{t:J1}(hc:X.calm=true)(h:LZ X es t)
  (hn:(assignEach es X.env).length=n:=by rfl) (B:(assignEach es X.env).findIdx? (·.1)=none:=by rfl):PG X (.Tuple es k pos) (J3 X.K n t):=by
 intro aO s σ H v u Q I r hw
 obtain⟨a,xs,e1,hq,hl,hw⟩:=hw
 subst e1
 cases r
 obtain⟨its,rv,ht,hz⟩:=I.tuple hq
 refine assign_Tuple_tuple (I.ok.hd hc) ht (by simp [hn,←hl,rv.length]) B λh' hx=>?_
 have I1:Inv X aO σ H { s with heap:=h' }:=I.kept (t':=s.toks) λb o e=>hx b o (yK (Heap.lt_size e)) e
 exact h aO _ σ H xs _ Q I1 (by simpa using rv) hw
def PJ(to ti:TE)(t:J2):TG:=λv σ H Q=>to σ H λo H1=>ti σ H1 λi H2=>t o i v H2 λH3=>Q σ H3
theorem wj{o i:Expr}{to ti:TE}{t:J2}(ho:PE X o to)(hi:PE X i ti)(hs:L1 X t)
  (ha:∀v,assign (.Subscript o i pos) X.env v=(do
   let B ←holding [v] (eval o X.env)
   let G ←holding [v,B] (eval i X.env)
   standAt pos
   holding [v,B,G] (setItem B G v)
   release [v,B,G] []):=by intro _;rfl):PG X (.Subscript o i pos) (PJ to ti t):=by
 intro aO s σ H v u Q I r h
 rw[ha]
 refine wpAny_bind (wpAny_holding (zd (ho aO s σ H _ I h) λB s1 ⟨x,H1,I1,O,U⟩=>?_))
 refine wpAny_bind (wpAny_holding (zd (hi aO s1 σ H1 _ I1 U) λG s2 ⟨y,H2,I2,Y,q2⟩=>?_))
 refine wpAny_bind (wpAny_standAt (wpAny_bind (wpAny_holding (zd (hs aO s2 σ H2 x y v B G u _ I2 O Y r q2) λ_ s3 ⟨H3,I3,q3⟩=>?_))))
 exact wpAny_release ⟨σ,H3,I3,q3⟩
def J4(te:TE)(g:TG):TS:=λD σ H=>te σ H λx H1=>g x σ H1 D.nx
theorem rD{e:Expr}{g:TG}(B:PE X e te)(hg:PG X tg g)(hs:swapsWithSole [tg] e pos.line X.env=pure false:=by rfl)(hw:swappedStores [tg] e X.env=pure none:=by rfl)
  (h1:(assignEach [tg] X.env).map (·.2)=[assign tg X.env]:=by rfl):PS X (.Assign [tg] e pos) (J4 te g):=by
 intro aO s σ H D I h
 refine wpAny_Assign_stores (zd (B aO s σ H _ I h) λv s1 ⟨x,H1,I1,G,O⟩=>?_) hs hw
 rw[h1]
 exact zd (hg aO s1 σ H1 x v _ I1 G O) λ_ s2 q=>q
theorem JL{e:Expr}(hN:X.N.Nodup)(hi:X.N[i]?=some x)(hx:Loc X.env.scope x)(B:PE X e te)(hs:swapsWith e (some (.Name x pos')) pos.line X.env=pure false:=by rfl)(hf:X.fn x=true\/X.env.scope.names.lookup x=some .local:=by first|exact .inl rfl|exact .inr rfl|assumption) :
  PS X (.Assign [.Name x pos'] e pos) (J4 te (FK i)):=by
 intro aO s σ H D I h
 refine wpAny_Assign_Name (zd (B aO s σ H _ I h) λv s1 ⟨y,H1,I1,G,O⟩=>?_) hs
 exact hZ I1 hN hi hx G (λs2 I2=>⟨_,H1,I2,O⟩) hf
inductive L3(i:Nat)(te:TE)(ti:PF)(D:Ends)(σ:St)(H:Hp):Prop where
 | mk (x:_) (ui:σ[i]?=some (some x)) (uj:te σ H λy H1=>ti x y H1 λz H2=>D.nx (σ.set i (some z)) H2):L3 i te ti D σ H
theorem rT{e:Expr}{op:Operator}{ti:PF}(hN:X.N.Nodup)(hi:X.N[i]?=some x)(hx:Loc X.env.scope x)(O:PE X e te)(ho:SF X op ti)(hf:X.fn x=true\/X.env.scope.names.lookup x=some .local:=by first|exact .inl rfl|exact .inr rfl|assumption) :
  PS X (.AugAssign (.Name x pos') op e pos) (L3 i te ti):=by
 intro aO s σ H D I h
 obtain⟨v,e1,h⟩:=h
 obtain⟨m,hn,hl⟩:=I.loc
 have G:Oi X.env.scope x:=by rcases hx with k|k;exact .inl k;exact .inr (.inl k)
 obtain⟨u,r,l⟩:=hl i x v hi e1 G
 refine wpAny_AugAssign_Name ?_
 have go:wpAny (model X.prog X.w) X.A (eval e X.env) (λw U=>wpAny (model X.prog X.w) X.A (inplaceOp op u w) (λr Y=>wpAny (model X.prog X.w) X.A (storeName X.env x r) (λ_=>SP X aO D .next) X.xe Y) X.xe U) X.xe s:=by
  refine zd (O aO s σ H _ I h) λw s1 ⟨y,H1,I1,r1,q1⟩=>?_
  refine zd (ho aO s1 σ H1 v y u w _ I1 r r1 q1) λz s2 ⟨zv,H2,I2,r2,q2⟩=>?_
  exact hZ I2 hN hi hx r2 (λs3 I3=>⟨_,H2,I3,q2⟩) hf
 rcases l with ⟨hk,hm⟩|⟨hk,c,hc,B⟩
 ·exact wpAny_loadName_local I.ok.kind hk hn hm go
 ·rcases hk with hk|hk
  ·exact wpAny_loadName_cell I.ok.kind hk hc B go
  ·rcases hx with k|k
   ·have:X.env.scope.names.lookup x=some .free:=hk
    rw[k]at this;cases this
   ·have:X.env.scope.names.lookup x=some .free:=hk
    rw[k]at this;cases this
inductive SG(f:Int->Int->Int)(x:V)(y:V)(H:Hp)(Q:VK):Prop where
 | mk (i j:_) (ui:x=.int i) (uj:y=.int j) (zf:Q (.int (f i j)) H):SG f x y H Q
theorem qm:SF X .Add (SG λi j=>i+j):=by
 intro aO s σ H x y v u Q I B G h
 obtain⟨i,j,e1,e2,q⟩:=h
 subst e1;subst e2
 obtain⟨t,rfl⟩:=B
 obtain⟨t',rfl⟩:=G
 exact iadd_int ⟨.int _,H,I.tok _,⟨_,rfl⟩,q⟩
def J5(c:TT)(tb:TS):TS:=λD σ H=>∃W:Nat->St->Hp->Prop,(∃m,W m σ H)/\∀m σ H,W m σ H ->
 c σ H λb H1=>if b=true then ∃N:St->Hp->Prop,(∀σ' H',N σ' H'->∃B,B<m/\W B σ' H')/\tb { D with nx:=N,ct:=N,bk:=D.nx } σ H1 else D.nx σ H1
theorem lq{c:Expr}{tc:TT}(hp:PassesOwn (model X.prog X.w) X.A X.env X.xe)(hc:PT X c tc)(hb:EM X body tb):PS X (.While c body [] pos) (J5 tc tb):=by
 intro aO s σ H D I h
 obtain⟨W,⟨m0,w0⟩,turn⟩:=h
 refine wpAny_While (codeAny_whileLoop (λn s'=>∃σ' H',Inv X aO σ' H' s'/\W n σ' H') ?_ m0 ⟨σ,H,I,w0⟩)
 rintro n s1 ⟨σ1,H1,I1,w1⟩
 refine wpAny_passesOwn hp (zd (hc aO s1 σ1 H1 _ I1 (turn n σ1 H1 w1)) λb s2 ⟨H2,I2,B⟩=>?_)
 cases b with
 | true =>
  obtain⟨N,hN,B⟩:=B
  rw[if_pos rfl]
  refine wpAny_passesOwn hp (zd (hb aO s2 σ1 H2 _ I2 B) λf s3 G=>?_)
  cases f with
  | next =>
   obtain⟨σ3,H3,O,n3⟩:=G
   obtain⟨U,hm,Y⟩:=hN σ3 H3 n3
   exact⟨U,hm,σ3,H3,O,Y⟩
  | cont =>
   obtain⟨σ3,H3,O,n3⟩:=G
   obtain⟨U,hm,Y⟩:=hN σ3 H3 n3
   exact⟨U,hm,σ3,H3,O,Y⟩
  | brk=>exact G
  | ret v=>exact G
 | false =>
  rw[if_neg zS]
  exact wpAny_execs_nil ⟨σ1,H2,I2,B⟩
structure It where
 go:Nat->Hp->Prop
 J6:Nat->Hp->V->Hp->Prop
 stop:Nat->Hp->Prop
def Bx(X:Cx)(aO:List (Addr×Obj))(H:Hp)(b:Addr):Prop :=
 H b=none/\b≠X.env.locals/\b∉X.fs/\(b∈X.ex\/X.s₀.heap.objs.size<=b)/\(∀x c,X.env.cells.lookup x=some c->c≠b)/\∀p∈X.pn++aO,p.1≠b
theorem Inv.Dj(I:Inv X aO σ H s)(hb:s.heap.objs.size<=b)(hn:H' b=none):Bx X aO H' b:=by
 refine⟨hn,j6 (yC I.lt hb),I.Pr hb,.inr (yE I.sz hb),λx c e z=>?_,λp hp z=>?_⟩
 ·obtain⟨v,q⟩:=I.cell x c e
  exact absurd (yC q.lt (by rw[z];exact hb)) (qO _)
 ·exact absurd (yC (Heap.lt_size (I.pin p hp).1) (by rw[z];exact hb)) (qO _)
structure Turn(P:Program)(w:World)(K:PySem.W.Frag)(tg:Expr)(J:It)(fp:List Addr)(it:Addr)(tn:Nat->Heap->Prop):Prop where
 mem:it∈fp
 obj:∀i h,tn i h->∀b∈fp,∃o,h.get? b=some o/\∀v,o.data≠.cell v
 keep:∀i h h',tn i h->(∀b∈fp,∀o,h.get? b=some o->h'.get? b=some o)->tn i h'
 item:∀(X:Cx),X.prog=P->X.w=w->X.K=K->X.calm=true->∀(i:Nat)(aO:List (Addr×Obj))(s:Shared)(σ:St)(H:Hp)(E:Value->Shared->Prop),Inv X aO σ H s->(∀b∈fp,Bx X aO H b)->tn i s.heap->J.go i H ->
  wpAny (model P w) X.A (pyNext (.ref it)) (λr s1=>∃u,r=some u /\
   wpAny (model P w) X.A (letOwnedTupleGo tg (.ref it) u) (λ_ s2=>∃x H',Inv X aO σ H' s2/\RelV x u/\J.J6 i H x H'/\tn (i+1) s2.heap/\∀b∈fp,H' b=none) E s1) E s
 done:∀(X:Cx),X.prog=P->X.w=w->X.K=K->X.calm=true->∀(i:Nat)(aO:List (Addr×Obj))(s:Shared)(σ:St)(H:Hp)(E:Value->Shared->Prop),Inv X aO σ H s->(∀b∈fp,Bx X aO H b)->tn i s.heap->J.stop i H ->
  wpAny (model P w) X.A (pyNext (.ref it)) (λr s1=>r=none/\Inv X aO σ H s1) E s
 self:∀(A:Around)(i:Nat)(s:Shared)(Q:Value->Shared->Prop)(E:Value->Shared->Prop),tn i s.heap->Q (.ref it) s->wpAny (model P w) A (pyIter (.ref it)) Q E s
abbrev TI:=St->Hp->(It->Hp->Prop)->Prop
def SH(X:Cx)(aO:List (Addr×Obj))(σ:St)(tg:Expr)(R:It->Hp->Prop)(B:Value)(s2:Shared):Prop :=
 ∃(it:Addr)(fp:List Addr)(tn:Nat->Heap->Prop)(J:It)(H':Hp),B=.ref it/\Inv X aO σ H' s2/\Turn X.prog X.w X.K tg J fp it tn/\tn 0 s2.heap/\(∀b∈fp,Bx X aO H' b)/\R J H'
def PI(X:Cx)(tg iter:Expr)(wi:TI):Prop :=
 ∀(aO:List (Addr×Obj))(s:Shared)(σ:St)(H:Hp)(R:It->Hp->Prop),Inv X aO σ H s->wi σ H R ->
  wpAny (model X.prog X.w) X.A (eval iter X.env) (λv s1=>wpAny (model X.prog X.w) X.A (pyIter v) (SH X aO σ tg R) X.xe s1) X.xe s
theorem oS{o:Obj}{n:String}{vs:Array Value}{Q:Unit->Shared->Prop}(ho:s.heap.get? it=some o)(hc:o.cls=.type n)(hd:o.data=.fields vs)
  (hn:["enumerate","zip","dict_itemiterator","dict_reverseitemiterator","odict_iterator","itertools.zip_longest","itertools.pairwise"].contains n=false) (hQ:Q () s):wpAny M A (letOwnedTupleGo tg (.ref it) u) Q E s:=by
 unfold letOwnedTupleGo
 cases tg <;>first
  | exact wpAny_pure hQ
  | (cases u <;>first
    | exact wpAny_pure hQ
    | (refine wpAny_bind (wpAny_load ho ?_)
       rw[hc,hd]
       show wpAny M A (if (["enumerate","zip","dict_itemiterator","dict_reverseitemiterator","odict_iterator","itertools.zip_longest","itertools.pairwise"].contains n&&vs[0]?==some (rawInt _))=true then _ else _) Q E s
       rw[if_neg (by intro h;rw[hn,Bool.false_and]at h;cases h)]
       exact wpAny_pure hQ))
def Lq(K:PySem.W.Frag)(a:Addr):It :=
 ⟨λi H=>∃xs x,eH K H a xs/\xs[i]?=some x,λi H x H'=>H'=H/\∀xs,eH K H a xs->xs[i]?=some x,λi H=>∃xs,eH K H a xs/\xs.length<=i⟩
def Lr(K:PySem.W.Frag)(a:Addr):It :=
 ⟨λi H=>∃xs x,ze K H a xs/\xs[i]?=some x,λi H x H'=>H'=H/\∀xs,ze K H a xs->xs[i]?=some x,λi H=>∃xs,ze K H a xs/\xs.length<=i⟩
def IW(lo:Int)(n:Nat):It:=⟨λi _=>i<n,λi H x H'=>H'=H/\x=.int (lo+i),λi _=>n<=i⟩
theorem p0(a it:Addr):Turn P w K tg (Lq K a) [it] it (λi h=>h.IsListIter it a i) where
 mem:=by simp
 obj:=λi h st b hb=>by
  have e:b=it:=by simpa using hb
  subst e
  obtain⟨o,e,c,d⟩:=st
  exact⟨o,e,λv z=>by rw[d]at z;cases z⟩
 keep:=λi h h' st k=>st.at λo e=>k it (by simp) o e
 item:=by
  walk_at "s"
  obtain⟨xs,x,hq,hx⟩:=hg
  obtain⟨its,rv,p,hz⟩:=I.list hq
  obtain⟨u,hu,ru⟩:=rv.get hx
  walk_at "K"
  refine wpAny_pyNext_list_item st p.isList (x:=u) (by simpa using hu) λh' B sb=>?_
  have I1:Inv X aO σ H { s with heap:=h' }:=I.turned (t':=s.toks) (λb o hb e=>(sb.2 b hb).trans e) f0 f1 f3 f4 f5
  obtain⟨o,e,c,d⟩:=id B
  exact⟨u,rfl,oS (s:={ s with heap:=h' }) e c d (by decide) ⟨x,H,I1,ru,⟨rfl,λys hy=>by rw[I.Cm hy hq];exact hx⟩,B,λb hb=>(hf b hb).1⟩⟩
 done:=by
  walk_at "s"
  obtain⟨xs,hq,hx⟩:=hg
  obtain⟨its,rv,p,hz⟩:=I.list hq
  walk_at "K"
  have hl:=rv.length
  exact wpAny_pyNext_list_end (I.ok.hd hc) st p.isList (by simp;lia) λh' G=>⟨rfl,I.turned (t':=s.toks) (λb o hb e=>G b o hb e) f0 f1 f3 f4 f5⟩
 self:=λ_ _ _ _ _ st h=>wpAny_pyIter_listiter st h
theorem mL(a it:Addr):Turn P w K tg (Lr K a) [it] it (λi h=>h.IsTupleIter it a i) where
 mem:=by simp
 obj:=λi h st b hb=>by
  have e:b=it:=by simpa using hb
  subst e
  obtain⟨o,e,c,d⟩:=st
  exact⟨o,e,λv z=>by rw[d]at z;cases z⟩
 keep:=λi h h' st k=>st.at λo e=>k it (by simp) o e
 item:=by
  walk_at "s"
  obtain⟨xs,x,hq,hx⟩:=hg
  obtain⟨its,rv,p,hz⟩:=I.tuple hq
  obtain⟨u,hu,ru⟩:=rv.get hx
  walk_at "K"
  refine wpAny_pyNext_tuple_item st (show s.heap.IsTuple a its.toArray from p) (x:=u) (by simpa using hu) λh' B sb=>?_
  have I1:Inv X aO σ H { s with heap:=h' }:=I.turned (t':=s.toks) (λb o hb e=>(sb.2 b hb).trans e) f0 f1 f3 f4 f5
  obtain⟨o,e,c,d⟩:=id B
  exact⟨u,rfl,oS (s:={ s with heap:=h' }) e c d (by decide) ⟨x,H,I1,ru,⟨rfl,λys hy=>by rw[I.C6 hy hq];exact hx⟩,B,λb hb=>(hf b hb).1⟩⟩
 done:=by
  walk_at "s"
  obtain⟨xs,hq,hx⟩:=hg
  obtain⟨its,rv,p,hz⟩:=I.tuple hq
  walk_at "K"
  have hl:=rv.length
  exact wpAny_pyNext_tuple_end (I.ok.hd hc) st (show s.heap.IsTuple a its.toArray from p) (by simp;lia) λh' G=>⟨rfl,I.turned (t':=s.toks) (λb o hb e=>G b o hb e) f0 f1 f3 f4 f5⟩
 self:=λ_ _ _ _ _ st h=>wpAny_pyIter_tupleiter st h
theorem mz(it:Addr)(lo:Int)(n:Nat):Turn P w K tg (IW lo n) [it] it (λi h=>IsRangeIter h it (lo+(i:Nat)*1) ((n:Int)-(i:Nat)) 1) where
 mem:=by simp
 obj:=λi h st b hb=>by
  have e:b=it:=by simpa using hb
  subst e
  exact⟨_,st,λv z=>by
   have G:Data.fields _=Data.cell v:=z
   cases G⟩
 keep:=λi h h' st k=>k it (by simp) _ st
 item:=by
  walk_at "s"
  walk_at "K"
  have W:=Walks.range (prog:=X.prog) (w:=X.w) (I.ok.hd hc) it lo 1 n
  refine W.item i s _ _ hg st λv h' tk hv B O=>?_
  obtain⟨t,rfl⟩:=hv
  have I1:Inv X aO σ H { s with heap:=h',toks:=tk }:=I.turned (λb o hb e=>O b o (by simpa using hb) e) f0 f1 f3 f4 f5
  refine⟨_,rfl,oS (s:={ s with heap:=h',toks:=tk }) (n:="range_iterator") B rfl rfl (by decide) ⟨.int (lo+i),H,I1,⟨t,?_⟩,⟨rfl,rfl⟩,B,λb hb=>(hf b hb).1⟩⟩
  rw[Int.mul_one]
 done:=by
  walk_at "s"
  walk_at "K"
  exact wpAny_pyNext_range_end (I.ok.hd hc) st (by have:n<=i:=hg;lia) λh' U=>⟨rfl,I.turned (t':=s.toks) (λb o hb e=>U b o hb e) f0 f1 f3 f4 f5⟩
 self:=λ_ _ _ _ _ st h=>wpAny_pyIter_rangeiter st h
inductive FL(K:PySem.W.Frag)(R:It->Hp->Prop)(x:V)(H1:Hp):Prop where
 | mk (a:_) (ui:x=.ref a) (uj:(∃xs,eH K H1 a xs)) (zf:R (Lq K a) H1):FL K R x H1
def IY(K:PySem.W.Frag)(tl:TE):TI:=fun σ H R=>tl σ H λx H1=>FL K R x H1
inductive IZ(K:PySem.W.Frag)(R:It->Hp->Prop)(x:V)(H1:Hp):Prop where
 | mk (a:_) (ui:x=.ref a) (uj:(∃xs,ze K H1 a xs)) (zf:R (Lr K a) H1):IZ K R x H1
def L4(K:PySem.W.Frag)(tl:TE):TI:=fun σ H R=>tl σ H λx H1=>IZ K R x H1
theorem tT{l:Expr}{tl:TE}(hl:PE X l tl):PI X tg l (IY X.K tl):=by
 intro aO s σ H R I h
 refine zd (hl aO s σ H _ I h) λv s1 ⟨x,H1,I1,B,G⟩=>?_
 obtain⟨a,e,⟨xs,hq⟩,q⟩:=G
 subst e
 cases B
 obtain⟨its,rv,p,hz⟩:=I1.list hq
 refine wpAny_pyIter_list p.isList ?_
 refine⟨s1.heap.objs.size,[s1.heap.objs.size],_,_,H1,rfl,I1.kept (t':=s1.toks) λb o e=>Heap.get?_push_of_some _ e,p0 a _,⟨_,Heap.get?_push_size _ rfl,rfl,rfl⟩,λb hb=>?_,q⟩
 have e:b=s1.heap.objs.size:=by simpa using hb
 subst e
 exact I1.Dj (zJ _) (I1.yx.fresh (zJ _))
theorem xy{l:Expr}{tl:TE}(hl:PE X l tl):PI X tg l (L4 X.K tl):=by
 intro aO s σ H R I h
 refine zd (hl aO s σ H _ I h) λv s1 ⟨x,H1,I1,B,G⟩=>?_
 obtain⟨a,e,⟨xs,hq⟩,q⟩:=G
 subst e
 cases B
 obtain⟨its,rv,p,hz⟩:=I1.tuple hq
 refine wpAny_pyIter_tuple (show s1.heap.IsTuple a its.toArray from p) ?_
 refine⟨s1.heap.objs.size,[s1.heap.objs.size],_,_,H1,rfl,I1.kept (t':=s1.toks) λb o e=>Heap.get?_push_of_some _ e,mL a _,⟨_,Heap.get?_push_size _ rfl,rfl,rfl⟩,λb hb=>?_,q⟩
 have e:b=s1.heap.objs.size:=by simpa using hb
 subst e
 exact I1.Dj (zJ _) (I1.yx.fresh (zJ _))
theorem my{R:It->Hp->Prop}{hi:Int}{t u v:Tok}{tk:Nat}(I:Inv X aO σ H s)(h1:-(2 ^ 62)<=lo)(h2:lo<2 ^ 62)(h3:-(2 ^ 62)<=hi)(h4:hi<2 ^ 62)
  (q:R (IW lo (hi-lo).toNat) H):wpAny (model X.prog X.w) X.A (pyIter (.ref s.heap.objs.size)) (SH X aO σ tg R) E { s with heap:=s.heap.push { cls:=.type "range",data:=.fields #[.int lo t,.int hi u,.int 1 v] },toks:=tk }:=by
 refine wpAny_pyIter_range (IsRange.new ..) (small_one h1 h2 h3 h4) ?_
 have I1:Inv X aO σ H { s with heap:=s.heap.push { cls:=.type "range",data:=.fields #[.int lo t,.int hi u,.int 1 v] },toks:=tk }:=I.kept λb o e=>Heap.get?_push_of_some _ e
 refine⟨(s.heap.push { cls:=.type "range",data:=.fields #[.int lo t,.int hi u,.int 1 v] }).objs.size,[(s.heap.push { cls:=.type "range",data:=.fields #[.int lo t,.int hi u,.int 1 v] }).objs.size],_,_,H,rfl,
  I1.kept (t':=tk) λb o e=>Heap.get?_push_of_some _ e,mz _ lo (hi-lo).toNat,?_,λb hb=>?_,q⟩
 ·have e1:lo+((0:Nat):Int)*1=lo:=by simp
  have e2:(((hi-lo).toNat:Nat):Int)-((0:Nat):Int)=Builtin.Range.rangeSize lo hi 1:=by rw[rangeSize_one];split <;>lia
  show IsRangeIter _ _ (lo+((0:Nat):Int)*1) ((((hi-lo).toNat:Nat):Int)-((0:Nat):Int)) 1
  rw[e1,e2]
  exact Heap.get?_push_size _ rfl
 ·have e:b=(s.heap.push { cls:=.type "range",data:=.fields #[.int lo t,.int hi u,.int 1 v] }).objs.size:=by simpa using hb
  subst e
  exact I1.Dj (zJ _) (I1.yx.fresh (zJ _))
inductive FN(R:It->Hp->Prop)(vs:List V)(H1:Hp):Prop where
 | mk (j:Int) (ui:vs=[.int j]) (uj:-(2 ^ 62)<=j) (zf:j<2 ^ 62) (zq:R (IW 0 j.toNat) H1):FN R vs H1
def L5(ta:TA):TI:=fun σ H R=>ta σ H λvs H1=>FN R vs H1
inductive FO(R:It->Hp->Prop)(vs:List V)(H1:Hp):Prop where
 | mk (i j:Int) (ui:vs=[.int i,.int j]) (uj:(-(2 ^ 62)<=i/\i<2 ^ 62/\-(2 ^ 62)<=j/\j<2 ^ 62)) (zf:R (IW i (j-i).toNat) H1):FO R vs H1
def L6(ta:TA):TI:=fun σ H R=>ta σ H λvs H1=>FO R vs H1
theorem bO{a:Expr}{ta:TA}(hg:Gl X "range")(hm:X.mg "range"=none)(ha:PA X [a] ta)(hs:starEach [a] X.env=[(false,eval a X.env)]:=by rfl):PI X tg (.Call (.Name "range" p) [a] [] pos) (L5 ta):=by
 intro aO s σ H R I h
 refine Call_ (gh I hg hm boot_range (PyProof.Rows.callWith_type1 (zd (ha pos aO s σ H _ I h) λus s1 ⟨vs,H1,I1,G,B⟩=>?_) hs rfl))
 obtain⟨j,e,B,O,q⟩:=B
 subst e
 cases G with
 | cons r U =>
  cases U
  obtain⟨t,rfl⟩:=r
  exact call_range_1 (my I1 (by lia) (by lia) B O (by simpa using q))
theorem o9{a b:Expr}{ta:TA}(hg:Gl X "range")(hm:X.mg "range"=none)(ha:PA X [a,b] ta)(hs:starEach [a,b] X.env=[(false,eval a X.env),(false,eval b X.env)]:=by rfl)(B:starEach [b] X.env=[(false,eval b X.env)]:=by rfl) :
  PI X tg (.Call (.Name "range" p) [a,b] [] pos) (L6 ta):=by
 intro aO s σ H R I h
 refine Call_ (gh I hg hm boot_range (PyProof.Rows.callWith_type1 (zd (ha pos aO s σ H _ I h) λus s1 ⟨vs,H1,I1,U,G⟩=>?_) (by rw[hs,B]) (by rw[B];rfl)))
 obtain⟨i,j,e,⟨G,Y,q3,q4⟩,q⟩:=G
 subst e
 cases U with
 | cons r O =>
  cases O with
  | cons r' O =>
   cases O
   obtain⟨t,rfl⟩:=r
   obtain⟨t',rfl⟩:=r'
   exact call_range_2 (my I1 G Y q3 q4 q)
def PK(wi:TI)(g:TG)(tb:TS):TS:=λD σ H=>wi σ H λJ H1=>∃W:Nat->Nat->St->Hp->Prop,(∃m,W 0 m σ H1)/\∀i m σ H,W i m σ H ->
 (J.stop i H/\D.nx σ H)\/(J.go i H/\∃N:St->Hp->Prop,(∀σ' H',N σ' H'->∃B,B<m/\W (i+1) B σ' H')/\∀x H',J.J6 i H x H'->g x σ H' fun σ2 H2=>tb { D with nx:=N,ct:=N,bk:=D.nx } σ2 H2)
def Cn(fp:List Addr)(h:Heap):List (Addr×Obj):=fp.filterMap λb=>(h.get? b).map λo=>(b,o)
theorem dX{o:Obj}(hb:b∈fp)(e:h.get? b=some o):(b,o)∈Cn fp h:=yZ.mpr ⟨b,hb,by rw[e];rfl⟩
theorem p_{p:Addr×Obj}(hp:p∈Cn fp h):p.1∈fp/\h.get? p.1=some p.2:=by
 obtain⟨b,hb,e⟩:=yZ.mp hp
 cases q:h.get? b with
 | none=>rw[q]at e;cases e
 | some o =>
  rw[q]at e
  have B:(b,o)=p:=Option.some.inj e
  subst B
  exact⟨hb,q⟩
theorem Inv.pinned(I:Inv X aO σ H s)(hf:∀b∈fp,Bx X aO H b)(ho:∀b∈fp,∃o,s.heap.get? b=some o/\∀v,o.data≠.cell v):Inv X (aO++Cn fp s.heap) σ H s :=
 I.Di λp hp=>(zW.mp hp).elim (λz=>I.pin p (zU _ z)) λz=>by
  obtain⟨hb,e⟩:=p_ z
  obtain⟨f0,f1,f2,_⟩:=hf p.1 hb
  obtain⟨o,B,d⟩:=ho p.1 hb
  rw[e]at B;cases B
  exact⟨e,f0,f1,f2,d⟩
theorem Inv.BJ{pl:List (Addr×Obj)}(I:Inv X (aO++pl) σ H s):Inv X aO σ H s:=I.Di λp hp=>I.pin p (zU _ (yQ _ hp))
theorem cj{wi:TI}{g:TG}(hp:PassesOwn (model X.prog X.w) X.A X.env X.xe)(hc:X.calm=true)(hi:PI X tg iter wi)(hg:PG X tg g)(hb:EM X body tb)
  (hs:∀x,foldedSetIterable iter X.env x=pure x:=by intro _;rfl):PS X (.For tg iter body [] pos) (PK wi g tb):=by
 intro aO s σ H D I h
 refine wpAny_For (zd (hi aO s σ H _ I h) λv s1 h1=>zd h1 λSI s2 h2=>?_) hs
 obtain⟨it,fp,tn,J,H2,e,I2,T,Ca,f2,W,⟨m0,w0⟩,turn⟩:=h2
 subst e
 have B:∀{H':Hp},(∀b∈fp,H' b=none)->∀b∈fp,Bx X aO H' b:=λhn b hb=>⟨hn b hb,(f2 b hb).2⟩
 refine codeAny_forLoop_any (λn s'=>∃i σ' H',Inv X aO σ' H' s'/\tn i s'.heap/\(∀b∈fp,H' b=none)/\W i n σ' H') ?_ m0 ⟨0,σ,H2,I2,Ca,λb hb=>(f2 b hb).1,w0⟩
 rintro n s3 ⟨i,σ3,H3,I3,CG,U,w3⟩
 rcases turn i n σ3 H3 w3 with ⟨stop,qn⟩|⟨go,N,hN,step⟩
 ·refine wpAny_passesOwn hp (zd (T.done X rfl rfl rfl hc i aO s3 σ3 H3 X.xe I3 (B U) CG stop) λr s4 ⟨hr,I4⟩=>?_)
  subst hr
  exact wpAny_execs_nil ⟨σ3,H3,I4,qn⟩
 ·refine wpAny_passesOwn hp (zd (T.item X rfl rfl rfl hc i aO s3 σ3 H3 X.xe I3 (B U) CG go) λr s4 ⟨u,hr,h4⟩=>?_)
  subst hr
  refine wpAny_passesOwn hp (zd h4 λ_ s5 ⟨x,H5,I5,r5,y5,FH,PL⟩=>?_)
  have PM:=I5.pinned (B PL) (T.obj _ _ FH)
  refine wpAny_passesOwn hp (zd (hg _ s5 σ3 H5 x u _ PM r5 (step x H5 y5)) λ_ s6 ⟨σ6,H6,I6,q6⟩=>?_)
  refine wpAny_passesOwn hp (zd (hb _ s6 σ6 H6 _ I6 q6) λf s7 O=>?_)
  have again:∀{σ7:St}{H7:Hp},Inv X (aO++Cn fp s5.heap) σ7 H7 s7->N σ7 H7->∃m,m<n/\∃i σ' H',Inv X aO σ' H' s7/\tn i s7.heap/\(∀b∈fp,H' b=none)/\W i m σ' H':=fun {σ7 H7} G Y=>by
   obtain⟨m',hm,w7⟩:=hN σ7 H7 Y
   refine⟨m',hm,i+1,σ7,H7,G.BJ,T.keep _ _ _ FH λb hb o e=>(G.pin (b,o) (zU _ (zU _ (dX hb e)))).1,λb hb=>?_,w7⟩
   obtain⟨o,e,d⟩:=T.obj _ _ FH b hb
   exact(G.pin (b,o) (zU _ (zU _ (dX hb e)))).2.1
  cases f with
  | next=>obtain⟨σ7,H7,G,Y⟩:=O;exact again G Y
  | cont=>obtain⟨σ7,H7,G,Y⟩:=O;exact again G Y
  | brk=>obtain⟨σ7,H7,G,O⟩:=O;exact⟨σ7,H7,G.BJ,O⟩
  | ret v=>obtain⟨x7,σ7,H7,G,r7,O⟩:=O;exact⟨x7,σ7,H7,G.BJ,r7,O⟩
theorem dh{g:TG}(Pv:Nat->St->Hp->Prop)(h0:Pv 0 σ H)(hl:∀i σ H,i<=xs.length->Pv i σ H->eH K H a xs)
  (hs:∀i x σ H,xs[i]?=some x->Pv i σ H->g x σ H fun σ2 H2=>tb { D with nx:=Pv (i+1),ct:=Pv (i+1),bk:=D.nx } σ2 H2) (hd:∀σ H,Pv xs.length σ H->D.nx σ H) :
  ∃W:Nat->Nat->St->Hp->Prop,(∃m,W 0 m σ H)/\∀i m σ H,W i m σ H ->
   ((Lq K a).stop i H/\D.nx σ H)\/((Lq K a).go i H/\∃N:St->Hp->Prop,(∀σ' H',N σ' H'->∃B,B<m/\W (i+1) B σ' H')/\∀x H',(Lq K a).J6 i H x H'->g x σ H' fun σ2 H2=>tb { D with nx:=N,ct:=N,bk:=D.nx } σ2 H2):=by
 walk_at "p"
theorem jp{g:TG}(Pv:Nat->St->Hp->Prop)(h0:Pv 0 σ H)(hl:∀i σ H,i<=xs.length->Pv i σ H->ze K H a xs)
  (hs:∀i x σ H,xs[i]?=some x->Pv i σ H->g x σ H fun σ2 H2=>tb { D with nx:=Pv (i+1),ct:=Pv (i+1),bk:=D.nx } σ2 H2) (hd:∀σ H,Pv xs.length σ H->D.nx σ H) :
  ∃W:Nat->Nat->St->Hp->Prop,(∃m,W 0 m σ H)/\∀i m σ H,W i m σ H ->
   ((Lr K a).stop i H/\D.nx σ H)\/((Lr K a).go i H/\∃N:St->Hp->Prop,(∀σ' H',N σ' H'->∃B,B<m/\W (i+1) B σ' H')/\∀x H',(Lr K a).J6 i H x H'->g x σ H' fun σ2 H2=>tb { D with nx:=N,ct:=N,bk:=D.nx } σ2 H2):=by
 walk_at "p"
theorem cW{g:TG}(Pv:Nat->St->Hp->Prop)(h0:Pv 0 σ H)
  (hs:∀i σ H,i<n->Pv i σ H->g (.int (lo+i)) σ H fun σ2 H2=>tb { D with nx:=Pv (i+1),ct:=Pv (i+1),bk:=D.nx } σ2 H2) (hd:∀σ H,Pv n σ H->D.nx σ H) :
  ∃W:Nat->Nat->St->Hp->Prop,(∃m,W 0 m σ H)/\∀i m σ H,W i m σ H ->
   ((IW lo n).stop i H/\D.nx σ H)\/((IW lo n).go i H/\∃N:St->Hp->Prop,(∀σ' H',N σ' H'->∃B,B<m/\W (i+1) B σ' H')/\∀x H',(IW lo n).J6 i H x H'->g x σ H' fun σ2 H2=>tb { D with nx:=N,ct:=N,bk:=D.nx } σ2 H2):=by
 refine⟨λi m σ H=>m=n-i/\i<=n/\Pv i σ H,⟨n,by simp,yH _,h0⟩,?_⟩
 rintro i m σ H ⟨rfl,hi,p⟩
 by_cases Ay:i<n
 ·refine .inr ⟨Ay,Pv (i+1),fun σ' H' p'=>⟨n-(i+1),by lia,rfl,Ay,p'⟩,λx H' y=>?_⟩
  obtain⟨e,y⟩:=y
  subst e y
  exact hs i σ _ Ay p
 ·have e:i=n:=by lia
  subst e
  exact .inl ⟨zJ _,hd σ H p⟩
abbrev R2:=V->V->Hp->VK->Prop
def BH(X:Cx)(f:Value->Value->Sem Value)(r:R2):Prop :=
 ∀(aO:List (Addr×Obj))(s:Shared)(σ:St)(H:Hp)(x y:V)(v u:Value)(Q:VK),Inv X aO σ H s->RelV x v->RelV y u->r x y H Q ->
  wpAny (model X.prog X.w) X.A (f v u) (EP X aO σ Q) X.xe s
def Aq(X:Cx)(f:Value)(r:List V->Hp->VK->Prop):Prop :=
 ∀(aO:List (Addr×Obj))(s:Shared)(σ:St)(H:Hp)(xs:List V)(us:List Value)(Q:VK),Inv X aO σ H s->Vals xs us->r xs H Q ->
  wpAny (model X.prog X.w) X.A (call f us) (EP X aO σ Q) X.xe s
def Om(r:R2)(ta tb:TE):TE:=fun σ H Q=>ta σ H λx H1=>tb σ H1 λy H2=>r x y H2 Q
inductive rI(C:Int->Int->Prop)(g:Int->Int->V)(x:V)(y:V)(H:Hp)(Q:VK):Prop where
 | mk (i j:_) (ui:x=.int i) (uj:y=.int j) (zf:C i j) (zq:Q (g i j) H):rI C g x y H Q
inductive HY(g:Int->Int->V)(x:V)(y:V)(H:Hp)(Q:VK):Prop where
 | mk (i j:_) (ui:x=.int i) (uj:y=.int j) (zf:Q (g i j) H):HY g x y H Q
variable{r:R2}
section
variable{a b c:Expr}{tb tc:TE}
theorem J7(ha:PE X a ta)(hb:PE X b tb){R:V->V->Hp->Prop}(I:Inv X aO σ H s)
  (h:ta σ H λx H1=>tb σ H1 λy H2=>R x y H2) {f:Value->Value->Sem Value}
  (hf:∀v u s2 x y H2,Inv X aO σ H2 s2->RelV x v->RelV y u->R x y H2->wpAny (model X.prog X.w) X.A (f v u) Q X.xe s2) :
  wpAny (model X.prog X.w) X.A (eval a X.env) (λv B=>wpAny (model X.prog X.w) X.A (eval b X.env) (λu G=>wpAny (model X.prog X.w) X.A (f v u) Q X.xe G) X.xe B) X.xe s:=by
 refine zd (ha aO s σ H _ I h) λv s1 ⟨x,H1,I1,O,U⟩=>?_
 refine zd (hb aO s1 σ H1 _ I1 U) λu s2 ⟨y,H2,I2,Y,q2⟩=>?_
 exact hf v u s2 x y H2 I2 O Y q2
theorem bu{op:Operator}(ho:BH X (binaryOp op) r)(ha:PE X a ta)(hb:PE X b tb):PE X (.BinOp a op b pos) (Om r ta tb):=by
 intro aO s σ H Q I h
 exact wpAny_BinOp (J7 ha hb I h λv u s2 x y H2 I2 B G q=>ho aO s2 σ H2 x y v u Q I2 B G q)
theorem Oo{f:Value->Value->Sem Value}{C:Int->Int->Prop}{g:Int->Int->Int}
  (rule:∀(i j:Int)(t u:Tok)(s:Shared)(Q:Value->Shared->Prop)(E:Value->Shared->Prop),C i j->Q (.int (g i j) s.toks) { s with toks:=s.toks+1 }->wpAny (model X.prog X.w) X.A (f (.int i t) (.int j u)) Q E s) :
  BH X f (rI C λi j=>.int (g i j)):=by
 intro aO s σ H x y v u Q I B G h
 obtain⟨i,j,rfl,rfl,hc,q⟩:=h
 obtain⟨t,rfl⟩:=B
 obtain⟨t',rfl⟩:=G
 exact rule i j t t' s _ _ hc ⟨.int (g i j),H,I.tok _,⟨_,rfl⟩,q⟩
theorem L7{f:Value->Value->Sem Value}{g:Int->Int->Int}
  (rule:∀(i j:Int)(t u:Tok)(s:Shared)(Q:Value->Shared->Prop)(E:Value->Shared->Prop),Q (.int (g i j) s.toks) { s with toks:=s.toks+1 }->wpAny (model X.prog X.w) X.A (f (.int i t) (.int j u)) Q E s) :
  BH X f (HY λi j=>.int (g i j)):=by
 intro aO s σ H x y v u Q I B G h
 obtain⟨i,j,rfl,rfl,q⟩:=h
 obtain⟨t,rfl⟩:=B
 obtain⟨t',rfl⟩:=G
 exact rule i j t t' s _ _ ⟨.int (g i j),H,I.tok _,⟨_,rfl⟩,q⟩
theorem HZ{f:Value->Value->Sem Value}{g:Int->Int->Bool}
  (rule:∀(i j:Int)(t u:Tok)(s:Shared)(Q:Value->Shared->Prop)(E:Value->Shared->Prop),Q (.bool (g i j)) s->wpAny (model X.prog X.w) X.A (f (.int i t) (.int j u)) Q E s) :
  BH X f (HY λi j=>.bl (g i j)):=by
 intro aO s σ H x y v u Q I B G h
 obtain⟨i,j,rfl,rfl,q⟩:=h
 obtain⟨t,rfl⟩:=B
 obtain⟨t',rfl⟩:=G
 exact rule i j t t' s _ _ ⟨.bl (g i j),H,I,rfl,q⟩
def PN(i j:Int):Prop:=0<j/\j<1073741824
def PQ(i j:Int):Prop:=0<=j/\j<=1000000/\i.natAbs<2 ^ 64
def J8(i j:Int):Prop:=(-(2 ^ 64)<i/\i<2 ^ 64)\/(-(2 ^ 64)<j/\j<2 ^ 64)
theorem J8.ok{i j:Int}(h:J8 i j):IntMulOk i j:=by
 rcases h with ⟨h1,h2⟩|⟨h1,h2⟩
 ·exact .of_left (intBits_le_64 h1 h2)
 ·exact .of_right (intBits_le_64 h1 h2)
theorem bQ:BH X (binaryOp .Add) (HY λi j=>.int (i+j)):=L7 λ_ _ _ _ _ _ _ q=>add_int q
theorem gf:BH X (binaryOp .Sub) (HY λi j=>.int (i-j)):=L7 λ_ _ _ _ _ _ _ q=>sub_int q
theorem jw:BH X (binaryOp .Mult) (rI J8 λi j=>.int (i*j)):=Oo λ_ _ _ _ _ _ _ hc q=>mul_int q hc.ok
theorem cP:BH X (binaryOp .FloorDiv) (rI PN λi j=>.int (i / j)):=Oo λi j _ _ _ _ _ hc q=>by
 have h1:(0:Int)<j:=hc.1
 have h2:j<1073741824:=hc.2
 exact floordiv_int (by lia) (by rw[Int.fdiv_eq_ediv_of_nonneg i (by lia)];exact q) (.inl (PyProof.noPylong_small (by lia)))
theorem bN:BH X (binaryOp .Mod) (rI (λ_ j=>0<j) λi j=>.int (i%j)):=Oo λi j _ _ _ _ _ hc q=>by
 have h1:(0:Int)<j:=hc
 exact mod_int' (by lia) (by rw[Int.fmod_eq_emod_of_nonneg i (by lia)];exact q)
theorem mO:BH X (binaryOp .Pow) (rI PQ λi j=>.int (i ^ j.toNat)):=Oo λ_ _ _ _ _ _ _ hc q=>pow_int_small hc.1 hc.2.1 hc.2.2 q
end
def L9:V->V->Bool
 | .y2,.y2=>true|.y2,.int _=>true|.int _,.y2=>true|.y2,.bl _=>true|.bl _,.y2=>true|.y2,.str _=>true|.str _,.y2=>true
 | .int _,.int _=>true|.bl _,.bl _=>true|.str _,.str _=>true|.Fv _,.Fv _=>true
 | .int _,.str _=>true|.str _,.int _=>true|.bl _,.str _=>true|.str _,.bl _=>true
 | _,_=>false
def Vz:R2:=λx y H Q=>L9 x y=true/\Q (.bl (decide (x=y))) H
def VA:R2:=λx y H Q=>L9 x y=true/\Q (.bl (!decide (x=y))) H
theorem bT{i j:Int}:decide (V.int i=V.int j)=(i==j):=by
 rw[kQ]
 simp
theorem q_{i j:Bool}:decide (V.bl i=V.bl j)=(i==j):=by
 rw[kQ]
 simp
theorem oj{i j:Str}:decide (V.str i=V.str j)=(i==j):=by
 rw[kQ]
 simp
theorem ow{i j:Array UInt8}:decide (V.Fv i=V.Fv j)=(i.toList==j.toList):=by
 rw[kQ]
 cases i
 cases j
 simp
section
variable{a b c:Expr}{tb tc:TE}
theorem bD{Q:VK}{k B:Bool}(I:Inv X aO σ H s)(q:Q (.bl k) H)(e:k=B):EP X aO σ Q (.bool B) s:=by
 subst e
 exact⟨.bl k,H,I,rfl,q⟩
theorem bU:BH X (compareOp .Eq) Vz:=by
 intro aO s σ H x y v u Q I G B h
 obtain⟨hs,q⟩:=h
 cases x with
 | y2 =>
  cases G
  cases y with
  | y2=>cases B;exact PySem.EqNone.eq_none_none (bD I q (by simp))
  | bl j=>cases B;exact PySem.EqNone.eq_none_bool (bD I q (by simp))
  | int j=>obtain⟨t',rfl⟩:=B;exact PySem.EqNone.eq_none_int (bD I q (by simp))
  | str j=>obtain⟨t',rfl⟩:=B;exact PySem.EqNone.eq_none_str (bD I q (by simp))
  | _=>exact absurd (show false=true from hs) zS
 | bl i =>
  cases G
  cases y with
  | y2=>cases B;exact PySem.EqNone.eq_bool_none (bD I q (by simp))
  | bl j=>cases B;exact eq_bool (bD I q q_)
  | str j=>obtain⟨t',rfl⟩:=B;exact PySem.EqMixed.eq_bool_str (bD I q (by simp))
  | _=>exact absurd (show false=true from hs) zS
 | int i =>
  obtain⟨t,rfl⟩:=G
  cases y with
  | y2=>cases B;exact PySem.EqNone.eq_int_none (bD I q (by simp))
  | int j=>obtain⟨t',rfl⟩:=B;exact eq_int (bD I q bT)
  | str j=>obtain⟨t',rfl⟩:=B;exact PySem.EqMixed.eq_int_str (bD I q (by simp))
  | _=>exact absurd (show false=true from hs) zS
 | str i =>
  obtain⟨t,rfl⟩:=G
  cases y with
  | y2=>cases B;exact PySem.EqNone.eq_str_none (bD I q (by simp))
  | bl j=>cases B;exact PySem.EqMixed.eq_str_bool (bD I q (by simp))
  | int j=>obtain⟨t',rfl⟩:=B;exact PySem.EqMixed.eq_str_int (bD I q (by simp))
  | str j=>obtain⟨t',rfl⟩:=B;exact eq_str (bD I q oj)
  | _=>exact absurd (show false=true from hs) zS
 | Fv i =>
  obtain⟨t,rfl⟩:=G
  cases y with
  | Fv j=>obtain⟨t',rfl⟩:=B;exact PySem.W.eq_bytes (bD I q ow)
  | _=>exact absurd (show false=true from hs) zS
 | _=>cases y <;>exact absurd (show false=true from hs) zS
theorem mq:BH X (compareOp .NotEq) VA:=by
 intro aO s σ H x y v u Q I G B h
 obtain⟨hs,q⟩:=h
 cases x with
 | y2 =>
  cases G
  cases y with
  | y2=>cases B;exact PySem.EqNone.ne_none_none (bD I q (by simp))
  | bl j=>cases B;exact PySem.EqNone.ne_none_bool (bD I q (by simp))
  | int j=>obtain⟨t',rfl⟩:=B;exact PySem.EqNone.ne_none_int (bD I q (by simp))
  | str j=>obtain⟨t',rfl⟩:=B;exact PySem.EqNone.ne_none_str (bD I q (by simp))
  | _=>exact absurd (show false=true from hs) zS
 | bl i =>
  cases G
  cases y with
  | y2=>cases B;exact PySem.EqNone.ne_bool_none (bD I q (by simp))
  | bl j=>cases B;exact ne_bool (bD I q (congrArg not q_))
  | str j=>obtain⟨t',rfl⟩:=B;exact PySem.EqMixed.ne_bool_str (bD I q (by simp))
  | _=>exact absurd (show false=true from hs) zS
 | int i =>
  obtain⟨t,rfl⟩:=G
  cases y with
  | y2=>cases B;exact PySem.EqNone.ne_int_none (bD I q (by simp))
  | int j=>obtain⟨t',rfl⟩:=B;exact ne_int (bD I q (congrArg not bT))
  | str j=>obtain⟨t',rfl⟩:=B;exact PySem.EqMixed.ne_int_str (bD I q (by simp))
  | _=>exact absurd (show false=true from hs) zS
 | str i =>
  obtain⟨t,rfl⟩:=G
  cases y with
  | y2=>cases B;exact PySem.EqNone.ne_str_none (bD I q (by simp))
  | bl j=>cases B;exact PySem.EqMixed.ne_str_bool (bD I q (by simp))
  | int j=>obtain⟨t',rfl⟩:=B;exact PySem.EqMixed.ne_str_int (bD I q (by simp))
  | str j=>obtain⟨t',rfl⟩:=B;exact ne_str (bD I q (congrArg not oj))
  | _=>exact absurd (show false=true from hs) zS
 | Fv i =>
  obtain⟨t,rfl⟩:=G
  cases y with
  | Fv j=>obtain⟨t',rfl⟩:=B;exact PySem.W.ne_bytes (bD I q (congrArg not ow))
  | _=>exact absurd (show false=true from hs) zS
 | _=>cases y <;>exact absurd (show false=true from hs) zS
theorem vj:BH X (compareOp .Lt) (HY λi j=>.bl (decide (i<j))):=HZ λ_ _ _ _ _ _ _ q=>lt_int q
theorem gn:BH X (compareOp .LtE) (HY λi j=>.bl (decide (i<=j))):=HZ λ_ _ _ _ _ _ _ q=>le_int q
theorem fw:BH X (compareOp .Gt) (HY λi j=>.bl (decide (j<i))):=HZ λ_ _ _ _ _ _ _ q=>gt_int q
theorem yp:BH X (compareOp .GtE) (HY λi j=>.bl (decide (j<=i))):=HZ λ_ _ _ _ _ _ _ q=>ge_int q
theorem o6:BH X (compareOp .In) (λx y H Q=>∃i j,x=.str i/\y=.str j/\Q (.bl (!(Builtin.Str.occurrences j i 0 j.length 1).isEmpty)) H):=by
 intro aO s σ H x y v u Q I B G h
 obtain⟨i,j,rfl,rfl,q⟩:=h
 obtain⟨t,rfl⟩:=B
 obtain⟨t',rfl⟩:=G
 exact in_str (bD I q rfl)
theorem gU:BH X (compareOp .Is) (λx y H Q=>y=.y2/\Q (.bl (decide (x=.y2))) H):=by
 intro aO s σ H x y v u Q I B G h
 obtain⟨rfl,q⟩:=h
 cases G
 refine is_none_gen (bD I q ?_)
 cases x <;>first
  | (cases B;rfl)
  | (obtain⟨t,rfl⟩:=B;rfl)
theorem dS:BH X (compareOp .IsNot) (λx y H Q=>y=.y2/\Q (.bl (!decide (x=.y2))) H):=by
 intro aO s σ H x y v u Q I B G h
 obtain⟨rfl,q⟩:=h
 cases G
 refine isnot_none_gen (bD I q ?_)
 cases x <;>first
  | (cases B;rfl)
  | (obtain⟨t,rfl⟩:=B;rfl)
theorem bq(b:Expr){op:CmpOp}(h:op≠.In:=by decide)(h2:op≠.NotIn:=by decide):behindInMarks op b=false:=by
 have e1:(op==CmpOp.In)=false:=by cases op <;>first|rfl|exact absurd rfl h
 have e2:(op==CmpOp.NotIn)=false:=by cases op <;>first|rfl|exact absurd rfl h2
 cases b <;>simp [behindInMarks,e1,e2]
theorem cF{op:CmpOp}(ho:BH X (compareOp op) r)(ha:PE X a ta)(hb:PE X b tb)(hm:behindInMarks op b=false):PE X (.Compare a [op] [b] pos) (Om r ta tb):=by
 intro aO s σ H Q I h
 exact wpAny_Compare1 (J7 ha hb I h λv u s2 x y H2 I2 B G q=>ho aO s2 σ H2 x y v u Q I2 B G q) hm
inductive FP(Q:Bool->Hp->Prop)(x:V)(H':Hp):Prop where
 | mk (k:_) (ui:x=.bl k) (uj:Q k H'):FP Q x H'
def I0(t:TE):TT:=fun σ H Q=>t σ H λx H'=>FP Q x H'
theorem bp{op:CmpOp}(ho:BH X (compareOp op) r)(ha:PE X a ta)(hb:PE X b tb)(hm:behindInMarks op b=false):PT X (.Compare a [op] [b] pos) (I0 (Om r ta tb)):=by
 intro aO s σ H Q I h
 refine wpAny_isTrue_Compare1 (zd (ha aO s σ H _ I h) λv s1 ⟨x,H1,I1,B,G⟩=>zd (hb aO s1 σ H1 _ I1 G) λu s2 ⟨y,H2,I2,O,U⟩ =>
  zd (ho aO s2 σ H2 x y v u _ I2 B O U) λc s3 ⟨z,H3,Y,r3,k,e,q3⟩=>?_) hm
 subst e
 cases r3
 exact wpAny_truthy_bool ⟨H3,Y,q3⟩
inductive EN(r':R2)(tc:TE)(σ:St)(Q:VK)(y:V)(z:V)(H3:Hp):Prop where
 | mk (k:_) (ui:z=.bl k) (uj:(if k=true then tc σ H3 λw' H4=>r' y w' H4 Q else Q (.bl false) H3)):EN r' tc σ Q y z H3
def J9(r r':R2)(ta tb tc:TE):TE:=fun σ H Q=>ta σ H λx H1=>tb σ H1 λy H2=>r x y H2 λz H3=>EN r' tc σ Q y z H3
theorem gT{op B:CmpOp}{r':R2}(ho:BH X (compareOp op) r)(G:BH X (compareOp B) r')(ha:PE X a ta)(hb:PE X b tb)(hc:PE X c tc)
  (hm:lastMarks [op,B] [b,c]=false:=by with_unfolding_all rfl):PT X (.Compare a [op,B] [b,c] pos) (I0 (J9 r r' ta tb tc)):=by
 intro aO s σ H Q I h
 refine isTrue_chain (zd (ha aO s σ H _ I h) λv s1 ⟨x,H1,I1,r1,q1⟩=>test_link (zd (hb aO s1 σ H1 _ I1 q1) λu s2 ⟨y,H2,I2,O,q2⟩ =>
  zd (ho aO s2 σ H2 x y v u _ I2 r1 O q2) λd s3 ⟨z,H3,U,r3,k,e,Y⟩=>?_)) hm
 subst e
 cases r3
 refine wpAny_truthy_bool ?_
 cases k with
 | false =>
  obtain⟨k',e',q'⟩:=Y
  cases e'
  exact ite_ff ⟨H3,U,q'⟩
 | true =>
  refine ite_tt (test_last (zd (hc aO s3 σ H3 _ U Y) λw' s4 ⟨z',H4,I4,r4,q4⟩=>zd (G aO s4 σ H4 y z' u w' _ I4 O r4 q4) λd' s5 ⟨z2,H5,I5,r5,k2,e2,q5⟩=>?_))
  subst e2
  cases r5
  exact wpAny_truthy_bool ⟨H5,I5,q5⟩
theorem fU:(sizeLine:Nat)<2 ^ 63:=by rw[sizeLine_eq];decide
theorem dy{x:V}(r:Vals [x] us):∃u,us=[u]/\RelV x u:=by
 cases r with
 | cons B G=>cases G;exact⟨_,rfl,B⟩
theorem rK{x:V}(r:Vals [x,y] us):∃u w',us=[u,w']/\RelV x u/\RelV y w':=by
 cases r with
 | cons B G =>
  cases G with
  | cons O U=>cases U;exact⟨_,_,rfl,B,O⟩
theorem pR(hc:X.calm=true):Aq X (.builtin "min") (λxs H Q=>∃i j,xs=[.int i,.int j]/\Q (.int (if j<i then j else i)) H):=by
 intro aO s σ H xs us Q I r h
 obtain⟨i,j,rfl,q⟩:=h
 obtain⟨u,w',rfl,⟨t,rfl⟩,⟨t',rfl⟩⟩:=rK r
 refine min_two_ints (I.ok.hd hc) λh' tk k=>⟨_,H,I.kept k,?_,q⟩
 by_cases hj:j<i
 ·rw[if_pos hj,if_pos hj];exact⟨_,rfl⟩
 ·rw[if_neg hj,if_neg hj];exact⟨_,rfl⟩
theorem qe:Aq X (.type "int") (λxs H Q=>(∃i,xs=[.int i]/\Q (.int i) H)\/∃k,xs=[.bl k]/\Q (.int (if k then 1 else 0)) H):=by
 intro aO s σ H xs us Q I r h
 rcases h with ⟨i,rfl,q⟩|⟨k,rfl,q⟩
 ·obtain⟨u,rfl,t,rfl⟩:=dy r
  exact call_int_int ⟨.int i,H,I,⟨_,rfl⟩,q⟩
 ·obtain⟨u,rfl,B⟩:=dy r
  cases B
  exact call_int_bool ⟨.int (if k then 1 else 0),H,I.tok _,⟨_,rfl⟩,q⟩
end
structure Em(h:Heap)(x dx C:Addr)(mA:Str->Option Value):Prop where
 obj:h.get? x=some (PySem.W.instObj C dx)
 ns:h.Ns1 dx mA
 ne:dx≠x
theorem pL(n:h.Ns1 dx mA):∃od,h.get? dx=some od/\∀name,PySem.W.lookIn name od=some (mA name):=by
 obtain⟨o,es,ep,ho,hd,hk,_,hm⟩:=n
 refine⟨o,ho,λname=>?_⟩
 have e:=hm name
 unfold nsFind findBy at e
 rw[←Array.find?_toList]at e
 unfold PySem.W.lookIn
 rw[hd]
 dsimp only
 split
 ·rename_i y q
  rw[q]at e
  exact congrArg some e
 ·rename_i q
  rw[q]at e
  have a:es.toList.any (·.refKey)=false:=by
   rw[List.any_eq_false]
   intro y hy
   obtain⟨z,t,B⟩:=hk y (xP.mp hy)
   simp [DictEntry.refKey,B]
  have G:¬es.toList.any (·.refKey)=true:=by rw[a];exact zS
  rw[if_neg G]
  exact congrArg some e
theorem Em.look{x:Addr}(I:Em h x dx C mA):∃od,PySem.W.InstAt h x (PySem.W.instObj C dx) C (some od)/\∀name,PySem.W.lookIn name od=some (mA name) :=
 let ⟨od,ho,hl⟩:=pL I.ns
 ⟨od,⟨I.obj,rfl,rfl,ho⟩,hl⟩
section
variable{x f:Addr}{v:Value}
theorem uW{B:Bool}(X:K.In s.heap)(I:Em s.heap x dx C mA)(hg:PySem.W.plainGet K C name=true)(hh:PySem.W.hasDictIn K C=true)
  (ha:PySem.W.findIn K (.ref C) name=some none) (hv:mA name=some v) (G:PySem.W.handedIn v=true) (h:Q v { s with toks:=s.toks+1 }) :
  wpAny (model prog w) A (getAttr (.ref x) name B) Q E s:=by
 obtain⟨od,J,hl⟩:=I.look
 exact PySem.W.get_value X J (a0a hg).1 (PySem.W.findObj_own hh ha rfl (by rw[hl,hv])) G h
theorem sI{pl:Sem Bool}{Q:Value×List Value->Shared->Prop}(X:K.In s.heap)(I:Em s.heap x dx C mA)(hg:PySem.W.plainGet K C name=true)
  (hf:PySem.W.findIn K (.ref C) name=some (some (.ref f))) (ht:PySem.W.isFn K (.ref f)=true) (hv:mA name=none) (h:Q (.ref f,[.ref x]) s) :
  wpAny (model prog w) A (getMethod (.ref x) name pl) Q E s:=by
 obtain⟨od,J,hl⟩:=I.look
 exact PySem.W.method_fn X J (a0a hg).1 (a0a hg).2 hf (beq_iff_eq.mp ht) (by show(PySem.W.lookIn name od).map (·.isSome)=some false;rw[hl,hv];rfl) h
theorem uO{ns:List Str}{Q:Unit->Shared->Prop}(X:K.In s.heap)(I:Em s.heap x dx C mA)
  (hs:PySem.W.findIn K (.ref C) "__setattr__"=some (some (.builtin "object.__setattr__"))) (hp:PySem.W.plainOver K C=true) (ht:PySem.W.takerIn K C name=some none) (hh:PySem.W.hasDictIn K C=true)
  (hw:PySem.Within mA ns) (hsz:ns.length<=sizeLine)
  (h:∀h',Em h' x dx C (λy=>if y=name then some v else mA y)->Heap.SameBut dx s.heap h'->Q () { s with heap:=h',toks:=s.toks+2 }) :
  wpAny (model prog w) A (setAttr (.ref x) name v) Q E s:=by
 obtain⟨od,J,hl⟩:=I.look
 refine PySem.W.set_plain X J hs (PySem.W.osa_open (s:={ s with toks:=s.toks+1 }) (r:=none) X J hp ht λb=>?_)
 obtain⟨cd,hc,O⟩:=PySem.W.any_some hh
 have hx:s.heap.get? x=some ⟨.ref C,some dx,.plain,#[]⟩:=I.obj
 refine wpAny_bind (wpAny_pure (wpAny_bind (wpAny_bind (wpAny_loadPart hx (wpAny_bind (PySem.W.Looks.here (s:={ s with toks:=s.toks+1 }) (PySem.W.looks_clsIn X hc) ?_))))))
 rw[O]
 refine wpAny_pure (a:=some dx) (wpAny_bind (wpAny_pure (wpAny_bind ?_)))
 refine wpAny_nsSet1 (s:={ s with toks:=s.toks+1 }) I.ns λh' B G=>?_
 obtain⟨oD,Zj,Zk,U,Y,Ls⟩:=B.count (PySem.Within.cons name v hw)
 refine wpAny_bind (wpAny_lookBehind U (by rw[Y];exact pastItsLine_dict (yE Ls (by rw[yD];lia))) ?_)
 exact wpAny_pure (h _ ⟨(G.2 _ (Ne.symm I.ne)).trans I.obj,B,I.ne⟩ G)
theorem rc{R:Result->Shared->Prop}(X:K.In s.heap)(hm:PySem.W.makesIn K C=true)
  (hi:PySem.W.findIn K (.ref C) "__init__"=some (some (.ref f))) (hf:PySem.W.typeIn K (.ref f)=some (.type "function"))
  (h:codeAny (model prog w) (A.under (.builtin "type.__call__" ⟨.ref C::vs,kw⟩)) (.call (.ref f) ⟨.ref (s.heap.objs.size+1)::vs,kw⟩) (PySem.W.InitBack (s.heap.objs.size+1) R)
   { s with heap:=(s.heap.push PySem.W.emptyDict).push (PySem.W.instObj C s.heap.objs.size) }) :
  codeAny (model prog w) A (.call (.ref C) ⟨vs,kw⟩) R s:=by
 obtain⟨hh,g,d,t,os⟩:=s
 exact PySem.W.make_core (PySem.W.makes_of X hm) (PySem.W.looks_findIn X hi) (λself=>PySem.W.bind_fn X self hf) (.inl rfl) h
end
def mr(f:Str)(v:V):List (Str×V)->List (Str×V)
 | []=>[(f,v)]
 | (g,x)::r=>if g=f then (g,v)::r else (g,x)::mr f v r
theorem br(f g:Str)(v:V):∀fs:List (Str×V),(mr f v fs).lookup g=if g=f then some v else fs.lookup g
 | []=>by
  show List.lookup g [(f,v)]=_
  by_cases h:g=f
  ·have hb:(g==f)=true:=beq_iff_eq.mpr h
   simp only [List.lookup,hb,if_pos h]
  ·have hb:(g==f)=false:=beq_eq_false_iff_ne.mpr h
   simp only [List.lookup,hb,if_neg h]
 | (k,x)::r=>by
  have ih:=br f g v r
  rw[show mr f v ((k,x)::r)=(if k=f then (k,v)::r else (k,x)::mr f v r)from rfl]
  by_cases hk:k=f
  ·rw[if_pos hk]
   by_cases h:g=k
   ·have hb:(g==k)=true:=beq_iff_eq.mpr h
    simp only [List.lookup,hb,if_pos (h.trans hk)]
   ·have hb:(g==k)=false:=beq_eq_false_iff_ne.mpr h
    simp only [List.lookup,hb,if_neg (λe:g=f=>h (e.trans hk.symm))]
  ·rw[if_neg hk]
   by_cases h:g=k
   ·have hb:(g==k)=true:=beq_iff_eq.mpr h
    simp only [List.lookup,hb,if_neg (λe:g=f=>hk (h.symm.trans e))]
   ·have hb:(g==k)=false:=beq_eq_false_iff_ne.mpr h
    simp only [List.lookup,hb]
    exact ih
theorem f6(f:Str)(v:V):∀fs:List (Str×V),f∈(mr f v fs).map (·.1)/\∀g,g∈fs.map (·.1)->g∈(mr f v fs).map (·.1)
 | []=>⟨by simp [mr],λg h=>by simp at h⟩
 | (k,x)::r=>by
  obtain⟨i1,i2⟩:=f6 f v r
  rw[show mr f v ((k,x)::r)=(if k=f then (k,v)::r else (k,x)::mr f v r)from rfl]
  by_cases hk:k=f
  ·rw[if_pos hk]
   subst hk
   exact⟨by simp,λg h=>by simpa using h⟩
  ·rw[if_neg hk]
   refine⟨?_,λg h=>?_⟩
   ·rw[yM]
    exact zL _ i1
   ·rw[yM]at h ⊢
    rcases zO.mp h with e|e
    ·exact zO.mpr (.inl e)
    ·exact zL _ (i2 g e)
theorem bW(f:Str)(v:V):∀fs:List (Str×V),(mr f v fs).length<=fs.length+1
 | []=>by simp [mr]
 | (k,x)::r=>by
  have ih:=bW f v r
  rw[show mr f v ((k,x)::r)=(if k=f then (k,v)::r else (k,x)::mr f v r)from rfl]
  by_cases hk:k=f
  ·rw[if_pos hk,yD,yD];lia
  ·rw[if_neg hk,yD,yD];lia
theorem A6.some_of{o:Option Value}(r:A6 (some v) o):∃u,o=some u/\RelV v u:=by
 cases o with
 | none=>exact(show False from r).elim
 | some u=>exact⟨u,rfl,r⟩
theorem A6.none_of{o:Option Value}(r:A6 none o):o=none:=by
 cases o with
 | none=>rfl
 | some u=>exact(show False from r).elim
theorem oT(r:RelV v u):PySem.W.handedIn u=true:=by
 cases v with
 | y2=>cases (show u=Value.none from r);rfl
 | bl b=>cases (show u=Value.bool b from r);rfl
 | int i=>obtain⟨t,e⟩:=(show ∃t,u=Value.int i t from r);cases e;rfl
 | str x=>obtain⟨t,e⟩:=(show ∃t,u=Value.str x t from r);cases e;rfl
 | Fv b=>obtain⟨t,e⟩:=(show ∃t,u=Value.bytes b t from r);cases e;rfl
 | HS b=>obtain⟨t,e⟩:=(show ∃t,u=Value.float b t from r);cases e;rfl
 | ref a=>cases (show u=Value.ref a from r);rfl
 | ty n=>cases (show u=Value.type n from r);rfl
section
variable{fs Vu:List (Str×V)}
theorem gJ(yx:BG P w H h)(e:H a=some (.ins C dx fs)):∃mA,Em h a dx C mA/\(∀f,A6 (fs.lookup f) (mA f))/\PySem.Within mA (fs.map (·.1))/\fs.length<=1000/\H dx=some (.own a):=by
 obtain⟨d,z,ne,B,mA,n,r,q⟩:=(show zk P w H h a (.ins C dx fs)from yx a _ e)
 exact⟨mA,⟨B,n,ne⟩,r,q,z,d⟩
end
structure Fg(K:PySem.W.Frag)(C:Addr):Prop where
 pg:PySem.W.plainGet K C Str.empty=true
 hd:PySem.W.hasDictIn K C=true
 po:PySem.W.plainOver K C=true
 sa:PySem.W.findIn K (.ref C) "__setattr__"=some (some (.builtin "object.__setattr__"))
theorem Fg.get(c:Fg K C)(f:Str):PySem.W.plainGet K C f=true:=c.pg
def zw(K:PySem.W.Frag)(C:Addr)(f:Str):Prop:=PySem.W.findIn K (.ref C) f=some none
theorem zw.L_{f:Str}(n:zw K C f):PySem.W.takerIn K C f=some none:=by
 unfold PySem.W.takerIn
 rw[show PySem.W.findIn K (.ref C) f=some none from n]
 rfl
structure Meth(K:PySem.W.Frag)(C:Addr)(m:Str)(f:Addr):Prop where
 at_:PySem.W.findIn K (.ref C) m=some (some (.ref f))
 fn:PySem.W.isFn K (.ref f)=true
 kp:PySem.W.keepIn K (.ref f)=true
section
variable{fs:List (Str×V)}{f:Str}
theorem mS{b:Bool}(I:Inv X aO σ H s)(e:H a=some (.ins C dx fs))(c:Fg X.K C)(n:zw X.K C f)(l:fs.lookup f=some v)
  (h:∀u s',Inv X aO σ H s'->RelV v u->Q u s'):wpAny (model X.prog X.w) A (getAttr (.ref a) f b) Q E s:=by
 obtain⟨mA,O,r,_,_,_⟩:=gJ I.yx e
 obtain⟨u,hu,ru⟩:=A6.some_of (v:=v) (o:=mA f) (by rw[←l];exact r f)
 exact uW I.Bt O (c.get f) c.hd n hu (oT ru) (h u _ (I.tok _) ru)
theorem ia{m:Str}{g:Addr}{pl:Sem Bool}{Q:Value×List Value->Shared->Prop}(I:Inv X aO σ H s)(e:H a=some (.ins C dx fs))(c:Fg X.K C)(k:Meth X.K C m g)(l:fs.lookup m=none)
  (h:Q (.ref g,[.ref a]) s):wpAny (model X.prog X.w) A (getMethod (.ref a) m pl) Q E s:=by
 obtain⟨mA,O,r,_,_,_⟩:=gJ I.yx e
 have hn:mA m=none:=A6.none_of (by rw[←l];exact r m)
 exact sI I.Bt O (c.get m) k.at_ k.fn hn h
theorem nh{Q:Unit->Shared->Prop}(I:Inv X aO σ H s)(e:H a=some (.ins C dx fs))(c:Fg X.K C)(n:zw X.K C f)(hl:fs.length<1000)(G:RelV y u)
  (h:∀s',Inv X aO σ (upd H a (.ins C dx (mr f y fs))) s'->Q () s'):wpAny (model X.prog X.w) A (setAttr (.ref a) f u) Q E s:=by
 obtain⟨mA,O,r,wi,_,ho⟩:=gJ I.yx e
 have hz:(fs.map (·.1)).length<=sizeLine:=by rw[zB,sizeLine_eq];lia
 refine uO I.Bt O c.sa c.po n.L_ c.hd wi hz λh' B sb=>h _ ?_
 have hd:∃o,h'.get? dx=some o:=let ⟨o,_,_,U,_⟩:=B.ns;⟨o,U⟩
 refine I.write (x:=a) (e:=dx) (by rw[e];exact True.intro) (.inr ho) (λb q hb z=>(sb.2 b hb).trans z) hd ?_
 refine⟨by rw[bj O.ne];exact ho,?_,O.ne,B.obj,_,B.ns,λg=>?_,λg hg=>?_⟩
 ·have:=bW f y fs;lia
 ·show A6 ((mr f y fs).lookup g) (if g=f then some u else mA g)
  rw[br]
  by_cases q:g=f
  ·rw[if_pos q,if_pos q];exact G
  ·rw[if_neg q,if_neg q];exact r g
 ·by_cases q:g=f
  ·rw[q];exact(f6 f y fs).1
  ·refine(f6 f y fs).2 g (wi g λz=>hg ?_)
   show(if g=f then some u else mA g)=none
   rw[if_neg q];exact z
theorem Inv.made(I:Inv X aO σ H s):Inv X aO σ (upd (upd H s.heap.objs.size (.own (s.heap.objs.size+1))) (s.heap.objs.size+1) (.ins C s.heap.objs.size []))
  { s with heap:=(s.heap.push PySem.W.emptyDict).push (PySem.W.instObj C s.heap.objs.size) }:=by
 have e1:(s.heap.push PySem.W.emptyDict).get? s.heap.objs.size=some PySem.W.emptyDict:=Heap.get?_push_size s.heap rfl
 have e2:((s.heap.push PySem.W.emptyDict).push (PySem.W.instObj C s.heap.objs.size)).get? (s.heap.objs.size+1)=some (PySem.W.instObj C s.heap.objs.size):=by
  have:=Heap.get?_push_size (s.heap.push PySem.W.emptyDict) (o:=PySem.W.instObj C s.heap.objs.size) rfl
  rwa [Heap.size_push]at this
 have e3:(s.heap.push PySem.W.emptyDict).Ns s.heap.objs.size (λ_=>none):=⟨PySem.W.emptyDict,#[],_,e1,rfl,(λe B=>absurd B (by simp)),λ_=>rfl⟩
 have I1:=I.laid (a:=s.heap.objs.size) (o:=.own (s.heap.objs.size+1)) (h':=s.heap.push PySem.W.emptyDict) (t':=s.toks) (λb u q=>Heap.get?_push_of_some _ q) (zJ _) ⟨_,e1⟩
 refine I1.laid (a:=s.heap.objs.size+1) (o:=.ins C s.heap.objs.size []) (t':=s.toks) (λb u q=>Heap.get?_push_of_some _ q) (qK (Heap.size_push _ _)) ?_
 have ne:s.heap.objs.size≠s.heap.objs.size+1:=yK (vO _)
 refine⟨by rw[bj ne,bg],yH _,ne,e2,λ_=>none,(Heap.Ns1.of_empty e3).at λo q=>Heap.get?_push_of_some _ q,λ_=>True.intro,λy hy=>absurd rfl hy⟩
theorem uV{env:Env}{e:Expr}{f:Str}(hb:attributeBase e f env (eval e env)=eval e env)
  (h:wpAny (model prog w) A (eval e env) (λo B=>wpAny (model prog w) A (getAttr o f true) Q E B) E s):wpAny (model prog w) A (eval (.Attribute e f pos) env) Q E s :=
 Attribute_any_ h (by rw[arm_eval_Attribute,hb])
end
inductive I_(K:PySem.W.Frag)(f:Str)(Q:VK)(x:V)(H1:Hp):Prop where
 | mk (a C dx fs v:_) (ui:x=.ref a) (uj:H1 a=some (.ins C dx fs)) (zf:Fg K C) (zq:zw K C f) (Ai:fs.lookup f=some v) (AA:Q v H1):I_ K f Q x H1
def Ma(K:PySem.W.Frag)(ta:TE)(f:Str):TE:=fun σ H Q=>ta σ H λx H1=>I_ K f Q x H1
inductive Ja(K:PySem.W.Frag)(f:Str)(D:Ends)(σ:St)(y:V)(x:V)(H2:Hp):Prop where
 | mk (a C dx fs:_) (ui:x=.ref a) (uj:H2 a=some (.ins C dx fs)) (zf:Fg K C) (zq:zw K C f) (Ai:fs.length<1000) (AA:D.nx σ (upd H2 a (.ins C dx (mr f y fs)))):Ja K f D σ y x H2
def PR(K:PySem.W.Frag)(ta tv:TE)(f:Str):TS:=λD σ H=>tv σ H λy H1=>ta σ H1 λx H2=>Ja K f D σ y x H2
section
variable{o e:Expr}{f:Str}{tv:TE}
theorem wS(B:PE X e ta)(hb:attributeBase e f X.env (eval e X.env)=eval e X.env):PE X (.Attribute e f pos) (Ma X.K ta f):=by
 intro aO s σ H Q I h
 refine uV hb (zd (B aO s σ H _ I h) λu s1 ⟨x,H1,I1,G,a,C,dx,fs,v,ex,ea,c,n,l,q⟩=>?_)
 subst ex
 obtain rfl:u=Value.ref a:=G
 exact mS I1 ea c n l λO s2 I2 ru=>⟨v,H1,I2,ru,q⟩
theorem cR(ha:PE X o ta)(hv:PE X value tv)(hs:swapsWith value (some (.Attribute o f pos')) pos.line X.env=pure false):PS X (.Assign [.Attribute o f pos'] value pos) (PR X.K ta tv f):=by
 intro aO s σ H D I h
 refine plainObj_wpAny_Assign_Attribute (zd (hv aO s σ H _ I h) λu s1 ⟨y,H1,I1,B,q⟩=>zd (ha aO s1 σ H1 _ I1 q) λG s2 ⟨x,H2,I2,O,a,C,dx,fs,ex,ea,c,n,l,U⟩=>?_) hs
 subst ex
 obtain rfl:G=Value.ref a:=O
 exact nh I2 ea c n l B λs3 Y=>⟨σ,_,Y,U⟩
end
section
variable{c:Value}{b:Bool}
inductive BS(K:PySem.W.Frag)(H:Hp):V->Value->Prop where
 | y2:BS K H .y2 (.type "NoneType")
 | bl (x:Bool):BS K H (.bl x) (.type "bool")
 | int (i:Int):BS K H (.int i) (.type "int")
 | str (x:Str):BS K H (.str x) (.type "str")
 | HS (x:UInt64):BS K H (.HS x) (.type "float")
 | lst {a:Addr} {xs:List V} (e:H a=some (.lst xs)):BS K H (.ref a) (.type "list")
 | Ek {a:Addr} {o:Obj} {xs:List V} (e:H a=some (.Ek o (.lst xs))):BS K H (.ref a) (.type "list")
 | tup {a:Addr} {xs:List V} (e:H a=some (.tup xs)):BS K H (.ref a) (.type "tuple")
 | dK {a:Addr} {kvs:List (Key×V)} (e:H a=some (.dK kvs)):BS K H (.ref a) (.type "dict")
 | dT {a:Addr} {kvs:List (List Key×V)} (e:H a=some (.dT kvs)):BS K H (.ref a) (.type "dict")
 | ins {a C dx:Addr} {fs:List (Str×V)} (e:H a=some (.ins C dx fs)) (cl:Fg K C) (ha:PySem.W.findIn K (.ref C) "__class__"=some (some (.builtin "object.__class__")))
   (hn:PySem.W.specialIn K (.builtin "object.__class__") "__get__"=some (some (.builtin "getset_descriptor.__get__"))) (SJ:PySem.W.takesIn K (.builtin "object.__class__")=some true)
   (hm:PySem.W.mroIn K C (.type "object")=some true):BS K H (.ref a) (.ref C)
theorem oW{x:V}{t:Value}(I:Inv X aO σ H s)(B:RelV x u)(ty:BS X.K H x t)(e:PySem.W.kitOne X.K t c=some b)(h:∀tk,Q (.bool b) { s with toks:=tk }) :
  wpAny (model X.prog X.w) A (call (.builtin "isinstance") [u,c]) Q E s:=by
 cases ty with
 | y2=>cases (show u=Value.none from B);exact Z_ PySem.W.kitx_none I.Bt True.intro e (λz=>nomatch z) h
 | bl y=>cases (show u=Value.bool y from B);exact Z_ PySem.W.kitx_bool I.Bt True.intro e (λz=>nomatch z) h
 | int i=>obtain⟨t,q⟩:=(show ∃t,u=Value.int i t from B);cases q;exact Z_ PySem.W.kitx_int I.Bt True.intro e (λz=>nomatch z) h
 | str y=>obtain⟨t,q⟩:=(show ∃t,u=Value.str y t from B);cases q;exact Z_ PySem.W.kitx_str I.Bt True.intro e (λz=>nomatch z) h
 | HS y=>obtain⟨t,q⟩:=(show ∃t,u=Value.float y t from B);cases q;exact Z_ PySem.W.kitx_float I.Bt True.intro e (λz=>nomatch z) h
 | @lst a xs ea =>
  cases (show u=Value.ref a from B)
  obtain⟨_,_,n,_,h1⟩:=(show zk X.prog X.w H s.heap a (.lst xs)from I.yx a _ ea)
  exact Z_ PySem.W.kitx_list I.Bt ⟨_,h1,rfl⟩ e (λz=>nomatch z) h
 | @Ek a G xs ea =>
  cases (show u=Value.ref a from B)
  obtain⟨_,_,_,n,_,h1⟩:=(show zk X.prog X.w H s.heap a (.Ek G (.lst xs))from I.yx a _ ea)
  exact Z_ PySem.W.kitx_list I.Bt ⟨_,h1,rfl⟩ e (λz=>nomatch z) h
 | @tup a xs ea =>
  cases (show u=Value.ref a from B)
  obtain⟨_,_,_,p⟩:=(show zk X.prog X.w H s.heap a (.tup xs)from I.yx a _ ea)
  obtain⟨o,h1,h2,_⟩:=p
  exact Z_ PySem.W.kitx_tuple I.Bt ⟨o,h1,h2⟩ e (λz=>nomatch z) h
 | @dK a kvs ea =>
  cases (show u=Value.ref a from B)
  obtain⟨_,_,vs,_,p⟩:=(show zk X.prog X.w H s.heap a (.dK kvs)from I.yx a _ ea)
  obtain⟨o,es,ep,h1,h2,_⟩:=p
  exact Z_ PySem.W.kitx_dict I.Bt ⟨o,h1,h2.1⟩ e (λz=>nomatch z) h
 | @dT a kvs ea =>
  cases (show u=Value.ref a from B)
  obtain⟨_,_,xs,_,o,es,ep,h1,h2,_⟩:=(show zk X.prog X.w H s.heap a (.dT kvs)from I.yx a _ ea)
  exact Z_ PySem.W.kitx_dict I.Bt ⟨o,h1,h2.1⟩ e (λz=>nomatch z) h
 | @ins a C dx fs ea cl ha hn SJ hm =>
  cases (show u=Value.ref a from B)
  obtain⟨mA,O,_⟩:=gJ I.yx ea
  obtain⟨od,J,_⟩:=O.look
  exact Z_ (PySem.W.kitx_own (cl.get _) cl.hd ha hn SJ hm) I.Bt J e (λz=>nomatch z) h
end
structure Ae(k:Nat)(A:Around):Prop where
 hd:A.handled=none
 dp:A.depth+3*k+5<recursionLimit
 un:A.units+16*k+200<cLine
theorem Ae.mono{k:Nat}(r:Ae k A)(h:j<=k):Ae j A:=⟨r.hd,by have:=r.dp;lia,by have:=r.un;lia⟩
theorem Ae.deeper{k:Nat}(r:Ae (k+1) A)(env:Env):Ae k (A.deeper env) :=
 ⟨r.hd,by have:=r.dp;show A.depth+1+3*k+5<_;lia,by have:=r.un;show A.units+3+16*k+200<_;lia⟩
theorem mV:(A.under (.builtin "type.__call__" ⟨.ref C::us,kw⟩)).depth=A.depth+1:=by
 first|rfl|simp [Around.under,Code.weight,Code.isCreation,Code.isGuard,Code.isCaller,Code.frames,Code.isFrame,guardIds]
theorem mB:(A.under (.builtin "type.__call__" ⟨.ref C::us,kw⟩)).units=A.units+1:=by
 first|rfl|simp [Around.under,Code.cUnits,Code.frames,Code.isFrame]
theorem Ae.make{k:Nat}(r:Ae (k+1) A)(C:Addr)(us:List Value)(kw:List (Str×Value)):Ae k (A.under (.builtin "type.__call__" ⟨.ref C::us,kw⟩)) :=
 ⟨r.hd,by have:=r.dp;rw[mV];lia,by have:=r.un;rw[mB];lia⟩
theorem Ae.depth{k:Nat}(r:Ae k A):A.depth<recursionLimit:=by have:=r.dp;lia
theorem Ae.units{k:Nat}(r:Ae k A):A.units+64<cLine:=by have:=r.un;lia
def PU:TA:=λ_ H Q=>Q [] H
def Mb(ta:TE)(B:TA):TA:=fun σ H Q=>ta σ H λx H1=>B σ H1 λxs H2=>Q (x::xs) H2
section
variable{e:Expr}
theorem a_:PA X [] PU:=λ_ _ _ _ H Q I h=>Calls.spliced_nil ⟨[],H,I,.nil,h⟩
theorem Bk(ha:PE X e te)(hr:PA X es t)(hs:starEach (e::es) X.env=(false,eval e X.env)::starEach es X.env:=by rfl):PA X (e::es) (Mb te t):=by
 intro pos aO s σ H Q I h
 rw[hs]
 show wpAny _ _ (spliced ((false,eval e X.env)::backTo pos (starEach es X.env))) _ _ s
 refine Calls.spliced_cons (zd (ha aO s σ H _ I h) λu s1 ⟨x,H1,I1,B,G⟩=>?_)
 exact zd (hr pos aO s1 σ H1 _ I1 G) λus s2 ⟨xs,H2,I2,O,U⟩=>⟨x::xs,H2,I2,.cons B O,U⟩
def PV(t:TA):TE:=fun σ H Q=>t σ H λxs H1=>xs.length<=sizeLine/\∀p,H1 p=none->Q (.ref p) (upd H1 p (.tup xs))
def PX(t:TA):TE:=fun σ H Q=>t σ H λxs H1=>xs.length<=sizeLine/\∀p,H1 p=none->Q (.ref p) (upd H1 p (.lst xs))
theorem bF{x1}(h:PA X es t):PE X (.Tuple es x1 pos) (PV t):=by
 intro aO s σ H Q I hq
 refine wpAny_Tuple_spliced (zd (h pos aO s σ H _ I hq) λus s1 ⟨xs,H1,I1,r,z,q⟩=>⟨by rw[←r.length];exact z,?_⟩)
 have hf:H1 s1.heap.objs.size=none:=I1.yx.fresh (zJ _)
 refine⟨.ref s1.heap.objs.size,upd H1 s1.heap.objs.size (.tup xs),I1.laid (t':=s1.toks) (λb u e=>Heap.get?_push_of_some _ e) (zJ _) ?_,rfl,q _ hf⟩
 exact⟨z,us,r,⟨_,Heap.get?_push_size _ rfl,rfl,_,rfl⟩⟩
theorem bR(h:PA X es t):PE X (.List es pos) (PX t):=by
 intro aO s σ H Q I hq
 refine wpAny_List_spliced (zd (h pos aO s σ H _ I hq) λus s1 ⟨xs,H1,I1,r,z,q⟩=>⟨by rw[←r.length];exact z,?_⟩)
 have hf:H1 s1.heap.objs.size=none:=I1.yx.fresh (zJ _)
 refine⟨.ref s1.heap.objs.size,upd H1 s1.heap.objs.size (.lst xs),I1.laid (t':=s1.toks) (λb u e=>Heap.get?_push_of_some _ e) (zJ _) ?_,rfl,q _ hf⟩
 exact⟨z,us,0,r,Heap.get?_push_size _ rfl⟩
end
abbrev Sp:=List V->Hp->VK->XK->Prop
abbrev Jb:=List Env->Hp->Shared->XK->Value->Shared->Prop
structure En(P:Program)(w:World)(K:PySem.W.Frag)(mg:Str->Option Value)(base:Heap)(A:Around)(outer:List Env)(s:Shared)(H:Hp):Prop where
 frames:A.frames=some outer
 mod:Mod K mg base
 bs:∀b o,base.get? b=some o->s.heap.get? b=some o/\H b=none
 HV:base.objs.size<=s.heap.objs.size
 B8:s.heap.FunFrames base outer
 JW:∀b∈FI outer,H b=none
 yx:BG P w H s.heap
 bare:AllBare s.gens
def CE(outer:List Env)(P:Program)(w:World)(H:Hp)(s:Shared)(Q:VK)(u:Value)(s':Shared):Prop :=
 ∃v H',s'.os=s.os/\AllBare s'.gens/\Un (FI outer) [] H H' s.heap s'.heap/\BG P w H' s'.heap/\RelV v u/\Q v H'
def CR(CX:Jb)(outer:List Env)(P:Program)(w:World)(H:Hp)(s:Shared)(Q:VK)(E:XK)(r:Result)(s':Shared):Prop :=
 match r with
 | .ok (.ret u)=>CE outer P w H s Q u s'
 | .ok _=>False
 | .error e=>CX outer H s E e s'
structure mu(P:Program)(w:World)(K:PySem.W.Frag)(mg:Str->Option Value)(base:Heap)(CX:Jb)(k:Nat)(f:Addr)(fd:FuncData)(ps:List Str)(sp:Sp):Prop where
 len:∀vs H Q E,sp vs H Q E->vs.length=ps.length
 run:∀(A:Around)(outer:List Env)(s:Shared)(H:Hp)(args:Args)(us:List Value)(vs:List V)(Q:VK)(E:XK),Ae k A->En P w K mg base A outer s H->BindsTo s fd args (ps.zip us)->Vals vs us->sp vs H Q E ->
  codeAny (model P w) A (.call (.ref f) args) (CR CX outer P w H s Q E) s
variable{CX:Jb}
theorem mu.mono{k:Nat}{f:Addr}{sp:Sp}(F:mu P w K mg base CX j f fd ps sp)(h:j<=k) :
  mu P w K mg base CX k f fd ps sp:=⟨F.len,λA outer s H args us vs Q E hr=>F.run A outer s H args us vs Q E (hr.mono h)⟩
theorem mu.imp{k:Nat}{f:Addr}{sp B:Sp}(F:mu P w K mg base CX k f fd ps sp)
  (h:∀vs H Q E,B vs H Q E->sp vs H Q E):mu P w K mg base CX k f fd ps B :=
 ⟨λvs H Q E q=>F.len vs H Q E (h _ _ _ _ q),λA outer s H args us vs Q E hr G hb hv hs=>F.run A outer s H args us vs Q E hr G hb hv (h _ _ _ _ hs)⟩
theorem En.make{outer:List Env}(e:En P w K mg base A outer s H)(C:Addr)(us:List Value)(kw:List (Str×Value)) :
  En P w K mg base (A.under (.builtin "type.__call__" ⟨.ref C::us,kw⟩)) outer s H:=⟨by first|exact e.frames|(simpa [Around.under,Code.envs,Code.isFrame,pushEnvs]using e.frames),e.mod,e.bs,e.HV,e.B8,e.JW,e.yx,e.bare⟩
theorem Inv.Mc(I:Inv X aO σ H s):En X.prog X.w X.K X.mg X.base X.A X.stack s H :=
 ⟨I.ok.frames,I.ok.mod,I.bs,yE I.ok.HV I.sz,I.stack,I.EL,I.yx,I.bare⟩
theorem Inv.after{Q:VK}(I:Inv X aO σ H s)(h:CE X.stack X.prog X.w H s Q u s'):EP X aO σ Q u s':=by
 obtain⟨v,H',os,bare,un,yx,r,q⟩:=h
 obtain⟨hh,g,d,t,B⟩:=s'
 obtain rfl:B=s.os:=os
 exact⟨v,H',I.call (h':=hh) (g':=g) (d':=d) (t':=t) (ch:=[]) un yx bare (λb z=>absurd z (by simp)),r,q⟩
def EO(sp:Sp)(dvs:List V)(E:XK)(t:TA):TE:=fun σ H Q=>t σ H λvs H1=>sp (vs++dvs) H1 Q E
inductive FQ(C:Addr)(m:Str)(sp:Sp)(dvs:List V)(E:XK)(t:TA)(σ:St)(Q:VK)(x:V)(H1:Hp):Prop where
 | mk (a dx fs:_) (ui:x=.ref a) (uj:H1 a=some (.ins C dx fs)) (zf:fs.lookup m=none) (zq:t σ H1 λvs H2=>sp (x::(vs++dvs)) H2 Q E):FQ C m sp dvs E t σ Q x H1
def Jc(C:Addr)(m:Str)(sp:Sp)(dvs:List V)(E:XK)(ta:TE)(t:TA):TE:=fun σ H Q=>ta σ H λx H1=>FQ C m sp dvs E t σ Q x H1
def Jd(C:Addr)(sp:Sp)(dvs:List V)(E:XK)(t:TA):TE:=fun σ H Q=>t σ H λvs H1=>∀x dx,H1 x=none->H1 dx=none->dx≠x ->
 sp (.ref x::(vs++dvs)) (upd (upd H1 dx (.own x)) x (.ins C dx [])) (λv H2=>v=.y2/\Q (.ref x) H2) E
def Binds(K:PySem.W.Frag)(fd:FuncData)(ps:List Str)(ds:List Value):Prop :=
 ∀(s:Shared)(us:List Value),K.In s.heap->(us++ds).length=ps.length->BindsTo s fd ⟨us,[]⟩ (ps.zip (us++ds))
theorem Binds.all(h:∀us:List Value,us.length=ps.length->bindArgs fd ⟨us,[]⟩=pure (ps.zip us)):Binds K fd ps []:=λs us _ hl=>by
 rw[zQ]at hl ⊢
 exact .of_eq (h us hl)
def Passes(CX:Jb)(X:Cx)(E:XK):Prop:=∀(aO:List (Addr×Obj))(σ:St)(H:Hp)(s:Shared)(e:Value)(s':Shared),Inv X aO σ H s->CX X.stack H s E e s'->X.xe e s'
section
variable{k:Nat}{f:Addr}{sp:Sp}{dvs:List V}{ds:List Value}{E:XK}{m:Str}{e o:Expr}
theorem jz{Q:VK}{vs:List V}(F:mu X.prog X.w X.K X.mg X.base CX k f fd ps sp)(hr:Ae k X.A)(hb:Binds X.K fd ps ds)(hd:Vals dvs ds)(hx:Passes CX X E)
  (I:Inv X aO σ H s) (r:Vals vs us) (h:sp (vs++dvs) H Q E):wpAny (model X.prog X.w) X.A (call (.ref f) us) (EP X aO σ Q) X.xe s:=by
 have B:Vals (vs++dvs) (us++ds):=r.append hd
 have hl:(us++ds).length=ps.length:=by rw[←B.length];exact F.len _ _ _ _ h
 refine wpAny_call (codeAny_mono (F.run X.A X.stack s H ⟨us,[]⟩ (us++ds) (vs++dvs) Q E hr I.Mc (hb s us I.Bt hl) B h) λr s' hq=>?_)
 cases r with
 | error e=>exact hx aO σ H s e s' I hq
 | ok G =>
  cases G with
  | ret u=>exact I.after hq
  | next=>exact False.elim hq
  | brk=>exact False.elim hq
  | cont=>exact False.elim hq
theorem uH(F:mu X.prog X.w X.K X.mg X.base CX k f fd ps sp)(hr:Ae k X.A)(hg:Gl X x)(hm:X.mg x=some (.ref f))(hk:PySem.W.keepIn X.K (.ref f)=true)(hb:Binds X.K fd ps ds)(hd:Vals dvs ds)(hx:Passes CX X E)
  (ha:PA X (e::es) t) (Dy:(x==("__debug__":Str))=false:=by decide) (G:starEach (e::es) X.env=(false,eval e X.env)::starEach es X.env:=by rfl) (B:(backTo pos (starEach es X.env)).any (·.1)=false:=by rfl) :
  PE X (.Call (.Name x p) (e::es) [] pos) (EO sp dvs E t):=by
 intro aO s σ H Q I h
 refine wpAny_Call_Name_kw (fz I hg hm ?_ Dy)
 refine a07 (h₀:=X.base) I.ok.mod.IT hk (zd (ha pos aO s σ H _ I h) λus s1 ⟨vs,H1,I1,r,q⟩=>⟨I1.Bt,?_⟩) G B
 exact jz F hr hb hd hx I1 r q
theorem tZ{pl:Sem Bool}(U:PE X o ta)(c:Fg X.K C)(hm:Meth X.K C m f)(F:mu X.prog X.w X.K X.mg X.base CX k f fd ps sp)(hr:Ae k X.A)(hb:Binds X.K fd ps ds)(hd:Vals dvs ds)(hx:Passes CX X E)(ha:PA X (e::es) t)
  (B:starEach (e::es) X.env=(false,eval e X.env)::starEach es X.env:=by rfl) (G:(backTo pos (starEach es X.env)).any (·.1)=false:=by rfl)
  (ht:eval (.Call (.Attribute o m apos) (e::es) [] pos) X.env=(do
   let O ←eval o X.env
   standAt apos.atName
   let (f,first) ←holding [O] (getMethod O m pl)
   callWith pos f first (backTo pos (starEach (e::es) X.env)) (backToKw pos (keywordEach [] X.env))):=by rfl) :
  PE X (.Call (.Attribute o m apos) (e::es) [] pos) (Jc C m sp dvs E ta t):=by
 intro aO s σ H Q I h
 refine a08 (pl:=pl) (zd (U aO s σ H _ I h) λu s1 ⟨x,H1,I1,Y,a,dx,fs,ex,ea,l,q⟩=>?_) ht
 subst ex
 obtain rfl:u=Value.ref a:=Y
 refine ia I1 ea c hm l ?_
 refine a07 (first:=[.ref a]) (h₀:=X.base) I.ok.mod.IT hm.kp (zd (ha pos aO s1 σ H1 _ I1 q) λus s2 ⟨vs,H2,I2,r,q2⟩=>⟨I2.Bt,?_⟩) B G
 exact jz (us:=.ref a::us) (vs:=.ref a::vs) F hr hb hd hx I2 (.cons rfl r) q2
structure Mk(K:PySem.W.Frag)(C f:Addr):Prop where
 makes:PySem.W.makesIn K C=true
 init:PySem.W.findIn K (.ref C) "__init__"=some (some (.ref f))
 fn:PySem.W.isFn K (.ref f)=true
 kp:PySem.W.keepIn K (.ref C)=true
theorem tN{Q:VK}{vs:List V}(M:Mk X.K C f)(F:mu X.prog X.w X.K X.mg X.base CX k f fd ps sp)(hr:Ae (k+1) X.A)(hb:Binds X.K fd ps ds)(hd:Vals dvs ds)
  (hx:Passes CX X E) (I:Inv X aO σ H s) (r:Vals vs us)
  (h:∀x dx,H x=none->H dx=none->dx≠x->sp (.ref x::(vs++dvs)) (upd (upd H dx (.own x)) x (.ins C dx [])) (λv H2=>v=.y2/\Q (.ref x) H2) E) :
  wpAny (model X.prog X.w) X.A (call (.ref C) us) (EP X aO σ Q) X.xe s:=by
 have hq:=h (s.heap.objs.size+1) s.heap.objs.size (I.yx.fresh (qQ _)) (I.yx.fresh (zJ _)) (yK (vO _))
 have I2:=Inv.made (C:=C) I
 have B:Vals (V.ref (s.heap.objs.size+1)::(vs++dvs)) (Value.ref (s.heap.objs.size+1)::(us++ds)):=.cons rfl (r.append hd)
 have hl:(Value.ref (s.heap.objs.size+1)::us++ds).length=ps.length:=by
  have e:=B.length
  rw[F.len _ _ _ _ hq]at e
  exact e.symm
 refine wpAny_call (rc (f:=f) I.Bt M.makes M.init (beq_iff_eq.mp M.fn) (codeAny_mono (F.run _ X.stack _ _ ⟨Value.ref (s.heap.objs.size+1)::us,[]⟩ (Value.ref (s.heap.objs.size+1)::(us++ds)) _ _ E (hr.make C us [])
  (I2.Mc.make C us []) (hb _ (Value.ref (s.heap.objs.size+1)::us) I2.Bt hl) B hq) λr s' IS=>?_))
 cases r with
 | error e=>exact hx aO σ _ _ e s' I2 IS
 | ok G =>
  cases G with
  | ret u =>
   obtain⟨v,H',O,rv,ev,U⟩:=I2.after IS
   subst ev
   exact⟨rv,⟨V.ref (s.heap.objs.size+1),H',O,rfl,U⟩⟩
  | next=>exact False.elim IS
  | brk=>exact False.elim IS
  | cont=>exact False.elim IS
theorem uv(M:Mk X.K C f)(F:mu X.prog X.w X.K X.mg X.base CX k f fd ps sp)(hr:Ae (k+1) X.A)(hg:Gl X x)(hm:X.mg x=some (.ref C))(hb:Binds X.K fd ps ds)(hd:Vals dvs ds)(hx:Passes CX X E)
  (ha:PA X (e::es) t) (Dy:(x==("__debug__":Str))=false:=by decide) (G:starEach (e::es) X.env=(false,eval e X.env)::starEach es X.env:=by rfl) (B:(backTo pos (starEach es X.env)).any (·.1)=false:=by rfl) :
  PE X (.Call (.Name x p) (e::es) [] pos) (Jd C sp dvs E t):=by
 intro aO s σ H Q I h
 refine wpAny_Call_Name_kw (fz I hg hm ?_ Dy)
 refine a07 (h₀:=X.base) I.ok.mod.IT M.kp (zd (ha pos aO s σ H _ I h) λus s1 ⟨vs,H1,I1,r,q⟩=>⟨I1.Bt,?_⟩) G B
 exact tN M F hr hb hd hx I1 r q
end
section
variable{k:Nat}{f:Addr}{ks:List Str}{sp:Sp}{E:XK}{m:Str}{VB:Pos}{e o:Expr}{Zl:List Keyword}{tk:TA}{nm:Option Str}
variable{g:List Value->List Value->List Value}{gV:List V->List V->List V}
end
structure AU(N P:List Str)(sc:Scope):Prop where
 kind:sc.kind=.function
 co:sc.isCoroutine=false
 gen:sc.isGenerator=false
 nd:N.Nodup
 pre:N.take P.length=P
 par:∀x∈P,sc.names.lookup x=some .local\/sc.names.lookup x=some .cell
 J_:∀y∈sc.names,y.2≠.free
theorem iD:∀{binds:List (Str×Value)}{m:Str->Option Value},(∀v,(x,v)∉binds)->bindL kindOf binds m x=m x
 | [],_,_=>rfl
 | (n,v)::r,m,h=>by
  unfold bindL
  rw[iD λw hw=>h w (zL _ hw)]
  split
  ·have:x≠n:=by rintro rfl;exact h v zH
   simp [this]
  ·rfl
theorem iW:∀{binds:List (Str×Value)}{m:Str->Option Value},(∀v,(x,v)∉binds)->bindC kindOf binds m x=m x
 | [],_,_=>rfl
 | (n,v)::r,m,h=>by
  unfold bindC
  rw[iW λw hw=>h w (zL _ hw)]
  split
  ·rfl
  ·have:x≠n:=by rintro rfl;exact h v zH
   simp [this]
theorem iQ{v:Value}:∀{P:List Str}{vs:List Value}{i:Nat}{m:Str->Option Value},P.Nodup->P[i]?=some x->vs[i]?=some v->kindOf x=some .local ->
  bindL kindOf (P.zip vs) m x=some v
 | [],_,_,_,_,h,_,_=>by simp at h
 | _::_,[],_,_,_,_,h,_=>by simp at h
 | p::P,w::vs,0,m,nd,h1,h2,hk=>by
  simp at h1 h2;subst h1;subst h2
  show bindL kindOf ((p,w)::P.zip vs) m p=_
  unfold bindL
  rw[iD λv hv=>(qZ.mp nd).1 (jU hv).1,if_pos hk]
  simp
 | p::P,w::vs,i+1,m,nd,h1,h2,hk=>by
  show bindL kindOf ((p,w)::P.zip vs) m x=_
  unfold bindL
  exact iQ (i:=i) (qZ.mp nd).2 (by simpa using h1) (by simpa using h2) hk
theorem iH{v:Value}:∀{P:List Str}{vs:List Value}{i:Nat}{m:Str->Option Value},P.Nodup->P[i]?=some x->vs[i]?=some v->kindOf x≠some .local ->
  bindC kindOf (P.zip vs) m x=some v
 | [],_,_,_,_,h,_,_=>by simp at h
 | _::_,[],_,_,_,_,h,_=>by simp at h
 | p::P,w::vs,0,m,nd,h1,h2,hk=>by
  simp at h1 h2;subst h1;subst h2
  show bindC kindOf ((p,w)::P.zip vs) m p=_
  unfold bindC
  rw[iW λv hv=>(qZ.mp nd).1 (jU hv).1,if_neg hk]
  simp
 | p::P,w::vs,i+1,m,nd,h1,h2,hk=>by
  show bindC kindOf ((p,w)::P.zip vs) m x=_
  unfold bindC
  exact iH (i:=i) (qZ.mp nd).2 (by simpa using h1) (by simpa using h2) hk
def start(N:List Str)(vs:List V):St:=vs.map some++List.replicate (N.length-vs.length) none
def Eo(CX:Jb)(P:Program)(w:World)(K:PySem.W.Frag)(mg:Str->Option Value)(base:Heap)(N:List Str)(qual:Str)(scope:Scope)(f:Addr)(cd:Value)(A:Around)(outer:List Env)(s:Shared)(H:Hp)(E:XK):Cx where
 prog:=P
 w:=w
 K:=K
 mg:=mg
 base:=base
 A:=A.deeper (envOfC qual scope s.heap.objs.size f cd)
 N:=N
 s₀:=s
 H₀:=H
 env:=envOfC qual scope s.heap.objs.size f cd
 outer:=outer
 stack:=envOfC qual scope s.heap.objs.size f cd::outer
 ex:=[]
 calm:=true
 fn:=λ_=>true
 pn:=[]
 xe:=λe s'=>wpAny (model P w) (A.deeper (envOfC qual scope s.heap.objs.size f cd)) (leaving (envOfC qual scope s.heap.objs.size f cd) e) (λ_ B=>CX outer H s E e B) (λG B=>CX outer H s E G B) s'
theorem k_{sc:Scope}(h:sc.names.lookup x=some .cell):∃c,(cellsFrom n sc.names []).lookup x=some c:=by
 have q:=PySem.W.cellsFrom_some sc.names n [] (.inl h)
 exact xC.mp q
theorem pJ{f:Addr}{outer:List Env}{s1:Shared}{E:XK}{vs:List V}
  (S:AU N ps scope) (hd:A.handled=none) (e0:En P w K mg base A outer s H) (hl:vs.length=ps.length) (r:Vals vs us)
  (x:InCallC s s.heap.objs.size (bindL (envOfC qual scope s.heap.objs.size f cd).kindOf (ps.zip us) λ_=>none) (cellsFrom (s.heap.objs.size+1) scope.names []) (bindC (envOfC qual scope s.heap.objs.size f cd).kindOf (ps.zip us) λ_=>none) s1) :
  Inv (Eo CX P w K mg base N qual scope f cd A outer s H E) [] (start N vs) H s1:=by
 have O:ps.length<=N.length:=by have:=congrArg List.length S.pre;rw[yA]at this;lia
 obtain⟨h1,tk,rfl,hk⟩:=x.done
 have B:∀b:Addr,b∉(Eo CX P w K mg base N qual scope f cd A outer s H E).ex:=λb z=>absurd (show b∈([]:List Addr)from z) (by simp)
 refine⟨⟨e0.mod,S.kind,rfl,rfl,zJ _,λy z c h1 h2=>?_,λy hy=>?_,λy c _ h=>?_,λ_=>hd,Around.frames_deeper e0.frames,.inr ⟨rfl,rfl⟩,λb z=>absurd z (B b),e0.bs,e0.HV,λb _ _=>B b,λb z=>absurd z (B b),e0.B8,e0.JW⟩,
  rfl,e0.bare,Un.kept hk,⟨_,x.toInCall.ns,λi y v h1 h2 h3=>?_⟩,λy c h=>⟨_,x.cell y c h⟩,e0.yx.fresh (zJ _),λy c h=>?_,λp hp=>absurd (show p∈([]:List (Addr×Obj))from hp) (by simp),e0.yx.kept hk,?_⟩
 ·exact name_of_addr x.apart (a03 h1) (a03 h2)
 ·have hy:scope.names.lookup y=some .cell\/scope.names.lookup y=some .free:=hy
  rcases hy with hy|hy
  ·exact k_ hy
  ·exact absurd rfl (S.J_ _ (a03 hy))
 ·exact qP (x.above y c (a03 h))
 ·have hi:i<vs.length:=by
   unfold start at h2
   by_cases hi:i<vs.length
   ·exact hi
   ·rw[zX (by simpa using hi)]at h2
    rw[List.getElem?_replicate]at h2
    split at h2 <;>cases h2
  have ha:vs[i]?=some v:=by
   unfold start at h2
   rw[yP (by simpa using hi),zG]at h2
   cases e:vs[i]? with
   | none=>rw[e]at h2;cases h2
   | some a=>rw[e]at h2;cases h2;rfl
  obtain⟨u,hu,rv⟩:=r.get ha
  have hp:ps[i]?=some y:=by
   rw[←S.pre,kJ (by lia)];exact h1
  have G:ps.Nodup:=by rw[←S.pre];exact S.nd.sublist (List.take_sublist _ _)
  refine⟨u,rv,?_⟩
  rcases S.par y (zE hp)with k|k
  ·exact .inl ⟨k,iQ G hp hu k⟩
  ·obtain⟨c,e⟩:=k_ (n:=s.heap.objs.size+1) k
   refine .inr ⟨.inl k,c,e,?_⟩
   have q:=x.cell y c e
   rw[iH G hp hu (by show scope.names.lookup y≠_;rw[k];decide)]at q
   exact q
 ·exact e0.yx.fresh (qP (x.above y c (a03 h)))
 ·unfold start
  show _=N.length
  rw[zN,zB,j2]
  lia
theorem vq{k:Nat}{f:Addr}{B:Arguments}{dV kV:Value}{an:Option Addr}
  {FR:Array (Option Value)} {sp:Sp} (lk:K.lookup f=some ⟨oc,od,.func (PySem.W.fnOf name qual B body scope dV kV doc pm an Bj ct),FR⟩) (Y:PySem.W.codeIn K Bj qual=true) (S:AU N ps scope)
  (len:∀vs H Q E,sp vs H Q E->vs.length=ps.length)
  (G:∀(A:Around)(outer:List Env)(s:Shared)(H:Hp)(vs:List V)(Q:VK)(E:XK),Ae k (A.deeper (envOfC qual scope s.heap.objs.size f Bj))->sp vs H Q E ->
   ∃t,EM (Eo CX P w K mg base N qual scope f Bj A outer s H E) body t/\t { nx:=λ_ H'=>Q .y2 H',rt:=Q } (start N vs) H) :
  mu P w K mg base CX (k+1) f (PySem.W.fnOf name qual B body scope dV kV doc pm an Bj ct) ps sp:=by
 refine⟨len,λA outer s H args us vs Q E hr e0 hb r U=>?_⟩
 have hl:=len _ _ _ _ U
 have KX:K.In s.heap:=e0.mod.IT.keeps λb o e=>(e0.bs b o e).1
 have lim:s.heap.NoLimit:=e0.mod.nolimit.keeps λb o e=>(e0.bs b o e).1
 have O:∀y∈ps.zip us,scope.names.lookup y.1=some .local\/(scope.names.lookup y.1=some .cell/\((cellsFrom (s.heap.objs.size+1) scope.names []).lookup y.1).isSome=true):=λ⟨n,v⟩ hy=>by
  rcases S.par n (jU hy).1 with q|q
  ·exact .inl q
  ·exact .inr ⟨q,PySem.W.cellsFrom_some _ _ _ (.inl q)⟩
 refine codeAny_call_function hr.depth (KX _ _ lk) rfl S.co S.gen rfl (PySem.W.codeRec_of KX Y) (hb _ _ _ _ ?_)
 refine wpAny_newFunctionEnv_cells S.kind O λenv he s1 x=>?_
 subst he
 refine⟨lim.keeps x.toInCall.keep,codeAny_func ?_⟩
 obtain⟨t,ht,hq⟩:=G A outer s H vs Q E (hr.deeper _) U
 have I:Inv (Eo CX P w K mg base N qual scope f Bj A outer s H E) [] (start N vs) H s1:=pJ S hr.hd e0 hl r x
 refine wpAny_mono (ht [] s1 (start N vs) H _ I hq) (λfl s' hs=>?_) λe s' hs=>hs
 have fin:∀{σ':St}{H':Hp}{v:V}{u:Value},Inv (Eo CX P w K mg base N qual scope f Bj A outer s H E) [] σ' H' s'->RelV v u->Q v H'->CE outer P w H s Q u s' :=
  fun {σ' H' v u} J rv q=>⟨v,H',J.os,J.bare,J.base,J.yx,rv,q⟩
 cases fl with
 | ret u =>
  obtain⟨v,σ',H',J,rv,q⟩:=hs
  exact fin J rv q
 | next =>
  obtain⟨σ',H',J,q⟩:=hs
  exact fin (v:=V.y2) (u:=Value.none) J rfl q
 | brk =>
  obtain⟨_,_,_,q⟩:=hs
  exact False.elim q
 | cont =>
  obtain⟨_,_,_,q⟩:=hs
  exact False.elim q
section
variable{e:Expr}{id:String}{r:List V->Hp->VK->Prop}
def SK(r:List V->Hp->VK->Prop)(t:TA):TE:=fun σ H Q=>t σ H λvs H1=>r vs H1 Q
theorem z_(hc:Aq X (.builtin id) r)(hg:Gl X x)(hm:X.mg x=none)(hv:bootBuiltins x=some (.builtin id))(ha:PA X (e::es) t)(hn:x ≠ "__name__":=by decide)(Dy:(x==("__debug__":Str))=false:=by decide)
  (G:starEach (e::es) X.env=(false,eval e X.env)::starEach es X.env:=by rfl) (B:(backTo pos (starEach es X.env)).any (·.1)=false:=by rfl):PE X (.Call (.Name x p) (e::es) [] pos) (SK r t):=by
 walk_at "G"
 exact PyProof.Rows.callWith_builtin1 (zd (ha pos aO s σ H _ I h) λus s1 ⟨vs,H1,I1,O,U⟩=>hc aO s1 σ H1 vs us Q I1 O U) G B
theorem b_(hc:Aq X (.type T) r)(hg:Gl X x)(hm:X.mg x=none)(hv:bootBuiltins x=some (.type T))(ha:PA X (e::es) t)(hn:x ≠ "__name__":=by decide)(Dy:(x==("__debug__":Str))=false:=by decide)
  (G:starEach (e::es) X.env=(false,eval e X.env)::starEach es X.env:=by rfl) (B:(backTo pos (starEach es X.env)).any (·.1)=false:=by rfl):PE X (.Call (.Name x p) (e::es) [] pos) (SK r t):=by
 walk_at "G"
 exact PyProof.Rows.callWith_type1 (zd (ha pos aO s σ H _ I h) λus s1 ⟨vs,H1,I1,O,U⟩=>hc aO s1 σ H1 vs us Q I1 O U) G B
end
section
variable[DecidableEq κ]
def AF(kvs:List (κ×V))(k:κ):Option V:=(kvs.find? λkv=>decide (kv.1=k)).map (·.2)
def putK(kvs:List (κ×V))(k:κ)(v:V):List (κ×V) :=
 if (kvs.any λkv=>decide (kv.1=k))=true then kvs.map (λkv=>if kv.1=k then (kv.1,v)else kv)else kvs++[(k,v)]
theorem fk{p:κ×V}{r:List (κ×V)}{k:κ}(e:p.1=k):AF (p::r) k=some p.2:=by simp [AF,jV,e]
theorem dZ{p:κ×V}{r:List (κ×V)}{k:κ}(e:¬p.1=k):AF (p::r) k=AF r k:=by simp [AF,jV,e]
theorem ic(k:κ):∀kvs:List (κ×V),(kvs.any λkv=>decide (kv.1=k))=(AF kvs k).isSome
 | []=>rfl
 | p::r=>by
  rw[kK]
  by_cases e:p.1=k
  ·simp only [fk e,decide_eq_true e,Bool.true_or,Option.isSome_some]
  ·rw[dZ e,decide_eq_false e,Bool.false_or];exact ic k r
theorem gp(kvs:List (κ×V))(k:κ)(v:V):(putK kvs k v).length<=kvs.length+1:=by
 unfold putK
 split
 ·rw[zB];lia
 ·rw[zN,yD,jG];lia
theorem tI{kvs:List (κ×V)}{k:κ}(v:V)(h:AF kvs k=none):putK kvs k v=kvs++[(k,v)]:=by
 unfold putK
 rw[ic,h]
 exact if_neg (by decide)
theorem A6.Fh{o:Option V}{u:Option Value}(r:A6 o u):o.isSome=u.isSome:=by
 cases o with
 | none=>cases u with
  | none=>rfl
  | some _=>exact(show False from r).elim
 | some _=>cases u with
  | none=>exact(show False from r).elim
  | some _=>rfl
theorem A6.getD{o:Option V}{u:Option Value}{d:V}{d':Value}(r:A6 o u)(B:RelV d d'):RelV (o.getD d) (u.getD d'):=by
 cases o with
 | none=>cases u with
  | none=>exact B
  | some _=>exact(show False from r).elim
 | some _=>cases u with
  | none=>exact(show False from r).elim
  | some _=>exact r
theorem KV.val{kvs:List (κ×V)}{vs:List (κ×Value)}(r:KV kvs vs)(k:κ):A6 (AF kvs k) (valueAt vs k):=by
 unfold KV at r
 induction r with
 | nil=>exact True.intro
 | @cons p q ps B h t ih =>
  obtain⟨h1,h2⟩:=h
  by_cases e:p.1=k
  ·have G:q.1=k:=h1.symm.trans e
   have b:valueAt (q::B) k=some q.2:=by simp [valueAt,jV,G]
   rw[fk e,b];exact h2
  ·have G:¬q.1=k:=λz=>e (h1.trans z)
   have b:valueAt (q::B) k=valueAt B k:=by simp [valueAt,jV,G]
   rw[dZ e,b];exact ih
theorem KV.any{kvs:List (κ×V)}{vs:List (κ×Value)}(r:KV kvs vs)(k:κ):(kvs.any λkv=>decide (kv.1=k))=vs.any λkv=>decide (kv.1=k):=by
 unfold KV at r
 induction r with
 | nil=>rfl
 | cons h t ih=>rw[kK,kK,ih,h.1]
theorem KV.Ka{kvs:List (κ×V)}{vs:List (κ×Value)}(r:KV kvs vs)(k:κ)(B:RelV y u) :
  KV (kvs.map λkv=>if kv.1=k then (kv.1,y)else kv) (vs.map λkv=>if kv.1=k then (kv.1,u)else kv):=by
 unfold KV at r ⊢
 induction r with
 | nil=>exact .nil
 | @cons p q ps G h t ih =>
  rw[yM,yM]
  refine .cons ?_ ih
  obtain⟨h1,h2⟩:=h
  by_cases e:p.1=k
  ·rw[if_pos e,if_pos (h1.symm.trans e)];exact⟨h1,B⟩
  ·rw[if_neg e,if_neg (λz=>e (h1.trans z))];exact⟨h1,h2⟩
theorem KV.put{kvs:List (κ×V)}{vs:List (κ×Value)}(r:KV kvs vs)(k:κ)(B:RelV y u):KV (putK kvs k y) (stored vs k u):=by
 unfold putK stored
 rw[r.any k]
 by_cases e:(vs.any λkv=>decide (kv.1=k))=true
 ·rw[if_pos e,if_pos e];exact r.Ka k B
 ·rw[if_neg e,if_neg e];exact Paired.snoc r ⟨rfl,B⟩
theorem KV.length{kvs:List (κ×V)}{vs:List (κ×Value)}(r:KV kvs vs):kvs.length=vs.length:=Paired.length r
end
theorem oz{k:Key}(r:RelV (kV k) u):(za P w).is k u=true:=by
 cases k with
 | inl i=>obtain⟨t,e⟩:=(show ∃t,u=Value.int i t from r);subst e;exact kt P w i t
 | inr x=>obtain⟨t,e⟩:=(show ∃t,u=Value.str x t from r);subst e;exact lY P w x t
theorem iJ:∀{ks:List Key}{us:List Value},Vals (ks.map kV) us->ItemsAre (za P w) ks us
 | [],_,r=>by rw[jM]at r;cases r;exact .nil
 | k::ks,_,r=>by
  rw[yM]at r
  cases r with
  | cons h t=>exact .cons (oz h) (iJ t)
abbrev KT(H:Hp):List (List Key×V)->List (List Key×Addr×Value)->Prop:=Paired λp q=>p.1=q.1/\H q.2.1=some (.tup (p.1.map kV))/\RelV p.2 q.2.2
theorem KT.val{kvs:List (List Key×V)}{xs:List (List Key×Addr×Value)}(r:KT H kvs xs)(k:List Key):A6 (AF kvs k) ((atKey xs k).map (·.2)):=by
 induction r with
 | nil=>exact True.intro
 | @cons p q ps B h t ih =>
  obtain⟨h1,_,h2⟩:=h
  by_cases e:p.1=k
  ·have G:q.1=k:=h1.symm.trans e
   have b:atKey (q::B) k=some q.2:=by simp [atKey,jV,G]
   rw[fk e,b];exact h2
  ·have G:¬q.1=k:=λz=>e (h1.trans z)
   have b:atKey (q::B) k=atKey B k:=by simp [atKey,jV,G]
   rw[dZ e,b];exact ih
theorem KT.Ka{kvs:List (List Key×V)}{xs:List (List Key×Addr×Value)}(r:KT H kvs xs)(k:List Key)(B:RelV y u) :
  KT H (kvs.map λkv=>if kv.1=k then (kv.1,y)else kv) (xs.map (putAt k u)):=by
 induction r with
 | nil=>exact .nil
 | @cons p q ps G h t ih =>
  rw[yM,yM]
  refine .cons ?_ ih
  obtain⟨h1,h2,h3⟩:=h
  unfold putAt
  by_cases e:p.1=k
  ·rw[if_pos e,if_pos (h1.symm.trans e)];exact⟨h1,h2,B⟩
  ·rw[if_neg e,if_neg (λz=>e (h1.trans z))];exact⟨h1,h2,h3⟩
theorem KT.put{kvs:List (List Key×V)}{xs:List (List Key×Addr×Value)}(r:KT H kvs xs)(k:List Key)(hb:H b=some (.tup (k.map kV)))(B:RelV y u) :
  KT H (putK kvs k y) (storedH xs k b u):=by
 have e:(kvs.any λkv=>decide (kv.1=k))=(atKey xs k).isSome:=by
  rw[ic,(r.val k).Fh,Option.isSome_map]
 unfold putK storedH
 rw[e]
 by_cases q:(atKey xs k).isSome=true
 ·rw[if_pos q,if_pos q];exact r.Ka k B
 ·rw[if_neg q,if_neg q];exact Paired.snoc r ⟨rfl,hb,B⟩
theorem KT.keeps{kvs:List (List Key×V)}{xs:List (List Key×Addr×Value)}(r:KT H kvs xs)(ht:∀b ys,H b=some (.tup ys)->H' b=some (.tup ys)):KT H' kvs xs :=
 Paired.HU r λ_ _ z=>⟨z.1,ht _ _ z.2.1,z.2.2⟩
theorem vn{u:HO}(ok:BG P w H h)(e:Rd H a u):zk P w H h a u:=e.ok ok
theorem sN(ok:BG P w H h)(e:Rd H a (.dK kvs)):kvs.length<=sizeLine/\(a==sysModules)=false/\∃vs,KV kvs vs/\h.DictOf (za P w) a vs :=
 show zk P w H h a (.dK kvs)from vn ok e
theorem y_(ok:BG P w H h)(e:H a=some (.dK kvs)):kvs.length<=sizeLine/\(a==sysModules)=false/\∃vs,KV kvs vs/\h.DictOf (za P w) a vs:=sN ok (.inl e)
theorem mG{ks:List Key}(ok:BG P w H h)(e:H a=some (.tup (ks.map kV))):(tupleKind (za P w)).is h ks a:=by
 obtain⟨_,its,r,o,h1,h2,n,h3⟩:=(show zk P w H h a (.tup (ks.map kV))from ok a _ e)
 exact⟨o,its.toArray,n,h1,h2,h3,by simpa using iJ r⟩
theorem sQ{kvs:List (List Key×V)}(ok:BG P w H h)(e:Rd H a (.dT kvs)):kvs.length<=sizeLine/\(a==sysModules)=false /\
  ∃xs,KT H kvs xs/\h.DictOfH (tupleKind (za P w)) a xs:=by
 obtain⟨z,y,xs,r,o,es,ep,h1,h2,h3,h4,h5⟩:=(show zk P w H h a (.dT kvs)from vn ok e)
 refine⟨z,y,xs,r,o,es,ep,h1,h2,h3,h4,λx hx=>?_,h5⟩
 have all:∀{l:List (List Key×V)}{m:List (List Key×Addr×Value)},KT H l m->∀x∈m,(tupleKind (za P w)).is h x.1 x.2.1:=by
  intro l m q
  induction q with
  | nil=>intro x hx;exact nomatch hx
  | @cons p q ps B hq t ih =>
   intro x hx
   rcases zO.mp hx with e|hx
   ·subst e
    exact mG ok (by rw[←hq.1];exact hq.2.1)
   ·exact ih x hx
 exact all r x hx
theorem yy{kvs:List (List Key×V)}(ok:BG P w H h)(e:H a=some (.dT kvs)):kvs.length<=sizeLine/\(a==sysModules)=false /\
  ∃xs,KT H kvs xs/\h.DictOfH (tupleKind (za P w)) a xs:=sQ ok (.inl e)
def Co(H:Hp)(a:Addr)(y:V)(r:Option V):Prop :=
 (∃kvs k,Rd H a (.dK kvs)/\y=kV k/\r=AF kvs k)\/∃kvs k b,Rd H a (.dT kvs)/\y=.ref b/\H b=some (.tup (k.map kV))/\r=AF kvs k
def FT(H:Hp)(a:Addr)(y v:V)(H':Hp):Prop :=
 (∃kvs k,H a=some (.dK kvs)/\y=kV k/\kvs.length<sizeLine/\H'=upd H a (.dK (putK kvs k v))) \/
 ∃kvs k b,H a=some (.dT kvs)/\y=.ref b/\H b=some (.tup (k.map kV))/\kvs.length<sizeLine/\H'=upd H a (.dT (putK kvs k v))
theorem Co.k{k:Key}(e:H a=some (.dK kvs)):Co H a (kV k) (AF kvs k):=.inl ⟨kvs,k,.inl e,rfl,rfl⟩
theorem FT.k{k:Key}(e:H a=some (.dK kvs))(hl:kvs.length<sizeLine):FT H a (kV k) v (upd H a (.dK (putK kvs k v))):=.inl ⟨kvs,k,e,rfl,hl,rfl⟩
section
variable{r:Value}{o:Option V}
theorem Inv.big(I:Inv X aO σ H s):sysModules<s.heap.objs.size:=by
 have h:mainGlobals<s.heap.objs.size:=(I.mod.glob.keeps I.bk).lt
 exact xH (by decide) h
theorem qf(hu:A.units+1<cLine)(I:Inv X aO σ H s)(g:Co H a y (some v))(Y:RelV y u)(h:∀w' s',Inv X aO σ H s'->RelV v w'->Q w' s') :
  wpAny (model X.prog X.w) A (getItem (.ref a) u) Q E s:=by
 rcases g with ⟨kvs,k,e,O,l⟩|⟨kvs,k,b,e,O,eb,l⟩
 ·subst O
  obtain⟨z,hd,vs,B,dd⟩:=sN I.yx e
  obtain⟨w',hw,G⟩:=A6.some_of (v:=v) (o:=valueAt vs k) (by rw[l];exact B.val k)
  exact wpAny_getItem_of (oz Y) dd.mapOf hw (h w' _ (I.tok _) G)
 ·subst O
  cases (show u=Value.ref b from Y)
  obtain⟨z,hd,xs,B,dd⟩:=sQ I.yx e
  obtain⟨w',hw,G⟩:=A6.some_of (v:=v) (o:=(atKey xs k).map (·.2)) (by rw[l];exact B.val k)
  obtain⟨p,hp,U⟩:=y6.mp hw
  refine wpAny_getItem_heap (tupleKind_room_in1 hu) (mG I.yx eb) dd hp ?_
  rw[U]
  exact h w' _ (I.tok _) G
theorem oG{B:HO}(I:Inv X aO σ H s)(G:LS (H a))(hs:Heap.SameBut a s.heap h')(O:∃q,h'.get? a=some q)(new:zk X.prog X.w (upd H a B) h' a B) :
  Inv X aO σ (upd H a B) { s with heap:=h',toks:=t' } :=
 I.write (x:=a) (e:=a) G (.inl rfl) (λb q hb z=>(hs.2 b hb).trans z) O new
theorem wR{vs:List (Key×Value)}(z:kvs.length<=sizeLine)(hd:(a==sysModules)=false)(B:KV kvs vs)(dd:h'.DictOf (za P w) a vs) :
  zk P w H' h' a (.dK kvs):=⟨z,hd,vs,B,dd⟩
theorem oZ{Q:Unit->Shared->Prop}(hu:A.units+1<cLine)(I:Inv X aO σ H s)(g:FT H a y v H')(Y:RelV y u)(rv:RelV v r)(h:∀s',Inv X aO σ H' s'->Q () s') :
  wpAny (model X.prog X.w) A (setItem (.ref a) u r) Q E s:=by
 rcases g with ⟨kvs,k,e,O,l,U⟩|⟨kvs,k,b,e,O,eb,l,U⟩
 ·subst O U
  obtain⟨z,hd,vs,B,dd⟩:=y_ I.yx e
  have hz:vs.length<=sizeLine:=by rw[←B.length];exact z
  have hl:(putK kvs k v).length<=sizeLine:=by have:=gp kvs k v;lia
  refine wpAny_setItem_pairs (hsz:=hz) (oz Y) dd λh' G hs=>h _ ?_
  have he:∃q,h'.get? a=some q:=let ⟨q,_,_,hq,_⟩:=G;⟨q,hq⟩
  exact oG I (by rw[e];exact True.intro) hs he (wR hl hd (B.put k rv) G)
 ·subst O U
  cases (show u=Value.ref b from Y)
  obtain⟨z,hd,xs,B,dd⟩:=yy I.yx e
  have hz:xs.length<=sizeLine:=by rw[←Paired.length B];exact z
  have hl:(putK kvs k v).length<=sizeLine:=by have:=gp kvs k v;lia
  refine wpAny_setItem_heap (hsz:=hz) (tupleKind_room_in1 hu) (mG I.yx eb) dd λh' G hs=>h _ ?_
  obtain⟨q,es,ep,hq,h2,h3,h4,_,h5⟩:=G
  refine oG I (by rw[e];exact True.intro) hs ⟨q,hq⟩ ⟨hl,hd,_,(B.put k eb rv).keeps λc ys ec=>?_,q,es,ep,hq,h2,h3,h4,h5⟩
  rw[bj (bK ec e (λz=>nomatch z))]
  exact ec
end
section
variable{k:Key}
end
def Md(i:Expr):Prop:=∀B G,subscripted i false B G=operate [B,G] (getItem B G)
theorem uu{env:Env}{slice:Expr}{id:String}
  (hl:typeLookup (.type T) "__getitem__"=pure (some (.builtin id))) (hs:Md slice)
  (h:wpAny (model prog w) A (eval value env) (λo G=>wpAny (model prog w) A (eval slice env) (λi B=>B.TypeIs o T/\wpAny (model prog w) A (getItem o i) Q E B) E G) E s) :
  wpAny (model prog w) A (eval (.Subscript value slice pos) env) Q E s:=by
 refine Subscript_ (wpAny_mono h (λo G h₁=>wpAny_mono h₁ (λi B h₂=>?_) λ_ _ x=>x) λ_ _ x=>x)
 obtain⟨hT,h₂⟩:=h₂
 unfold subscriptTail
 refine wpAny_bind ?_
 rw[getitemInPython_of_ne hT.not_modules]
 refine wpAny_bind (wpAny_specialOf hT hl ?_)
 have fin:wpAny (model prog w) A (subscripted slice false o i) (λr O=>wpAny (model prog w) A (letTemporaryGo value o r>>=λ_=>pure r) Q E O) E B:=by
  rw[hs o i]
  exact wpAny_operating (wpAny_mono h₂ (λr O h₃=>wpAny_bind (wpAny_letTemporaryGo (wpAny_pure h₃))) λ_ _ x=>x)
 first
  | exact wpAny_pure (wpAny_bind fin)
  | exact wpAny_bind (wpAny_pure (wpAny_bind fin))
  | exact wpAny_bind fin
theorem lZ{o:Option V}(I:Inv X aO σ H s)(g:Co H a y o):s.TypeIs (.ref a) "dict":=by
 rcases g with ⟨kvs,k,e,_,_⟩|⟨kvs,k,b,e,_,_,_⟩
 ·obtain⟨_,_,vs,_,dd⟩:=sN I.yx e
  exact dd.typeIs
 ·obtain⟨_,_,xs,_,dd⟩:=sQ I.yx e
  exact dd.typeIs
inductive FU(Q:VK)(x:V)(y:V)(H2:Hp):Prop where
 | mk (a v:_) (ui:x=.ref a) (uj:Co H2 a y (some v)) (zf:Q v H2):FU Q x y H2
def Me(td ty:TE):TE:=fun σ H Q=>td σ H λx H1=>ty σ H1 λy H2=>FU Q x y H2
inductive FV(D:Ends)(σ:St)(v:V)(x:V)(y:V)(H3:Hp):Prop where
 | mk (a H4:_) (ui:x=.ref a) (uj:FT H3 a y v H4) (zf:D.nx σ H4):FV D σ v x y H3
def Mf(td ty tv:TE):TS:=λD σ H=>tv σ H λv H1=>td σ H1 λx H2=>ty σ H2 λy H3=>FV D σ v x y H3
section
variable{o i e:Expr}{td ty tv:TE}
theorem jv(hu:X.A.units+1<cLine)(ho:PE X o td)(hi:PE X i ty)(hs:Md i):PE X (.Subscript o i pos) (Me td ty):=by
 intro aO s σ H Q I h
 refine uu PySem.F.slot_dict_getitem.lookup hs (zd (ho aO s σ H _ I h) λu s1 ⟨x,H1,I1,G,O⟩=>zd (hi aO s1 σ H1 _ I1 O) λiv s2 ⟨y,H2,I2,U,a,v,ex,g,Y⟩=>?_)
 subst ex
 obtain rfl:u=Value.ref a:=G
 exact⟨lZ I2 g,qf hu I2 g U λw' s3 I3 B=>⟨v,H2,I3,B,Y⟩⟩
theorem uK(hu:X.A.units+1<cLine)(ho:PE X o td)(hi:PE X i ty)(hv:PE X value tv)(hs:swapsWith value (some (.Subscript o i pos')) pos.line X.env=pure false) :
  PS X (.Assign [.Subscript o i pos'] value pos) (Mf td ty tv):=by
 intro aO s σ H D I h
 refine wpAny_Assign_Subscript (zd (hv aO s σ H _ I h) λr s1 ⟨v,H1,I1,rv,B⟩=>zd (ho aO s1 σ H1 _ I1 B) λu s2 ⟨x,H2,I2,G,O⟩=>zd (hi aO s2 σ H2 _ I2 O) λiv s3 ⟨y,H3,U,Y,a,H4,ex,g,q3⟩=>?_) hs
 subst ex
 obtain rfl:u=Value.ref a:=G
 exact oZ hu U g Y rv λs4 I4=>⟨σ,H4,I4,q3⟩
end
theorem rR(h:Heap)(hb:sysModules<h.objs.size):zk P w H (h.push { cls:=.type "dict",data:=.dict #[] }) h.objs.size (.dK []) :=
 ⟨yH _,beq_eq_false_iff_ne.mpr (Ne.symm (yK hb)),[],.nil,Heap.DictOf.new h⟩
def Kb:TE:=λ_ H Q=>∀p,H p=none->Q (.ref p) (upd H p (.dK []))
theorem tR:PE X (.Dict [] [] pos) Kb:=λaO s σ H Q I h =>
 wpAny_Dict_empty ⟨.ref s.heap.objs.size,_,I.laid (a:=s.heap.objs.size) (o:=.dK []) (t':=s.toks) (λ_ _ q=>Heap.get?_push_of_some _ q) (zJ _) (rR s.heap I.big),rfl,h _ (I.yx.fresh (zJ _))⟩
structure M1(X:Cx)(o:Expr)(m:Str)(apos:Pos)(e:Expr)(AE:Pos):Prop where
 base:attributeBase o m X.env (eval o X.env)=eval o X.env
 SM:((backTo AE (starEach [e] X.env)).all (λx=>!x.1)&&(backToKw AE (keywordEach [] X.env)).all (λx=>x.1.isSome)
  && decide (([e]:List Expr).length+([]:List Keyword).length+(if ([]:List Keyword).isEmpty then 0 else 1)<30))=true
 line:(apos.endLine==AE.line)=true
 trees:backTo AE (starEach [e] X.env)=[(false,eval e X.env)]
section
variable{d:V}{r:Value}{o:Option V}
end
section
variable{o e f:Expr}{td ty tx:TE}
end
end L2
variable{xs ys zs:List L2.V}{H H' H1 H2 SN:L2.Hp}{o:L2.HO}{v:L2.V}{X:L2.Cx}{σ σ0:L2.St}{tc:L2.TT}{te ta:L2.TE}{tb:L2.TS}{wi:L2.TI}{kvs:List (L2.Key×L2.V)}
namespace HT
open PySem PyProof.Rows
def lexLt:List Int->List Int->Bool
 | [],[]=>false
 | [],_::_=>true
 | _::_,[]=>false
 | x::xs,y::ys=>if x=y then lexLt xs ys else decide (x<y)
theorem Cp(x y:Int)(xs ys:List Int):lexLt (x::xs) (y::ys)=if x=y then lexLt xs ys else decide (x<y):=rfl
theorem Bu:lexLt [] []=false:=rfl
theorem Bb(y:Int)(ys:List Int):lexLt [] (y::ys)=true:=rfl
theorem Bc(x:Int)(xs:List Int):lexLt (x::xs) []=false:=rfl
theorem DK(A:Around)(s:Shared)(a:Int)(t:Tok)(c:Int)(u:Tok):∃e,SeqAt.EqAt A s (.int a t) (.int c u) e/\(e=true↔a=c) :=
 ⟨(a==c),SeqAt.EqAt.int_int a t c u,by simp⟩
theorem qt(A:Around)(s:Shared)(a:Int)(t:Tok)(c:Int)(u:Tok)(prog:Program)(w:World)(E:Value->Shared->Prop)(Q:Value->Shared->Prop)(h:Q (.bool (decide (a<c))) s) :
  wpAny (model prog w) A (richCompare .Lt (.int a t) (.int c u)) Q E s :=
 (PyProof.Rows.lt_int h:wpAny (model prog w) A (compareOp .Lt (.int a t) (.int c u)) Q E s)
section
open PySem.SeqAt
open PySem.AutoSeq1 (wpAny_loadPart')
open PySem.MeetsSeq PySem.MeetsSeq2 PySem.MeetsSeq3
theorem ir(l b:Addr)(items B:Array Value)(n n2:Nat)(dd PY:Option Addr)(sl Kc:Array (Option Value))(ns ms:List Int)(hi:IntsAre items.toList ns)(hj:IntsAre B.toList ms) :
  Meets (Builtin.«tuple.__lt__» ⟨[.ref l,.ref b],[]⟩)
   (λ_ R s=>s.heap.get? l=some { cls:=.type "tuple",dict:=dd,data:=.seq items n,slots:=sl }/\s.heap.get? b=some { cls:=.type "tuple",dict:=PY,data:=.seq B n2,slots:=Kc } /\
    R (.ok (.ret (.bool (lexLt ns ms)))) s) :=
 .of_wp λprog w A R s h=>by
  obtain⟨hp,g,d,tk,os⟩:=s;obtain⟨hl,hb,h⟩:=h
  have f2:=AutoSeq1.sub_tuple_tuple
  have z1:items.size=ns.length:=by rw[←hi.length];simp
  have z2:B.size=ms.length:=by rw[←hj.length];simp
  wp_walk using wpAny_loadPart' hl,wpAny_loadPart' hb,wpAny_forIn_list _ (λrest b s'=>b.1=none/\s'=⟨hp,g,d,tk,os⟩/\∃(vs ws:List Value)(O U:List Int),rest=vs.zip ws /\
   IntsAre vs O/\IntsAre ws U/\O.length+B.size=U.length+items.size/\R (.ok (.ret (.bool (lexLt O U)))) ⟨hp,g,d,tk,os⟩) _
  case turn =>
   rintro⟨y,x⟩ rest b s' ⟨Cb,rfl,vs,ws,O,U,hz,Ke,Y,G,hR⟩
   cases Ke with
   | nil=>rw[List.zip_nil_left]at hz;cases hz
   | cons a t Kf =>
    cases Y with
    | nil=>rw[List.zip_nil_right]at hz;cases hz
    | cons c u Kg =>
     rw[j8]at hz
     injection hz with PZ FW
     injection PZ with hy hx
     subst hy hx
     rw[Cp]at hR
     simp only [yD]at G
     obtain⟨e,he,FX⟩:=DK A.in1 ⟨hp,g,d,tk,os⟩ a t c u
     refine wpAny_bind (he prog w _ _ ?_)
     cases e with
     | true =>
      rw[if_pos (FX.mp rfl)]at hR
      wp_walk
      exact⟨rfl,rfl,_,_,_,_,FW,Kf,Kg,by lia,hR⟩
     | false =>
      rw[if_neg (λq=>absurd (FX.mpr q) zS)]at hR
      have P0:=qt A.in1 ⟨hp,g,d,tk,os⟩ a t c u prog w
      wp_walk using P0
      exact⟨_,rfl,by simpa using hR⟩
  case fin =>
   rintro⟨b1,b2⟩ s' ⟨Cb,rfl,vs,ws,O,U,hz,Ke,Y,G,hR⟩
   simp only at Cb
   subst Cb
   have hv:lexLt O U=decide (items.size<B.size):=by
    cases Ke with
    | nil =>
     cases Y with
     | nil =>
      simp only [jG]at G
      rw[Bu]
      exact(decide_eq_false (by lia)).symm
     | cons c u hw =>
      simp only [jG,yD]at G
      rw[Bb]
      exact(decide_eq_true (by lia)).symm
    | cons a t hv =>
     cases Y with
     | nil =>
      simp only [jG,yD]at G
      rw[Bc]
      exact(decide_eq_false (by lia)).symm
     | cons c u hw =>
      rw[j8]at hz
      cases hz
   rw[hv]at hR
   wp_walk
   exact⟨_,rfl,by simpa [Builtin.Tuple.tupleCompareSizes]using hR⟩
  case h =>
   exact⟨rfl,rfl,items.toList,B.toList,ns,ms,rfl,hi,hj,by lia,h⟩
end
theorem Ej{l:Addr}{B:Array Value}{ms:List Int}(hl:IsTup s.heap l items)(hb:IsTup s.heap b B)(hi:IntsAre items.toList ns)(hj:IntsAre B.toList ms)
  (hu:A.units<cLine) (h:Q (.bool (lexLt ns ms)) s):wpAny (model prog w) A (compareOp .Lt (.ref l) (.ref b)) Q E s:=by
 obtain⟨⟨cls,dd,data,sl⟩,ho,hc,n,hd⟩:=id hl
 obtain⟨⟨P1,Y,data2,Kc⟩,G,O,n2,U⟩:=id hb
 simp only at hc hd O U
 subst hc hd O U
 exact richCompare_meets_room (op:=.Lt) ⟨_,ho,rfl⟩ ⟨_,G,rfl⟩ PySem.F.slot_tuple_lt PySem.F.entry_tuple_lt (PySem.F.args_tuple_lt_2 _ _) (ir l b items B n n2 dd Y sl Kc ns ms hi hj)
  ⟨ho,G,show Value.bool (lexLt ns ms)≠Value.notImplemented/\Q (.bool (lexLt ns ms)) s from⟨(λx=>nomatch x),h⟩⟩ hu
def An(n d:Nat):Option Int->Nat
 | none=>d
 | some v=>if v<0 then (v+(n:Int)).toNat else min v.toNat n
theorem Be(n d:Nat):An n d none=d:=rfl
theorem AV(n d k:Nat):An n d (some (k:Int))=min k n:=by
 show(if (k:Int)<0 then ((k:Int)+(n:Int)).toNat else min (k:Int).toNat n)=min k n
 rw[if_neg (by lia),zV]
theorem xT(n d:Nat)(hd:d<=n)(o:Option Int):An n d o<=n:=by
 cases o with
 | none=>exact hd
 | some v =>
  show(if v<0 then (v+(n:Int)).toNat else min v.toNat n)<=n
  by_cases hv:v<0
  ·rw[if_pos hv];lia
  ·rw[if_neg hv];exact Nat.min_le_right _ _
theorem nI(v:Int)(n d:Nat):(if v<0 then max (v+(n:Int)) 0 else min v (n:Int))=((An n d (some v):Nat):Int):=by
 show(if v<0 then max (v+(n:Int)) 0 else min v (n:Int))=(((if v<0 then (v+(n:Int)).toNat else min v.toNat n):Nat):Int)
 by_cases hv:v<0
 ·simp only [if_pos hv];lia
 ·simp only [if_neg hv];lia
theorem mU(lo hi:Option Int)(n:Nat):Builtin.Slice.sliceAdjust lo hi 1 (n:Int)=(((An n 0 lo:Nat):Int),((An n n hi:Nat):Int)):=by
 have h1:¬((1:Int)<0):=by lia
 unfold Builtin.Slice.sliceAdjust
 simp only [h1,if_false]
 refine Prod.ext ?_ ?_
 ·cases lo with
  | none=>rfl
  | some v=>exact nI v n 0
 ·cases hi with
  | none=>rfl
  | some v=>exact nI v n n
theorem m_(i j:Nat):Builtin.Slice.slicePlaces (i:Int) (j:Int) 1=j-i:=by
 unfold Builtin.Slice.slicePlaces
 have h1:(1:Int)>0:=by lia
 simp only [h1,if_true,Int.ediv_one]
 split <;>lia
theorem io{v:Value}{o:Option Int}{Q:Option Int->Shared->Prop}(p:IsPart v o)(h:Q o s):wpAny (model prog w) A (Builtin.Slice.slicePartIndex v) Q E s:=by
 cases p with
 | none=>exact slicePart_none h
 | int i t=>exact slicePart_int h
theorem fW{G O:Value}{lo hi:Option Int}{Q:Int×Int×Nat->Shared->Prop}(hs:s.heap.IsSliceOf sl G O .none)(pl:IsPart G lo)(pu:IsPart O hi)
  (h:Q (((An n 0 lo:Nat):Int),1,An n n hi-An n 0 lo) s):wpAny (model prog w) A (Builtin.Slice.sliceApplied (.ref sl) (pure (n:Int))) Q E s:=by
 obtain⟨os,B,U,AN⟩:=id hs
 unfold Builtin.Slice.sliceApplied Builtin.Slice.sliceFields
 refine wpAny_bind (wpAny_bind (wpAny_field B AN (x:=G) rfl (wpAny_bind (wpAny_field B AN (x:=O) rfl (wpAny_bind (wpAny_field B AN (x:=.none) rfl (wpAny_pure ?_)))))))
 refine wpAny_bind (slicePart_none ?_)
 show wpAny _ _ (if ((1:Int)==0)=true then _ else _) _ _ s
 rw[if_neg (by decide)]
 refine wpAny_bind (io pl (wpAny_bind (io pu (wpAny_bind (wpAny_pure ?_)))))
 show wpAny _ _ (match Builtin.Slice.sliceAdjust lo hi 1 (n:Int) with|(lo,hi)=>pure (lo,(1:Int),Builtin.Slice.slicePlaces lo hi 1)) _ _ s
 rw[mU lo hi n]
 show wpAny _ _ (pure (((An n 0 lo:Nat):Int),(1:Int),Builtin.Slice.slicePlaces ((An n 0 lo:Nat):Int) ((An n n hi:Nat):Int) 1)) _ _ s
 rw[m_]
 exact wpAny_pure h
theorem r9(xs:Array Value)(i k:Nat):((List.range k).filterMap λ(m:Nat)=>xs[((i:Int)+(m:Int)*1).toNat]?).toArray=((xs.toList.drop i).take k).toArray:=by
 have e:(λ(m:Nat)=>xs[((i:Int)+(m:Int)*1).toNat]?)=λm=>xs[i+m]?:=by
  funext m
  have:((i:Int)+(m:Int)*1).toNat=i+m:=by lia
  rw[this]
 rw[e]
 have:=pick_run xs i k
 rw[List.filterMap_map]at this
 have e2:((λx=>xs[x]?)∘λx=>i+x)=λm=>xs[i+m]?:=rfl
 rw[e2]at this
 rw[this]
theorem BK{t:Addr}{Y vu:Value}{lo hi:Option Int}(ht:IsTup s.heap t items)(hs:s.heap.IsSliceOf sl Y vu .none)(pl:IsPart Y lo)(pu:IsPart vu hi)
  (hw:¬(An items.size 0 lo=0/\An items.size items.size hi=items.size))
  (h:Q (.ref s.heap.objs.size) { s with heap:=s.heap.push { cls:=.type "tuple",data:=.seq ((items.toList.drop (An items.size 0 lo)).take (An items.size items.size hi-An items.size 0 lo)).toArray } })
  (hsz:items.size<=sizeLine):wpAny (model prog w) A (getItem (.ref t) (.ref sl)) Q E s:=by
 have B:sizeOk (.seq ((items.toList.drop (An items.size 0 lo)).take (An items.size items.size hi-An items.size 0 lo)).toArray):=by
  show((items.toList.drop (An items.size 0 lo)).take (An items.size items.size hi-An items.size 0 lo)).toArray.size<=sizeLine
  rw[zP,yA,jN,yU]
  lia
 have hj:An items.size items.size hi<=items.size:=xT _ _ (zJ _) hi
 obtain⟨os,G,O,AN⟩:=id hs
 have Mg:s.TypeIs (.ref sl) "slice":=⟨os,G,O⟩
 unfold getItem
 try with_reducible refine wpAny_holding ?_
 first|refine wpAny_bind (wpAny_pure ?_)|skip
 refine wpAny_bind (wpAny_sequenceKey ht.typeIs (by decide) ?_)
 refine wpAny_bind (wpAny_callSpecial?_slot (name:=Str.ofString "__getitem__") ht.typeIs PyProof.Rows.slot_tuple_getitem
  (wpAny_call_entry PyProof.Rows.slot_tuple_getitem ht.typeIs entry_tuple_getitem ?_ (args_tuple_getitem _ _)))
 show wpAny _ _ (Builtin.Tuple.tupleItemsOf (.ref t)>>=_) _ _ s
 refine wpAny_bind (tupleItemsOf_ ht ?_)
 refine wpAny_bind (wpAny_typeOf Mg ?_)
 rw[if_pos (by decide)]
 refine wpAny_bind (fW hs pl pu ?_)
 have U:¬((((An items.size 0 lo:Nat):Int)==0&&(1:Int)==1&&(An items.size items.size hi-An items.size 0 lo)==items.size)=true):=by
  intro q
  rw[yL,yL]at q
  have q1:((An items.size 0 lo:Nat):Int)=0:=eq_of_beq q.1.1
  have q2:An items.size items.size hi-An items.size 0 lo=items.size:=eq_of_beq q.2
  exact hw ⟨by lia,by lia⟩
 show wpAny _ _ (if (((An items.size 0 lo:Nat):Int)==0&&(1:Int)==1&&(An items.size items.size hi-An items.size 0 lo)==items.size)=true then _ else _) _ _ s
 rw[if_neg U,r9]
 first
  | exact wpAny_bind (m:=Builtin.Tuple.tupleExact _) (wpAny_newObj_type (wpAny_pure ⟨_,rfl,wpAny_pure h⟩) B)
  | exact wpAny_bind (m:=Builtin.Tuple.tupleExact _) (wpAny_newObj_type (wpAny_bind (wpAny_pure (wpAny_pure ⟨_,rfl,wpAny_pure h⟩))) B)
  | exact wpAny_bind (wpAny_bind (m:=Builtin.Tuple.tupleExact _) (wpAny_newObj_type (wpAny_pure (wpAny_pure ⟨_,rfl,wpAny_pure h⟩)) B))
  | exact wpAny_bind (wpAny_bind (m:=Builtin.Tuple.tupleExact _) (wpAny_newObj_type (wpAny_pure ⟨_,rfl,wpAny_pure h⟩) B))
end HT
namespace L2
open PySem PySem.Spec PyProof.Rows
abbrev TO:=St->Hp->(Option Int->Hp->Prop)->Prop
def PO(X:Cx)(e:Option Expr)(t:TO):Prop :=
 ∀(aO:List (Addr×Obj))(s:Shared)(σ:St)(H:Hp)(Q:Option Int->Hp->Prop),Inv X aO σ H s->t σ H Q ->
  wpAny (model X.prog X.w) X.A (evalPart e X.env) (λu s'=>∃o H',Inv X aO σ H' s'/\IsPart u o/\Q o H') X.xe s
def H0:TO:=λ_ H Q=>Q none H
inductive FY(Q:Option Int->Hp->Prop)(x:V)(H1:Hp):Prop where
 | mk (i:_) (ui:x=.int i) (uj:Q (some i) H1):FY Q x H1
def Mh(t:TE):TO:=fun σ H Q=>t σ H λx H1=>FY Q x H1
theorem di:∀{us:List Value},Vals (ns.map V.int) us->IntsAre us ns:=by
 induction ns with
 | nil=>intro us r;rw[jM]at r;cases r;exact .nil
 | cons n ns ih =>
  intro us r
  rw[yM]at r
  cases r with
  | cons B G =>
   obtain⟨t,e⟩:=B
   subst e
   exact .cons n t (ih G)
section
variable{e:Expr}{lo hi:Option Expr}{tl th:TO}
theorem du:PO X none H0:=by
 intro aO s σ H Q I h
 rw[evalPart_none]
 exact wpAny_pure ⟨none,H,I,.none,h⟩
theorem cM(h:PE X e te):PO X (some e) (Mh te):=by
 intro aO s σ H Q I hw
 rw[evalPart_some]
 refine zd (h aO s σ H _ I hw) λu s1 ⟨x,H1,I1,B,G⟩=>?_
 obtain⟨i,rfl,q⟩:=G
 obtain⟨t,rfl⟩:=B
 exact⟨some i,H1,I1,.int i t,q⟩
def Oq(X:Cx)(r:V->Option Int->Option Int->Hp->VK->Prop):Prop :=
 ∀(aO:List (Addr×Obj))(s:Shared)(σ:St)(H:Hp)(x:V)(v B G:Value)(lo hi:Option Int)(sl:Addr)(Q:VK),Inv X aO σ H s->RelV x v->s.heap.IsSliceOf sl B G .none->IsPart B lo->IsPart G hi->r x lo hi H Q ->
  ∃T id,typeLookup (.type T) "__getitem__"=pure (some (.builtin id))/\s.TypeIs v T/\wpAny (model X.prog X.w) X.A (getItem v (.ref sl)) (EP X aO σ Q) X.xe s
def VC(r:V->Option Int->Option Int->Hp->VK->Prop)(te:TE)(tl th:TO):TE:=fun σ H Q=>te σ H λx H1=>tl σ H1 λl H2=>th σ H2 λu H3=>r x l u H3 Q
theorem c9{r:V->Option Int->Option Int->Hp->VK->Prop}(hr:Oq X r)(U:PE X e te)(hl:PO X lo tl)(hu:PO X hi th):PE X (.Subscript e (.Slice lo hi none p2) pos) (VC r te tl th):=by
 intro aO s σ H Q I h
 refine Subscript_ (zd (U aO s σ H _ I h) λv s1 ⟨x,H1,I1,Y,q1⟩=>?_)
 refine wpAny_Slice (zd (hl aO s1 σ H1 _ I1 q1) λG s2 ⟨l,H2,I2,pl,q2⟩=>zd (hu aO s2 σ H2 _ I2 q2) λO B ⟨u,H3,I3,pu,q3⟩=>?_)
 rw[evalPart_none]
 refine wpAny_pure ?_
 have I4:Inv X aO σ H3 { B with heap:=B.heap.push { cls:=.type "slice",data:=.fields #[G,O,.none] } }:=I3.kept (t':=B.toks) λb ob q=>Heap.get?_push_of_some _ q
 obtain⟨T,id,hT,ht,hg⟩:=hr aO { B with heap:=B.heap.push { cls:=.type "slice",data:=.fields #[G,O,.none] } } σ H3 x v G O l u B.heap.objs.size Q I4 Y (Heap.IsSliceOf.new ..) pl pu q3
 show wpAny (model X.prog X.w) X.A (subscriptTail e (.Slice lo hi none p2) v (.ref B.heap.objs.size)) (EP X aO σ Q) X.xe { B with heap:=B.heap.push { cls:=.type "slice",data:=.fields #[G,O,.none] } }
 exact tail_any (ops:=[.ref B.heap.objs.size,v]) ht hT hg (by with_unfolding_all rfl)
def AL(xs:List V)(lo hi:Option Int):List V:=(xs.drop (HT.An xs.length 0 lo)).take (HT.An xs.length xs.length hi-HT.An xs.length 0 lo)
theorem gk(xs:List V)(lo hi:Option Int):(AL xs lo hi).length<=xs.length:=by
 unfold AL
 rw[yA,jN]
 lia
inductive Mi(K:PySem.W.Frag)(x:V)(lo:Option Int)(hi:Option Int)(H:Hp)(Q:VK):Prop where
 | mk (a xs:_) (ui:x=.ref a) (uj:ze K H a xs) (zf:¬(HT.An xs.length 0 lo=0/\HT.An xs.length xs.length hi=xs.length)) (zq:∀p,H p=none->Q (.ref p) (upd H p (.tup (AL xs lo hi)))):Mi K x lo hi H Q
theorem xl:Oq X (Mi X.K):=by
 intro aO s σ H x v O U lo hi sl Q I G hs pl pu h
 obtain⟨a,xs,rfl,hx,hw,q⟩:=h
 cases G
 obtain⟨its,r,ht,hz⟩:=I.tuple hx
 have B:its.toArray.size=xs.length:=by rw[zP];exact r.length.symm
 refine⟨"tuple",_,PyProof.Rows.slot_tuple_getitem.lookup,ht.typeIs,?_⟩
 refine HT.BK ht hs pl pu (by rw[B];exact hw) ?_ (by rw[B];exact hz)
 rw[B]
 refine⟨.ref s.heap.objs.size,_,I.laid (t':=s.toks) (o:=.tup (AL xs lo hi)) (λb Y q=>Heap.get?_push_of_some _ q) (zJ _) ?_,rfl,q _ (I.yx.fresh (zJ _))⟩
 exact⟨yE (gk xs lo hi) hz,_,(r.drop (HT.An xs.length 0 lo)).take (HT.An xs.length xs.length hi-HT.An xs.length 0 lo),IsTup.new _ _⟩
end
def H_(n:Nat)(i:Int):Option Nat:=if 0<=i then (if i<n then some i.toNat else none)else if -(n:Int)<=i then some (i+n).toNat else none
def Fi{α:Type}(xs:List α)(i:Int):Option α:=(H_ xs.length i).bind λj=>xs[j]?
theorem nZ{i:Int}(h:H_ n i=some j):seqIndex? i n=some j/\j<n/\-(n:Int)<=i/\i<n:=by
 unfold H_ at h
 by_cases h0:0<=i
 ·rw[if_pos h0]at h
  by_cases h1:i<n
  ·rw[if_pos h1]at h
   have e:i.toNat=j:=Option.some.inj h
   exact⟨by rw[seqIndex_of h0 h1,e],by lia,by lia,h1⟩
  ·rw[if_neg h1]at h;cases h
 ·rw[if_neg h0]at h
  by_cases h1:-(n:Int)<=i
  ·rw[if_pos h1]at h
   have e:(i+n).toNat=j:=Option.some.inj h
   exact⟨by rw[seqIndex_neg (by lia) h1,e],by lia,h1,by lia⟩
  ·rw[if_neg h1]at h;cases h
theorem ji{xs:List α}{i:Int}{v:α}(h:Fi xs i=some v):∃j,seqIndex? i xs.length=some j/\xs[j]?=some v/\j<xs.length/\-(xs.length:Int)<=i/\i<xs.length:=by
 unfold Fi at h
 cases e:H_ xs.length i with
 | none=>rw[e]at h;cases h
 | some j =>
  rw[e]at h
  obtain⟨h1,h2,h3,h4⟩:=nZ e
  exact⟨j,h1,h,h2,h3,h4⟩
theorem d5{xs:List α}{v:α}(h:xs[j]?=some v):Fi xs (j:Int)=some v:=by
 have hj:j<xs.length:=(zC.mp h).1
 have e:H_ xs.length (j:Int)=some j:=by
  unfold H_
  rw[if_pos (by lia),if_pos (by lia)];simp
 unfold Fi;rw[e];exact h
def Ia(b:Expr):Prop:=∀o i,subscripted b false o i=operate [o,i] (getItem o i)
def Mj(X:Cx)(r:R2):Prop :=
 ∀(value slice:Expr)(aO:List (Addr×Obj))(s:Shared)(σ:St)(H:Hp)(x y:V)(v u:Value)(Q:VK),Inv X aO σ H s->RelV x v->RelV y u->r x y H Q ->
  subscripted slice false v u=operate [v,u] (getItem v u)->wpAny (model X.prog X.w) X.A (subscriptTail value slice v u) (EP X aO σ Q) X.xe s
def Kh(X:Cx)(id:String)(r:V->List V->Hp->VK->Prop):Prop :=
 ∀(aO:List (Addr×Obj))(s:Shared)(σ:St)(H:Hp)(x:V)(xs:List V)(v:Value)(us:List Value)(Q:VK),Inv X aO σ H s->RelV x v->Vals xs us->r x xs H Q ->
  wpAny (model X.prog X.w) X.A (call (.builtin id) (v::us)) (EP X aO σ Q) X.xe s
section
variable{a b:Expr}{tb:TE}
theorem IK{r:R2}(hr:Mj X r)(ha:PE X a ta)(hb:PE X b tb)(hs:Ia b):PE X (.Subscript a b pos) (Om r ta tb):=by
 intro aO s σ H Q I h
 exact Subscript_ (J7 ha hb I h λv u s2 x y H2 I2 B G q=>hr a b aO s2 σ H2 x y v u Q I2 B G q (hs _ _))
inductive Ib(K:PySem.W.Frag)(x:V)(y:V)(H:Hp)(Q:VK):Prop where
 | mk (p xs i v:_) (ui:x=.ref p) (uj:y=.int i) (zf:eH K H p xs) (zq:Fi xs i=some v) (Ai:Q v H):Ib K x y H Q
inductive Ic(K:PySem.W.Frag)(x:V)(y:V)(H:Hp)(Q:VK):Prop where
 | mk (p xs i v:_) (ui:x=.ref p) (uj:y=.int i) (zf:ze K H p xs) (zq:Fi xs i=some v) (Ai:Q v H):Ic K x y H Q
theorem uC:Mj X (Ib X.K):=by
 intro value slice aO s σ H x y v u Q I G O h hs
 obtain⟨p,xs,i,z,rfl,rfl,hq,U,q⟩:=h
 cases G
 obtain⟨t,rfl⟩:=O
 obtain⟨its,r,pl,hz⟩:=I.list hq
 obtain⟨j,h1,h2,h3,h4,h5⟩:=ji U
 obtain⟨w,ew,B⟩:=r.get h2
 have hl:=r.length
 have hn:=fU
 have fin:EP X aO σ Q w s:=⟨z,H,I,B,q⟩
 by_cases h0:0<=i
 ·have hj:i.toNat=j:=by
   rw[seqIndex_of h0 h5]at h1
   exact Option.some.inj h1
  exact item_listR pl.isList h0 (by lia) (by rw[hj];simpa using ew) fin hs
 ·have hj:(i+(its.toArray.size:Int)).toNat=j:=by
   rw[seqIndex_neg (by lia) h4]at h1
   rw[zP,←hl]
   exact Option.some.inj h1
  exact subscriptTail_builtinR (x:=w) pl.isList.typeIs slot_list_getitem.lookup
   (wpAny_getItem_list_neg (Q:=λr s'=>r=w/\EP X aO σ Q r s') pl.isList (by lia) (by rw[zP] <;>lia) (by lia) (by rw[hj];simpa using ew) ⟨rfl,fin⟩) hs
theorem ya:Mj X (Ic X.K):=by
 intro value slice aO s σ H x y v u Q I G O h hs
 obtain⟨p,xs,i,z,rfl,rfl,hq,U,q⟩:=h
 cases G
 obtain⟨t,rfl⟩:=O
 obtain⟨its,r,pl,hz⟩:=I.tuple hq
 obtain⟨j,h1,h2,h3,h4,h5⟩:=ji U
 obtain⟨w,ew,B⟩:=r.get h2
 have hl:=r.length
 have hn:=fU
 have fin:EP X aO σ Q w s:=⟨z,H,I,B,q⟩
 exact subscriptTail_builtinR (x:=w) pl.typeIs slot_tuple_getitem.lookup
  (getItem_tuple (j:=j) (Q:=λr s'=>r=w/\EP X aO σ Q r s') pl (by lia) (by lia) (by rw[zP,←hl];exact h1) (by simpa using ew) ⟨rfl,fin⟩) hs
theorem mI(its:List Value)(n j:Nat)(u:Value):Obj.mapSeq (·.setIfInBounds j u) { cls:=.type "list",data:=.seq its.toArray n }={ cls:=.type "list",data:=.seq (its.set j u).toArray n }:=by
 simp [Obj.mapSeq]
theorem Inv.lst(I:Inv X aO σ H s)(h:H p=some (.lst xs)) :
  ∃(its:List Value)(n:Nat),Vals xs its/\s.heap.get? p=some { cls:=.type "list",data:=.seq its.toArray n }/\xs.length<=sizeLine:=by
 obtain⟨z,its,n,r,e⟩:=I.yx p _ h
 exact⟨its,n,r,e,z⟩
theorem Inv.Ki{its':List Value}{B:Nat}{f:Obj->Obj}(I:Inv X aO σ H s)(h:H p=some (.lst xs))
  (ho:s.heap.get? p=some { cls:=.type "list",data:=.seq its.toArray n }) (hf:f { cls:=.type "list",data:=.seq its.toArray n }={ cls:=.type "list",data:=.seq its'.toArray B }) (r:Vals ys its') (hz:ys.length<=sizeLine) (t:Nat) :
  Inv X aO σ (upd H p (.lst ys)) { s with heap:=s.heap.update p f,toks:=t }:=by
 have e:(s.heap.update p f).get? p=some { cls:=.type "list",data:=.seq its'.toArray B }:=by
  rw[Heap.get?_update_self f ho (by rw[hf] <;>rfl),hf]
 refine I.write (x:=p) (e:=p) (by rw[h];trivial) (.inl rfl) (λb u hb q=>(Heap.get?_update_other _ _ (Ne.symm hb)).trans q) ⟨_,e⟩ ?_
 exact⟨hz,its',B,r,e⟩
inductive Je(o:V)(i:V)(v:V)(H:Hp)(Q:Hp->Prop):Prop where
 | mk (p xs k j:_) (ui:o=.ref p) (uj:i=.int k) (zf:H p=some (.lst xs)) (zq:H_ xs.length k=some j) (Ai:Q (upd H p (.lst (xs.set j v)))):Je o i v H Q
theorem sP:L1 X Je:=by
 intro aO s σ H o i v G O u Q I ro ri rv h
 obtain⟨p,xs,k,j,rfl,rfl,hp,hj,q⟩:=h
 cases ro
 obtain⟨t,rfl⟩:=ri
 obtain⟨its,n,r,ho,hz⟩:=I.lst hp
 obtain⟨h1,h2,h3,h4⟩:=nZ hj
 have hl:=r.length
 have hn:=fU
 have B:Inv X aO σ (upd H p (.lst (xs.set j v))) { s with heap:=s.heap.update p (Obj.mapSeq (·.setIfInBounds j u)) } :=
  I.Ki hp ho (mI its n j u) (r.set rv j) (by rw[yG];exact hz) s.toks
 by_cases h0:0<=k
 ·have hk:k.toNat=j:=by
   rw[seqIndex_of h0 h4]at h1
   exact Option.some.inj h1
  exact PySem.W.ki_setAt ho h0 (by lia) (by rw[zP,←hl];exact h4) (by rw[hk];exact⟨_,B,q⟩)
 ·have hk:(k+(its.toArray.size:Int)).toNat=j:=by
   rw[seqIndex_neg (by lia) h3]at h1
   rw[zP,←hl]
   exact Option.some.inj h1
  exact PySem.W.ki_setBack ho (by lia) (by rw[zP,←hl];exact h3) (by lia) (by rw[hk];exact⟨_,B,q⟩)
theorem i5(lo hi:Option Int)(n:Nat):(sliceBounds lo hi none n).1=((HT.An n 0 lo:Nat):Int)/\(sliceBounds lo hi none n).2.1=((HT.An n n hi:Nat):Int)/\(sliceBounds lo hi none n).2.2=1:=by
 refine⟨?_,?_,rfl⟩
 ·cases lo with
  | none=>simp [sliceBounds,HT.An]
  | some i =>
   simp only [sliceBounds,HT.An,Option.getD_none,show(1:Int)>0 by decide,if_true]
   by_cases h:i<0
   ·simp only [h,if_true] <;>lia
   ·simp only [h,if_false] <;>lia
 ·cases hi with
  | none=>simp [sliceBounds,HT.An]
  | some i =>
   simp only [sliceBounds,HT.An,Option.getD_none,show(1:Int)>0 by decide,if_true]
   by_cases h:i<0
   ·simp only [h,if_true] <;>lia
   ·simp only [h,if_false] <;>lia
theorem iy(its:List Value)(lo hi:Option Int):slicePick its.toArray lo hi none=((its.drop (HT.An its.length 0 lo)).take (HT.An its.length its.length hi-HT.An its.length 0 lo)).toArray:=by
 obtain⟨h1,h2,h3⟩:=i5 lo hi its.toArray.size
 unfold slicePick
 rw[h1,h2,h3]
 simp only [sliceRange_one,pick_run,zP] <;>rfl
inductive Ml(K:PySem.W.Frag)(x:V)(lo:Option Int)(hi:Option Int)(H:Hp)(Q:VK):Prop where
 | mk (a xs:_) (ui:x=.ref a) (uj:eH K H a xs) (zf:∀p,H p=none->Q (.ref p) (upd H p (.lst (AL xs lo hi)))):Ml K x lo hi H Q
theorem eF:Oq X (Ml X.K):=by
 intro aO s σ H x v O U lo hi sl Q I G hs pl pu h
 obtain⟨a,xs,rfl,hx,q⟩:=h
 cases G
 obtain⟨its,r,ht,hz⟩:=I.list hx
 have B:=r.length
 refine⟨"list",_,slot_list_getitem.lookup,ht.isList.typeIs,?_⟩
 refine wpAny_getItem_list_slice ht.isList hs pl pu .none (by simp) ?_ (by rw[zP] <;>lia)
 rw[iy,←B]
 refine⟨.ref s.heap.objs.size,_,I.laid (t':=s.toks) (o:=.lst (AL xs lo hi)) (λb Y q=>Heap.get?_push_of_some _ q) (zJ _) ?_,rfl,q _ (I.yx.fresh (zJ _))⟩
 exact⟨yE (gk xs lo hi) hz,_,0,(r.drop (HT.An xs.length 0 lo)).take (HT.An xs.length xs.length hi-HT.An xs.length 0 lo),Heap.get?_push_size _ rfl⟩
theorem jr:Aq X (.builtin "len") (λxs H Q=>∃p ys,xs=[.ref p]/\(eH X.K H p ys\/ze X.K H p ys)/\Q (.int ys.length) H):=by
 intro aO s σ H xs us Q I r h
 obtain⟨p,ys,rfl,hq,q⟩:=h
 obtain⟨u,rfl,G⟩:=dy r
 cases G
 have hn:=fU
 rcases hq with hq|hq
 ·obtain⟨its,r',pl,hz⟩:=I.list hq
  have B:=r'.length
  exact Calls.call_len_list pl.isList (by simp only [zP] <;>lia) ⟨.int ys.length,H,I.tok _,⟨s.toks+1,by rw[zP,B]⟩,q⟩
 ·obtain⟨its,r',pl,hz⟩:=I.tuple hq
  have B:=r'.length
  exact len_tuple pl (by simp only [zP] <;>lia) ⟨.int ys.length,H,I.tok _,⟨s.toks+1,by rw[zP,B]⟩,q⟩
theorem jg:Aq X (.builtin "len") (λxs H Q=>∃z,xs=[.str z]/\z.length<=sizeLine/\Q (.int z.length) H):=by
 intro aO s σ H xs us Q I r h
 obtain⟨z,rfl,hz,q⟩:=h
 obtain⟨u,rfl,t,rfl⟩:=dy r
 have hn:=fU
 exact len_str (by lia) ⟨.int z.length,H,I.tok _,⟨_,rfl⟩,q⟩
theorem jh:Aq X (.type "list") (λxs H Q=>∃p ys,xs=[.ref p]/\(eH X.K H p ys\/ze X.K H p ys)/\∀l,H l=none->Q (.ref l) (upd H l (.lst ys))):=by
 intro aO s σ H xs us Q I r h
 obtain⟨p,ys,rfl,hq,q⟩:=h
 obtain⟨u,rfl,G⟩:=dy r
 cases G
 have fin:∀(its:List Value),Vals ys its->ys.length<=sizeLine->∀(h':Heap)(c':Nat),(∀b o',s.heap.get? b=some o'->h'.get? b=some o') ->
   h'.get? s.heap.objs.size=some { cls:=.type "list",dict:=none,data:=.seq its.toArray c',slots:=#[] }->EP X aO σ Q (.ref s.heap.objs.size) { s with heap:=h' }:=λits r' hz h' c' kp e =>
  ⟨.ref s.heap.objs.size,_,I.laid (t':=s.toks) kp (zJ _) (show zk X.prog X.w _ h' _ (.lst ys) from⟨hz,its,c',r',e⟩),rfl,q _ (I.yx.fresh (zJ _))⟩
 rcases hq with hq|hq
 ·obtain⟨its,r',pl,hz⟩:=I.list hq
  have B:=r'.length
  obtain⟨o,ho,hc,n,hd⟩:=pl.isList
  exact call_list_seq p (.inl rfl) ho hc hd (λh' c' kp e=>fin its r' hz h' c' kp e) (by simp only [zP] <;>lia)
 ·obtain⟨its,r',pl,hz⟩:=I.tuple hq
  have B:=r'.length
  obtain⟨o,ho,hc,n,hd⟩:=pl
  exact call_list_seq p (.inr rfl) ho hc hd (λh' c' kp e=>fin its r' hz h' c' kp e) (by simp only [zP] <;>lia)
theorem dz:Aq X (.type "tuple") (λxs H Q=>∃p ys,xs=[.ref p]/\((eH X.K H p ys/\∀l,H l=none->Q (.ref l) (upd H l (.tup ys)))\/(ze X.K H p ys/\Q (.ref p) H))):=by
 intro aO s σ H xs us Q I r h
 obtain⟨p,ys,rfl,h⟩:=h
 obtain⟨u,rfl,G⟩:=dy r
 cases G
 rcases h with ⟨hq,q⟩|⟨hq,q⟩
 ·obtain⟨its,r',pl,hz⟩:=I.list hq
  have B:=r'.length
  refine call_tuple_list pl.isList (λh' kp=>?_) (by simp only [zP] <;>lia)
  have I1:Inv X aO σ H { s with heap:=h' }:=I.kept (t':=s.toks) kp
  have I2:Inv X aO σ (upd H h'.objs.size (.tup ys)) { s with heap:=h'.push { cls:=.type "tuple",data:=.seq its.toArray } } :=
   I1.laid (t':=s.toks) (λb o e=>Heap.get?_push_of_some _ e) (zJ _) (show zk X.prog X.w _ _ _ (.tup ys) from⟨hz,its,r',IsTup.new _ _⟩)
  exact⟨.ref h'.objs.size,_,I2,rfl,q _ (I1.yx.fresh (zJ _))⟩
 ·obtain⟨its,r',pl,hz⟩:=I.tuple hq
  exact call_tuple_same pl ⟨.ref p,H,I,rfl,q⟩
def P2(K:PySem.W.Frag)(T:String)(x:V)(H:Hp):Prop:=match x with
 | .str _=>T="str"
 | .int _=>T="int"
 | .ref p=>(T="list"/\∃xs,eH K H p xs)\/(T="tuple"/\∃o,K.lookup p=some o/\o.cls=.type "tuple"/\o.dict=none) \/
   (T="dict"/\((∃kvs,H p=some (.dK kvs))\/∃kvs,H p=some (.dT kvs)))\/(T="set"/\∃S n,H p=some (.set S n))
 | _=>False
theorem wD{x:V}{v:Value}(I:Inv X aO σ H s)(r:RelV x v)(ty:P2 X.K T x H) :
  s.TypeIs v T/\∀a,v=.ref a->∃B,s.heap.get? a=some B/\B.dict=none:=by
 cases x with
 | str z =>
  obtain⟨t,rfl⟩:=r
  cases (show T="str" from ty)
  exact⟨typeIs_str s z t,λ_ e=>nomatch e⟩
 | int i =>
  obtain⟨t,rfl⟩:=r
  cases (show T="int" from ty)
  exact⟨typeIs_int s i t,λ_ e=>nomatch e⟩
 | ref p =>
  cases r
  rcases ty with ⟨rfl,xs,hq⟩|⟨rfl,o,hk,hc,hd⟩|⟨rfl,hk⟩|⟨rfl,S,n,hk⟩
  ·obtain⟨its,_,pl,_⟩:=I.list hq
   refine⟨pl.isList.typeIs,λa e=>?_⟩
   cases e
   obtain⟨o,n,e,c,hd,_⟩:=pl
   exact⟨o,e,hd⟩
  ·refine⟨⟨o,I.Bt p o hk,hc⟩,λa e=>?_⟩
   cases e
   exact⟨o,I.Bt _ o hk,hd⟩
  ·have z:∃o,s.heap.get? p=some o/\o.ExactDict:=by
    rcases hk with ⟨kvs,hk⟩|⟨kvs,hk⟩
    ·obtain⟨_,_,_,_,o,_,_,e,ex,_⟩:=I.yx p _ hk
     exact⟨o,e,ex⟩
    ·obtain⟨_,_,_,_,o,_,_,e,ex,_⟩:=I.yx p _ hk
     exact⟨o,e,ex⟩
   obtain⟨o,e,ex⟩:=z
   refine⟨⟨o,e,ex.1⟩,λa e2=>?_⟩
   cases e2
   exact⟨o,e,ex.2.1⟩
  ·obtain⟨o,_,_,_,e,ex,_⟩:=I.yx p _ hk
   refine⟨⟨o,e,ex.1⟩,λa e2=>?_⟩
   cases e2
   exact⟨o,e,ex.2.1⟩
 | _=>exact False.elim ty
def SO(K:PySem.W.Frag)(T:String)(r:V->List V->Hp->VK->Prop)(to:TE)(t:TA):TE:=fun σ H Q=>to σ H λx H1=>P2 K T x H1/\t σ H1 λxs H2=>r x xs H2 Q
variable{o e:Expr}{to:TE}{t:TA}{id:String}{r:V->List V->Hp->VK->Prop}
theorem bZ(pa:PlainAttrs T)(slot:Slot T name id)(Y:typeOf (.builtin id)=pure (.type "method_descriptor"))(hm:Kh X id r)(ho:PE X o to)(ha:PA X (e::es) t)
  (G:attributeBase o name X.env (eval o X.env)=eval o X.env:=by rfl)
  (U:((backTo AE (starEach (e::es) X.env)).all (λx=>!x.1)&&(backToKw AE (keywordEach [] X.env)).all (λx=>x.1.isSome)
   && decide ((e::es).length+([]:List Keyword).length+(if ([]:List Keyword).isEmpty then 0 else 1)<30))=true:=by rfl)
  (O:(apos.endLine==AE.line)=true:=by rfl) (hs:starEach (e::es) X.env=(false,eval e X.env)::starEach es X.env:=by rfl) (B:(backTo AE (starEach es X.env)).any (·.1)=false:=by rfl) :
  PE X (.Call (.Attribute o name apos) (e::es) [] AE) (SO X.K T r to t):=by
 intro aO s σ H Q I h
 refine wpAny_Call_method_late G U O rfl (zd (ho aO s σ H _ I h) λv s1 ⟨x,H1,I1,r1,ty,q1⟩=>?_)
 obtain⟨h1,h2⟩:=wD I1 r1 ty
 refine⟨T,id,pa,slot,Y,h1,h2,?_⟩
 have hA:=ha AE aO s1 σ H1 _ I1 q1
 rw[hs]at hA ⊢
 refine Calls.callWith_builtin (by show(false||(backTo AE (starEach es X.env)).any (·.1))=false;rw[B] <;>rfl) (Calls.evalArgs_plain ?_)
 exact zd hA λus s2 ⟨vs,H2,I2,r2,q2⟩=>hm aO s2 σ H2 x vs v us Q I2 r1 r2 q2
/- xs.append(e),list.index on a Mm tuple .. are Kh facts of 06m -/
end
def Ot(X:Cx)(id:String)(r:V->List V->Hp->VK->Prop):Prop :=
 ∀(aO:List (Addr×Obj))(s:Shared)(σ:St)(H:Hp)(x:V)(xs:List V)(v:Value)(us:List Value)(Q:VK),Inv X aO σ H s->RelV x v->Vals xs us->r x xs H Q ->
  wpAny (model X.prog X.w) X.A (call (.builtin id) (v::us)) (EP X aO σ Q) X.xe s
theorem rm{F:α->β->Prop}{x:α}{l:List α}{m:List β}(h:Paired F (x::l) m):∃y r,m=y::r/\F x y/\Paired F l r:=by
 cases h with
 | cons p r=>exact⟨_,_,rfl,p,r⟩
theorem Vals.one{x:V}(h:Vals [x] us):∃u,us=[u]/\RelV x u:=by
 obtain⟨u,r,rfl,q,h2⟩:=rm h
 cases h2
 exact⟨u,rfl,q⟩
theorem Vals.eraseIdx:∀{xs:List V}{us:List Value}(i:Nat),Vals xs us->Vals (xs.eraseIdx i) (us.eraseIdx i)
 | _,_,_,.nil=>.nil
 | _,_,0,.cons _ t=>t
 | _,_,i+1,.cons r t=>.cons r (Vals.eraseIdx i t)
theorem Vals.rep(h:Vals xs us):∀k:Nat,Vals (List.replicate k xs).flatten (List.replicate k us).flatten
 | 0=>.nil
 | k+1=>by
  rw[jQ,jQ,yO,yO]
  exact Vals.append h (Vals.rep h k)
theorem eI:∀(l:List α)(i:Nat),(l.eraseIdx i).length<=l.length
 | [],_=>zJ _
 | _::_,0=>qQ _
 | _::r,i+1=>jA (eI r i)
theorem iG(its:List Value):∀(k:Nat)(B:List Value),
  List.foldl (λx1 G=>x1++G) B.toArray (List.replicate k its.toArray)=(B++(List.replicate k its).flatten).toArray
 | 0,B=>by simp
 | k+1,B=>by
  have e:B.toArray++its.toArray=(B++its).toArray:=by simp
  have e2:(B++its)++(List.replicate k its).flatten=B++(List.replicate (k+1) its).flatten:=by
   rw[jQ,yO,yI]
  rw[←e2,←iG its k (B++its),←e,jQ,List.foldl_cons]
section
variable{l:Addr}
theorem Inv.Kj{its':List Value}{f:Array Value->Array Value}(I:Inv X aO σ H s)(B:H l=some (.lst xs))
  (e:s.heap.get? l=some { cls:=.type "list",data:=.seq its.toArray n }) (hf:f its.toArray=its'.toArray) (hv:Vals ys its') (hz:ys.length<=sizeLine) :
  Inv X aO σ (upd H l (.lst ys)) { s with heap:=s.heap.update l (Obj.mapSeq f),toks:=t' }:=by
 have q:=PySem.IsL.update e f
 rw[hf]at q
 refine I.write (x:=l) (e:=l) (by rw[B];exact trivial) (.inl rfl) (λG u hb hu=>(Heap.get?_update_other s.heap (Obj.mapSeq f) (Ne.symm hb)).trans hu) ⟨_,q⟩ ?_
 exact⟨hz,its',_,hv,q⟩
theorem Inv.Mn(I:Inv X aO σ H s)(hv:Vals ys its)(hz:ys.length<=sizeLine) :
  Inv X aO σ (upd H s.heap.objs.size (.lst ys)) { s with heap:=s.heap.push { cls:=.type "list",data:=.seq its.toArray },toks:=t' } :=
 I.laid (λ_ _ q=>Heap.get?_push_of_some _ q) (zJ _) ⟨hz,its,0,hv,Heap.get?_push_size _ rfl⟩
theorem Inv.fresh(I:Inv X aO σ H s):H s.heap.objs.size=none:=I.yx.fresh (zJ _)
theorem Inv.Ep(I:Inv X aO σ H s)(B:H l=some (.lst xs)):xs.length<=sizeLine/\∃(its:List Value)(n:Nat),Vals xs its/\xs.length=its.length/\s.heap.get? l=some { cls:=.type "list",data:=.seq its.toArray n }:=by
 obtain⟨z,its,n,r,e⟩:=I.yx l _ B
 exact⟨z,its,n,r,r.length,e⟩
theorem sy(h:n<=sizeLine):Builtin.List.listTooLong n=false:=by
 unfold Builtin.List.listTooLong
 exact decide_eq_false (by lia)
end
inductive Dk(x:V)(vs:List V)(H:Hp)(Q:VK):Prop where
 | mk (l xs y:_) (ui:x=.ref l) (uj:vs=[y]) (zf:H l=some (.lst xs)) (zq:xs.length<sizeLine) (Ai:Q .y2 (upd H l (.lst (xs++[y])))):Dk x vs H Q
theorem bH:Ot X "list.append" Dk:=by
 intro aO s σ H x vs v us Q I G rv h
 obtain⟨l,xs,y,rfl,rfl,B,hz,q⟩:=h
 cases G
 obtain⟨u,rfl,ru⟩:=rv.one
 obtain⟨z,its,n,r,hl,e⟩:=I.Ep B
 refine call_meets F.slot_list_append ⟨_,e,rfl⟩ F.entry_list_append (F.args_list_append_2 _ _) (PySem.list_append l its.toArray n u (by rw[zP];lia)) ⟨e,?_⟩
 refine⟨.y2,_,I.Kj (its':=its++[u]) B e (by simp) (r.append (.cons ru .nil)) ?_,rfl,q⟩
 rw[zN,kU]
 lia
inductive FZ(x:V)(vs:List V)(H:Hp)(Q:VK):Prop where
 | mk (l xs i k y:_) (ui:x=.ref l) (uj:vs=[.int i]) (zf:H l=some (.lst xs)) (zq:-(2 ^ 63)<=i) (Ai:i<2 ^ 63) (AA:seqIndex? i xs.length=some k) (Bl:xs[k]?=some y) (C7:Q y (upd H l (.lst (xs.eraseIdx k)))):FZ x vs H Q
theorem ii:Ot X "list.pop" FZ:=by
 intro aO s σ H x vs v us Q I O rv h
 obtain⟨l,xs,i,k,y,rfl,rfl,G,h1,h2,hk,hy,q⟩:=h
 cases O
 obtain⟨u,rfl,ru⟩:=rv.one
 obtain⟨t,rfl⟩:=ru
 obtain⟨z,its,n,r,hl,e⟩:=I.Ep G
 obtain⟨w,hw,B⟩:=r.get hy
 refine call_meets F.slot_list_pop ⟨_,e,rfl⟩ F.entry_list_pop (F.args_list_pop_2 _ _)
  (MeetsSeq.list_pop_at l its.toArray n i t k w (fitsIndex_both h1 h2) (by rw[zP,←hl];exact hk) (by rw[←qH];exact hw) (by rw[zP];lia)) ⟨e,?_⟩
 refine⟨y,_,I.Kj (its':=its.eraseIdx k) G e ?_ (r.eraseIdx k) ?_,B,q⟩
 ·show its.toArray.eraseIdxIfInBounds k=(its.eraseIdx k).toArray
  rw[vN]
 ·have:=eI xs k
  lia
inductive Mo(x:V)(y:V)(H:Hp)(Q:VK):Prop where
 | mk (l b xs zs:_) (ui:x=.ref l) (uj:y=.ref b) (zf:H l=some (.lst xs)) (zq:H b=some (.lst zs)) (Ai:xs.length+zs.length<=sizeLine) (AA:∀p,H p=none->Q (.ref p) (upd H p (.lst (xs++zs)))):Mo x y H Q
theorem dF:BH X (binaryOp .Add) Mo:=by
 intro aO s σ H x y v u Q I B G h
 obtain⟨l,b,xs,zs,rfl,rfl,O,hB,hz,q⟩:=h
 cases B
 cases G
 obtain⟨z,its,n,r,hl,e⟩:=I.Ep O
 obtain⟨z2,CM,n2,U,BF,e2⟩:=I.Ep hB
 refine PySem.P.add_list e e2 ?_ (by rw[zP,zP];lia)
 have ea:its.toArray++CM.toArray=(its++CM).toArray:=by simp
 rw[ea]
 exact⟨.ref _,_,I.Mn (t':=s.toks) (r.append U) (by rw[zN];lia),rfl,q _ I.fresh⟩
inductive Mp(x:V)(y:V)(H:Hp)(Q:VK):Prop where
 | mk (l k xs:_) (ui:x=.ref l) (uj:y=.int k) (zf:H l=some (.lst xs)) (zq:-(2 ^ 63)<=k) (Ai:k<2 ^ 63) (AA:xs.length*k.toNat<=sizeLine) (Bl:∀p,H p=none->Q (.ref p) (upd H p (.lst (List.replicate k.toNat xs).flatten))):Mp x y H Q
theorem uT(xs:List α)(k:Nat):(List.replicate k xs).flatten.length=k*xs.length:=by
 induction k with
 | zero=>simp
 | succ k ih=>rw[jQ,yO,zN,ih,Nat.succ_mul,vG]
theorem wH:BH X (binaryOp .Mult) Mp:=by
 intro aO s σ H x y v u Q I rx ry h
 obtain⟨l,k,xs,rfl,rfl,hH,h1,h2,hz,q⟩:=h
 cases rx
 obtain⟨t,rfl⟩:=ry
 obtain⟨z,its,n,r,hl,e⟩:=I.Ep hH
 have G:its.toArray.size*k.toNat<=sizeLine:=by rw[zP,←hl];exact hz
 have O:¬its.toArray.size*k.toNat>(2 ^ 63-1) / 8:=by
  have:(sizeLine:Nat)<=(2 ^ 63-1) / 8:=by decide
  lia
 have Y:¬(!Builtin.List.listFitsIndex k)=true:=by
  rw[fitsIndex_both h1 h2]
  exact zS
 have B:¬Builtin.List.listTooLong (its.toArray.size*k.toNat)=true:=by
  rw[sy G]
  exact zS
 have Kk:List.foldl (λx1 x2=>x1++x2) #[] (List.replicate (if its.toArray.isEmpty=true then 0 else k.toNat) its.toArray)=(List.replicate k.toNat its).flatten.toArray:=by
  have f0:∀m:Nat,List.foldl (λx1 x2=>x1++x2) #[] (List.replicate m its.toArray)=(List.replicate m its).flatten.toArray:=λm=>by
   have:=iG its m []
   rw[qI]at this
   exact this
  rw[f0]
  cases its with
  | nil=>simp
  | cons a r'=>rw[if_neg (by simp)]
 refine wpAny_binaryOp_repeat_ref (T:="list") (U:="int") (by decide) ⟨_,e,rfl⟩ (λs'=>typeIs_int s' k t) noFill_list_mul F.fills_int_mul F.slot_int_rmul repeat_list F.slot_int_index.lookup
  (call_meets F.slot_int_rmul (typeIs_int s k t) F.entry_int_rmul (F.args_int_rmul_2 _ _) (int___rmul___int_list k t l its.toArray n)
   ⟨e,rfl,⟨_,e,rfl⟩,call_meets F.slot_list_mul ⟨_,e,rfl⟩ F.entry_list_mul (F.args_list_mul_2 _ _) (AutoListH.list___mul___list_int_3 l its.toArray n k t Y O B) ⟨e,?_⟩⟩)
 rw[Kk]
 exact⟨.ref _,_,I.Mn (t':=s.toks) (r.rep k.toNat) (by rw[uT,Nat.mul_comm];exact hz),rfl,q _ I.fresh⟩
end L2
variable{th:L2.TO}
namespace Att
open PySem PySem.W PySem.Calls PyProof.Rows
theorem gx{P:Params}:∀(ns:List Int)(vs:List Value),WellAll P h vs (ns.map WData.int)->IntsAre vs ns:=by
 intro ns
 induction ns with
 | nil =>
  intro vs w
  rw[jM]at w
  cases w
  exact .nil
 | cons n ns ih =>
  intro vs w
  rw[yM]at w
  cases w with
  | cons a b =>
   cases a
   exact .cons _ _ (ih _ b)
theorem pC{l:OpenLaw}(hn:l.most=some n){P:Params}{args:List WData}{B:List Value}
  (G:l.row.toRowW.claim.pre args=true) (Y:WellAll P h B args) :
  ∃a vs ns,B=[Value.ref a]/\args=[WData.list (ns.map WData.int)]/\h.get? a=some { cls:=.type "list",data:=.seq vs.toArray }/\IntsAre vs ns/\ns.length<=n:=by
 have VD:WShape.hasAll [] args [.list .int]=true:=(pre_splitW G).1
 have hc:l.pre.holds [] { args:=args }=true:=(pre_splitW G).2
 obtain⟨d,r,rfl,h1,h2⟩:=hasAllW_cons VD
 obtain rfl:=hasAllW_nil h2
 obtain⟨xs,rfl,h3⟩:=hasW_list h1
 obtain⟨ns,rfl⟩:=items_int h3
 have O:ns.length<=n:=by
  unfold OpenLaw.pre at hc
  have h4:(WTm.not (.lt (.lit (.int (n:Int))) (.len (.arg 0)))).holds [] { args:=[.list (ns.map .int)] }=true:=by
   have h4:=(holds_andW hc).1
   rw[hn]at h4
   exact h4
  have h5:=condW_of h4 (w_not (w_lt w_lit (w_len_list (w_arg rfl))))
  rw[zB]at h5
  refine Nat.le_of_not_lt λq=>?_
  have q':(n:Int)<((ns.length:Nat):Int):=by lia
  first
   | (rw[decide_eq_true q']at h5;exact absurd h5 (by decide))
   | (simp at h5;lia)
 cases Y with
 | cons w1 w2 =>
  cases w2
  cases w1 with
  | list ho U=>exact⟨_,_,ns,rfl,rfl,ho,gx ns _ U,O⟩
theorem qg(l:OpenLaw)(args:List WData):l.row.toRowW.claim.post args (.bool true) args=true :=
 postW_of (r:=l.row.toRowW) (X:=(true==true))
  (show WShape.has [] (.bool true) .bool=true by first|rfl|decide|simp [WShape.has,WShape.arms,WShape.armsAll])
  (show(WTm.eq .res (.lit (.bool true))).value [] { args:=args,res:=some (.bool true),after:=args }=some (.bool (true==true))from w_eq_bool (w_res rfl) w_lit) rfl
theorem DL{l:OpenLaw}{q:Program}{XP:(Str->Option Value)->Heap->Prop}{YP:World->Heap->Prop}{d:DefRec}
  (hn:l.most=some n) (P4:d.params.defaults=[])
  (call:∀(w:World)(s₀ B:Shared)(mg mb:Str->Option Value)(fa:Addr)(o:Obj)(pm cd doc:Value)(a:Addr)(vs:List Value)(ns:List Int),
   Ground q loose [] XP w s₀ mg mb B.heap->YP w B.heap ->
   B.heap.get? fa=some o->o.data=.func (docDef d.name d.params d.body d.scope pm cd doc)->B.heap.CodeRec cd d.name->mg d.name=some (.ref fa) ->
   B.heap.get? a=some { cls:=.type "list",data:=.seq vs.toArray }->IntsAre vs ns->ns.length<=n->B.gens=#[] ->
   codeAny (model l.prog w) callerA (.call (.ref fa) ⟨[.ref a],[]⟩) (λr s'=>r=.ok (.ret (.bool true))/\OldK B.heap s'.heap/\s'.os=B.os/\AllBare s'.gens) B) :
  WalkO q loose XP YP l.row.toRowW d [] (λf vs=>PySem.call f vs):=by
 intro w s₀ B mg mb G Y fa o pm cd doc dV kV ho hd ER hD Km hg args vals as U VE SQ P5 DM
 obtain rfl:dV=.none:=Dflts.none hD P4
 obtain rfl:kV=.none:=Dflts.noKw hD
 obtain⟨a,vs,ns,rfl,rfl,Kn,O,CQ⟩:=pC hn U P5
 refine enter_call (codeAny_mono (call w s₀ B mg mb fa o pm cd doc a vs ns G Y ho (fd_plain hd) ER Km Kn O CQ hg) λr s' hq=>?_)
 obtain⟨rfl,h2,h3,h4⟩:=hq
 exact⟨.inl ⟨.bool true,.bool true,[],rfl,λ_=>rfl,.bool true,qg l _,λ_=>⟨List.Pairwise.nil,λ_ hm=>(nomatch hm)⟩⟩,h2,h3,h4⟩
section
variable{K:Frag}
end
end Att
namespace L2
open PySem PySem.Spec PyProof.Rows
theorem f_:∀{vs:List Value}{ns:List Int},IntsAre vs ns->Vals (ns.map V.int) vs
 | _,_,.nil=>.nil
 | _,_,.cons n t h=>.cons ⟨t,rfl⟩ (f_ h)
end L2
/- Zm VF Ou (shape;Zn,My.* are SS):
   My.Zo: a structure of Lu addresses P6 VG SU names (classes,Lv);My.Txt K t: a structure (Prop) of Lu equations over K;
   My.Ko:{K} {implicit addresses ..} (e1:nsIn K mainGlobals "law"=some (some (.ref f))) (e2:K.lookup f=some ⟨oc,od,.func (fnOf "law" "law" params body scope dV kV doc pm an Bj ct),sl⟩) (e3:codeIn K Bj "law"=true) ..:∃t,My.Txt K t
set_option maxRecDepth 100000 in
set_option maxHeartbeats 0 in
theorem PySem.Challenge.cw_LID_holds : PySem.Challenge.rw_LID.Holds := by
 w_on;o_law;k_head;(case hw=>w_witness2)
 k_fill
 refine L2.Ov (l:=PySem.Challenge.rw_LID) (n:=63) (k:=40) (x:="script") (CX:=λw=>..) (sp:=λ_=>My.P7) rfl (by decide) rfl ⟨rfl,by decide,by decide⟩ (λw h Y=>PySem.W.kIn_of Y) ?F ?S ?C
 case F =>
  intro w mg fa h KX G Km
  have T:∃t,My.Txt (L2.VH KX) t:=by
   dsimp only [L2.VH]                          -- K VI SV as «<heap const> w.params» for k_is
   refine' My.Ko ?e1 ?e2 ?e3 ..
   (case e1=>PySem.W.k_is)                    -- in Lu order: a name -> its address -> its object -> its parts
   (case e2=>PySem.W.k_is)
   ..
  obtain⟨t,T⟩:=T
  have e0:=Km.symm.trans (PySem.W.mg_of KX G T.Zp)
  cases e0                                       -- fa is Lu SW own address
  exact⟨_,λs u=>.of_eq rfl,λbase kb nb=>My.Kq T kb nb⟩     -- if «.of_eq rfl» comes Zq early: refine' ⟨_,?b,λbase kb nb=>My.Kq T kb nb⟩;exact λs u=>.of_eq rfl
 case S=>exact λw H a ns hl hO hS=>..
 case C=>exact ..
(Lu tactic k_is has no namespace: write k_is) -/
namespace L2
open PySem PySem.Spec PyProof.Rows
def inClass(s:Stmt)(j:Nat):Stmt:=match s with
 | .ClassDef _ _ _ body _ _ _ _ _ _ _=>body.getD j (.Pass ⟨0,0,0,0⟩)
 | _=>.Pass ⟨0,0,0,0⟩
def AW(s:Stmt):Arguments:=match s with
 | .FunctionDef _ a _ _ _ _ _ _ _ _=>a
 | _=>{ posonlyargs:=[],args:=[],vararg:=none,kwonlyargs:=[],kw_defaults:=[],kwarg:=none,defaults:=[] }
def Ax(s:Stmt):List Stmt:=match s with
 | .FunctionDef _ _ b _ _ _ _ _ _ _=>b
 | _=>[]
def zc(s:Stmt):Scope:=match s with
 | .FunctionDef _ _ _ _ _ _ sc _ _ _=>sc
 | _=>{ kind:=.function,names:=[],isGenerator:=false,isCoroutine:=false }
abbrev Aa:Jb:=λ_ _ _ _ _ _=>False
abbrev E0:XK:=λ_ _ _=>False
variable{t:TA}{cl:List (Str×Addr)}
theorem l_:Passes Aa X E0:=λ_ _ _ _ _ _ _ h=>h.elim
structure Ac(K:PySem.W.Frag)(x qual:Str)(st:Stmt)(f:Addr)(fd:FuncData):Prop where
 ex:∃(oc:Value)(od:Option Addr)(kV doc pm:Value)(an:Option Addr)(Bj ct:Value)(FR:Array (Option Value)),
  fd=PySem.W.fnOf x qual (AW st) (Ax st) (zc st) .none kV doc pm an Bj ct/\K.lookup f=some ⟨oc,od,.func fd,FR⟩/\PySem.W.codeIn K Bj qual=true
 kp:PySem.W.keepIn K (.ref f)=true
theorem Ac.ok{st:Stmt}{f:Addr}{k:Nat}{sp:Sp}(F:Ac K x qual st f fd)(S:AU N ps (zc st))(len:∀vs H Q E,sp vs H Q E->vs.length=ps.length)
  (B:∀(Bj:Value)(A:Around)(outer:List Env)(s:Shared)(H:Hp)(vs:List V)(Q:VK)(E:XK),Ae k (A.deeper (envOfC qual (zc st) s.heap.objs.size f Bj))->sp vs H Q E ->
   ∃t,EM (Eo Aa P w K mg base N qual (zc st) f Bj A outer s H E).Lo (Ax st) t/\t { nx:=λ_ H'=>Q .y2 H',rt:=Q } (start N vs) H):mu P w K mg base Aa (k+1) f fd ps sp:=by
 obtain⟨oc,od,kV,doc,pm,an,Bj,ct,FR,rfl,lk,G⟩:=F.ex
 refine vq lk G S len λA outer s H vs Q E hr O=>?_
 obtain⟨t,h,q⟩:=B Bj A outer s H vs Q E hr O
 exact⟨t,h.Lo,q⟩
theorem Ac.binds{st:Stmt}{f:Addr}(F:Ac K x qual st f fd)
  (h:∀(kV doc pm:Value)(an:Option Addr)(Bj ct:Value)(us:List Value),us.length=ps.length->bindArgs (PySem.W.fnOf x qual (AW st) (Ax st) (zc st) .none kV doc pm an Bj ct) ⟨us,[]⟩=pure (ps.zip us)):Binds K fd ps []:=by
 obtain⟨oc,od,kV,doc,pm,an,Bj,ct,FR,rfl,lk,B⟩:=F.ex
 exact .all (h kV doc pm an Bj ct)
theorem sM{st:Stmt}{f:Addr}{an:Option Addr}{FR:Array (Option Value)}{kV:Value}(l:K.lookup f=some ⟨oc,od,.func (PySem.W.fnOf x qual (AW st) (Ax st) (zc st) .none kV doc pm an Bj ct),FR⟩)
  (c:PySem.W.codeIn K Bj qual=true) (k:PySem.W.keepIn K (.ref f)=true):Ac K x qual st f (PySem.W.fnOf x qual (AW st) (Ax st) (zc st) .none kV doc pm an Bj ct):=⟨⟨oc,od,kV,doc,pm,an,Bj,ct,FR,rfl,l,c⟩,k⟩
theorem vi{k:Nat}(hr:Ae k A):A.units+1<cLine:=qJ (Nat.add_le_add_left (by decide:1<=64) _) hr.units
theorem bo(h:n<=1000):n<sizeLine:=qJ h (by decide)
theorem pv(i:Nat)(hN:X.N[i]?=some x:=by rfl)(hv:Oi X.env.scope x:=by first|exact Or.inl rfl|exact Or.inr (Or.inl rfl)|exact Or.inr (Or.inr rfl))(hd:(x==("__debug__":Str))=false:=by decide)
  (B:(x==("__classdict__":Str))=false:=by decide):PE X (.Name x pos) (JX i):=x9 hN hv hd B
theorem nj{A:Prop}(h:B):if false=true then A else B:=by
 rw[if_neg zS]
 exact h
theorem vr{A:Prop}(h:A):if true=true then A else B:=by
 rw[if_pos rfl]
 exact h
theorem CT{c A:Prop}[Decidable c](h1:c->A)(h2:¬c->B):if c then A else B:=by
 by_cases h:c
 ·rw[if_pos h]
  exact h1 h
 ·rw[if_neg h]
  exact h2 h
def c0(H H':Hp):Prop:=∀b o,H b=some o->H' b=some o
theorem c0.refl(H:Hp):c0 H H:=λ_ _ h=>h
theorem c0.trans(a:c0 H H1)(b:c0 H1 H2):c0 H H2:=λc o h=>b c o (a c o h)
theorem c0.free(e:c0 H H'){l:Addr}(h:H' l=Option.none):H l=Option.none:=by
 cases q:H l with
 | none=>rfl
 | some o =>
  rw[e l o q]at h
  cases h
theorem c0.seq(e:c0 H H')(h:eH K H a xs):eH K H' a xs:=by
 rcases h with (h|⟨o,h⟩)|h
 ·exact .inl (.inl (e _ _ h))
 ·exact .inl (.inr ⟨o,e _ _ h⟩)
 ·exact .inr h
section
variable[DecidableEq κ]
end
theorem Fd{c:Bool}{A:Prop}(h1:c=true->A)(h2:c=false->B):if c=true then A else B:=by
 cases c with
 | true=>exact vr (h1 rfl)
 | false=>exact nj (h2 rfl)
mutual
inductive Dt(K:PySem.W.Frag)(H:Hp):Nat->V->PyData->Prop
 | y2 (n:Nat):Dt K H n .y2 .none
 | bl (n:Nat) (b:Bool):Dt K H n (.bl b) (.bool b)
 | int (n:Nat) (i:Int):Dt K H n (.int i) (.int i)
 | str (n:Nat) (x:Str) (h:PyData.canLay0 (.str x)=true):Dt K H n (.str x) (.str x)
 | lst {n:Nat} {a:Addr} {xs:List V} {ds:List PyData} (h:eH K H a xs) (r:zy K H n xs ds):Dt K H (n+1) (.ref a) (.list ds)
 | tup {n:Nat} {a:Addr} {xs:List V} {ds:List PyData} (h:ze K H a xs) (r:zy K H n xs ds):Dt K H (n+1) (.ref a) (.tuple ds)
inductive zy(K:PySem.W.Frag)(H:Hp):Nat->List V->List PyData->Prop
 | nil (n:Nat):zy K H n [] []
 | cons {n:Nat} {x:V} {d:PyData} {xs:List V} {ds:List PyData} (h:Dt K H n x d) (r:zy K H n xs ds):zy K H n (x::xs) (d::ds)
end
mutual
theorem Dt.reads(I:Inv X aO σ H s):∀{n:Nat}{x:V}{d:PyData}{u:Value},Dt X.K H n x d->RelV x u->(∃as,Reads s.heap u d as)/\d.canLay0=true/\d.depth<=n
 | _,_,_,_,.y2 n,r=>by cases r;exact⟨⟨_,.none⟩,rfl,by simp [PyData.depth]⟩
 | _,_,_,_,.bl n b,r=>by cases r;exact⟨⟨_,.bool b⟩,rfl,by simp [PyData.depth]⟩
 | _,_,_,_,.int n i,r=>by obtain⟨t,rfl⟩:=r;exact⟨⟨_,.int i t⟩,rfl,by simp [PyData.depth]⟩
 | _,_,_,_,.str n x h,r=>by obtain⟨t,rfl⟩:=r;exact⟨⟨_,.str x t⟩,h,by simp [PyData.depth]⟩
 | _,_,_,_,.lst h ra,r=>by
  cases r
  obtain⟨its,rv,pl,_⟩:=I.list h
  obtain⟨⟨as,q⟩,c,dp⟩:=zy.reads I ra rv
  obtain⟨o,ho,hc,k,hd⟩:=pl.isList
  exact⟨⟨_,.list ho hc hd (by simpa using q)⟩,c,by simp only [PyData.depth];lia⟩
 | _,_,_,_,.tup h ra,r=>by
  cases r
  obtain⟨its,rv,pl,_⟩:=I.tuple h
  obtain⟨⟨as,q⟩,c,dp⟩:=zy.reads I ra rv
  obtain⟨o,ho,hc,k,hd⟩:=pl
  exact⟨⟨_,.tuple ho hc hd (by simpa using q)⟩,c,by simp only [PyData.depth];lia⟩
theorem zy.reads(I:Inv X aO σ H s):∀{n:Nat}{xs:List V}{ds:List PyData}{us:List Value},zy X.K H n xs ds->Vals xs us ->
  (∃as,ReadsAll s.heap us ds as)/\PyData.canLayAll0 ds=true/\PyData.depthAll ds<=n
 | _,_,_,_,.nil n,r=>by cases r;exact⟨⟨_,.nil⟩,rfl,by simp [PyData.depthAll]⟩
 | _,_,_,_,.cons h ra,r=>by
  cases r with
  | cons B G =>
   obtain⟨⟨as,q⟩,c,dp⟩:=Dt.reads I h B
   obtain⟨⟨bs,O⟩,U,Y⟩:=zy.reads I ra G
   exact⟨⟨_,.cons q O⟩,by simp [PyData.canLayAll0,c,U],by simp only [PyData.depthAll];lia⟩
end
theorem zy.ints(n:Nat):∀ns:List Int,zy K H n (ns.map V.int) (ns.map PyData.int)
 | []=>.nil n
 | i::ns=>.cons (.int n i) (zy.ints n ns)
theorem Dt.ints(n:Nat)(h:eH K H a (ns.map V.int)):Dt K H (n+1) (.ref a) (.list (ns.map PyData.int)):=.lst h (.ints n ns)
inductive Kr(K:PySem.W.Frag)(x:V)(y:V)(H:Hp)(Q:VK):Prop where
 | mk (d e n:_) (ui:Dt K H n x d) (uj:Dt K H n y e) (zf:n<=64) (zq:Q (.bl (PyData.eqv d e)) H):Kr K x y H Q
inductive Ks(K:PySem.W.Frag)(x:V)(y:V)(H:Hp)(Q:VK):Prop where
 | mk (d e n:_) (ui:Dt K H n x d) (uj:Dt K H n y e) (zf:n<=64) (zq:Q (.bl (!PyData.eqv d e)) H):Ks K x y H Q
theorem xU(hu:X.A.units+64<cLine):BH X (compareOp .Eq) (Kr X.K):=by
 intro aO s σ H x y v u Q I B G h
 obtain⟨d,e,n,hd,O,hn,q⟩:=h
 obtain⟨⟨as,ra⟩,ca,da⟩:=hd.reads I B
 obtain⟨⟨bs,U⟩,Y,db⟩:=O.reads I G
 exact SeqAt.compareEq_reads ra U ca Y (by lia) ⟨.bl _,H,I,rfl,q⟩
theorem wC(hu:X.A.units+64<cLine):BH X (compareOp .NotEq) (Ks X.K):=by
 intro aO s σ H x y v u Q I B G h
 obtain⟨d,e,n,hd,O,hn,q⟩:=h
 obtain⟨⟨as,ra⟩,ca,da⟩:=hd.reads I B
 obtain⟨⟨bs,U⟩,Y,db⟩:=O.reads I G
 exact SeqAt.rcNeAt_reads ra U ca Y (by lia) X.prog X.w X.xe _ ⟨.bl _,H,I,rfl,q⟩
inductive F0(K:PySem.W.Frag)(xs:List V)(H:Hp)(Q:VK):Prop where
 | mk (x n t b:_) (ui:xs=[x,.ty n]) (uj:BS K H x t) (zf:PySem.W.kitOne K t (.type n)=some b) (zq:Q (.bl b) H):F0 K xs H Q
theorem pZ:Aq X (.builtin "isinstance") (F0 X.K):=by
 intro aO s σ H xs us Q I r h
 obtain⟨x,n,t,b,rfl,ty,e,q⟩:=h
 obtain⟨v,w',rfl,rv,B⟩:=rK r
 cases B
 exact oW I rv ty e λtk=>⟨.bl b,H,I.tok tk,rfl,q⟩
def Mq(K:PySem.W.Frag)(te:TE)(tl th ts:TO):TE:=fun σ H Q=>te σ H λx H1=>tl σ H1 λl H2=>th σ H2 λu H3=>ts σ H3 λk H4 =>
 ∃a ns,x=.ref a/\eH K H4 a (ns.map V.int)/\k≠some 0/\∀p ms,ms=pickNums ns l u k->ms.length<=ns.length->H4 p=none->Q (.ref p) (upd H4 p (.lst (ms.map V.int)))
theorem pP{e:Expr}{lo hi st:Option Expr}{tl ts:TO}(he:PE X e te)(hl:PO X lo tl)(hu:PO X hi th)(hk:PO X st ts)
  (B:∀o i,∃ops,subscripted (.Slice lo hi st p2) false o i=operate ops (getItem o i):=by intro _ _;exact⟨_,by with_unfolding_all rfl⟩) :
  PE X (.Subscript e (.Slice lo hi st p2) pos) (Mq X.K te tl th ts):=by
 intro aO s σ H Q I h
 refine Subscript_ (zd (he aO s σ H _ I h) λv s1 ⟨x,H1,I1,r1,q1⟩=>?_)
 refine wpAny_Slice (zd (hl aO s1 σ H1 _ I1 q1) λvl s2 ⟨l,H2,I2,pl,q2⟩=>zd (hu aO s2 σ H2 _ I2 q2) λvu s3 ⟨u,H3,I3,pu,q3⟩=>zd (hk aO s3 σ H3 _ I3 q3) λvk s4 ⟨k,H4,I4,pk,q4⟩=>?_)
 obtain⟨a,ns,rfl,hx,k0,q⟩:=q4
 cases r1
 have O:Inv X aO σ H4 { s4 with heap:=s4.heap.push { cls:=.type "slice",data:=.fields #[vl,vu,vk] } }:=I4.kept (t':=s4.toks) λb ob q=>Heap.get?_push_of_some _ q
 obtain⟨its,r,ht,hz⟩:=O.list hx
 have hi:=di r
 have Y:=hi.length
 have hp:=hi.pick l u k
 have U:=length_pickNums_le hi l u k
 rw[zB]at hz
 obtain⟨ops,G⟩:=B (.ref a) (.ref s4.heap.objs.size)
 refine tail_any (ops:=ops) ht.isList.typeIs slot_list_getitem.lookup (wpAny_getItem_list_slice ht.isList (Heap.IsSliceOf.new ..) pl pu pk k0 ?_ (by rw[zP];lia)) G
 refine⟨.ref _,_,O.laid (t':=s4.toks) (o:=.lst ((pickNums ns l u k).map V.int)) (λb ob q=>Heap.get?_push_of_some _ q) (zJ _) ?_,rfl,q _ _ rfl U (O.yx.fresh (zJ _))⟩
 refine⟨by rw[zB];lia,(slicePick its.toArray l u k).toList,0,f_ hp,?_⟩
 exact Heap.get?_push_size _ rfl
structure Mr(K:PySem.W.Frag)(C:Addr)(m:Str)(f:Addr):Prop where
 ga:PySem.W.specialIn K (.ref C) "__getattribute__"=some (some (.builtin "type.__getattribute__"))
 mc:∃mc,PySem.W.readsIn K C mc=true/\PySem.W.findCls K (.ref C) mc m=some (.val (.ref f))
 kp:PySem.W.keepIn K (.ref f)=true
theorem u9{CX:Jb}{k:Nat}{f:Addr}{sp:Sp}{dvs:List V}{ds:List Value}{E:XK}{m:Str}{p:Pos}{e:Expr}{pl:Sem Bool}
  (hg:Gl X x) (hm:X.mg x=some (.ref C)) (c:Mr X.K C m f) (F:mu X.prog X.w X.K X.mg X.base CX k f fd ps sp) (hr:Ae k X.A) (hb:Binds X.K fd ps ds) (hd:Vals dvs ds) (hx:Passes CX X E) (ha:PA X (e::es) t)
  (Dy:(x==("__debug__":Str))=false:=by decide) (B:starEach (e::es) X.env=(false,eval e X.env)::starEach es X.env:=by rfl) (G:(backTo pos (starEach es X.env)).any (·.1)=false:=by rfl)
  (ht:eval (.Call (.Attribute (.Name x p) m apos) (e::es) [] pos) X.env=(do
   let O ←eval (.Name x p) X.env
   standAt apos.atName
   let (f,first) ←holding [O] (getMethod O m pl)
   callWith pos f first (backTo pos (starEach (e::es) X.env)) (backToKw pos (keywordEach [] X.env))):=by rfl) :
  PE X (.Call (.Attribute (.Name x p) m apos) (e::es) [] pos) (EO sp dvs E t):=by
 intro aO s σ H Q I h
 refine a08 (pl:=pl) (fz I hg hm ?_ Dy) ht
 obtain⟨mc,h1,h2⟩:=c.mc
 refine PySem.W.method_cls I.Bt c.ga (PySem.W.cls_value I.Bt h1 h2 rfl ?_)
 have I1:Inv X aO σ H { s with toks:=s.toks+1 }:=I.tok _
 refine a07 (first:=[]) (h₀:=X.base) I.ok.mod.IT c.kp (zd (ha pos aO _ σ H _ I1 h) λus s2 ⟨vs,H2,I2,r,U⟩=>⟨I2.Bt,?_⟩) B G
 exact jz (us:=us) (vs:=vs) F hr hb hd hx I2 r U
theorem FE:bootBuiltins "len"=some (.builtin "len"):=by decide +kernel
theorem eK:bootBuiltins "isinstance"=some (.builtin "isinstance"):=by decide +kernel
theorem uR:bootBuiltins "list"=some (.type "list"):=by decide +kernel
theorem fu:bootBuiltins "tuple"=some (.type "tuple"):=by decide +kernel
theorem rH:bootBuiltins "int"=some (.type "int"):=by decide +kernel
theorem fV:bootBuiltins "str"=some (.type "str"):=by decide +kernel
theorem i9:bootBuiltins "min"=some (.builtin "min"):=by decide +kernel
theorem wg:bootBuiltins "sum"=some (.builtin "sum"):=by decide +kernel
theorem mN:bootBuiltins "any"=some (.builtin "any"):=by decide +kernel
theorem tP:bootBuiltins "all"=some (.builtin "all"):=by decide +kernel
theorem pU:bootBuiltins "sorted"=some (.builtin "sorted"):=by decide +kernel
structure FnAt(P:Program)(w:World)(K:PySem.W.Frag)(mg:Str->Option Value)(base:Heap)(k:Nat)(x:Str)(ps:List Str)(sp:Sp):Prop where
 ex:∃(f:Addr)(fd:FuncData),mu P w K mg base Aa k f fd ps sp/\mg x=some (.ref f)/\PySem.W.keepIn K (.ref f)=true/\Binds K fd ps []
structure MethAt(P:Program)(w:World)(K:PySem.W.Frag)(mg:Str->Option Value)(base:Heap)(k:Nat)(C:Addr)(m:Str)(ps:List Str)(sp:Sp):Prop where
 ex:∃(f:Addr)(fd:FuncData),mu P w K mg base Aa k f fd ps sp/\Meth K C m f/\Binds K fd ps []
 cls:Fg K C
structure DN(P:Program)(w:World)(K:PySem.W.Frag)(mg:Str->Option Value)(base:Heap)(k:Nat)(x:Str)(C:Addr)(ps:List Str)(sp:Sp):Prop where
 ex:∃(f:Addr)(fd:FuncData),mu P w K mg base Aa k f fd ps sp/\Mk K C f/\Binds K fd ps []
 mg:mg x=some (.ref C)
structure ClsAt(P:Program)(w:World)(K:PySem.W.Frag)(mg:Str->Option Value)(base:Heap)(k:Nat)(C:Addr)(m:Str)(ps:List Str)(sp:Sp):Prop where
 ex:∃(f:Addr)(fd:FuncData),mu P w K mg base Aa k f fd ps sp/\Mr K C m f/\Binds K fd ps []
section
variable{k:Nat}{sp:Sp}{m:Str}{p:Pos}{e o:Expr}
theorem LO(G:FnAt X.prog X.w X.K X.mg X.base k x ps sp)(hr:Ae k X.A)(hg:Gl X x)(ha:PA X (e::es) t)(Dy:(x==("__debug__":Str))=false:=by decide)
  (O:starEach (e::es) X.env=(false,eval e X.env)::starEach es X.env:=by rfl) (B:(backTo pos (starEach es X.env)).any (·.1)=false:=by rfl) :
  PE X (.Call (.Name x p) (e::es) [] pos) (EO sp [] E0 t):=by
 obtain⟨f,fd,F,hm,hk,hb⟩:=G.ex
 exact uH F hr hg hm hk hb .nil l_ ha Dy O B
theorem JK{pl:Sem Bool}(G:MethAt X.prog X.w X.K X.mg X.base k C m ps sp)(hr:Ae k X.A)(Y:PE X o ta)(ha:PA X (e::es) t)
  (B:starEach (e::es) X.env=(false,eval e X.env)::starEach es X.env:=by rfl) (O:(backTo pos (starEach es X.env)).any (·.1)=false:=by rfl)
  (ht:eval (.Call (.Attribute o m apos) (e::es) [] pos) X.env=(do
   let U ←eval o X.env
   standAt apos.atName
   let (f,first) ←holding [U] (getMethod U m pl)
   callWith pos f first (backTo pos (starEach (e::es) X.env)) (backToKw pos (keywordEach [] X.env))):=by rfl) :
  PE X (.Call (.Attribute o m apos) (e::es) [] pos) (Jc C m sp [] E0 ta t):=by
 obtain⟨f,fd,F,hm,hb⟩:=G.ex
 exact tZ (pl:=pl) Y G.cls hm F hr hb .nil l_ ha B O ht
theorem iL(M:DN X.prog X.w X.K X.mg X.base k x C ps sp)(hr:Ae (k+1) X.A)(hg:Gl X x)(ha:PA X (e::es) t)(Dy:(x==("__debug__":Str))=false:=by decide)
  (G:starEach (e::es) X.env=(false,eval e X.env)::starEach es X.env:=by rfl) (B:(backTo pos (starEach es X.env)).any (·.1)=false:=by rfl) :
  PE X (.Call (.Name x p) (e::es) [] pos) (Jd C sp [] E0 t):=by
 obtain⟨f,fd,F,hm,hb⟩:=M.ex
 exact uv hm F hr hg M.mg hb .nil l_ ha Dy G B
theorem hJ{pl:Sem Bool}(hg:Gl X x)(hm:X.mg x=some (.ref C))(G:ClsAt X.prog X.w X.K X.mg X.base k C m ps sp)(hr:Ae k X.A)(ha:PA X (e::es) t)
  (Dy:(x==("__debug__":Str))=false:=by decide) (B:starEach (e::es) X.env=(false,eval e X.env)::starEach es X.env:=by rfl) (O:(backTo pos (starEach es X.env)).any (·.1)=false:=by rfl)
  (ht:eval (.Call (.Attribute (.Name x p) m apos) (e::es) [] pos) X.env=(do
   let U ←eval (.Name x p) X.env
   standAt apos.atName
   let (f,first) ←holding [U] (getMethod U m pl)
   callWith pos f first (backTo pos (starEach (e::es) X.env)) (backToKw pos (keywordEach [] X.env))):=by rfl) :
  PE X (.Call (.Attribute (.Name x p) m apos) (e::es) [] pos) (EO sp [] E0 t):=by
 obtain⟨f,fd,F,c,hb⟩:=G.ex
 exact u9 (pl:=pl) hg hm c F hr hb .nil l_ ha Dy B O ht
end
def ql(L:List Addr)(H H':Hp):Prop:=∀b o,H b=some o->b∉L->H' b=some o
theorem c0.upd(h:c0 H H')(n:H p=none):c0 H (upd H' p o):=λb u e=>by
 rw[bj (bi e n)]
 exact h b u e
theorem c0.new(n:H p=none):c0 H (L2.upd H p o):=(c0.refl H).upd n
theorem cq{y:V}(h:(ns.map V.int)[i]?=some y):∃z,y=V.int z/\ns[i]?=some z:=by
 rw[zG]at h
 cases e:ns[i]? with
 | none=>rw[e]at h;cases h
 | some z=>rw[e]at h;exact⟨z,(Option.some.inj h).symm,rfl⟩
theorem VJ{i:Int}{Q:VK}(h:H p=some (.tup xs))(e:Fi xs i=some v)(q:Q v H):Ic K (.ref p) (.int i) H Q:=⟨p,xs,i,v,rfl,rfl,ze.of h,e,q⟩
theorem CH(h:H p=some (.lst xs)):P2 K "list" (.ref p) H:=.inl ⟨rfl,xs,eH.of h⟩
theorem ja{rs:List α}{f:α->β}{k:Int}{r:α}(hk:k=(j:Int))(h:rs[j]?=some r):Fi (rs.map f) k=some (f r):=by
 rw[hk]
 exact d5 (by rw[zG,h];rfl)
theorem ql.same(h:c0 H H'):ql L H H':=λb o e _=>h b o e
theorem ql.upd(h:ql L H H')(ha:a∈L):ql L H (L2.upd H' a o):=λb u e hb=>by
 rw[bj (λz=>hb (by rw[z];exact ha))]
 exact h b u e hb
theorem ql.new(h:ql L H H')(n:H a=none):ql L H (L2.upd H' a o):=λb u e hb=>by
 rw[bj (bi e n)]
 exact h b u e hb
theorem ql.trans(a:ql L H H1)(b:ql L H1 H2):ql L H H2:=λc o e hc=>b c o (a c o e hc) hc
inductive Each{α:Type}(P:α->Prop):List α->Prop
 | nil:Each P []
 | cons {a:α} {l:List α}:P a->Each P l->Each P (a::l)
theorem Each.mem{P:α->Prop}:∀{l:List α},Each P l->∀a∈l,P a
 | _,.nil,_,h=>absurd h zI
 | _,.cons p r,a,h=>by
  rcases zO.mp h with e|e
  ·rw[e];exact p
  ·exact r.mem a e
def Cx.comp(X:Cx)(scope:Scope)(cl:List (Str×Addr))(C:Addr)(fp:List Addr)(B:List Str)(s2:Shared)(H2:Hp):Cx where
 prog:=X.prog
 w:=X.w
 K:=X.K
 mg:=X.mg
 base:=X.base
 A:=X.A
 N:=B
 s₀:=s2
 H₀:=H2
 env:=compEnvC scope cl C X.env
 outer:=X.stack
 stack:=X.stack
 ex:=fp
 fn:=λ_=>false
 calm:=X.calm
 pn:=[]
 xe:=λ_ _=>False
structure BU(X:Cx)(scope:Scope)(cl:List (Str×Addr))(own fr:List Str)(js:List Nat):Prop where
 kind:scope.kind=.function
 Mt:closureFor scope X.env=pure cl
 JR:∀y∈scope.names,y.2≠.cell
 names:∀y∈scope.names,y.2=.local->scope.names.lookup y.1=some .local
 cells:Each (λ(p:Str×Addr)=>X.env.cells.lookup p.1=some p.2) cl
 has:Each (λ(p:Str×NameKind)=>((p.2 != .cell&&p.2 != .free)||(cl.lookup p.1).isSome)=true) (relabel scope X.env).names
 fr:Paired (λ(x:Str)(j:Nat)=>X.N[j]?=some x/\(X.env.kindOf x=some .cell\/X.env.kindOf x=some .free)/\((relabel scope X.env).names.lookup x=some .cell\/(relabel scope X.env).names.lookup x=some .free)) fr js
 calm:X.calm=true
def FF(own:List Str)(js:List Nat)(σ:St):St:=own.map (λ_=>none)++js.map λj=>(σ[j]?).join
theorem _root_.PySem.Paired.getL{F:α->β->Prop}:∀{l₁:List α}{l₂:List β}{i:Nat}{a:α},Paired F l₁ l₂->l₁[i]?=some a->∃b,l₂[i]?=some b/\F a b
 | _,_,_,_,.nil,e=>by simp at e
 | _,_,0,_,.cons r _,e=>by simp at e;subst e;exact⟨_,rfl,r⟩
 | _,_,i+1,a,.cons _ t,e=>by
  obtain⟨u,h1,h2⟩:=PySem.Paired.getL (i:=i) (a:=a) t (by simpa using e)
  exact⟨u,by simpa using h1,h2⟩
section
variable{fr:List Str}
theorem BU.cell(c:BU X scope cl own fr js)(h:cl.lookup x=some a):X.env.cells.lookup x=some a:=c.cells.mem _ (a03 h)
theorem Inv.block(c:BU X scope cl own fr js)(I:Inv X aO σ H s)(hf:∀b∈fp,Bx X aO H b/\b<s.heap.objs.size){m:Str->Option Value}
  (k:∀b o,s.heap.get? b=some o->h'.get? b=some o) (hC:s.heap.objs.size<=C) (O:s.heap.objs.size<=D) (JS:D≠C) (ns:h'.Ns C m) (hl:h'.get? D=some { cls:=.type "list",data:=.seq #[] }) :
  Inv (X.comp scope cl C fp (own++fr) s H) [] (FF own js σ) (upd H D (.lst [])) { s with heap:=h',toks:=t' }:=by
 have fC:H C=none:=I.yx.fresh hC
 have lt:∀{b:Addr}{o:Obj},s.heap.get? b=some o->b<s.heap.objs.size:=λe=>Heap.lt_size e
 have Hm:∀x a,cl.lookup x=some a->∃v,s.heap.IsCell a v:=λx a e=>I.cell x a (c.cell e)
 refine⟨⟨I.ok.mod,c.kind,I.ok.glob,I.ok.blt,hC,λx y a h1 h2=>I.ok.inj x y a (c.cell h1) (c.cell h2),λx hx=>?_,λx a z=>(by cases z),I.ok.hd,I.ok.frames,.inl rfl,λb hb=>⟨?_,λx a e=>?_⟩,I.bs,yE I.ok.HV I.sz,λb o e hb=>?_,λb hb hz=>?_,I.stack,I.EL⟩,
  rfl,I.bare,?_,⟨m,ns,λi x v h1 h2 h3=>?_⟩,λx a e=>?_,?_,λx a e=>?_,λp hp=>absurd (show p∈([]:List (Addr×Obj))from hp) zI,?_,?_⟩
 ·have B:(relabel scope X.env).names.lookup x=some .cell\/(relabel scope X.env).names.lookup x=some .free:=hx
  walk_at "T"
  rcases B with h|h
  ·exact z _ h (.inl rfl)
  ·exact z _ h (.inr rfl)
 ·exact yK (yC (hf b hb).2 hC)
 ·exact(hf b hb).1.2.2.2.2.1 x a (c.cell e)
 ·rcases(hf b hb).1.2.2.2.1 with z|z
  ·exact I.ok.Fe b o e z
  ·exact absurd (yC (Heap.lt_size e) (yE I.ok.HV z)) (qO _)
 ·rcases zO.mp (I.Dh b hz)with z|z
  ·exact(hf b hb).1.2.1 z
  ·exact(hf b hb).1.2.2.1 z
 ·exact Un.laid k O (I.yx.fresh O)
 ·-- Lu names P6 it P8
  walk_at "j"
  obtain⟨m0,Zr,U⟩:=I.loc
  obtain⟨u,r,l⟩:=U j x v hN Pl (hk.elim (λz=>.inr (.inl z)) λz=>.inr (.inr z))
  refine⟨u,r,.inr ⟨hr,?_⟩⟩
  rcases l with ⟨Bp,_⟩|⟨_,a,ea,ca⟩
  ·rcases hk with z|z <;>(rw[Bp]at z;cases z)
  ·have B:∃b,cl.lookup x=some b:=by
    walk_at "T"
    rcases hr with h|h
    ·exact z _ h (.inl rfl)
    ·exact z _ h (.inr rfl)
   obtain⟨b,Y⟩:=B
   have G:=c.cell Y
   rw[ea]at G
   cases G
   obtain⟨o,ho,hd⟩:=ca
   exact⟨a,Y,o,k _ _ ho,hd⟩
 ·obtain⟨v,o,ho,hd⟩:=Hm x a e
  exact⟨v,o,k _ _ ho,hd⟩
 ·show upd H D (.lst []) C=none
  rw[bj JS.symm];exact fC
 ·obtain⟨v,o,ho,hd⟩:=Hm x a e
  rw[bj (yK (yC (lt ho) O))]
  exact I.A_ x a (c.cell e)
 ·exact I.yx.laid k O ⟨yH _,[],0,.nil,hl⟩
 ·unfold FF
  show _=(own++fr).length
  have:=c.fr.length
  rw[zN,zN,zB,zB]
  lia
theorem Inv.ES(I:Inv X aO σ H s)(hf:∀b∈fp,Bx X aO H b){B:List Str}{pl:List (Addr×Obj)}{σ':St}
  (J:Inv (X.comp scope cl C fp B s H) pl σ' H' s'):Inv X aO σ H' s' :=
 I.LV (ch:=fp) J.os J.base J.yx J.bare λb hb=>⟨(hf b hb).2.2.2.1,(hf b hb).2.1,(hf b hb).2.2.2.2.1,(hf b hb).2.2.2.2.2⟩
end
def Mu(X:Cx)(ifs:List Expr)(t:TT):Prop :=
 ∀(aO:List (Addr×Obj))(s:Shared)(σ:St)(H:Hp)(Q:Bool->Hp->Prop),Inv X aO σ H s->t σ H Q ->
  wpAny (model X.prog X.w) X.A (forIn ifs true λc r=>if r=true then do let ok ←isTrue c X.env (eval c X.env);pure (ForInStep.yield ok)else pure (ForInStep.yield r)) (TP X aO σ Q) X.xe s
def Mv:TT:=λ_ H Q=>Q true H
theorem bB:Mu X [] Mv:=λ_ _ _ H _ I h=>wpAny_tests_nil ⟨H,I,h⟩
theorem cB{c:Expr}{t:TT}(h:PT X c t):Mu X [c] t:=λaO s σ H Q I q=>wpAny_tests_one (h aO s σ H Q I q)
def Cq(J:It)(D:Addr)(σ0:St)(g:TG)(tc:TT)(te:TE)(H1:Hp)(Q:Hp->Prop):Prop :=
 ∃W:Nat->Nat->Hp->Prop,(∃m,W 0 m (upd H1 D (.lst [])))/\∀i m H,W i m H ->
  (J.stop i H/\Q H)\/(J.go i H/\∀x H',J.J6 i H x H'->g x σ0 H' fun σ2 H2=>tc σ2 H2 λb H3 =>
   if b=true then te σ2 H3 λy H4=>∃ys,H4 D=some (.lst ys)/\ys.length<sizeLine/\∃B,B<m/\W (i+1) B (upd H4 D (.lst (ys++[y])))else ∃B,B<m/\W (i+1) B H3)
section
variable{ifs:List Expr}{fr:List Str}{g:TG}
theorem iV{s1:Shared}{tn:Nat->Heap->Prop}{J:It}{m:Str->Option Value}{Q:Hp->Prop}{R:Result->Shared->Prop}
  (c:BU X scope cl own fr js) (I:Inv X aO σ H1 s1) (T:Turn X.prog X.w X.K tg J fp it tn) (st:tn 0 s1.heap) (hf:∀b∈fp,Bx X aO H1 b)
  (hg:PG (X.comp scope cl C fp (own++fr) s1 H1) tg g) (hc:Mu (X.comp scope cl C fp (own++fr) s1 H1) ifs tc) (he:PE (X.comp scope cl C fp (own++fr) s1 H1) elt te)
  (k:∀b o,s1.heap.get? b=some o->h'.get? b=some o) (hC:s1.heap.objs.size<=C) (hD:s1.heap.objs.size<=D) (JS:D≠C) (ns:h'.Ns C m) (hl:h'.get? D=some { cls:=.type "list",data:=.seq #[] })
  (q:Cq J D (FF own js σ) g tc te H1 Q)
  (fin:∀H' s' G,Inv X aO σ H' s'->s'.heap.Ns C G->H' C=none->Q H'->R (.ok .next) s') :
  codeAny (model X.prog X.w) X.A (.compLoop (.ListComp elt [⟨tg,iter,ifs,0⟩] scope pos) 0 (.ref it) (.ref D) (compEnvC scope cl C X.env)) R { s1 with heap:=h',toks:=t' }:=by
 have Y:∀b∈fp,Bx X aO H1 b/\b<s1.heap.objs.size:=λb hb=>by
  obtain⟨o,e,_⟩:=T.obj _ _ st b hb
  exact⟨hf b hb,Heap.lt_size e⟩
 have J0:Inv (X.comp scope cl C fp (own++fr) s1 H1) [] (FF own js σ) (upd H1 D (.lst [])) { s1 with heap:=h',toks:=t' }:=I.block c Y k hC hD JS ns hl
 have VL:∀b∈fp,(upd H1 D (.lst [])) b=none:=λb hb=>by
  rw[bj (yK (yC (Y b hb).2 hD))]
  exact(hf b hb).1
 have BV:tn 0 h':=T.keep _ _ _ st λb _ o e=>k b o e
 obtain⟨W,⟨m0,w0⟩,turn⟩:=q
 have O:∀{H':Hp},(∀b∈fp,H' b=none)->∀b∈fp,Bx (X.comp scope cl C fp (own++fr) s1 H1) [] H' b:=λhn b hb=>by
  refine⟨hn b hb,yK (yC (Y b hb).2 hC),λz=>?_,.inl hb,λx a e=>(hf b hb).2.2.2.2.1 x a (c.cell e),λp hp=>absurd (show p∈([]:List (Addr×Obj))from hp) zI⟩
  rcases zO.mp (I.Dh b z)with z|z
  ·exact(hf b hb).2.1 z
  ·exact(hf b hb).2.2.1 z
 refine codeAny_loop rfl (λn s'=>∃i H',Inv (X.comp scope cl C fp (own++fr) s1 H1) [] (FF own js σ) H' s'/\tn i s'.heap/\(∀b∈fp,H' b=none)/\W i n H') ?_ m0 ⟨0,_,J0,BV,VL,w0⟩
 rintro n s3 ⟨i,H3,I3,CG,SX,w3⟩
 show wpAny _ X.A ((compTurn (.ListComp elt [⟨tg,iter,ifs,0⟩] scope pos) 0 (.ref it) (.ref D) (compEnvC scope cl C X.env)).onRaise (λx=>do noteFrame x (compEnvC scope cl C X.env);theTreesLotGoes x)) _ _ s3
 refine wpAny_noted ?_
 rw[compTurn_list]
 have weak:∀{α:Type}{tr:Sem α}{Q':α->Shared->Prop}{E':Value->Shared->Prop}{s':Shared},wpAny (model X.prog X.w) X.A tr Q' (λ_ _=>False) s'->wpAny (model X.prog X.w) X.A tr Q' E' s':=λh=>wpAny_mono h (λ_ _ z=>z) λ_ _ z=>z.elim
 refine wpAny_bind (wpAny_standAt (wpAny_bind ?_))
 rcases turn i n H3 w3 with ⟨stop,qn⟩|⟨go,step⟩
 ·refine weak (zd (T.done (X.comp scope cl C fp (own++fr) s1 H1) rfl rfl rfl c.calm i [] s3 _ H3 _ I3 (O SX) CG stop) λr s4 ⟨hr,I4⟩=>?_)
  subst hr
  refine wpAny_pure ?_
  obtain⟨G,Ff,_⟩:=I4.loc
  exact fin H3 s4 G (I.ES hf I4) Ff I4.free qn
 ·refine weak (zd (T.item (X.comp scope cl C fp (own++fr) s1 H1) rfl rfl rfl c.calm i [] s3 _ H3 _ I3 (O SX) CG go) λr s4 ⟨u,hr,h4⟩=>?_)
  subst hr
  refine wpAny_bind (weak (zd h4 λ_ s5 ⟨x,H5,I5,r5,y5,FH,PL⟩=>?_))
  have PM:=I5.pinned (O PL) (T.obj _ _ FH)
  refine wpAny_bind (weak (zd (hg _ s5 _ H5 x u _ PM r5 (step x H5 y5)) λ_ s6 ⟨σ6,H6,I6,q6⟩=>?_))
  have back:∀{σ7:St}{H7:Hp}{s7:Shared}{G:Nat},Inv (X.comp scope cl C fp (own++fr) s1 H1) ([]++Cn fp s5.heap) σ7 H7 s7->G<n->W (i+1) G H7->Inv (X.comp scope cl C fp (own++fr) s1 H1) [] (FF own js σ) H7 s7 ->
    ∃m,m<n/\∃i H',Inv (X.comp scope cl C fp (own++fr) s1 H1) [] (FF own js σ) H' s7/\tn i s7.heap/\(∀b∈fp,H' b=none)/\W i m H':=fun {σ7 H7 s7 G} B hm w7 I8=>by
   refine⟨G,hm,i+1,H7,I8,T.keep _ _ _ FH λb hb o e=>(B.pin (b,o) (zU _ (zU _ (dX hb e)))).1,λb hb=>?_,w7⟩
   obtain⟨o,e,d⟩:=T.obj _ _ FH b hb
   exact(B.pin (b,o) (zU _ (zU _ (dX hb e)))).2.1
  have U:∀{σ7:St}{H7:Hp}{s7:Shared}{pl:List (Addr×Obj)},Inv (X.comp scope cl C fp (own++fr) s1 H1) pl σ7 H7 s7->Inv (X.comp scope cl C fp (own++fr) s1 H1) [] (FF own js σ) H7 s7:=fun {σ7 H7 s7 pl} B=>by
   have IX:=I.ES hf B
   obtain⟨G,Ff,_⟩:=B.loc
   obtain⟨mX,nX,lX⟩:=IX.loc
   refine⟨B.ok,B.os,B.bare,B.base,⟨G,Ff,λi x v h1 h2 h3=>?_⟩,B.cell,B.free,B.A_,λp hp=>absurd (show p∈([]:List (Addr×Obj))from hp) zI,B.yx,I3.len⟩
   walk_at "j"
   obtain⟨u,r,l⟩:=lX j x v hN Pl (hk.elim (λz=>.inr (.inl z)) λz=>.inr (.inr z))
   refine⟨u,r,.inr ⟨hr,?_⟩⟩
   rcases l with ⟨Bp,_⟩|⟨_,a,ea,ca⟩
   ·rcases hk with z|z <;>(rw[Bp]at z;cases z)
   ·obtain⟨b,eb⟩:=B.ok.has x hr
    have SY:=c.cell eb
    rw[ea]at SY
    cases SY
    exact⟨a,eb,ca⟩
  refine wpAny_bind (weak (zd (hc _ s6 σ6 H6 _ I6 q6) λok s7 ⟨H7,B,q7⟩=>?_))
  cases ok with
  | false =>
   have P9:=(if_neg (by decide:¬(false=true))).mp q7
   obtain⟨G,hm,w7⟩:=P9
   exact wpAny_pure ⟨rfl,back B hm w7 (U B)⟩
  | true =>
   have P9:=(if_pos (rfl:true=true)).mp q7
   refine wpAny_bind (wpAny_bind (weak (zd (he _ s7 σ6 H7 _ B P9) λy s8 ⟨v8,H8,I8,r8,ys,e8,z8,G,hm,w8⟩=>?_)))
   refine wpAny_bind (weak (zd (bH (X:=X.comp scope cl C fp (own++fr) s1 H1) _ s8 σ6 H8 (.ref D) [v8] (.ref D) [y] (λ_ H9=>H9=upd H8 D (.lst (ys++[v8]))) I8 rfl (.cons r8 .nil) ⟨D,ys,v8,rfl,rfl,e8,z8,rfl⟩) λ_ s9 ⟨_,H9,I9,_,e9⟩=>?_))
   subst e9
   exact wpAny_pure (wpAny_pure ⟨rfl,back I9 hm w8 (U I9)⟩)
end
section
variable{ifs:List Expr}{fr:List Str}{g:TG}
def Jf(wi:TI)(own:List Str)(js:List Nat)(g:TG)(tc:TT)(te:TE):TE:=fun σ H Q=>wi σ H λJ H1=>∀D,H1 D=none->Cq J D (FF own js σ) g tc te H1 λH2=>Q (.ref D) H2
theorem EJ(c:BU X scope cl own fr js)(hi:PI X tg iter wi)(hg:∀C fp s H,PG (X.comp scope cl C fp (own++fr) s H) tg g)(hc:∀C fp s H,Mu (X.comp scope cl C fp (own++fr) s H) ifs tc)
  (he:∀C fp s H,PE (X.comp scope cl C fp (own++fr) s H) elt te) (hs:∀x,foldedSetIterable iter X.env x=pure x:=by intro _;rfl) :
  PE X (.ListComp elt [⟨tg,iter,ifs,0⟩] scope pos) (Jf wi own js g tc te):=by
 intro aO s σ H Q I h
 rw[eval_ListComp]
 refine wpAny_comprehension_free (use:=none) rfl hs c.Mt c.kind c.names (zd (hi aO s σ H _ I h) λv s1 h1=>zd h1 λSI s2 h2=>?_)
 walk_at "g"
 have B:∀t',codeAny (model X.prog X.w) X.A (.compLoop (.ListComp elt [⟨tg,iter,ifs,0⟩] scope pos) 0 (.ref it) (.ref s2.heap.objs.size) (compEnvC scope cl hp.objs.size X.env))
   (compPost (model X.prog X.w) X.A X.xe none (EP X aO σ Q) (.ref s2.heap.objs.size) hp.objs.size) { s2 with heap:=h₁,toks:=t' }:=λt' =>
  iV c I2 T Ca f2 (hg _ _ _ _) (hc _ _ _ _) (he _ _ _ _) old HL (zJ _) JS HJ hl (q _ (I2.yx.fresh (zJ _))) λH' s' m' I' O U qn=>by
   refine⟨m',O,λEh G=>⟨.ref s2.heap.objs.size,H',?_,rfl,qn⟩⟩
   obtain⟨f0,f1,_,f3,f4,f5⟩:=I2.Dj HL U
   exact I'.turned (t':=s'.toks) (λb o hb e=>G.extBut b o hb e) f0 f1 f3 f4 f5
 have Y:tn 0 h₁:=T.keep _ _ _ Ca λb _ o e=>old b o e
 exact codeAny_compStart_list (B _) (T.self _ 0 _ _ _ Y (B _))
theorem Dd{O B:Pos}(hN:X.N.Nodup)(Y:X.N[i]?=some y)(hx:Loc X.env.scope y)
  (VM:swapsWith (.ListComp elt [⟨tg,iter,ifs,0⟩] scope pos) (some (.Name y O)) B.line X.env=pure true)
  (c:BU X scope cl own fr js) (hi:PI X tg iter wi) (hg:∀C fp s H,PG (X.comp scope cl C fp (own++fr) s H) tg g) (hc:∀C fp s H,Mu (X.comp scope cl C fp (own++fr) s H) ifs tc)
  (he:∀C fp s H,PE (X.comp scope cl C fp (own++fr) s H) elt te) (hs:∀x,foldedSetIterable iter X.env x=pure x:=by intro _;rfl)
  (VN:X.fn y=true\/X.env.scope.names.lookup y=some .local:=by first|exact .inl rfl|exact .inr rfl|assumption) :
  PS X (.Assign [.Name y O] (.ListComp elt [⟨tg,iter,ifs,0⟩] scope pos) B) (J4 (Jf wi own js g tc te) (FK i)):=by
 intro aO s σ H D I h
 rw[exec_Assign_Name_used _ _ _ _ VM]
 refine wpAny_bind (wpAny_standAt (wpAny_bind ?_))
 show wpAny _ X.A (do let _ ←comprehension (.ListComp elt [⟨tg,iter,ifs,0⟩] scope pos) scope X.env _ (newList []) false (eval iter X.env) (some (assign (.Name y O) X.env))) _ _ s
 refine wpAny_bind (wpAny_mono (wpAny_comprehension_free (use:=some (assign (.Name y O) X.env)) (Q:=λ_ s'=>SP X aO D .next s') rfl hs c.Mt c.kind c.names
  (zd (hi aO s σ H _ I h) λv s1 h1=>zd h1 λSI s2 h2=>?_)) (λ_ s' hq=>wpAny_pure (wpAny_pure hq)) λ_ _ e=>e)
 walk_at "g"
 have G:∀t',codeAny (model X.prog X.w) X.A (.compLoop (.ListComp elt [⟨tg,iter,ifs,0⟩] scope pos) 0 (.ref it) (.ref s2.heap.objs.size) (compEnvC scope cl hp.objs.size X.env))
   (compPost (model X.prog X.w) X.A X.xe (some (assign (.Name y O) X.env)) (λ_ s'=>SP X aO D .next s') (.ref s2.heap.objs.size) hp.objs.size) { s2 with heap:=h₁,toks:=t' }:=λt' =>
  iV c I2 T Ca f2 (hg _ _ _ _) (hc _ _ _ _) (he _ _ _ _) old HL (zJ _) JS HJ hl (q _ (I2.yx.fresh (zJ _))) λH' s' m' I' Ff VO qn=>by
   obtain⟨f0,f1,VP,f3,f4,f5⟩:=I2.Dj HL VO
   obtain⟨oC,es,ep,eC,dC,rC⟩:=id Ff
   have VQ:Inv X (aO++[(hp.objs.size,oC)]) σ H' s':=I'.Di λp VR=>(zW.mp VR).elim (λz=>I'.pin p (zU _ z)) λz=>by
    rw[zF]at z
    subst z
    exact⟨eC,f0,f1,VP,λv z=>by rw[dC]at z;cases z⟩
   show wpAny _ X.A (assign (.Name y O) X.env (.ref s2.heap.objs.size)) _ _ s'
   refine zd (fB (i:=i) hN Y hx VN _ s' σ H' (.ref s2.heap.objs.size) (.ref s2.heap.objs.size) _ VQ rfl qn) λ_ s7 ⟨σ7,H7,I7,q7⟩=>?_
   have p7:=I7.pin (hp.objs.size,oC) (zU _ (zU _ (y9 _)))
   refine⟨m',⟨oC,es,ep,p7.1,dC,rC⟩,λEh U=>⟨σ7,H7,?_,q7⟩⟩
   exact I7.BJ.turned (t':=s7.toks) (λb o hb e=>U.extBut b o hb e) p7.2.1 f1 f3 f4 f5
 have VS:tn 0 h₁:=T.keep _ _ _ Ca λb _ o e=>old b o e
 exact codeAny_compStart_list (G _) (T.self _ 0 _ _ _ VS (G _))
end
section
variable{g:TG}{Q:Hp->Prop}
theorem bA(Pv:Nat->Hp->Prop)(h0:Pv 0 (upd H1 D (.lst [])))(hl:∀i H,i<=xs.length->Pv i H->eH K H a xs)
  (hs:∀i x H (m:Nat) (W:Nat->Nat->Hp->Prop),xs[i]?=some x->Pv i H->(∀H',Pv (i+1) H'->∃B,B<m/\W (i+1) B H')->g x σ0 H fun σ2 H2=>tc σ2 H2 λb H3 =>
   if b=true then te σ2 H3 λy H4=>∃ys,H4 D=some (.lst ys)/\ys.length<sizeLine/\∃B,B<m/\W (i+1) B (upd H4 D (.lst (ys++[y])))else ∃B,B<m/\W (i+1) B H3)
  (hd:∀H,Pv xs.length H->Q H):Cq (Lq K a) D σ0 g tc te H1 Q:=by
 walk_at "n"
theorem dj(Pv:Nat->Hp->Prop)(h0:Pv 0 (upd H1 D (.lst [])))(hl:∀i H,i<=xs.length->Pv i H->ze K H a xs)
  (hs:∀i x H (m:Nat) (W:Nat->Nat->Hp->Prop),xs[i]?=some x->Pv i H->(∀H',Pv (i+1) H'->∃B,B<m/\W (i+1) B H')->g x σ0 H fun σ2 H2=>tc σ2 H2 λb H3 =>
   if b=true then te σ2 H3 λy H4=>∃ys,H4 D=some (.lst ys)/\ys.length<sizeLine/\∃B,B<m/\W (i+1) B (upd H4 D (.lst (ys++[y])))else ∃B,B<m/\W (i+1) B H3)
  (hd:∀H,Pv xs.length H->Q H):Cq (Lr K a) D σ0 g tc te H1 Q:=by
 walk_at "n"
theorem cy(Pv:Nat->Hp->Prop)(h0:Pv 0 (upd H1 D (.lst [])))
  (hs:∀i H (m:Nat) (W:Nat->Nat->Hp->Prop),i<n->Pv i H->(∀H',Pv (i+1) H'->∃B,B<m/\W (i+1) B H')->g (.int (lo+i)) σ0 H fun σ2 H2=>tc σ2 H2 λb H3 =>
   if b=true then te σ2 H3 λy H4=>∃ys,H4 D=some (.lst ys)/\ys.length<sizeLine/\∃B,B<m/\W (i+1) B (upd H4 D (.lst (ys++[y])))else ∃B,B<m/\W (i+1) B H3)
  (hd:∀H,Pv n H->Q H):Cq (IW lo n) D σ0 g tc te H1 Q:=by
 refine⟨λi m H=>m=n-i/\i<=n/\Pv i H,⟨n,by simp,yH _,h0⟩,?_⟩
 rintro i m H ⟨rfl,hi,p⟩
 by_cases Ay:i<n
 ·refine .inr ⟨Ay,λx H' y=>?_⟩
  obtain⟨e,y⟩:=y
  subst e y
  exact hs i _ (n-i) (λi m H=>m=n-i/\i<=n/\Pv i H) Ay p λH' p'=>⟨n-(i+1),by lia,rfl,Ay,p'⟩
 ·have e:i=n:=by lia
  subst e
  exact .inl ⟨zJ _,hd H p⟩
end
theorem ju:bootBuiltins "enumerate"=some (.type "enumerate"):=by decide +kernel
def P_(K:PySem.W.Frag)(a:Addr):It :=
 ⟨λi H=>∃xs x,eH K H a xs/\xs[i]?=some x,λi H x H'=>∃p v,x=.ref p/\H p=none/\(∀xs,eH K H a xs->xs[i]?=some v)/\H'=upd H p (.tup [.int i,v]),λi H=>∃xs,eH K H a xs/\xs.length<=i⟩
theorem pH(a e it:Addr)(A5:e≠it) :
  Turn P w K (.Tuple elts x1 HR) (P_ K a) [e,it] e (λi h=>∃old,IsEnum h e it i old/\h.IsListIter it a i) where
 mem:=by simp
 obj:=λi h st b hb=>by
  obtain⟨old,h1,h2⟩:=st
  rcases zO.mp hb with r|r
  ·subst r
   exact⟨_,h1,λv z=>by cases z⟩
  ·have r:=zF.mp r
   subst r
   obtain⟨o,e2,c,d⟩:=h2
   exact⟨o,e2,λv z=>by rw[d]at z;cases z⟩
 keep:=λi h h' st k=>by
  obtain⟨old,h1,h2⟩:=st
  exact⟨old,k e (by simp) _ h1,h2.at λo q=>k it (by simp) o q⟩
 item:=by
  walk_at "s"
  obtain⟨xs,x,hq,hx⟩:=hg
  obtain⟨its,rv,p,hz⟩:=I.list hq
  obtain⟨u,hu,ru⟩:=rv.get hx
  obtain⟨old,h1,h2⟩:=st
  have fe:=hf e (by simp)
  have O:=hf it (by simp)
  refine wpAny_pyNext_enum_item h1 h2 p.isList (x:=u) (by simpa using hu) A5 λh' out VU tup sz k=>?_
  refine⟨_,rfl,wpAny_letOwnedTupleGo_enum out λEh en sb=>?_⟩
  have U:H s.heap.objs.size=none:=I.yx.fresh (zJ _)
  have lt:∀{b:Addr}{o:Obj},s.heap.get? b=some o->b≠s.heap.objs.size:=λq=>yK (Heap.lt_size q)
  have Y:∀b o,b≠e->b≠it->s.heap.get? b=some o->Eh.get? b=some o:=λb o n1 n2 q=>sb.extBut b o n1 (k b o n1 n2 q)
  have pe:s.heap.objs.size≠e:=Ne.symm (lt h1)
  have VV:s.heap.objs.size≠it:=by
   obtain⟨o,e2,_⟩:=h2
   exact Ne.symm (lt e2)
  have Qa:Eh.get? s.heap.objs.size=some { cls:=.type "tuple",data:=.seq #[.int i s.toks,u] }:=sb.extBut _ _ pe tup
  have VW:Eh.IsListIter it a (i+1):=VU.at λo q=>sb.extBut it o (Ne.symm A5) q
  have G:∀{b:Addr},b∉[e,it]->b≠e/\b≠it:=λhb=>⟨λz=>hb (by simp [z]),λz=>hb (by simp [z])⟩
  have El:∀{b:Addr}{o:HO},H b=some o->b≠e/\b≠it:=λq=>⟨λz=>(by rw[z,fe.1]at q;cases q),λz=>(by rw[z,O.1]at q;cases q)⟩
  have I1:Inv X aO σ (upd H s.heap.objs.size (.tup [.int i,x])) { s with heap:=Eh,toks:=s.toks+1 }:=by
   refine I.step (g':=s.gens) (d':=s.drawn) (ch:=[e,it]) (λb hb=>?_) (λb o _ _ B q _=>Y b o (G B).1 (G B).2 q) (λb o _ _ B q _=>⟨o.slots,Y b o (G B).1 (G B).2 q⟩)
    (λb o _ q n=>by rw[bj (lt q)];exact n) (λb o B q=>⟨o,Y b o (G B).1 (G B).2 q⟩) (λb ys q=>by rw[bj (bi q U)];exact q) (λb o y q=>by rw[bj (bi q U)];exact q)
    (λb ps q=>⟨#[],by rw[bj (bi q U),q];simp⟩) (λm hm=>?_) (λb o q=>?_) I.bare
   ·rcases zO.mp hb with r|r
    ·rw[r];exact⟨fe.2.2.2.1,fe.2.1,fe.2.2.2.2.1,fe.2.2.2.2.2⟩
    ·rw[zF.mp r];exact⟨O.2.2.2.1,O.2.1,O.2.2.2.2.1,O.2.2.2.2.2⟩
   ·obtain⟨o,es,ep,ho,r⟩:=hm
    exact⟨o,es,ep,Y _ o (Ne.symm fe.2.1) (Ne.symm O.2.1) ho,r⟩
   ·by_cases hb:b=s.heap.objs.size
    ·subst hb
     rw[bg]at q
     cases q
     exact⟨(by show 2<=sizeLine;decide),[.int i s.toks,u],.cons ⟨_,rfl⟩ (.cons ru .nil),⟨_,Qa,rfl,_,rfl⟩⟩
    ·rw[bj hb]at q
     refine(I.yx b o q).De (λc v B z=>?_) (λc z=>by rw[bj (bi z U)];exact z) λc ys z=>by rw[bj (bi z U)];exact z
     rcases B with r|r
     ·rw[r]at z ⊢;exact Y _ _ (El q).1 (El q).2 z
     ·exact Y _ _ (El r).1 (El r).2 z
  have VX:IsEnum Eh e it ((i+1:Nat):Int) u:=en
  refine⟨.ref s.heap.objs.size,_,I1,rfl,⟨_,x,rfl,U,λys hy=>by rw[I.Cm hy hq];exact hx,rfl⟩,⟨u,VX,VW⟩,λb hb=>?_⟩
  rcases zO.mp hb with r|r
  ·rw[r,bj pe.symm];exact fe.1
  ·rw[zF.mp r,bj VV.symm];exact O.1
 done:=by
  walk_at "s"
  obtain⟨xs,hq,hx⟩:=hg
  obtain⟨its,rv,p,hz⟩:=I.list hq
  obtain⟨old,h1,h2⟩:=st
  walk_at "K"
  have hl:=rv.length
  exact wpAny_pyNext_enum_end (I.ok.hd hc) h1 h2 p.isList (by simp;lia) λh' eb=>⟨rfl,I.turned (t':=s.toks) (λb o hb q=>eb b o hb q) f0 f1 f3 f4 f5⟩
 self:=λ_ _ _ _ _ st h=>by
  obtain⟨old,h1,_⟩:=st
  exact wpAny_pyIter_enum h1 h
inductive F4(K:PySem.W.Frag)(R:It->Hp->Prop)(vs:List V)(H1:Hp):Prop where
 | mk (a:_) (ui:vs=[.ref a]) (uj:(∃xs,eH K H1 a xs)) (zf:R (P_ K a) H1):F4 K R vs H1
def Mw(K:PySem.W.Frag)(ta:TA):TI:=fun σ H R=>ta σ H λvs H1=>F4 K R vs H1
theorem nV{l:Expr}{ta:TA}{p:Pos}(hg:Gl X "enumerate")(hm:X.mg "enumerate"=none)(ha:PA X [l] ta)(hs:starEach [l] X.env=[(false,eval l X.env)]:=by rfl) :
  PI X (.Tuple elts x1 HR) (.Call (.Name "enumerate" p) [l] [] pos) (Mw X.K ta):=by
 intro aO s σ H R I h
 refine Call_ (gh I hg hm ju (PyProof.Rows.callWith_type1 (zd (ha pos aO s σ H _ I h) λus s1 ⟨vs,H1,I1,G,O⟩=>?_) hs rfl))
 obtain⟨a,rfl,⟨xs,hq⟩,q⟩:=O
 obtain⟨u,rfl,ru⟩:=dy G
 cases ru
 obtain⟨its,rv,pl,hz⟩:=I1.list hq
 refine call_enumerate_list pl.isList λh' B it sz k=>?_
 refine wpAny_pyIter_enum B ?_
 have I2:Inv X aO σ H1 { s1 with heap:=h' }:=I1.kept (t':=s1.toks) k
 refine⟨s1.heap.objs.size+1,[s1.heap.objs.size+1,s1.heap.objs.size],_,_,H1,rfl,I2,pH a _ _ (Nat.succ_ne_self _),⟨_,B,it⟩,λb hb=>?_,q⟩
 rcases zO.mp hb with r|r
 ·rw[r];exact I1.Dj (qQ _) (I1.yx.fresh (qQ _))
 ·rw[zF.mp r];exact I1.Dj (zJ _) (I1.yx.fresh (zJ _))
theorem iR{g:TG}{Q:Hp->Prop}(Pv:Nat->Hp->Prop)(h0:Pv 0 (upd H1 D (.lst [])))(hl:∀i H,i<=xs.length->Pv i H->eH K H a xs)
  (hs:∀i x H (m:Nat) (W:Nat->Nat->Hp->Prop),xs[i]?=some x->Pv i H->(∀H',Pv (i+1) H'->∃B,B<m/\W (i+1) B H')->∀p,H p=none->g (.ref p) σ0 (upd H p (.tup [.int i,x])) fun σ2 H2=>tc σ2 H2 λb H3 =>
   if b=true then te σ2 H3 λy H4=>∃ys,H4 D=some (.lst ys)/\ys.length<sizeLine/\∃B,B<m/\W (i+1) B (upd H4 D (.lst (ys++[y])))else ∃B,B<m/\W (i+1) B H3)
  (hd:∀H,Pv xs.length H->Q H):Cq (P_ K a) D σ0 g tc te H1 Q:=by
 refine⟨λi m H=>m=xs.length-i/\i<=xs.length/\Pv i H,⟨xs.length,by simp,yH _,h0⟩,?_⟩
 rintro i m H ⟨rfl,hi,p⟩
 have q:=hl i H hi p
 by_cases Ay:i<xs.length
 ·refine .inr ⟨⟨xs,xs[i],q,by simp [Ay]⟩,λx H' y=>?_⟩
  obtain⟨pp,v,rfl,G,hx,rfl⟩:=y
  exact hs i v _ (xs.length-i) (λi m H=>m=xs.length-i/\i<=xs.length/\Pv i H) (hx xs q) p (λH' p'=>⟨xs.length-(i+1),by lia,rfl,Ay,p'⟩) pp G
 ·have e:i=xs.length:=by lia
  subst e
  exact .inl ⟨⟨xs,q,zJ _⟩,hd H p⟩
mutual
theorem Dt.Kt:∀{n:Nat}{x:V}{d:PyData},Dt K H n x d->d.canLay0=true
 | _,_,_,.y2 _=>rfl
 | _,_,_,.bl _ _=>rfl
 | _,_,_,.int _ _=>rfl
 | _,_,_,.str _ _ h=>h
 | _,_,_,.lst _ r=>by rw[PyData.canLay0];exact zy.Kt r
 | _,_,_,.tup _ r=>by rw[PyData.canLay0];exact zy.Kt r
theorem zy.Kt:∀{n:Nat}{xs:List V}{ds:List PyData},zy K H n xs ds->PyData.canLayAll0 ds=true
 | _,_,_,.nil _=>rfl
 | _,_,_,.cons h r=>by rw[PyData.canLayAll0,Dt.Kt h,zy.Kt r];rfl
end
theorem zy.of{f:α->PyData}{P:V->α->Prop}(h:∀x a,P x a->Dt K H n x (f a)):∀{xs:List V}{as:List α},Paired P xs as->zy K H n xs (as.map f)
 | _,_,.nil=>.nil n
 | _,_,.cons p r=>.cons (h _ _ p) (zy.of h r)
theorem fY(hc:X.calm=true):Aq X (.builtin "any") (λxs H Q=>∃(p:Addr)(bs:List Bool),xs=[.ref p]/\eH X.K H p (bs.map V.bl)/\Q (.bl (bs.any id)) H):=by
 walk_at "O"
 refine call_any_walk (wpAny_pyIter_list pl.isList ?_)
 refine⟨_,_,_,_,_,_,λi=>bs.getD i false,rfl,Walks.list (A:=X.A.in1) (I.ok.hd hc) s.heap.objs.size p (yK lt) its.toArray,⟨⟨_,Heap.get?_push_size _ rfl,rfl,rfl⟩,pl.isList.push _⟩,?_,λh' tk k=>?_⟩
 ·intro i v s' B G hP hQ
  walk_at "E"
  have e:bs.getD i false=bs[i]:=by rw[zA,zD Fu];rfl
  rw[←e]
  exact hQ
 ·refine⟨.bl _,H,I.kept (t':=tk) λb o e=>k b o (λz=>?_) (Heap.get?_push_of_some _ e),rfl,?_⟩
  ·rw[zF.mp z]at e
   exact absurd (Heap.lt_size e) (qO _)
  ·have e:(List.range its.toArray.size).any (λi=>bs.getD i false)=bs.any id:=by
    rw[zP,←hl]
    clear q hq hl rv hz
    induction bs with
    | nil=>rfl
    | cons b bs ih=>rw[yD,xI,kK,vL,kK];exact congrArg (b||·) ih
   show Q (.bl _) H
   rw[e]
   exact q
section
variable{a b e o l:Expr}{tb to tl:TE}
theorem Hy(hK:X.K=K):Mj X (Ic K):=by subst hK;exact ya
theorem FC(hK:X.K=K):Mj X (Ib K):=by subst hK;exact uC
theorem bw{f:Str}(hK:X.K=K)(B:PE X e ta)(hb:attributeBase e f X.env (eval e X.env)=eval e X.env):PE X (.Attribute e f pos) (Ma K ta f):=by subst hK;exact wS B hb
theorem bx(hK:X.K=K)(hl:PE X l tl):PI X tg l (IY K tl):=by subst hK;exact tT hl
theorem cG(hK:X.K=K)(hl:PE X l tl):PI X tg l (L4 K tl):=by subst hK;exact xy hl
theorem m8{lo hi st:Option Expr}{tl ts:TO}(hK:X.K=K)(G:PE X e te)(hl:PO X lo tl)(hu:PO X hi th)(hk:PO X st ts)
  (B:∀o i,∃ops,subscripted (.Slice lo hi st p2) false o i=operate ops (getItem o i):=by intro _ _;exact⟨_,by with_unfolding_all rfl⟩) :
  PE X (.Subscript e (.Slice lo hi st p2) pos) (Mq K te tl th ts):=by subst hK;exact pP G hl hu hk B
theorem CJ(hK:X.K=K):Aq X (.builtin "len") (λxs H Q=>∃p ys,xs=[.ref p]/\(eH K H p ys\/ze K H p ys)/\Q (.int ys.length) H):=by subst hK;exact jr
theorem il(hK:X.K=K):Aq X (.builtin "isinstance") (F0 K):=by subst hK;exact pZ
theorem iu(hK:X.K=K):Aq X (.type "list") (λxs H Q=>∃p ys,xs=[.ref p]/\(eH K H p ys\/ze K H p ys)/\∀l,H l=none->Q (.ref l) (upd H l (.lst ys))):=by subst hK;exact jh
theorem jt(hK:X.K=K)(hu:X.A.units+64<cLine):BH X (compareOp .Eq) (Kr K):=by subst hK;exact xU hu
theorem ox(hK:X.K=K)(hu:X.A.units+64<cLine):BH X (compareOp .NotEq) (Ks K):=by subst hK;exact wC hu
theorem jy{k:Nat}{t:J1}(hK:X.K=K)(hc:X.calm=true)(h:LZ X es t)
  (hn:(assignEach es X.env).length=n:=by rfl) (B:(assignEach es X.env).findIdx? (·.1)=none:=by rfl):PG X (.Tuple es k pos) (J3 K n t):=by subst hK;exact ik hc h hn B
end
abbrev Cell:=Addr×HO
def Hs(H:Hp)(M:List Cell):Prop:=(M.map Prod.fst).Nodup/\∀p∈M,H p.1=some p.2
def Hc(H:Hp)(Ms:List (List Cell)):Prop:=Hs H Ms.flatten
variable{Ms:List (List Cell)}
theorem Hs.perm{M N:List Cell}(h:Hs H M)(p:M.Perm N):Hs H N :=
 ⟨(p.map Prod.fst).nodup_iff.mp h.1,λc hc=>h.2 c (p.mem_iff.mpr hc)⟩
theorem Hs.sub{M N:List Cell}(h:Hs H M)(s:List.Sublist N M):Hs H N :=
 ⟨h.1.sublist (s.map Prod.fst),λc hc=>h.2 c (s.subset hc)⟩
theorem Hc.get(h:Hc H Ms)(i j:Nat){c:List Cell}(hi:Ms[i]?=some c)(hj:c[j]?=some (a,o)):H a=some o :=
 h.2 (a,o) (jB.mpr ⟨c,zE hi,zE hj⟩)
theorem iM:∀{Ms:List (List α)}{i:Nat}{c:List α},Ms[i]?=some c->Ms.flatten.Perm (c++(Ms.eraseIdx i).flatten)
 | [],i,c,h=>by simp at h
 | d::Ms,0,c,h=>by simp at h;subst h;exact List.Perm.refl _
 | d::Ms,i+1,c,h=>by
  have ih:=iM (Ms:=Ms) (i:=i) (c:=c) (by simpa using h)
  rw[yO,kL,yO]
  refine(ih.append_left d).trans ?_
  rw[←yI,←yI]
  exact(kR).append_right _
theorem lD:∀{Ms:List (List α)}{i:Nat}{c c':List α},Ms[i]?=some c->(Ms.set i c').flatten.Perm (c'++(Ms.eraseIdx i).flatten)
 | [],i,c,c',h=>by simp at h
 | d::Ms,0,c,c',h=>List.Perm.refl _
 | d::Ms,i+1,c,c',h=>by
  have ih:=lD (Ms:=Ms) (i:=i) (c:=c) (c':=c') (by simpa using h)
  rw[List.set_cons_succ,yO,kL,yO]
  refine(ih.append_left d).trans ?_
  rw[←yI,←yI]
  exact(kR).append_right _
theorem Hc.pick(h:Hc H Ms)(i:Nat){c:List Cell}(hi:Ms[i]?=some c):Hc H (c::Ms.eraseIdx i):=Hs.perm h (iM hi)
theorem Hc.back{c c':List Cell}(h:Hc H (c'::Ms.eraseIdx i))(hi:Ms[i]?=some c):Hc H (Ms.set i c'):=Hs.perm h (lD hi).symm
theorem Hc.split{a b:List Cell}(h:Hc H ((a++b)::Ms)):Hc H (a::b::Ms):=by
 unfold Hc at h ⊢
 rw[yO,yO,←yI]
 exact h
theorem Hc.join{a b:List Cell}(h:Hc H (a::b::Ms)):Hc H ((a++b)::Ms):=by
 unfold Hc at h ⊢
 rw[yO,yO,←yI]at h
 exact h
theorem Hc.swap{a b:List Cell}(h:Hc H (a::b::Ms)):Hc H (b::a::Ms):=by
 refine Hs.perm h ?_
 rw[yO,yO,yO,yO,←yI,←yI]
 exact kR.append_right _
theorem Hc.tl{c:List Cell}(h:Hc H (c::Ms)):Hc H Ms:=by
 refine Hs.sub h ?_
 rw[yO]
 exact qE _ _
theorem Hc.same(h:Hc H Ms)(s:c0 H H'):Hc H' Ms:=⟨h.1,λp hp=>s _ _ (h.2 p hp)⟩
theorem Hc.new(h:Hc H Ms)(n:H p=none)(o:HO):Hc (upd H p o) ([(p,o)]::Ms):=by
 walk_at "H"
 ·rcases zO.mp (show c∈(p,o)::Ms.flatten from hc)with r|r
  ·rw[r];exact bg
  ·rw[bj (ne c r)];exact h.2 c r
theorem Hc.Er(h:Hc H Ms)(n:H p=none)(e:H' p=some o)(s:c0 H H'):Hc H' ([(p,o)]::Ms):=by
 walk_at "H"
 ·rcases zO.mp (show c∈(p,o)::Ms.flatten from hc)with r|r
  ·rw[r];exact e
  ·exact s _ _ (h.2 c r)
theorem Hs.put{A:List Cell}{o':HO}{B:List Cell}(h:Hs H (A++(a,o)::B)):Hs (upd H a o') (A++(a,o')::B):=by
 have ek:(A++(a,o')::B).map Prod.fst=(A++(a,o)::B).map Prod.fst:=by simp
 have nd:=h.1
 refine⟨by rw[ek];exact nd,λc hc=>?_⟩
 rw[zK,yM,List.nodup_append]at nd
 obtain⟨_,n2,n3⟩:=nd
 rw[qZ]at n2
 rcases zW.mp hc with r|r
 ·have:c.1≠a:=n3 c.1 (yF.mpr ⟨c,r,rfl⟩) a zH
  rw[bj this]
  exact h.2 c (yQ _ r)
 ·rcases zO.mp r with r|r
  ·rw[r];exact bg
  ·have:c.1≠a:=λz=>n2.1 (z▸yF.mpr ⟨c,r,rfl⟩)
   rw[bj this]
   exact h.2 c (zU _ (zL _ r))
theorem jo:∀{l:List α}{j:Nat}{x:α},l[j]?=some x->∃A B,l=A++x::B/\A.length=j
 | [],j,x,h=>by simp at h
 | y::l,0,x,h=>by simp at h;subst h;exact⟨[],l,rfl,rfl⟩
 | y::l,j+1,x,h=>by
  obtain⟨A,B,e,n⟩:=jo (l:=l) (j:=j) (x:=x) (by simpa using h)
  exact⟨y::A,B,by rw[e];rfl,by rw[yD,n]⟩
theorem fG:∀{A B:List α}{x y:α},(A++x::B).set A.length y=A++y::B
 | [],_,_,_=>rfl
 | a::A,B,x,y=>by
  show a::(A++x::B).set A.length y=a::(A++y::B)
  rw[fG]
theorem Hc.put(h:Hc H Ms)(i j:Nat){c:List Cell}(hi:Ms[i]?=some c)(hj:c[j]?=some (a,o))(o':HO):Hc (upd H a o') (Ms.set i (c.set j (a,o'))):=by
 obtain⟨A,B,e,n⟩:=jo hj
 subst e
 subst n
 rw[fG]
 refine Hc.back (c:=A++(a,o)::B) ?_ hi
 have h1:Hs H ((A++(a,o)::B)++(Ms.eraseIdx i).flatten):=h.pick i hi
 rw[yI,kN]at h1
 have h2:=h1.put (o':=o')
 show Hs (upd H a o') ((A++(a,o')::B)++(Ms.eraseIdx i).flatten)
 rw[yI,kN]
 exact h2
def AD(ls:List Addr)(os:List HO):List Cell:=ls.zip os
theorem iN{os:List HO}{l:Addr}(h1:ls[j]?=some l)(h2:os[j]?=some o):(AD ls os)[j]?=some (l,o):=by
 unfold AD
 rw[vZ]
 exact⟨h1,h2⟩
theorem fZ:∀{ls:List Addr}{os:List HO}{j:Nat}{l:Addr}{o:HO},ls[j]?=some l->(AD ls os).set j (l,o)=AD ls (os.set j o)
 | [],_,_,_,_,h=>by simp at h
 | _::_,[],_,_,_,_=>by simp [AD]
 | a::ls,u::os,0,l,o,h=>by simp at h;subst h;rfl
 | a::ls,u::os,j+1,l,o,h=>by
  show(a,u)::(AD ls os).set j (l,o)=(a,u)::AD ls (os.set j o)
  rw[fZ (by simpa using h)]
theorem Hc.pad(h:Hc H Ms):Hc H ([]::Ms):=h
theorem ff{f:α->β}{l:List α}{r r':α}(h:l[j]?=some r)(e:f r'=f r):(l.set j r').map f=l.map f:=by
 rw[j7,e]
 have:(l.map f)[j]?=some (f r):=by rw[zG,h];rfl
 obtain⟨hj,B⟩:=zC.mp this
 rw[←B]
 exact List.set_getElem_self hj
theorem ql.Ie{q:Addr}(k:ql L H H')(n:H' q=none):ql L H (L2.upd H' q o):=λb u e hb=>by
 have h:=k b u e hb
 rw[bj (bi h n)]
 exact h
theorem ql.Mx{q:Addr}{u:HO}(k:ql [p] H H')(hp:H' p=some u)(n:H' q=none):H q=none:=by
 cases e:H q with
 | none=>rfl
 | some o =>
  have:=k q o e (λz=>by rw[zF.mp z,hp]at n;cases n)
  rw[n]at this
  cases this
theorem qb(hc:X.calm=true):Aq X (.builtin "sum") (λxs H Q=>∃(p:Addr)(ns:List Int),xs=[.ref p]/\eH X.K H p (ns.map V.int)/\Q (.int ns.sum) H):=by
 intro aO s σ H xs us Q I r h
 obtain⟨p,ns,rfl,hq,q⟩:=h
 obtain⟨u,rfl,ru⟩:=dy r
 cases ru
 obtain⟨its,rv,pl,hz⟩:=I.list hq
 have hi:=di rv
 obtain⟨ys,e⟩:=hi.allInts.items
 have HQ:ns=ys.toList.map (·.1):=by
  rw[←hi.numsOf,←nums_intItems,←e]
 have hl:=pl.isList
 rw[e]at hl
 refine sum_intListG (I.ok.hd hc) hl λh' tk t' hk=>?_
 refine⟨.int _,H,I.kept (t':=tk) hk,⟨t',?_⟩,q⟩
 rw[preSum_eq,yV (by simp),HQ]
inductive ET{ι:Type}(cls:ι->Addr)(m:Str)(sp:ι->Sp)(E:XK)(t:TA)(σ:St)(Q:VK)(x:V)(H1:Hp):Prop where
 | mk (a i dx fs:_) (ui:x=.ref a) (uj:H1 a=some (.ins (cls i) dx fs)) (zf:fs.lookup m=none) (zq:t σ H1 λvs H2=>sp i (x::vs) H2 Q E):ET cls m sp E t σ Q x H1
def Ku{ι:Type}(cls:ι->Addr)(m:Str)(sp:ι->Sp)(E:XK)(ta:TE)(t:TA):TE:=fun σ H Q=>ta σ H λx H1=>ET cls m sp E t σ Q x H1
section
variable{k:Nat}{ι:Type}{cls:ι->Addr}{sp:ι->Sp}{m:Str}{e o:Expr}
theorem oh{pl:Sem Bool}(G:∀i,MethAt X.prog X.w X.K X.mg X.base k (cls i) m ps (sp i))(hr:Ae k X.A)(Y:PE X o ta)(ha:PA X (e::es) t)
  (B:starEach (e::es) X.env=(false,eval e X.env)::starEach es X.env:=by rfl) (O:(backTo pos (starEach es X.env)).any (·.1)=false:=by rfl)
  (ht:eval (.Call (.Attribute o m apos) (e::es) [] pos) X.env=(do
   let U ←eval o X.env
   standAt apos.atName
   let (f,first) ←holding [U] (getMethod U m pl)
   callWith pos f first (backTo pos (starEach (e::es) X.env)) (backToKw pos (keywordEach [] X.env))):=by rfl) :
  PE X (.Call (.Attribute o m apos) (e::es) [] pos) (Ku cls m sp E0 ta t):=by
 intro aO s σ H Q I h
 refine a08 (pl:=pl) (zd (Y aO s σ H _ I h) λu s1 ⟨x,H1,I1,rx,a,i,dx,fs,ex,ea,l,q⟩=>?_) ht
 obtain⟨f,fd,F,hm,hb⟩:=(G i).ex
 subst ex
 obtain rfl:u=Value.ref a:=rx
 refine ia I1 ea (G i).cls hm l ?_
 refine a07 (first:=[.ref a]) (h₀:=X.base) I.ok.mod.IT hm.kp (zd (ha pos aO s1 σ H1 _ I1 q) λus s2 ⟨vs,H2,I2,r,q2⟩=>⟨I2.Bt,?_⟩) B O
 exact jz (us:=.ref a::us) (vs:=.ref a::vs) (ds:=[]) (dvs:=[]) F hr hb .nil l_ I2 (.cons rfl r) (by rw[zQ];exact q2)
end
section
variable{o e:Expr}{to:TE}{id:String}{r:V->List V->Hp->VK->Prop}
theorem mF(hK:X.K=K)(pa:PlainAttrs T)(slot:Slot T name id)(Y:typeOf (.builtin id)=pure (.type "method_descriptor"))(hm:Kh X id r)(ho:PE X o to)(ha:PA X (e::es) t)
  (G:attributeBase o name X.env (eval o X.env)=eval o X.env:=by rfl)
  (U:((backTo AE (starEach (e::es) X.env)).all (λx=>!x.1)&&(backToKw AE (keywordEach [] X.env)).all (λx=>x.1.isSome)
   && decide ((e::es).length+([]:List Keyword).length+(if ([]:List Keyword).isEmpty then 0 else 1)<30))=true:=by rfl)
  (O:(apos.endLine==AE.line)=true:=by rfl) (hs:starEach (e::es) X.env=(false,eval e X.env)::starEach es X.env:=by rfl) (B:(backTo AE (starEach es X.env)).any (·.1)=false:=by rfl) :
  PE X (.Call (.Attribute o name apos) (e::es) [] AE) (SO K T r to t):=by
 subst hK
 exact bZ pa slot Y hm ho ha G U O hs B
end
theorem MethAt.imp{k:Nat}{m:Str}{sp B:Sp}(G:MethAt P w K mg base k C m ps sp)(h:∀vs H Q E,B vs H Q E->sp vs H Q E):MethAt P w K mg base k C m ps B:=by
 obtain⟨f,fd,F,hm,hb⟩:=G.ex
 exact⟨⟨f,fd,F.imp h,hm,hb⟩,G.cls⟩
theorem MethAt.mono{k:Nat}{m:Str}{sp:Sp}(G:MethAt P w K mg base j C m ps sp)(h:j<=k):MethAt P w K mg base k C m ps sp:=by
 obtain⟨f,fd,F,hm,hb⟩:=G.ex
 exact⟨⟨f,fd,F.mono h,hm,hb⟩,G.cls⟩
section
variable{d:Addr}
end
section
variable{l:Expr}{td:TE}{g:TG}
end
structure Fj where
 arr:Array Keyed
 kf:Nat->Int
 kd:SortKind
structure Kv(a₀:Fj)(st:SortSt):Prop where
 perm:(arrOf st).Perm a₀.arr
 kind:kindOf st=a₀.kd
 failed:failedOf st=none
 pend:pendingOf st=#[]
variable{a₀:Fj}
theorem Kv.size{st:SortSt}(h:Kv a₀ st):(arrOf st).size=a₀.arr.size:=h.perm.size_eq
theorem Kv.setArr{st:SortSt}(h:Kv a₀ st){xs:Array Keyed}(hp:xs.Perm (arrOf st)):Kv a₀ (PyProof.Rows.setArr st xs):=⟨hp.trans h.perm,h.kind,h.failed,h.pend⟩
def Es(a:Array Keyed):Fj:=⟨a,PyProof.Rows.K a,oneType'⟩
section
variable(a₀:Fj)
def AO(p:Nat):Int:=a₀.kf p
def CU(p q:Nat):Prop:=AO a₀ p<AO a₀ q\/(AO a₀ p=AO a₀ q/\p<q)
structure Gh(st:SortSt)(g:Array Nat):Prop where
 base:Kv a₀ st
 size:g.size=a₀.arr.size
 at':∀k:Nat,(arrOf st)[k]?=(g[k]?).bind λ(p:Nat)=>a₀.arr[p]?
 perm:g.toList.Perm (List.range a₀.arr.size)
def Aj(g:Array Nat)(k:Nat):Nat:=(g[k]?).getD 0
def zo(g:Array Nat)(n:Nat):Prop:=∀i j,i<j->j<n->CU a₀ (Aj g i) (Aj g j)
def DO(g:Array Nat)(n:Nat):Prop:=∀i j,i<j->j<n->CU a₀ (Aj g j) (Aj g i)
structure Rest(g:Array Nat)(n:Nat):Prop where
 low:∀k,k<n->Aj g k<n
 same:∀k,n<=k->k<a₀.arr.size->Aj g k=k
end
section
variable{st:SortSt}{g:Array Nat}
theorem gu(xs:Array α)(i j:Nat):(xs.swapIfInBounds i j).size=xs.size:=Array.size_swapIfInBounds
theorem oU{xs:Array Keyed}{g:Array Nat}(hs:xs.size=g.size)(h:∀k:Nat,xs[k]?=(g[k]?).bind λ(p:Nat)=>a₀.arr[p]?)(i j:Nat):∀k:Nat,(xs.swapIfInBounds i j)[k]?=((g.swapIfInBounds i j)[k]?).bind λ(p:Nat)=>a₀.arr[p]?:=λk=>by
 by_cases hi:i<xs.size
 ·by_cases hj:j<xs.size
  ·rw[getElem?_swapIB hi hj,getElem?_swapIB (by lia) (by lia)]
   split
   ·exact h i
   ·split
    ·exact h j
    ·exact h k
  ·rw[jT,jT,dif_pos hi,dif_pos (by lia:i<g.size),dif_neg hj,dif_neg (by lia)]
   exact h k
 ·rw[jT,jT,dif_neg hi,dif_neg (by lia)]
  exact h k
theorem eT(p q:β->Nat):∀(l:List β)(xs:Array Keyed)(g:Array Nat),xs.size=g.size->(∀k:Nat,xs[k]?=(g[k]?).bind λ(p:Nat)=>a₀.arr[p]?) ->
  ∀k:Nat,(l.foldl (λa k=>a.swapIfInBounds (p k) (q k)) xs)[k]?=((l.foldl (λa k=>a.swapIfInBounds (p k) (q k)) g)[k]?).bind λ(p:Nat)=>a₀.arr[p]?
 | [],_,_,_,h=>h
 | x::l,xs,g,hs,h=>eT p q l _ _ (by rw[gu,gu];exact hs) (oU hs h (p x) (q x))
theorem Gh.mirror(G:Gh a₀ st g)(i j d:Nat):Gh a₀ (setArr st (mirror (arrOf st) i j d)) (mirror g i j d) :=
 ⟨G.base.setArr (mirror_perm _ _ _ _),by rw[mirror_size];exact G.size,eT _ _ _ _ _ (by rw[G.base.size,G.size]) G.at',(vX.mp (mirror_perm g i j d)).trans G.perm⟩
theorem Gh.bubble(G:Gh a₀ st g)(src d:Nat):Gh a₀ (setArr st (bubble (arrOf st) src d)) (bubble g src d) :=
 ⟨G.base.setArr (bubble_perm _ _ _),by rw[bubble_size];exact G.size,eT _ _ _ _ _ (by rw[G.base.size,G.size]) G.at',(vX.mp (bubble_perm g src d)).trans G.perm⟩
theorem bY{g:Array Nat}(hj:j<=g.size)(k:Nat):Aj (mirror g i j ((j-i) / 2)) k=if i<=k/\k<j then Aj g (i+j-1-k)else Aj g k:=by
 unfold Aj
 rw[getElem?_mirror_all hj]
 split <;>rfl
theorem dU{g:Array Nat}{src d:Nat}(hs:src<g.size)(hd:d<=src)(k:Nat):Aj (bubble g src d) k=if k=src-d then Aj g src else if src-d<k/\k<=src then Aj g (k-1)else Aj g k:=by
 unfold Aj
 rw[getElem?_bubble hs d hd]
 split
 ·rfl
 ·split <;>rfl
theorem Rest.mirror{g:Array Nat}(R:Rest a₀ g n)(hj:j<=n)(hn:j<=g.size):Rest a₀ (mirror g i j ((j-i) / 2)) n:=by
 refine⟨λk hk=>?_,λk h1 h2=>?_⟩
 ·rw[bY hn]
  split
  ·exact R.low _ (by lia)
  ·exact R.low _ hk
 ·rw[bY hn,if_neg (by lia)]
  exact R.same k h1 h2
end
def Dl(prog:Program)(w:World)(A:Around)(E:Value->Shared->Prop)(s:Shared)(a₀:Fj):Prop:=∀{st:SortSt}{g:Array Nat}{i j:Nat}{Q:Option Bool->SortSt->Prop},Gh a₀ st g->i<a₀.arr.size->j<a₀.arr.size->Q (some (decide (AO a₀ (Aj g i)<AO a₀ (Aj g j)))) st->wpS (model prog w) A E s (ltAt' i j) Q st
theorem eX{st:SortSt}{g:Array Nat}{Q:Option Bool->SortSt->Prop}(G:Gh a₀ st g)(h0:Dl prog w A E s a₀)(hi:i<a₀.arr.size)(hj:j<a₀.arr.size)(h:Q (some (decide (AO a₀ (Aj g i)<AO a₀ (Aj g j)))) st) :
  wpS (model prog w) A E s (ltAt' i j) Q st:=h0 G hi hj h
theorem u6{a:Array Keyed}(h0:IntKeys a):Dl prog w A E s (Es a):=fun {st g i j Q} G hi hj h=>by
 have k:∀{i:Nat},i<a.size->PyProof.Rows.K (arrOf st) i=AO (Es a) (Aj g i):=fun {i} hi=>by
  have hg:i<g.size:=by rw[G.size];exact hi
  refine K_congr ?_
  rw[G.at' i,Aj,xB hg]
  rfl
 refine wpS_ltK (a₀:=a) ⟨G.base.perm,G.base.kind,G.base.failed,G.base.pend⟩ h0 hi hj ?_
 rw[k hi,k hj]
 exact h
theorem lB{st:SortSt}{g:Array Nat}{a:Nat}{Q:AscSt->SortSt->Prop}(h0:Dl prog w A E s a₀)(hn:Ap<=a₀.arr.size)(ha:1<=a)(VY:a<=Ap)(G:Gh a₀ st g)(hs:zo a₀ g a)(hr:Rest a₀ g a)
  (h:∀n,a<=n->n<=Ap->zo a₀ g n->Rest a₀ g n->(n=Ap\/AO a₀ (Aj g n)<AO a₀ (Aj g (n-1)))->Q (none,n) st):wpS (model prog w) A E s (ascLoop a Ap) Q st:=by
 unfold ascLoop
 refine wpS_forRange (I:=λx c Y=>Y=st/\c=(none,x)/\zo a₀ g x/\Rest a₀ g x) ?step ?fin ⟨rfl,rfl,hs,hr⟩
 case fin =>
  rintro c Y ⟨rfl,rfl,U,O⟩
  rw[show max a Ap=Ap by lia]at U O ⊢
  exact h Ap VY (zJ _) U O (.inl rfl)
 case step =>
  rintro x c Y Qb Qc ⟨rfl,rfl,U,O⟩
  dsimp only
  refine wpS_bind (eX G h0 (by lia) (by lia) ?_)
  by_cases B:AO a₀ (Aj g x)<AO a₀ (Aj g (x-1))
  ·simp only [B,decide_true,if_true]
   exact wpS_pure (h x Qb (by lia) U O (.inr B))
  ·simp only [B,decide_false,yX,if_false]
   have ex:=O.same x (zJ _) (by lia)
   refine wpS_pure ⟨rfl,rfl,λi j D_ hj=>?_,⟨λk hk=>?_,λk h1 h2=>O.same k (by lia) h2⟩⟩
   ·by_cases Qd:j<x
    ·exact U i j D_ Qd
    ·have VZ:j=x:=by lia
     subst VZ
     have li:=O.low i D_
     by_cases Mz:i=j-1
     ·subst Mz
      unfold CU
      rw[ex]at B ⊢
      lia
     ·have l1:=U i (j-1) (by lia) (by lia)
      unfold CU at l1 ⊢
      rw[ex]at B ⊢
      lia
   ·by_cases Qe:k<x
    ·have:=O.low k Qe;lia
    ·have:k=x:=by lia
     subst this
     lia
theorem im{st:SortSt}{g:Array Nat}{Q:Option Nat->SortSt->Prop}(h0:Dl prog w A E s a₀)(hn:Ap<=a₀.arr.size)(h1:1<=n)(O:n<=Ap)(G:Gh a₀ st g)(hs:DO a₀ g n)(hr:Rest a₀ g n)
  (h:∀m B g',Gh a₀ B g'->1<=m->m<=Ap->zo a₀ g' m->Rest a₀ g' m->Q (some m) B):wpS (model prog w) A E s (tail3 n Ap) Q st:=by
 unfold tail3
 have hsz:n<=g.size:=by rw[G.size];lia
 refine wpS_bind (wpS_reverse ?_)
 have G':=G.mirror 0 n ((n-0) / 2)
 refine wpS_bind (lB h0 hn h1 O G' ?_ (hr.mirror (zJ _) hsz) λm Jg U Y MA _=>wpS_pure (h m _ _ G' (by lia) U Y MA))
 intro i j D_ hj
 rw[bY hsz,bY hsz,if_pos (by lia),if_pos (by lia)]
 exact hs _ _ (by lia) (by lia)
structure By(a₀:Fj)(g:Array Nat)(x Bv:Nat):Prop where
 le:Bv+1<=x
 d:DO a₀ g (x-(Bv+1))
 lt:∀i,i<x-(Bv+1)->AO a₀ (Aj g (x-1))<AO a₀ (Aj g i)
 eq:∀i,x-(Bv+1)<=i->i<x->AO a₀ (Aj g i)=AO a₀ (Aj g (x-1))
 up:∀i j,x-(Bv+1)<=i->i<j->j<x->Aj g i<Aj g j
theorem By.turn{g:Array Nat}{x Bv:Nat}(F:By a₀ g x Bv)(hx:x<=g.size):DO a₀ (mirror g (x-(Bv+1)) x ((x-(x-(Bv+1))) / 2)) x:=by
 obtain⟨hl,fd,HS,Y,V0⟩:=F
 have Zs:x-(Bv+1)<=x:=vU _ _
 clear hl
 generalize x-(Bv+1)=b at *
 intro i j D_ hj
 have B:∀t,b<=t->t<x->b<=b+x-1-t/\b+x-1-t<x:=λt h1 h2=>by lia
 rw[bY hx,bY hx]
 by_cases hi:b<=i
 ·have O:=xH D_ hj
  have U:=qP (qJ hi D_)
  have mv:b+x-1-j<b+x-1-i:=by lia
  rw[if_pos ⟨U,hj⟩,if_pos ⟨hi,O⟩]
  have e1:=Y _ (B j U hj).1 (B j U hj).2
  have e2:=Y _ (B i hi O).1 (B i hi O).2
  exact .inr ⟨e1.trans e2.symm,V0 _ _ (B j U hj).1 mv (B i hi O).2⟩
 ·rw[if_neg (show ¬(b<=i/\i<x)from λz=>hi z.1)]
  by_cases G:b<=j
  ·rw[if_pos ⟨G,hj⟩]
   have e1:=Y _ (B j G hj).1 (B j G hj).2
   have l1:=HS i (Nat.not_le.mp hi)
   exact .inl (by rw[e1];exact l1)
  ·rw[if_neg (show ¬(b<=j/\j<x)from λz=>G z.1)]
   exact fd i j D_ (Nat.not_le.mp G)
theorem By.whole{g:Array Nat}{x:Nat}(F:By a₀ g x 0):DO a₀ g x:=by
 intro i j B hj
 by_cases G:j<x-1
 ·exact F.d i j B G
 ·have:j=x-1:=by lia
  subst this
  exact .inl (F.lt i (by lia))
theorem By.next{g:Array Nat}{x:Nat}(hd:DO a₀ g x)(hx:1<=x)(hl:AO a₀ (Aj g x)<AO a₀ (Aj g (x-1))):By a₀ g (x+1) 0:=by
 refine⟨by lia,?_,λi hi=>?_,λi h1 h2=>?_,λi j h1 h2 h3=>by lia⟩
 ·rw[show x+1-(0+1)=x by lia]
  exact hd
 ·rw[show x+1-1=x by lia]
  by_cases B:i=x-1
  ·rw[B];exact hl
  ·have:=hd i (x-1) (by lia) (by lia)
   unfold CU at this
   lia
 ·rw[show x+1-1=i by lia]
theorem pq{st:SortSt}{g:Array Nat}{Q:DescSt->SortSt->Prop}(h0:Dl prog w A E s a₀)(hn:Ap<=a₀.arr.size)(Jh:n<=Ap)(G:Gh a₀ st g)(hf:By a₀ g n 0)(hr:Rest a₀ g n)
  (h:∀m Bv Y g',Gh a₀ Y g'->n<=m->m<=Ap->By a₀ g' m Bv->Rest a₀ g' m->Q (none,m,Bv) Y):wpS (model prog w) A E s (descLoop n Ap) Q st:=by
 unfold descLoop
 refine wpS_forRange (I:=λx c Y=>∃Bv g',c=(none,x,Bv)/\Gh a₀ Y g'/\By a₀ g' x Bv/\Rest a₀ g' x) ?step ?fin ⟨0,g,rfl,G,hf,hr⟩
 case fin =>
  rintro c Y ⟨Bv,g',rfl,G',B,O⟩
  rw[Nat.max_eq_right Jh]at B O ⊢
  exact h Ap Bv Y g' G' Jh (zJ _) B O
 case step =>
  rintro x c Y Qb Qc ⟨Bv,g',rfl,G',B,O⟩
  dsimp only
  have F5:1<=x:=yE (Nat.le_add_left 1 Bv) B.le
  have Lw:x<a₀.arr.size:=yC Qc hn
  have S0:x-1<a₀.arr.size:=qJ (vU _ _) Lw
  have hsz:x<=g'.size:=by rw[G'.size];exact qP Lw
  have ex:=O.same x (zJ _) Lw
  have F6:∀g2:Array Nat,Rest a₀ g2 x->Rest a₀ g2 (x+1):=λg2 R=>⟨λk hk=>by
   by_cases Qe:k<x
   ·have:=R.low k Qe;lia
   ·have e:k=x:=by lia
    rw[e,R.same x (zJ _) Lw];lia,λk h1 h2=>R.same k (by lia) h2⟩
  refine wpS_bind (eX G' h0 Lw S0 ?_)
  by_cases U:AO a₀ (Aj g' x)<AO a₀ (Aj g' (x-1))
  ·simp only [U,decide_true,if_true]
   by_cases Kw:Bv>0
   ·rw[if_pos Kw]
    have hd:=B.turn hsz
    have R2:=O.mirror (i:=x-(Bv+1)) (zJ _) hsz
    refine wpS_bind (wpS_reverse (wpS_pure ⟨0,_,rfl,G'.mirror _ _ _,By.next hd F5 ?_,F6 _ R2⟩))
    rw[bY hsz,bY hsz,if_neg (by lia),if_pos (by have:=B.le;lia)]
    have e1:=B.eq (x-(Bv+1)+x-1-(x-1)) (by have:=B.le;lia) (by have:=B.le;lia)
    rw[e1]
    exact U
   ·rw[if_neg Kw]
    have e0:Bv=0:=Nat.eq_zero_of_not_pos Kw
    subst e0
    exact wpS_pure ⟨0,g',rfl,G',By.next B.whole F5 U,F6 _ O⟩
  ·simp only [U,decide_false,yX,if_false]
   refine wpS_bind (eX G' h0 S0 Lw ?_)
   by_cases EU:AO a₀ (Aj g' (x-1))<AO a₀ (Aj g' x)
   ·simp only [EU,decide_true,if_true]
    exact wpS_pure (h x Bv Y g' G' Qb (qP Qc) B O)
   ·simp only [EU,decide_false,yX,if_false]
    have heq:AO a₀ (Aj g' x)=AO a₀ (Aj g' (x-1)):=by lia
    have hl:=B.le
    refine wpS_pure ⟨Bv+1,g',rfl,G',⟨by lia,?_,λi hi=>?_,λi h1 h2=>?_,λi j h1 h2 h3=>?_⟩,F6 _ O⟩
    ·rw[show x+1-(Bv+1+1)=x-(Bv+1) by lia]
     exact B.d
    ·rw[show x+1-1=x by lia,heq]
     exact B.lt i (by lia)
    ·rw[show x+1-1=x by lia]
     by_cases V1:i=x
     ·rw[V1]
     ·rw[heq];exact B.eq i (by lia) (by lia)
    ·by_cases Qd:j=x
     ·rw[Qd,ex]
      exact O.low i (by lia)
     ·exact B.up i j (by lia) h2 (by lia)
theorem eJ{st:SortSt}{g:Array Nat}{Q:Option Nat->SortSt->Prop}(h0:Dl prog w A E s a₀)(hn:Ap<=a₀.arr.size)(Jh:n+1<=Ap)(G:Gh a₀ st g)(hf:By a₀ g (n+1) 0)(hr:Rest a₀ g (n+1))
  (h:∀m O g',Gh a₀ O g'->1<=m->m<=Ap->zo a₀ g' m->Rest a₀ g' m->Q (some m) O):wpS (model prog w) A E s (descPart n Ap) Q st:=by
 unfold descPart
 refine wpS_bind (wpS_lift (wpAny_rule ⟨rfl,?_⟩))
 refine wpS_bind (pq h0 hn Jh G hf hr λm Bv O g' G' Jg U Y Dz=>?_)
 dsimp only
 have hsz:m<=g'.size:=by rw[G'.size];lia
 by_cases B:Bv>0
 ·rw[if_pos B]
  exact wpS_bind (wpS_reverse (im h0 hn (by lia) U (G'.mirror _ _ _) (Y.turn hsz) (Dz.mirror (zJ _) hsz) h))
 ·rw[if_neg B]
  have e0:Bv=0:=by lia
  subst e0
  exact im h0 hn (by lia) U G' Y.whole Dz h
theorem eD{k:Nat}(h:k<n):Aj (Array.range n) k=k:=by
 unfold Aj
 simp [h]
theorem mY{st:SortSt}{Q:Option Nat->SortSt->Prop}(h0:Dl prog w A E s a₀)(hn:Ap=a₀.arr.size)(h1:1<=Ap)(G:Gh a₀ st (Array.range a₀.arr.size))
  (h:∀m S8 g',Gh a₀ S8 g'->1<=m->m<=Ap->zo a₀ g' m->Rest a₀ g' m->Q (some m) S8):wpS (model prog w) A E s (countRun' 0 Ap) Q st:=by
 rw[countRun0_eq]
 have R:∀n,n<=a₀.arr.size->Rest a₀ (Array.range a₀.arr.size) n:=λn Ff=>⟨λk hk=>by rw[eD (yC hk Ff)];exact hk,λk h1 h2=>eD h2⟩
 refine wpS_bind (lB h0 (qK hn) (zJ 1) h1 G (λi j U hj=>absurd (yC U (kI hj)) (qT _)) (R 1 (hn▸h1)) λn S_ Y B Ta V2=>?_)
 dsimp only
 by_cases Jh:n=Ap
 ·rw[if_pos (by simpa using Jh)]
  exact wpS_pure (h n st _ G S_ Y B Ta)
 ·rw[if_neg (by simpa using Jh)]
  have Ay:=V2.resolve_left Jh
  by_cases Lx:n>1
  ·rw[if_pos Lx]
   refine wpS_bind (eX G h0 (by lia) (by lia) ?_)
   by_cases O:AO a₀ (Aj (Array.range a₀.arr.size) 0)<AO a₀ (Aj (Array.range a₀.arr.size) (n-1))
   ·simp only [O,decide_true,if_true]
    exact wpS_pure (h n st _ G S_ Y B Ta)
   ·simp only [O,decide_false,yX,if_false]
    have hsz:n<=(Array.range a₀.arr.size).size:=by rw[G.size,←hn];exact Y
    have ez:n-(n-1+1)=0:=by lia
    have hf:By a₀ (Array.range a₀.arr.size) n (n-1):=by
     refine⟨by lia,λi j U hj=>absurd (ez▸hj:j<0) (qT _),λi hi=>absurd (ez▸hi:i<0) (qT _),λi h1 h2=>?_,λi j h1 h2 h3=>?_⟩
     ·by_cases V3:i=0
      ·subst V3
       by_cases e:(0:Nat)=n-1
       ·rw[←e]
       ·have:=B 0 (n-1) (by lia) (by lia)
        unfold CU at this
        lia
      ·have a1:=B 0 i (by lia) h2
       by_cases e:i=n-1
       ·rw[e]
       ·have a2:=B i (n-1) (by lia) (by lia)
        unfold CU at a1 a2
        lia
     ·rw[eD (by lia),eD (by lia)]
      exact h2
    have hd:=hf.turn hsz
    rw[ez]at hd
    have MA:=(R n (hn▸Y)).mirror (i:=0) (zJ _) hsz
    refine wpS_bind (wpS_reverse (eJ h0 (by lia) (by lia) (G.mirror _ _ _) (By.next hd (by lia) ?_) ?_ h))
    ·rw[bY hsz,bY hsz,if_neg (by lia),if_pos (by lia),show 0+n-1-(n-1)=0 by lia]
     have e0:=hf.eq 0 (by lia) (by lia)
     rw[e0]
     exact Ay
    ·exact⟨λk hk=>by
      by_cases Tb:k<n
      ·have:=MA.low k Tb;lia
      ·have e:k=n:=by lia
       rw[e,MA.same n (zJ _) (by lia)];lia,λk h1 h2=>MA.same k (by lia) h2⟩
  ·rw[if_neg Lx]
   have Qf:n=1:=by lia
   subst Qf
   exact eJ h0 (by lia) (by lia) G (By.next (λi j U hj=>absurd (yC U (kI hj)) (qT _)) (zJ _) Ay) (R 2 (by lia)) h
theorem rP{st:SortSt}{g:Array Nat}{ok:Nat}{Q:Bool->SortSt->Prop}(h0:Dl prog w A E s a₀)(hn:n=a₀.arr.size)(yx:ok<=n)(MB:1<=ok)(G:Gh a₀ st g)(hs:zo a₀ g ok)(hr:Rest a₀ g ok)
  (h:∀B g',Gh a₀ B g'->zo a₀ g' n->Q true B):wpS (model prog w) A E s (binarySort' 0 n ok) Q st:=by
 rw[binarySort'_eq]
 simp only [jD]
 refine wpS_bind (wpS_mono (wpS_forRange (I:=λk c B=>c=(none,())/\∃g',Gh a₀ B g'/\zo a₀ g' k/\Rest a₀ g' k)
  (Q:=λc B=>c=(none,())/\∃g',Gh a₀ B g'/\zo a₀ g' n) ?step ?fin ?init) ?post)
 case post =>
  rintro c B ⟨rfl,g',G',U⟩
  exact wpS_pure (h B g' G' U)
 case init =>
  rw[Nat.max_eq_left MB]
  exact⟨rfl,g,G,hs,hr⟩
 case fin =>
  rintro c B ⟨hc,g',G',U,_⟩
  rw[Nat.max_eq_left MB,Nat.max_eq_right yx]at U
  exact⟨hc,g',G',U⟩
 case step =>
  rintro k c B Zt Tb ⟨rfl,g',G',U,Dz⟩
  have hk:k<a₀.arr.size:=by lia
  have ek:=Dz.same k (zJ _) hk
  refine wpS_bind (wpS_mono (wpS_forRange (I:=λx c O=>O=B/\∃l r,c=(none,l,r)/\l<=r/\r<=k/\r-l<=k-x /\
    (∀i,i<l->AO a₀ (Aj g' i)<=AO a₀ (Aj g' k))/\(∀i,r<=i->i<k->AO a₀ (Aj g' k)<AO a₀ (Aj g' i)))
   (Q:=λc O=>O=B/\∃l r,c=(none,l,r)/\l<=k /\
    (∀i,i<l->AO a₀ (Aj g' i)<=AO a₀ (Aj g' k))/\(∀i,l<=i->i<k->AO a₀ (Aj g' k)<AO a₀ (Aj g' i))) ?istep ?ifin ?iinit) ?ipost)
  case iinit=>exact⟨rfl,0,k,rfl,by lia,by lia,by lia,λi hi=>by lia,λi h1 h2=>by lia⟩
  case ifin =>
   rintro c O ⟨rfl,l,r,rfl,MC,MD,hm,DM,Ji⟩
   have:l=r:=by lia
   subst this
   exact⟨rfl,l,l,rfl,MD,DM,Ji⟩
  case istep =>
   rintro x c O _ Zu ⟨rfl,l,r,rfl,MC,MD,hm,DM,Ji⟩
   dsimp only
   have mono:∀i j,i<=j->j<k->AO a₀ (Aj g' i)<=AO a₀ (Aj g' j):=λi j D_ hj=>by
    by_cases e:i=j
    ·rw[e];exact jL _
    ·have:=U i j (by lia) hj
     unfold CU at this
     lia
   by_cases Jj:l ≥ r
   ·rw[if_pos Jj]
    have:l=r:=by lia
    subst this
    exact wpS_pure ⟨rfl,l,l,rfl,MD,DM,Ji⟩
   ·rw[if_neg Jj]
    have m1:l<=(l+r) / 2:=by lia
    have m2:(l+r) / 2<r:=by lia
    generalize (l+r) / 2=md at m1 m2 ⊢
    have mk:md<k:=yC m2 MD
    refine wpS_bind (eX G' h0 hk (xH mk hk) ?_)
    by_cases Y:AO a₀ (Aj g' k)<AO a₀ (Aj g' md)
    ·simp only [Y,decide_true,if_true]
     refine wpS_pure ⟨rfl,l,md,rfl,m1,qP mk,Nat.le_pred_of_lt (yC (Nat.sub_lt_sub_right m1 m2) hm),DM,λi h1 h2=>?_⟩
     exact jE Y (mono _ _ h1 h2)
    ·simp only [Y,decide_false,yX,if_false]
     refine wpS_pure ⟨rfl,md+1,r,rfl,m2,MD,Nat.sub_le_sub_right (yE (Nat.sub_le_sub_left m1 r) hm) 1,λi h1=>?_,Ji⟩
     exact vM (mono i md (kI h1) mk) (vV.mp Y)
  case ipost =>
   rintro c O ⟨rfl,l,r,rfl,V4,DM,Ji⟩
   show wpS _ _ _ _ (do moveDown' k l;pure (ForInStep.yield (none,()))) _ _
   rw[moveDown'_eq]
   have Ly:k<g'.size:=by rw[G'.size];exact hk
   have Jk:k-l<=k:=vU _ _
   have Qg:k-(k-l)=l:=Nat.sub_sub_self V4
   refine wpS_bind (wpS_modify (wpS_pure ⟨rfl,bubble g' k (k-l),G'.bubble k (k-l),λi j D_ hj=>?_,⟨λi hi=>?_,λi h1 h2=>?_⟩⟩))
   ·rw[dU Ly Jk,dU Ly Jk,Qg]
    by_cases Fu:i=l
    ·rw[if_pos Fu,if_neg (j6 (Fu▸D_)),if_pos ⟨Fu▸D_,kI hj⟩]
     exact .inl (Ji (j-1) (Nat.le_pred_of_lt (Fu▸D_)) (by lia))
    ·rw[if_neg Fu]
     by_cases Qh:i<l
     ·rw[if_neg (by lia)]
      by_cases ME:j=l
      ·rw[if_pos ME]
       have a1:=DM i Qh
       have a2:=Dz.low i (by lia)
       unfold CU
       rw[ek]at a1 ⊢
       lia
      ·rw[if_neg ME]
       by_cases V5:l<j
       ·rw[if_pos (by lia)]
        exact U i (j-1) (by lia) (by lia)
       ·rw[if_neg (by lia)]
        exact U i j D_ (by lia)
     ·rw[if_pos (by lia),if_neg (by lia),if_pos (by lia)]
      exact U (i-1) (j-1) (by lia) (by lia)
   ·rw[dU Ly Jk,Qg]
    split
    ·lia
    ·split
     ·have:=Dz.low (i-1) (by lia);lia
     ·have:=Dz.low i (by lia);lia
   ·rw[dU Ly Jk,Qg,if_neg (by lia),if_neg (by lia)]
    exact Dz.same i (by lia) h2
theorem pw{st:SortSt}{Q:Unit->SortSt->Prop}(h0:Dl prog w A E s a₀)(hB:Kv a₀ st)(he:arrOf st=a₀.arr)(h2:2<=a₀.arr.size)(Jl:a₀.arr.size<64)
  (h:∀B g,(arrOf B).Perm a₀.arr->failedOf B=none->(∀k:Nat,(arrOf B)[k]?=((g:Array Nat)[k]?).bind λ(p:Nat)=>a₀.arr[p]?)->g.toList.Perm (List.range a₀.arr.size)->zo a₀ g a₀.arr.size->Q () B):wpS (model prog w) A E s sortRuns' Q st:=by
 have G0:Gh a₀ st (Array.range a₀.arr.size):=⟨hB,by simp,λk=>by
  rw[he]
  by_cases hk:k<a₀.arr.size
  ·have e:(Array.range a₀.arr.size)[k]?=some k:=by simp [hk]
   rw[e]
   rfl
  ·rw[jF (by lia),jF (by simpa using hk)]
   rfl,by rw[Array.toList_range]⟩
 rw[sortRuns'_eq]
 refine wpS_bind (wpS_get ?_)
 dsimp only
 have V6:minRun' a₀.arr.size a₀.arr.size 0=a₀.arr.size:=by
  obtain⟨f,hf⟩:∃f,a₀.arr.size=f+1:=⟨a₀.arr.size-1,by lia⟩
  have:minRun' (f+1) a₀.arr.size 0=a₀.arr.size:=by rw[minRun'_succ,if_pos Jl];rfl
  rwa [←hf]at this
 simp only [hB.size,V6]
 refine wpS_bind (wpS_mono (wpS_forRange
  (I:=λx c B=>(x=0/\c=(none,0)/\B=st)\/(1<=x/\c=(none,a₀.arr.size)/\pendingOf B=#[(0,a₀.arr.size,0)]/\∃G g,Gh a₀ G g/\zo a₀ g a₀.arr.size/\arrOf B=arrOf G/\failedOf B=none))
  (Q:=λc B=>c=(none,a₀.arr.size)/\pendingOf B=#[(0,a₀.arr.size,0)]/\∃G g,Gh a₀ G g/\zo a₀ g a₀.arr.size/\arrOf B=arrOf G/\failedOf B=none) ?step ?fin (.inl ⟨rfl,rfl,rfl⟩)) ?post)
 case fin =>
  rintro c B (⟨hx,_,_⟩|⟨_,hc,Y⟩)
  ·lia
  ·exact⟨hc,Y⟩
 case step =>
  rintro x c B _ hx (⟨rfl,rfl,rfl⟩|⟨F5,rfl,Y⟩)
  ·dsimp only
   rw[if_neg (by lia)]
   simp only [xG,vF,jD]
   refine wpS_bind (mY h0 rfl (by lia) G0 λm Ca g2 G2 Jg Lz Jm V7=>?_)
   dsimp only
   by_cases Ay:m<a₀.arr.size
   ·rw[if_pos Ay]
    refine wpS_bind (wpS_lift (wpAny_rule ⟨rfl,?_⟩))
    refine wpS_bind (rP h0 rfl Lz Jg G2 Jm V7 λCG g3 O U=>?_)
    simp only [Bool.not_true,yX,if_false]
    refine wpS_bind (wpS_get ?_)
    have hb:(pendingOf CG).back?=none:=by rw[O.base.pend];rfl
    rw[hb]
    dsimp only
    exact wpS_bind (wpS_modify (wpS_pure (.inr ⟨by lia,rfl,by show(pendingOf CG).push _=_;rw[O.base.pend];rfl,CG,g3,O,U,rfl,O.base.failed⟩)))
   ·rw[if_neg Ay]
    have hm:m=a₀.arr.size:=by lia
    subst hm
    refine wpS_bind (wpS_get ?_)
    have hb:(pendingOf Ca).back?=none:=by rw[G2.base.pend];rfl
    rw[hb]
    dsimp only
    exact wpS_bind (wpS_modify (wpS_pure (.inr ⟨by lia,rfl,by show(pendingOf Ca).push _=_;rw[G2.base.pend];rfl,Ca,g2,G2,Jm,rfl,G2.base.failed⟩)))
  ·dsimp only
   rw[if_pos (zJ _)]
   exact wpS_pure ⟨rfl,Y⟩
 case post =>
  rintro c B ⟨rfl,Y⟩
  dsimp only
  refine wpS_bind (wpS_mono (wpS_forRange (I:=λ_ c G=>G=B/\c=(none,())) (Q:=λc G=>G=B/\c=(none,())) ?_ (λ_ _ hh=>hh) ⟨rfl,rfl⟩) ?_)
  ·rintro x c G _ _ ⟨rfl,rfl⟩
   refine wpS_bind (wpS_get ?_)
   rw[if_pos (by rw[Y.1];exact zJ 1)]
   exact wpS_pure ⟨rfl,rfl⟩
  ·rintro c G ⟨rfl,rfl⟩
   obtain⟨_,CG,g3,O,U,ea,ef⟩:=Y
   refine wpS_pure (h _ g3 (by rw[ea];exact O.base.perm) ef (λk=>by rw[ea];exact O.at' k) O.perm U)
def AX(kz:List Int)(vs out:List Value):Prop :=
 ∃is:List Nat,is.Perm (List.range vs.length)/\out=is.map (λi=>vs.getD i .none)/\is.Pairwise (λi j=>kz.getD i 0<kz.getD j 0\/(kz.getD i 0=kz.getD j 0/\i<j))
theorem sS{keys:Array Value}(hk:IntsAre keys.toList kz)(B:kz.length=vs.length){p:Nat}(hp:p<vs.length) :
  ∃t,(keys.zip vs.toArray)[p]?=some (.int (kz.getD p 0) t,vs.getD p .none):=by
 have hl:=hk.length
 rw[yU]at hl
 have e1:kz[p]?=some (kz.getD p 0):=by
  rw[zA,zD (by lia)];rfl
 obtain⟨t,ht⟩:=hk.get p _ e1
 refine⟨t,?_⟩
 have e2:vs[p]?=some (vs.getD p .none):=by
  rw[zA,zD hp];rfl
 rw[←qH,ksk_zip,vZ]
 exact⟨ht,e2⟩
theorem uw{keys:Array Value}(hk:IntsAre keys.toList kz)(O:kz.length=vs.length){xs:Array Keyed}{g:Array Nat}
  (ha:∀k:Nat,xs[k]?=(g[k]?).bind λ(p:Nat)=>(keys.zip vs.toArray)[p]?) (hp:g.toList.Perm (List.range vs.length)) (hs:zo (Es (keys.zip vs.toArray)) g vs.length):AX kz vs (xs.map (·.2)).toList:=by
 have U:g.size=vs.length:=by have:=hp.length_eq;simpa using this
 have B:∀k,k<vs.length->∃p,g[k]?=some p/\p<vs.length:=λk Bp=>by
  have e:g[k]?=some g[k]:=xB (by lia)
  have:g[k]∈g.toList:=by simp
  exact⟨_,e,y8.mp (hp.mem_iff.mp this)⟩
 refine⟨g.toList,hp,?_,?_⟩
 ·refine jI λk=>?_
  rw[qH,Array.getElem?_map,ha,zG,qH]
  by_cases Bp:k<vs.length
  ·obtain⟨p,e,G⟩:=B k Bp
   obtain⟨t,e2⟩:=sS hk O G
   rw[e]
   show Option.map _ ((keys.zip vs.toArray)[p]?)=_
   rw[e2]
   rfl
  ·have:g[k]?=none:=jF (by lia)
   rw[this]
   rfl
 ·rw[List.pairwise_iff_getElem]
  intro i j hi hj D_
  have Mz:i<vs.length:=by simpa [U]using hi
  have Y:j<vs.length:=by simpa [U]using hj
  obtain⟨p,ep,G⟩:=B i Mz
  obtain⟨q,eq,V8⟩:=B j Y
  have h1:=hs i j D_ Y
  have gi:Aj g i=p:=by unfold Aj;rw[ep];rfl
  have gj:Aj g j=q:=by unfold Aj;rw[eq];rfl
  have li:g.toList[i]=p:=by
   have:g.toList[i]?=some p:=by rw[qH];exact ep
   exact(zC.mp this).2
  have lj:g.toList[j]=q:=by
   have:g.toList[j]?=some q:=by rw[qH];exact eq
   exact(zC.mp this).2
  rw[gi,gj]at h1
  rw[li,lj]
  have Tc:∀p,p<vs.length->AO (Es (keys.zip vs.toArray)) p=kz.getD p 0:=λp G=>by
   obtain⟨t,e2⟩:=sS hk O G
   obtain⟨hb,e3⟩:=kH.mp e2
   show PyProof.Rows.K (keys.zip vs.toArray) p=_
   rw[K_eq hb,e3]
   rfl
  unfold CU at h1
  rw[Tc p G,Tc q V8]at h1
  exact h1
abbrev Kept(g h:Heap):Prop:=∀b o,g.get? b=some o->h.get? b=some o
theorem Kept.but{g:Heap}(k:Kept g h)(s:Heap.SameBut a h h')(ha:g.objs.size<=a):Kept g h':=λb o e =>
 (s.2 b (yK (yC (Heap.lt_size e) ha))).trans (k b o e)
section
variable{g:Heap}{kS:Addr}{keys:Array Value}{e e1:Nat}{P:PySem.Fin->Shared->Prop}
theorem oP{st:SortSt}{gg:Array Nat}(F:Kept g s.heap)(nk:s.heap.get? kS=some (seqObj "list" keys e))(na:s.heap.get? a=some (seqObj "list" #[] e1))(U:kS≠a)(Y:g.objs.size<=kS)(Ig:g.objs.size<=a)
  (hk:IntsAre keys.toList kz) (G:kz.length=vs.length) (Jl:vs.length<64) (hp:(arrOf st).Perm (keys.zip vs.toArray))
  (ha:∀k:Nat,(arrOf st)[k]?=(gg[k]?).bind λ(p:Nat)=>(keys.zip vs.toArray)[p]?) (Qi:gg.toList.Perm (List.range vs.length)) (hs:zo (Es (keys.zip vs.toArray)) gg vs.length) (Td:failedOf st=none)
  (h:∀h' tk out c,Kept g h'->h'.get? a=some (seqObj "list" out c)->AX kz vs out.toList->P (.done (.ret .none)) { s with heap:=h',toks:=tk }) :
  wpAny (model prog w) A (ksk_tail a false e1 (.ref kS) st) P E s:=by
 have hsz:keys.size=vs.length:=by
  have h1:=hk.length
  rw[yU]at h1
  lia
 have O:(arrOf st).size=vs.length:=by rw[hp.size_eq,Array.size_zip,hsz,zP,vF]
 have s1:=Heap.SameBut.update s.heap kS (Obj.mapSeq λ_=>(#[]:Array Value))
 have B:(s.heap.update kS (Obj.mapSeq λ_=>(#[]:Array Value))).get? a=some (seqObj "list" #[] e1):=(s1.2 a U.symm).trans na
 have s2:=Heap.SameBut.update (s.heap.update kS (Obj.mapSeq λ_=>(#[]:Array Value))) a (Obj.mapSeq λ_=>(arrOf st).map (·.2))
 obtain⟨c2,Kx⟩:∃c2,((s.heap.update kS (Obj.mapSeq λ_=>(#[]:Array Value))).update a (Obj.mapSeq λ_=>(arrOf st).map (·.2))).get? a=some (seqObj "list" ((arrOf st).map (·.2)) c2) :=
  ⟨_,get?_update_seq B λ_=>(arrOf st).map (·.2)⟩
 unfold ksk_tail
 try dsimp only
 refine wpAny_bind (listUpdate_at nk rfl ?_ (by rw[hsz,sizeLine_eq];lia) (yH _))
 refine wpAny_bind (wpAny_letGo ?_)
 refine wpAny_bind (seqEpoch_at B rfl ?_)
 simp only [yX,if_false]
 refine wpAny_bind (listUpdate_at B rfl ?_ (yH _) (by rw[Array.size_map,O,sizeLine_eq];lia))
 rw[Td]
 simp only [bne_self_eq_false,yX,if_false]
 exact wpAny_pure (h _ _ _ c2 ((F.but s1 Y).but s2 Ig) Kx (uw hk G ha Qi hs))
theorem xW(F:Kept g s.heap)(nk:s.heap.get? kS=some (seqObj "list" keys e))(na:s.heap.get? a=some (seqObj "list" #[] e1))(Y:kS≠a)(Te:g.objs.size<=kS)(Ig:g.objs.size<=a)
  (hk:IntsAre keys.toList kz) (O:kz.length=vs.length) (U:vs.length<64)
  (h:∀h' tk out c,Kept g h'->h'.get? a=some (seqObj "list" out c)->AX kz vs out.toList->P (.done (.ret .none)) { s with heap:=h',toks:=tk }) :
  wpAny (model prog w) A (ksk_end a false vs.toArray e1 (.ref kS) keys) P E s:=by
 have hsz:keys.size=vs.length:=by
  have h1:=hk.length
  rw[yU]at h1
  lia
 have G:(keys.zip vs.toArray).size=vs.length:=by rw[Array.size_zip,hsz,zP,vF]
 unfold ksk_end
 try dsimp only
 simp only [yX,if_false]
 by_cases h2:vs.toArray.size<2
 ·rw[if_pos h2,if_pos h2]
  refine wpAny_bind (wpAny_pure ?_)
  rw[StateT.run_pure]
  refine wpAny_bind (wpAny_pure ?_)
  try dsimp only
  rw[zP]at h2
  refine oP (st:=SortSt.mk' general' (keys.zip vs.toArray) #[] 7 none) (gg:=Array.range vs.length) F nk na Y Te Ig hk O U (Array.Perm.refl _) (λk=>?_) (by rw[Array.toList_range]) (λi j D_ hj=>by lia) rfl h
  show(keys.zip vs.toArray)[k]?=_
  by_cases Bp:k<vs.length
  ·have e:(Array.range vs.length)[k]?=some k:=by simp [Bp]
   rw[e]
   rfl
  ·rw[jF (by lia),jF (by simpa using Bp)]
   rfl
 ·rw[if_neg h2,if_neg h2]
  rw[zP]at h2
  rw[ksk_kind hk (by rw[hsz];lia)]
  refine wpAny_bind (wpAny_pure ?_)
  refine wpAny_bind (wpAny_mono (pw (a₀:=Es (keys.zip vs.toArray)) (st:=SortSt.mk' oneType' (keys.zip vs.toArray) #[] 7 none)
   (Q:=λ_ B=>∃gg:Array Nat,(arrOf B).Perm (keys.zip vs.toArray)/\failedOf B=none/\(∀k:Nat,(arrOf B)[k]?=(gg[k]?).bind λ(p:Nat)=>(keys.zip vs.toArray)[p]?)/\gg.toList.Perm (List.range (keys.zip vs.toArray).size)/\zo (Es (keys.zip vs.toArray)) gg (keys.zip vs.toArray).size)
   (u6 (ksk_intKeys hk)) ⟨Array.Perm.refl _,rfl,rfl,rfl⟩ rfl (by show 2<=(keys.zip vs.toArray).size;rw[G];lia) (by show(keys.zip vs.toArray).size<64;rw[G];exact U) λB gg a1 a2 a3 a4 a5=>⟨gg,a1,a2,a3,a4,a5⟩) ?_ λ_ _ e=>e)
  rintro⟨⟨⟩,B⟩ s' ⟨rfl,gg,hp,hf,ha,Qi,hs⟩
  try dsimp only
  exact oP F nk na Y Te Ig hk O U hp ha (by rw[←G];exact Qi) (by rw[←G];exact hs) hf h
def Cr(h:Heap)(k:Int)(B:Shared)(v:Value)(G:Shared):Prop:=∃h' tk t',G={ B with heap:=h',toks:=tk }/\v=.int k t'/\Kept h h'
theorem u7{f:Value}(F:Kept g s.heap)(nk:s.heap.get? kS=some (seqObj "list" #[] 0))(na:s.heap.get? a=some (seqObj "list" #[] e1))(U:kS≠a)(Y:g.objs.size<=kS)(Ig:g.objs.size<=a)
  (CQ:kz.length=vs.length) (Jl:vs.length<64)
  (turn:∀(i:Nat)(v:Value)(k:Int),vs[i]?=some v->kz[i]?=some k->∀(h:Heap)(tk:Nat),Kept g h ->
   wpAny (model prog w) A (call f [v]) (Cr h k { s with heap:=h,toks:=tk }) (λ_ _=>False) { s with heap:=h,toks:=tk })
  (h:∀h' tk out c,Kept g h'->h'.get? a=some (seqObj "list" out c)->AX kz vs out.toList->P (.done (.ret .none)) { s with heap:=h',toks:=tk }) :
  wpAny (model prog w) A (ksk_rest a f false vs.toArray e1 (.ref kS)) P E s:=by
 unfold ksk_rest
 refine wpAny_bind (wpAny_rule ?_)
 first
  | rw[List.forIn_toArray]
  | (rw[←Array.forIn_toList];simp only [List.toList_toArray])
  | rw[←Array.forIn_toList]
 refine wpAny_bind (ksk_fold (λi s'=>∃h' tk B e,s'={ s with heap:=h',toks:=tk }/\Kept g h'/\h'.get? kS=some (seqObj "list" B e)/\h'.get? a=some (seqObj "list" #[] e1)/\IntsAre B.toList (kz.take i)) vs 0 s
  ⟨s.heap,s.toks,#[],0,rfl,F,nk,na,by simpa using IntsAre.nil⟩ ?step ?done)
 case step =>
  rintro j x s' hx ⟨h',tk,B,e,rfl,F',G,O,hk⟩
  simp only [jD]at hk ⊢
  have hj:j<vs.length:=(zC.mp hx).1
  obtain⟨k,Tf⟩:∃k,kz[j]?=some k:=⟨_,zD (by lia)⟩
  have hz:B.size<=vs.length:=by
   have h1:=hk.length
   rw[yU,yA]at h1
   lia
  refine wpAny_bind (wpAny_attempt (wpAny_mono (turn j x k hx Tf h' tk F') (λv Zv he=>?_) λ_ _ hF=>hF.elim))
  obtain⟨g2,IP,t2,rfl,rfl,F2⟩:=he
  try dsimp only
  have Tg:=F2 _ _ G
  have V9:=F2 _ _ O
  have s1:=Heap.SameBut.update g2 kS (Obj.mapSeq (·.push (.int k t2)))
  obtain⟨c2,Kx⟩:∃c2,(g2.update kS (Obj.mapSeq (·.push (.int k t2)))).get? kS=some (seqObj "list" (B.push (.int k t2)) c2):=⟨_,get?_update_seq Tg (·.push (.int k t2))⟩
  have ek:kz.take (j+1)=kz.take j++[k]:=by rw[yR,Tf];simp
  have ea:(B.push (Value.int k t2)).toList=B.toList++[Value.int k t2]:=by simp
  refine wpAny_bind (listUpdate_at Tg rfl ?_ (by rw[sizeLine_eq];lia) (yE (qK (Array.size_push ..)) (by rw[sizeLine_eq];lia)))
  exact wpAny_pure ⟨rfl,_,_,B.push (.int k t2),c2,rfl,Kept.but (λb o q=>F2 b o (F' b o q)) s1 Y,Kx,(s1.2 a U.symm).trans V9,by rw[ea,ek];exact ksk_snoc hk⟩
 case done =>
  rintro s' ⟨h',tk,B,e,rfl,F',G,O,hk⟩
  have Bp:IntsAre B.toList kz:=by
   have e3:kz.take (0+vs.length)=kz:=yV (by lia)
   rw[e3]at hk
   exact hk
  try dsimp only
  refine wpAny_bind (listItems_at G rfl ?_)
  exact xW F' G O U Y Ig Bp CQ Jl λh3 Ow out c F3 N3 k3=>h h3 Ow out c F3 N3 k3
theorem u3{f:Value}(F:Kept g s.heap)(ho:s.heap.get? a=some (seqObj "list" vs.toArray n))(B:g.objs.size<=a)
  (G:kz.length=vs.length) (Y:vs.length<64)
  (turn:∀(i:Nat)(v:Value)(k:Int),vs[i]?=some v->kz[i]?=some k->∀(h:Heap)(tk:Nat),Kept g h ->
   wpAny (model prog w) A (call f [v]) (Cr h k { s with heap:=h,toks:=tk }) (λ_ _=>False) { s with heap:=h,toks:=tk })
  (h:∀h' tk out c,Kept g h'->h'.get? a=some (seqObj "list" out c)->AX kz vs out.toList->P (.done (.ret .none)) { s with heap:=h',toks:=tk }) :
  wpAny (model prog w) A (ksk_tree a f false) P E s:=by
 have ha:a<s.heap.objs.size:=Heap.lt_size ho
 have s1:=Heap.SameBut.update s.heap a (Obj.mapSeq λ_=>(#[]:Array Value))
 obtain⟨e1,O⟩:∃e1,(s.heap.update a (Obj.mapSeq λ_=>(#[]:Array Value))).get? a=some (seqObj "list" #[] e1):=⟨_,get?_update_seq ho λ_=>#[]⟩
 have F1:=F.but s1 B
 have U:((s.heap.update a (Obj.mapSeq λ_=>(#[]:Array Value))).push (seqObj "tuple" vs.toArray 0)).objs.size=s.heap.objs.size+1:=by rw[size_push',Heap.size_update]
 unfold ksk_tree
 refine wpAny_bind (listItems_at ho rfl ?_)
 refine wpAny_bind (listUpdate_at ho rfl ?_ (by rw[zP,sizeLine_eq];lia) (yH _))
 refine wpAny_bind (seqEpoch_at O rfl ?_)
 refine wpAny_bind (wpAny_newTuple ?_ (by show vs.length<=_;rw[sizeLine_eq];lia))
 refine wpAny_bind (wpAny_newList ?_ (yH _))
 refine wpAny_holding ?_
 refine u7 (s:={ s with heap:=((s.heap.update a (Obj.mapSeq λ_=>(#[]:Array Value))).push (seqObj "tuple" vs.toArray 0)).push (seqObj "list" #[] 0) }) (kS:=((s.heap.update a (Obj.mapSeq λ_=>(#[]:Array Value))).push (seqObj "tuple" vs.toArray 0)).objs.size)
  (λb o q=>Heap.get?_push_of_some _ (Heap.get?_push_of_some _ (F1 b o q))) (Heap.get?_push_size _ rfl) (Heap.get?_push_of_some _ (Heap.get?_push_of_some _ O)) (by rw[U];exact j6 (jX ha)) (by rw[U];exact yE B (qP (jX ha))) B G Y turn h
theorem oV{l:Addr}{f:Value}(hl:s.heap.IsList l vs.toArray)(B:kz.length=vs.length)(O:vs.length<64)
  (U:argsOk "sorted" ⟨[.ref l],kw⟩) (Y:∀x,argsOk "list.sort" ⟨[.ref x],kw⟩) (ht:∀x,Builtin.«list.sort» ⟨[.ref x],kw⟩=ksk_tree x f false)
  (turn:∀(i:Nat)(v:Value)(k:Int),vs[i]?=some v->kz[i]?=some k->∀(h:Heap)(tk:Nat),Kept s.heap h ->
   wpAny (model prog w) A.in1.in1 (call f [v]) (Cr h k { s with heap:=h,toks:=tk }) (λ_ _=>False) { s with heap:=h,toks:=tk })
  (h:∀D h' tk out c,Kept s.heap h'->s.heap.objs.size<=D->h'.get? D=some (seqObj "list" out c)->AX kz vs out.toList->Q (.ref D) { s with heap:=h',toks:=tk }) :
  wpAny (model prog w) A (call (.builtin "sorted") [.ref l] kw) Q E s:=by
 refine call_function_entry_kw kind_sorted plain_sorted entry_sorted U ?_
 unfold Builtin.«sorted»
 refine wpAny_bind (m:=checkCount "sorted" 1 1 _) (wpAny_pure ?_)
 refine wpAny_bind (collect_list hl ?_ (by rw[sizeLine_eq];lia))
 refine wpAny_bind (wpAny_newList ?_ (by rw[sizeLine_eq];lia))
 have hsz:((s.heap.push (seqObj "list" #[] 0)).update s.heap.objs.size (Obj.mapSeq (·++vs.toArray))).objs.size=s.heap.objs.size+1:=by
  rw[Heap.size_update,size_push']
 have G:(((s.heap.push (seqObj "list" #[] 0)).update s.heap.objs.size (Obj.mapSeq (·++vs.toArray))).push (seqObj "list" vs.toArray 0)).get? (s.heap.objs.size+1)=some (seqObj "list" vs.toArray 0):=by
  rw[←hsz];exact Heap.get?_push_size _ rfl
 have keep:∀b o,s.heap.get? b=some o->(((s.heap.push (seqObj "list" #[] 0)).update s.heap.objs.size (Obj.mapSeq (·++vs.toArray))).push (seqObj "list" vs.toArray 0)).get? b=some o:=λb o q=>by
  have Ay:b<s.heap.objs.size:=Heap.lt_size q
  rw[Heap.get?_push_ne _ _ _ (by rw[hsz];exact yK (jX Ay)),Heap.get?_update_ne _ _ _ _ (yK Ay),Heap.get?_push_ne _ _ _ (yK Ay)]
  exact q
 show wpAny _ _ _ _ _ { s with heap:=((s.heap.push (seqObj "list" #[] 0)).update s.heap.objs.size (Obj.mapSeq (·++vs.toArray))).push (seqObj "list" vs.toArray 0) }
 rw[hsz]
 refine wpAny_bind (wpAny_holding (wpAny_call_entry_kw slot_list_sort ⟨_,G,rfl⟩ entry_list_sort ?body (Y _)))
 case body =>
  have V_:=ht (s.heap.objs.size+1)
  show wpAny (model prog w) A.in1.in1 (Builtin.«list.sort» ⟨[.ref (s.heap.objs.size+1)],kw⟩) _ _ _
  rw[V_]
  refine u3 (s:={ s with heap:=((s.heap.push (seqObj "list" #[] 0)).update s.heap.objs.size (Obj.mapSeq (·++vs.toArray))).push (seqObj "list" vs.toArray 0) }) (g:=s.heap)
   keep G (qQ _) B O turn λh' tk out c F' N' k'=>⟨_,rfl,?_⟩
  exact wpAny_pure ⟨_,rfl,h _ h' tk out c F' (qQ _) N' k'⟩
end
end L2
variable{M Ms:List (List L2.Cell)}
namespace L2
open PySem PySem.Spec PyProof.Rows PySem.W
abbrev Af(x:Str)(p:Pos):Arguments:={ posonlyargs:=[],args:=[{ arg:=x,annotation:=none,pos:=p }],vararg:=none,kwonlyargs:=[],kw_defaults:=[],kwarg:=none,defaults:=[] }
abbrev Av(x:Str):Scope:={ kind:=.function,names:=[(x,.local)],isGenerator:=false,isCoroutine:=false,more:=[] }
abbrev AY(x:Str)(i:Int)(p2 p3 p4:Pos):Expr:=.Subscript (.Name x p2) (.Constant (.int i) 0 p3) p4
theorem wE{f t:Addr}{G:Value}{its:Array Value}{i k:Int}{u:Tok}
  (ho:s.heap.get? f=some (kla_obj "<lambda>" qual (Af x p1) (AY x i p2 p3 p4) (Av x) [] pm c' G)) (Y:s.heap.CodeRec (.ref c') qual) (B:A.depth<recursionLimit) (lim:s.heap.NoLimit)
  (ht:IsTup s.heap t its) (DM:-(2 ^ 63)<=i) (Ji:i<2 ^ 63) (hj:seqIndex? i its.size=some j) (hx:its[j]?=some (.int k u)) (hd:(x==("__debug__":Str))=false)
  (B0:∀v,bindArgs (kla_fn "<lambda>" qual (Af x p1) (AY x i p2 p3 p4) (Av x) [] pm (.ref c') G) ⟨[v],[]⟩=pure [(x,v)]) :
  wpAny (model prog w) A (call (.ref f) [.ref t]) (Cr s.heap k s) (λ_ _=>False) s:=by
 refine wpAny_call ?_
 refine kla_callFunE B ho rfl rfl rfl rfl Y ?_
 walk_at "N"
 ·have O:Kept s.heap h₁:=λb o e=>Ln.extBut b o (yK (Heap.lt_size e)) (Heap.get?_push_of_some _ e)
  refine kla_codeExpr (wpAny_mono (Q:=λv s'=>Cr s.heap k s v s') (E:=λ_ _=>False) ?_ (λv s' h'=>h') λ_ _ h'=>h'.elim)
  walk_at "w"
  ·have U:IsTup h₁ t its:=let ⟨o,e,r⟩:=ht;⟨o,O _ _ e,r⟩
   refine subscriptTail_builtinR (x:=.int k u) (s:={ s with heap:=h₁,toks:=s.toks+[(x,Value.ref t)].length+1 }) U.typeIs slot_tuple_getitem.lookup (getItem_tuple (j:=j) U DM Ji hj hx ⟨rfl,h₁,_,u,rfl,rfl,O⟩)
def Bs(c':Addr)(q:Str):HO:=.ext λh=>h.CodeRec (.ref c') q
theorem bX{h1 h2:Heap}(x:h1.CodeRec (.ref c') q)(k:∀o,h1.get? c'=some o->h2.get? c'=some o):h2.CodeRec (.ref c') q:=by
 obtain⟨c,o,vs,t,e,ho,r⟩:=x
 cases e
 exact⟨c',o,vs,t,rfl,k _ ho,r⟩
theorem rA(x:h.CodeRec (.ref c') q):zk P w H h c' (Bs c' q):=by
 refine⟨x,?_,λh1 h2 x1 k=>bX x1 k⟩
 obtain⟨c,o,vs,t,e,ho,r⟩:=x
 cases e
 exact⟨o,ho⟩
theorem Inv.grown{P:Addr}{ps more:Array Value}(I:Inv X aO σ H s)(hP:H P=some (.AB ps))(hx:Heap.ExtBut P s.heap h')(hc:s.heap.objs.size<=c')(O:h'.CodeRec (.ref c') q)
  (U:h'.get? P=some (tabObj (ps++more))):Inv X aO σ (upd (upd H P (.AB (ps++more))) c' (Bs c' q)) { s with heap:=h',toks:=t' }:=by
 have Ei:=I.yx.fresh hc
 have Wa:P≠c':=bi hP Ei
 have B:∀b,b≠P->b≠c'->upd (upd H P (.AB (ps++more))) c' (Bs c' q) b=H b:=λb n1 n2=>by rw[bj n2,bj n1]
 have Y:upd (upd H P (.AB (ps++more))) c' (Bs c' q) P=some (.AB (ps++more)):=by rw[bj Wa,bg]
 have nP:∀b,H b=none->b≠P:=λb n z=>by subst z;rw[n]at hP;cases hP
 refine I.un ⟨λb o e n _ _=>hx b o (nP b n) e,λb o e n _ _=>⟨o.slots,hx b o (nP b n) e⟩,λb o e n _=>?_,λb o e _=>?_,λb xs e=>?_,λb o u e=>?_,λb qs e=>?_⟩ λb u e=>?_
 ·rw[B b (nP b n) (yK (yC (Heap.lt_size e) hc))];exact n
 ·by_cases hb:b=P
  ·subst hb;exact⟨_,U⟩
  ·exact⟨o,hx b o hb e⟩
 ·rw[B b (bK e hP (λz=>nomatch z)) (bi e Ei)];exact e
 ·rw[B b (bK e hP (λz=>nomatch z)) (bi e Ei)];exact e
 ·by_cases hb:b=P
  ·subst hb
   rw[hP]at e;cases e
   exact⟨more,Y⟩
  ·exact⟨#[],by rw[B b hb (bi e Ei),e];simp⟩
 ·by_cases hb:b=c'
  ·subst hb
   rw[bg]at e;cases e
   exact rA O
  ·by_cases G:b=P
   ·subst G
    rw[Y]at e;cases e
    exact U
   ·rw[B b G hb]at e
    refine(I.yx b u e).De (λd v hd q=>hx d v (λz=>?_) q) (λd z=>?_) λd xs z=>?_
    ·subst z
     rcases hd with z|z
     ·exact G z.symm
     ·rw[hP]at z;cases z
    ·rw[B d (bK z hP (λz=>nomatch z)) (bi z Ei)];exact z
    ·rw[B d (bK z hP (λz=>nomatch z)) (bi z Ei)];exact z
def DP(kz:List Int)(xs out:List V):Prop :=
 ∃is:List Nat,is.Perm (List.range xs.length)/\out=is.map (λi=>xs.getD i .y2)/\is.Pairwise (λi j=>kz.getD i 0<kz.getD j 0\/(kz.getD i 0=kz.getD j 0/\i<j))
theorem iX(r:Vals xs vs):∀is:List Nat,(∀i∈is,i<xs.length)->Vals (is.map λi=>xs.getD i .y2) (is.map λi=>vs.getD i .none)
 | [],_=>.nil
 | i::is,h=>by
  have e:xs[i]?=some (xs.getD i .y2):=by rw[zA,zD (h i (.head _))];rfl
  obtain⟨u,e2,B⟩:=r.get e
  have e3:vs.getD i .none=u:=by rw[zA,e2];rfl
  refine .cons ?_ (iX r is λj hj=>h j (.tail _ hj))
  show RelV (xs.getD i .y2) (vs.getD i .none)
  rw[e3];exact B
theorem pN{out:List Value}(r:Vals xs vs)(h:AX kz vs out):∃ys,Vals ys out/\DP kz xs ys/\ys.length=xs.length:=by
 obtain⟨is,h1,h2,h3⟩:=h
 rw[←r.length]at h1
 subst h2
 exact⟨_,iX r is λi hi=>y8.mp (h1.mem_iff.mp hi),⟨is,h1,rfl,h3⟩,by rw[zB,h1.length_eq,qL]⟩
inductive Ih(K:PySem.W.Frag)(P:Addr)(q:Str)(ln cl:Nat)(i:Int)(Q:VK)(v:V)(H1:Hp):Prop where
 | mk (l xs kz:_) (ui:v=.ref l) (uj:eH K H1 l xs) (zf:xs.length<64) (zq:kz.length=xs.length) (Ai:(∀(j:Nat) x k,xs[j]?=some x->kz[j]?=some k->∃t ys,x=.ref t/\ze K H1 t ys/\Fi ys i=some (.int k))) (AA:((H1 P=some (.AB #[])/\∀c' D out,H1 c'=none->c'≠D->H1 D=none->DP kz xs out->Q (.ref D) (upd (upd (upd H1 P (.AB #[rawInt ln,rawInt cl,.ref c'])) c' (Bs c' q)) D (.lst out)))\/(∃c',H1 P=some (.AB #[rawInt ln,rawInt cl,.ref c'])/\H1 c'=some (Bs c' q)/\∀D out,H1 D=none->DP kz xs out->Q (.ref D) (upd H1 D (.lst out))))):Ih K P q ln cl i Q v H1
def Qj(K:PySem.W.Frag)(P:Addr)(q:Str)(ln cl:Nat)(i:Int)(ta:TE):TE:=fun σ H Q=>ta σ H (Ih K P q ln cl i Q)
theorem wV{k:Nat}{c P:Addr}{a:Expr}{i:Int}{p kp lp:Pos}(hr:Ae k X.A)(hg:Gl X nm)(hm:X.mg nm=none)(hv:bootBuiltins nm=some (.builtin "sorted"))
  (Y:X.env.code=.ref c) (hq:X.env.qual++"<lambda>"=q) (C:CodeHd X.base c P) (hB:X.base.BuiltinsAt X.mg P) (ha:PE X a ta) (hd:(x==("__debug__":Str))=false)
  (B0:∀(pm B:Value)(c':Addr) v,bindArgs (kla_fn "<lambda>" q (Af x p1) (AY x i p2 p3 p4) (Av x) [] pm (.ref c') B) ⟨[v],[]⟩=pure [(x,v)])
  (Ky:closureFor (Av x) X.env=pure []) (Kz:defaultsOf (Af x p1) X.env=([],[]))
  (hn:nm ≠ "__name__":=by decide) (Dy:(nm==("__debug__":Str))=false:=by decide)
  (hs:starEach [a] X.env=(false,eval a X.env)::starEach [] X.env:=by rfl) (he:backTo pos (starEach [a] X.env)=(false,eval a X.env)::backTo pos (starEach [] X.env):=by rfl)
  (MF:(backTo pos (starEach [a] X.env)).any (·.1)=false:=by rfl) :
  PE X (.Call (.Name nm p) [a] [⟨some "key",.Lambda (Af x p1) (AY x i p2 p3 p4) (Av x) lp,kp⟩] pos) (Qj X.K P q lp.line lp.col i ta):=by
 walk_at "G"
 have core:∀(l:Addr)(xs:List V)(kz:List Int)(s2:Shared)(H2:Hp)(f c':Addr)(pm B:Value),Inv X aO σ H2 s2->xs.length<64->kz.length=xs.length ->
   s2.heap.get? f=some (kla_obj "<lambda>" q (Af x p1) (AY x i p2 p3 p4) (Av x) [] pm c' B)->s2.heap.CodeRec (.ref c') q->eH X.K H2 l xs ->
   (∀(j:Nat) x k,xs[j]?=some x->kz[j]?=some k->∃t ys,x=.ref t/\ze X.K H2 t ys/\Fi ys i=some (.int k)) ->
   (∀D out,H2 D=none->DP kz xs out->Q (.ref D) (upd H2 D (.lst out))) ->
   wpAny (model X.prog X.w) X.A (call (.builtin "sorted") [.ref l] [(Str.ofString "key",.ref f)]) (EP X aO σ Q) X.xe s2:=by
  intro l xs kz s2 H2 f c' pm B I2 Jl CQ hf ER hl G hQ
  obtain⟨its,r,KA,hz⟩:=I2.list hl
  have Jn:=r.length
  refine oV (vs:=its) (kz:=kz) (let ⟨o,n,e,hc,_,hd⟩:=KA;⟨o,e,hc,n,hd⟩) (by lia) (by lia) (ksk_s1 _ _) (λ_=>ksk_l1 _ _) (λ_=>ksk_t1 _ _) (λj v k hv hk h tk kp=>?_) λD h' tk out cc kp U Qk MG=>?_
  ·have hj:j<xs.length:=by rw[Jn];exact(zC.mp hv).1
   have ex:xs[j]?=some xs[j]:=zD hj
   obtain⟨u,hu,ru⟩:=r.get ex
   rw[hv]at hu
   cases hu
   obtain⟨t,ys,e1,ht,Ii⟩:=G j _ k ex hk
   rw[e1]at ru
   cases ru
   obtain⟨MH,r2,pl,Wb⟩:=I2.tuple ht
   obtain⟨n,h1,h2,h3,h4,h5⟩:=ji Ii
   obtain⟨w,ew,Wc⟩:=r2.get h2
   obtain⟨tok,rfl⟩:=Wc
   have BF:=r2.length
   have hn:=fU
   have MI:IsTup h t MH.toArray:=let ⟨o,e,r⟩:=pl;⟨o,kp _ _ e,r⟩
   exact wE (s:={ s2 with heap:=h,toks:=tk }) (A:=X.A.in1.in1) (kp _ _ hf) (bX ER λo e=>kp _ _ e) hr.depth (I2.nolimit.keeps kp) MI (by lia) (by lia) (by rw[zP,←BF];exact h1) (by simpa using ew) hd (B0 pm B c')
  ·obtain⟨ys,rv,sv,lv⟩:=pN r MG
   exact⟨.ref D,upd H2 D (.lst ys),I2.laid (t':=tk) kp U ⟨by rw[lv];exact hz,out.toList,cc,rv,by simpa using Qk⟩,rfl,hQ D ys (I2.yx.fresh U) sv⟩
 refine callWith_kw (zd (Bk ha a_ hs pos aO s σ H (λvs H1=>match vs with|[v]=>Ih X.K P q lp.line lp.col i Q v H1|_=>False) I h) ?_) he MF
 rintro us s1 ⟨vs,H1,I1,r,q1⟩
 match vs,r,q1 with
 | [v],r,q1 =>
 obtain⟨l,xs,kz,rfl,hl,Jl,CQ,G,hT⟩:=q1
 cases r with
 | cons r0 r1 =>
 cases r1
 cases r0
 refine kws_cons (kla_eval Kz ?_)
 rw[hq]
 have C1:=C.keeps I1.bk
 have MJ:=hB.keeps I1.bk
 have Jj:X.env.globals=mainGlobals:=I1.ok.glob
 have F7:s1.heap.Ns mainGlobals X.mg:=I1.mod.glob.keeps I1.bk
 rcases hT with ⟨hP,hQ⟩|⟨c',hP,Jo,hQ⟩
 ·have Ij:s1.heap.get? P=some (tabObj #[]):=I1.yx _ _ hP
  have Ql:mainGlobals≠P:=λz=>by
   obtain⟨o,es,ep,e,Qm,_⟩:=F7
   rw[z,Ij]at e;cases e;cases Qm
  refine kla_makeFunction (mg:=X.mg) Ky Jj F7 Y C1 Ij True.intro rfl Ql MJ λc' B h' tk hx HP Ay O Qn=>?_
  refine kws_nil ?_
  have I2:=(I1.grown (t':=tk) hP hx HP O Qn).kept (t':=tk) (h':=h'.push (kla_obj "<lambda>" q (Af x p1) (AY x i p2 p3 p4) (Av x) [] ((X.mg "__name__").getD .none) c' B)) λb o e=>Heap.get?_push_of_some _ e
  walk_at "v"
  refine core l xs kz _ _ _ c' _ B I2 Jl CQ (Heap.get?_push_size _ rfl) (bX O λo e=>Heap.get?_push_of_some _ e) ?_ (λj y k ej ek=>?_) λD out U st=>?_
  ·rcases hl with hl|hl
   ·exact .inl (CK hl λ_ z=>nomatch z)
   ·exact .inr hl
  ·obtain⟨t,ys,e1,ht,Ii⟩:=G j y k ej ek
   refine⟨t,ys,e1,?_,Ii⟩
   rcases ht with ht|ht
   ·exact .inl (CK ht λ_ z=>nomatch z)
   ·exact .inr ht
  ·have n1:D≠c':=λz=>by rw[z,bg]at U;cases U
   rw[bj n1]at U
   have n2:D≠P:=λz=>by rw[z,bg]at U;cases U
   rw[bj n2]at U
   exact hQ c' D out Ei n1.symm U st
 ·have Ij:s1.heap.get? P=some (tabObj #[rawInt lp.line,rawInt lp.col,.ref c']):=I1.yx _ _ hP
  have O:s1.heap.CodeRec (.ref c') q:=(I1.yx _ _ Jo).1
  refine kla_makeFunctionHit (mg:=X.mg) (cv:=.ref c') Ky Jj F7 Y C1 Ij (by simp [TriplesOk,rawInt]) (by simp [codeAmong,rawInt]) MJ λB h' tk hk _=>?_
  refine kws_nil ?_
  have kp:Kept s1.heap (h'.push (kla_obj "<lambda>" q (Af x p1) (AY x i p2 p3 p4) (Av x) [] ((X.mg "__name__").getD .none) c' B)):=λb o e=>Heap.get?_push_of_some _ (hk b o e)
  exact core l xs kz _ _ _ c' _ B (I1.kept (t':=tk) kp) Jl CQ (Heap.get?_push_size _ rfl) (bX O λo e=>kp _ _ e) hl G λD out U st=>hQ D out U st
structure Tab(K:PySem.W.Frag)(mg:Str->Option Value)(h:Heap)(c P:Addr):Prop where
 hd:CodeHd h c P
 bl:h.BuiltinsAt mg P
def Jp(tabs:List (Addr×Addr))(H:Hp):Prop:=∀b,(b∈tabs.map (·.2)/\H b=some (.AB #[]))\/(b∉tabs.map (·.2)/\(H b=none\/∃o xs,H b=some (.Ek o (.lst xs))))
theorem Fl{mb:Str->Option Value}{CX:Jb}{k:Nat}{sp:Sp}{G:Shared}{tabs:List (Addr×Addr)}
  (KX:K.In G.heap) (HQ:G.heap.Ns mainGlobals mg) (hb:G.heap.Ns builtinsNs mb) (Ox:∀x:Str,x ≠ "__name__"->mb x=bootBuiltins x) (Qo:G.heap.NoLimit) (hg:G.gens=#[])
  (ha:G.heap.get? a=some { cls:=.type "list",data:=.seq vs.toArray }) (hi:IntsAre vs ns) (hl:ns.length<=sizeLine) (hr:Ae k callerA)
  (hT:∀q∈tabs,Tab K mg G.heap q.1 q.2/\G.heap.get? q.2=some (tabObj #[])/\K.lookup q.2=none)
  (F:∀base:Heap,K.In base->base.Ns mainGlobals mg->(∀q∈tabs,Tab K mg base q.1 q.2)->mu P w K mg base CX k fa fd [x] sp) (B0:∀(s:Shared)(u:Value),BindsTo s fd ⟨[u],[]⟩ [(x,u)])
  (Wd:∀H:Hp,Jp tabs H->eH K H a (ns.map V.int)->sp [.ref a] H (λv _=>v=.bl true) λ_ _ _=>False)
  (We:∀H e s',CX [] H G (λ_ _ _=>False) e s'->False) :
  codeAny (model P w) callerA (.call (.ref fa) ⟨[.ref a],[]⟩) (λr s'=>r=.ok (.ret (.bool true))/\OldK G.heap s'.heap/\s'.os=G.os/\AllBare s'.gens) G:=by
 have rv:=f_ hi
 have Qp:=hi.length
 have U:∀{b:Addr},b∈tabs.map (·.2)->∃c,Tab K mg G.heap c b/\G.heap.get? b=some (tabObj #[])/\K.lookup b=none:=fun {b} hb=>by
  obtain⟨q,hq,rfl⟩:=yF.mp hb
  exact⟨q.1,hT q hq⟩
 have Th:a∉tabs.map (·.2):=λz=>by
  obtain⟨c,_,e,_⟩:=U z
  rw[ha]at e;cases e
 have core:∀H:Hp,Jp tabs H->eH K H a (ns.map V.int)->BG P w H G.heap->(∀b,H b≠none->b=a\/b∈tabs.map (·.2))->(H a≠none->K.lookup a=none) ->
   codeAny (model P w) callerA (.call (.ref fa) ⟨[.ref a],[]⟩) (λr s'=>r=.ok (.ret (.bool true))/\OldK G.heap s'.heap/\s'.os=G.os/\AllBare s'.gens) G:=by
  intro H hO hS yx hA hK
  have O:∀{b:Addr}{o:Obj},G.heap.get? b=some o->H b=none->(CO G.heap H).get? b=some o:=λe n=>qy e n
  have KC:∀{b:Addr}{o:Obj},G.heap.get? b=some o->o≠{ cls:=.type "list",data:=.seq vs.toArray }->o≠tabObj #[]->H b=none:=fun {b o} e n1 n2=>by
   cases q:H b with
   | none=>rfl
   | some u =>
    rcases hA b (by rw[q];simp)with e'|e'
    ·subst e'
     rw[ha]at e;cases e
     exact absurd rfl n1
    ·obtain⟨c,_,e2,_⟩:=U e'
     rw[e]at e2;cases e2
     exact absurd rfl n2
  have Wh:∀{b:Addr}{o:Obj}{es:Array DictEntry}{ep:Nat},G.heap.get? b=some o->o.data=.dict es ep->H b=none:=fun {b o es ep} e d =>
   KC e (λz=>by subst z;cases d) (λz=>by subst z;cases d)
  have Oy:∀{b:Addr}{m:Str->Option Value},G.heap.Ns b m->(CO G.heap H).Ns b m:=fun {b m} ⟨o,es,ep,e,d,r⟩=>⟨o,es,ep,O e (Wh e d),d,r⟩
  have JV:K.In (CO G.heap H):=λb o e=>O (KX b o e) (by
   cases q:H b with
   | none=>rfl
   | some u =>
    rcases hA b (by rw[q];simp)with e'|e'
    ·subst e'
     rw[hK (by rw[q];simp)]at e;cases e
    ·obtain⟨c,_,_,e2⟩:=U e'
     rw[e]at e2;cases e2)
  have Oz:∀q∈tabs,Tab K mg (CO G.heap H) q.1 q.2:=λq hq=>by
   obtain⟨⟨⟨o,Wi,file,tf,flags,tg,Wj,text,tt,e,hc,hd,r⟩,⟨bm,ob,b1,b2,b3,b4,b5,b6,b7,b8⟩⟩,_,_⟩:=hT q hq
   exact⟨⟨o,Wi,file,tf,flags,tg,Wj,text,tt,O e (KC e (λz=>by subst z;cases hd) (λz=>by subst z;cases hc)),hc,hd,r⟩,
    ⟨bm,ob,b1,b2,b3,b4,O b5 (KC b5 (λz=>by subst z;cases b8) (λz=>by subst z;cases b6)),b6,b7,b8⟩⟩
  have hM:Mod K mg (CO G.heap H):=⟨JV,Oy HQ,⟨mb,Oy hb,Ox⟩,let ⟨mc,h1,h2⟩:=Qo;⟨mc,Oy h1,h2⟩⟩
  have e0:En P w K mg (CO G.heap H) callerA [] G H:=⟨rfl,hM,λb o e=>ub e,qK (qa _ _),trivial,λb hb=>absurd (show b∈([]:List Addr)from hb) (by simp),yx,.of_eq hg⟩
  refine codeAny_mono ((F _ JV (Oy HQ) Oz).run callerA [] G H ⟨[.ref a],[]⟩ [.ref a] [.ref a] _ _ hr e0 (B0 G (.ref a)) (.cons rfl .nil) (Wd H hO hS)) λr s' h=>?_
  cases r with
  | error e=>exact(We H e s' h).elim
  | ok fl =>
   cases fl with
   | next=>exact False.elim h
   | brk=>exact False.elim h
   | cont=>exact False.elim h
   | ret u =>
    obtain⟨v,H',os,bare,un,MK,r',q⟩:=h
    have q':v=.bl true:=q
    subst q'
    obtain rfl:u=Value.bool true:=r'
    have kp:∀b o,G.heap.get? b=some o->b∉tabs.map (·.2)->s'.heap.get? b=some o:=λb o e B=>by
     rcases hO b with ⟨z,_⟩|⟨_,z|⟨ob,xs,z⟩⟩
     ·exact absurd z B
     ·exact un.keep b o e z (by intro z;exact absurd (show b∈([]:List Addr)from z) (by simp)) (by simp)
     ·have z2:=un.Df b ob _ z
      obtain⟨e1,_⟩:=yx b _ z
      obtain⟨e2,_⟩:=MK b _ z2
      rw[e]at e1;cases e1
      exact e2
    have tb:∀b,b∈tabs.map (·.2)->∃more,s'.heap.get? b=some (tabObj (#[]++more)):=λb B=>by
     rcases hO b with ⟨_,z⟩|⟨z,_⟩
     ·obtain⟨more,z2⟩:=un.Dg b _ z
      exact⟨more,MK b _ z2⟩
     ·exact absurd B z
    refine⟨rfl,⟨λb o e=>?_,λb o e=>?_⟩,os,bare⟩
    ·by_cases B:b∈tabs.map (·.2)
     ·obtain⟨more,e2⟩:=tb b B
      obtain⟨c,t,e3,_⟩:=U B
      rw[e]at e3;cases e3
      exact .inr (.inl ⟨(t.hd.tab e).isCodeTable,rfl,#[],more,rfl,e2⟩)
     ·exact .inl (kp b o e B)
    ·by_cases B:b∈tabs.map (·.2)
     ·obtain⟨more,e2⟩:=tb b B
      exact⟨_,e2⟩
     ·exact⟨o,kp b o e B⟩
 cases hk:K.lookup a with
 | some o =>
  have e:=KX a o hk
  rw[ha]at e
  cases e
  refine core (λb=>if b∈tabs.map (·.2)then some (.AB #[])else none) (λb=>?_) (.inr ⟨_,vs.toArray,_,hk,rfl,rfl,rfl,by rw[zP,Qp];exact hl,by simpa using rv⟩) (λb u z=>?_) (λb z=>?_) λz=>absurd (if_neg Th) z
  ·by_cases B:b∈tabs.map (·.2)
   ·exact .inl ⟨B,if_pos B⟩
   ·exact .inr ⟨B,.inl (if_neg B)⟩
  ·by_cases B:b∈tabs.map (·.2)
   ·have z':=(if_pos B).symm.trans z
    cases z'
    obtain⟨c,_,e3,_⟩:=U B
    exact e3
   ·have z':=(if_neg B).symm.trans z
    cases z'
  ·by_cases B:b∈tabs.map (·.2)
   ·exact .inr B
   ·exact absurd (if_neg B) z
 | none =>
  refine core (λb=>if b∈tabs.map (·.2)then some (.AB #[])else if b=a then some (.Ek { cls:=.type "list",data:=.seq vs.toArray } (.lst (ns.map V.int)))else none) (λb=>?_)
   (.inl (.inr ⟨{ cls:=.type "list",data:=.seq vs.toArray },(if_neg Th).trans (if_pos rfl)⟩)) (λb u z=>?_) (λb z=>?_) λ_=>hk
  ·by_cases B:b∈tabs.map (·.2)
   ·exact .inl ⟨B,if_pos B⟩
   ·refine .inr ⟨B,?_⟩
    by_cases Y:b=a
    ·exact .inr ⟨_,_,(if_neg B).trans (if_pos Y)⟩
    ·exact .inl ((if_neg B).trans (if_neg Y))
  ·by_cases B:b∈tabs.map (·.2)
   ·have z':=(if_pos B).symm.trans z
    cases z'
    obtain⟨c,_,e3,_⟩:=U B
    exact e3
   ·have z':=(if_neg B).symm.trans z
    by_cases Y:b=a
    ·have z2:=(if_pos Y).symm.trans z'
     cases z2
     subst Y
     exact⟨ha,by rw[zB];exact hl,vs,_,rv,ha⟩
    ·have z2:=(if_neg Y).symm.trans z'
     cases z2
  ·by_cases B:b∈tabs.map (·.2)
   ·exact .inr B
   ·by_cases Y:b=a
    ·exact .inl Y
    ·exact absurd ((if_neg B).trans (if_neg Y)) z
theorem Ac.Ti{st:Stmt}{f c:Addr}{k:Nat}{sp:Sp}(F:Ac K x qual st f fd)(hc:fd.code=.ref c)(S:AU N ps (zc st))(len:∀vs H Q E,sp vs H Q E->vs.length=ps.length)
  (B:∀(A:Around)(outer:List Env)(s:Shared)(H:Hp)(vs:List V)(Q:VK)(E:XK),Ae k (A.deeper (envOfC qual (zc st) s.heap.objs.size f (.ref c)))->sp vs H Q E ->
   ∃t,EM (Eo Aa P w K mg base N qual (zc st) f (.ref c) A outer s H E).Lo (Ax st) t/\t { nx:=λ_ H'=>Q .y2 H',rt:=Q } (start N vs) H):mu P w K mg base Aa (k+1) f fd ps sp:=by
 obtain⟨oc,od,kV,doc,pm,an,Bj,ct,FR,rfl,lk,G⟩:=F.ex
 have e:Bj=.ref c:=hc
 subst e
 refine vq lk G S len λA outer s H vs Q E hr O=>?_
 obtain⟨t,h,q⟩:=B A outer s H vs Q E hr O
 exact⟨t,h.Lo,q⟩
structure Sm(H H':Hp):Prop where
 keep:∀b u,H b=some u->(∀ps,u≠.AB ps)->H' b=some u
 tabs:∀b ps,H b=some (.AB ps)->∃LA,H' b=some (.AB LA)
theorem Sm.free(s:Sm H H')(n:H' b=none):H b=none:=by
 cases e:H b with
 | none=>rfl
 | some u =>
  by_cases h:∃ps,u=.AB ps
  ·obtain⟨ps,rfl⟩:=h
   obtain⟨LA,B⟩:=s.tabs b ps e
   rw[n]at B;cases B
  ·rw[s.keep b u e λps z=>h ⟨ps,z⟩]at n;cases n
def zz(P:Addr)(q:Str)(ln cl:Nat)(H:Hp):Prop:=H P=some (.AB #[])\/∃c',H P=some (.AB #[rawInt ln,rawInt cl,.ref c'])/\H c'=some (Bs c' q)
theorem zz.same{P:Addr}(h:zz P q ln cl H)(s:c0 H H'):zz P q ln cl H':=by
 rcases h with h|⟨c',h1,h2⟩
 ·exact .inl (s _ _ h)
 ·exact .inr ⟨c',s _ _ h1,s _ _ h2⟩
theorem zz.Fm{P:Addr}(h:zz P q ln cl H)(e:H p=some (.lst xs)):zz P q ln cl (upd H p o):=by
 rcases h with h|⟨c',h1,h2⟩
 ·exact .inl (by rw[bj (bK h e λz=>nomatch z)];exact h)
 ·exact .inr ⟨c',by rw[bj (bK h1 e λz=>nomatch z)];exact h1,by rw[bj (bK h2 e λz=>nomatch z)];exact h2⟩
theorem gr{R:Nat->Nat->Prop}(B:∀a b,R a b->R b a->False):∀{l₁ l₂:List Nat},l₁.Perm l₂->l₁.Pairwise R->l₂.Pairwise R->l₁=l₂
 | [],l₂,p,_,_=>by rw[List.nil_perm.mp p]
 | a::l₁,[],p,_,_=>by have:=p.length_eq;simp at this
 | a::l₁,b::l₂,p,h1,h2=>by
  have G:=yY.mp h1
  have O:=yY.mp h2
  have e:a=b:=by
   rcases zO.mp (p.mem_iff.mp (zH (a:=a)))with e|m
   ·exact e
   ·rcases zO.mp (p.mem_iff.mpr (zH (a:=b)))with e|m'
    ·exact e.symm
    ·exact(B a b (G.1 b m') (O.1 a m)).elim
  subst e
  rw[gr B (List.Perm.cons_inv p) G.2 O.2]
theorem ud{m:Nat}(hb:∀i,i<n->0<=kz.getD i 0/\kz.getD i 0<m)(hp:is.Perm (List.range n))(hw:is.Pairwise (λi j=>kz.getD i 0<kz.getD j 0\/(kz.getD i 0=kz.getD j 0/\i<j))) :
  is=(List.range m).flatMap λ(t:Nat)=>(List.range n).filter λi=>kz.getD i 0==(t:Int):=by
 have hj:((List.range m).flatMap λ(t:Nat)=>(List.range n).filter λi=>kz.getD i 0==(t:Int)).Pairwise (λi j=>kz.getD i 0<kz.getD j 0\/(kz.getD i 0=kz.getD j 0/\i<j)):=by
  rw[kT]
  refine⟨λt _=>?_,?_⟩
  ·have h1:((List.range n).filter λi=>kz.getD i 0==(t:Int)).Pairwise (· < ·):=List.Pairwise.filter _ jY
   refine List.Pairwise.imp_of_mem (fun {i j} hi hj h=>?_) h1
   have e1:=(zR.mp hi).2
   have e2:=(zR.mp hj).2
   simp at e1 e2
   exact .inr ⟨by simp;lia,h⟩
  ·refine List.Pairwise.imp (fun {t u} h i hi j hj=>?_) (jY (n:=m))
   have e1:=(zR.mp hi).2
   have e2:=(zR.mp hj).2
   simp at e1 e2
   exact .inl (by simp;lia)
 refine gr (λa b h1 h2=>by lia) (hp.trans ?_) hw hj
 refine(List.perm_ext_iff_of_nodup List.nodup_range (hj.imp λh e=>by subst e;lia)).mpr λi=>?_
 rw[y8,jC]
 constructor
 ·intro h
  obtain⟨h1,h2⟩:=hb i h
  refine⟨(kz.getD i 0).toNat,y8.mpr (by lia),zR.mpr ⟨y8.mpr h,?_⟩⟩
  have:((kz.getD i 0).toNat:Int)=kz.getD i 0:=by lia
  rw[this]
  simp
 ·rintro⟨t,_,h⟩
  exact y8.mp (zR.mp h).1
theorem jx(d:α)(f:α->Bool):∀L:List α,((List.range L.length).filter λi=>f (L.getD i d)).map (λi=>L.getD i d)=L.filter f:=λL=>by
 have e:L=(List.range L.length).map λi=>L.getD i d:=by
  refine jI λk=>?_
  rw[zG]
  by_cases h:k<L.length
  ·rw[qF h,zD h]
   show _=some (L.getD k d)
   rw[zA,zD h]
   rfl
  ·rw[yT (by lia),yT (by simp;lia)]
   rfl
 conv=>rhs;rw[e]
 rw[kP]
 rfl
theorem mi(d:α)(key:α->Int){L:List α}{m:Nat}(hb:∀x∈L,0<=key x/\key x<m)(hp:is.Perm (List.range L.length))
  (hw:is.Pairwise (λi j=>(L.map key).getD i 0<(L.map key).getD j 0\/((L.map key).getD i 0=(L.map key).getD j 0/\i<j))) :
  is.map (λi=>L.getD i d)=(List.range m).flatMap λ(t:Nat)=>L.filter λx=>key x==(t:Int):=by
 have B:∀i,i<L.length->(L.map key).getD i 0=key (L.getD i d):=λi h=>by
  rw[zA,zG,zD h,zA,zD h]
  rfl
 have hm:∀i,i<L.length->L.getD i d∈L:=λi h=>by
  rw[zA,zD h]
  exact List.getElem_mem h
 rw[ud (n:=L.length) (m:=m) (λi h=>by rw[B i h];exact hb _ (hm i h)) hp hw,vP]
 congr 1
 funext t
 rw[←jx d (λx=>key x==(t:Int)) L]
 congr 1
 refine j0 λi hi=>?_
 rw[B i (y8.mp hi)]
theorem gm{F:V->α->Prop}(d:α){L:List α}(r:Paired F xs L):∀is:List Nat,(∀i∈is,i<xs.length)->Paired F (is.map λi=>xs.getD i .y2) (is.map λi=>L.getD i d)
 | [],_=>.nil
 | i::is,h=>by
  have e:xs[i]?=some (xs.getD i .y2):=by rw[zA,zD (h i (.head _))];rfl
  obtain⟨u,e2,B⟩:=PySem.Paired.getL r e
  have e3:L.getD i d=u:=by rw[zA,e2];rfl
  refine .cons ?_ (gm d r is λj hj=>h j (.tail _ hj))
  show F (xs.getD i .y2) (L.getD i d)
  rw[e3];exact B
end L2
namespace L2
open PySem PySem.Spec PyProof.Rows
theorem iP:∀{l:List (Str×Tok)}{ys:List Str},l.map (·.1)=ys->Vals (ys.map V.str) (strValues l)
 | [],ys,h=>by subst h;exact .nil
 | (x,t)::l,ys,h=>by subst h;exact .cons ⟨t,rfl⟩ (iP rfl)
theorem nQ:∀{ys:List Str}{vs:List Value},Vals (ys.map V.str) vs->StrsAre vs ys
 | [],_,.nil=>.nil
 | y::ys,_,.cons r rs=>by obtain⟨t,rfl⟩:=r;exact .cons y t (nQ rs)
inductive rJoin(K:PySem.W.Frag)(x:V)(xs:List V)(H:Hp)(Q:VK):Prop where
 | mk (z D ys:_) (ui:x=.str z) (uj:xs=[.ref D]) (zf:eH K H D (ys.map V.str)) (zq:(ys.map (·.length)).sum+ys.length*z.length<=16777216) (Ai:Q (.str (Txt.join z ys)) H):rJoin K x xs H Q
theorem fy:Kh X "str.join" (rJoin X.K):=by
 intro aO s σ H x xs v us Q I B G h
 obtain⟨z,D,ys,rfl,rfl,hl,hz,q⟩:=h
 obtain⟨t,rfl⟩:=B
 obtain⟨u,rfl,ru⟩:=dy G
 cases ru
 obtain⟨its,rv,pl,_⟩:=I.list hl
 exact join_list (items:=its.toArray) pl.isList (by simpa using nQ rv) hz λt' k=>⟨.str _,H,I.tok k,⟨t',rfl⟩,q⟩
inductive F8(x:V)(xs:List V)(H:Hp)(Q:VK):Prop where
 | mk (z y:_) (ui:x=.str z) (uj:xs=[.str y]) (zf:(y.length==0)=false) (zq:z.length<=1000000) (Ai:∀D,H D=none->Q (.ref D) (upd H D (.lst ((Txt.split z y).map V.str)))):F8 x xs H Q
theorem iS:Kh X "str.split" F8:=by
 intro aO s σ H x xs v us Q I B G h
 obtain⟨z,y,rfl,rfl,hy,hz,q⟩:=h
 obtain⟨t,rfl⟩:=B
 obtain⟨u,rfl,t2,rfl⟩:=dy G
 have O:=split_le z y
 have fin:∀(l:List (Str×Tok))(k:Nat),l.map (·.1)=Txt.split z y->EP X aO σ Q (.ref s.heap.objs.size) { s with heap:=s.heap.push { cls:=.type "list",data:=.seq (strValues l).toArray },toks:=k }:=λl k e =>
  ⟨.ref _,_,I.laid (o:=.lst ((Txt.split z y).map V.str)) (λb o e=>Heap.get?_push_of_some _ e) (zJ _) ⟨by rw[zB,sizeLine_eq];lia,strValues l,0,iP e,Heap.get?_push_size _ rfl⟩,rfl,q _ (I.yx.fresh (zJ _))⟩
 cases h1:(decide (z.length<y.length)||decide (Builtin.Str.strKind z<Builtin.Str.strKind y))
 ·cases hf:(Builtin.Str.occurrences z y 0 z.length (z.length+1)).isEmpty
  ·have es:Txt.split z y=Builtin.Str.partsBetween z (Builtin.Str.occurrences z y 0 z.length (z.length+1)) y.length:=(if_neg (ne_true_of_eq_false h1)).trans (if_neg (ne_true_of_eq_false hf))
   refine call_meets F.slot_str_split (typeIs_str _ _ _) F.entry_str_split (F.args_str_split_2 _ _) (meets_str_split_sep z y t t2 h1 hy hf (by rw[sizeLine_eq];lia) (by rw[←es,sizeLine_eq];lia)) ?_
   show wants (EP X aO σ Q) X.xe _ { s with toks:=_,heap:=s.heap.push { cls:=.type "list",data:=.seq (strsFrom s.toks (Builtin.Str.partsBetween z (Builtin.Str.occurrences z y 0 z.length (z.length+1)) y.length)).toArray } }
   rw[strsFrom_eq,←es]
   exact fin _ _ (numbered_texts _ _)
  ·exact call_meets F.slot_str_split (typeIs_str _ _ _) F.entry_str_split (F.args_str_split_2 _ _) (meets_str_split_not_found z y t t2 h1 hy hf)
    (fin [(z,t)] s.toks ((if_neg (ne_true_of_eq_false h1)).trans (if_pos hf)).symm)
 ·exact call_meets F.slot_str_split (typeIs_str _ _ _) F.entry_str_split (F.args_str_split_2 _ _) (meets_str_split_cannot_occur z y t t2 h1)
   (fin [(z,t)] s.toks (if_pos h1).symm)
inductive EV(x:V)(xs:List V)(H:Hp)(Q:VK):Prop where
 | mk (z y:_) (ui:x=.str z) (uj:xs=[.str y]) (zf:Q (.bl (Txt.startswith z y)) H):EV x xs H Q
theorem ix:Kh X "str.startswith" EV:=by
 intro aO s σ H x xs v us Q I B G h
 obtain⟨z,y,rfl,rfl,q⟩:=h
 obtain⟨t,rfl⟩:=B
 obtain⟨u,rfl,t2,rfl⟩:=dy G
 exact SC.startswith ⟨.bl _,H,I,rfl,q⟩
theorem iB(hc:X.calm=true):Aq X (.builtin "all") (λxs H Q=>∃(p:Addr)(bs:List Bool),xs=[.ref p]/\eH X.K H p (bs.map V.bl)/\Q (.bl (bs.all id)) H):=by
 walk_at "O"
 refine call_all_walk (wpAny_pyIter_list pl.isList ?_)
 refine⟨_,_,_,_,_,_,λi=>bs.getD i true,rfl,Walks.list (A:=X.A.in1) (I.ok.hd hc) s.heap.objs.size p (yK lt) its.toArray,⟨⟨_,Heap.get?_push_size _ rfl,rfl,rfl⟩,pl.isList.push _⟩,?_,λh' tk k=>?_⟩
 ·intro i v s' B G hP hQ
  walk_at "E"
  have e:bs.getD i true=bs[i]:=by rw[zA,zD Fu];rfl
  rw[←e]
  exact hQ
 ·refine⟨.bl _,H,I.kept (t':=tk) λb o e=>k b o (λz=>?_) (Heap.get?_push_of_some _ e),rfl,?_⟩
  ·rw[zF.mp z]at e
   exact absurd (Heap.lt_size e) (qO _)
  ·have e:(List.range its.toArray.size).all (λi=>bs.getD i true)=bs.all id:=by
    rw[zP,←hl]
    clear q hq hl rv hz
    induction bs with
    | nil=>rfl
    | cons b bs ih=>rw[yD,xI,List.all_cons,List.all_map,List.all_cons];exact congrArg (b&&·) ih
   show Q (.bl _) H
   rw[e]
   exact q
def KD:V->Option Str
 | .str z=>some z
 | .int i=>some (Str.ofString (toString i))
 | _=>none
theorem dM:Aq X (.type "str") (λxs H Q=>∃x z,xs=[x]/\KD x=some z/\(∀i,x=.int i->i.natAbs.log2<1920)/\Q (.str z) H):=by
 intro aO s σ H xs us Q I r h
 obtain⟨x,z,rfl,hx,hb,q⟩:=h
 obtain⟨u,rfl,ru⟩:=dy r
 cases x <;>simp only [KD,reduceCtorEq,Option.some.injEq]at hx
 ·subst hx
  obtain⟨t,rfl⟩:=ru
  exact PySem.P.str_of_int (hb _ rfl) ⟨.str _,H,I.tok _,⟨_,rfl⟩,q⟩
 ·subst hx
  obtain⟨t,rfl⟩:=ru
  exact PySem.P.str_of_str ⟨.str _,H,I,⟨_,rfl⟩,q⟩
theorem pO:Aq X (.type "int") (λxs H Q=>∃z n,xs=[.str z]/\PySem.intText? z=some n/\z.length<=640/\Q (.int n) H):=by
 intro aO s σ H xs us Q I r h
 obtain⟨z,n,rfl,hn,hl,q⟩:=h
 obtain⟨u,rfl,t,rfl⟩:=dy r
 exact PySem.W.KIN.call_text hn hl ⟨.int n,H,I.tok _,⟨_,rfl⟩,q⟩
inductive ML(x:V)(lo:Option Int)(hi:Option Int)(H:Hp)(Q:VK):Prop where
 | mk (z:_) (ui:x=.str z) (uj:z.length<=1000000) (zf:Q (.str (Txt.slice z lo hi)) H):ML x lo hi H Q
theorem xr:Oq X ML:=by
 intro aO s σ H x v U Y lo hi sl Q I O hs pl pu h
 obtain⟨z,rfl,hz,q⟩:=h
 obtain⟨t,rfl⟩:=O
 refine⟨"str",_,F.slot_str_getitem.lookup,typeIs_str _ _ _,?_⟩
 have sz:∀l u,(Txt.slice z l u).length<=sizeLine:=λl u=>yE (Txt.slice_le z l u) (by rw[sizeLine_eq];lia)
 have fin:∀t' k,EP X aO σ Q (.str (Txt.slice z lo hi) t') { s with toks:=k }:=λt' k=>⟨.str _,H,I.tok k,⟨t',rfl⟩,q⟩
 cases pl with
 | none =>
  cases pu with
  | none=>exact wpAny_getItem_str_slice (l:=none) (u:=none) (st:=none) hs rfl (post_val_or_str ⟨sz _ _,fin⟩)
  | int j B=>exact wpAny_getItem_str_slice (l:=none) (u:=some (j,B)) (st:=none) hs rfl (post_val_or_str ⟨sz _ _,fin⟩)
 | int i G =>
  cases pu with
  | none=>exact wpAny_getItem_str_slice (l:=some (i,G)) (u:=none) (st:=none) hs rfl (post_val_or_str ⟨sz _ _,fin⟩)
  | int j B=>exact wpAny_getItem_str_slice (l:=some (i,G)) (u:=some (j,B)) (st:=none) hs rfl (post_val_or_str ⟨sz _ _,fin⟩)
def OB(x:Str):It:=⟨λi _=>i<x.cps.size,λi H y H'=>H'=H/\∃c,x.cps[i]?=some c/\y=.str ⟨#[c]⟩,λi _=>i=x.cps.size⟩
theorem mw(x:Str)(t:Tok)(it:Addr)
  (W:∀A:Around,A.handled=none->Walks P w A it [it] [it] x.cps.size (SignAt x) (λi h=>h.IsStrIter it T x t i))
  (S:∀(A:Around)(i:Nat)(s:Shared)(Q:Value->Shared->Prop)(E:Value->Shared->Prop),s.heap.IsStrIter it T x t i->Q (.ref it) s->wpAny (model P w) A (pyIter (.ref it)) Q E s)
  (hT:["enumerate","zip","dict_itemiterator","dict_reverseitemiterator","odict_iterator","itertools.zip_longest","itertools.pairwise"].contains T=false) :
  Turn P w K tg (OB x) [it] it (λi h=>h.IsStrIter it T x t i) where
 mem:=by simp
 obj:=λi h st b hb=>by
  have e:b=it:=by simpa using hb
  subst e
  obtain⟨o,e,c,d⟩:=st
  exact⟨o,e,λv z=>by rw[d]at z;cases z⟩
 keep:=λi h h' st k=>let ⟨o,e,r⟩:=st;⟨o,k it (by simp) o e,r⟩
 item:=by
  walk_at "s"
  walk_at "K"
  refine(W X.A (I.ok.hd hc)).item i s _ _ hg st λv h' tk hv B G=>?_
  obtain⟨c,u,U,rfl⟩:=hv
  have I1:Inv X aO σ H { s with heap:=h',toks:=tk }:=I.turned (λb o hb e=>G b o (by simpa using hb) e) f0 f1 f3 f4 f5
  obtain⟨o,e,Y,d⟩:=id B
  exact⟨_,rfl,oS (s:={ s with heap:=h',toks:=tk }) e Y d hT ⟨.str ⟨#[c]⟩,H,I1,⟨u,rfl⟩,⟨rfl,c,U,rfl⟩,B,λb hb=>(hf b hb).1⟩⟩
 done:=by
  walk_at "s"
  walk_at "K"
  have O:i=x.cps.size:=hg
  subst O
  exact(W X.A (I.ok.hd hc)).done s _ _ st λh' tk G=>⟨rfl,I.turned (λb o hb e=>G b o (by simpa using hb) e) f0 f1 f3 f4 f5⟩
 self:=S
inductive Jq(R:It->Hp->Prop)(x:V)(H1:Hp):Prop where
 | mk (z:_) (ui:x=.str z) (uj:R (OB z) H1):Jq R x H1
def Qq(tl:TE):TI:=fun σ H R=>tl σ H λx H1=>Jq R x H1
theorem wz{l:Expr}{tl:TE}(hl:PE X l tl):PI X tg l (Qq tl):=by
 intro aO s σ H R I h
 refine zd (hl aO s σ H _ I h) λv s1 ⟨x,H1,I1,B,G⟩=>?_
 obtain⟨z,rfl,q⟩:=G
 obtain⟨t,rfl⟩:=B
 refine wpAny_pyIter_strU ?_
 have fp:∀b∈[s1.heap.objs.size],Bx X aO H1 b:=λb hb=>by
  have e:b=s1.heap.objs.size:=by simpa using hb
  subst e
  exact I1.Dj (zJ _) (I1.yx.fresh (zJ _))
 have I2:Inv X aO σ H1 { s1 with heap:=s1.heap.push { cls:=.type (strIterType z),data:=.fields #[.str z t,.int 0 0] } }:=I1.kept (t':=s1.toks) λb o e=>Heap.get?_push_of_some _ e
 have st:(s1.heap.push { cls:=.type (strIterType z),data:=.fields #[.str z t,.int 0 0] }).IsStrIter s1.heap.objs.size (strIterType z) z t 0:=⟨_,Heap.get?_push_size _ rfl,rfl,rfl⟩
 refine⟨s1.heap.objs.size,[s1.heap.objs.size],λi h=>h.IsStrIter s1.heap.objs.size (strIterType z) z t i,OB z,H1,rfl,I2,?_,st,fp,q⟩
 by_cases ha:z.cps.all (·<128)=true
 ·have e:strIterType z="str_ascii_iterator":=if_pos ha
  rw[e]
  exact mw z t _ (λA hh=>Walks.strAscii hh _ z t) (λ_ _ _ _ _ st h=>wpAny_pyIter_striter_ascii st h) (by decide)
 ·have e:strIterType z="str_iterator":=if_neg ha
  rw[e]
  exact mw z t _ (λA hh=>Walks.strWide hh _ z t) (λ_ _ _ _ _ st h=>wpAny_pyIter_striter_wide st h) (by decide)
theorem lQ{g:TG}{Q:Hp->Prop}{z:Str}(Pv:Nat->Hp->Prop)(h0:Pv 0 (upd H1 D (.lst [])))
  (hs:∀i c H (m:Nat) (W:Nat->Nat->Hp->Prop),z.cps[i]?=some c->Pv i H->(∀H',Pv (i+1) H'->∃B,B<m/\W (i+1) B H')->g (.str ⟨#[c]⟩) σ0 H fun σ2 H2=>tc σ2 H2 λb H3 =>
   if b=true then te σ2 H3 λy H4=>∃ys,H4 D=some (.lst ys)/\ys.length<sizeLine/\∃B,B<m/\W (i+1) B (upd H4 D (.lst (ys++[y])))else ∃B,B<m/\W (i+1) B H3)
  (hd:∀H,Pv z.cps.size H->Q H):Cq (OB z) D σ0 g tc te H1 Q:=by
 refine⟨λi m H=>m=z.cps.size-i/\i<=z.cps.size/\Pv i H,⟨z.cps.size,by simp,yH _,h0⟩,?_⟩
 rintro i m H ⟨rfl,hi,p⟩
 by_cases Ay:i<z.cps.size
 ·refine .inr ⟨Ay,λx H' y=>?_⟩
  obtain⟨e,c,G,e2⟩:=y
  subst e
  subst e2
  exact hs i c _ (z.cps.size-i) (λi m H=>m=z.cps.size-i/\i<=z.cps.size/\Pv i H) G p λH' p'=>⟨z.cps.size-(i+1),by lia,rfl,Ay,p'⟩
 ·have e:i=z.cps.size:=by lia
  subst e
  exact .inl ⟨rfl,hd H p⟩
section
variable{o e:Expr}{ty:TE}
def MM(kvs:List (Key×V))(ty:TE):TE:=fun σ H Q=>ty σ H λy H2=>∃k,y=kV k/\Q ((AF kvs k).getD .y2) H2
theorem rE{vs:List (Key×Value)}(hd:∀h,X.K.In h->h.DictOf (za X.prog X.w) a vs)(hv:KV kvs vs)(hs:(a==sysModules)=false)(ho:PE X o (tC (.ref a)))(G:PE X e ty)(m:M1 X o "get" apos e AE) :
  PE X (.Call (.Attribute o "get" apos) [e] [] AE) (MM kvs ty):=by
 intro aO s σ H Q I h
 refine wpAny_Call_method m.base m.SM m.line PySem.F.plainAttrs_dict PySem.F.slot_dict_get PySem.F.type_dict_get (zd (ho aO s σ H (λx H1=>x=.ref a/\ty σ H1 λy H2=>∃k,y=kV k/\Q ((AF kvs k).getD .y2) H2) I ⟨rfl,h⟩) λu s1 ⟨x,H1,I1,O,ex,U⟩=>?_)
 subst ex
 obtain rfl:u=Value.ref a:=O
 have dd:=hd _ I1.Bt
 refine⟨dd.typeIs,λb q=>?_,?_⟩
 ·cases q
  obtain⟨Y,_,_,h1,h2,_⟩:=dd
  exact⟨Y,h1,h2.2.1⟩
 rw[m.trees]
 refine Calls.callWith_builtin rfl (Calls.evalArgs_plain (Calls.spliced_cons (zd (G aO s1 σ H1 _ I1 U) λiv s2 ⟨y,H2,I2,ry,k,ek,q2⟩=>Calls.spliced_nil ?_)))
 subst ek
 have B:=hd _ I2.Bt
 exact call_meetsIn PySem.F.slot_dict_get B.typeIs PySem.F.entry_dict_get (PySem.F.args_dict_get_2 _ _) (meets_dict_get (za X.prog X.w) a (oz ry) hs) ⟨_,B.mapOf,(AF kvs k).getD .y2,H2,I2.tok _,(hv.val k).getD rfl,q2⟩
end
theorem uJ:∀{ys:List Str}{us:List Value}{i:Nat}{y:Str},Vals (ys.map V.str) us->ys[i]?=some y->∃t,us[i]?=some (.str y t):=fun {ys us i y} r h=>by
 obtain⟨u,hu,t,rfl⟩:=r.get (i:=i) (x:=V.str y) (by rw[zG,h];rfl)
 exact⟨t,hu⟩
theorem p9{ys:List Str}{z:Str}{t:Tok}{Q:PySem.Fin->Shared->Prop}(ht:IsTup s.heap a us.toArray)(r:Vals (ys.map V.str) us)
  (hj:ys[j]?=some z) (hn:∀i,i<j->ys[i]?≠some z) (h:Q (.done (.ret (.int j s.toks))) { s with toks:=s.toks+1 }) :
  wpAny (model prog w) A (Builtin.«tuple.index» ⟨[.ref a,.str z t],[]⟩) Q E s:=by
 have hl:=r.length
 rw[zB]at hl
 have U:j<ys.length:=(zC.mp hj).1
 unfold Builtin.«tuple.index»
 refine wpAny_bind (m:=selfAndSome "tuple.index" "index" 1 3 _) (wpAny_pure ?_)
 refine wpAny_bind (tupleItemsOf_ ht ?_)
 dsimp only
 refine wpAny_bind (wpAny_pure ?_)
 refine wpAny_bind (wpAny_pure ?_)
 rw[vF]
 rw[Std.Legacy.Range.forIn_eq_forIn_range']
 rw[show(List.range' [:us.toArray.size].start [:us.toArray.size].size [:us.toArray.size].step)=List.range' 0 us.length 1 from by simp [Std.Legacy.Range.size]]
 have G:∀k i:Nat,i+k=us.length->i<=j->wpAny (model prog w) A (forIn (List.range' i k 1) ((none:Option PySem.Fin),()) λ(i:Nat) _ =>
      match us.toArray[i]? with
      | some y=>do
       let B ←eqBool y (Value.str z t)
       if B=true then do
         let B ←retInt (i:Int)
         pure (ForInStep.done (some B,()))
        else pure (ForInStep.yield (none,()))
      | x=>pure (ForInStep.yield (none,()))) (λr s'=>r=(some (.done (.ret (.int j s.toks))),())/\s'={ s with toks:=s.toks+1 }) E s:=by
  intro k
  induction k with
  | zero=>intro i h1 h2;lia
  | succ k ih =>
   intro i h1 h2
   rw[List.range'_succ,vT]
   obtain⟨y,hy⟩:∃y,ys[i]?=some y:=⟨_,zD (by lia)⟩
   obtain⟨ty,hu⟩:=uJ r hy
   have O:us.toArray[i]?=some (.str y ty):=by simpa using hu
   rw[O]
   dsimp only
   refine wpAny_bind ?_
   refine wpAny_bind (wpAny_eqBool_str ?_)
   by_cases e:y=z
   ·subst e
    have Y:i=j:=by
     rcases Nat.lt_or_ge i j with q|q
     ·exact absurd hy (hn i q)
     ·lia
    subst Y
    rw[decide_eq_true rfl,if_pos rfl]
    exact wpAny_bind (wpAny_bind (wpAny_mkInt (wpAny_pure (wpAny_pure (wpAny_pure ⟨rfl,rfl⟩)))))
   ·rw[decide_eq_false e,if_neg zS]
    refine wpAny_pure ?_
    have ij:i≠j:=λq=>by subst q;rw[hj]at hy;cases hy;exact e rfl
    exact ih (i+1) (by lia) (by lia)
 refine wpAny_bind (wpAny_mono (G us.length 0 (by lia) (yH _)) (λq s' hq=>?_) λ_ _ e=>e)
 obtain⟨rfl,rfl⟩:=hq
 exact wpAny_pure h
section
variable{o e:Expr}{to:TE}
inductive Jr(K:PySem.W.Frag)(te:TE)(σ:St)(Q:VK)(x:V)(H1:Hp):Prop where
 | mk (a:Addr) (ys:List Str) (ui:x=.ref a) (uj:(∃o,K.lookup a=some o/\o.cls=.type "tuple"/\o.dict=none)) (zf:ze K H1 a (ys.map V.str)) (zq:te σ H1 λy H2=>∃(z:Str)(j:Nat),y=.str z/\ze K H2 a (ys.map V.str)/\ys[j]?=some z/\(∀i,i<j->ys[i]?≠some z)/\Q (.int ((j:Nat):Int)) H2):Jr K te σ Q x H1
def Qr(K:PySem.W.Frag)(to te:TE):TE:=fun σ H Q=>to σ H λx H1=>Jr K te σ Q x H1
theorem wx(ho:PE X o to)(O:PE X e te)(m:M1 X o "index" apos e AE):PE X (.Call (.Attribute o "index" apos) [e] [] AE) (Qr X.K to te):=by
 intro aO s σ H Q I h
 refine wpAny_Call_method m.base m.SM m.line PySem.F.plainAttrs_tuple PySem.F.slot_tuple_index PySem.F.type_tuple_index (zd (ho aO s σ H _ I h) λu s1 ⟨x,H1,I1,U,a,ys,ex,⟨Y,k1,k2,k3⟩,hq,q1⟩=>?_)
 subst ex
 obtain rfl:u=Value.ref a:=U
 obtain⟨its,rv,pl,_⟩:=I1.tuple hq
 refine⟨pl.typeIs,λb q=>?_,?_⟩
 ·cases q
  exact⟨Y,I1.Bt _ _ k1,k3⟩
 rw[m.trees]
 refine Calls.callWith_builtin rfl (Calls.evalArgs_plain (Calls.spliced_cons (zd (O aO s1 σ H1 _ I1 q1) λiv s2 ⟨y,H2,I2,ry,z,j,ez,HM,hj,hn,q2⟩=>Calls.spliced_nil ?_)))
 subst ez
 obtain⟨t,rfl⟩:=ry
 obtain⟨CM,G,B,_⟩:=I2.tuple HM
 exact wpAny_call_entry PySem.F.slot_tuple_index B.typeIs PySem.F.entry_tuple_index (p9 B G hj hn ⟨_,rfl,.int _,H2,I2.tok _,⟨_,rfl⟩,q2⟩) (PySem.F.args_tuple_index_2 _ _)
end
structure Nx(prog:Program)(w:World)(A:Around)(it:Addr)(fp:List Addr)(S:Nat->Heap->Prop)(xs:Array Value):Prop where
 fr:∀k h h',S k h->(∀b∈fp,∀o,h.get? b=some o->h'.get? b=some o)->S k h'
 at':∀k h,S k h->∃o,h.get? it=some o
 item:∀k x (s:Shared) (Q E:Value->Shared->Prop),S k s.heap->xs[k]?=some x->(∀h',S (k+1) h'->Heap.SameBut it s.heap h'->Q x { s with heap:=h' })->wpAny (model prog w) A (Builtin.SmallTypes.nextOf (.ref it)) Q E s
 stop:∀k (s:Shared) (Q E:Value->Shared->Prop),S k s.heap->xs[k]?=none->(∀h' e,Heap.ExtBut it s.heap h'->(∃o,h'.get? e=some o/\o.cls=.type "StopIteration")->E (.ref e) { s with heap:=h' }) ->
  wpAny (model prog w) A (Builtin.SmallTypes.nextOf (.ref it)) Q E s
section
theorem uS(hh:A.handled=none)(it l:Addr)(A5:l≠it)(xs:Array Value):Nx prog w A it [it,l] (λk h=>h.IsListIter it l k/\h.IsList l xs) xs where
 fr:=λk h h' st kp=>⟨st.1.at λo e=>kp it (by simp) o e,st.2.at λo e=>kp l (by simp) o e⟩
 at':=λk h st=>let ⟨o,e,_⟩:=st.1;⟨o,e⟩
 item:=λk x s Q E st hx hQ=>wpAny_nextOf_list_item st.1 st.2 hx λh' B sb=>hQ h' ⟨B,st.2.extBut sb.extBut A5⟩ sb
 stop:=λk s Q E st hx G=>wpAny_nextOf_list_end hh st.1 st.2 hx G
theorem iA{t:Addr}{x:Value}(hit:s.heap.IsTupleIter it t i)(ht:s.heap.IsTuple t items)(hx:items[i]?=some x)
  (hQ:∀h',h'.IsTupleIter it t (i+1)->Heap.SameBut it s.heap h'->Q x { s with heap:=h' }):wpAny (model prog w) A (Builtin.SmallTypes.nextOf (.ref it)) Q E s:=by
 walk_at "k"
 refine wpAny_bind (wpAny_setField ho hd (by simp) (wpAny_pure ⟨x,rfl,wpAny_pure (hQ _ ?_ (Heap.SameBut.update ..))⟩))
 exact⟨_,Heap.get?_update_self _ ho (Obj.isFreed_of_fields (Obj.data_mapFields hd _)),(Obj.cls_mapFields ..).trans hc,by rw[Obj.data_mapFields hd];simp [rawInt]⟩
theorem iw{t:Addr}(hh:A.handled=none)(hit:s.heap.IsTupleIter it t i)(ht:s.heap.IsTuple t items)(hx:items[i]?=none)
  (B:∀h' e,Heap.ExtBut it s.heap h'->(∃o,h'.get? e=some o/\o.cls=.type "StopIteration")->E (.ref e) { s with heap:=h' }):wpAny (model prog w) A (Builtin.SmallTypes.nextOf (.ref it)) Q E s:=by
 walk_at "k"
 refine wpAny_bind (wpAny_rule (wpAny_bind (wpAny_setField ho hd (by simp) ?_)))
 show wpAny _ _ (newExc (.type "StopIteration") []>>=_) _ _ _
 refine wpAny_bind ?_
 simp only [newExc,newTuple]
 refine wpAny_bind (wpAny_newObj_type ?_ (by size_fits))
 refine wpAny_bind (m:=firstArgMember _ _) (wpAny_of_eq (a:=Value.none) (by first|rfl|(simp only [firstArgMember];rfl)) ?_)
 refine wpAny_newObj_type ?_ (by size_fits)
 simp only [raiseNew]
 refine wpAny_bind (wpAny_handled ?_)
 first|rw[show A.in1.handled=none from hh]|rw[hh]
 refine wpAny_bind (wpAny_pure (wpAny_throw ?_))
 exact B _ _ (((Heap.SameBut.update ..).extBut.push _).push _) ⟨_,Heap.get?_push_size _ rfl,rfl⟩
theorem wm(hh:A.handled=none)(it t:Addr)(A5:t≠it)(xs:Array Value):Nx prog w A it [it,t] (λk h=>h.IsTupleIter it t k/\h.IsTuple t xs) xs where
 fr:=λk h h' st kp=>⟨st.1.at λo e=>kp it (by simp) o e,st.2.at λo e=>kp t (by simp) o e⟩
 at':=λk h st=>let ⟨o,e,_⟩:=st.1;⟨o,e⟩
 item:=λk x s Q E st hx hQ=>iA st.1 st.2 hx λh' B sb=>hQ h' ⟨B,st.2.extBut sb.extBut A5⟩ sb
 stop:=λk s Q E st hx G=>iw hh st.1 st.2 hx G
theorem Nx.ext{c:Addr}{S:Nat->Heap->Prop}{xs:Array Value}{k:Nat}(N:Nx prog w A it fp S xs)(st:S k h)(e:Heap.ExtBut c h h')(hc:c∉fp):S k h' :=
 N.fr k h h' st λb hb o q=>e b o (λz=>hc (z▸hb)) q
structure Of(z TI TO i1 i2:Addr)(f1 f2:List Addr):Prop where
 TIz:TI≠z
 TOz:TO≠z
 i1z:i1≠z
 i2z:i2≠z
 TITO:TI≠TO
 TIi1:TI≠i1
 TIi2:TI≠i2
 TOi1:TO≠i1
 TOi2:TO≠i2
 i12:i1≠i2
 Pn:z∉f1
 Tj:TO∉f1
 Wm:i2∉f1
 Qs:z∉f2
 Qt:TO∉f2
 Tn:i1∉f2
variable{z TI TO i1 i2:Addr}{f1 f2:List Addr}{S1 S2:Nat->Heap->Prop}{xs ys:Array Value}{k1 k2:Nat}{x y a b:Value}
theorem pY(N1:Nx prog w A i1 f1 S1 xs)(N2:Nx prog w A i2 f2 S2 ys)(D:Of z TI TO i1 i2 f1 f2)(hz:IsZip s.heap z TI TO .none)(Sw:IsPair s.heap TI (.ref i1) (.ref i2))(Sy:IsPair s.heap TO a b)
  (h1:S1 k1 s.heap) (h2:S2 k2 s.heap) (hx:xs[k1]?=some x) (hy:ys[k2]?=some y)
  (hQ:∀h',IsZip h' z TI TO (rawInt s.heap.objs.size)->IsPair h' TO x y->S1 (k1+1) h'->S2 (k2+1) h'->IsPair h' s.heap.objs.size x y ->
   (∀c o,c≠z->c≠TO->c≠i1->c≠i2->s.heap.get? c=some o->h'.get? c=some o)->Q (.ref s.heap.objs.size) { s with heap:=h' }) :
  wpAny (model prog w) A (Builtin.«zip.__next__» ⟨[.ref z],[]⟩) (λfin s'=>∃v,fin=.done (.ret v)/\Q v s') E s:=by
 walk_at "l"
 refine wpAny_bind ?_
 simp only [List.zipIdx_cons,List.zipIdx_nil,vT,List.forIn_nil]
 refine wpAny_bind (wpAny_bind (wpAny_onRaise ?_))
 show wpAny _ _ (Builtin.SmallTypes.nextOf (.ref i1)>>=_) _ _ _
 walk_at "A"
 replace o3:IsPair h₃ TO x b:=o3
 refine wpAny_bind (wpAny_letGo (wpAny_pure ?_))
 refine wpAny_bind (wpAny_bind (wpAny_onRaise ?_))
 show wpAny _ _ (Builtin.SmallTypes.nextOf (.ref i2)>>=_) _ _ _
 refine wpAny_bind (N2.item k2 y { s with heap:=h₃ } _ _ (N2.ext (N2.ext (N2.ext h2 e1.extBut D.Qs) e2.extBut D.Tn) e3.extBut D.Qt) hy λh₄ s4 e4=>wpAny_pure ?_)
 have e4:Heap.SameBut i2 h₃ h₄:=e4
 have o4:IsPair h₄ TO x b:=e4.extBut _ _ D.TOi2 o3
 refine wpAny_bind (wpAny_seqItems o4 rfl (wpAny_bind (wpAny_updateSeq_pair o4 λB Y e5=>?_)))
 have e5:Heap.SameBut TO h₄ B:=e5
 replace Y:IsPair B TO x y:=Y
 refine wpAny_bind (wpAny_letGo (wpAny_pure (wpAny_pure ?_)))
 refine wpAny_bind (wpAny_seqItems Y rfl (wpAny_bind (wpAny_newTuple ?_)))
 have hsz:B.objs.size=s.heap.objs.size:=by rw[e5.1,e4.1,e3.1,e2.1,e1.1]
 have z5:IsZip B z TI TO .ellipsis:=e5.extBut _ _ D.TOz.symm (e4.extBut _ _ D.i2z.symm (e3.extBut _ _ D.TOz.symm (e2.extBut _ _ D.i1z.symm LR)))
 have k5:∀c o,c≠z->c≠TO->c≠i1->c≠i2->s.heap.get? c=some o->B.get? c=some o:=λc o G c2 c3 c4 e =>
  e5.extBut _ _ c2 (e4.extBut _ _ c4 (e3.extBut _ _ c2 (e2.extBut _ _ c3 (e1.extBut _ _ G e))))
 have Wn:S1 (k1+1) B:=N1.ext (N1.ext (N1.ext s2 e3.extBut D.Tj) e4.extBut D.Wm) e5.extBut D.Tj
 have Wo:S2 (k2+1) B:=N2.ext s4 e5.extBut D.Qt
 have U:z<B.objs.size:=Heap.lt_size z5
 show wpAny _ _ (Builtin.SmallTypes.ownedTupleHandOut (.ref z) (.ref B.objs.size)>>=_) _ _ _
 refine wpAny_bind ?_
 unfold Builtin.SmallTypes.ownedTupleHandOut
 have z6:IsZip (B.push { cls:=.type "tuple",data:=.seq #[x,y] }) z TI TO .ellipsis:=Heap.get?_push_of_some _ z5
 refine wpAny_bind (wpAny_setField_rec z6 (by simp) λh₇ z7 e7=>?_)
 replace z7:IsZip h₇ z TI TO (rawInt B.objs.size):=z7
 refine wpAny_setField_rec z7 (by simp) λO z8 e8=>?_
 replace z8:IsZip O z TI TO (rawInt B.objs.size):=z8
 have e7:Heap.SameBut z (B.push { cls:=.type "tuple",data:=.seq #[x,y] }) h₇:=e7
 have e8:Heap.SameBut z h₇ O:=e8
 have up:∀c o,c≠z->B.get? c=some o->O.get? c=some o:=λc o G e=>e8.extBut _ _ G (e7.extBut _ _ G (Heap.get?_push_of_some _ e))
 have t8:IsPair O B.objs.size x y:=e8.extBut _ _ (j6 U) (e7.extBut _ _ (j6 U) (Heap.get?_push_size _ rfl))
 have q1:S1 (k1+1) O:=N1.fr _ _ _ Wn λb hb o e=>up b o (λq=>D.Pn (q▸hb)) e
 have q2:S2 (k2+1) O:=N2.fr _ _ _ Wo λb hb o e=>up b o (λq=>D.Qs (q▸hb)) e
 rw[hsz]at z8 t8
 refine wpAny_pure ⟨_,rfl,?_⟩
 show Q (.ref B.objs.size) _
 rw[hsz]
 exact hQ O z8 (up _ _ D.TOz Y) q1 q2 t8 λc o G c2 c3 c4 e=>up c o G (k5 c o G c2 c3 c4 e)
theorem ph{Q:PySem.Fin->Shared->Prop}(N1:Nx prog w A i1 f1 S1 xs)(N2:Nx prog w A i2 f2 S2 ys)(D:Of z TI TO i1 i2 f1 f2)(hz:IsZip s.heap z TI TO .none)(Sw:IsPair s.heap TI (.ref i1) (.ref i2))(Sy:IsPair s.heap TO a b)
  (h1:S1 k1 s.heap) (h2:S2 k2 s.heap) (U:xs[k1]?=none\/ys[k2]?=none)
  (hE:∀h' e,(∀c o,c≠z->c≠TO->c≠i1->c≠i2->s.heap.get? c=some o->h'.get? c=some o)->(∃o,h'.get? e=some o/\o.cls=.type "StopIteration")->E (.ref e) { s with heap:=h' }) :
  wpAny (model prog w) A (Builtin.«zip.__next__» ⟨[.ref z],[]⟩) Q E s:=by
 walk_at "l"
 have e1:Heap.SameBut z s.heap h₁:=e1
 refine wpAny_bind ?_
 simp only [List.zipIdx_cons,List.zipIdx_nil,vT,List.forIn_nil]
 refine wpAny_bind (wpAny_bind (wpAny_onRaise ?_))
 show wpAny _ _ (Builtin.SmallTypes.nextOf (.ref i1)>>=_) _ _ _
 cases hx:xs[k1]? with
 | none =>
  refine wpAny_bind (N1.stop k1 { s with heap:=h₁ } _ _ (N1.ext h1 e1.extBut D.Pn) hx λh₂ e e2 he=>?_)
  have e2:Heap.ExtBut i1 h₁ h₂:=e2
  obtain⟨oe,B,G⟩:=he
  have z2:IsZip h₂ z TI TO .ellipsis:=e2 _ _ D.i1z.symm LR
  have O:e≠z:=λq=>by subst q;rw[z2]at B;cases B;simp at G
  refine wpAny_setField_rec z2 (by simp) λh₃ _ e3=>hE h₃ e (λc o Y _ c3 _ q=>e3.extBut _ _ Y (e2 _ _ c3 (e1.extBut _ _ Y q))) ⟨oe,e3.extBut _ _ O B,G⟩
 | some x =>
  have hy:ys[k2]?=none:=by
   rcases U with q|q
   ·rw[hx]at q;cases q
   ·exact q
  walk_at "A"
  refine wpAny_bind (wpAny_letGo (wpAny_pure ?_))
  refine wpAny_bind (wpAny_bind (wpAny_onRaise ?_))
  show wpAny _ _ (Builtin.SmallTypes.nextOf (.ref i2)>>=_) _ _ _
  refine wpAny_bind (N2.stop k2 { s with heap:=h₃ } _ _ (N2.ext (N2.ext (N2.ext h2 e1.extBut D.Qs) e2.extBut D.Tn) e3.extBut D.Qt) hy λh₄ e e4 he=>?_)
  have e4:Heap.ExtBut i2 h₃ h₄:=e4
  obtain⟨oe,B,G⟩:=he
  have z4:IsZip h₄ z TI TO .ellipsis:=e4 _ _ D.i2z.symm (e3.extBut _ _ D.TOz.symm (e2.extBut _ _ D.i1z.symm LR))
  have O:e≠z:=λq=>by subst q;rw[z4]at B;cases B;simp at G
  refine wpAny_setField_rec z4 (by simp) λh₅ _ e5=>hE h₅ e (λc o Y c2 c3 c4 q=>e5.extBut _ _ Y (e4 _ _ c4 (e3.extBut _ _ c2 (e2.extBut _ _ c3 (e1.extBut _ _ Y q))))) ⟨oe,e5.extBut _ _ O B,G⟩
end
structure KG(T:String)(l:Addr)(P:Heap->Prop):Prop where
 push:∀h o,P h->P (h.push o)
 iter:∀(prog:Program)(w:World)(A:Around)(E:Value->Shared->Prop)(s:Shared)(Q:Value->Shared->Prop),P s.heap->Q (.ref s.heap.objs.size) { s with heap:=s.heap.push { cls:=.type T,data:=.fields #[.ref l,.int 0 0] } } ->
  wpAny (model prog w) A (pyIter (.ref l)) Q E s
theorem rJ(l:Addr)(xs:Array Value):KG "list_iterator" l (λh=>h.IsList l xs):=⟨λ_ o h=>h.push o,λ_ _ _ _ _ _ h q=>wpAny_pyIter_list h q⟩
theorem t6(l:Addr)(xs:Array Value):KG "tuple_iterator" l (λh=>h.IsTuple l xs):=⟨λ_ o h=>h.push o,λ_ _ _ _ _ _ h q=>wpAny_pyIter_tuple h q⟩
abbrev OC(h:Heap)(T1:String)(l1:Addr):Heap:=h.push { cls:=.type T1,data:=.fields #[.ref l1,.int 0 0] }
abbrev OD(h:Heap)(T1 T2:String)(l1 l2:Addr):Heap:=(OC h T1 l1).push { cls:=.type T2,data:=.fields #[.ref l2,.int 0 0] }
abbrev OE(h:Heap)(T1 T2:String)(l1 l2:Addr):Heap:=(OD h T1 T2 l1 l2).push { cls:=.type "tuple",data:=.seq #[.ref h.objs.size,.ref (OC h T1 l1).objs.size] }
abbrev OF(h:Heap)(T1 T2:String)(l1 l2:Addr):Heap:=(OE h T1 T2 l1 l2).push { cls:=.type "tuple",data:=.seq #[.none,.none] }
abbrev LB(h:Heap)(T1 T2:String)(l1 l2:Addr):Heap:=(OF h T1 T2 l1 l2).push { cls:=.type "zip",data:=.fields #[.none,.bool false,.bool false,.ref (OD h T1 T2 l1 l2).objs.size,.ref (OE h T1 T2 l1 l2).objs.size] }
theorem nA{T1 B:String}{l1 l2:Addr}{G O:Heap->Prop}(w1:KG T1 l1 G)(w2:KG B l2 O) :
  Meets (Builtin.«zip.__new__» ⟨[.type "zip",.ref l1,.ref l2],[]⟩) (λ_ R s=>G s.heap/\O s.heap/\R (.ok (.ret (.ref (OF s.heap T1 B l1 l2).objs.size))) { s with heap:=LB s.heap T1 B l1 l2 }) :=
 .of_wp λprog w A R s h=>by
  obtain⟨hp,g,d,tk,os⟩:=s
  obtain⟨p1,p2,h⟩:=h
  have U:=sub_zip
  have i1:=λ(A:Around)(E:Value->Shared->Prop)(Q:Value->Shared->Prop)=>w1.iter prog w A E ⟨hp,g,d,tk,os⟩ Q p1
  have i2:=λ(A:Around)(E:Value->Shared->Prop)(Q:Value->Shared->Prop)=>w2.iter prog w A E ⟨hp.push { cls:=.type T1,data:=.fields #[.ref l1,.int 0 0] },g,d,tk,os⟩ Q (w2.push _ _ p2)
  wp_walk using i1 _ _ _,i2 _ _ _
  exact⟨_,rfl,h⟩
theorem pM{T1 B:String}{l1 l2:Addr}{O U:Heap->Prop}(w1:KG T1 l1 O)(w2:KG B l2 U)(p1:O s.heap)(p2:U s.heap)
  (h:∀h',IsZip h' (s.heap.objs.size+4) (s.heap.objs.size+2) (s.heap.objs.size+3) .none->IsPair h' (s.heap.objs.size+2) (.ref s.heap.objs.size) (.ref (s.heap.objs.size+1)) ->
   IsPair h' (s.heap.objs.size+3) .none .none->h'.get? s.heap.objs.size=some { cls:=.type T1,data:=.fields #[.ref l1,.int 0 0] }->h'.get? (s.heap.objs.size+1)=some { cls:=.type B,data:=.fields #[.ref l2,.int 0 0] } ->
   Kept s.heap h'->Q (.ref (s.heap.objs.size+4)) { s with heap:=h' }) :
  wpAny (model prog w) A (call (.type "zip") [.ref l1,.ref l2]) Q E s:=by
 refine callType_new F.called_zip (by decide) (F.typeCall_zip_2 _ _) (F.newCall_zip_2 _ _) (λobj=>F.args_object_init_3 obj _ _) F.entry_zip_new (nA w1 w2) ⟨p1,p2,?_⟩
 have z1:(OC s.heap T1 l1).objs.size=s.heap.objs.size+1:=Heap.size_push ..
 have z2:(OD s.heap T1 B l1 l2).objs.size=s.heap.objs.size+2:=by rw[Heap.size_push,z1]
 have G:(OE s.heap T1 B l1 l2).objs.size=s.heap.objs.size+3:=by rw[Heap.size_push,z2]
 have Y:(OF s.heap T1 B l1 l2).objs.size=s.heap.objs.size+4:=by rw[Heap.size_push,G]
 have g5:(LB s.heap T1 B l1 l2).get? (OF s.heap T1 B l1 l2).objs.size=some _:=Heap.get?_push_size _ rfl
 have g4:(LB s.heap T1 B l1 l2).get? (OE s.heap T1 B l1 l2).objs.size=some _:=Heap.get?_push_of_some _ (Heap.get?_push_size _ rfl)
 have g3:(LB s.heap T1 B l1 l2).get? (OD s.heap T1 B l1 l2).objs.size=some _:=Heap.get?_push_of_some _ (Heap.get?_push_of_some _ (Heap.get?_push_size _ rfl))
 have g2:(LB s.heap T1 B l1 l2).get? (OC s.heap T1 l1).objs.size=some _:=Heap.get?_push_of_some _ (Heap.get?_push_of_some _ (Heap.get?_push_of_some _ (Heap.get?_push_size _ rfl)))
 have g1:(LB s.heap T1 B l1 l2).get? s.heap.objs.size=some _:=Heap.get?_push_of_some _ (Heap.get?_push_of_some _ (Heap.get?_push_of_some _ (Heap.get?_push_of_some _ (Heap.get?_push_size _ rfl))))
 show _/\_
 rw[z2,G,Y]at g5
 rw[z1,z2]at g3
 rw[G]at g4
 rw[z1]at g2
 rw[Y]
 exact⟨⟨_,g5,rfl⟩,h _ g5 g3 g4 g1 g2 λc o q=>Heap.get?_push_of_some _ (Heap.get?_push_of_some _ (Heap.get?_push_of_some _ (Heap.get?_push_of_some _ (Heap.get?_push_of_some _ q))))⟩
def Sq(K:PySem.W.Frag)(H:Hp)(b:Bool)(a:Addr)(xs:List V):Prop:=if b=true then eH K H a xs else ze K H a xs
def To(b:Bool):String:=if b=true then "list_iterator" else "tuple_iterator"
def Qu(b:Bool)(a:Addr)(xs:Array Value)(h:Heap):Prop:=if b=true then h.IsList a xs else h.IsTuple a xs
def KH(b:Bool)(it l:Addr)(k:Nat)(h:Heap):Prop:=∃o,h.get? it=some o/\o.cls=.type (To b)/\o.data=.fields #[.ref l,.int k 0]
theorem rO(b:Bool)(l:Addr)(xs:Array Value):KG (To b) l (Qu b l xs):=by
 cases b
 ·exact t6 l xs
 ·exact rJ l xs
theorem vo(hh:A.handled=none)(b:Bool)(it l:Addr)(A5:l≠it)(xs:Array Value):Nx prog w A it [it,l] (λk h=>KH b it l k h/\Qu b l xs h) xs:=by
 cases b
 ·exact wm hh it l A5 xs
 ·exact uS hh it l A5 xs
theorem Inv.sq{b:Bool}(I:Inv X aO σ H s)(h:Sq X.K H b a xs):∃its:List Value,Vals xs its/\Qu b a its.toArray s.heap:=by
 cases b
 ·obtain⟨its,r,p,_⟩:=I.tuple (show ze X.K H a xs from h)
  exact⟨its,r,p⟩
 ·obtain⟨its,r,p,_⟩:=I.list (show eH X.K H a xs from h)
  exact⟨its,r,p.isList⟩
theorem Inv.F9{b:Bool}(I:Inv X aO σ H s)(h:Sq X.K H b a xs)(h':Sq X.K H b a ys):xs=ys:=by
 cases b
 ·exact I.C6 (show ze X.K H a xs from h) (show ze X.K H a ys from h')
 ·exact I.Cm (show eH X.K H a xs from h) (show eH X.K H a ys from h')
theorem vt{b:Bool}{c:Addr}(I:Inv X aO σ H s)(f:Bx X aO H c)(h:Sq X.K H b a xs):a≠c:=λz=>by
 subst z
 have B:∀{u:HO},Rd H a u->False:=λr=>by
  rcases r with r|⟨o,r⟩
  ·rw[f.1]at r;cases r
  ·rw[f.1]at r;cases r
 have G:∀{o:Obj},X.K.lookup a=some o->False:=λe=>by
  have e1:=I.ok.mod.IT _ _ e
  rcases f.2.2.2.1 with q|q
  ·exact I.ok.Fe _ _ e1 q
  ·exact absurd (yC (Heap.lt_size (I.ok.bs _ _ e1).1) q) (qO _)
 cases b
 ·rcases(show ze X.K H a xs from h)with r|⟨o,its,n,e,_⟩
  ·exact B r
  ·exact G e
 ·rcases(show eH X.K H a xs from h)with r|⟨o,its,n,e,_⟩
  ·exact B r
  ·exact G e
theorem Inv.Ik(I:Inv X aO σ H s)(ch:List Addr)(hf:∀b∈ch,Bx X aO H b)(B:∀b o,b∉ch->s.heap.get? b=some o->h'.get? b=some o):Inv X aO σ H { s with heap:=h',toks:=t' }:=by
 have El:∀{b:Addr}{o:HO},H b=some o->b∉ch:=λq hb=>by rw[(hf _ hb).1]at q;cases q
 refine I.step (g':=s.gens) (d':=s.drawn) (ch:=ch) (λb hb=>⟨(hf b hb).2.2.2.1,(hf b hb).2.1,(hf b hb).2.2.2.2.1,(hf b hb).2.2.2.2.2⟩) (λb o _ _ hc q _=>B b o hc q) (λb o _ _ hc q _=>⟨o.slots,B b o hc q⟩)
  (λb o _ q n=>n) (λb o hc q=>⟨o,B b o hc q⟩) (λ_ _ q=>q) (λ_ _ _ q=>q) (λb ps q=>⟨#[],by rw[q];simp⟩) (λm hm=>?_) (λb o q=>?_) I.bare
 ·obtain⟨o,es,ep,ho,r⟩:=hm
  exact⟨o,es,ep,B _ o (λz=>(hf _ z).2.1 rfl) ho,r⟩
 ·refine(I.yx b o q).De (λc v G z=>?_) (λ_ z=>z) λ_ _ z=>z
  rcases G with r|r
  ·rw[r]at z ⊢;exact B _ _ (El q) z
  ·exact B _ _ (El r) z
theorem Inv.Il(I:Inv X aO σ H s)(ch:List Addr)(hf:∀b∈ch,Bx X aO H b)(B:∀b o,b∉ch->s.heap.get? b=some o->h'.get? b=some o)
  (ht:h'.get? s.heap.objs.size=some { cls:=.type "tuple",data:=.seq its.toArray }) (r:Vals xs its) (hz:xs.length<=sizeLine):Inv X aO σ (upd H s.heap.objs.size (.tup xs)) { s with heap:=h',toks:=t' }:=by
 have G:H s.heap.objs.size=none:=I.yx.fresh (zJ _)
 have lt:∀{b:Addr}{o:Obj},s.heap.get? b=some o->b≠s.heap.objs.size:=λq=>yK (Heap.lt_size q)
 have El:∀{b:Addr}{o:HO},H b=some o->b∉ch:=λq hb=>by rw[(hf _ hb).1]at q;cases q
 refine I.step (g':=s.gens) (d':=s.drawn) (ch:=ch) (λb hb=>⟨(hf b hb).2.2.2.1,(hf b hb).2.1,(hf b hb).2.2.2.2.1,(hf b hb).2.2.2.2.2⟩) (λb o _ _ hc q _=>B b o hc q) (λb o _ _ hc q _=>⟨o.slots,B b o hc q⟩)
  (λb o _ q n=>by rw[bj (lt q)];exact n) (λb o hc q=>⟨o,B b o hc q⟩) (λb ys q=>by rw[bj (bi q G)];exact q) (λb o y q=>by rw[bj (bi q G)];exact q)
  (λb ps q=>⟨#[],by rw[bj (bi q G),q];simp⟩) (λm hm=>?_) (λb o q=>?_) I.bare
 ·obtain⟨o,es,ep,ho,r⟩:=hm
  exact⟨o,es,ep,B _ o (λz=>(hf _ z).2.1 rfl) ho,r⟩
 ·by_cases hb:b=s.heap.objs.size
  ·subst hb
   rw[bg]at q
   cases q
   exact⟨hz,its,r,⟨_,ht,rfl,_,rfl⟩⟩
  ·rw[bj hb]at q
   refine(I.yx b o q).De (λc v O z=>?_) (λc z=>by rw[bj (bi z G)];exact z) λc ys z=>by rw[bj (bi z G)];exact z
   rcases O with r|r
   ·rw[r]at z ⊢;exact B _ _ (El q) z
   ·exact B _ _ (El r) z
def MN(K:PySem.W.Frag)(b1 b2:Bool)(a1 a2:Addr):It :=
 ⟨λi H=>∃xs ys x y,Sq K H b1 a1 xs/\Sq K H b2 a2 ys/\xs[i]?=some x/\ys[i]?=some y,
   λi H v H'=>∃p x y,v=.ref p/\H p=none/\(∀xs,Sq K H b1 a1 xs->xs[i]?=some x)/\(∀ys,Sq K H b2 a2 ys->ys[i]?=some y)/\H'=upd H p (.tup [x,y]),
   λi H=>∃xs ys,Sq K H b1 a1 xs/\Sq K H b2 a2 ys/\(xs.length<=i\/ys.length<=i)⟩
theorem sC{a1 a2 z TI TO i1 i2:Addr}(D:Of z TI TO i1 i2 [i1] [i2]) :
  Turn P w K (.Tuple elts x1 HR) (MN K b1 b2 a1 a2) [z,TI,TO,i1,i2] z (λi h=>IsZip h z TI TO .none/\IsPair h TI (.ref i1) (.ref i2)/\(∃a b,IsPair h TO a b)/\KH b1 i1 a1 i h/\KH b2 i2 a2 i h) where
 mem:=by simp
 obj:=λi h st c hc=>by
  obtain⟨h1,h2,⟨a,b,h3⟩,⟨O,e4,U,B⟩,⟨Y,e5,c5,G⟩⟩:=st
  simp only [zO,zI,or_false]at hc
  rcases hc with r|r|r|r|r <;>subst r
  ·exact⟨_,h1,λv q=>by cases q⟩
  ·exact⟨_,h2,λv q=>by cases q⟩
  ·exact⟨_,h3,λv q=>by cases q⟩
  ·exact⟨_,e4,λv q=>by rw[B]at q;cases q⟩
  ·exact⟨_,e5,λv q=>by rw[G]at q;cases q⟩
 keep:=λi h h' st k=>by
  obtain⟨h1,h2,⟨a,b,h3⟩,⟨O,e4,U,B⟩,⟨Y,e5,c5,G⟩⟩:=st
  exact⟨k z (by simp) _ h1,k TI (by simp) _ h2,⟨a,b,k TO (by simp) _ h3⟩,⟨O,k i1 (by simp) _ e4,U,B⟩,⟨Y,k i2 (by simp) _ e5,c5,G⟩⟩
 item:=by
  walk_at "s"
  obtain⟨xs,ys,x,y,JT,HM,hx,hy⟩:=hg
  obtain⟨HN,r1,p1⟩:=I.sq JT
  obtain⟨CM,r2,p2⟩:=I.sq HM
  obtain⟨u,hu,ru⟩:=r1.get hx
  obtain⟨v,hv,rv⟩:=r2.get hy
  walk_at "i"
  have hT:s.TypeIs (.ref z) "zip":=⟨_,h1,rfl⟩
  unfold pyNext
  refine wpAny_bind (wpAny_attempt (wpAny_callSpecial?_slot (name:=Str.ofString "__next__") hT F.slot_zip_next (wpAny_call_entry F.slot_zip_next hT F.entry_zip_next
   (pY (x:=u) (y:=v) N1 N2 D2 h1 h2 h3 ⟨h4,p1⟩ ⟨h5,p2⟩ (by simpa using hu) (by simpa using hv) λh' z8 o8 q1 q2 t8 kk=>wpAny_pure ?_) (F.args_zip_next_1 _))))
  refine⟨_,rfl,wpAny_letOwnedTupleGo_zip z8 λEh z9 sb=>?_⟩
  have sb:Heap.SameBut z h' Eh:=sb
  have k2:∀c o,c∉[z,TI,TO,i1,i2]->s.heap.get? c=some o->Eh.get? c=some o:=λc o hc q =>
   sb.extBut _ _ (λe=>hc (by simp [e])) (kk c o (λe=>hc (by simp [e])) (λe=>hc (by simp [e])) (λe=>hc (by simp [e])) (λe=>hc (by simp [e])) q)
  have pz:s.heap.objs.size≠z:=j6 (Heap.lt_size h1)
  have t9:Eh.get? s.heap.objs.size=some { cls:=.type "tuple",data:=.seq #[u,v] }:=sb.extBut _ _ pz t8
  have I1:=I.Il (t':=s.toks) (xs:=[x,y]) (its:=[u,v]) [z,TI,TO,i1,i2] hf k2 t9 (.cons ru (.cons rv .nil)) (by show 2<=sizeLine;decide)
  have np:H s.heap.objs.size=none:=I.yx.fresh (zJ _)
  obtain⟨⟨O,e4,U,B⟩,_⟩:=q1
  obtain⟨⟨Y,e5,c5,G⟩,_⟩:=q2
  refine⟨.ref s.heap.objs.size,_,I1,rfl,⟨_,x,y,rfl,np,λzs hz=>by rw[I.F9 hz JT];exact hx,λzs hz=>by rw[I.F9 hz HM];exact hy,rfl⟩,
   ⟨z9,sb.extBut _ _ D.TIz (kk _ _ D.TIz D.TITO D.TIi1 D.TIi2 h2),⟨u,v,sb.extBut _ _ D.TOz o8⟩,⟨O,sb.extBut _ _ D.i1z e4,U,B⟩,⟨Y,sb.extBut _ _ D.i2z e5,c5,G⟩⟩,λc hc=>?_⟩
  have Fw:=(hf c hc).1
  by_cases e:c=s.heap.objs.size
  ·have:∃o,s.heap.get? c=some o:=by
    simp only [zO,zI,or_false]at hc
    rcases hc with r|r|r|r|r
    ·rw[r];exact⟨_,h1⟩
    ·rw[r];exact⟨_,h2⟩
    ·rw[r];exact⟨_,h3⟩
    ·rw[r];obtain⟨o,q,_⟩:=h4;exact⟨o,q⟩
    ·rw[r];obtain⟨o,q,_⟩:=h5;exact⟨o,q⟩
   obtain⟨o,q⟩:=this
   exact absurd (Heap.lt_size q) (by rw[e];exact qO _)
  ·rw[bj e];exact Fw
 done:=by
  walk_at "s"
  obtain⟨xs,ys,JT,HM,hx⟩:=hg
  obtain⟨HN,r1,p1⟩:=I.sq JT
  obtain⟨CM,r2,p2⟩:=I.sq HM
  walk_at "i"
  have l1:=r1.length
  have l2:=r2.length
  have hT:s.TypeIs (.ref z) "zip":=⟨_,h1,rfl⟩
  unfold pyNext
  refine wpAny_bind (wpAny_attempt (wpAny_callSpecial?_slot (name:=Str.ofString "__next__") hT F.slot_zip_next (wpAny_call_entry F.slot_zip_next hT F.entry_zip_next
   (ph (k1:=i) (k2:=i) N1 N2 D2 h1 h2 h3 ⟨h4,p1⟩ ⟨h5,p2⟩ (by rcases hx with q|q;exact .inl (by simp;lia);exact .inr (by simp;lia)) λh' e hk he=>?_) (F.args_zip_next_1 _))))
  obtain⟨o,ho,Ky⟩:=he
  refine wpAny_bind (wpAny_isInstance (T:="StopIteration") (b:=true) ⟨o,ho,Ky⟩ isSubtype_stop ?_)
  exact wpAny_pure ⟨rfl,I.Ik (t':=s.toks) [z,TI,TO,i1,i2] hf λc o hc q=>hk c o (λe=>hc (by simp [e])) (λe=>hc (by simp [e])) (λe=>hc (by simp [e])) (λe=>hc (by simp [e])) q⟩
 self:=λ_ _ _ _ _ st h=>wpAny_pyIter_zip st.1 h
theorem xz:bootBuiltins "zip"=some (.type "zip"):=by decide +kernel
inductive Js(K:PySem.W.Frag)(b1 b2:Bool)(R:It->Hp->Prop)(vs:List V)(H1:Hp):Prop where
 | mk (a1 a2:_) (ui:vs=[.ref a1,.ref a2]) (uj:(∃xs,Sq K H1 b1 a1 xs)) (zf:(∃ys,Sq K H1 b2 a2 ys)) (zq:R (MN K b1 b2 a1 a2) H1):Js K b1 b2 R vs H1
def Qv(K:PySem.W.Frag)(b1 b2:Bool)(ta:TA):TI:=fun σ H R=>ta σ H λvs H1=>Js K b1 b2 R vs H1
theorem tH{l m:Expr}{ta:TA}{p:Pos}(b1 b2:Bool)(hg:Gl X "zip")(hm:X.mg "zip"=none)(ha:PA X [l,m] ta)
  (hs:starEach [l,m] X.env=(false,eval l X.env)::starEach [m] X.env:=by rfl) (G:(backTo pos (starEach [m] X.env)).any (·.1)=false:=by rfl) :
  PI X (.Tuple elts x1 HR) (.Call (.Name "zip" p) [l,m] [] pos) (Qv X.K b1 b2 ta):=by
 intro aO s σ H R I h
 refine Call_ (gh I hg hm xz (PyProof.Rows.callWith_type1 (zd (ha pos aO s σ H _ I h) λus s1 ⟨vs,H1,I1,U,Y⟩=>?_) hs G))
 obtain⟨a1,a2,rfl,⟨xs,JT⟩,⟨ys,HM⟩,q⟩:=Y
 obtain⟨u,v,rfl,ru,rv⟩:=rK U
 cases ru
 cases rv
 obtain⟨HN,_,p1⟩:=I1.sq JT
 obtain⟨CM,_,p2⟩:=I1.sq HM
 refine pM (rO b1 a1 HN.toArray) (rO b2 a2 CM.toArray) p1 p2 λh' O ti to g1 g2 k=>?_
 refine wpAny_pyIter_zip O ?_
 have I2:Inv X aO σ H1 { s1 with heap:=h' }:=I1.kept (t':=s1.toks) k
 refine⟨s1.heap.objs.size+4,[s1.heap.objs.size+4,s1.heap.objs.size+2,s1.heap.objs.size+3,s1.heap.objs.size,s1.heap.objs.size+1],_,_,H1,rfl,I2,
  sC ⟨by simp,by simp,by simp,by simp,by simp,by simp,by simp,by simp,by simp,by simp,by simp,by simp,by simp,by simp,by simp,by simp⟩,
  ⟨O,ti,⟨_,_,to⟩,⟨_,g1,rfl,rfl⟩,⟨_,g2,rfl,rfl⟩⟩,λb hb=>?_,q⟩
 have B:s1.heap.objs.size<=b:=by
  simp only [zO,zI,or_false]at hb
  rcases hb with r|r|r|r|r <;>rw[r] <;>first|exact zJ _|exact Nat.le_add_right _ _
 exact I1.Dj B (I1.yx.fresh B)
theorem nJ{a1 a2:Addr}{g:TG}{D:Ends}(Pv:Nat->St->Hp->Prop)(h0:Pv 0 σ H)(B:∀i σ H,i<=min xs.length ys.length->Pv i σ H->Sq K H b1 a1 xs)(BF:∀i σ H,i<=min xs.length ys.length->Pv i σ H->Sq K H b2 a2 ys)
  (hs:∀i x y σ H,xs[i]?=some x->ys[i]?=some y->Pv i σ H->∀p,H p=none->g (.ref p) σ (upd H p (.tup [x,y])) fun σ2 H2=>tb { D with nx:=Pv (i+1),ct:=Pv (i+1),bk:=D.nx } σ2 H2) (hd:∀σ H,Pv (min xs.length ys.length) σ H->D.nx σ H) :
  ∃W:Nat->Nat->St->Hp->Prop,(∃m,W 0 m σ H)/\∀i m σ H,W i m σ H ->
   ((MN K b1 b2 a1 a2).stop i H/\D.nx σ H)\/((MN K b1 b2 a1 a2).go i H/\∃N:St->Hp->Prop,(∀σ' H',N σ' H'->∃U,U<m/\W (i+1) U σ' H')/\∀x H',(MN K b1 b2 a1 a2).J6 i H x H'->g x σ H' fun σ2 H2=>tb { D with nx:=N,ct:=N,bk:=D.nx } σ2 H2):=by
 refine⟨λi m σ H=>m=min xs.length ys.length-i/\i<=min xs.length ys.length/\Pv i σ H,⟨min xs.length ys.length,by simp,yH _,h0⟩,?_⟩
 rintro i m σ H ⟨rfl,hi,p⟩
 have G:=B i σ H hi p
 have O:=BF i σ H hi p
 by_cases Ay:i<min xs.length ys.length
 ·refine .inr ⟨⟨xs,ys,xs[i],ys[i],G,O,by simp,by simp⟩,Pv (i+1),fun σ' H' p'=>⟨min xs.length ys.length-(i+1),by lia,rfl,Ay,p'⟩,λv H' hy=>?_⟩
  obtain⟨pp,x,y,rfl,Y,e1,e2,rfl⟩:=hy
  exact hs i x y σ H (e1 xs G) (e2 ys O) p pp Y
 ·have e:i=min xs.length ys.length:=by lia
  subst e
  exact .inl ⟨⟨xs,ys,G,O,by lia⟩,hd σ H p⟩
def jn(c:Nat):List (List Nat)->List Nat
 | []=>[]
 | [x]=>x
 | x::y::r=>x++c::jn c (y::r)
theorem vd{c:Nat}:∀{x y A B:List Nat},c∉x->c∉y->x++c::A=y++c::B->x=y/\A=B
 | [],[],A,B,_,_,h=>⟨rfl,(List.cons.inj h).2⟩
 | [],b::y,A,B,_,hy,h=>absurd (zH) (by rw[(List.cons.inj h).1]at hy;exact hy)
 | a::x,[],A,B,hx,_,h=>absurd (zH) (by rw[←(List.cons.inj h).1]at hx;exact hx)
 | a::x,b::y,A,B,hx,hy,h=>by
  obtain⟨h1,h2⟩:=List.cons.inj h
  obtain⟨G,O⟩:=vd (λm=>hx (zL _ m)) (λm=>hy (zL _ m)) h2
  exact⟨by rw[h1,G],O⟩
theorem rf{c:Nat}:∀{l m:List (List Nat)},l≠[]->m≠[]->(∀x∈l,c∉x)->(∀x∈m,c∉x)->jn c l=jn c m->l=m
 | [],_,h,_,_,_,_=>absurd rfl h
 | _,[],_,h,_,_,_=>absurd rfl h
 | [x],[y],_,_,_,_,h=>by rw[show x=y from h]
 | [x],y::B::r,_,_,hx,_,h=>absurd (show c∈x by rw[show x=y++c::jn c (B::r)from h];simp) (hx x zH)
 | x::G::r,[y],_,_,_,hy,h=>absurd (show c∈y by rw[show y=x++c::jn c (G::r)from h.symm];simp) (hy y zH)
 | x::G::r,y::B::r',_,_,hx,hy,h=>by
  obtain⟨h1,h2⟩:=vd (hx x zH) (hy y zH) (show x++c::jn c (G::r)=y++c::jn c (B::r')from h)
  rw[h1,rf (by simp) (by simp) (λz hz=>hx z (zL _ hz)) (λz hz=>hy z (zL _ hz)) h2]
theorem fb(c:Nat):∀ws:List Str,(Str.join ⟨#[c]⟩ ws).cps.toList=jn c (ws.map λw=>w.cps.toList)
 | []=>rfl
 | [x]=>rfl
 | x::y::r=>by
  show((x++(⟨#[c]⟩:Str))++Str.join ⟨#[c]⟩ (y::r)).cps.toList=_
  rw[Str.cps_append,Str.cps_append,Array.toList_append,Array.toList_append,fb c (y::r)]
  show(x.cps.toList++[c])++_=x.cps.toList++c::_
  rw[yI]
  rfl
theorem oK:∀{l m:List Str},(l.map λw=>w.cps.toList)=(m.map λw=>w.cps.toList)->l=m
 | [],[],_=>rfl
 | [],_::_,h=>by simp at h
 | _::_,[],h=>by simp at h
 | x::l,y::m,h=>by
  rw[yM,yM]at h
  obtain⟨h1,h2⟩:=List.cons.inj h
  rw[oK h2,Str.ext' (Array.toList_inj.mp h1)]
theorem ib{c:Nat}{ws:List Str}(A5:ws≠[])(hf:∀w∈ws,c∉w.cps.toList):Txt.split (Txt.join ⟨#[c]⟩ ws) ⟨#[c]⟩=ws:=by
 have B:Txt.join ⟨#[c]⟩ ws=Str.join ⟨#[c]⟩ ws:=StrLaws.glued_eq_join _ _
 rw[B]
 have h1:=StrLaws.join_split (Str.join ⟨#[c]⟩ ws) ⟨#[c]⟩
 have h2:=StrLaws.split_free (Str.join ⟨#[c]⟩ ws) c
 have h3:=split_pos (Str.join ⟨#[c]⟩ ws) ⟨#[c]⟩
 generalize Txt.split (Str.join ⟨#[c]⟩ ws) ⟨#[c]⟩=ps at h1 h2 h3
 have h4:jn c (ps.map λw=>w.cps.toList)=jn c (ws.map λw=>w.cps.toList):=by rw[←fb,←fb,h1]
 refine oK (rf (c:=c) ?_ ?_ (λx hx=>?_) (λx hx=>?_) h4)
 ·intro e
  rw[q8.mp e]at h3
  simp at h3
 ·intro e
  exact A5 (q8.mp e)
 ·obtain⟨w,hw,rfl⟩:=yF.mp hx
  exact h2 w hw
 ·obtain⟨w,hw,rfl⟩:=yF.mp hx
  exact hf w hw
end L2
namespace L2
open PySem PySem.Spec PyProof.Rows PySem.NumText
def mn(n:Int):Str:=Str.ofString (toString n)
def dg(m:Nat):List Nat:=(Nat.toDigits 10 m).map Char.toNat
theorem eL(m:Nat):AllDigits (dg m):=by
 intro c hc
 obtain⟨ch,B,e⟩:=yF.mp hc
 have r:=Nat.isDigit_of_mem_toDigits (b:=10) (n:=m) (by decide) (by decide) B
 rw[←e]
 unfold Char.isDigit at r
 rw[yL,decide_eq_true_eq,decide_eq_true_eq]at r
 exact⟨UInt32.le_iff_toNat_le.mp r.1,UInt32.le_iff_toNat_le.mp r.2⟩
theorem dI(m:Nat):(mn (m:Int)).cps.toList=dg m:=PySem.W.KIN.signs_num m
theorem ll(m:Nat):dg m≠[]:=by
 intro e
 have h:=Nat.length_toDigits_pos (b:=10) (n:=m)
 rw[q8.mp e]at h
 exact absurd h (by decide)
theorem d9(k:Nat):(mn (Int.negSucc k)).cps.toList=45::dg (k+1):=by
 unfold mn
 rw[signs_ofString]
 show("-"++Nat.repr (k+1)).toList.map Char.toNat=_
 rw[String.toList_append,zK,Nat.toList_repr]
 rfl
theorem tD(m:Nat):digitsVal (dg m)=m:=PySem.W.KIN.val_back m
theorem kg{m:Nat}(h:m<10 ^ 10):(dg m).length<=10:=by
 have h1:=PySem.W.KT.len_num (n:=(m:Int)) (by lia) (by lia)
 have h2:=dI m
 unfold mn at h2
 have e:(Str.ofString (toString (m:Int))).cps.toList.length=(dg m).length:=by rw[h2]
 rw[yU]at e
 rw[←e]
 exact h1
theorem iU(n:Int):∀c∈(mn n).cps.toList,c=45\/(48<=c/\c<=57):=by
 intro c hc
 cases n with
 | ofNat m =>
  rw[show Int.ofNat m=(m:Int)from rfl,dI]at hc
  exact .inr (eL m c hc)
 | negSucc k =>
  rw[d9]at hc
  rcases zO.mp hc with r|r
  ·exact .inl r
  ·exact .inr (eL _ c r)
theorem fg{n:Int}(h1:-(10 ^ 10)<n)(h2:n<10 ^ 10):(mn n).length<=11:=by
 have e:(mn n).length=(mn n).cps.toList.length:=by rw[yU];rfl
 rw[e]
 cases n with
 | ofNat m =>
  rw[show Int.ofNat m=(m:Int)from rfl,dI]
  have:=kg (m:=m) (by have:(m:Int)<10 ^ 10:=h2;lia)
  lia
 | negSucc k =>
  rw[d9,yD]
  have:=kg (m:=k+1) (by rw[vW]at h1;lia)
  lia
theorem ni{n:Int}(h1:-(10 ^ 10)<n)(h2:n<10 ^ 10):PySem.intText? (mn n)=some n:=by
 have hl:=fg h1 h2
 cases n with
 | ofNat m =>
  have e:=dI m
  rw[show Int.ofNat m=(m:Int)from rfl]at hl ⊢
  have r:=intText_digits (x:=mn (m:Int)) (by rw[e];exact eL m) (by rw[e];exact ll m) (by lia)
  rw[r,e,tD]
 | negSucc k =>
  have e:=d9 k
  have r:=intText_neg (x:=mn (Int.negSucc k)) e (eL _) (ll _) (by lia)
  rw[r,tD,vW]
  congr 1
end L2
namespace L2
open PySem PyProof.Rows
theorem fX:(toString "min"++toString ".loop":String)="min.loop":=by decide
def Hz(l:Addr):Obj:={ cls:=.type "list_iterator",data:=.fields #[.ref l,.int 0 0] }
def Ci(h h':Heap):Prop:=∀b o,o.cls=.type "tuple"->h.get? b=some o->h'.get? b=some o
theorem fK{f:Obj->Obj}{o:Obj}(hS:h.get? S=some o)(hc:o.cls=.type "list"):Ci h (h.update S f):=λb B hb e=>by
 have A5:S≠b:=λz=>by
  subst z
  rw[hS]at e
  cases e
  rw[hc]at hb
  exact absurd hb (by decide)
 exact(Heap.get?_update_other _ _ A5).trans e
theorem uz{l:Addr}(hI:h.IsListIter I l j)(hk:∀b o,b∉[I]->h.get? b=some o->h'.get? b=some o):Ci h h':=λb B hb e=>by
 refine hk b B (λz=>?_) e
 obtain⟨o,e1,hc,_⟩:=hI
 rw[zF.mp z,e1]at e
 cases e
 rw[hc]at hb
 exact absurd hb (by decide)
section
variable{R:Result->Shared->Prop}{l:Addr}{KI:Heap->Nat->Value->Prop}{bt:Nat->Nat->Bool}
theorem r_(hh:A.handled=none)(JO:l≠I)(Ft:S≠I)(IQ:l≠S)(s₀:Shared)(turn:∀h i v,vs[i]?=some v->KI h i v)
  (mono:∀h h' i u,KI h i u->Ci h h'->KI h' i u) (DH:∀i j u v (s:Shared) (Q E:Value->Shared->Prop),KI s.heap i u->KI s.heap j v->Q (.bool (bt i j)) s->wpAny (model prog w) A.in1 (richCompare .Lt u v) Q E s)
  (Hj:s₀.heap.get? I=none) (HH:s₀.heap.get? S=none)
  (hR:∀v h' tk,vs[argBest bt (vs.length-1)]?=some v->Kept s₀.heap h'->R (.ok (.ret v)) { s₀ with heap:=h',toks:=tk }) :
  ∀(k j:Nat)(h:Heap)(tk:Nat)(vb kb:Value)(c:Nat),vs.length-(j+1)=k->j+1<=vs.length->Kept s₀.heap h->h.IsListIter I l (j+1)->h.IsList l vs.toArray->KI h (argBest bt j) kb->vs[argBest bt j]?=some vb ->
   h.get? S=some (seqObj "list" #[vb,kb] c)->
   codeAny (model prog w) A (.builtin "min.loop" ⟨[.ref I,.none,.ref S],kw⟩) R { s₀ with heap:=h,toks:=tk }:=by
 have W:=Walks.list (prog:=prog) (w:=w) (A:=A.in1) hh I l JO vs.toArray
 have hsz:vs.toArray.size=vs.length:=zP ..
 intro k
 induction k with
 | zero =>
  walk_at "h"
 | succ k ih =>
  intro j h tk vb kb c hk hj K0 hit Oe hK LQ hS 
  have Ay:j+1<vs.length:=by lia
  refine codeAny_builtin a04 (by
   walk_at "r"
   obtain⟨h2,u,IP,e2,Ca,K2,D8,HG,JV⟩:∃(h2:Heap)(u:Value)(IP:Nat),(h2=h'/\v=u/\Bo=IP)/\(h2.IsListIter I l (j+1+1)/\h2.IsList l vs.toArray)/\Kept s₀.heap h2/\h2.get? S=some (seqObj "list" #[vb,kb] c)/\KI h2 (j+1) u/\KI h2 (argBest bt j) kb :=
    ⟨h',v,Bo,⟨rfl,rfl,rfl⟩,DG,K1,IM,turn _ _ _ hv,mono _ _ _ _ hK T1⟩
   obtain⟨rfl,rfl,rfl⟩:=e2
   refine wpAny_bind (wpAny_pure (wpAny_bind (wpAny_tryCatch (wpAny_holding (wpAny_bind (m:=richCompare .Lt v kb) (DH (j+1) (argBest bt j) v kb _ _ _ HG JV ?_))))))
   refine wpAny_bind (wpAny_holding (wpAny_truthy_bool (wpAny_bind (wpAny_letGo (wpAny_pure ?_)))))
   cases hb:bt (j+1) (argBest bt j) with
   | true =>
    simp only [if_true]
    refine wpAny_bind (wpAny_updateSeq D8 rfl (wpAny_bind (wpAny_letGo ?_)))
    rw[fX]
    have T3:Ci h2 (h2.update S (Obj.mapSeq λ_=>#[v,v])):=fK D8 rfl
    have CK:∀b o,b≠S->h2.get? b=some o->(h2.update S (Obj.mapSeq λ_=>#[v,v])).get? b=some o:=λb o n e=>(Heap.get?_update_other _ _ (Ne.symm n)).trans e
    obtain⟨oI,i1,i2,i3⟩:=Ca.1
    obtain⟨oL,l1,l2⟩:=Ca.2
    refine wpAny_pure ⟨plainId_quiet Z8 _,ih (j+1) _ _ v v _ (by lia) Ay (λb o e=>CK b o (λz=>by rw[z,HH]at e;cases e) (K2 b o e)) ⟨oI,CK _ _ Ft.symm i1,i2,i3⟩ ⟨oL,CK _ _ IQ l1,l2⟩ ?_ ?_ (Heap.get?_update_self _ D8 rfl) ⟩
    ·simp only [argBest,hb,if_true];exact mono _ _ _ _ HG T3
    ·simp only [argBest,hb,if_true];exact hv
   | false =>
    walk_at "R"
    ·simp only [argBest,hb,yX,if_false];exact LQ)
theorem qw{q:Addr}(hh:A.handled=none)(JO:l≠I)(Ft:S≠I)(IQ:l≠S)(s₀:Shared)(turn:∀i v,vs[i]?=some v->∀h tk (Q E:Value->Shared->Prop),Kept s₀.heap h->(∀u h' Bo,Kept h h'->KI h' i u->Q u { s₀ with heap:=h',toks:=Bo })->wpAny (model prog w) A.in1 (call (.ref q) [v]) Q E { s₀ with heap:=h,toks:=tk })
  (mono:∀h h' i u,KI h i u->Ci h h'->KI h' i u) (DH:∀i j u v (s:Shared) (Q E:Value->Shared->Prop),KI s.heap i u->KI s.heap j v->Q (.bool (bt i j)) s->wpAny (model prog w) A.in1 (richCompare .Lt u v) Q E s)
  (Hj:s₀.heap.get? I=none) (HH:s₀.heap.get? S=none)
  (hR:∀v h' tk,vs[argBest bt (vs.length-1)]?=some v->Kept s₀.heap h'->R (.ok (.ret v)) { s₀ with heap:=h',toks:=tk }) :
  ∀(k j:Nat)(h:Heap)(tk:Nat)(vb kb:Value)(c:Nat),vs.length-(j+1)=k->j+1<=vs.length->Kept s₀.heap h->h.IsListIter I l (j+1)->h.IsList l vs.toArray->KI h (argBest bt j) kb->vs[argBest bt j]?=some vb ->
   h.get? S=some (seqObj "list" #[vb,kb] c)->
   codeAny (model prog w) A (.builtin "min.loop" ⟨[.ref I,.ref q,.ref S],kw⟩) R { s₀ with heap:=h,toks:=tk }:=by
 have W:=Walks.list (prog:=prog) (w:=w) (A:=A.in1) hh I l JO vs.toArray
 have hsz:vs.toArray.size=vs.length:=zP ..
 intro k
 induction k with
 | zero =>
  walk_at "h"
 | succ k ih =>
  intro j h tk vb kb c hk hj K0 hit Oe hK LQ hS 
  have Ay:j+1<vs.length:=by lia
  refine codeAny_builtin a04 (by
   walk_at "r"
   refine wpAny_bind (m:=tryCatch (holding [v] (call (.ref q) [v])) _) (wpAny_tryCatch (wpAny_holding (turn (j+1) v hv h' Bo _ _ K1 λu h2 IP k2 HG=>?_)))
   obtain⟨oI,i1,i2,i3⟩:=DG.1
   obtain⟨oL,l1,l2⟩:=DG.2
   have Ca:h2.IsListIter I l (j+1+1)/\h2.IsList l vs.toArray:=⟨⟨oI,k2 _ _ i1,i2,i3⟩,⟨oL,k2 _ _ l1,l2⟩⟩
   have K2:Kept s₀.heap h2:=λb o e=>k2 b o (K1 b o e)
   have D8:=k2 _ _ IM
   have JV:KI h2 (argBest bt j) kb:=mono _ _ _ _ hK λb o c e=>k2 b o (T1 b o c e)
   refine wpAny_bind (wpAny_tryCatch (wpAny_holding (wpAny_bind (m:=richCompare .Lt u kb) (DH (j+1) (argBest bt j) u kb _ _ _ HG JV ?_))))
   refine wpAny_bind (wpAny_holding (wpAny_truthy_bool (wpAny_bind (wpAny_letGo (wpAny_pure ?_)))))
   cases hb:bt (j+1) (argBest bt j) with
   | true =>
    simp only [if_true]
    refine wpAny_bind (wpAny_updateSeq D8 rfl (wpAny_bind (wpAny_letGo ?_)))
    rw[fX]
    have T3:Ci h2 (h2.update S (Obj.mapSeq λ_=>#[v,u])):=fK D8 rfl
    have CK:∀b o,b≠S->h2.get? b=some o->(h2.update S (Obj.mapSeq λ_=>#[v,u])).get? b=some o:=λb o n e=>(Heap.get?_update_other _ _ (Ne.symm n)).trans e
    obtain⟨oI,i1,i2,i3⟩:=Ca.1
    obtain⟨oL,l1,l2⟩:=Ca.2
    refine wpAny_pure ⟨plainId_quiet Z8 _,ih (j+1) _ _ v u _ (by lia) Ay (λb o e=>CK b o (λz=>by rw[z,HH]at e;cases e) (K2 b o e)) ⟨oI,CK _ _ Ft.symm i1,i2,i3⟩ ⟨oL,CK _ _ IQ l1,l2⟩ ?_ ?_ (Heap.get?_update_self _ D8 rfl) ⟩
    ·simp only [argBest,hb,if_true];exact mono _ _ _ _ HG T3
    ·simp only [argBest,hb,if_true];exact hv
   | false =>
    walk_at "R"
    ·simp only [argBest,hb,yX,if_false];exact LQ)
theorem tM{d:Value}(hh:A.handled=none)(hl:s.heap.IsList l vs.toArray)(ha:argsOk "min" ⟨[.ref l],[(Str.ofString "default",d)]⟩)(turn:∀h i v,vs[i]?=some v->KI h i v)
  (mono:∀h h' i u,KI h i u->Ci h h'->KI h' i u) (DH:∀i j u v (s:Shared) (Q E:Value->Shared->Prop),KI s.heap i u->KI s.heap j v->Q (.bool (bt i j)) s->wpAny (model prog w) A.in1 (richCompare .Lt u v) Q E s)
  (A5:0<vs.length->∀v h' tk,vs[argBest bt (vs.length-1)]?=some v->Kept s.heap h'->Q v { s with heap:=h',toks:=tk })
  (B:vs.length=0->∀h' tk,Kept s.heap h'->Q d { s with heap:=h',toks:=tk }) :
  wpAny (model prog w) A (call (.builtin "min") [.ref l] [(Str.ofString "default",d)]) Q E s:=by
 refine kmk_tree a0d a0b a0c ha ?_
 refine wpAny_bind (m:=Builtin.Builtins.bindParams "min" ["key","default"] 0 ⟨[],[(Str.ofString "default",d)]⟩) (wpAny_of_eq (show Builtin.Builtins.bindParams "min" ["key","default"] 0 ⟨[],[(Str.ofString "default",d)]⟩=pure [none,some d]from rfl) ?_)
 walk_at "a"
 try rw[JN]
 walk_at "c"
 refine codeAny_builtin a04 (by
  rw[Around.under_plainId Z8 _]
  by_cases hn:0<vs.length
  ·refine wpAny_bind (m:=seqItems? (.ref (I+1))) (wpAny_seqItems gS rfl (wpAny_bind (wpAny_tryCatch (W.item 0 _ _ _ (by rw[hsz];exact hn) ⟨hit,BF⟩ λv h' Bo hP DG Bp=>?_))))
   have hv:vs[0]?=some v:=by simpa using hP
   have IM:=Bp (I+1) _ (λz=>Ft (zF.mp z)) gS
   have K1:Kept s.heap h':=λb o e=>Bp b o (λz=>by rw[zF.mp z,Hj]at e;cases e) (KK b o e)
   obtain⟨h2,u,IP,e2,Ca,K2,D8,HG⟩:∃(h2:Heap)(u:Value)(IP:Nat),(h2=h'/\v=u/\Bo=IP)/\(h2.IsListIter I l 1/\h2.IsList l vs.toArray)/\Kept s.heap h2/\h2.get? (I+1)=some (seqObj "list" #[] 0)/\KI h2 0 u:=⟨h',v,Bo,⟨rfl,rfl,rfl⟩,DG,K1,IM,turn _ _ _ hv⟩
   obtain⟨rfl,rfl,rfl⟩:=e2
   refine wpAny_bind (wpAny_pure (wpAny_bind (wpAny_updateSeq D8 rfl ?_)))
   rw[fX]
   have T3:Ci h2 (h2.update (I+1) (Obj.mapSeq λ_=>#[v,v])):=fK D8 rfl
   have CK:∀b o,b≠I+1->h2.get? b=some o->(h2.update (I+1) (Obj.mapSeq λ_=>#[v,v])).get? b=some o:=λb o n e=>(Heap.get?_update_other _ _ (Ne.symm n)).trans e
   obtain⟨oI,i1,i2,i3⟩:=Ca.1
   obtain⟨oL,l1,l2⟩:=Ca.2
   refine wpAny_pure ⟨plainId_quiet Z8 _,r_ hh JO Ft IQ s turn mono DH Hj HH (λv' Eh JP e1 e2=>A5 hn v' Eh JP e1 e2) _ 0 _ _ v v _ rfl hn (λb o e=>CK b o (λz=>by rw[z,HH]at e;cases e) (K2 b o e)) ⟨oI,CK _ _ Ft.symm i1,i2,i3⟩ ⟨oL,CK _ _ IQ l1,l2⟩ (mono _ _ _ _ HG T3) hv (Heap.get?_update_self _ D8 rfl)⟩
  ·refine wpAny_bind (m:=seqItems? (.ref (I+1))) (wpAny_seqItems gS rfl (wpAny_bind (wpAny_tryCatch (W.done _ _ _ ⟨by rw[hsz,show vs.length=0 by lia];exact hit,BF⟩ λh' Bo Bp=>?_))))
   refine wpAny_bind (m:=rule _) (wpAny_rule (wpAny_pure ?_))
   exact B (by lia) _ _ λb o e=>Bp b o (λz=>by rw[zF.mp z,Hj]at e;cases e) (KK b o e))
theorem o0{q:Addr}{d:Value}(hh:A.handled=none)(hl:s.heap.IsList l vs.toArray)(ha:argsOk "min" ⟨[.ref l],[(Str.ofString "key",.ref q),(Str.ofString "default",d)]⟩)(turn:∀i v,vs[i]?=some v->∀h tk (Q E:Value->Shared->Prop),Kept s.heap h->(∀u h' Bo,Kept h h'->KI h' i u->Q u { s with heap:=h',toks:=Bo })->wpAny (model prog w) A.in1 (call (.ref q) [v]) Q E { s with heap:=h,toks:=tk })
  (mono:∀h h' i u,KI h i u->Ci h h'->KI h' i u) (DH:∀i j u v (s:Shared) (Q E:Value->Shared->Prop),KI s.heap i u->KI s.heap j v->Q (.bool (bt i j)) s->wpAny (model prog w) A.in1 (richCompare .Lt u v) Q E s)
  (A5:0<vs.length->∀v h' tk,vs[argBest bt (vs.length-1)]?=some v->Kept s.heap h'->Q v { s with heap:=h',toks:=tk })
  (B:vs.length=0->∀h' tk,Kept s.heap h'->Q d { s with heap:=h',toks:=tk }) :
  wpAny (model prog w) A (call (.builtin "min") [.ref l] [(Str.ofString "key",.ref q),(Str.ofString "default",d)]) Q E s:=by
 refine kmk_tree a0d a0b a0c ha ?_
 refine wpAny_bind (m:=Builtin.Builtins.bindParams "min" ["key","default"] 0 ⟨[],[(Str.ofString "key",.ref q),(Str.ofString "default",d)]⟩) (wpAny_of_eq (show Builtin.Builtins.bindParams "min" ["key","default"] 0 ⟨[],[(Str.ofString "key",.ref q),(Str.ofString "default",d)]⟩=pure [some (.ref q),some d]from rfl) ?_)
 walk_at "a"
 try rw[JN]
 walk_at "c"
 refine codeAny_builtin a04 (by
  walk_at "b"
  ·refine wpAny_bind (m:=seqItems? (.ref (I+1))) (wpAny_seqItems gS rfl (wpAny_bind (wpAny_tryCatch (W.done _ _ _ ⟨by rw[hsz,show vs.length=0 by lia];exact hit,BF⟩ λh' Bo Bp=>?_))))
   refine wpAny_bind (m:=rule _) (wpAny_rule (wpAny_pure ?_))
   exact B (by lia) _ _ λb o e=>Bp b o (λz=>by rw[zF.mp z,Hj]at e;cases e) (KK b o e))
theorem o_{q:Addr}(hh:A.handled=none)(hl:s.heap.IsList l vs.toArray)(ha:argsOk "min" ⟨[.ref l],[(Str.ofString "key",.ref q)]⟩)(turn:∀i v,vs[i]?=some v->∀h tk (Q E:Value->Shared->Prop),Kept s.heap h->(∀u h' Bo,Kept h h'->KI h' i u->Q u { s with heap:=h',toks:=Bo })->wpAny (model prog w) A.in1 (call (.ref q) [v]) Q E { s with heap:=h,toks:=tk })
  (mono:∀h h' i u,KI h i u->Ci h h'->KI h' i u) (DH:∀i j u v (s:Shared) (Q E:Value->Shared->Prop),KI s.heap i u->KI s.heap j v->Q (.bool (bt i j)) s->wpAny (model prog w) A.in1 (richCompare .Lt u v) Q E s)
  (A5:0<vs.length->∀v h' tk,vs[argBest bt (vs.length-1)]?=some v->Kept s.heap h'->Q v { s with heap:=h',toks:=tk })
  (B:0<vs.length) :
  wpAny (model prog w) A (call (.builtin "min") [.ref l] [(Str.ofString "key",.ref q)]) Q E s:=by
 refine kmk_tree a0d a0b a0c ha ?_
 refine wpAny_bind (m:=Builtin.Builtins.bindParams "min" ["key","default"] 0 ⟨[],[(Str.ofString "key",.ref q)]⟩) (wpAny_of_eq (show Builtin.Builtins.bindParams "min" ["key","default"] 0 ⟨[],[(Str.ofString "key",.ref q)]⟩=pure [some (.ref q),none]from rfl) ?_)
 walk_at "a"
 try rw[JN]
 walk_at "c"
 refine codeAny_builtin a04 (by
  walk_at "b"
  ·exact absurd B hn)
end
end L2
namespace L2
open PySem PySem.Spec PyProof.Rows PySem.Calls
theorem pF(a d:Value):argsOk "min" ⟨[a],[(Str.ofString "default",d)]⟩:=by unfold argsOk;kernel_rfl
theorem mH(a f d:Value):argsOk "min" ⟨[a],[(Str.ofString "key",f),(Str.ofString "default",d)]⟩:=by unfold argsOk;kernel_rfl
theorem tV(n:Nat)(hn:n<ns.length):∀k,k<=n->ns.getD (argBest (λi j=>decide (ns.getD i 0<ns.getD j 0)) n) 0<=ns.getD k 0:=by
 induction n with
 | zero=>intro k hk;rw[show k=0 by lia];exact jL _
 | succ n ih =>
  intro k hk
  have h1:=ih (by lia)
  simp only [argBest]
  by_cases hb:ns.getD (n+1) 0<ns.getD (argBest (λi j=>decide (ns.getD i 0<ns.getD j 0)) n) 0
  ·rw[if_pos (decide_eq_true hb)]
   by_cases e:k=n+1
   ·rw[e];exact jL _
   ·have:=h1 k (by lia);lia
  ·rw[if_neg (by simpa using hb)]
   by_cases e:k=n+1
   ·rw[e];lia
   ·exact h1 k (by lia)
theorem gK(bt:Nat->Nat->Bool)(n:Nat):argBest bt n<=n:=by
 induction n with
 | zero=>exact zJ _
 | succ n ih=>simp only [argBest];split <;>lia
def MP(K:PySem.W.Frag)(ta:TE):TE:=fun σ H Q=>ta σ H λv H1=>∃l ns,v=.ref l/\eH K H1 l (ns.map V.int)/\(ns=[]->Q .y2 H1)/\∀M,M∈ns->(∀a∈ns,M<=a)->Q (.int M) H1
theorem uy{a:Expr}{p kp pd:Pos}{jd}(hc:X.calm=true)(hg:Gl X nm)(hm:X.mg nm=none)(hv:bootBuiltins nm=some (.builtin "min"))(ha:PE X a ta)
  (hn:nm ≠ "__name__":=by decide) (Dy:(nm==("__debug__":Str))=false:=by decide)
  (hs:starEach [a] X.env=(false,eval a X.env)::starEach [] X.env:=by rfl) (he:backTo pos (starEach [a] X.env)=(false,eval a X.env)::backTo pos (starEach [] X.env):=by rfl)
  (Y:(backTo pos (starEach [a] X.env)).any (·.1)=false:=by rfl) :
  PE X (.Call (.Name nm p) [a] [⟨some "default",.Constant .none jd pd,kp⟩] pos) (MP X.K ta):=by
 walk_at "G"
 refine callWith_kw (zd (Bk ha a_ hs pos aO s σ H (λvs H1=>match vs with|[v]=>∃l ns,v=.ref l/\eH X.K H1 l (ns.map V.int)/\(ns=[]->Q .y2 H1)/\∀M,M∈ns->(∀a∈ns,M<=a)->Q (.int M) H1|_=>False) I h) ?_) he Y
 rintro us s1 ⟨vs,H1,I1,r,q1⟩
 match vs,r,q1 with
 | [v],r,q1 =>
 obtain⟨l,ns,rfl,hl,q0,q⟩:=q1
 cases r with
 | cons r0 r1 =>
 cases r1
 cases r0
 refine kws_cons (Constant_none (kws_nil ?_))
 obtain⟨its,rv,pl,hz⟩:=I1.list hl
 have hi:=di rv
 have G:=rv.length
 rw[zB]at G
 refine tM (KI:=λ_ i u=>∃t,u=.int (ns.getD i 0) t) (bt:=λi j=>decide (ns.getD i 0<ns.getD j 0)) (I1.ok.hd hc) pl.isList (pF _ _) (λh i v hv=>?_) (λ_ _ _ _ z _=>z) (λi j u v s Q E ⟨t,e1⟩ ⟨t2,e2⟩ hq=>?_) (λhp v h' tk hv hk=>?_) (λhz h' tk hk=>?_)
 ·have B:i<ns.length:=by rw[G];exact(zC.mp hv).1
  obtain⟨w,e,O⟩:=rv.get (i:=i) (x:=.int ns[i]) (by rw[zG,zD B];rfl)
  rw[hv]at e
  cases e
  obtain⟨t,e⟩:=O
  exact⟨t,by rw[e,zA,zD B];rfl⟩
 ·subst e1 e2
  exact CmpOf.ints_lt (prog:=X.prog) (w:=X.w) (A:=X.A.in1) (P:=λi v=>∃t,v=.int (ns.getD i 0) t) (λi=>ns.getD i 0) (λi v h=>h) i j _ _ s Q E ⟨t,rfl⟩ ⟨t2,rfl⟩ hq
 ·have hb:=gK (λi j=>decide (ns.getD i 0<ns.getD j 0)) (its.length-1)
  have B:argBest (λi j=>decide (ns.getD i 0<ns.getD j 0)) (its.length-1)<ns.length:=by lia
  obtain⟨w,e,O⟩:=rv.get (i:=argBest (λi j=>decide (ns.getD i 0<ns.getD j 0)) (its.length-1)) (x:=.int (ns[argBest (λi j=>decide (ns.getD i 0<ns.getD j 0)) (its.length-1)])) (by rw[zG,zD B];rfl)
  rw[hv]at e
  cases e
  refine⟨.int _,H1,I1.kept (t':=tk) hk,O,q _ (List.getElem_mem _) λa ha=>?_⟩
  obtain⟨k,MQ,rfl⟩:=List.getElem_of_mem ha
  have U:=tV (ns:=ns) (its.length-1) (by lia) k (by lia)
  rw[zA,zA,zD B,zD MQ]at U
  exact U
 ·exact⟨.y2,H1,I1.kept (t':=tk) hk,rfl,q0 (qR (by lia))⟩
end L2
namespace L2
open PySem PySem.Spec PyProof.Rows PySem.W PySem.Calls
abbrev Ct(x:Str)(p2 p3 p4 p5 p6 p7 p8:Pos):Expr:=.Tuple [.Subscript (.Name x p2) (.Constant (.int 0) 0 p3) p4,.Subscript (.Name x p5) (.Constant (.int 1) 0 p6) p7] 0 p8
theorem qj{f t:Addr}{O:Value}{p6 p7 p8:Pos}{its:Array Value}{k1 k2:Int}{Y u2:Tok}
  (ho:s.heap.get? f=some (kla_obj "<lambda>" qual (Af x p1) (Ct x p2 p3 p4 p5 p6 p7 p8) (Av x) [] pm c' O)) (ER:s.heap.CodeRec (.ref c') qual) (G:A.depth<recursionLimit) (lim:s.heap.NoLimit)
  (ht:IsTup s.heap t its) (hsz:2<=its.size) (h0:its[0]?=some (.int k1 Y)) (h1:its[1]?=some (.int k2 u2)) (hd:(x==("__debug__":Str))=false)
  (B0:∀v,bindArgs (kla_fn "<lambda>" qual (Af x p1) (Ct x p2 p3 p4 p5 p6 p7 p8) (Av x) [] pm (.ref c') O) ⟨[v],[]⟩=pure [(x,v)])
  (hQ:∀a h' Bo,Kept s.heap h'->IsTup h' a #[.int k1 Y,.int k2 u2]->Q (.ref a) { s with heap:=h',toks:=Bo }) :
  wpAny (model prog w) A (call (.ref f) [.ref t]) Q E s:=by
 refine wpAny_call (kla_callFunE G ho rfl rfl rfl rfl ER ?_)
 walk_at "N"
 ·have U:Kept s.heap h₁:=λb o e=>Ln.extBut b o (yK (Heap.lt_size e)) (Heap.get?_push_of_some _ e)
  have B:IsTup h₁ t its:=let ⟨o,e,r⟩:=ht;⟨o,U _ _ e,r⟩
  have i0:seqIndex? 0 its.size=some 0:=by generalize its.size=n at hsz;unfold seqIndex?;simp;lia
  have i1:seqIndex? 1 its.size=some 1:=by generalize its.size=n at hsz;unfold seqIndex?;simp;lia
  refine kla_codeExpr (wpAny_mono (E:=λ_ _=>False) (Q:=λv s'=>∃a h' Bo,v=.ref a/\s'={ s with heap:=h',toks:=Bo }/\Kept s.heap h'/\IsTup h' a #[.int k1 Y,.int k2 u2]) ?_ (λv s' ⟨a,h',Bo,e1,e2,kk,tt⟩=>by subst e1 e2;exact hQ a h' Bo kk tt) λ_ _ h'=>h'.elim)
  refine wpAny_Tuple_spliced (Calls.spliced_cons ?_)
  walk_at "w"
  ·refine subscriptTail_builtinR (x:=.int k1 Y) (s:={ s with heap:=h₁,toks:=s.toks+[(x,Value.ref t)].length+1 }) B.typeIs slot_tuple_getitem.lookup (getItem_tuple (j:=0) B (by decide) (by decide) i0 h0 ⟨rfl,?_⟩)
   refine Calls.spliced_cons ?_
   walk_at "w"
   ·refine subscriptTail_builtinR (x:=.int k2 u2) (s:={ s with heap:=h₁,toks:=s.toks+[(x,Value.ref t)].length+1+1 }) B.typeIs slot_tuple_getitem.lookup (getItem_tuple (j:=1) B (by decide) (by decide) i1 h1 ⟨rfl,?_⟩)
    refine Calls.spliced_nil ⟨(by show 2<=sizeLine;decide),_,_,_,rfl,rfl,λb o e=>Heap.get?_push_of_some _ (U b o e),IsTup.new _ _⟩
def AI(a b:Int×Int):Bool:=HT.lexLt [a.1,a.2] [b.1,b.2]
def Ad(ks:List (Int×Int)):Nat:=argBest (λi j=>AI (ks.getD i (0,0)) (ks.getD j (0,0))) (ks.length-1)
inductive F_(K:PySem.W.Frag)(P:Addr)(q:Str)(ln cl:Nat)(Q:VK)(v:V)(H1:Hp):Prop where
 | mk (l xs ks:_) (ui:v=.ref l) (uj:eH K H1 l xs) (zf:ks.length=xs.length) (zq:(∀(j:Nat) x (k:Int×Int),xs[j]?=some x->ks[j]?=some k->∃t ys,x=.ref t/\ze K H1 t ys/\ys[0]?=some (.int k.1)/\ys[1]?=some (.int k.2))) (Ai:zz P q ln cl H1) (AA:∀H2,ql [P] H1 H2->zz P q ln cl H2->(xs=[]->Q .y2 H2)/\∀x,xs[Ad ks]?=some x->Q x H2):F_ K P q ln cl Q v H1
def MR(K:PySem.W.Frag)(P:Addr)(q:Str)(ln cl:Nat)(ta:TE):TE:=fun σ H Q=>ta σ H (F_ K P q ln cl Q)
theorem rS{k:Nat}{c P:Addr}{a:Expr}{p kp MS pd p6 p7 p8 lp:Pos}{jd}(hc:X.calm=true)(hr:Ae k X.A)(hg:Gl X nm)(hm:X.mg nm=none)(hv:bootBuiltins nm=some (.builtin "min"))
  (Y:X.env.code=.ref c) (hq:X.env.qual++"<lambda>"=q) (C:CodeHd X.base c P) (hB:X.base.BuiltinsAt X.mg P) (ha:PE X a ta) (hd:(x==("__debug__":Str))=false)
  (B0:∀(pm B:Value)(c':Addr) v,bindArgs (kla_fn "<lambda>" q (Af x p1) (Ct x p2 p3 p4 p5 p6 p7 p8) (Av x) [] pm (.ref c') B) ⟨[v],[]⟩=pure [(x,v)])
  (Ky:closureFor (Av x) X.env=pure []) (Kz:defaultsOf (Af x p1) X.env=([],[]))
  (hn:nm ≠ "__name__":=by decide) (Dy:(nm==("__debug__":Str))=false:=by decide)
  (hs:starEach [a] X.env=(false,eval a X.env)::starEach [] X.env:=by rfl) (he:backTo pos (starEach [a] X.env)=(false,eval a X.env)::backTo pos (starEach [] X.env):=by rfl)
  (MF:(backTo pos (starEach [a] X.env)).any (·.1)=false:=by rfl) :
  PE X (.Call (.Name nm p) [a] [⟨some "key",.Lambda (Af x p1) (Ct x p2 p3 p4 p5 p6 p7 p8) (Av x) lp,kp⟩,⟨some "default",.Constant .none jd pd,MS⟩] pos) (MR X.K P q lp.line lp.col ta):=by
 walk_at "G"
 have core:∀(l:Addr)(xs:List V)(ks:List (Int×Int))(s2:Shared)(H2:Hp)(f c':Addr)(pm B:Value),Inv X aO σ H2 s2->ks.length=xs.length ->
   s2.heap.get? f=some (kla_obj "<lambda>" q (Af x p1) (Ct x p2 p3 p4 p5 p6 p7 p8) (Av x) [] pm c' B)->s2.heap.CodeRec (.ref c') q->eH X.K H2 l xs ->
   (∀(j:Nat) x (k:Int×Int),xs[j]?=some x->ks[j]?=some k->∃t ys,x=.ref t/\ze X.K H2 t ys/\ys[0]?=some (.int k.1)/\ys[1]?=some (.int k.2)) ->
   ((xs=[]->Q .y2 H2)/\∀x,xs[Ad ks]?=some x->Q x H2) ->
   wpAny (model X.prog X.w) X.A (call (.builtin "min") [.ref l] [(Str.ofString "key",.ref f),(Str.ofString "default",.none)]) (EP X aO σ Q) X.xe s2:=by
  intro l xs ks s2 H2 f c' pm B I2 O hf ER hl G hQ
  obtain⟨its,r,KA,hz⟩:=I2.list hl
  have Jn:=r.length
  refine o0 (KI:=λh i u=>∃a ts,u=.ref a/\IsTup h a ts/\IntsAre ts.toList [(ks.getD i (0,0)).1,(ks.getD i (0,0)).2]) (bt:=λi j=>AI (ks.getD i (0,0)) (ks.getD j (0,0))) (vs:=its) (I2.ok.hd hc) KA.isList (mH _ _ _) (λi v hv h tk Q' E' kp fin=>?_) (λh h' i u z tk=>?_) (λi j u v s' Q' E' z1 z2 IS=>?_) (λhp v h' tk hv hk=>?_) (λhz h' tk hk=>?_)
  ·have hi:i<xs.length:=by rw[Jn];exact(zC.mp hv).1
   have ex:xs[i]?=some xs[i]:=zD hi
   have ek:ks[i]?=some ks[i]:=zD (by lia)
   obtain⟨u,hu,ru⟩:=r.get ex
   rw[hv]at hu
   cases hu
   obtain⟨t,ys,e1,ht,y0,y1⟩:=G i _ _ ex ek
   rw[e1]at ru
   cases ru
   obtain⟨MH,r2,pl,Wb⟩:=I2.tuple ht
   obtain⟨w0,Wq,t0,rfl⟩:=r2.get y0
   obtain⟨w1,MT,t1,rfl⟩:=r2.get y1
   have BF:=(zC.mp MT).1
   have MI:IsTup h t MH.toArray:=let ⟨o,e,r⟩:=pl;⟨o,kp _ _ e,r⟩
   refine qj (s:={ s2 with heap:=h,toks:=tk }) (A:=X.A.in1) (kp _ _ hf) (bX ER λo e=>kp _ _ e) hr.depth (I2.nolimit.keeps kp) MI (by rw[zP];lia) (by simpa using Wq) (by simpa using MT) hd (B0 pm B c') (λa h' Bo k' tt=>?_)
   refine fin _ h' Bo k' ⟨a,_,rfl,tt,?_⟩
   have eg:ks.getD i (0,0)=ks[i]:=by rw[zA,ek];rfl
   rw[eg]
   exact .cons _ t0 (.cons _ t1 .nil)
  walk_at "P"
  ·have hb:Ad ks=argBest (λi j=>AI (ks.getD i (0,0)) (ks.getD j (0,0))) (its.length-1):=by unfold Ad;rw[O,Jn]
   rw[←hb]at hv
   have hi:Ad ks<xs.length:=by rw[Jn];exact(zC.mp hv).1
   have ex:xs[Ad ks]?=some xs[Ad ks]:=zD hi
   obtain⟨u,hu,ru⟩:=r.get ex
   rw[hv]at hu
   cases hu
   exact⟨_,H2,I2.kept (t':=tk) hk,ru,hQ.2 _ ex⟩
  ·exact⟨.y2,H2,I2.kept (t':=tk) hk,rfl,hQ.1 (qR (by lia))⟩
 refine callWith_kw (zd (Bk ha a_ hs pos aO s σ H (λvs H1=>match vs with|[v]=>F_ X.K P q lp.line lp.col Q v H1|_=>False) I h) ?_) he MF
 rintro us s1 ⟨vs,H1,I1,r,q1⟩
 match vs,r,q1 with
 | [v],r,q1 =>
 obtain⟨l,xs,ks,rfl,hl,O,G,hT,hQ⟩:=q1
 cases r with
 | cons r0 r1 =>
 cases r1
 cases r0
 refine kws_cons (kla_eval Kz ?_)
 rw[hq]
 have C1:=C.keeps I1.bk
 have MJ:=hB.keeps I1.bk
 have Jj:X.env.globals=mainGlobals:=I1.ok.glob
 have F7:s1.heap.Ns mainGlobals X.mg:=I1.mod.glob.keeps I1.bk
 rcases hT with hP|⟨c',hP,Jo⟩
 ·have Ij:s1.heap.get? P=some (tabObj #[]):=I1.yx _ _ hP
  have Ql:mainGlobals≠P:=λz=>by
   obtain⟨o,es,ep,e,Qm,_⟩:=F7
   rw[z,Ij]at e;cases e;cases Qm
  refine kla_makeFunction (mg:=X.mg) Ky Jj F7 Y C1 Ij True.intro rfl Ql MJ λc' B h' tk hx HP Ay U Qn=>?_
  refine kws_cons (Constant_none (kws_nil ?_))
  have I2:=(I1.grown (t':=tk) hP hx HP U Qn).kept (t':=tk) (h':=h'.push (kla_obj "<lambda>" q (Af x p1) (Ct x p2 p3 p4 p5 p6 p7 p8) (Av x) [] ((X.mg "__name__").getD .none) c' B)) λb o e=>Heap.get?_push_of_some _ e
  walk_at "v"
  have Wr:ql [P] H1 (upd (upd H1 P (.AB (#[]++#[rawInt lp.line,rawInt lp.col,.ref c']))) c' (Bs c' q)):=λb u e hb=>by
   rw[bj (bi e Ei),bj (λz=>hb (by rw[z];exact y9 _))];exact e
  have Ws:zz P q lp.line lp.col (upd (upd H1 P (.AB (#[]++#[rawInt lp.line,rawInt lp.col,.ref c']))) c' (Bs c' q)):=.inr ⟨c',by rw[bj (bi hP Ei),bg];rfl,bg⟩
  refine core l xs ks _ _ _ c' _ B I2 O (Heap.get?_push_size _ rfl) (bX U λo e=>Heap.get?_push_of_some _ e) ?_ (λj y k ej ek=>?_) (hQ _ Wr Ws)
  ·rcases hl with hl|hl
   ·exact .inl (CK hl λ_ z=>nomatch z)
   ·exact .inr hl
  ·obtain⟨t,ys,e1,ht,y0,y1⟩:=G j y k ej ek
   refine⟨t,ys,e1,?_,y0,y1⟩
   rcases ht with ht|ht
   ·exact .inl (CK ht λ_ z=>nomatch z)
   ·exact .inr ht
 ·have Ij:s1.heap.get? P=some (tabObj #[rawInt lp.line,rawInt lp.col,.ref c']):=I1.yx _ _ hP
  have U:s1.heap.CodeRec (.ref c') q:=(I1.yx _ _ Jo).1
  refine kla_makeFunctionHit (mg:=X.mg) (cv:=.ref c') Ky Jj F7 Y C1 Ij (by simp [TriplesOk,rawInt]) (by simp [codeAmong,rawInt]) MJ λB h' tk hk _=>?_
  refine kws_cons (Constant_none (kws_nil ?_))
  have kp:Kept s1.heap (h'.push (kla_obj "<lambda>" q (Af x p1) (Ct x p2 p3 p4 p5 p6 p7 p8) (Av x) [] ((X.mg "__name__").getD .none) c' B)):=λb o e=>Heap.get?_push_of_some _ (hk b o e)
  exact core l xs ks _ _ _ c' _ B (I1.kept (t':=tk) kp) O (Heap.get?_push_size _ rfl) (bX U λo e=>kp _ _ e) hl G (hQ H1 (ql.same (c0.refl _)) (.inr ⟨c',hP,Jo⟩))
end L2
namespace L2
open PySem PySem.Spec PyProof.Rows
theorem rk(A:Around)(s:Shared)(a:Int)(t:Tok)(c:Int)(u:Tok)(prog:Program)(w:World)(E:Value->Shared->Prop)(Q:Value->Shared->Prop)(h:Q (.bool (decide (c<a))) s) :
  wpAny (model prog w) A (richCompare .Gt (.int a t) (.int c u)) Q E s :=
 (PyProof.Rows.gt_int h:wpAny (model prog w) A (compareOp .Gt (.int a t) (.int c u)) Q E s)
section
open PySem.SeqAt
open PySem.AutoSeq1 (wpAny_loadPart')
open PySem.MeetsSeq PySem.MeetsSeq2 PySem.MeetsSeq3
theorem iz(l b:Addr)(items B:Array Value)(n n2:Nat)(dd PY:Option Addr)(sl Kc:Array (Option Value))(ns ms:List Int)(hi:IntsAre items.toList ns)(hj:IntsAre B.toList ms) :
  Meets (Builtin.«tuple.__gt__» ⟨[.ref l,.ref b],[]⟩)
   (λ_ R s=>s.heap.get? l=some { cls:=.type "tuple",dict:=dd,data:=.seq items n,slots:=sl }/\s.heap.get? b=some { cls:=.type "tuple",dict:=PY,data:=.seq B n2,slots:=Kc } /\
    R (.ok (.ret (.bool (HT.lexLt ms ns)))) s) :=
 .of_wp λprog w A R s h=>by
  obtain⟨hp,g,d,tk,os⟩:=s;obtain⟨hl,hb,h⟩:=h
  have f2:=AutoSeq1.sub_tuple_tuple
  have z1:items.size=ns.length:=by rw[←hi.length];simp
  have z2:B.size=ms.length:=by rw[←hj.length];simp
  wp_walk using wpAny_loadPart' hl,wpAny_loadPart' hb,wpAny_forIn_list _ (λrest b s'=>b.1=none/\s'=⟨hp,g,d,tk,os⟩/\∃(vs ws:List Value)(O U:List Int),rest=vs.zip ws /\
   IntsAre vs O/\IntsAre ws U/\O.length+B.size=U.length+items.size/\R (.ok (.ret (.bool (HT.lexLt U O)))) ⟨hp,g,d,tk,os⟩) _
  case turn =>
   rintro⟨y,x⟩ rest b s' ⟨Cb,rfl,vs,ws,O,U,hz,Ke,Y,G,hR⟩
   cases Ke with
   | nil=>rw[List.zip_nil_left]at hz;cases hz
   | cons a t Kf =>
    cases Y with
    | nil=>rw[List.zip_nil_right]at hz;cases hz
    | cons c u Kg =>
     rw[j8]at hz
     injection hz with PZ FW
     injection PZ with hy hx
     subst hy hx
     rw[HT.Cp]at hR
     simp only [yD]at G
     obtain⟨e,he,FX⟩:=HT.DK A.in1 ⟨hp,g,d,tk,os⟩ a t c u
     refine wpAny_bind (he prog w _ _ ?_)
     cases e with
     | true =>
      rw[if_pos (FX.mp rfl).symm]at hR
      wp_walk
      exact⟨rfl,rfl,_,_,_,_,FW,Kf,Kg,by lia,hR⟩
     | false =>
      rw[if_neg (λq=>absurd (FX.mpr q.symm) zS)]at hR
      have P0:=rk A.in1 ⟨hp,g,d,tk,os⟩ a t c u prog w
      wp_walk using P0
      exact⟨_,rfl,by simpa using hR⟩
  case fin =>
   rintro⟨b1,b2⟩ s' ⟨Cb,rfl,vs,ws,O,U,hz,Ke,Y,G,hR⟩
   simp only at Cb
   subst Cb
   have hv:HT.lexLt U O=decide (B.size<items.size):=by
    cases Ke with
    | nil =>
     cases Y with
     | nil =>
      simp only [jG]at G
      rw[HT.Bu]
      exact(decide_eq_false (by lia)).symm
     | cons c u hw =>
      simp only [jG,yD]at G
      rw[HT.Bc]
      exact(decide_eq_false (by lia)).symm
    | cons a t hv =>
     cases Y with
     | nil =>
      simp only [jG,yD]at G
      rw[HT.Bb]
      exact(decide_eq_true (by lia)).symm
     | cons c u hw =>
      rw[j8]at hz
      cases hz
   rw[hv]at hR
   wp_walk
   exact⟨_,rfl,by simpa [Builtin.Tuple.tupleCompareSizes]using hR⟩
  case h =>
   exact⟨rfl,rfl,items.toList,B.toList,ns,ms,rfl,hi,hj,by lia,h⟩
end
theorem nq{l:Addr}{B:Array Value}{ms:List Int}(hl:IsTup s.heap l items)(hb:IsTup s.heap b B)(hi:IntsAre items.toList ns)(hj:IntsAre B.toList ms)
  (hu:A.units<cLine) (h:Q (.bool (HT.lexLt ms ns)) s):wpAny (model prog w) A (compareOp .Gt (.ref l) (.ref b)) Q E s:=by
 obtain⟨⟨cls,dd,data,sl⟩,ho,hc,n,hd⟩:=id hl
 obtain⟨⟨P1,Y,data2,Kc⟩,G,O,n2,U⟩:=id hb
 simp only at hc hd O U
 subst hc hd O U
 exact richCompare_meets_room (op:=.Gt) ⟨_,ho,rfl⟩ ⟨_,G,rfl⟩ PySem.F.slot_tuple_gt PySem.F.entry_tuple_gt (PySem.F.args_tuple_gt_2 _ _) (iz l b items B n n2 dd Y sl Kc ns ms hi hj)
  ⟨ho,G,show Value.bool (HT.lexLt ms ns)≠Value.notImplemented/\Q (.bool (HT.lexLt ms ns)) s from⟨(λx=>nomatch x),h⟩⟩ hu
inductive MU(K:PySem.W.Frag)(x:V)(y:V)(H:Hp)(Q:VK):Prop where
 | mk (a b ns ms:_) (ui:x=.ref a) (uj:y=.ref b) (zf:ze K H a (ns.map V.int)) (zq:ze K H b (ms.map V.int)) (Ai:Q (.bl (HT.lexLt ms ns)) H):MU K x y H Q
theorem yc(hu:X.A.units<cLine):BH X (compareOp .Gt) (MU X.K):=by
 intro aO s σ H x y v u Q I B G h
 obtain⟨a,b,ns,ms,rfl,rfl,ha,hb,q⟩:=h
 cases B
 cases G
 obtain⟨its,O,p1,_⟩:=I.tuple ha
 obtain⟨CM,U,p2,_⟩:=I.tuple hb
 have i1:IntsAre its.toArray.toList ns:=di O
 have i2:IntsAre CM.toArray.toList ms:=di U
 exact nq p1 p2 i1 i2 hu ⟨.bl (HT.lexLt ms ns),H,I,rfl,q⟩
end L2
namespace L2
theorem MV{us:List α}(h:us.length=1):∃a,us=[a]:=List.length_eq_one_iff.mp h
theorem KJ{us:List α}(h:us.length=n+1):∃a r,us=a::r/\r.length=n:=by
 cases us with
 | nil=>cases h
 | cons a r=>exact⟨a,r,rfl,Nat.succ.inj h⟩
theorem MW{us:List α}(h:us.length=2):∃a b,us=[a,b]:=by
 obtain⟨a,r,rfl,e⟩:=KJ h;obtain⟨b,rfl⟩:=MV e;exact⟨a,b,rfl⟩
theorem MX{us:List α}(h:us.length=3):∃a b c,us=[a,b,c]:=by
 obtain⟨a,r,rfl,e⟩:=KJ h;obtain⟨b,c,rfl⟩:=MW e;exact⟨a,b,c,rfl⟩
theorem Qw{us:List α}(h:us.length=4):∃a b c d,us=[a,b,c,d]:=by
 obtain⟨a,r,rfl,e⟩:=KJ h;obtain⟨b,c,d,rfl⟩:=MX e;exact⟨a,b,c,d,rfl⟩
end L2
namespace L2
open PySem PySem.Spec PyProof.Rows
open PySem.AutoSeq1 (wpAny_loadPart')
open PySem.MeetsSeq
theorem qu(l:Addr)(items:Array Value)(n:Nat)(x:Value)(e:Nat->Bool)(j:Nat)(hj:j<items.size)(hit:e j=true)(O:items.size<=sizeLine)(k:Nat) :
  ∀i:Nat,j-i=k->i<=j->(∀m,i<=m->m<j->e m=false)->Meets (Builtin.«list.remove.loop» ⟨[.ref l,x,rawInt i],[]⟩)
   (λA R s=>(∀m (hm:m<items.size),SeqAt.EqAt A.in1 s items[m] x (e m))/\s.heap.get? l=some { cls:=.type "list",dict:=none,data:=.seq items n,slots:=#[] }/\R (.ok (.ret .none)) { s with heap:=s.heap.update l (Obj.mapSeq λxs=>xs.eraseIdxIfInBounds j) }):=by
 induction k with
 | zero =>
  intro i hk B G prog w A R s h
  obtain⟨hp,g,d,tk,os⟩:=s;obtain⟨he,hl,h⟩:=h
  have U:i=j:=Nat.le_antisymm B (Nat.sub_eq_zero_iff_le.mp hk)
  subst U
  wp_walk using wpAny_loadPart' hl
  have hi:items[((i:Nat):Int).toNat]?=some items[i]:=by simp [hj]
  rw[hi]
  refine wpAny_bind (he i hj prog w _ _ ?_)
  rw[hit]
  have Qx:(items.eraseIdxIfInBounds i).size<=sizeLine+1:=yE (size_erased items _) (qS O)
  wp_walk using (wpAny_updateSeq hl rfl (hz:=O) (_hz':=Qx)),wpAny_loadPart' hl
  simpa using h
 | succ k ih =>
  intro i hk B G prog w A R s h
  obtain⟨hp,g,d,tk,os⟩:=s;obtain⟨he,hl,h⟩:=h
  have Ay:i<items.size:=qJ B hj
  have Y:i<j:=by lia
  wp_walk using wpAny_loadPart' hl
  have hi:items[((i:Nat):Int).toNat]?=some items[i]:=by simp [Ay]
  have hc:((i:Int)+1)=((i+1:Nat):Int):=by push_cast;rfl
  rw[hi]
  refine wpAny_bind (he i Ay prog w _ _ ?_)
  rw[G i (zJ _) Y]
  wp_walk
  rw[hc]
  exact⟨plainId_quiet plain_remove_loop _,codeAny_builtin entry_remove_loop (by
   rw[Around.under_plainId plain_remove_loop _]
   exact ih (i+1) (by lia) Y (λm h1 h2=>G m (by lia) h2) prog w A R _ ⟨he,hl,h⟩)⟩
theorem oX(l:Addr)(items:Array Value)(n:Nat)(x:Value)(e:Nat->Bool)(j:Nat)(hj:j<items.size)(hit:e j=true)(B:∀m,m<j->e m=false)(G:items.size<=sizeLine) :
  Meets (Builtin.«list.remove» ⟨[.ref l,x],[]⟩)
   (λA R s=>(∀m (hm:m<items.size),SeqAt.EqAt A.in1 s items[m] x (e m))/\s.heap.get? l=some { cls:=.type "list",dict:=none,data:=.seq items n,slots:=#[] }/\R (.ok (.ret .none)) { s with heap:=s.heap.update l (Obj.mapSeq λxs=>xs.eraseIdxIfInBounds j) }):=by
 intro prog w A R s h
 obtain⟨hp,g,d,tk,os⟩:=s;obtain⟨O,hl,h⟩:=h
 wp_walk using wpAny_loadPart' hl
 exact⟨plainId_quiet plain_remove_loop _,codeAny_builtin entry_remove_loop (by
  rw[Around.under_plainId plain_remove_loop _]
  exact qu l items n x e j hj hit G _ 0 rfl (yH _) (λm _ h2=>B m h2) prog w A R _ ⟨O,hl,h⟩)⟩
inductive EW(K:PySem.W.Frag)(x:V)(vs:List V)(H:Hp)(Q:VK):Prop where
 | mk (l:Addr) (xs:List V) (y:V) (ds:List PyData) (d:PyData) (n j:Nat) (ui:x=.ref l) (uj:vs=[y]) (zf:H l=some (.lst xs)) (zq:Paired (λx d=>Dt K H n x d) xs ds) (Ai:Dt K H n y d) (AA:n<=60) (Bl:j<xs.length) (C7:PyData.eqv (ds.getD j .none) d=true) (Jt:(∀m,m<j->PyData.eqv (ds.getD m .none) d=false)) (Ju:Q .y2 (upd H l (.lst (xs.eraseIdx j)))):EW K x vs H Q
theorem o7(hu:X.A.units+64<cLine):Ot X "list.remove" (EW X.K):=by
 intro aO s σ H x vs v us Q I U rv h
 obtain⟨l,xs,y,ds,d,n,j,rfl,rfl,O,hp,hy,hn,hj,hit,B,q⟩:=h
 cases U
 obtain⟨u,rfl,ru⟩:=rv.one
 obtain⟨z,its,c,r,hl,e⟩:=I.Ep O
 obtain⟨⟨as,ra⟩,ca,da⟩:=hy.reads I ru
 refine call_meets F.slot_list_remove ⟨_,e,rfl⟩ F.entry_list_remove (F.args_list_remove_2 _ _)
  (oX l its.toArray c u (λm=>PyData.eqv (ds.getD m .none) d) j (by rw[zP,←hl];exact hj) hit B (by rw[zP];lia)) ⟨λm hm=>?_,e,?_⟩
 ·rw[zP]at hm
  have ex:xs[m]?=some (xs[m]'(by lia)):=zD _
  obtain⟨b,hb,hd⟩:=hp.getL ex
  obtain⟨w,hw,G⟩:=r.get ex
  obtain⟨⟨bs,Y⟩,cb,db⟩:=hd.reads I G
  have e1:its.toArray[m]=w:=by
   have:=zD hm
   rw[hw]at this
   simpa using (Option.some.inj this).symm
  have e2:ds.getD m .none=b:=by rw[zA,hb];rfl
  rw[e1,e2]
  refine SeqAt.eqAt_reads b d _ s w u bs as Y ra cb ca ?_
  show X.A.units+1+min b.depth d.depth<cLine
  lia
 ·refine⟨.y2,_,I.Kj (its':=its.eraseIdx j) O e ?_ (r.eraseIdx j) ?_,rfl,q⟩
  ·show its.toArray.eraseIdxIfInBounds j=(its.eraseIdx j).toArray
   rw[vN]
  ·have:=eI xs j
   lia
end L2
namespace L2
open PySem PySem.Spec PyProof.Rows PySem.W PySem.Calls
def Et(P:Program)(w:World)(K:PySem.W.Frag)(A:Around)(f:Addr):Prop :=
 ∀(s:Shared)(t t2:Addr)(its B:Array Value)(k1 k2:Int)(G O:Tok)(Q E:Value->Shared->Prop),K.In s.heap->s.heap.NoLimit->IsTup s.heap t its->2<=its.size->its[1]?=some (.ref t2)->IsTup s.heap t2 B->2<=B.size->B[0]?=some (.int k1 G)->B[1]?=some (.int k2 O) ->
  (∀a h' Bo,Kept s.heap h'->IsTup h' a #[.int k1 G,.int k2 O]->Q (.ref a) { s with heap:=h',toks:=Bo })->wpAny (model P w) A (call (.ref f) [.ref t]) Q E s
abbrev OG(x:Str)(i:Int)(p1 p2 p3 p4 p5:Pos):Expr:=.Subscript (.Subscript (.Name x p1) (.Constant (.int 1) 0 p2) p3) (.Constant (.int i) 0 p4) p5
theorem tU{f:Addr}{B:Arguments}{dV kV:Value}{an:Option Addr}{FR:Array (Option Value)}{q1 q2 q3 q4 q5 pt pr:Pos}
  (lk:K.lookup f=some ⟨oc,od,.func (PySem.W.fnOf qual qual B [.Return (some (.Tuple [OG x 0 p1 p2 p3 p4 p5,OG x 1 q1 q2 q3 q4 q5] 0 pt)) pr] scope dV kV doc pm an Bj ct),FR⟩)
  (ER:PySem.W.codeIn K Bj qual=true) (Wt:scope.isCoroutine=false) (Qy:scope.isGenerator=false) (Y:scope.names.lookup x=some .local) (Jk:scope.kind=.function) (Wu:∀y∈scope.names,y.2≠NameKind.cell)
  (MY:A.depth<recursionLimit) (hd:(x==("__debug__":Str))=false)
  (hb:∀(s:Shared)(v:Value),BindsTo s (PySem.W.fnOf qual qual B [.Return (some (.Tuple [OG x 0 p1 p2 p3 p4 p5,OG x 1 q1 q2 q3 q4 q5] 0 pt)) pr] scope dV kV doc pm an Bj ct) ⟨[v],[]⟩ [(x,v)]):Et P w K A f:=by
 intro s t t2 its G k1 k2 u1 u2 Q E KX lim ht Jv h1 Qz Tq z0 z1 hQ
 refine wpAny_call (codeAny_call_function MY (KX _ _ lk) rfl Wt Qy rfl (PySem.W.codeRec_of KX ER) (hb s _ _ _ _ _ ?_))
 refine wpAny_newFunctionEnv Wu (λy hy=>?_) (λh₁ HQ Ln=>⟨lim.fresh _ Ln,codeAny_func ?_⟩) Jk
 ·rw[zF.mp hy];exact Y
 ·have QA:Kept s.heap h₁:=λb o e=>Ln.extBut b o (yK (Heap.lt_size e)) (Heap.get?_push_of_some _ e)
  have O:IsTup h₁ t its:=let ⟨o,e,r⟩:=ht;⟨o,QA _ _ e,r⟩
  have U:IsTup h₁ t2 G:=let ⟨o,e,r⟩:=Qz;⟨o,QA _ _ e,r⟩
  have j1:seqIndex? 1 its.size=some 1:=by generalize its.size=n at Jv;unfold seqIndex?;simp;lia
  have i0:seqIndex? 0 G.size=some 0:=by generalize G.size=n at Tq;unfold seqIndex?;simp;lia
  have i1:seqIndex? 1 G.size=some 1:=by generalize G.size=n at Tq;unfold seqIndex?;simp;lia
  refine wpAny_mono (E:=λ_ _=>False) (Q:=λf s'=>∃a h' Bo,f=.ret (.ref a)/\s'={ s with heap:=h',toks:=Bo }/\Kept s.heap h'/\IsTup h' a #[.int k1 u1,.int k2 u2]) ?_ (λf s' ⟨a,h',Bo,e1,e2,kk,tt⟩=>by subst e1 e2;exact hQ a h' Bo kk tt) λ_ _ h'=>h'.elim
  refine wpAny_execs_cons (wpAny_Return_some (wpAny_Tuple_spliced (Calls.spliced_cons ?_)))
  refine Subscript_ (Subscript_ (wpAny_Name (wpAny_loadName_local Jk Y HQ (v:=.ref t) ?_ (wpAny_Constant_int ?_)) hd))
  ·show List.lookup x [(x,Value.ref t)]=_
   simp [List.lookup]
  refine subscriptTail_builtinR (x:=.ref t2) (s:={ s with heap:=h₁,toks:=s.toks+[(x,Value.ref t)].length+1 }) O.typeIs slot_tuple_getitem.lookup (getItem_tuple (j:=1) O (by decide) (by decide) j1 h1 ⟨rfl,?_⟩)
  refine wpAny_Constant_int (subscriptTail_builtinR (x:=.int k1 u1) (s:={ s with heap:=h₁,toks:=s.toks+[(x,Value.ref t)].length+1+1 }) U.typeIs slot_tuple_getitem.lookup (getItem_tuple (j:=0) U (by decide) (by decide) i0 z0 ⟨rfl,?_⟩))
  refine Calls.spliced_cons ?_
  refine Subscript_ (Subscript_ (wpAny_Name (wpAny_loadName_local Jk Y HQ (v:=.ref t) ?_ (wpAny_Constant_int ?_)) hd))
  ·show List.lookup x [(x,Value.ref t)]=_
   simp [List.lookup]
  refine subscriptTail_builtinR (x:=.ref t2) (s:={ s with heap:=h₁,toks:=s.toks+[(x,Value.ref t)].length+1+1+1 }) O.typeIs slot_tuple_getitem.lookup (getItem_tuple (j:=1) O (by decide) (by decide) j1 h1 ⟨rfl,?_⟩)
  refine wpAny_Constant_int (subscriptTail_builtinR (x:=.int k2 u2) (s:={ s with heap:=h₁,toks:=s.toks+[(x,Value.ref t)].length+1+1+1+1 }) U.typeIs slot_tuple_getitem.lookup (getItem_tuple (j:=1) U (by decide) (by decide) i1 z1 ⟨rfl,?_⟩))
  exact Calls.spliced_nil ⟨(by show 2<=sizeLine;decide),_,_,_,rfl,rfl,λb o e=>Heap.get?_push_of_some _ (QA b o e),IsTup.new _ _⟩
inductive Ga(K:PySem.W.Frag)(Q:VK)(v:V)(H1:Hp):Prop where
 | mk (l xs ks:_) (ui:v=.ref l) (uj:eH K H1 l xs) (zf:ks.length=xs.length) (zq:xs≠[]) (Ai:(∀(j:Nat) x (k:Int×Int),xs[j]?=some x->ks[j]?=some k->∃t ys t2 zs,x=.ref t/\ze K H1 t ys/\ys[1]?=some (.ref t2)/\ze K H1 t2 zs/\zs[0]?=some (.int k.1)/\zs[1]?=some (.int k.2))) (AA:∀x,xs[Ad ks]?=some x->Q x H1):Ga K Q v H1
def MZ(K:PySem.W.Frag)(ta:TE):TE:=fun σ H Q=>ta σ H (Ga K Q)
theorem qz{k:Nat}{f:Addr}{g:Str}{a:Expr}{p kp pk:Pos}(hc:X.calm=true)(hr:Ae k X.A)(hg:Gl X nm)(hm:X.mg nm=none)(hv:bootBuiltins nm=some (.builtin "min"))(Wv:Gl X g)(Lz:X.mg g=some (.ref f))
  (hf:Et X.prog X.w X.K X.A.in1 f) (ha:PE X a ta)
  (hn:nm ≠ "__name__":=by decide) (Dy:(nm==("__debug__":Str))=false:=by decide) (Ww:(g==("__debug__":Str))=false:=by decide)
  (hs:starEach [a] X.env=(false,eval a X.env)::starEach [] X.env:=by rfl) (he:backTo pos (starEach [a] X.env)=(false,eval a X.env)::backTo pos (starEach [] X.env):=by rfl)
  (MF:(backTo pos (starEach [a] X.env)).any (·.1)=false:=by rfl) :
  PE X (.Call (.Name nm p) [a] [⟨some "key",.Name g pk,kp⟩] pos) (MZ X.K ta):=by
 walk_at "G"
 refine callWith_kw (zd (Bk ha a_ hs pos aO s σ H (λvs H1=>match vs with|[v]=>Ga X.K Q v H1|_=>False) I h) ?_) he MF
 rintro us s1 ⟨vs,H1,I1,r,q1⟩
 match vs,r,q1 with
 | [v],r,q1 =>
 obtain⟨l,xs,ks,rfl,hl,O,A5,G,hQ⟩:=q1
 cases r with
 | cons r0 r1 =>
 cases r1
 cases r0
 refine kws_cons (fz I1 Wv Lz (kws_nil ?_) Ww)
 obtain⟨its,rv,U,hz⟩:=I1.list hl
 have B:=rv.length
 have Y:0<its.length:=by rw[←B];exact q9.mpr A5
 refine o_ (KI:=λh i u=>∃a ts,u=.ref a/\IsTup h a ts/\IntsAre ts.toList [(ks.getD i (0,0)).1,(ks.getD i (0,0)).2]) (bt:=λi j=>AI (ks.getD i (0,0)) (ks.getD j (0,0))) (vs:=its) (I1.ok.hd hc) U.isList (kmk_min_key _ _) (λi v hv h tk Q' E' kp fin=>?_) (λh h' i u z tk=>?_) (λi j u v s' Q' E' z1 z2 IS=>?_) (λhp v h' tk hv hk=>?_) Y
 ·have hi:i<xs.length:=by rw[B];exact(zC.mp hv).1
  have ex:xs[i]?=some xs[i]:=zD hi
  have ek:ks[i]?=some ks[i]:=zD (by lia)
  obtain⟨u,hu,ru⟩:=rv.get ex
  rw[hv]at hu
  cases hu
  obtain⟨t,ys,t2,zs,e1,ht,y1,Qz,z0,z1⟩:=G i _ _ ex ek
  rw[e1]at ru
  cases ru
  obtain⟨MH,r2,pl,_⟩:=I1.tuple ht
  obtain⟨Wx,r3,Wy,_⟩:=I1.tuple Qz
  obtain⟨w1,MT,Tr⟩:=r2.get y1
  cases Tr
  obtain⟨w2,Wz,t0,rfl⟩:=r3.get z0
  obtain⟨w3,Ts,t1,rfl⟩:=r3.get z1
  have BF:=(zC.mp MT).1
  have OH:=(zC.mp Ts).1
  have MI:IsTup h t MH.toArray:=let ⟨o,e,r⟩:=pl;⟨o,kp _ _ e,r⟩
  have QB:IsTup h t2 Wx.toArray:=let ⟨o,e,r⟩:=Wy;⟨o,kp _ _ e,r⟩
  refine hf { s1 with heap:=h,toks:=tk } t t2 _ _ _ _ _ _ _ _ (I1.Bt.keeps kp) (I1.nolimit.keeps kp) MI (by rw[zP];lia) (by simpa using MT) QB (by rw[zP];lia) (by simpa using Wz) (by simpa using Ts) (λa h' Bo k' tt=>?_)
  refine fin _ h' Bo k' ⟨a,_,rfl,tt,?_⟩
  have eg:ks.getD i (0,0)=ks[i]:=by rw[zA,ek];rfl
  rw[eg]
  exact .cons _ t0 (.cons _ t1 .nil)
 walk_at "P"
 ·have hb:Ad ks=argBest (λi j=>AI (ks.getD i (0,0)) (ks.getD j (0,0))) (its.length-1):=by unfold Ad;rw[O,B]
  rw[←hb]at hv
  have hi:Ad ks<xs.length:=by rw[B];exact(zC.mp hv).1
  have ex:xs[Ad ks]?=some xs[Ad ks]:=zD hi
  obtain⟨u,hu,ru⟩:=rv.get ex
  rw[hv]at hu
  cases hu
  exact⟨_,H1,I1.kept (t':=tk) hk,ru,hQ _ ex⟩
end L2
namespace L2
open PySem PyProof.Rows
section
variable{R:Result->Shared->Prop}{l:Addr}{KI:Heap->Nat->Value->Prop}{bt:Nat->Nat->Bool}
end
end L2
namespace L2
open PySem PySem.Spec PyProof.Rows
section
variable{cl:List (Str×Addr)}{x0:Str}{fr:List Str}
end
section
variable{ifs:List Expr}{cl:List (Str×Addr)}{x0:Str}{fr:List Str}{g:TG}
end
theorem gZ(hK:X.K=K):Kh X "str.join" (rJoin K):=by subst hK;exact fy
inductive M0(x:V)(vs:List V)(H:Hp)(Q:VK):Prop where
 | mk (l:Addr) (ns:List Int) (z:Int) (j:Nat) (ui:x=.ref l) (uj:vs=[.int z]) (zf:H l=some (.lst (ns.map V.int))) (zq:ns[j]?=some z) (Ai:∀i,i<j->ns[i]?≠some z) (AA:j<2 ^ 31) (Bl:Q (.int ((j:Nat):Int)) H):M0 x vs H Q
def WA(z:Int):Value->Bool
 | .int n _=>n==z
 | _=>false
theorem sV:Ot X "list.index" M0:=by
 intro aO s σ H x vs v us Q I Y rv h
 obtain⟨l,ns,z,j,rfl,rfl,hH,hj,hn,hb,q⟩:=h
 cases Y
 obtain⟨u,rfl,ru⟩:=rv.one
 obtain⟨t,rfl⟩:=ru
 obtain⟨z0,its,n,r,hl,e⟩:=I.Ep hH
 have at_:∀(i:Nat)(m:Int),ns[i]?=some m->∃t,its[i]?=some (.int m t):=λi m hm=>by
  obtain⟨w,hw,tw,rfl⟩:=r.get (i:=i) (x:=V.int m) (by rw[zG,hm];rfl)
  exact⟨tw,hw⟩
 have ls:ns.length=its.length:=by have:=r.length;rw[zB]at this;exact this
 obtain⟨tj,B⟩:=at_ j z hj
 have O:=(zC.mp B).1
 refine call_meets F.slot_list_index ⟨_,e,rfl⟩ F.entry_list_index (F.args_list_index_2 _ _)
  (MeetsSeq.list_index l its.toArray n (.int z t) (WA z) (λy hy=>?_) j (by rw[zP];exact O) (by lia) ?_ (λm hm mj=>?_)) ⟨e,?_⟩
 ·obtain⟨i,hi⟩:=yS (List.mem_toArray.mp hy)
  obtain⟨m,hm⟩:∃m,ns[i]?=some m:=⟨_,zD (by have:=(zC.mp hi).1;lia)⟩
  obtain⟨tm,G⟩:=at_ i m hm
  rw[hi]at G
  cases G
  have:=MeetsSeq.EqGives.int m z tm t
  exact this
 ·rw[xO,(zC.mp B).2]
  exact beq_self_eq_true _
 ·rw[zP]at hm
  obtain⟨y,hy⟩:∃y,ns[m]?=some y:=⟨_,zD (by lia)⟩
  obtain⟨ty,U⟩:=at_ m y hy
  rw[xO,(zC.mp U).2]
  show(y==z)=false
  exact beq_eq_false_iff_ne.mpr λw=>hn m mj (by rw[hy,w])
 ·exact⟨.int _,_,I.tok _,⟨_,rfl⟩,q⟩
end L2
namespace Oc
end Oc
namespace Oc
open PySem L2
theorem QC{Q:VK}(h:H p=some (.lst xs))(hv:xs[j]?=some v)(q:Q v H):Ib K (.ref p) (.int (j:Int)) H Q:=⟨p,xs,_,v,rfl,rfl,eH.of h,d5 hv,q⟩
end Oc
namespace L2
open PySem
end L2
namespace Oc
open PySem L2
def top(i:Nat):Stmt:=PySem.Challenge.pw_ownclocks_k34_whole_from_text.main.body.getD i (.Pass ⟨0,0,0,0⟩)
theorem Tt:(2:Int) ^ 64=18446744073709551616:=by decide
theorem BL:(2:Int) ^ 62=4611686018427387904:=by decide
structure Txt(K:PySem.W.Frag)(mg:Str->Option Value):Prop where
 Cc:mg "tuple"=none
 IL:mg "len"=none
 zt:mg "range"=none
 KL:mg "list"=none
 BM:mg "isinstance"=none
 QD:mg "bool"=none
 Jw:mg "int"=none
 Gb:mg "any"=none
 EX:mg "min"=none
 B1:mg "enumerate"=none
 Gd:mg "sorted"=none
 M3:mg "sum"=none
 Jx:mg "all"=none
 C8:mg "str"=none
 Jy:mg "zip"=none
abbrev fc:=Int×Int×Int
def Dm(t:fc):List V:=[.int t.1,.int t.2.1,.int t.2.2]
def DQ(t:fc):PyData:=.tuple [.int t.1,.int t.2.1,.int t.2.2]
abbrev EY:=Str×Option Int
def Ge:EY->List V
 | (k,none)=>[.str k]
 | (k,some n)=>[.str k,.int n]
set_option genInjectivity false in
set_option genSizeOf false in
structure Wk where
 st:List EY
 be:List fc
 fe:List fc
def DR(s:EY):Prop:=(∃n,s=(("relay":Str),some n)/\-1000000000<=n/\n<=1000000000)\/s=(("sorter":Str),none)\/(∃n,s=(("thinner":Str),some n)/\2<=n/\n<=9)\/s=(("joiner":Str),none)\/s=(("sink":Str),none)
structure Wk.Ok(W:Wk):Prop where
 s1:1<=W.st.length
 s8:W.st.length<=8
 BN:W.be.length<=12
 DA:W.fe.length<=60
 Ea:∀s∈W.st,DR s
 EK:∀t∈W.be,0<=t.1/\t.1<W.st.length/\0<=t.2.1/\t.2.1<W.st.length/\1<=t.2.2/\t.2.2<=9
 EZ:∀t∈W.fe,0<=t.1/\t.1<W.st.length/\0<=t.2.1/\t.2.1<=50/\-1000000000<=t.2.2/\t.2.2<=1000000000
inductive d4(H:Hp)(x:V)(t:fc):Prop where
 | mk (p:_) (ui:x=.ref p) (uj:H p=some (.tup (Dm t))):d4 H x t
inductive zu(H:Hp)(x:V)(s:EY):Prop where
 | mk (p:_) (ui:x=.ref p) (uj:H p=some (.tup (Ge s))):zu H x s
theorem d4.same(s:c0 H H'){x:V}{t:fc}(h:d4 H x t):d4 H' x t:=let ⟨p,e,q⟩:=h;⟨p,e,s _ _ q⟩
theorem zu.same(s:c0 H H'){x:V}{t:EY}(h:zu H x t):zu H' x t:=let ⟨p,e,q⟩:=h;⟨p,e,s _ _ q⟩
structure B9(H:Hp)(s b f:Addr)(W:Wk)(xs ys zs:List V):Prop where
 hs:H s=some (.lst xs)
 hb:H b=some (.lst ys)
 hf:H f=some (.lst zs)
 ps:Paired (zu H) xs W.st
 pb:Paired (d4 H) ys W.be
 pf:Paired (d4 H) zs W.fe
theorem bf{F G:α->β->Prop}(h:∀a b,F a b->G a b){l:List α}{m:List β}(p:Paired F l m):Paired G l m:=L2.Paired.HU p h
theorem B9.same{s f:Addr}{W:Wk}(e:c0 H H')(h:B9 H s b f W xs ys zs):B9 H' s b f W xs ys zs :=
 ⟨e _ _ h.hs,e _ _ h.hb,e _ _ h.hf,bf (λ_ _=>zu.same e) h.ps,bf (λ_ _=>d4.same e) h.pb,bf (λ_ _=>d4.same e) h.pf⟩
structure Ag(H:Hp)(w:Addr)(W:Wk):Prop where
 ex:∃s b f xs ys zs,H w=some (.tup [.ref s,.ref b,.ref f])/\B9 H s b f W xs ys zs
theorem Ag.same{w:Addr}{W:Wk}(e:c0 H H')(h:Ag H w W):Ag H' w W:=by
 obtain⟨s,b,f,xs,ys,zs,h1,h2⟩:=h.ex
 exact⟨s,b,f,xs,ys,zs,e _ _ h1,h2.same e⟩
theorem dn:∀{L:List Cell},(∀c∈L,H c.1=some c.2)->∃B:List Cell,Hs H B/\∀c∈L,c∈B
 | [],_=>⟨[],⟨List.nodup_nil,λ_ h=>absurd h zI⟩,λ_ h=>absurd h zI⟩
 | c::L,h=>by
  obtain⟨B,h1,h2⟩:=dn (L:=L) λd hd=>h d (zL _ hd)
  have hc:=h c zH
  by_cases hm:c.1∈B.map Prod.fst
  ·obtain⟨d,hd,e⟩:=yF.mp hm
   have G:=h1.2 d hd
   rw[e,hc]at G
   have:d=c:=Prod.ext e (Option.some.inj G).symm
   refine⟨B,h1,λx hx=>?_⟩
   rcases zO.mp hx with r|r
   ·rw[r,←this];exact hd
   ·exact h2 x r
  ·refine⟨c::B,⟨by rw[yM,qZ];exact⟨hm,h1.1⟩,λx hx=>?_⟩,λx hx=>?_⟩
   ·rcases zO.mp hx with r|r
    ·rw[r];exact hc
    ·exact h1.2 x r
   ·rcases zO.mp hx with r|r
    ·rw[r];exact zH
    ·exact zL _ (h2 x r)
theorem c_{F:Hp->V->α->Prop}(hF:∀x a,F H x a->∃c:Cell,H c.1=some c.2/\∀H':Hp,H' c.1=some c.2->F H' x a):∀{xs:List V}{as:List α},Paired (F H) xs as->∃L:List Cell,(∀c∈L,H c.1=some c.2)/\∀H':Hp,(∀c∈L,H' c.1=some c.2)->Paired (F H') xs as
 | _,_,.nil=>⟨[],λ_ h=>absurd h zI,λ_ _=>.nil⟩
 | _,_,.cons p r=>by
  obtain⟨c,h1,h2⟩:=hF _ _ p
  obtain⟨L,h3,h4⟩:=c_ hF r
  refine⟨c::L,λx hx=>?_,λH' h=>.cons (h2 H' (h c zH)) (h4 H' λx hx=>h x (zL _ hx))⟩
  rcases zO.mp hx with e|e
  ·rw[e];exact h1
  ·exact h3 x e
theorem Ag.KN{w:Addr}{W:Wk}(h:Ag H w W):∃(G:List Cell)(s b f:Addr)(xs ys zs:List V),Hc H [G]/\∀H':Hp,(∀c∈G,H' c.1=some c.2)->H' w=some (.tup [.ref s,.ref b,.ref f])/\B9 H' s b f W xs ys zs:=by
 obtain⟨s,b,f,xs,ys,zs,h1,h2⟩:=h.ex
 obtain⟨U,a1,b1⟩:=c_ (F:=zu) (λx a ⟨p,e,hp⟩=>⟨(p,_),hp,λH' h'=>⟨p,e,h'⟩⟩) h2.ps
 obtain⟨L2,a2,b2⟩:=c_ (F:=d4) (λx a ⟨p,e,hp⟩=>⟨(p,_),hp,λH' h'=>⟨p,e,h'⟩⟩) h2.pb
 obtain⟨Y,a3,b3⟩:=c_ (F:=d4) (λx a ⟨p,e,hp⟩=>⟨(p,_),hp,λH' h'=>⟨p,e,h'⟩⟩) h2.pf
 obtain⟨O,c1,B⟩:=dn (H:=H) (L:=(w,.tup [.ref s,.ref b,.ref f])::(s,.lst xs)::(b,.lst ys)::(f,.lst zs)::(U++(L2++Y))) (λc hc=>by
  rcases zO.mp hc with e|hc
  ·rw[e];exact h1
  rcases zO.mp hc with e|hc
  ·rw[e];exact h2.hs
  rcases zO.mp hc with e|hc
  ·rw[e];exact h2.hb
  rcases zO.mp hc with e|hc
  ·rw[e];exact h2.hf
  rcases zW.mp hc with e|hc
  ·exact a1 c e
  rcases zW.mp hc with e|e
  ·exact a2 c e
  ·exact a3 c e)
 refine⟨O,s,b,f,xs,ys,zs,by show Hs H [O].flatten;rw[y7];exact c1,λH' h'=>⟨?_,?_,?_,?_,?_,?_,?_⟩⟩
 ·exact h' _ (B _ zH)
 ·exact h' _ (B _ (zL _ zH))
 ·exact h' _ (B _ (zL _ (zL _ zH)))
 ·exact h' _ (B _ (zL _ (zL _ (zL _ zH))))
 ·exact b1 H' λc hc=>h' c (B c (zL _ (zL _ (zL _ (zL _ (yQ _ hc))))))
 ·exact b2 H' λc hc=>h' c (B c (zL _ (zL _ (zL _ (zL _ (zU _ (yQ _ hc)))))))
 ·exact b3 H' λc hc=>h' c (B c (zL _ (zL _ (zL _ (zL _ (zU _ (zU _ hc)))))))
theorem d4.dt{x:V}{t:fc}(h:d4 H x t):Dt K H 1 x (DQ t):=by
 obtain⟨p,rfl,e⟩:=h
 exact .tup (ze.of e) (.cons (.int _ _) (.cons (.int _ _) (.cons (.int _ _) (.nil _))))
def idx{α:Type}(f:α->Bool):Nat->List α->List Int
 | _,[]=>[]
 | k,t::r=>if f t then (k:Int)::idx f (k+1) r else idx f (k+1) r
theorem lT(f:α->Bool):∀(l:List α)(k:Nat)(t:α),idx f k (l++[t])=idx f k l++(if f t then [((k+l.length:Nat):Int)]else [])
 | [],k,t=>by
  show idx f k [t]=[]++_
  unfold idx
  split <;>simp [idx]
 | x::l,k,t=>by
  show idx f k (x::(l++[t]))=idx f k (x::l)++_
  have ih:=lT f l (k+1) t
  have e:k+1+l.length=k+(x::l).length:=by rw[yD];lia
  rw[e]at ih
  unfold idx
  by_cases h:f x=true
  ·rw[if_pos h,if_pos h,ih];rfl
  ·rw[if_neg h,if_neg h,ih]
theorem fh(f:α->Bool){l:List α}{t:α}(h:l[i]?=some t):idx f 0 (l.take (i+1))=idx f 0 (l.take i)++(if f t then [(i:Int)]else []):=by
 have hi:=(zC.mp h).1
 rw[yR,h]
 show idx f 0 (l.take i++[t])=_
 rw[lT,yA,qU (qP hi),jD]
theorem df(f:α->Bool):∀(l:List α)(k:Nat),(idx f k l).length<=l.length
 | [],_=>zJ _
 | x::l,k=>by
  have:=df f l (k+1)
  unfold idx
  split
  ·rw[yD,yD];lia
  ·rw[yD];lia
def Wk.wy(W:Wk)(s:Int):List Int:=(if W.fe.any (λt=>t.1==s)then [-1]else [])++idx (λ(t:fc)=>t.2.1==s) 0 W.be
def Wk.lv(W:Wk)(s:Int):List Int:=idx (λ(t:fc)=>t.1==s) 0 W.be
theorem _root_.PySem.Paired.gt{F:α->β->Prop}{l₁:List α}{l₂:List β}(h:Paired F l₁ l₂){a:α}(e:l₁[i]?=some a):∃b,l₂[i]?=some b/\F a b:=PySem.Paired.getL h e
inductive Eu(vs:List V)(H:Hp)(Q:VK)(wc:XK):Prop where
 | mk (w:Addr) (W:Wk) (s:Int) (ui:vs=[.ref w,.int s]) (uj:Ag H w W) (zf:W.Ok) (zq:∀(p:Addr)(H':Hp),H p=none->H' p=some (.lst ((W.wy s).map V.int))->c0 H H'->Q (.ref p) H'):Eu vs H Q wc
inductive Ew(vs:List V)(H:Hp)(Q:VK)(wc:XK):Prop where
 | mk (w:Addr) (W:Wk) (s:Int) (ui:vs=[.ref w,.int s]) (uj:Ag H w W) (zf:W.Ok) (zq:∀(p:Addr)(H':Hp),H p=none->H' p=some (.lst ((W.lv s).map V.int))->c0 H H'->Q (.ref p) H'):Ew vs H Q wc
theorem aV{f:Addr}{tk:Tok}(F:Ac K "ways" "ways" (top 20) f fd)(T:Txt K mg)(B:mg "DOOR"=some (.int (-1) tk)):mu P w K mg base Aa 1 f fd ["works","station"] Eu:=by
 exists ["works","station","belts","fed"]
 obtain⟨w,W,z,rfl,hw,ok,q⟩:=h
 obtain⟨sa,ba,fa,xs,ys,zs,h1,h2⟩:=hw.ex
 refine⟨_,(Dd (i:=2) nd rfl (Or.inl rfl) rfl (own:=["number","belt"]) (fr:=["station"]) (js:=[1]) (by and_intros) (nV rfl T.B1 (({0}<*>bh)>>a_)) (λ_ _ _ _=>(jy (K:=K) (n:=2) rfl rfl (bJ (fB (i:=0) (show List.Nodup (["number","belt","station"]:List Str)from by decide +kernel) rfl (by nofun)) (bJ (fB (i:=1) (show List.Nodup (["number","belt","station"]:List Str)from by decide +kernel) rfl (by nofun)) dW)))) (λ_ _ _ _=>(cB (bp bU ({1}<*>bh) {2} (bq _)))) (λ_ _ _ _=>{0})<|>(3>>=z_ (fY rfl) (by rfl) T.Gb mN ((["feed"]^^^["station"]^^^[1]^^^(bx (K:=K) rfl ({0}<*>bh))^^^bB^^^(cF bU ({0}<*>bh) {1} (bq _)))>>a_))<|>(~~~(c6 (dk {3}) (bu dF (@bR _ _ _ _ (cK (v:=.int (-1)) (by rfl) B ⟨_,rfl⟩>>a_)) {2}) {2}))),?_⟩
 refine⟨_,rfl,(h1<<<1>>>⟨ba,rfl,⟨_,eH.of h2.hb⟩,λD nD=>?_⟩)⟩
 have lb:=h2.pb.length
 have BN:=ok.BN
 refine iR (a:=ba) (xs:=ys) (λi H4=>c0 H H4/\H4 D=some (.lst ((idx (λ(t:fc)=>t.2.1==z) 0 (W.be.take i)).map V.int))) ⟨c0.new nD,bg⟩ (λi H4 _ p=>eH.of (p.1 _ _ h2.hb)) ?_ ?_
 ·rintro i x H4 m Wf hx ⟨s4,h4⟩ nx pp np
  obtain⟨t,ht,G⟩:=h2.pb.gt hx
  obtain⟨a0,rfl,ha⟩:=G
  have s5:c0 H4 (upd H4 pp (.tup [.int i,.ref a0])):=c0.new np
  refine⟨pp,_,rfl,ze.of bg,rfl,_,_,rfl,_,_,rfl,rfl,?_⟩
  refine⟨_,rfl,(s5 _ _ (s4 _ _ ha)<<<1>>>⟨_,rfl,rfl,_,rfl,?_⟩)⟩
  have Y:decide (V.int t.2.1=V.int z)=(t.2.1==z):=bT
  have O:=fh (λ(t:fc)=>t.2.1==z) ht
  walk_at "S"
  ·rw[Y]at hb
   refine⟨_,rfl,_,s5 _ _ h4,bo (by rw[zB];have:=df (λ(t:fc)=>t.2.1==z) (W.be.take i) 0;rw[yA]at this;lia),nx _ ⟨?_,?_⟩⟩
   ·exact((s4.trans s5).upd nD)
   ·rw[bg,O,hb,if_pos rfl,zK];rfl
  ·rw[Y]at hb
   refine nx _ ⟨s4.trans s5,?_⟩
   rw[O,hb,if_neg zS,zQ]
   exact s5 _ _ h4
 ·rintro H4 ⟨s4,h4⟩
  rw[lb,zY]at h4
  refine⟨_,rfl,(s4 _ _ h1<<<2>>>⟨fa,rfl,⟨_,eH.of (s4 _ _ h2.hf)⟩,λD2 U=>?_⟩)⟩
  have lf:=h2.pf.length
  have DA:=ok.DA
  refine bA (a:=fa) (xs:=zs) (λi H5=>c0 H4 H5/\H5 D2=some (.lst (((W.fe.take i).map λ(t:fc)=>t.1==z).map V.bl))) ⟨c0.new U,bg⟩ (λi H5 _ p=>eH.of (p.1 _ _ (s4 _ _ h2.hf))) ?_ ?_
  ·rintro i x H5 m Wf hx ⟨s5,h5⟩ nx
   obtain⟨t,ht,G⟩:=h2.pf.gt hx
   obtain⟨a0,rfl,ha⟩:=G
   have hi:=(zC.mp ht).1
   refine⟨_,rfl,(s5 _ _ (s4 _ _ ha)<<<0>>>⟨_,rfl,rfl,_,h5,bo (by rw[zB,zB,yA];lia),nx _ ⟨s5.upd U,?_⟩⟩)⟩
   rw[bg,yR,ht,zK,zK]
   show some (HO.lst (_++[V.bl (decide (V.int t.1=V.int z))]))=some (HO.lst (_++[V.bl (t.1==z)]))
   rw[bT]
  ·rintro H5 ⟨s5,h5⟩
   rw[lf,zY]at h5
   refine⟨D2,_,rfl,eH.of h5,?_⟩
   have ea:((W.fe.map λ(t:fc)=>t.1==z).any id)=W.fe.any λt=>t.1==z:=by rw[vL];rfl
   refine⟨_,rfl,_,rfl,?_⟩
   walk_at "S"
   ·rw[ea]at hb
    refine⟨(by show 1<=sizeLine;decide),λl1 n1=>?_⟩
    have s6:c0 H5 (upd H5 l1 (.lst [V.int (-1)])):=c0.new n1
    refine⟨_,rfl,l1,D,_,_,rfl,rfl,bg,s6 _ _ (s5 _ _ h4),?_,λc nc=>?_⟩
    ·rw[zB]
     have:=df (λ(t:fc)=>t.2.1==z) W.be 0
     exact qP (bo (by show 1+_<=1000;lia))
    ·refine q c _ (((s4.trans s5).trans s6).free nc) ?_ (((s4.trans s5).trans s6).upd (((s4.trans s5).trans s6).free nc))
     rw[bg]
     unfold Wk.wy
     rw[hb,if_pos rfl,zK]
     rfl
   ·rw[ea]at hb
    refine⟨_,rfl,q D _ nD ?_ (s4.trans s5)⟩
    unfold Wk.wy
    rw[hb,if_neg zS,qI]
    exact s5 _ _ h4
theorem t_{f:Addr}(F:Ac K "leaving" "leaving" (top 23) f fd)(T:Txt K mg):mu P w K mg base Aa 1 f fd ["works","station"] Ew:=by
 exists ["works","station"]
 obtain⟨w,W,z,rfl,hw,ok,q⟩:=h
 obtain⟨sa,ba,fa,xs,ys,zs,h1,h2⟩:=hw.ex
 refine⟨_,(~~~(EJ (own:=["number","belt"]) (fr:=["station"]) (js:=[1]) (by and_intros) (nV rfl T.B1 (({0}<*>bh)>>a_)) (λ_ _ _ _=>(jy (K:=K) (n:=2) rfl rfl (bJ (fB (i:=0) (show List.Nodup (["number","belt","station"]:List Str)from by decide +kernel) rfl (by nofun)) (bJ (fB (i:=1) (show List.Nodup (["number","belt","station"]:List Str)from by decide +kernel) rfl (by nofun)) dW)))) (λ_ _ _ _=>(cB (bp bU ({1}<*>bh) {2} (bq _)))) (λ_ _ _ _=>{0}))),?_⟩
 refine⟨_,rfl,(h1<<<1>>>⟨ba,rfl,⟨_,eH.of h2.hb⟩,λD nD=>?_⟩)⟩
 have U:=h2.pb.length
 have BN:=ok.BN
 refine iR (a:=ba) (xs:=ys) (λi H4=>c0 H H4/\H4 D=some (.lst ((idx (λ(t:fc)=>t.1==z) 0 (W.be.take i)).map V.int))) ⟨c0.new nD,bg⟩ (λi H4 _ p=>eH.of (p.1 _ _ h2.hb)) ?_ ?_
 ·rintro i x H4 m Wf hx ⟨s4,h4⟩ nx pp Y
  obtain⟨t,ht,G⟩:=h2.pb.gt hx
  obtain⟨a0,rfl,ha⟩:=G
  have s5:c0 H4 (upd H4 pp (.tup [.int i,.ref a0])):=c0.new Y
  refine⟨pp,_,rfl,ze.of bg,rfl,_,_,rfl,_,_,rfl,rfl,?_⟩
  refine⟨_,rfl,(s5 _ _ (s4 _ _ ha)<<<0>>>⟨_,rfl,rfl,_,rfl,?_⟩)⟩
  have O:decide (V.int t.1=V.int z)=(t.1==z):=bT
  have B:=fh (λ(t:fc)=>t.1==z) ht
  walk_at "S"
  ·rw[O]at hb
   refine⟨_,rfl,_,s5 _ _ h4,bo (by rw[zB];have:=df (λ(t:fc)=>t.1==z) (W.be.take i) 0;rw[yA]at this;lia),nx _ ⟨?_,?_⟩⟩
   ·exact((s4.trans s5).upd nD)
   ·rw[bg,B,hb,if_pos rfl,zK];rfl
  ·rw[O]at hb
   refine nx _ ⟨s4.trans s5,?_⟩
   rw[B,hb,if_neg zS,zQ]
   exact s5 _ _ h4
 ·rintro H4 ⟨s4,h4⟩
  rw[U,zY]at h4
  exact q D _ nD h4 s4
end Oc
variable{t:Oc.fc}{W:Oc.Wk}{ge:List (List Oc.fc)}{rest:List Oc.fc}
namespace Oc
theorem bI{l:List α}{x:α}(h:l[i]?=some x):l.take (i+1)=l.take i++[x]:=by rw[yR,h];rfl
end Oc
namespace Oc
open PySem L2
inductive Dn(K:PySem.W.Frag)(vs:List V)(H:Hp)(Q:VK)(wc:XK):Prop where
 | mk (a:Addr) (ns:List Int) (k:Int) (ui:vs=[.ref a,.int k]) (uj:eH K H a (ns.map V.int)) (zf:0<=k) (zq:∀r:Int,Q (.int r) H):Dn K vs H Q wc
inductive E1(vs:List V)(H:Hp)(Q:VK)(wc:XK):Prop where
 | mk (c k:Int) (ui:vs=[.int c,.int k]) (uj:∀r:Int,0<=r->r<2147483647->Q (.int r) H):E1 vs H Q wc
inductive Gf(vs:List V)(H:Hp)(Q:VK)(wc:XK):Prop where
 | mk (c:Int) (ui:vs=[.int c]) (uj:∀(p:Addr)(s:EY)(H':Hp),H' p=some (.tup (Ge s))->DR s->c0 H H'->Q (.ref p) H'):Gf vs H Q wc
inductive Ex(K:PySem.W.Frag)(vs:List V)(H:Hp)(Q:VK)(wc:XK):Prop where
 | mk (a:Addr) (ns:List Int) (n:Int) (ui:vs=[.ref a,.int n]) (uj:eH K H a (ns.map V.int)) (zf:0<n) (zq:n<=8) (Ai:∀(p:Addr)(zs:List V)(fe:List fc)(H':Hp),H p=none->H' p=some (.lst zs)->Paired (d4 H') zs fe->fe.length<=12->(∀t∈fe,0<=t.1/\t.1<n/\0<=t.2.1/\t.2.1<=50/\-1000000000<=t.2.2/\t.2.2<=1000000000)->c0 H H'->Q (.ref p) H'):Ex K vs H Q wc
inductive Gg(K:PySem.W.Frag)(vs:List V)(H:Hp)(Q:VK)(wc:XK):Prop where
 | mk (a:Addr) (ns:List Int) (ui:vs=[.ref a]) (uj:eH K H a (ns.map V.int)) (zf:∀(w:Addr)(W:Wk)(H':Hp),Ag H' w W->W.Ok->W.fe.length<=7->c0 H H'->Q (.ref w) H'):Gg K vs H Q wc
variable{s:Nat}{u:Int}{vs:List (List V)}{us:List V}{re:List (List fc)}
theorem dN{p:α->Prop}{l:List α}{x:α}(h:∀t∈l,p t)(hx:p x):∀t∈l++[x],p t:=λu hu=>by
 rcases zW.mp hu with q|q
 ·exact h u q
 ·rw[zF.mp q];exact hx
theorem rj(ns:List Int)(lo hi:Option Int):∃ms:List Int,AL (ns.map V.int) lo hi=ms.map V.int/\ms.length<=ns.length:=by
 refine⟨(ns.drop (HT.An (ns.map V.int).length 0 lo)).take (HT.An (ns.map V.int).length (ns.map V.int).length hi-HT.An (ns.map V.int).length 0 lo),?_,?_⟩
 ·unfold AL
  rw[vA,vB]
 ·exact yE (List.length_take_le' _ _) (by rw[jN];exact vU _ _)
theorem bv{F:α->β->Prop}:∀{a:List α}{b:List β}{c:List α}{d:List β},Paired F a b->Paired F c d->Paired F (a++c) (b++d)
 | _,_,_,_,.nil,h=>h
 | _,_,_,_,.cons p r,h=>.cons p (bv r h)
theorem d4.keep(e:H a=some (.lst xs)){x:V}(h:d4 H x t):d4 (upd H a (.lst ys)) x t:=by
 obtain⟨p,rfl,q⟩:=h
 exact⟨p,rfl,by rw[bj (bK q e (by intro z;cases z))];exact q⟩
theorem zu.keep(e:H a=some (.lst xs)){x:V}{t:EY}(h:zu H x t):zu (upd H a (.lst ys)) x t:=by
 obtain⟨p,rfl,q⟩:=h
 exact⟨p,rfl,by rw[bj (bK q e (by intro z;cases z))];exact q⟩
theorem u_{f:Addr}(F:Ac K "_law_cell_at" "_law_cell_at" (top 48) f fd)(T:Txt K mg):mu P w K mg base Aa 1 f fd ["script","k"] (Dn K):=by
 exists ["script","k"]
 obtain⟨a,ns,k,rfl,hS,B,q⟩:=h
 refine⟨_,(bL (bp vj {1} ‹{0}› (bq _)) (~~~({0}<*{1})) bz<|>(~~~bh)),?_⟩
 refine⟨_,rfl,_,rfl,a,_,rfl,.inl hS,?_⟩
 rw[zB]
 infer_instance
 refine CT (λh=>?_) (λ_=>?_)
 ·have h':k<(ns.length:Int):=of_decide_eq_true h
  obtain⟨j,hj⟩:∃j:Nat,k=(j:Int):=⟨k.toNat,by lia⟩
  obtain⟨z,hz⟩:∃z,ns[j]?=some z:=⟨ns[j]'(by lia),zD _⟩
  exact⟨_,rfl,_,rfl,_,_,_,_,rfl,rfl,hS,(ja hj hz),q z⟩
 ·exact q 0
theorem wJ{f:Addr}(F:Ac K "_law_mixed" "_law_mixed" (top 49) f fd):mu P w K mg base Aa 1 f fd ["cell","k"] E1:=by
 exists ["cell","k","found"]
 obtain⟨c,k,rfl,q⟩:=h
 refine⟨_,((2>>=bu bN (bu bQ (bu bQ (bu bN {0} bh) (bu jw bh {1})) bh) bh)<|>(2>>=bu bQ (bu bN (bu jw {2} {2}) bh) (bu cP {2} bh))<|>(~~~(bu bN (bu jw {2} bh) bh))),?_⟩
 infer_instance
 generalize h1:(c%2147483629+101*k+7)%2147483629=n1
 have a1:0<=n1:=by rw[←h1];exact qC _ (by decide)
 have b1:n1<2147483629:=by rw[←h1];exact y3 _ (by decide)
 refine⟨_,_,rfl,rfl,.inl ⟨by rw[Tt];lia,by rw[Tt];lia⟩,?_⟩
 infer_instance
 exact q _ (qC _ (by decide)) (y3 _ (by decide))
theorem yd{f:Addr}(F:Ac K "_law_station" "_law_station" (top 50) f fd):mu P w K mg base Aa 1 f fd ["cell"] Gf:=by
 exists ["cell","number"]
 obtain⟨c,rfl,q⟩:=h
 refine⟨_,((1>>=bu cP {0} bh)<|>bL (bp bU (bu bN {0} bh) bh (bq _)) (~~~(@bF _ _ _ _ _ (bE>>bu gf (bu bN {1} bh) bh>>a_))) bz<|>bL (bp bU (bu bN {0} bh) bh (bq _)) (~~~(@bF _ _ _ _ _ (bE>>bu bQ bh (bu bN {1} bh)>>a_))) bz<|>(~~~(@bR _ _ _ _ (@bF _ _ _ _ _ (bE>>a_)>>@bF _ _ _ _ _ (bE>>a_)>>@bF _ _ _ _ _ (bE>>a_)>>a_)<*bu gf (bu bN {0} bh) bh))),?_⟩
 infer_instance
 refine Fd (λ_=>?_) (λh0=>?_)
 ·refine⟨_,rfl,_,_,rfl,rfl,(show(0:Int)<2001 by decide),_,_,rfl,rfl,(by show 2<=sizeLine;decide),λp Y=>?_⟩
  exact q p ("relay",some (c / 5%2001-1000)) _ bg (.inl ⟨_,rfl,by lia,by lia⟩) (c0.new Y)
 infer_instance
 refine Fd (λ_=>?_) (λh1=>?_)
 ·refine⟨_,rfl,_,_,rfl,rfl,(show(0:Int)<3 by decide),_,_,rfl,rfl,(by show 2<=sizeLine;decide),λp Y=>?_⟩
  exact q p ("thinner",some (2+c / 5%3)) _ bg (.inr (.inr (.inl ⟨_,rfl,by lia,by lia⟩))) (c0.new Y)
 have k0:c%5≠0:=λz=>by rw[bT,z]at h0;exact absurd h0 (by decide)
 have k1:c%5≠1:=λz=>by rw[bT,z]at h1;exact absurd h1 (by decide)
 refine⟨(by show 1<=sizeLine;decide),λB n1=>⟨(by show 1<=sizeLine;decide),λt2 n2=>⟨(by show 1<=sizeLine;decide),λG n3=>⟨(by show 3<=sizeLine;decide),λtl nl=>?_⟩⟩⟩⟩
 have s1:c0 H (upd H B (.tup [.str "sorter"])):=c0.new n1
 have g1:(upd H B (.tup [.str "sorter"])) B=some (.tup [.str "sorter"]):=bg
 generalize (upd H B (.tup [.str "sorter"]))=H1 at s1 g1 n2 n3 nl ⊢
 have s2:c0 H1 (upd H1 t2 (.tup [.str "joiner"])):=c0.new n2
 have g2:(upd H1 t2 (.tup [.str "joiner"])) t2=some (.tup [.str "joiner"]):=bg
 generalize (upd H1 t2 (.tup [.str "joiner"]))=H2 at s2 g2 n3 nl ⊢
 have O:c0 H2 (upd H2 G (.tup [.str "sink"])):=c0.new n3
 have g3:(upd H2 G (.tup [.str "sink"])) G=some (.tup [.str "sink"]):=bg
 generalize (upd H2 G (.tup [.str "sink"]))=H3 at O g3 nl ⊢
 have s4:c0 H3 (upd H3 tl (.lst [.ref B,.ref t2,.ref G])):=c0.new nl
 have U:(upd H3 tl (.lst [.ref B,.ref t2,.ref G])) tl=some (.lst [.ref B,.ref t2,.ref G]):=bg
 generalize (upd H3 tl (.lst [.ref B,.ref t2,.ref G]))=H4 at s4 U ⊢
 have S:=((s1.trans s2).trans O).trans s4
 refine⟨_,rfl,_,_,rfl,rfl,(show(0:Int)<5 by decide),_,_,rfl,rfl,?_⟩
 have hm:=qC c (show(5:Int)≠0 by decide)
 have hM:=y3 c (show(0:Int)<5 by decide)
 have hc:c%5-2=((0:Nat):Int)\/c%5-2=((1:Nat):Int)\/c%5-2=((2:Nat):Int):=by lia
 rcases hc with hc|hc|hc
 ·rw[hc]
  exact QC (j:=0) U rfl (q B ("sorter",none) _ ((s2.trans O).trans s4 _ _ g1) (.inr (.inl rfl)) S)
 ·rw[hc]
  exact QC (j:=1) U rfl (q t2 ("joiner",none) _ (O.trans s4 _ _ g2) (.inr (.inr (.inr (.inl rfl)))) S)
 ·rw[hc]
  exact QC (j:=2) U rfl (q G ("sink",none) _ (s4 _ _ g3) (.inr (.inr (.inr (.inr rfl)))) S)
theorem xq{f:Addr}(F:Ac K "_law_works" "_law_works" (top 51) f fd)(T:Txt K mg)(ad:FnAt P w K mg base 1 "_law_cell_at" ["script","k"] (Dn K))(ae:FnAt P w K mg base 1 "_law_mixed" ["cell","k"] E1)(am:FnAt P w K mg base 1 "_law_station" ["cell"] Gf):mu P w K mg base Aa 2 f fd ["script"] (Gg K):=by
 exists ["script","first","many","stations","belts","k","number","feeds"]
 obtain⟨a,ns,rfl,hS,q⟩:=h
 refine⟨_,((1>>=(ad<&>({0}>>bh>>a_)))<|>(2>>=bu bQ bh (bu bN {1} bh))<|>(3|||["k"]|||["script"]|||[0]|||(bO rfl T.zt ({2}>>a_))|||bB|||(am<&>((ae<&>((ad<&>({1}>>bu bQ bh {0}>>a_))>>{0}>>a_))>>a_)))<|>(4>>=@bR _ _ _ _ a_)<|>cj PassesOwn.never rfl (bO rfl T.zt (bu bN (bu cP {1} bh) bh>>a_)) (fB (i:=5) nd rfl (by nofun)) ((6>>=(ae<&>((ad<&>({0}>>bu bQ bh {5}>>a_))>>bu bQ bh {5}>>a_)))<|>@ei _ _ _ (bC (bZ Z5 Z6 Z7 bH {4} (@bF _ _ _ _ _ (bu bN {6} {2}>>bu bN (bu cP {6} bh) {2}>>bu bQ bh (bu bN (bu cP {6} bh) bh)>>a_)>>a_))))<|>(7>>=@bR _ _ _ _ a_)<|>cj PassesOwn.never rfl (bO rfl T.zt (bu bQ bh (bu bN (bu cP {1} bh) bh)>>a_)) (fB (i:=5) nd rfl (by nofun)) ((6>>=(ae<&>((ad<&>({0}>>bu bQ bh {5}>>a_))>>bu bQ bh {5}>>a_)))<|>@ei _ _ _ (bC (bZ Z5 Z6 Z7 bH {7} (@bF _ _ _ _ _ (bu bN {6} {2}>>bu bN (bu cP {6} bh) bh>>bu gf (bu bN (bu cP {6} bh) (bu mO bh bh)) (bu jw bh (bu mO bh bh))>>a_)>>a_))))<|>(~~~(@bF _ _ _ _ _ ({3}>>{4}>>{7}>>a_)))),?_⟩
 refine⟨_,rfl,a,ns,0,rfl,hS,by decide,λO=>?_⟩
 refine⟨_,rfl,_,_,rfl,rfl,(show(0:Int)<5 by decide),_,_,rfl,rfl,?_⟩
 obtain⟨M,hM⟩:∃M:Int,1+O%5=M:=⟨_,rfl⟩
 have M1:1<=M:=by lia
 have M5:M<=5:=by lia
 rw[hM]
 refine⟨_,rfl,_,rfl,by rw[BL];lia,by rw[BL];lia,λD nD=>?_⟩
 refine cy (lo:=0) (n:=M.toNat) (λi H4=>∃(xs:List V)(G:List EY),c0 H H4/\H4 D=some (.lst xs)/\Paired (zu H4) xs G/\G.length=i/\∀s∈G,DR s)
  ⟨[],[],c0.new nD,bg,.nil,rfl,λs h=>absurd h zI⟩ ?_ ?_
 ·rintro i H4 m Wf hi ⟨xs,G,s4,h4,pr,el,ok⟩ nx
  refine⟨_,rfl,_,rfl,_,_,rfl,rfl,a,ns,_,rfl,s4.seq hS,by lia,λc=>⟨_,rfl,c,_,rfl,λr r0 r1=>⟨r,rfl,λp st H6 hp WB s6=>?_⟩⟩⟩
  have lx:=pr.length
  refine⟨_,s6 _ _ h4,bo (by lia),nx _ ⟨xs++[.ref p],G++[st],(s4.trans s6).upd nD,bg,?_,by rw[zN,el];rfl,dN ok WB⟩⟩
  exact bv (bf (λ_ _ h=>(zu.same s6 h).keep (s6 _ _ h4)) pr) (.cons (zu.keep (s6 _ _ h4) ⟨p,rfl,hp⟩) .nil)
 ·rintro H4 ⟨xs,G,s4,h4,WC,Zw,OI⟩
  have U:(G.length:Int)=M:=by lia
  refine⟨yH _,λD1 Im=>?_⟩
  refine⟨_,rfl,_,_,rfl,rfl,⟨by decide,by decide⟩,_,_,rfl,rfl,(show(0:Int)<8 by decide),?_⟩
  have WD:=qC (O / 5) (show(8:Int)≠0 by decide)
  have WE:=y3 (O / 5) (show(0:Int)<8 by decide)
  generalize O / 5%8=B at WD WE ⊢
  refine⟨_,rfl,by rw[BL];lia,by rw[BL];lia,cW (n:=B.toNat) (λi σ H5=>∃(v5 v6:Option V)(ys:List V)(be:List fc),σ=[some (.ref a),some (.int O),some (.int M),some (.ref D),some (.ref D1),v5,v6,none]/\c0 H4 H5/\H5 D1=some (.lst ys)/\Paired (d4 H5) ys be/\be.length=i/\∀t∈be,0<=t.1/\t.1<M/\0<=t.2.1/\t.2.1<M/\1<=t.2.2/\t.2.2<=9)
   ⟨_,_,[],[],rfl,c0.new Im,bg,.nil,rfl,λs h=>absurd h zI⟩ ?_ ?_⟩
  ·rintro i σ H5 hi ⟨v5,v6,ys,be,rfl,s5,h5,pr,el,ok⟩
   refine⟨_,rfl,_,rfl,_,_,rfl,rfl,a,ns,_,rfl,(s4.trans s5).seq hS,by lia,λc=>⟨_,rfl,_,_,rfl,rfl,c,_,rfl,λr r0 r1=>?_⟩⟩
   have lx:=pr.length
   refine⟨_,rfl,CH h5,_,rfl,_,rfl,_,_,rfl,rfl,(show(0:Int)<M by lia),?_⟩
   refine⟨_,rfl,_,_,rfl,rfl,⟨by decide,by decide⟩,_,rfl,_,_,rfl,rfl,(show(0:Int)<M by lia),?_⟩
   refine⟨_,rfl,_,_,rfl,rfl,⟨by decide,by decide⟩,_,_,rfl,rfl,(show(0:Int)<3 by decide),_,_,rfl,rfl,(by show 3<=sizeLine;decide),λt nt=>?_⟩
   have s6:c0 H5 (upd H5 t (.tup (Dm (r%M,r / 7%M,1+r / 49%3)))):=c0.new nt
   refine⟨_,_,_,rfl,rfl,s6 _ _ h5,bo (by lia),?_⟩
   refine⟨_,_,ys++[.ref t],be++[(r%M,r / 7%M,1+r / 49%3)],rfl,(s5.trans s6).upd Im,bg,?_,by rw[zN,el];rfl,dN ok ⟨qC _ (by lia),y3 _ (by lia),qC _ (by lia),y3 _ (by lia),by show 1<=1+r / 49%3;lia,by show 1+r / 49%3<=9;lia⟩⟩
   exact bv (bf (λ_ _ h=>(d4.same s6 h).keep (s6 _ _ h5)) pr) (.cons (d4.keep (s6 _ _ h5) ⟨t,rfl,bg⟩) .nil)
  ·rintro σ H5 ⟨v5,v6,ys,be,rfl,s5,h5,WG,Zx,WH⟩
   have WI:=s4.trans s5
   refine⟨yH _,λD2 CV=>?_⟩
   refine⟨_,rfl,_,_,rfl,rfl,⟨by decide,by decide⟩,_,_,rfl,rfl,(show(0:Int)<7 by decide),_,_,rfl,rfl,?_⟩
   have WJ:=qC (O / 40) (show(7:Int)≠0 by decide)
   have WK:=y3 (O / 40) (show(0:Int)<7 by decide)
   generalize O / 40%7=N at WJ WK ⊢
   refine⟨_,rfl,by rw[BL];lia,by rw[BL];lia,cW (n:=(1+N).toNat) (λi σ H7=>∃(v5 v6:Option V)(zs:List V)(fe:List fc),σ=[some (.ref a),some (.int O),some (.int M),some (.ref D),some (.ref D1),v5,v6,some (.ref D2)]/\c0 H5 H7/\H7 D2=some (.lst zs)/\Paired (d4 H7) zs fe/\fe.length=i/\∀t∈fe,0<=t.1/\t.1<M/\0<=t.2.1/\t.2.1<=50/\-1000000000<=t.2.2/\t.2.2<=1000000000)
    ⟨_,_,[],[],rfl,c0.new CV,bg,.nil,rfl,λs h=>absurd h zI⟩ ?_ ?_⟩
   ·rintro i σ H7 hi ⟨v5,v6,zs,fe,rfl,s7,h7,pr,el,ok⟩
    refine⟨_,rfl,_,rfl,_,_,rfl,rfl,a,ns,_,rfl,(WI.trans s7).seq hS,by lia,λc=>⟨_,rfl,_,_,rfl,rfl,c,_,rfl,λr r0 r1=>?_⟩⟩
    have lx:=pr.length
    refine⟨_,rfl,CH h7,_,rfl,_,rfl,_,_,rfl,rfl,(show(0:Int)<M by lia),?_⟩
    refine⟨_,rfl,_,_,rfl,rfl,⟨by decide,by decide⟩,_,_,rfl,rfl,(show(0:Int)<7 by decide),?_⟩
    infer_instance
    refine⟨(by show 3<=sizeLine;decide),λt nt=>?_⟩
    have s8:c0 H7 (upd H7 t (.tup (Dm (r%M,r / 7%7,r / 49%10000000-5000000)))):=c0.new nt
    refine⟨_,_,_,rfl,rfl,s8 _ _ h7,bo (by lia),?_⟩
    refine⟨_,_,zs++[.ref t],fe++[(r%M,r / 7%7,r / 49%10000000-5000000)],rfl,(s7.trans s8).upd CV,bg,?_,by rw[zN,el];rfl,dN ok ⟨qC _ (by lia),y3 _ (by lia),by show 0<=r / 7%7;lia,by show r / 7%7<=50;lia,by show -1000000000<=r / 49%10000000-5000000;lia,by show r / 49%10000000-5000000<=1000000000;lia⟩⟩
    exact bv (bf (λ_ _ h=>(d4.same s8 h).keep (s8 _ _ h7)) pr) (.cons (d4.keep (s8 _ _ h7) ⟨t,rfl,bg⟩) .nil)
   ·rintro σ H7 ⟨Zy,Zz,zs,fe,rfl,s7,h7,OJ,ZA,WL⟩
    refine⟨_,rfl,_,rfl,_,rfl,(by show 3<=sizeLine;decide),λwt nw=>?_⟩
    have sw:c0 H7 (upd H7 wt (.tup [.ref D,.ref D1,.ref D2])):=c0.new nw
    have Y:=s7.trans sw
    have QE:=s5.trans Y
    refine q wt ⟨G,be,fe⟩ _ ⟨D,D1,D2,xs,ys,zs,bg,⟨QE _ _ h4,Y _ _ h5,sw _ _ h7,bf (λ_ _=>zu.same QE) WC,bf (λ_ _=>d4.same Y) WG,bf (λ_ _=>d4.same sw) OJ⟩⟩ ⟨?_,?_,?_,?_,OI,?_,?_⟩ ?_ (s4.trans QE)
    ·show 1<=G.length;lia
    ·show G.length<=8;lia
    ·show be.length<=12;lia
    ·show fe.length<=60;lia
    ·intro t h
     have:=WH t h
     show 0<=t.1/\t.1<(G.length:Int)/\0<=t.2.1/\t.2.1<(G.length:Int)/\1<=t.2.2/\t.2.2<=9
     rw[U]
     exact this
    ·intro t h
     have:=WL t h
     show 0<=t.1/\t.1<(G.length:Int)/\0<=t.2.1/\t.2.1<=50/\-1000000000<=t.2.2/\t.2.2<=1000000000
     rw[U]
     exact this
    ·show fe.length<=7;lia
theorem wb:¬(("ways":Str)="belts"):=by decide +kernel
def fS(p1 p2:Addr):List (Str×V):=mr "belts" (.ref p2) (mr "ways" (.ref p1) [])
theorem cY(p1 p2:Addr):(fS p1 p2).lookup ("belts":Str)=some (.ref p2):=by
 unfold fS
 rw[br,if_pos rfl]
theorem ak(p1 p2:Addr):(fS p1 p2).lookup ("ways":Str)=some (.ref p1):=by
 unfold fS
 rw[br,if_neg wb,br,if_pos rfl]
theorem lR(p1 p2:Addr){m:Str}(h1:¬m="belts")(h2:¬m="ways"):(fS p1 p2).lookup m=none:=by
 unfold fS
 rw[br,if_neg h1,br,if_neg h2]
 rfl
theorem kh(p1 p2:Addr):(fS p1 p2).length<=2:=by
 have h1:=bW "ways" (.ref p1) []
 have h2:=bW "belts" (.ref p2) (mr "ways" (.ref p1) [])
 have h3:([]:List (Str×V)).length=0:=rfl
 unfold fS
 lia
structure Io(K:PySem.W.Frag)(C:Addr):Prop where
 cl:Fg K C
 nW:zw K C "ways"
 nB:zw K C "belts"
inductive Cu(K:PySem.W.Frag)(vs:List V)(H:Hp)(Q:VK)(wc:XK):Prop where
 | mk (p wa b C dx:Addr) (xs ys:List V) (M:List (List Cell)) (ui:vs=[.ref p,.ref wa,.ref b]) (uj:Hc H ([(p,.ins C dx [])]::M)) (zf:Io K C) (zq:eH K H wa xs) (Ai:eH K H b ys) (AA:wa≠p) (Bl:b≠p) (C7:∀(p1 p2:Addr)(H':Hp),ql [p] H H'->Hc H' ([(p,.ins C dx (fS p1 p2)),(p1,.tup xs),(p2,.tup ys)]::M)->Q .y2 H'):Cu K vs H Q wc
inductive DS(K:PySem.W.Frag)(vs:List V)(H:Hp)(Q:VK)(wc:XK):Prop where
 | mk (p C dx bt:Addr) (fs:List (Str×V)) (ys:List V) (z:Int) (ui:vs=[.ref p,.int z]) (uj:H p=some (.ins C dx fs)) (zf:Io K C) (zq:fs.lookup ("belts":Str)=some (.ref bt)) (Ai:H bt=some (.tup ys)) (AA:(ys=[]->Q .y2 H)) (Bl:(∀y r t,ys=y::r->H t=none->Q (.ref t) (upd H t (.tup [y,.int z])))):DS K vs H Q wc
theorem m7{f:Addr}(F:Ac K "__init__" "Station.__init__" (inClass (top 26) 0) f fd)(T:Txt K mg):mu P w K mg base Aa 1 f fd ["self","ways","belts"] (Cu K):=by
 exists ["self","ways","belts"]
 obtain⟨p,wa,b,C,dx,xs,ys,M,rfl,hc,c,hw,hb,n1,n2,q⟩:=h
 refine⟨_,(cR {0} (b_ dz (by rfl) T.Cc fu ({1}>>a_)) rfl<|>@ei _ _ _ (cR {0} (b_ dz (by rfl) T.Cc fu ({2}>>a_)) rfl)),?_⟩
 refine⟨_,rfl,wa,xs,rfl,.inl ⟨hw,λp1 f1=>?_⟩⟩
 have B:=hc.new f1 (.tup xs)
 have hp:=hc.get 0 0 rfl rfl
 refine⟨_,rfl,p,C,dx,[],rfl,B.get 1 0 rfl rfl,c.cl,c.nW,(by show 0<1000;decide),?_⟩
 have O:=B.put 1 0 rfl rfl (.ins C dx (mr "ways" (.ref p1) []))
 have U:eH K (upd (upd H p1 (.tup xs)) p (.ins C dx (mr "ways" (.ref p1) []))) b ys:=by
  have k1:∀o,H b=some o->upd (upd H p1 (.tup xs)) p (.ins C dx (mr "ways" (.ref p1) [])) b=some o:=λo e=>by
   rw[bj n2,bj (bi e f1)]
   exact e
  rcases hb with (h|⟨o,h⟩)|h
  ·exact .inl (.inl (k1 _ h))
  ·exact .inl (.inr ⟨o,k1 _ h⟩)
  ·exact .inr h
 refine⟨_,rfl,b,ys,rfl,.inl ⟨U,λp2 f2=>?_⟩⟩
 have G:=O.new f2 (.tup ys)
 refine⟨_,rfl,p,C,dx,_,rfl,G.get 2 0 rfl rfl,c.cl,c.nB,?_,?_⟩
 ·have h1:=bW "ways" (.ref p1) []
  have h3:([]:List (Str×V)).length=0:=rfl
  lia
 ·have Y:Hc _ ([(p2,.tup ys)]::[(p1,.tup xs)]::[(p,.ins C dx (fS p1 p2))]::M):=G.put 2 0 rfl rfl (.ins C dx (fS p1 p2))
  have AM:Hc _ ([(p,.ins C dx (fS p1 p2))]::[(p1,.tup xs)]::[(p2,.tup ys)]::M):=(Y.pick 1 rfl).pick 2 rfl
  exact q p1 p2 _ (((((ql.same (c0.refl H)).Ie f1).upd (y9 _)).Ie f2).upd (y9 _)) AM.join.join
theorem mC{f:Addr}(F:Ac K "on_first" "Station.on_first" (inClass (top 26) 2) f fd)(T:Txt K mg):mu P w K mg base Aa 1 f fd ["self","piece"] (DS K):=by
 exists ["self","piece"]
 obtain⟨p,C,dx,bt,fs,ys,z,rfl,hp,c,hf,ht,B,G⟩:=h
 refine⟨_,(~~~(c6 (bp fw ‹bw (K:=K) rfl {0} rfl› bh (bq _)) (@bF _ _ _ _ _ ((bw (K:=K) rfl {0} rfl<*>bh)>>{1}>>a_)) bS)),?_⟩
 refine⟨_,rfl,p,C,dx,_,_,rfl,hp,c.cl,c.nB,hf,bt,_,rfl,.inr (ze.of ht),?_⟩
 infer_instance
 cases ys with
 | nil=>exact nj (B rfl)
 | cons y r =>
  have e:decide ((0:Int)<((y::r).length:Int))=true:=by
   rw[yD]
   exact decide_eq_true (by lia)
  rw[e]
  refine vr ?_
  refine⟨_,rfl,p,C,dx,_,_,rfl,hp,c.cl,c.nB,hf,bt,_,_,_,rfl,rfl,ze.of ht,d5 (j:=0) rfl,_,rfl,(by show 2<=sizeLine;decide),λt ht=>?_⟩
  exact G y r t rfl ht
def fR(p1 p2:Addr)(m:Int):List (Str×V):=mr "more" (.int m) (fS p1 p2)
theorem bm:¬(("belts":Str)="more"):=by decide +kernel
theorem uQ(p1 p2:Addr)(m:Int):(fR p1 p2 m).lookup ("more":Str)=some (.int m):=by
 unfold fR
 rw[br,if_pos rfl]
theorem lP(p1 p2:Addr)(m:Int):(fR p1 p2 m).lookup ("belts":Str)=some (.ref p2):=by
 unfold fR
 rw[br,if_neg bm,cY]
theorem vh(p1 p2:Addr)(m:Int)(h0:¬x="more")(h1:¬x="belts")(h2:¬x="ways"):(fR p1 p2 m).lookup x=none:=by
 unfold fR
 rw[br,if_neg h0,lR _ _ h1 h2]
structure QF(K:PySem.W.Frag)(C:Addr):Prop where
 st:Io K C
 nM:zw K C "more"
inductive Gi(K:PySem.W.Frag)(vs:List V)(H:Hp)(Q:VK)(wc:XK):Prop where
 | mk (p wa b C dx:Addr) (xs ys:List V) (m:Int) (M:List (List Cell)) (ui:vs=[.ref p,.ref wa,.ref b,.int m]) (uj:Hc H ([(p,.ins C dx [])]::M)) (zf:QF K C) (zq:eH K H wa xs) (Ai:eH K H b ys) (AA:wa≠p) (Bl:b≠p) (C7:∀(p1 p2:Addr)(H':Hp),ql [p] H H'->Hc H' ([(p,.ins C dx (fR p1 p2 m)),(p1,.tup xs),(p2,.tup ys)]::M)->Q .y2 H'):Gi K vs H Q wc
inductive Gj(C:Addr)(vs:List V)(H:Hp)(Q:VK)(wc:XK):Prop where
 | mk (p dx p1 p2:Addr) (m z:Int) (wy:V) (ys:List V) (ui:vs=[.ref p,wy,.int z]) (uj:H p=some (.ins C dx (fR p1 p2 m))) (zf:H p2=some (.tup ys)) (zq:(ys=[]->Q .y2 H)) (Ai:(∀y r t,ys=y::r->H t=none->Q (.ref t) (upd H t (.tup [y,.int (z+m)])))):Gj C vs H Q wc
theorem xR{f cS:Addr}(F:Ac K "__init__" "Relay.__init__" (inClass (top 27) 0) f fd)(G:mg "Station"=some (.ref cS))(O:ClsAt P w K mg base 1 cS "__init__" ["self","ways","belts"] (Cu K)) :
  mu P w K mg base Aa 2 f fd ["self","ways","belts","more"] (Gi K):=by
 exists ["self","ways","belts","more"]
 obtain⟨p,wa,b,C,dx,xs,ys,m,M,rfl,hc,c,hw,hb,n1,n2,q⟩:=h
 refine⟨_,(bC (hJ rfl G O (hr.mono (by decide)) ({0}>>{1}>>{2}>>a_))<|>@ei _ _ _ (cR {0} {3} rfl)),?_⟩
 refine⟨_,rfl,_,rfl,_,rfl,p,wa,b,C,dx,xs,ys,M,rfl,hc,c.st,hw,hb,n1,n2,λp1 p2 H' kp B=>?_⟩
 refine⟨_,rfl,_,rfl,p,C,dx,_,rfl,B.get 0 0 rfl rfl,c.st.cl,c.nM,?_,?_⟩
 ·have:=kh p1 p2
  lia
 ·exact q p1 p2 _ (kp.upd (y9 _)) (B.put 0 0 rfl rfl _)
theorem vx{f:Addr}(F:Ac K "take" "Relay.take" (inClass (top 27) 1) f fd)(c:QF K C)(B:MethAt P w K mg base 1 C "on_first" ["self","piece"] (DS K)) :
  mu P w K mg base Aa 2 f fd ["self","way","piece"] (Gj C):=by
 exists ["self","way","piece"]
 obtain⟨p,dx,p1,p2,m,z,wy,ys,rfl,hp,ht,G,O⟩:=h
 refine⟨_,(~~~(B<$>{0}>>(bu bQ {2} (bw (K:=K) rfl {0} rfl)>>a_))),?_⟩
 refine⟨_,rfl,p,dx,_,rfl,hp,vh _ _ _ (by decide +kernel) (by decide +kernel) (by decide +kernel),_,rfl,_,rfl,p,C,dx,_,_,rfl,hp,c.st.cl,c.nM,uQ _ _ _,_,_,rfl,rfl,?_⟩
 exact⟨p,C,dx,p2,_,ys,_,rfl,hp,c.st,lP _ _ _,ht,G,O⟩
inductive Gk(C:Addr)(vs:List V)(H:Hp)(Q:VK)(wc:XK):Prop where
 | mk (p dx p1 p2:Addr) (z:Int) (wy:V) (bs:List Int) (ui:vs=[.ref p,wy,.int z]) (uj:H p=some (.ins C dx (fS p1 p2))) (zf:H p2=some (.tup (bs.map V.int))) (zq:(bs=[]->Q .y2 H)) (Ai:(∀(y:Int)(t:Addr),bs≠[]->bs[(z%(bs.length:Int)).toNat]?=some y->H t=none->Q (.ref t) (upd H t (.tup [.int y,.int z])))):Gk C vs H Q wc
theorem xn{f:Addr}(F:Ac K "take" "Sorter.take" (inClass (top 28) 0) f fd)(T:Txt K mg)(c:Io K C):mu P w K mg base Aa 1 f fd ["self","way","piece"] (Gk C):=by
 exists ["self","way","piece"]
 obtain⟨p,dx,p1,p2,z,wy,bs,rfl,hp,ht,G,O⟩:=h
 refine⟨_,(bL (bp bU ‹bw (K:=K) rfl {0} rfl› bh (bq _)) (~~~bS) bz<|>(~~~(@bF _ _ _ _ _ ((bw (K:=K) rfl {0} rfl<*>bu bN {2} ‹bw (K:=K) rfl {0} rfl›)>>{2}>>a_)))),?_⟩
 refine⟨_,rfl,p,C,dx,_,_,rfl,hp,c.cl,c.nB,cY _ _,p2,_,rfl,.inr (ze.of ht),rfl,_,rfl,?_⟩
 rw[zB]
 cases bs with
 | nil=>exact vr (G rfl)
 | cons B bs =>
  have hl:(0:Int)<((B::bs).length:Int):=by rw[yD];lia
  have e:decide (V.int (((B::bs).length:Nat):Int)=V.int 0)=false:=decide_eq_false λh=>by
   have:=V.int.inj h
   lia
  rw[e]
  refine nj ?_
  refine⟨_,rfl,p,C,dx,_,_,rfl,hp,c.cl,c.nB,cY _ _,_,rfl,_,rfl,p,C,dx,_,_,rfl,hp,c.cl,c.nB,cY _ _,p2,_,rfl,.inr (ze.of ht),_,_,rfl,rfl,(by rw[zB];exact hl),?_⟩
  rw[zB]
  have U:=qC z (Int.ne_of_gt hl)
  have Y:=y3 z hl
  obtain⟨j,hj⟩:∃j:Nat,z%((B::bs).length:Int)=(j:Int):=⟨(z%((B::bs).length:Int)).toNat,by lia⟩
  obtain⟨y,hy⟩:∃y,(B::bs)[j]?=some y:=⟨(B::bs)[j]'(by lia),zD _⟩
  refine VJ ht (ja hj hy) ⟨_,rfl,(by show 2<=sizeLine;decide),λt nt=>?_⟩
  exact O y t (by simp) (by rw[hj];exact hy) nt
theorem gP(f:Str)(u v:V):∀fs:List (Str×V),mr f v (mr f u fs)=mr f v fs
 | []=>by
  show(if f=f then [(f,v)]else (f,u)::mr f v [])=[(f,v)]
  rw[if_pos rfl]
 | (g,x)::r=>by
  show mr f v (if g=f then (g,u)::r else (g,x)::mr f u r)=if g=f then (g,v)::r else (g,x)::mr f v r
  by_cases h:g=f
  ·rw[if_pos h,if_pos h]
   show(if g=f then (g,v)::r else (g,u)::mr f v r)=_
   rw[if_pos h]
  ·rw[if_neg h,if_neg h]
   show(if g=f then (g,v)::mr f u r else (g,x)::mr f v (mr f u r))=_
   rw[if_neg h,gP f u v r]
def fT(p1 p2:Addr)(e n:Int):List (Str×V):=mr "seen" (.int n) (mr "every" (.int e) (fS p1 p2))
theorem se:¬(("every":Str)="seen"):=by decide +kernel
theorem sb:¬(("belts":Str)="seen"):=by decide +kernel
theorem WM:¬(("belts":Str)="every"):=by decide +kernel
theorem oy(p1 p2:Addr)(e n:Int):(fT p1 p2 e n).lookup ("seen":Str)=some (.int n):=by
 unfold fT
 rw[br,if_pos rfl]
theorem lM(p1 p2:Addr)(e n:Int):(fT p1 p2 e n).lookup ("every":Str)=some (.int e):=by
 unfold fT
 rw[br,if_neg se,br,if_pos rfl]
theorem mh(p1 p2:Addr)(e n:Int):(fT p1 p2 e n).lookup ("belts":Str)=some (.ref p2):=by
 unfold fT
 rw[br,if_neg sb,br,if_neg WM,cY]
theorem vg(p1 p2:Addr)(e n:Int)(h0:¬x="seen")(h3:¬x="every")(h1:¬x="belts")(h2:¬x="ways"):(fT p1 p2 e n).lookup x=none:=by
 unfold fT
 rw[br,if_neg h0,br,if_neg h3,lR _ _ h1 h2]
theorem xa(p1 p2:Addr)(e n m:Int):mr "seen" (.int m) (fT p1 p2 e n)=fT p1 p2 e m:=gP _ _ _ _
theorem xo(p1 p2:Addr)(e n:Int):(fT p1 p2 e n).length<=4:=by
 have h1:=kh p1 p2
 have h2:=bW "every" (.int e) (fS p1 p2)
 have h3:=bW "seen" (.int n) (mr "every" (.int e) (fS p1 p2))
 unfold fT
 lia
structure QG(K:PySem.W.Frag)(C:Addr):Prop where
 st:Io K C
 nE:zw K C "every"
 nN:zw K C "seen"
inductive Gm(K:PySem.W.Frag)(vs:List V)(H:Hp)(Q:VK)(wc:XK):Prop where
 | mk (p wa b C dx:Addr) (xs ys:List V) (m:Int) (M:List (List Cell)) (ui:vs=[.ref p,.ref wa,.ref b,.int m]) (uj:Hc H ([(p,.ins C dx [])]::M)) (zf:QG K C) (zq:eH K H wa xs) (Ai:eH K H b ys) (AA:wa≠p) (Bl:b≠p) (C7:∀(p1 p2:Addr)(H':Hp),ql [p] H H'->Hc H' ([(p,.ins C dx (fT p1 p2 m 0)),(p1,.tup xs),(p2,.tup ys)]::M)->Q .y2 H'):Gm K vs H Q wc
inductive Gn(C:Addr)(vs:List V)(H:Hp)(Q:VK)(wc:XK):Prop where
 | mk (p dx p1 p2:Addr) (m n z:Int) (wy:V) (ys:List V) (ui:vs=[.ref p,wy,.int z]) (uj:H p=some (.ins C dx (fT p1 p2 m n))) (zf:H p2=some (.tup ys)) (zq:2<=m) (Ai:((n+1)%m=0\/ys=[]->Q .y2 (upd H p (.ins C dx (fT p1 p2 m (n+1)))))) (AA:(∀y r t,¬(n+1)%m=0->ys=y::r->H t=none->Q (.ref t) (upd (upd H p (.ins C dx (fT p1 p2 m (n+1)))) t (.tup [y,.int z])))):Gn C vs H Q wc
theorem xX{f cS:Addr}(F:Ac K "__init__" "Thinner.__init__" (inClass (top 29) 0) f fd)(O:mg "Station"=some (.ref cS))(U:ClsAt P w K mg base 1 cS "__init__" ["self","ways","belts"] (Cu K)) :
  mu P w K mg base Aa 2 f fd ["self","ways","belts","every"] (Gm K):=by
 exists ["self","ways","belts","every"]
 obtain⟨p,wa,b,C,dx,xs,ys,m,M,rfl,hc,c,hw,hb,n1,n2,q⟩:=h
 refine⟨_,(bC (hJ rfl O U (hr.mono (by decide)) ({0}>>{1}>>{2}>>a_))<|>cR {0} {3} rfl<|>@ei _ _ _ (cR {0} bh rfl)),?_⟩
 refine⟨_,rfl,_,rfl,_,rfl,p,wa,b,C,dx,xs,ys,M,rfl,hc,c.st,hw,hb,n1,n2,λp1 p2 H' kp B=>?_⟩
 have l1:=kh p1 p2
 have l2:=bW "every" (.int m) (fS p1 p2)
 refine⟨_,rfl,_,rfl,p,C,dx,_,rfl,B.get 0 0 rfl rfl,c.st.cl,c.nE,by lia,?_⟩
 have G:=B.put 0 0 rfl rfl (.ins C dx (mr "every" (.int m) (fS p1 p2)))
 refine⟨_,rfl,p,C,dx,_,rfl,bg,c.st.cl,c.nN,by lia,?_⟩
 exact q p1 p2 _ ((kp.upd (y9 _)).upd (y9 _)) (G.put 0 0 rfl rfl _)
theorem vy{f:Addr}(F:Ac K "take" "Thinner.take" (inClass (top 29) 1) f fd)(c:QG K C)(B:MethAt P w K mg base 1 C "on_first" ["self","piece"] (DS K)) :
  mu P w K mg base Aa 2 f fd ["self","way","piece"] (Gn C):=by
 exists ["self","way","piece"]
 obtain⟨p,dx,p1,p2,m,n,z,wy,ys,rfl,hp,ht,hm,G,Y⟩:=h
 refine⟨_,(cR {0} (bu bQ (bw (K:=K) rfl {0} rfl) bh) rfl<|>bL ((i7 (bp mq (bw (K:=K) rfl {0} rfl) bh (bq _)) (gH (bp bU (bu bN (bw (K:=K) rfl {0} rfl) (bw (K:=K) rfl {0} rfl)) bh (bq _))))).pt (~~~bS) bz<|>(~~~(B<$>{0}>>({2}>>a_)))),?_⟩
 have l1:=xo p1 p2 m n
 refine⟨_,rfl,p,C,dx,_,_,rfl,hp,c.st.cl,c.nN,oy _ _ _ _,_,_,rfl,rfl,_,rfl,p,C,dx,_,rfl,hp,c.st.cl,c.nN,by lia,?_⟩
 rw[xa]
 have h1:(upd H p (.ins C dx (fT p1 p2 m (n+1)))) p=some (.ins C dx (fT p1 p2 m (n+1))):=bg
 have O:p2≠p:=bK ht hp (by intro z;cases z)
 have h2:(upd H p (.ins C dx (fT p1 p2 m (n+1)))) p2=some (.tup ys):=by rw[bj O];exact ht
 have hn:∀t,(upd H p (.ins C dx (fT p1 p2 m (n+1)))) t=none->H t=none:=λt z=>by
  have:t≠p:=λy=>by rw[y,h1]at z;cases z
  rw[bj this]at z
  exact z
 generalize (upd H p (.ins C dx (fT p1 p2 m (n+1))))=H1 at h1 h2 hn G Y ⊢
 refine⟨_,rfl,p,C,dx,_,_,rfl,h1,c.st.cl,c.nE,lM _ _ _ _,rfl,_,rfl,?_⟩
 have e1:(!decide (V.int m=V.int 0))=true:=by
  rw[decide_eq_false (λh=>by have:=V.int.inj h;lia)]
  rfl
 rw[e1]
 refine vr ?_
 refine⟨_,rfl,p,C,dx,_,_,rfl,h1,c.st.cl,c.nN,oy _ _ _ _,_,rfl,p,C,dx,_,_,rfl,h1,c.st.cl,c.nE,lM _ _ _ _,_,_,rfl,rfl,(show(0:Int)<m by lia),rfl,_,rfl,?_⟩
 refine CT (λhz=>?_) (λhz=>?_)
 ·exact G (.inl (V.int.inj (of_decide_eq_true hz)))
 ·have U:¬(n+1)%m=0:=λe=>hz (decide_eq_true (congrArg V.int e))
  refine⟨_,rfl,p,dx,_,rfl,h1,vg _ _ _ _ (by decide +kernel) (by decide +kernel) (by decide +kernel) (by decide +kernel),_,rfl,?_⟩
  exact⟨p,C,dx,p2,_,ys,_,rfl,h1,c.st,mh _ _ _ _,h2,λe=>G (.inr e),λy r t e nt=>Y y r t U e (hn t nt)⟩
def Ip:HO->Prop
 | .lst _=>False
 | .ins _ _ _=>False
 | .dK _=>False
 | _=>True
def Tk(H H':Hp):Prop:=∀b u,H b=some u->Ip u->H' b=some u
theorem Tk.of(s:c0 H H'):Tk H H':=λb u e _=>s b u e
theorem Tk.refl(H:Hp):Tk H H:=λ_ _ e _=>e
theorem Tk.trans(a:Tk H H1)(b:Tk H1 H2):Tk H H2:=λc u e n=>b c u (a c u e n) n
theorem Tk.put{u:HO}(k:Tk H H')(e:H' a=some u)(hu:¬Ip u):Tk H (upd H' a o):=λb v B hv=>by
 have e1:=k b v B hv
 rw[bj (λz=>by subst z;rw[e]at e1;cases e1;exact hu hv)]
 exact e1
theorem Tk.new(k:Tk H H')(n:H' a=none):Tk H (upd H' a o):=k.trans (Tk.of (c0.new n))
theorem Tk.tup(k:Tk H H')(e:H b=some (.tup xs)):H' b=some (.tup xs):=k _ _ e trivial
theorem d4.tk(k:Tk H H'){x:V}(h:d4 H x t):d4 H' x t:=let ⟨p,e,q⟩:=h;⟨p,e,k.tup q⟩
theorem cH(h:n<=100000):n<sizeLine:=qJ h (by decide)
theorem Co.ki{n:Int}(e:H a=some (.dK kvs))(h:AF kvs (Sum.inl n:Key)=some v):Co H a (.int n) (some v):=by
 rw[←h]
 exact Co.k (k:=Sum.inl n) e
def fJ(p1 p2 d:Addr):List (Str×V):=mr "kept" (.ref d) (fS p1 p2)
theorem WN:¬(("belts":Str)="kept"):=by decide +kernel
theorem WO:¬(("ways":Str)="kept"):=by decide +kernel
theorem nS(p1 p2 d:Addr):(fJ p1 p2 d).lookup ("kept":Str)=some (.ref d):=by
 unfold fJ
 rw[br,if_pos rfl]
theorem lO(p1 p2 d:Addr):(fJ p1 p2 d).lookup ("belts":Str)=some (.ref p2):=by
 unfold fJ
 rw[br,if_neg WN,cY]
theorem az(p1 p2 d:Addr):(fJ p1 p2 d).lookup ("ways":Str)=some (.ref p1):=by
 unfold fJ
 rw[br,if_neg WO,ak]
theorem vm(p1 p2 d:Addr)(h0:¬x="kept")(h1:¬x="belts")(h2:¬x="ways"):(fJ p1 p2 d).lookup x=none:=by
 unfold fJ
 rw[br,if_neg h0,lR _ _ h1 h2]
structure QH(K:PySem.W.Frag)(C:Addr):Prop where
 st:Io K C
 nK:zw K C "kept"
def jk(ws:List Int)(ls:List Addr):List (Key×V):=(ws.zip ls).map λp=>(Sum.inl p.1,V.ref p.2)
def Ab(ls:List Addr)(rows:List (List Int)):List Cell:=AD ls (rows.map λr=>HO.lst (r.map V.int))
def Cv(C dx p p1 p2 d:Addr)(ws:List Int)(ls:List Addr)(ys:List V):List Cell:=[(p,.ins C dx (fJ p1 p2 d)),(p1,.tup (ws.map V.int)),(p2,.tup ys),(d,.dK (jk ws ls))]
theorem uk{ws:List Int}(h:ls.length=ws.length)(w:Int)(l:Addr):jk (ws++[w]) (ls++[l])=jk ws ls++[(Sum.inl w,V.ref l)]:=by
 unfold jk
 rw[vS h.symm,zK]
 rfl
theorem oA:∀{ws:List Int}{ls:List Addr}{w:Int},w∉ws->AF (jk ws ls) (Sum.inl w:Key)=none
 | [],_,_,_=>rfl
 | _::_,[],_,_=>rfl
 | v::ws,l::ls,w,h=>by
  show AF ((Sum.inl v,V.ref l)::jk ws ls) _=none
  rw[dZ (λe=>h (by rw[Sum.inl.inj e];exact zH))]
  exact oA λz=>h (zL _ z)
theorem i_:∀{ws:List Int}{ls:List Addr}{j:Nat}{w:Int}{l:Addr},ws.Nodup->ws[j]?=some w->ls[j]?=some l->AF (jk ws ls) (Sum.inl w:Key)=some (.ref l)
 | [],_,_,_,_,_,h,_=>by simp at h
 | _::_,[],_,_,_,_,_,h=>by simp at h
 | v::ws,m::ls,0,w,l,nd,h1,h2=>by
  simp at h1 h2
  subst h1 h2
  exact fk rfl
 | v::ws,m::ls,j+1,w,l,nd,h1,h2=>by
  rw[qZ]at nd
  have Og:ws[j]?=some w:=by simpa using h1
  show AF ((Sum.inl v,V.ref m)::jk ws ls) _=_
  rw[dZ (λe=>nd.1 (by rw[show v=w from Sum.inl.inj e];exact zE Og))]
  exact i_ nd.2 Og (by simpa using h2)
theorem wq(ws:List Int)(ls:List Addr):(jk ws ls).length<=ws.length:=by
 unfold jk
 rw[zB,List.length_zip]
 exact Nat.min_le_left _ _
theorem mD{rows:List (List Int)}(h:ls.length=rows.length)(l:Addr)(r:List Int):Ab (ls++[l]) (rows++[r])=Ab ls rows++[(l,.lst (r.map V.int))]:=by
 unfold Ab AD
 rw[zK,vS (by rw[zB];exact h)]
 rfl
theorem dL{rows:List (List Int)}{l:Addr}(h1:ls[j]?=some l)(h2:rows[j]?=some r):(Ab ls rows)[j]?=some (l,.lst (r.map V.int)) :=
 iN h1 (by rw[zG,h2];rfl)
theorem iF{rows:List (List Int)}{l:Addr}(r:List Int)(h1:ls[j]?=some l):(Ab ls rows).set j (l,.lst (r.map V.int))=Ab ls (rows.set j r):=by
 unfold Ab
 rw[fZ h1,j7]
def heads(rows:List (List Int)):Int:=(rows.map λr=>r.headD 0).sum
theorem lH(l:List Int)(x:Int):(l++[x]).sum=l.sum+x:=by
 induction l with
 | nil=>simp
 | cons a l ih=>simp only [kN,qB,ih];lia
theorem mZ(rows:List (List Int))(r:List Int):heads (rows++[r])=heads rows+r.headD 0:=by
 unfold heads
 rw[zK]
 exact lH _ _
def Bf(rows:List (List Int)):Bool:=rows.any λr=>r.isEmpty
def CW(rows:List (List Int))(i:Nat):List (List Int):=(rows.take i).map List.tail++rows.drop i
theorem pQ(rows:List (List Int)):CW rows 0=rows:=by simp [CW]
theorem rX(rows:List (List Int)):CW rows rows.length=rows.map List.tail:=by simp [CW]
theorem lE{rows:List (List Int)}(h:rows[i]?=some r):(CW rows i)[i]?=some r:=by
 have hi:=(zC.mp h).1
 unfold CW
 rw[zX (by rw[zB,yA];lia),zB,yA,qU (qP hi),qN,List.getElem?_drop,Nat.add_zero]
 exact h
theorem rU{rows:List (List Int)}(h:rows[i]?=some r):(CW rows i).set i r.tail=CW rows (i+1):=by
 have hi:=(zC.mp h).1
 have G:rows.drop i=r::rows.drop (i+1):=by
  rw[xA hi]
  congr 1
  exact(zC.mp h).2
 unfold CW
 rw[G,yR,h,zK]
 have O:((rows.take i).map List.tail).length=i:=by rw[zB,yA];lia
 have:=fG (A:=(rows.take i).map List.tail) (B:=rows.drop (i+1)) (x:=r) (y:=r.tail)
 rw[O]at this
 rw[this]
 simp
inductive Iq(ys:List V)(rows:List (List Int)):V->List Cell->List (List Int)->Prop
 | wait (h:Bf rows=true):Iq ys rows .y2 [] rows
 | M4 (h:Bf rows=false) (e:ys=[]):Iq ys rows .y2 [] (rows.map List.tail)
 | put (h:Bf rows=false) {y:V} {WQ:List V} (e:ys=y::WQ) (t:Addr):Iq ys rows (.ref t) [(t,.tup [y,.int (heads rows)])] (rows.map List.tail)
inductive Gp(K:PySem.W.Frag)(vs:List V)(H:Hp)(Q:VK)(wc:XK):Prop where
 | mk (p wa b C dx:Addr) (ws:List Int) (ys:List V) (M:List (List Cell)) (ui:vs=[.ref p,.ref wa,.ref b]) (uj:Hc H ([(p,.ins C dx [])]::M)) (zf:QH K C) (zq:eH K H wa (ws.map V.int)) (Ai:eH K H b ys) (AA:wa≠p) (Bl:b≠p) (C7:ws.Nodup) (Jt:ws.length<=100) (Ju:∀(p1 p2 d:Addr)(ls:List Addr)(H':Hp),ls.length=ws.length->ql [p] H H'->Hc H' (Cv C dx p p1 p2 d ws ls ys::Ab ls (ws.map λ_=>[])::M)->Q .y2 H'):Gp K vs H Q wc
inductive Gq(C:Addr)(vs:List V)(H:Hp)(Q:VK)(wc:XK):Prop where
 | mk (p dx p1 p2 d:Addr) (wv z:Int) (ws:List Int) (ls:List Addr) (ys:List V) (j:Nat) (rows:List (List Int)) (r:List Int) (M:List (List Cell)) (ui:vs=[.ref p,.int wv,.int z]) (uj:Hc H (Cv C dx p p1 p2 d ws ls ys::Ab ls rows::M)) (zf:ws.Nodup) (zq:ws.length<=100) (Ai:ls.length=ws.length) (AA:rows.length=ws.length) (Bl:ws[j]?=some wv) (C7:rows[j]?=some r) (Jt:r.length<=90000) (Ju:∀(v:V)(ft:List Cell)(Cw:List (List Int))(H':Hp),Iq ys (rows.set j (r++[z])) v ft Cw->Hc H' (ft::Cv C dx p p1 p2 d ws ls ys::Ab ls Cw::M)->Tk H H'->Q v H'):Gq C vs H Q wc
theorem we{f cS:Addr}(F:Ac K "__init__" "Joiner.__init__" (inClass (top 30) 0) f fd)(ah:mg "Station"=some (.ref cS))(aa:ClsAt P w K mg base 1 cS "__init__" ["self","ways","belts"] (Cu K)) :
  mu P w K mg base Aa 2 f fd ["self","ways","belts"] (Gp K):=by
 exists ["self","ways","belts","way"]
 obtain⟨p,wa,b,C,dx,ws,ys,M,rfl,hc,c,hw,hb,n1,n2,Hn,lw,q⟩:=h
 have hu:=vi hr
 have cl:=c.st.cl
 have nK:=c.nK
 have nW:=c.st.nW
 refine⟨_,(bC (hJ rfl ah aa (hr.mono (by decide)) ({0}>>{1}>>{2}>>a_))<|>cR {0} tR rfl<|>@ei _ _ _ (cj PassesOwn.never rfl (cG (K:=K) rfl (bw (K:=K) rfl {0} rfl)) (fB (i:=3) nd rfl (by nofun)) (@ei _ _ _ (uK hu (bw (K:=K) rfl {0} rfl) {3} (@bR _ _ _ _ a_) rfl)))),?_⟩
 refine⟨_,rfl,_,rfl,_,rfl,p,wa,b,C,dx,_,ys,M,rfl,hc,c.st,hw,hb,n1,n2,λp1 p2 H1 Tu G=>?_⟩
 intro d fd
 have WR:H d=none:=Tu.Mx (G.get 0 0 rfl rfl) fd
 have Tv:=(Tu.Ie (o:=.dK []) fd).upd (a:=p) (o:=.ins C dx (mr "kept" (.ref d) (fS p1 p2))) (y9 _)
 have O:=G.new fd (.dK [])
 refine⟨_,rfl,p,C,dx,_,rfl,O.get 1 0 rfl rfl,cl,nK,?_,?_⟩
 ·have:=kh p1 p2
  lia
 have U:Hc _ ([(d,.dK [])]::[(p,.ins C dx (fJ p1 p2 d)),(p1,.tup (ws.map V.int)),(p2,.tup ys)]::M):=O.put 1 0 rfl rfl (.ins C dx (fJ p1 p2 d))
 change _ at U
 generalize hg:upd (upd H1 d (HO.dK [])) p (.ins C dx (mr "kept" (.ref d) (fS p1 p2)))=H3
 have B:Hc H3 ([(d,.dK [])]::[(p,.ins C dx (fJ p1 p2 d)),(p1,.tup (ws.map V.int)),(p2,.tup ys)]::M):=by rw[←hg];exact U
 rw[hg]at Tv
 clear U hg O G
 have lk:=nS p1 p2 d
 have WS:=az p1 p2 d
 refine⟨_,rfl,p,C,dx,_,_,rfl,B.get 1 0 rfl rfl,cl,nW,WS,p1,rfl,⟨_,ze.of (B.get 1 1 rfl rfl)⟩,jp (K:=K) (a:=p1) (xs:=ws.map V.int) (λi σ H5=>∃(v:Option V)(ls:List Addr),σ=[some (.ref p),some (.ref wa),some (.ref b),v]/\ls.length=i/\ql [p] H H5 /\
  Hc H5 ([(d,.dK (jk (ws.take i) ls))]::[(p,.ins C dx (fJ p1 p2 d)),(p1,.tup (ws.map V.int)),(p2,.tup ys)]::Ab ls ((ws.take i).map λ_=>[])::M)) ⟨none,[],rfl,rfl,Tv,?_⟩ (λi σ H5 _ ⟨_,_,_,_,_,h⟩=>ze.of (h.get 1 1 rfl rfl)) ?_ ?_⟩
 ·exact B
 ·rintro i x σ H5 hi ⟨v,ls,rfl,el,Y,AM⟩
  obtain⟨z,rfl,hz⟩:=cq hi
  have Fu:=(zC.mp hz).1
  refine⟨yH _,λl nl=>?_⟩
  have A9:=AM.new nl (.lst [])
  have lt:(ws.take i).length=i:=by rw[yA];lia
  refine⟨_,rfl,p,C,dx,_,_,rfl,A9.get 2 0 rfl rfl,cl,nK,lk,_,rfl,d,_,rfl,FT.k (k:=Sum.inl z) (A9.get 1 0 rfl rfl) (bo (by have:=wq (ws.take i) ls;lia)),?_⟩
  have Gr:=A9.put 1 0 rfl rfl (.dK (putK (jk (ws.take i) ls) (Sum.inl z) (.ref l)))
  have nz:z∉ws.take i:=λh=>by
   obtain⟨m,hm⟩:=yS h
   have Jg:=(zC.mp hm).1
   rw[kJ (by lia)]at hm
   have:=(vI (by lia) Hn).mp (hm.trans hz.symm)
   lia
  have et:ws.take (i+1)=ws.take i++[z]:=by rw[yR,hz];rfl
  refine⟨_,ls++[l],rfl,by rw[zN,el];rfl,(Y.Ie nl).new WR,?_⟩
  rw[et,uk (by lia),zK]
  show Hc _ (_::_::Ab (ls++[l]) (((ws.take i).map λ_=>[])++[[]])::M)
  rw[mD (by rw[zB];lia),←tI _ (oA nz)]
  have Ir:Hc _ ([(d,.dK (putK (jk (ws.take i) ls) (Sum.inl z) (.ref l)))]::[(p,.ins C dx (fJ p1 p2 d)),(p1,.tup (ws.map V.int)),(p2,.tup ys)]::[(l,.lst [])]::Ab ls ((ws.take i).map λ_=>[])::M):=(Gr.pick 2 rfl).pick 2 rfl
  have Iu:=((Ir.pick 3 rfl).pick 3 rfl)
  have QI:Hc _ ([(l,.lst [])]::Ab ls ((ws.take i).map λ_=>[])::[(d,.dK (putK (jk (ws.take i) ls) (Sum.inl z) (.ref l)))]::[(p,.ins C dx (fJ p1 p2 d)),(p1,.tup (ws.map V.int)),(p2,.tup ys)]::M):=Iu
  have LC:=(QI.swap.join.pick 2 rfl).pick 2 rfl
  exact LC
 ·rintro σ H5 ⟨v,ls,rfl,el,Y,AM⟩
  rw[zB]at el AM
  rw[zY]at AM
  have A9:=AM.swap.join
  exact q p1 p2 d ls H5 el Y A9
theorem xj{f:Addr}(F:Ac K "take" "Joiner.take" (inClass (top 30) 1) f fd)(T:Txt K mg)(c:QH K C)(O:MethAt P w K mg base 1 C "on_first" ["self","piece"] (DS K)) :
  mu P w K mg base Aa 2 f fd ["self","way","piece"] (Gq C):=by
 exists ["self","way","piece","total","each"]
 obtain⟨p,dx,p1,p2,d,wv,z,ws,ls,ys,j,rows,r,M,rfl,hc,Hn,lw,el,er,hj,Tw,lr,q⟩:=h
 have hu:=vi hr
 have cl:=c.st.cl
 have nK:=c.nK
 have nW:=c.st.nW
 have lk:=nS p1 p2 d
 have Tx:=az p1 p2 d
 refine⟨_,(bC (bZ Z5 Z6 Z7 bH (jv hu (bw (K:=K) rfl {0} rfl) {1} (λ_ _=>rfl)) ({2}>>a_))<|>bL (dk (z_ (fY rfl) (by rfl) T.Gb mN ((["each"]^^^["self"]^^^[0]^^^(cG (K:=K) rfl (bw (K:=K) rfl {0} rfl))^^^bB^^^(cF bU ‹jv hu (bw (K:=K) rfl {1} rfl) {0} (λ_ _=>rfl)› bh (bq _)))>>a_))) (~~~bS) bz<|>(3>>=bh)<|>cj PassesOwn.never rfl (cG (K:=K) rfl (bw (K:=K) rfl {0} rfl)) (fB (i:=4) nd rfl (by nofun)) (@ei _ _ _ (3>>=bu bQ {3} (bZ Z5 a09 a0_ ii (jv hu (bw (K:=K) rfl {0} rfl) {4} (λ_ _=>rfl)) (bh>>a_))))<|>(~~~(O<$>{0}>>({3}>>a_)))),?_⟩
 have ME:=(zC.mp hj).1
 obtain⟨l,hl⟩:∃l,ls[j]?=some l:=⟨ls[j]'(by lia),zD _⟩
 have MC:=hc.get 1 j rfl (dL hl Tw)
 refine⟨_,rfl,p,C,dx,_,_,rfl,hc.get 0 0 rfl rfl,cl,nK,lk,_,rfl,d,_,rfl,Co.ki (hc.get 0 3 rfl rfl) (i_ Hn hj hl),CH MC,_,rfl,_,_,_,rfl,rfl,MC,cH (by rw[zB];lia),?_⟩
 have k1:Tk H (upd H l (.lst (r.map V.int++[V.int z]))):=(Tk.refl H).put MC (λz=>z)
 have Fw:=hc.put 1 j rfl (dL hl Tw) (.lst ((r++[z]).map V.int))
 rw[iF _ hl]at Fw
 have U:Hc (upd H l (.lst (r.map V.int++[V.int z]))) (Cv C dx p p1 p2 d ws ls ys::Ab ls (rows.set j (r++[z]))::M):=by
  have e:(r++[z]).map V.int=r.map V.int++[V.int z]:=by rw[zK];rfl
  rw[←e]
  exact Fw
 clear Fw
 have OK:(rows.set j (r++[z])).length=ws.length:=by rw[yG];exact er
 generalize (rows.set j (r++[z]))=B at U OK q
 generalize (upd H l (.lst (r.map V.int++[V.int z])))=H1 at U k1 ⊢
 refine⟨_,rfl,p,C,dx,_,_,rfl,U.get 0 0 rfl rfl,cl,nW,Tx,p1,rfl,⟨_,ze.of (U.get 0 1 rfl rfl)⟩,λD nD=>?_⟩
 refine dj (K:=K) (a:=p1) (xs:=ws.map V.int) (λi H5=>Tk H H5/\Hc H5 ([(D,.lst (((B.take i).map List.isEmpty).map V.bl))]::Cv C dx p p1 p2 d ws ls ys::Ab ls B::M)) ⟨k1.new nD,U.new nD _⟩ (λi H5 _ h=>ze.of (h.2.get 1 1 rfl rfl)) ?_ ?_
 ·rintro i x H5 m Wf hi ⟨k5,AM⟩ nx
  obtain⟨v,rfl,hv⟩:=cq hi
  have Fu:=(zC.mp hv).1
  obtain⟨l2,BF⟩:∃l,ls[i]?=some l:=⟨ls[i]'(by lia),zD _⟩
  obtain⟨r2,Y⟩:∃r,B[i]?=some r:=⟨B[i]'(by lia),zD _⟩
  have Gs:=AM.get 2 i rfl (dL BF Y)
  refine⟨_,rfl,p,C,dx,_,_,rfl,AM.get 1 0 rfl rfl,cl,nK,lk,_,rfl,d,_,rfl,Co.ki (AM.get 1 3 rfl rfl) (i_ Hn hv BF),_,_,rfl,.inl (eH.of Gs),rfl,_,AM.get 0 0 rfl rfl,bo (by rw[zB,zB,yA];lia),nx _ ⟨k5.put (AM.get 0 0 rfl rfl) (λz=>z),?_⟩⟩
  have e:V.bl (decide (V.int ((r2.map V.int).length:Int)=V.int 0))=V.bl r2.isEmpty:=by
   rw[zB]
   cases r2 with
   | nil=>rfl
   | cons a b =>
    rw[decide_eq_false (λh=>by have:=V.int.inj h;rw[yD]at this;lia)]
    rfl
  show Hc (upd H5 D (.lst (((B.take i).map List.isEmpty).map V.bl++[V.bl (decide (V.int ((r2.map V.int).length:Int)=V.int 0))]))) _
  rw[e,yR,Y,zK,zK]
  exact AM.put 0 0 rfl rfl _
 ·rintro H5 ⟨k5,AM⟩
  rw[zB,←OK,zY]at AM
  refine⟨D,_,rfl,eH.of (AM.get 0 0 rfl rfl),?_⟩
  have ea:((B.map List.isEmpty).any id)=Bf B:=by rw[vL];rfl
  rw[ea]
  have A9:=AM.tl
  refine⟨_,rfl,Fd (λhb=>q _ _ _ _ (.wait hb) (Hc.pad A9) k5) (λhb=>?_)⟩
  have ne:∀{i:Nat}{r:List Int},B[i]?=some r->∃a t,r=a::t:=fun {i r} h=>by
   cases r with
   | cons a t=>exact⟨a,t,rfl⟩
   | nil =>
    have:Bf B=true:=jO.mpr ⟨[],zE h,rfl⟩
    rw[this]at hb
    cases hb
  refine⟨_,rfl,p,C,dx,_,_,rfl,A9.get 0 0 rfl rfl,cl,nW,Tx,p1,rfl,⟨_,ze.of (A9.get 0 1 rfl rfl)⟩,jp (K:=K) (a:=p1) (xs:=ws.map V.int) (λi σ H7=>∃(v:Option V),σ=[some (.ref p),some (.int wv),some (.int z),some (.int (heads (B.take i))),v] /\
   Tk H H7/\Hc H7 (Cv C dx p p1 p2 d ws ls ys::Ab ls (CW B i)::M)) ⟨none,rfl,k5,by rw[pQ];exact A9⟩ (λi σ H7 _ ⟨_,_,_,h⟩=>ze.of (h.get 0 1 rfl rfl)) ?_ ?_⟩
  ·rintro i x σ H7 hi ⟨v,rfl,k7,G⟩
   obtain⟨v2,rfl,hv⟩:=cq hi
   have Fu:=(zC.mp hv).1
   obtain⟨l2,BF⟩:∃l,ls[i]?=some l:=⟨ls[i]'(by lia),zD _⟩
   obtain⟨r2,Y⟩:∃r,B[i]?=some r:=⟨B[i]'(by lia),zD _⟩
   obtain⟨a0,t0,rfl⟩:=ne Y
   have Gs:=G.get 1 i rfl (dL BF (lE Y))
   refine⟨_,rfl,_,rfl,p,C,dx,_,_,rfl,G.get 0 0 rfl rfl,cl,nK,lk,_,rfl,d,_,rfl,Co.ki (G.get 0 3 rfl rfl) (i_ Hn hv BF),CH Gs,l2,_,0,0,V.int a0,rfl,rfl,Gs,by decide,by decide,seqIndex_of (k:=0) (by decide) (by rw[zB,yD];lia),rfl,?_⟩
   refine⟨_,_,rfl,rfl,?_⟩
   have Ir:=G.put 1 i rfl (dL BF (lE Y)) (.lst (t0.map V.int))
   rw[iF _ BF]at Ir
   have e8:=rU Y
   refine⟨some (.int v2),?_,k7.put Gs (λz=>z),?_⟩
   rotate_left
   ·rw[←e8]
    exact Ir
   ·rw[yR,Y]
    show _=[some (V.ref p),some (V.int wv),some (V.int z),some (V.int (heads (B.take i++[a0::t0]))),_]
    rw[mZ]
    rfl
  ·rintro σ H7 ⟨v,rfl,k7,G⟩
   rw[zB,←OK,rX]at G
   rw[zB,←OK,zY]
   refine⟨_,rfl,p,dx,_,rfl,G.get 0 0 rfl rfl,vm _ _ _ (by decide +kernel) (by decide +kernel) (by decide +kernel),_,rfl,?_⟩
   exact⟨p,C,dx,p2,_,ys,_,rfl,G.get 0 0 rfl rfl,c.st,lO _ _ _,G.get 0 2 rfl rfl,λe=>q _ _ _ _ (.M4 hb e) (Hc.pad G) k7,λy r t e nt=>q _ _ _ _ (.put hb e t) (G.new nt _) (k7.new nt)⟩
inductive Kd where
 | Ak (n:Int)
 | zp
 | rd (n:Int)
 | kc
 | sink
deriving DecidableEq
set_option genInjectivity false in
set_option genSizeOf false in
structure Cs where
 rl:Addr
 so:Addr
 th:Addr
 jn:Addr
 si:Addr
def Cs.of(cs:Cs):Kd->Addr
 | .Ak _=>cs.rl
 | .zp=>cs.so
 | .rd _=>cs.th
 | .kc=>cs.jn
 | .sink=>cs.si
structure CY(K:PySem.W.Frag)(cs:Cs):Prop where
 rl:QF K cs.rl
 so:Io K cs.so
 th:QG K cs.th
 jn:QH K cs.jn
 si:Io K cs.si
set_option genInjectivity false in
set_option genSizeOf false in
structure SR where
 x:Addr
 dx:Addr
 p1:Addr
 p2:Addr
 d:Addr
 k:Kd
 ws:List Int
 bs:List Int
 ls:List Addr
 seen:Int
 rows:List (List Int)
def SR.zg(r:SR):List (Str×V):=match r.k with
 | .Ak n=>fR r.p1 r.p2 n
 | .zp=>fS r.p1 r.p2
 | .rd n=>fT r.p1 r.p2 n r.seen
 | .kc=>fJ r.p1 r.p2 r.d
 | .sink=>fS r.p1 r.p2
def SR.more(r:SR):List Cell:=match r.k with
 | .kc=>(r.d,.dK (jk r.ws r.ls))::Ab r.ls r.rows
 | _=>[]
def Cy(cs:Cs)(r:SR):List Cell:=(r.x,.ins (cs.of r.k) r.dx r.zg)::(r.p1,.tup (r.ws.map V.int))::(r.p2,.tup (r.bs.map V.int))::r.more
structure DT(m:Nat)(r:SR):Prop where
 nd:r.ws.Nodup
 l1:r.ws.length<=100
 jn:r.k=.kc->r.ls.length=r.ws.length/\r.rows.length=r.ws.length/\∀row∈r.rows,row.length<=m
 th:∀n,r.k=.rd n->2<=n
variable{r:SR}
theorem SR.E2(r:SR)(h0:¬x="kept")(h1:¬x="belts")(h2:¬x="ways")(h3:¬x="more")(h4:¬x="seen")(h5:¬x="every"):r.zg.lookup x=none:=by
 unfold SR.zg
 cases r.k with
 | Ak n=>exact vh _ _ _ h3 h1 h2
 | zp=>exact lR _ _ h1 h2
 | rd n=>exact vg _ _ _ _ h4 h5 h1 h2
 | kc=>exact vm _ _ _ h0 h1 h2
 | sink=>exact lR _ _ h1 h2
def SR.add(r:SR)(j:Nat)(z:Int):List (List Int):=r.rows.set j (r.rows.getD j []++[z])
def SR.out(r:SR)(j:Nat)(z:Int):Option (Int×Int):=match r.k with
 | .Ak n=>r.bs.head?.map λb=>(b,z+n)
 | .zp=>if r.bs=[]then none else (r.bs[(z%(r.bs.length:Int)).toNat]?).map λb=>(b,z)
 | .rd n=>if (r.seen+1)%n=0 then none else r.bs.head?.map λb=>(b,z)
 | .kc=>if Bf (r.add j z)then none else r.bs.head?.map λb=>(b,heads (r.add j z))
 | .sink=>none
def SR.Aw(r:SR)(j:Nat)(z:Int):SR:=match r.k with
 | .rd _=>{ r with seen:=r.seen+1 }
 | .kc=>{ r with rows:=if Bf (r.add j z)then r.add j z else (r.add j z).map List.tail }
 | _=>r
theorem SR.DU(r:SR)(j:Nat)(z:Int):(r.Aw j z).x=r.x/\(r.Aw j z).k=r.k/\(r.Aw j z).ws=r.ws/\(r.Aw j z).bs=r.bs:=by
 unfold SR.Aw
 cases e:r.k <;>simp [e]
theorem DT.Aw{m:Nat}(h:DT m r)(j:Nat)(z:Int):DT (m+1) (r.Aw j z):=by
 obtain⟨x,dx,p1,p2,d,k,ws,bs,ls,seen,rows⟩:=r
 cases k with
 | Ak n=>exact⟨h.nd,h.l1,λe=>(by cases e),λn e=>h.th n e⟩
 | zp=>exact⟨h.nd,h.l1,λe=>(by cases e),λn e=>by cases e⟩
 | sink=>exact⟨h.nd,h.l1,λe=>(by cases e),λn e=>by cases e⟩
 | rd n=>exact⟨h.nd,h.l1,λe=>(by cases e),λn e=>h.th n e⟩
 | kc =>
  refine⟨h.nd,h.l1,λ_=>?_,λn e=>by cases e⟩
  obtain⟨h1,h2,h3⟩:=h.jn rfl
  have ha:∀row∈SR.add ⟨x,dx,p1,p2,d,.kc,ws,bs,ls,seen,rows⟩ j z,row.length<=m+1:=λrow hr=>by
   rcases vY hr with e|e
   ·have:=h3 row e;lia
   ·rw[e,zN]
    have:(rows.getD j []).length<=m:=by
     rw[zA]
     cases hj:rows[j]? with
     | none=>exact yH _
     | some B=>exact h3 B (zE hj)
    show(rows.getD j []).length+1<=_
    lia
  have G:(SR.add ⟨x,dx,p1,p2,d,.kc,ws,bs,ls,seen,rows⟩ j z).length=ws.length:=by
   unfold SR.add
   rw[yG]
   exact h2
  have O:(SR.Aw ⟨x,dx,p1,p2,d,.kc,ws,bs,ls,seen,rows⟩ j z).rows=if Bf (SR.add ⟨x,dx,p1,p2,d,.kc,ws,bs,ls,seen,rows⟩ j z)then SR.add ⟨x,dx,p1,p2,d,.kc,ws,bs,ls,seen,rows⟩ j z else (SR.add ⟨x,dx,p1,p2,d,.kc,ws,bs,ls,seen,rows⟩ j z).map List.tail:=rfl
  refine⟨h1,?_,?_⟩
  ·rw[O]
   split
   ·exact G
   ·rw[zB];exact G
  ·rw[O]
   split
   ·exact ha
   ·intro row hr
    obtain⟨B,h0,rfl⟩:=yF.mp hr
    have:=ha B h0
    rw[vQ]
    lia
theorem DT.le{m:Nat}(h:DT m r)(e:m<=n):DT n r:=⟨h.nd,h.l1,λk=>let ⟨a,b,d⟩:=h.jn k;⟨a,b,λrow hr=>yE (d row hr) e⟩,h.th⟩
inductive QJ:Option (Int×Int)->V->List Cell->Prop
 | no:QJ none .y2 []
 | yes (b y:Int) (t:Addr):QJ (some (b,y)) (.ref t) [(t,.tup [.int b,.int y])]
inductive Fn(cs:Cs)(k:Kd)(vs:List V)(H:Hp)(Q:VK)(wc:XK):Prop where
 | mk (r:SR) (j m:Nat) (wv z:Int) (M:List (List Cell)) (ui:vs=[.ref r.x,.int wv,.int z]) (uj:r.k=k) (zf:Hc H (Cy cs r::M)) (zq:DT m r) (Ai:m<=90000) (AA:r.ws[j]?=some wv) (Bl:∀(v:V)(ft:List Cell)(H':Hp),QJ (r.out j z) v ft->Hc H' (ft::Cy cs (r.Aw j z)::M)->Tk H H'->Q v H'):Fn cs k vs H Q wc
def Jz:Sp:=λvs H Q _=>vs.length=3/\Q .y2 H
theorem s_:AU ["self","way","piece"] ["self","way","piece"] (zc (inClass (top 26) 1)):=⟨rfl,rfl,rfl,by decide +kernel,rfl,by decide +kernel,by decide +kernel⟩
theorem wI{f:Addr}(F:Ac K "take" "Station.take" (inClass (top 26) 1) f fd):mu P w K mg base Aa 1 f fd ["self","way","piece"] Jz:=by
 have nd:=s_.nd
 refine F.ok s_ (λvs H Q E h=>h.1) (λBj A outer s H vs Q E hr h=>?_)
 refine⟨_,(~~~bS),?_⟩
 exact h.2
theorem qq{cs:Cs}(G1:MethAt P w K mg base 2 cs.rl "take" ["self","way","piece"] (Gj cs.rl))(G2:MethAt P w K mg base 1 cs.so "take" ["self","way","piece"] (Gk cs.so))(G3:MethAt P w K mg base 2 cs.th "take" ["self","way","piece"] (Gn cs.th))
  (G4:MethAt P w K mg base 2 cs.jn "take" ["self","way","piece"] (Gq cs.jn)) (G5:MethAt P w K mg base 1 cs.si "take" ["self","way","piece"] Jz) (k:Kd):MethAt P w K mg base 2 (cs.of k) "take" ["self","way","piece"] (Fn cs k):=by
 cases k with
 | Ak n =>
  refine G1.imp λvs H Q E h=>?_
  walk_at "y"
  refine⟨x,dx,p1,p2,n,z,_,bs.map V.int,rfl,hc.get 0 0 rfl rfl,hc.get 0 2 rfl rfl,λB=>?_,λy rr t B nt=>?_⟩
  ·have:bs=[]:=q8.mp B
   subst this
   exact q _ _ _ .no hc.pad (Tk.refl _)
  ·cases bs with
   | nil=>cases B
   | cons b bs =>
    cases B
    exact q _ _ _ (.yes _ _ t) (hc.new nt _) ((Tk.refl _).new nt)
 | zp =>
  refine(G2.mono (by decide)).imp λvs H Q E h=>?_
  walk_at "y"
  refine⟨x,dx,p1,p2,z,_,bs,rfl,hc.get 0 0 rfl rfl,hc.get 0 2 rfl rfl,λB=>?_,λy t B hy nt=>?_⟩
  ·subst B
   exact q _ _ _ .no hc.pad (Tk.refl _)
  ·have eo:SR.out ⟨x,dx,p1,p2,d,.zp,ws,bs,ls,seen,rows⟩ j z=some (y,z):=by
    show(if bs=[]then none else (bs[(z%(bs.length:Int)).toNat]?).map λb=>(b,z))=_
    rw[if_neg B,hy]
    rfl
   exact q _ _ _ (by rw[eo];exact .yes _ _ t) (hc.new nt _) ((Tk.refl _).new nt)
 | rd n =>
  refine G3.imp λvs H Q E h=>?_
  walk_at "y"
  have O:=hc.put 0 0 rfl rfl (.ins cs.th dx (fT p1 p2 n (seen+1)))
  have U:Tk H (upd H x (.ins cs.th dx (fT p1 p2 n (seen+1)))):=(Tk.refl H).put (hc.get 0 0 rfl rfl) (λz=>z)
  refine⟨x,dx,p1,p2,n,seen,z,_,bs.map V.int,rfl,hc.get 0 0 rfl rfl,hc.get 0 2 rfl rfl,ok.th n rfl,λhn=>?_,λy rr t hn B nt=>?_⟩
  ·have eo:SR.out ⟨x,dx,p1,p2,d,.rd n,ws,bs,ls,seen,rows⟩ j z=none:=by
    show(if (seen+1)%n=0 then none else bs.head?.map λb=>(b,z))=_
    rcases hn with h|h
    ·rw[if_pos h]
    ·have:bs=[]:=q8.mp h
     rw[this]
     split <;>rfl
   exact q _ _ _ (by rw[eo];exact .no) O.pad U
  ·cases bs with
   | nil=>cases B
   | cons b bs =>
    cases B
    have eo:SR.out ⟨x,dx,p1,p2,d,.rd n,ws,b::bs,ls,seen,rows⟩ j z=some (b,z):=by
     show(if (seen+1)%n=0 then none else (b::bs).head?.map λb=>(b,z))=_
     rw[if_neg hn]
     rfl
    have Tz:(upd H x (.ins cs.th dx (fT p1 p2 n (seen+1)))) t=none:=by
     rw[bj (λz=>by have:=hc.get 0 0 rfl rfl;rw[←z,nt]at this;cases this)]
     exact nt
    exact q _ _ _ (by rw[eo];exact .yes _ _ t) (O.new Tz _) (U.new Tz)
 | kc =>
  refine G4.imp λvs H Q E h=>?_
  walk_at "y"
  obtain⟨h1,h2,h3⟩:=ok.jn rfl
  have ME:j<ws.length:=(zC.mp hw).1
  have Pl:rows.length=ws.length:=h2
  obtain⟨row,G⟩:∃row,rows[j]?=some row:=⟨rows[j]'(by lia),zD _⟩
  have Jo:Hc H (Cv cs.jn dx x p1 p2 d ws ls (bs.map V.int)::Ab ls rows::M):=Hc.split (a:=Cv cs.jn dx x p1 p2 d ws ls (bs.map V.int)) (b:=Ab ls rows) hc
  have ea:SR.add ⟨x,dx,p1,p2,d,.kc,ws,bs,ls,seen,rows⟩ j z=rows.set j (row++[z]):=by
   show rows.set j (rows.getD j []++[z])=_
   rw[zA,G]
   rfl
  refine⟨x,dx,p1,p2,d,wv,z,ws,ls,bs.map V.int,j,rows,row,M,rfl,Jo,ok.nd,ok.l1,h1,h2,hw,G,by have:=h3 row (zE G);lia,λv ft Cw H' out Y k2=>?_⟩
  rw[←ea]at out
  have hj:∀{Cw},(SR.Aw ⟨x,dx,p1,p2,d,.kc,ws,bs,ls,seen,rows⟩ j z).rows=Cw->Hc H' (ft::Cv cs.jn dx x p1 p2 d ws ls (bs.map V.int)::Ab ls Cw::M)->Hc H' (ft::Cy cs (SR.Aw ⟨x,dx,p1,p2,d,.kc,ws,bs,ls,seen,rows⟩ j z)::M):=fun {Cw} e h=>by
   subst e
   exact Hc.swap (Hc.join (a:=Cv cs.jn dx x p1 p2 d ws ls (bs.map V.int)) (b:=Ab ls _) ((h.pick 2 rfl).pick 2 rfl))
  have eN:(SR.Aw ⟨x,dx,p1,p2,d,.kc,ws,bs,ls,seen,rows⟩ j z).rows=if Bf (SR.add ⟨x,dx,p1,p2,d,.kc,ws,bs,ls,seen,rows⟩ j z)then (SR.add ⟨x,dx,p1,p2,d,.kc,ws,bs,ls,seen,rows⟩ j z)else (SR.add ⟨x,dx,p1,p2,d,.kc,ws,bs,ls,seen,rows⟩ j z).map List.tail:=rfl
  have eO:SR.out ⟨x,dx,p1,p2,d,.kc,ws,bs,ls,seen,rows⟩ j z=if Bf (SR.add ⟨x,dx,p1,p2,d,.kc,ws,bs,ls,seen,rows⟩ j z)then none else bs.head?.map λb=>(b,heads (SR.add ⟨x,dx,p1,p2,d,.kc,ws,bs,ls,seen,rows⟩ j z)):=rfl
  cases out with
  | wait h =>
   refine q _ _ _ ?_ (hj (by rw[eN,if_pos h]) Y) k2
   rw[eO,if_pos h]
   exact .no
  | M4 h e =>
   refine q _ _ _ ?_ (hj (by rw[eN,h];rfl) Y) k2
   have:bs=[]:=q8.mp e
   rw[eO,h,this]
   exact .no
  | put h e t =>
   cases bs with
   | nil=>cases e
   | cons b bs =>
    cases e
    refine q _ _ _ ?_ (hj (by rw[eN,h];rfl) Y) k2
    rw[eO,h]
    exact .yes _ _ t
 | sink =>
  refine(G5.mono (by decide)).imp λvs H Q E h=>?_
  walk_at "y"
  exact⟨rfl,q _ _ _ .no hc.pad (Tk.refl _)⟩
theorem gd(f:α->Bool):∀(l:List α)(k:Nat)(x:Int),x∈idx f k l->(k:Int)<=x
 | [],_,_,h=>absurd h zI
 | y::l,k,x,h=>by
  unfold idx at h
  by_cases hf:f y=true
  ·rw[if_pos hf]at h
   rcases zO.mp h with e|e
   ·lia
   ·have:=gd f l (k+1) x e
    lia
  ·rw[if_neg hf]at h
   have:=gd f l (k+1) x h
   lia
theorem jj(f:α->Bool):∀(l:List α)(k:Nat),(idx f k l).Pairwise (· < ·)
 | [],_=>List.Pairwise.nil
 | y::l,k=>by
  unfold idx
  by_cases hf:f y=true
  ·rw[if_pos hf]
   refine yY.mpr ⟨λx hx=>?_,jj f l (k+1)⟩
   have:=gd f l (k+1) x hx
   lia
  ·rw[if_neg hf]
   exact jj f l (k+1)
theorem yv{l:List Int}(h:l.Pairwise (· < ·)):l.Nodup:=h.imp λh e=>by lia
theorem Wk.M6(W:Wk)(s:Int):(W.wy s).Pairwise (· < ·):=by
 unfold Wk.wy
 split
 ·refine yY.mpr ⟨λx hx=>?_,jj _ _ _⟩
  have:=gd _ _ _ _ hx
  lia
 ·exact jj _ _ _
theorem Wk.Cz(W:Wk)(s:Int):(W.wy s).Nodup:=yv (W.M6 s)
theorem Wk.Gu(ok:W.Ok)(s:Int):(W.wy s).length<=13:=by
 have h1:=df (λ(t:fc)=>t.2.1==s) W.be 0
 have h2:=ok.BN
 unfold Wk.wy
 rw[zN]
 split
 ·show 1+_<=13;lia
 ·show 0+_<=13;lia
theorem Wk.KO(ok:W.Ok)(s:Int):(W.lv s).length<=12:=by
 have h1:=df (λ(t:fc)=>t.1==s) W.be 0
 have h2:=ok.BN
 unfold Wk.lv
 lia
def kdOf(s:EY):Kd:=if s.1="relay" then .Ak (s.2.getD 0)else if s.1="sorter" then .zp else if s.1="thinner" then .rd (s.2.getD 0)else if s.1="joiner" then .kc else .sink
theorem ma(n:Option Int):kdOf ("relay",n)=.Ak (n.getD 0):=by unfold kdOf;rw[if_pos rfl]
theorem iZ(n:Option Int):kdOf ("sorter",n)=.zp:=by
 unfold kdOf
 rw[if_neg (show ¬(("sorter":Str)="relay") by decide +kernel),if_pos rfl]
theorem ie(n:Option Int):kdOf ("thinner",n)=.rd (n.getD 0):=by
 unfold kdOf
 rw[if_neg (show ¬(("thinner":Str)="relay") by decide +kernel),if_neg (show ¬(("thinner":Str)="sorter") by decide +kernel),if_pos rfl]
theorem iI(n:Option Int):kdOf ("joiner",n)=.kc:=by
 unfold kdOf
 rw[if_neg (show ¬(("joiner":Str)="relay") by decide +kernel),if_neg (show ¬(("joiner":Str)="sorter") by decide +kernel),if_neg (show ¬(("joiner":Str)="thinner") by decide +kernel),if_pos rfl]
theorem oR(n:Option Int):kdOf ("sink",n)=.sink:=by
 unfold kdOf
 rw[if_neg (show ¬(("sink":Str)="relay") by decide +kernel),if_neg (show ¬(("sink":Str)="sorter") by decide +kernel),if_neg (show ¬(("sink":Str)="thinner") by decide +kernel),if_neg (show ¬(("sink":Str)="joiner") by decide +kernel)]
structure Made(W:Wk)(s:Nat)(r:SR):Prop where
 k:∃st,W.st[s]?=some st/\r.k=kdOf st
 ws:r.ws=W.wy s
 bs:r.bs=W.lv s
 seen:r.seen=0
 rows:r.rows=if r.k=.kc then (W.wy s).map (λ_=>[])else []
 ok:DT 0 r
inductive Dp(vs:List V)(H:Hp)(Q:VK)(wc:XK):Prop where
 | mk (w:Addr) (W:Wk) (s:Int) (M:List (List Cell)) (ui:vs=[.ref w,.int s]) (uj:Ag H w W) (zf:W.Ok) (zq:Hc H M) (Ai:∀(t p1 p2:Addr)(H':Hp),c0 H H'->Hc H' ([(t,.tup [.ref p1,.ref p2]),(p1,.lst ((W.wy s).map V.int)),(p2,.lst ((W.lv s).map V.int))]::M)->Q (.ref t) H'):Dp vs H Q wc
inductive Iv(cs:Cs)(vs:List V)(H:Hp)(Q:VK)(wc:XK):Prop where
 | mk (w:Addr) (W:Wk) (s:Nat) (M:List (List Cell)) (ui:vs=[.ref w,.int s]) (uj:Ag H w W) (zf:W.Ok) (zq:s<W.st.length) (Ai:Hc H M) (AA:∀(r:SR)(H':Hp),c0 H H'->Hc H' (Cy cs r::M)->Made W s r->Q (.ref r.x) H'):Iv cs vs H Q wc
theorem aT{f:Addr}(F:Ac K "sides" "sides" (top 24) f fd)(Y:FnAt P w K mg base 1 "ways" ["works","station"] Eu)(aK:FnAt P w K mg base 1 "leaving" ["works","station"] Ew) :
  mu P w K mg base Aa 2 f fd ["works","station"] Dp:=by
 exists ["works","station"]
 obtain⟨w,W,z,M,rfl,hw,ok,hc,q⟩:=h
 refine⟨_,(~~~(@bF _ _ _ _ _ ((Y<&>({0}>>{1}>>a_))>>(aK<&>({0}>>{1}>>a_))>>a_))),?_⟩
 refine⟨_,rfl,_,rfl,w,W,z,rfl,hw,ok,λp1 H1 n1 h1 s1=>⟨_,rfl,_,rfl,w,W,z,rfl,hw.same s1,ok,λp2 H2 n2 h2 s2=>⟨(by show 2<=sizeLine;decide),λt nt=>?_⟩⟩⟩
 have B:=hc.Er n1 h1 s1
 have G:=B.Er n2 h2 s2
 have O:Hc _ ([(t,.tup [.ref p1,.ref p2])]::[(p2,.lst ((W.lv z).map V.int))]::[(p1,.lst ((W.wy z).map V.int))]::M):=G.new nt _
 have U:Hc _ ([(t,.tup [.ref p1,.ref p2])]::[(p1,.lst ((W.wy z).map V.int))]::[(p2,.lst ((W.lv z).map V.int))]::M):=(O.pick 2 rfl).pick 1 rfl
 exact q t p1 p2 _ ((s1.trans s2).trans (c0.new nt)) U.join.join
theorem yt{f:Addr}{cs:Cs}(F:Ac K "station_of" "station_of" (top 32) f fd)(c:CY K cs)(aZ:FnAt P w K mg base 2 "sides" ["works","station"] Dp)
  (aY:DN P w K mg base 2 "Relay" cs.rl ["self","ways","belts","more"] (Gi K)) (aU:DN P w K mg base 1 "Sorter" cs.so ["self","ways","belts"] (Cu K)) (aJ:DN P w K mg base 2 "Thinner" cs.th ["self","ways","belts","every"] (Gm K))
  (aQ:DN P w K mg base 2 "Joiner" cs.jn ["self","ways","belts"] (Gp K)) (a9:DN P w K mg base 1 "Sink" cs.si ["self","ways","belts"] (Cu K)) :
  mu P w K mg base Aa 4 f fd ["works","station"] (Iv cs):=by
 exists ["works","station","told","kind","around"]
 obtain⟨w,W,z,M,rfl,hw,ok,hz,hc,q⟩:=h
 refine⟨_,((2>>=(({0}<*>bh)<*{1}))<|>(3>>=({2}<*>bh))<|>(4>>=(aZ<&>({0}>>{1}>>a_)))<|>bL (bp bU {3} bE (bq _)) (~~~(iL aY (hr.mono (by decide)) (by rfl) (({4}<*>bh)>>({4}<*>bh)>>({2}<*>bh)>>a_))) bz<|>bL (bp bU {3} bE (bq _)) (~~~(iL aU (hr.mono (by decide)) (by rfl) (({4}<*>bh)>>({4}<*>bh)>>a_))) bz<|>bL (bp bU {3} bE (bq _)) (~~~(iL aJ (hr.mono (by decide)) (by rfl) (({4}<*>bh)>>({4}<*>bh)>>({2}<*>bh)>>a_))) bz<|>bL (bp bU {3} bE (bq _)) (~~~(iL aQ (hr.mono (by decide)) (by rfl) (({4}<*>bh)>>({4}<*>bh)>>a_))) bz<|>(~~~(iL a9 (hr.mono (by decide)) (by rfl) (({4}<*>bh)>>({4}<*>bh)>>a_)))),?_⟩
 obtain⟨sa,ba,fa,xs,ys,zs,h1,h2⟩:=id hw.ex
 have ls:=h2.ps.length
 obtain⟨xv,hx⟩:∃x,xs[z]?=some x:=⟨xs[z]'(by lia),zD _⟩
 obtain⟨st,DB,hp⟩:=h2.ps.gt hx
 obtain⟨ta,rfl,Y⟩:=hp
 have QK:=ok.Ea st (zE DB)
 have OL:=W.Gu ok z
 refine⟨_,rfl,(h1<<<0>>>⟨_,rfl,⟨_,_,_,_,rfl,rfl,eH.of h2.hs,d5 hx,?_⟩⟩)⟩
 have mk:∀{H1 H2:Hp}{x dx:Addr}{o:HO},c0 H H1->H1 x=none->H1 dx=none->ql [x] (upd (upd H1 dx (.own x)) x o) H2->c0 H H2:=λs1 nx G kp b o e =>
  kp b o (((c0.new G).upd nx) b o (s1 b o e)) (by rw[zF];exact bi (s1 b o e) nx)
 rcases QK with ⟨n,rfl,_⟩|rfl|⟨n,rfl,hn,_⟩|rfl|rfl
 ·refine⟨_,rfl,(Y<<<0>>>⟨_,rfl,_,rfl,w,W,z,M,rfl,hw,ok,hc,λt q1 q2 H1 s1 B=>?_⟩)⟩
  refine⟨_,rfl,rfl,_,rfl,?_⟩
  rw[show decide (V.str "relay"=V.str "relay")=true from by decide +kernel]
  refine vr ⟨_,rfl,(B.get 0 0 rfl rfl<<<0>>>⟨_,rfl,(B.get 0 0 rfl rfl<<<1>>>⟨_,rfl,(s1 _ _ Y<<<1>>>(λx dx nx G U=>?_))⟩)⟩)⟩
  have B6:=(B.new G (.own x)).new (p:=x) (by rw[bj (Ne.symm U)];exact nx) (.ins cs.rl dx [])
  refine⟨x,q1,q2,cs.rl,dx,_,_,n,_,rfl,B6,c.rl,eH.of (B6.get 2 1 rfl rfl),eH.of (B6.get 2 2 rfl rfl),bi (B.get 0 1 rfl rfl) nx,bi (B.get 0 2 rfl rfl) nx,λp1 p2 H' kp O=>⟨rfl,?_⟩⟩
  exact q ⟨x,dx,p1,p2,0,.Ak n,W.wy z,W.lv z,[],0,[]⟩ H' (mk s1 nx G kp) (((O.pick 1 rfl).tl.pick 1 rfl).tl) ⟨⟨_,DB,by rw[ma];rfl⟩,rfl,rfl,rfl,rfl,⟨W.Cz z,by show(W.wy z).length<=100;lia,λe=>(by cases e),λn e=>by cases e⟩⟩
 ·refine⟨_,rfl,(Y<<<0>>>⟨_,rfl,_,rfl,w,W,z,M,rfl,hw,ok,hc,λt q1 q2 H1 s1 B=>?_⟩)⟩
  refine⟨_,rfl,rfl,_,rfl,?_⟩
  rw[show decide (V.str "sorter"=V.str "relay")=false from by decide +kernel]
  refine nj ⟨_,rfl,rfl,_,rfl,?_⟩
  rw[show decide (V.str "sorter"=V.str "sorter")=true from by decide +kernel]
  refine vr ⟨_,rfl,(B.get 0 0 rfl rfl<<<0>>>⟨_,rfl,(B.get 0 0 rfl rfl<<<1>>>(λx dx nx G U=>?_))⟩)⟩
  have B6:=(B.new G (.own x)).new (p:=x) (by rw[bj (Ne.symm U)];exact nx) (.ins cs.so dx [])
  refine⟨x,q1,q2,cs.so,dx,_,_,_,rfl,B6,c.so,eH.of (B6.get 2 1 rfl rfl),eH.of (B6.get 2 2 rfl rfl),bi (B.get 0 1 rfl rfl) nx,bi (B.get 0 2 rfl rfl) nx,λp1 p2 H' kp O=>⟨rfl,?_⟩⟩
  exact q ⟨x,dx,p1,p2,0,.zp,W.wy z,W.lv z,[],0,[]⟩ H' (mk s1 nx G kp) (((O.pick 1 rfl).tl.pick 1 rfl).tl) ⟨⟨_,DB,by rw[iZ]⟩,rfl,rfl,rfl,rfl,⟨W.Cz z,by show(W.wy z).length<=100;lia,λe=>(by cases e),λn e=>by cases e⟩⟩
 ·refine⟨_,rfl,(Y<<<0>>>⟨_,rfl,_,rfl,w,W,z,M,rfl,hw,ok,hc,λt q1 q2 H1 s1 B=>?_⟩)⟩
  refine⟨_,rfl,rfl,_,rfl,?_⟩
  rw[show decide (V.str "thinner"=V.str "relay")=false from by decide +kernel]
  refine nj ⟨_,rfl,rfl,_,rfl,?_⟩
  rw[show decide (V.str "thinner"=V.str "sorter")=false from by decide +kernel]
  refine nj ⟨_,rfl,rfl,_,rfl,?_⟩
  rw[show decide (V.str "thinner"=V.str "thinner")=true from by decide +kernel]
  refine vr ⟨_,rfl,(B.get 0 0 rfl rfl<<<0>>>⟨_,rfl,(B.get 0 0 rfl rfl<<<1>>>⟨_,rfl,(s1 _ _ Y<<<1>>>(λx dx nx G U=>?_))⟩)⟩)⟩
  have B6:=(B.new G (.own x)).new (p:=x) (by rw[bj (Ne.symm U)];exact nx) (.ins cs.th dx [])
  refine⟨x,q1,q2,cs.th,dx,_,_,n,_,rfl,B6,c.th,eH.of (B6.get 2 1 rfl rfl),eH.of (B6.get 2 2 rfl rfl),bi (B.get 0 1 rfl rfl) nx,bi (B.get 0 2 rfl rfl) nx,λp1 p2 H' kp O=>⟨rfl,?_⟩⟩
  exact q ⟨x,dx,p1,p2,0,.rd n,W.wy z,W.lv z,[],0,[]⟩ H' (mk s1 nx G kp) (((O.pick 1 rfl).tl.pick 1 rfl).tl) ⟨⟨_,DB,by rw[ie];rfl⟩,rfl,rfl,rfl,rfl,⟨W.Cz z,by show(W.wy z).length<=100;lia,λe=>(by cases e),λn' e=>by cases e;exact hn⟩⟩
 ·refine⟨_,rfl,(Y<<<0>>>⟨_,rfl,_,rfl,w,W,z,M,rfl,hw,ok,hc,λt q1 q2 H1 s1 B=>?_⟩)⟩
  refine⟨_,rfl,rfl,_,rfl,?_⟩
  rw[show decide (V.str "joiner"=V.str "relay")=false from by decide +kernel]
  refine nj ⟨_,rfl,rfl,_,rfl,?_⟩
  rw[show decide (V.str "joiner"=V.str "sorter")=false from by decide +kernel]
  refine nj ⟨_,rfl,rfl,_,rfl,?_⟩
  rw[show decide (V.str "joiner"=V.str "thinner")=false from by decide +kernel]
  refine nj ⟨_,rfl,rfl,_,rfl,?_⟩
  rw[show decide (V.str "joiner"=V.str "joiner")=true from by decide +kernel]
  refine vr ⟨_,rfl,(B.get 0 0 rfl rfl<<<0>>>⟨_,rfl,(B.get 0 0 rfl rfl<<<1>>>(λx dx nx G U=>?_))⟩)⟩
  have B6:=(B.new G (.own x)).new (p:=x) (by rw[bj (Ne.symm U)];exact nx) (.ins cs.jn dx [])
  refine⟨x,q1,q2,cs.jn,dx,_,_,_,rfl,B6,c.jn,eH.of (B6.get 2 1 rfl rfl),eH.of (B6.get 2 2 rfl rfl),bi (B.get 0 1 rfl rfl) nx,bi (B.get 0 2 rfl rfl) nx,W.Cz z,by lia,λp1 p2 d OM H' el kp O=>⟨rfl,?_⟩⟩
  have WT:=Hc.join (((O.pick 2 rfl).tl.pick 2 rfl).tl)
  have Iw:Hc H' (Cy cs ⟨x,dx,p1,p2,d,.kc,W.wy z,W.lv z,OM,0,(W.wy z).map λ_=>[]⟩::M):=Hc.join (a:=Cv cs.jn dx x p1 p2 d (W.wy z) OM ((W.lv z).map V.int)) (b:=Ab OM ((W.wy z).map λ_=>[])) (((((O.pick 2 rfl).tl.pick 2 rfl).tl).pick 1 rfl).pick 1 rfl)
  refine q ⟨x,dx,p1,p2,d,.kc,W.wy z,W.lv z,OM,0,(W.wy z).map λ_=>[]⟩ H' (mk s1 nx G kp) Iw ⟨⟨_,DB,by rw[iI]⟩,rfl,rfl,rfl,by rw[if_pos rfl],⟨W.Cz z,by show(W.wy z).length<=100;lia,λ_=>⟨el,by rw[zB],λrow hr=>?_⟩,λn e=>by cases e⟩⟩
  obtain⟨_,_,rfl⟩:=yF.mp hr
  exact zJ _
 ·refine⟨_,rfl,(Y<<<0>>>⟨_,rfl,_,rfl,w,W,z,M,rfl,hw,ok,hc,λt q1 q2 H1 s1 B=>?_⟩)⟩
  refine⟨_,rfl,rfl,_,rfl,?_⟩
  rw[show decide (V.str "sink"=V.str "relay")=false from by decide +kernel]
  refine nj ⟨_,rfl,rfl,_,rfl,?_⟩
  rw[show decide (V.str "sink"=V.str "sorter")=false from by decide +kernel]
  refine nj ⟨_,rfl,rfl,_,rfl,?_⟩
  rw[show decide (V.str "sink"=V.str "thinner")=false from by decide +kernel]
  refine nj ⟨_,rfl,rfl,_,rfl,?_⟩
  rw[show decide (V.str "sink"=V.str "joiner")=false from by decide +kernel]
  refine nj ⟨_,rfl,(B.get 0 0 rfl rfl<<<0>>>⟨_,rfl,(B.get 0 0 rfl rfl<<<1>>>(λx dx nx G U=>?_))⟩)⟩
  have B6:=(B.new G (.own x)).new (p:=x) (by rw[bj (Ne.symm U)];exact nx) (.ins cs.si dx [])
  refine⟨x,q1,q2,cs.si,dx,_,_,_,rfl,B6,c.si,eH.of (B6.get 2 1 rfl rfl),eH.of (B6.get 2 2 rfl rfl),bi (B.get 0 1 rfl rfl) nx,bi (B.get 0 2 rfl rfl) nx,λp1 p2 H' kp O=>⟨rfl,?_⟩⟩
  exact q ⟨x,dx,p1,p2,0,.sink,W.wy z,W.lv z,[],0,[]⟩ H' (mk s1 nx G kp) (((O.pick 1 rfl).tl.pick 1 rfl).tl) ⟨⟨_,DB,by rw[oR]⟩,rfl,rfl,rfl,rfl,⟨W.Cz z,by show(W.wy z).length<=100;lia,λe=>(by cases e),λn e=>by cases e⟩⟩
structure Az(Pd:Addr)(H H':Hp):Prop where
 keep:∀b u,H b=some u->((∀ps,u≠HO.AB ps)\/b≠Pd)->H' b=some u
 tabs:∀b ps,H b=some (.AB ps)->∃LA,H' b=some (.AB LA)
theorem Az.of(s:c0 H H'):Az Pd H H':=⟨λb u e _=>s b u e,λb ps e=>⟨ps,s _ _ e⟩⟩
theorem Az.trans(a:Az Pd H H')(b:Az Pd H' SN):Az Pd H SN:=⟨λc u e n=>b.keep c u (a.keep c u e n) n,λc ps e=>let ⟨LA,B⟩:=a.tabs c ps e;b.tabs c LA B⟩
theorem Az.tup(s:Az Pd H H')(e:H b=some (.tup xs)):H' b=some (.tup xs):=s.keep _ _ e (.inl λ_ z=>nomatch z)
theorem Az.lst(s:Az Pd H H')(e:H b=some (.lst xs)):H' b=some (.lst xs):=s.keep _ _ e (.inl λ_ z=>nomatch z)
theorem Az.upd(s:Az Pd H H')(n:H p=none):Az Pd H (upd H' p o) :=
 ⟨λb u e h=>by rw[bj (bi e n)];exact s.keep b u e h,λb ps e=>by rw[bj (bi e n)];exact s.tabs b ps e⟩
theorem Az.sm(s:Az Pd H H'):Sm H H':=⟨λb u e n=>s.keep b u e (.inl n),s.tabs⟩
theorem Az.free(s:Az Pd H H')(n:H' b=none):H b=none:=s.sm.free n
theorem tQ{P l:Addr}{i:Int}{Q:VK}(hl:eH K H1 l xs)(U:xs.length<64)(B:kz.length=xs.length)
  (hk:∀(j:Nat) x k,xs[j]?=some x->kz[j]?=some k->∃t ys,x=.ref t/\ze K H1 t ys/\Fi ys i=some (.int k)) (hT:zz P q ln cl H1)
  (fin:∀H6 D out,Az P H1 H6->zz P q ln cl H6->H1 D=none->H6 D=some (.lst out)->DP kz xs out->Q (.ref D) H6):Ih K P q ln cl i Q (.ref l) H1:=by
 refine⟨l,xs,kz,rfl,hl,U,B,hk,?_⟩
 rcases hT with hP|⟨c',hP,G⟩
 ·refine .inl ⟨hP,λc' D out O ne nD st=>fin _ D out ?_ ?_ nD bg st⟩
  ·have Y:P≠c':=bi hP O
   have WU:P≠D:=bi hP nD
   refine⟨λb u e h=>?_,λb ps e=>?_⟩
   ·have nb:b≠P:=h.elim (λh=>bK e hP (h _)) id
    rw[bj (bi e nD),bj (bi e O),bj nb];exact e
   ·by_cases hb:b=P
    ·subst hb;exact⟨_,by rw[bj WU,bj Y,bg]⟩
    ·exact⟨ps,by rw[bj (bi e nD),bj (bi e O),bj hb];exact e⟩
  ·exact .inr ⟨c',by rw[bj (bi hP nD),bj (bi hP O),bg],by rw[bj ne,bg]⟩
 ·refine .inr ⟨c',hP,G,λD out nD st=>fin _ D out (Az.of (c0.new nD)) ?_ nD bg st⟩
  exact zz.same (.inr ⟨c',hP,G⟩) (c0.new nD)
theorem d4.sm(s:Az Pd H H'){x:V}(h:d4 H x t):d4 H' x t:=let ⟨p,e,q⟩:=h;⟨p,e,s.tup q⟩
theorem zu.sm(s:Az Pd H H'){x:V}{t:EY}(h:zu H x t):zu H' x t:=let ⟨p,e,q⟩:=h;⟨p,e,s.tup q⟩
theorem Ag.sm{w:Addr}(e:Az Pd H H')(h:Ag H w W):Ag H' w W:=by
 obtain⟨s,b,f,xs,ys,zs,h1,h2⟩:=h.ex
 exact⟨s,b,f,xs,ys,zs,e.tup h1,e.lst h2.hs,e.lst h2.hb,e.lst h2.hf,bf (λ_ _=>zu.sm e) h2.ps,bf (λ_ _=>d4.sm e) h2.pb,bf (λ_ _=>d4.sm e) h2.pf⟩
inductive wh(H:Hp)(x:V)(t:Int×Int):Prop where
 | mk (p:_) (ui:x=.ref p) (uj:H p=some (.tup [.int t.1,.int t.2])):wh H x t
def JA(t:Int×Int):PyData:=.tuple [.int t.1,.int t.2]
theorem wh.same(s:c0 H H'){x:V}{t:Int×Int}(h:wh H x t):wh H' x t:=let ⟨p,e,q⟩:=h;⟨p,e,s _ _ q⟩
theorem wh.keep(e:H a=some (.lst xs)){x:V}{t:Int×Int}(h:wh H x t):wh (upd H a (.lst ys)) x t:=by
 obtain⟨p,rfl,q⟩:=h
 exact⟨p,rfl,by rw[bj (bK q e (by intro z;cases z))];exact q⟩
theorem wh.dt{x:V}{t:Int×Int}(h:wh H x t):Dt K H 1 x (JA t):=by
 obtain⟨p,rfl,e⟩:=h
 exact .tup (ze.of e) (.cons (.int _ _) (.cons (.int _ _) (.nil _)))
theorem w5{rs:List V}{ts:List (Int×Int)}(h:H p=some (.lst rs))(r:Paired (wh H) rs ts):Dt K H 2 (.ref p) (.list (ts.map JA)) :=
 .lst (eH.of h) (zy.of (f:=JA) (P:=wh H) (λ_ _ h=>h.dt) r)
def Wk.Gv(W:Wk)(s:Int):List fc:=(List.range 51).flatMap λ(t:Nat)=>W.fe.filter λf=>f.1==s&&f.2.1==(t:Int)
def M7(t:fc):Int×Int:=(t.2.1,t.2.2)
def Wk.dr(W:Wk)(s:Int):List (Int×Int):=(W.Gv s).map M7
abbrev dq:Str:="door.<locals>.<lambda>"
abbrev zh(P:Addr)(H:Hp):Prop:=zz P dq 72 61 H
inductive Ey(Pd:Addr)(vs:List V)(H:Hp)(Q:VK)(wc:XK):Prop where
 | mk (w:Addr) (W:Wk) (s:Int) (ui:vs=[.ref w,.int s]) (uj:Ag H w W) (zf:W.Ok) (zq:zh Pd H) (Ai:∀(p:Addr)(rs:List V)(H':Hp),H p=none->H' p=some (.lst rs)->Paired (wh H') rs (W.dr s)->Az Pd H H'->zh Pd H'->rs.length<=60->Q (.ref p) H'):Ey Pd vs H Q wc
theorem wA(ok:W.Ok){s:Int}(hp:is.Perm (List.range (W.fe.filter λf=>f.1==s).length))
  (hw:is.Pairwise (λi j=>((W.fe.filter λf=>f.1==s).map λ(f:fc)=>f.2.1).getD i 0<((W.fe.filter λf=>f.1==s).map λ(f:fc)=>f.2.1).getD j 0\/(((W.fe.filter λf=>f.1==s).map λ(f:fc)=>f.2.1).getD i 0=((W.fe.filter λf=>f.1==s).map λ(f:fc)=>f.2.1).getD j 0/\i<j))) :
  is.map (λi=>(W.fe.filter λf=>f.1==s).getD i (0,0,0))=W.Gv s:=by
 rw[mi (0,0,0) (λ(f:fc)=>f.2.1) (m:=51) (λx hx=>?_) hp hw]
 ·unfold Wk.Gv
  congr 1
  funext t
  rw[kG]
  refine j0 λx _=>?_
  rw[vC]
 ·obtain⟨h1,h2,h3,h4,_⟩:=ok.EZ x (zR.mp hx).1
  exact⟨h3,by lia⟩
theorem aI:AU ["works","station","feeds"] ["works","station"] (zc (top 21)):=⟨rfl,rfl,rfl,by decide +kernel,rfl,by decide +kernel,by decide +kernel⟩
theorem aW{f c:Addr}(F:Ac K "door" "door" (top 21) f fd)(hc:fd.code=.ref c)(tb:Tab K mg base c Pd)(T:Txt K mg):mu P w K mg base Aa 1 f fd ["works","station"] (Ey Pd):=by
 have nd:=aI.nd
 refine F.Ti hc aI (λvs H Q E h=>?_) (λA outer s H vs Q E hr h=>?_)
 ·obtain⟨w,W,z,rfl,_⟩:=h
  rfl
 ·obtain⟨w,W,z,rfl,hw,ok,hT,q⟩:=h
  obtain⟨sa,ba,fa,xs,ys,zs,h1,h2⟩:=hw.ex
  have lf:=h2.pf.length
  have DA:=ok.DA
  refine⟨_,((2|||["feed"]|||["station"]|||[1]|||(bx (K:=K) rfl ({0}<*>bh))|||(cB (bp bU ({0}<*>bh) {1} (bq _)))|||{0})<|>(~~~(["feed"]^^^[]^^^[]^^^(bx (K:=K) rfl (wV hr (by rfl) T.Gd pU rfl (by rfl) tb.hd tb.bl {2} (by decide) (λ_ _ _ _=>rfl) (by rfl) (by rfl)))^^^bB^^^(@bF _ _ _ _ _ (({0}<*>bh)>>({0}<*>bh)>>a_))))),?_⟩
  refine⟨_,rfl,(h1<<<2>>>⟨fa,rfl,⟨_,eH.of h2.hf⟩,λD nD=>?_⟩)⟩
  refine bA (a:=fa) (xs:=zs) (λi H5=>c0 H H5/\∃B:List V,H5 D=some (.lst B)/\Paired (d4 H5) B ((W.fe.take i).filter λf=>f.1==z)) ⟨c0.new nD,[],bg,.nil⟩ (λi H5 _ p=>eH.of (p.1 _ _ h2.hf)) ?_ ?_
  ·rintro i x H5 m Wf hx ⟨s5,B,h5,p5⟩ nx
   obtain⟨t,ht,G⟩:=h2.pf.gt hx
   obtain⟨a0,rfl,ha⟩:=G
   have hi:=(zC.mp ht).1
   refine⟨_,rfl,(s5 _ _ ha<<<0>>>⟨_,rfl,rfl,_,rfl,?_⟩)⟩
   have et:decide (V.int t.1=V.int z)=(t.1==z):=bT
   have l5:=p5.length
   have l6:((W.fe.take i).filter λf=>f.1==z).length<=60:=yE (jH _ _) (by rw[yA];lia)
   have ef:(W.fe.take (i+1)).filter (λf=>f.1==z)=(W.fe.take i).filter (λf=>f.1==z)++(if (t.1==z)=true then [t]else []):=by
    rw[yR,ht,zM]
    congr 1
    show List.filter _ [t]=_
    rw[List.filter_cons,yN]
   walk_at "S"
   ·rw[et]at hb
    refine⟨_,rfl,_,h5,bo (by lia),nx _ ⟨s5.upd nD,B++[.ref a0],bg,?_⟩⟩
    rw[ef,hb,if_pos rfl]
    exact bv (bf (λ_ _ h=>h.keep h5) p5) (.cons (d4.keep h5 ⟨a0,rfl,s5 _ _ ha⟩) .nil)
   ·rw[et]at hb
    refine nx _ ⟨s5,B,h5,?_⟩
    rw[ef,hb,if_neg zS,zQ]
    exact p5
  ·rintro H5 ⟨s5,B,h5,p5⟩
   rw[lf,zY]at p5
   have l5:=p5.length
   have l6:(W.fe.filter λf=>f.1==z).length<=60:=yE (jH _ _) DA
   refine⟨_,rfl,?_⟩
   refine tQ (kz:=(W.fe.filter λf=>f.1==z).map λ(f:fc)=>f.2.1) (eH.of h5) (by lia) (by rw[zB];lia) (λj x k hj hk=>?_) (hT.same s5) (λH6 D2 out s6 Gw CV h6 st=>?_)
   ·obtain⟨t,ht,a0,rfl,ha⟩:=p5.gt hj
    rw[zG,ht]at hk
    cases hk
    exact⟨a0,_,rfl,ze.of ha,d5 (j:=1) rfl⟩
   ·obtain⟨is,i1,rfl,i3⟩:=st
    have Y:=i1
    rw[l5]at Y
    have p6:Paired (d4 H6) (is.map λi=>B.getD i .y2) (W.Gv z):=by
     rw[←wA ok Y i3]
     exact bf (λ_ _=>d4.sm s6) (gm (0,0,0) p5 is λi hi=>y8.mp (i1.mem_iff.mp hi))
    have lo:(is.map λi=>B.getD i V.y2).length<=60:=by rw[zB,i1.length_eq,qL];lia
    have ZC:H D2=none:=s5.free CV
    have TB:Az Pd H H6:=(Az.of s5).trans s6
    generalize (is.map λi=>B.getD i V.y2)=out at h6 p6 lo
    have l7:=p6.length
    refine⟨D2,rfl,⟨_,eH.of h6⟩,λD3 O=>?_⟩
    refine bA (a:=D2) (xs:=out) (λi H7=>c0 H6 H7/\∃rs:List V,H7 D3=some (.lst rs)/\Paired (wh H7) rs (((W.Gv z).take i).map M7)) ⟨c0.new O,[],bg,.nil⟩ (λi H7 _ p=>eH.of (p.1 _ _ h6)) ?_ ?_
    ·rintro i x H7 m Wf hx ⟨s7,rs,h7,U⟩ nx
     obtain⟨t,ht,G⟩:=p6.gt hx
     obtain⟨a0,rfl,ha⟩:=G
     have hi:=(zC.mp ht).1
     have l8:=U.length
     rw[zB,yA]at l8
     refine⟨_,rfl,(s7 _ _ ha<<<1>>>⟨_,rfl,(s7 _ _ ha<<<2>>>?_)⟩)⟩
     refine⟨(by show 2<=sizeLine;decide),λp np=>?_⟩
     have s8:c0 H7 (upd H7 p (.tup [.int t.2.1,.int t.2.2])):=c0.new np
     refine⟨_,s8 _ _ h7,bo (by lia),nx _ ⟨(s7.trans s8).upd O,rs++[.ref p],bg,?_⟩⟩
     rw[yR,ht,zK]
     exact bv (bf (λ_ _ h=>(wh.same s8 h).keep (s8 _ _ h7)) U) (.cons (wh.keep (s8 _ _ h7) ⟨p,rfl,bg⟩) .nil)
    ·rintro H7 ⟨s7,rs,h7,U⟩
     rw[l7,zY]at U
     exact q D3 rs H7 (TB.free O) h7 U (TB.trans (Az.of s7)) (Gw.same s7) (by have:=U.length;rw[zB]at this;lia)
def A8(Ms:List (List Cell)):Prop:=∀c∈Ms.flatten,∀ps,c.2≠HO.AB ps
theorem A8.cons{c:List Cell}(h:∀x∈c,∀ps,x.2≠HO.AB ps)(n:A8 Ms):A8 (c::Ms):=λx hx=>by
 rcases zW.mp (show x∈c++Ms.flatten from hx)with q|q
 ·exact h x q
 ·exact n x q
theorem A8.one(h:∀ps,o≠HO.AB ps)(n:A8 Ms):A8 ([(a,o)]::Ms):=n.cons λx hx=>by rw[zF.mp hx];exact h
theorem A8.lst(n:A8 Ms):A8 ([(a,.lst xs)]::Ms):=n.one λ_ z=>nomatch z
theorem dJ:∀x∈AD as (vs.map HO.lst),∀ps,x.2≠HO.AB ps:=λx hx ps=>by
 obtain⟨i,hi⟩:=yS hx
 have h2:=(jU hx).2
 obtain⟨v,_,e⟩:=yF.mp h2
 rw[←e]
 exact λz=>nomatch z
theorem _root_.L2.Hc.sm(h:Hc H Ms)(n:A8 Ms)(s:Az Pd H H'):Hc H' Ms:=⟨h.1,λp hp=>s.keep _ _ (h.2 p hp) (.inl (n p hp))⟩
theorem _root_.L2.Hc.QL(h:Hc H Ms)(n:A8 Ms)(B:H p=none)(e:H' p=some o)(s:Az Pd H H'):Hc H' ([(p,o)]::Ms):=by
 refine⟨(h.new B o).1,λc hc=>?_⟩
 rcases zW.mp (show c∈[(p,o)]++Ms.flatten from hc)with q|q
 ·rw[zF.mp q];exact e
 ·exact(h.sm n s).2 c q
def Kp(Pd p:Addr)(H H':Hp):Prop:=∀b u,H b=some u->((∀ps,u≠HO.AB ps)\/b≠Pd)->b≠p->H' b=some u
theorem Kp.sm(s:Az Pd H H'):Kp Pd p H H':=λb u e n _=>s.keep b u e n
theorem Kp.trans(a:Kp Pd p H H1)(b:Kp Pd p H1 H2):Kp Pd p H H2:=λc u e n m=>b c u (a c u e n m) n m
theorem Kp.put:Kp Pd p H (upd H p o):=λb u e _ m=>by rw[bj m];exact e
theorem Kp.tup{fs:List (Str×V)}(k:Kp Pd p H H')(hp:H p=some (.ins C dx fs))(e:H b=some (.tup xs)):H' b=some (.tup xs):=k b _ e (.inl λ_ z=>nomatch z) (bK e hp λz=>nomatch z)
theorem Kp.lst{fs:List (Str×V)}(k:Kp Pd p H H')(hp:H p=some (.ins C dx fs))(e:H b=some (.lst xs)):H' b=some (.lst xs):=k b _ e (.inl λ_ z=>nomatch z) (bK e hp λz=>nomatch z)
theorem Ag.kp{fs:List (Str×V)}(k:Kp Pd p H H')(hp:H p=some (.ins C dx fs)){w:Addr}(h:Ag H w W):Ag H' w W:=by
 obtain⟨s,b,f,xs,ys,zs,h1,h2⟩:=h.ex
 refine⟨s,b,f,xs,ys,zs,k.tup hp h1,k.lst hp h2.hs,k.lst hp h2.hb,k.lst hp h2.hf,bf (λ_ _ h=>?_) h2.ps,bf (λ_ _ h=>?_) h2.pb,bf (λ_ _ h=>?_) h2.pf⟩
 all_goals
  obtain⟨q,e,r⟩:=h
  exact⟨q,e,k.tup hp r⟩
theorem _root_.L2.zz.Fo{P:Addr}{fs:List (Str×V)}(h:zz P q ln cl H)(e:H p=some (.ins C dx fs)):zz P q ln cl (upd H p o):=by
 rcases h with h|⟨c',h1,h2⟩
 ·exact .inl (by rw[bj (bK h e λz=>nomatch z)];exact h)
 ·exact .inr ⟨c',by rw[bj (bK h1 e λz=>nomatch z)];exact h1,by rw[bj (bK h2 e λz=>nomatch z)];exact h2⟩
def Wk.de(W:Wk)(s:Int):List fc:=(W.dr s).map λp=>(p.1,-1,p.2)
theorem Wk.E3{s:Int}(h:t∈W.Gv s):t∈W.fe/\t.1=s:=by
 unfold Wk.Gv at h
 obtain⟨i,_,hi⟩:=jC.mp h
 obtain⟨h1,h2⟩:=zR.mp hi
 rw[yL]at h2
 exact⟨h1,by simpa using h2.1⟩
inductive Iy(Pd:Addr)(vs:List V)(H:Hp)(Q:VK)(wc:XK):Prop where
 | mk (w:Addr) (W:Wk) (s:Int) (ui:vs=[.ref w,.int s]) (uj:Ag H w W) (zf:W.Ok) (zq:zh Pd H) (Ai:∀(p:Addr)(rs:List V)(H':Hp),H p=none->H' p=some (.lst rs)->Paired (d4 H') rs (W.de s)->Az Pd H H'->zh Pd H'->rs.length<=60->Q (.ref p) H'):Iy Pd vs H Q wc
theorem yr{f:Addr}(F:Ac K "door_events" "door_events" (top 22) f fd)(G:mg "DOOR"=some (.int (-1) Oh))(a8:FnAt P w K mg base 1 "door" ["works","station"] (Ey Pd)):mu P w K mg base Aa 2 f fd ["works","station"] (Iy Pd):=by
 exists ["works","station"]
 obtain⟨w,W,z,rfl,hw,ok,hT,q⟩:=h
 refine⟨_,(~~~(["fed"]^^^[]^^^[]^^^(bx (K:=K) rfl (a8<&>({0}>>{1}>>a_)))^^^bB^^^(@bF _ _ _ _ _ (({0}<*>bh)>>cK (v:=.int (-1)) (by rfl) (by exact G) ⟨_,rfl⟩>>({0}<*>bh)>>a_)))),?_⟩
 refine⟨_,rfl,_,rfl,w,W,z,rfl,hw,ok,hT,λp rs H1 Y hp pr sm O TC=>⟨p,rfl,⟨_,eH.of hp⟩,λD nD=>?_⟩⟩
 have l1:=pr.length
 refine bA (a:=p) (xs:=rs) (λi H5=>c0 H1 H5/\∃B:List V,H5 D=some (.lst B)/\Paired (d4 H5) B (((W.dr z).take i).map λp=>(p.1,-1,p.2))) ⟨c0.new nD,[],bg,.nil⟩ (λi H5 _ p=>eH.of (p.1 _ _ hp)) ?_ ?_
 ·rintro i x H5 m Wf hx ⟨s5,B,h5,p5⟩ nx
  obtain⟨t,ht,a0,rfl,ha⟩:=pr.gt hx
  have hi:=(zC.mp hx).1
  have U:=p5.length
  rw[zB,yA]at U
  refine⟨_,rfl,(s5 _ _ ha<<<0>>>⟨_,rfl,(s5 _ _ ha<<<1>>>⟨(by show 3<=sizeLine;decide),λpt Y=>?_⟩)⟩)⟩
  have s6:c0 H5 (upd H5 pt (.tup [.int t.1,.int (-1),.int t.2])):=c0.new Y
  refine⟨_,s6 _ _ h5,bo (by lia),nx _ ⟨(s5.trans s6).upd nD,B++[.ref pt],bg,?_⟩⟩
  rw[bI ht,zK]
  exact bv (bf (λ_ _ h=>(d4.same s6 h).keep (s6 _ _ h5)) p5) (.cons (d4.keep (s6 _ _ h5) ⟨pt,rfl,bg⟩) .nil)
 ·rintro H5 ⟨s5,B,h5,p5⟩
  rw[l1,zY]at p5
  have U:=p5.length
  rw[zB,←l1]at U
  exact q D B H5 (sm.free nD) h5 p5 (sm.trans (Az.of s5)) (O.same s5) (by lia)
structure OR where
 x:Addr
 dx:Addr
 sl:Addr
 dl:Addr
 ol:Addr
 rl:Addr
 pl:Addr
 gl:Addr
 fi:List SR
 ov:List Int
 da:List Addr
 ra:List Addr
 ga:List Addr
 dv:List (List V)
 rv:List (List V)
 gv:List (List V)
 pr:List (Option Int)
def pV:Option Int->V
 | none=>.y2
 | some n=>.int n
def Eb(sl dl ol rl pl gl:Addr):List (Str×V):=mr "logs" (.ref gl) (mr "promises" (.ref pl) (mr "rows" (.ref rl) (mr "doors" (.ref ol) (mr "delays" (.ref dl) (mr "stations" (.ref sl) [])))))
def OR.zg(o:OR):List (Str×V):=Eb o.sl o.dl o.ol o.rl o.pl o.gl
def zj(fi:List SR):List V:=fi.map λr=>V.ref r.x
def Wk.ov(W:Wk):List Int:=W.be.map λt=>t.2.2
def Wk.Ho(W:Wk):List (Option Int):=W.be.map λt=>some t.2.2
def Ec(C:Addr)(o:OR):List Cell:=[(o.x,.ins C o.dx o.zg),(o.sl,.lst (zj o.fi)),(o.dl,.lst (o.ov.map V.int)),(o.ol,.lst (o.da.map V.ref)),(o.rl,.lst (o.ra.map V.ref)),(o.pl,.lst (o.pr.map pV)),(o.gl,.lst (o.ga.map V.ref))]
def zb(as:List Addr)(vs:List (List V)):List Cell:=AD as (vs.map HO.lst)
def stC(cs:Cs)(fi:List SR):List Cell:=fi.flatMap (Cy cs)
def zi(cs:Cs)(C:Addr)(o:OR):List (List Cell):=[Ec C o,zb o.da o.dv,zb o.ra o.rv,zb o.ga o.gv,stC cs o.fi]
theorem cu{fs:List (Str×V)}(h:¬y=x):(mr x v fs).lookup y=fs.lookup y:=by rw[br,if_neg h]
section
variable{dl ol rl pl gl:Addr}
theorem s0:(Eb sl dl ol rl pl gl).lookup ("logs":Str)=some (.ref gl):=by unfold Eb;rw[br,if_pos rfl]
theorem gY:(Eb sl dl ol rl pl gl).lookup ("promises":Str)=some (.ref pl):=by unfold Eb;rw[cu (by decide +kernel),br,if_pos rfl]
theorem mP:(Eb sl dl ol rl pl gl).lookup ("rows":Str)=some (.ref rl):=by unfold Eb;rw[cu (by decide +kernel),cu (by decide +kernel),br,if_pos rfl]
theorem aX:(Eb sl dl ol rl pl gl).lookup ("doors":Str)=some (.ref ol):=by unfold Eb;rw[cu (by decide +kernel),cu (by decide +kernel),cu (by decide +kernel),br,if_pos rfl]
theorem sH:(Eb sl dl ol rl pl gl).lookup ("delays":Str)=some (.ref dl):=by unfold Eb;rw[cu (by decide +kernel),cu (by decide +kernel),cu (by decide +kernel),cu (by decide +kernel),br,if_pos rfl]
theorem jm:(Eb sl dl ol rl pl gl).lookup ("stations":Str)=some (.ref sl):=by unfold Eb;rw[cu (by decide +kernel),cu (by decide +kernel),cu (by decide +kernel),cu (by decide +kernel),cu (by decide +kernel),br,if_pos rfl]
theorem wT(h1:¬x="logs")(h2:¬x="promises")(h3:¬x="rows")(h4:¬x="doors")(h5:¬x="delays")(B:¬x="stations"):(Eb sl dl ol rl pl gl).lookup x=none:=by
 unfold Eb;rw[cu h1,cu h2,cu h3,cu h4,cu h5,cu B];rfl
end
theorem Ed{dl ol rl pl gl:Addr}(h:¬x="logs"/\¬x="promises"/\¬x="rows"/\¬x="doors"/\¬x="delays"/\¬x="stations"):(Eb sl dl ol rl pl gl).lookup x=none:=wT h.1 h.2.1 h.2.2.1 h.2.2.2.1 h.2.2.2.2.1 h.2.2.2.2.2
structure Fx(K:PySem.W.Frag)(C:Addr):Prop where
 cl:Fg K C
 n1:zw K C "stations"
 n2:zw K C "delays"
 n3:zw K C "doors"
 n4:zw K C "rows"
 n5:zw K C "promises"
 n6:zw K C "logs"
structure Fy(H:Hp)(o:OR)(de re ge:List (List fc)):Prop where
 d:Paired (λus ts=>Paired (d4 H) us ts) o.dv de
 r:Paired (λus ts=>Paired (d4 H) us ts) o.rv re
 g:Paired (λus ts=>Paired (d4 H) us ts) o.gv ge
structure AJ(o:OR):Prop where
 ld:o.da.length=o.fi.length
 KQ:o.dv.length=o.fi.length
 lr:o.ra.length=o.ov.length
 Fz:o.rv.length=o.ov.length
 lp:o.pr.length=o.ov.length
 lg:o.ga.length=o.fi.length
 Hq:o.gv.length=o.fi.length
 s8:o.fi.length<=8
 BN:o.ov.length<=12
 Dq:∀r∈o.fi,∀w∈r.ws,w=-1\/(0<=w/\w<o.ov.length)
 BO:∀r∈o.fi,∀b∈r.bs,0<=b/\b<o.ov.length
structure Iz(W:Wk)(o:OR):Prop where
 ok:AJ o
 fi:∀j r,o.fi[j]?=some r->Made W j r
 ns:o.fi.length=W.st.length
 ov:o.ov=W.ov
 pr:o.pr=W.Ho
def Wk.Fp(W:Wk):List (List fc):=(List.range W.st.length).map λ(s:Nat)=>W.de (s:Int)
inductive Gx(K:PySem.W.Frag)(cs:Cs)(C Pd:Addr)(vs:List V)(H:Hp)(Q:VK)(wc:XK):Prop where
 | mk (p w dx:Addr) (W:Wk) (M:List (List Cell)) (ui:vs=[.ref p,.ref w]) (uj:Hc H ([(p,.ins C dx [])]::M)) (zf:A8 M) (zq:Ag H w W) (Ai:W.Ok) (AA:zh Pd H) (Bl:∀(o:OR)(H':Hp),o.x=p->Hc H' (zi cs C o++M)->Kp Pd p H H'->zh Pd H'->Iz W o->Fy H' o W.Fp (W.be.map λ_=>[]) (W.st.map λ_=>[])->Q .y2 H'):Gx K cs C Pd vs H Q wc
theorem jf(f:α->Bool):∀(l:List α)(k:Nat)(x:Int),x∈idx f k l->x<(k+l.length:Nat)
 | [],_,_,h=>absurd h zI
 | y::l,k,x,h=>by
  unfold idx at h
  have e:(y::l).length=l.length+1:=rfl
  by_cases hf:f y=true
  ·rw[if_pos hf]at h
   rcases zO.mp h with e|e
   ·lia
   ·have:=jf f l (k+1) x e
    lia
  ·rw[if_neg hf]at h
   have:=jf f l (k+1) x h
   lia
theorem Wk.M8{s w:Int}(h:w∈W.wy s):w=-1\/(0<=w/\w<W.be.length):=by
 unfold Wk.wy at h
 rcases zW.mp h with q|q
 ·split at q
  ·exact .inl (zF.mp q)
  ·exact absurd q zI
 ·have a:=gd _ _ _ _ q
  have b:=jf _ _ _ _ q
  exact .inr ⟨by lia,by lia⟩
theorem Wk.M9{s w:Int}(h:w∈W.lv s):0<=w/\w<W.be.length:=by
 unfold Wk.lv at h
 have a:=gd _ _ _ _ h
 have b:=jf _ _ _ _ h
 exact⟨by lia,by lia⟩
theorem wF(cs:Cs)(r:SR):∀x∈Cy cs r,∀ps,x.2≠HO.AB ps:=λx hx ps=>by
 rcases zO.mp hx with q|hx
 ·rw[q];exact λz=>nomatch z
 rcases zO.mp hx with q|hx
 ·rw[q];exact λz=>nomatch z
 rcases zO.mp hx with q|hx
 ·rw[q];exact λz=>nomatch z
 unfold SR.more at hx
 split at hx
 ·rcases zO.mp hx with q|hx
  ·rw[q];exact λz=>nomatch z
  ·have h2:=(jU hx).2
   obtain⟨v,_,e⟩:=yF.mp h2
   rw[←e]
   exact λz=>nomatch z
 ·exact absurd hx zI
theorem mT(cs:Cs)(fi:List SR):∀x∈stC cs fi,∀ps,x.2≠HO.AB ps:=λx hx=>by
 obtain⟨r,_,h⟩:=jC.mp hx
 exact wF cs r x h
theorem rQ(cs:Cs)(fi:List SR)(r:SR):stC cs (fi++[r])=stC cs fi++Cy cs r:=by
 unfold stC
 rw[qV]
 simp
theorem mJ{os:List HO}(h:ls.length=os.length)(l:Addr)(o:HO):AD (ls++[l]) (os++[o])=AD ls os++[(l,o)]:=by
 unfold AD
 rw[vS h]
 rfl
theorem dG(h:ls.length=vs.length)(l:Addr)(v:List V):zb (ls++[l]) (vs++[v])=zb ls vs++[(l,.lst v)]:=by
 unfold zb
 rw[zK]
 exact mJ (by rw[zB];exact h) _ _
theorem lI{B:Nat->α->Prop}{l:List α}{x:α}(h:∀j r,l[j]?=some r->B j r)(hx:B l.length x):∀j r,(l++[x])[j]?=some r->B j r:=λj r hr=>by
 by_cases hj:j<l.length
 ·rw[yP hj]at hr
  exact h j r hr
 ·rw[zX (by lia)]at hr
  cases e:j-l.length with
  | zero =>
   rw[e]at hr
   cases hr
   rw[show j=l.length by lia]
   exact hx
  | succ k=>rw[e]at hr;cases hr
theorem e_{fs:List (Str×V)}(h:fs.length<=n):(mr x v fs).length<=n+1:=yE (bW x v fs) (by lia)
theorem mR(e:H a=some (.lst xs)){dv:List (List V)}{de:List (List fc)}(h:Paired (λus ts=>Paired (d4 H) us ts) dv de):Paired (λus ts=>Paired (d4 (upd H a (.lst ys))) us ts) dv de :=
 bf (λ_ _ h=>bf (λ_ _ h=>h.keep e) h) h
theorem sD(s:Az Pd H H'){dv:List (List V)}{de:List (List fc)}(h:Paired (λus ts=>Paired (d4 H) us ts) dv de):Paired (λus ts=>Paired (d4 H') us ts) dv de :=
 bf (λ_ _ h=>bf (λ_ _ h=>h.sm s) h) h
theorem fI{fs:List (Str×V)}(k:Kp Pd p H H')(hp:H p=some (.ins C dx fs)){dv:List (List V)}{de:List (List fc)}(h:Paired (λus ts=>Paired (d4 H) us ts) dv de):Paired (λus ts=>Paired (d4 H') us ts) dv de :=
 bf (λ_ _ h=>bf (λ_ _ h=>let ⟨q,e,r⟩:=h;⟨q,e,k.tup hp r⟩) h) h
theorem cQ{F:List α->List β->Prop}(h:F [] []){δ:Type}:∀{l:List γ}{m:List δ},l.length=m.length->Paired F (l.map λ_=>[]) (m.map λ_=>[])
 | [],[],_=>.nil
 | [],_::_,e=>by cases e
 | _::_,[],e=>by cases e
 | x::l,y::m,e=>.cons h (cQ h (Nat.succ.inj e))
theorem x_{f:Addr}{cs:Cs}(F:Ac K "__init__" "Own.__init__" (inClass (top 34) 0) f fd)(T:Txt K mg)(c:Fx K C)(ai:FnAt P w K mg base 4 "station_of" ["works","station"] (Iv cs))(af:FnAt P w K mg base 2 "door_events" ["works","station"] (Iy Pd)) :
  mu P w K mg base Aa 5 f fd ["self","works"] (Gx K cs C Pd):=by
 exists ["self","works"]
 obtain⟨p,w,dx,W,M,rfl,hc,nT,hw,ok,hT,q⟩:=h
 obtain⟨sa,ba,fa,xs,ys,zs,h1,h2⟩:=id hw.ex
 have ls:=h2.ps.length
 have lb:=h2.pb.length
 have s8:=ok.s8
 have BN:=ok.BN
 have hp:=hc.get 0 0 rfl rfl
 refine⟨_,(cR {0} (["station"]^^^["works"]^^^[1]^^^(bO rfl T.zt (‹({1}<*>bh)›>>a_))^^^bB^^^(ai<&>({1}>>{0}>>a_))) rfl<|>cR {0} (["belt"]^^^[]^^^[]^^^(bx (K:=K) rfl ({1}<*>bh))^^^bB^^^({0}<*>bh)) rfl<|>cR {0} (["station"]^^^["works"]^^^[1]^^^(bO rfl T.zt (‹({1}<*>bh)›>>a_))^^^bB^^^(af<&>({1}>>{0}>>a_))) rfl<|>cR {0} (["belt"]^^^[]^^^[]^^^(bx (K:=K) rfl ({1}<*>bh))^^^bB^^^(@bR _ _ _ _ a_)) rfl<|>cR {0} (["belt"]^^^[]^^^[]^^^(bx (K:=K) rfl ({1}<*>bh))^^^bB^^^({0}<*>bh)) rfl<|>@ei _ _ _ (cR {0} (["station"]^^^[]^^^[]^^^(bx (K:=K) rfl ({1}<*>bh))^^^bB^^^(@bR _ _ _ _ a_)) rfl)),?_⟩
 refine⟨_,rfl,(h1<<<0>>>⟨sa,xs,rfl,.inl (eH.of h2.hs),_,rfl,by rw[BL];lia,by rw[BL];lia,λD nD=>?_⟩)⟩
 refine cy (lo:=0) (n:=(xs.length:Int).toNat) (λi H4=>∃fi:List SR,c0 H H4/\Hc H4 ([(D,.lst (zj fi))]::stC cs fi::[(p,.ins C dx [])]::M)/\fi.length=i/\∀j r,fi[j]?=some r->Made W j r) ⟨[],c0.new nD,(hc.new nD (.lst [])).pad.swap,rfl,λj r h=>by cases h⟩ ?_ ?_
 ·rintro i H4 m Wf hi ⟨fi,s4,U,l4,Hk⟩ nx
  rw[qW]
  refine⟨_,rfl,_,rfl,w,W,i,_,rfl,hw.same s4,ok,by lia,U,λr H5 s5 AM mk=>?_⟩
  walk_at "z"
 ·rintro H4 ⟨fi,s4,U,l4,Hk⟩
  refine⟨_,rfl,p,C,dx,[],rfl,U.get 2 0 rfl rfl,c.cl,c.n1,(by show 0<1000;decide),?_⟩
  have LC:=U.put 2 0 rfl rfl (.ins C dx (mr "stations" (.ref D) []))
  have kA:Kp Pd p H (upd H4 p (.ins C dx (mr "stations" (.ref D) []))):=(Kp.sm (Az.of s4)).trans Kp.put
  have QM:zh Pd (upd H4 p (.ins C dx (mr "stations" (.ref D) []))):=(hT.same s4).Fo (U.get 2 0 rfl rfl)
  have TF:(mr "stations" (.ref D) []).length<=1:=e_ (zJ 0)
  generalize WV:(mr "stations" (.ref D) []:List (Str×V))=fA at LC kA QM TF ⊢
  generalize (upd H4 p (.ins C dx fA))=HA at LC kA QM ⊢
  have TH:=LC.get 2 0 rfl rfl
  have WW:=kA.tup hp h1
  have TJ:=kA.lst hp h2.hb
  refine⟨_,rfl,(WW<<<1>>>⟨ba,rfl,⟨_,eH.of TJ⟩,λD2 CV=>?_⟩)⟩
  refine bA (a:=ba) (xs:=ys) (λi H5=>c0 HA H5/\H5 D2=some (.lst (((W.be.take i).map λt=>t.2.2).map V.int))) ⟨c0.new CV,bg⟩ (λi H5 _ p=>eH.of (p.1 _ _ TJ)) ?_ ?_
  ·rintro i x H5 m Wf hx ⟨s5,g5⟩ nx
   obtain⟨t,ht,a0,rfl,ha⟩:=h2.pb.gt hx
   refine⟨_,rfl,(s5 _ _ (kA.tup hp ha)<<<2>>>⟨_,g5,bo (by rw[zB,zB,yA];lia),nx _ ⟨s5.upd CV,?_⟩⟩)⟩
   rw[bg,bI ht,zK,zK]
   rfl
  ·rintro H5 ⟨s5,g5⟩
   rw[lb,zY]at g5
   replace g5:H5 D2=some (.lst (W.ov.map V.int)):=g5
   have AM:=LC.Er CV g5 s5
   refine⟨_,rfl,p,C,dx,fA,rfl,s5 _ _ TH,c.cl,c.n2,(by lia),?_⟩
   have ON:=AM.put 3 0 rfl rfl (.ins C dx (mr "delays" (.ref D2) fA))
   have kB:Kp Pd p H (upd H5 p (.ins C dx (mr "delays" (.ref D2) fA))):=kA.trans ((Kp.sm (Az.of s5)).trans Kp.put)
   have QN:zh Pd (upd H5 p (.ins C dx (mr "delays" (.ref D2) fA))):=(QM.same s5).Fo (s5 _ _ TH)
   have TL:(mr "delays" (.ref D2) fA).length<=2:=e_ TF
   generalize WX:(mr "delays" (.ref D2) fA:List (Str×V))=O at ON kB QN TL ⊢
   generalize (upd H5 p (.ins C dx O))=HB at ON kB QN ⊢
   have ZD:=ON.get 3 0 rfl rfl
   have WY:=kB.tup hp h1
   have WZ:A8 ([(D2,.lst (W.ov.map V.int))]::[(D,.lst (zj fi))]::stC cs fi::[(p,.ins C dx O)]::M):=((A8.one (a:=p) (o:=.ins C dx O) (λ_ z=>nomatch z) nT).cons (mT cs fi)).lst.lst
   refine⟨_,rfl,(WY<<<0>>>⟨sa,xs,rfl,.inl (eH.of (kB.lst hp h2.hs)),_,rfl,by rw[BL];lia,by rw[BL];lia,λD3 KR=>?_⟩)⟩
   refine cy (lo:=0) (n:=(xs.length:Int).toNat) (λi H6=>∃(da:List Addr)(dv:List (List V)),Az Pd HB H6/\Hc H6 ([(D3,.lst (da.map V.ref))]::zb da dv::[(D2,.lst (W.ov.map V.int))]::[(D,.lst (zj fi))]::stC cs fi::[(p,.ins C dx O)]::M)/\da.length=i/\dv.length=i /\
    Paired (λus ts=>Paired (d4 H6) us ts) dv ((List.range i).map λ(s:Nat)=>W.de (s:Int))/\zh Pd H6) ⟨[],[],Az.of (c0.new KR),(ON.new KR (.lst [])).pad.swap,rfl,rfl,.nil,QN.same (c0.new KR)⟩ ?_ ?_
   ·rintro i H6 m Wf hi ⟨da,dv,s6,A9,la,lv,pr,Gw⟩ nx
    rw[qW]
    refine⟨_,rfl,_,rfl,w,W,i,rfl,((hw.kp kB hp).sm s6),ok,Gw,λpn rs H7 C3 QO W2 LD KS TC=>?_⟩
    have OO:A8 ([(D3,.lst (da.map V.ref))]::zb da dv::[(D2,.lst (W.ov.map V.int))]::[(D,.lst (zj fi))]::stC cs fi::[(p,.ins C dx O)]::M):=(WZ.cons dJ).lst
    have G:=A9.QL OO C3 QO LD
    have g7:=G.get 1 0 rfl rfl
    refine⟨_,g7,bo (by rw[zB];lia),nx _ ⟨da++[pn],dv++[rs],(s6.trans LD).upd KR,?_,by rw[zN,la];rfl,by rw[zN,lv];rfl,?_,KS.Fm g7⟩⟩
    ·have:=G.put 1 0 rfl rfl (.lst (da.map V.ref++[.ref pn]))
     rw[zK,dG (by lia)]
     exact(Hc.join (this.pick 2 rfl)).swap
    ·rw[qM,zK]
     exact bv (mR g7 (sD LD pr)) (.cons (bf (λ_ _ h=>h.keep g7) W2) .nil)
   ·rintro H6 ⟨da,dv,s6,A9,la,lv,pr,Gw⟩
    have HI:=A9.get 5 0 rfl rfl
    refine⟨_,rfl,p,C,dx,O,rfl,HI,c.cl,c.n3,(by lia),?_⟩
    have OP:=A9.put 5 0 rfl rfl (.ins C dx (mr "doors" (.ref D3) O))
    have kC:Kp Pd p H (upd H6 p (.ins C dx (mr "doors" (.ref D3) O))):=kB.trans ((Kp.sm s6).trans Kp.put)
    have QP:zh Pd (upd H6 p (.ins C dx (mr "doors" (.ref D3) O))):=Gw.Fo HI
    have TM:(mr "doors" (.ref D3) O).length<=3:=e_ TL
    have QQ:=fI (Kp.put (Pd:=Pd) (o:=.ins C dx (mr "doors" (.ref D3) O))) HI pr
    generalize W3:(mr "doors" (.ref D3) O:List (Str×V))=fC at OP kC QP TM QQ ⊢
    generalize (upd H6 p (.ins C dx fC))=HC at OP kC QP QQ ⊢
    have TN:=OP.get 5 0 rfl rfl
    have TQ:=kC.lst hp h2.hb
    refine⟨_,rfl,(kC.tup hp h1<<<1>>>⟨ba,rfl,⟨_,eH.of TQ⟩,λD4 QR=>?_⟩)⟩
    refine bA (a:=ba) (xs:=ys) (λi H7=>∃ra:List Addr,c0 HC H7/\Hc H7 ([(D4,.lst (ra.map V.ref))]::zb ra (ra.map λ_=>[])::[(D3,.lst (da.map V.ref))]::zb da dv::[(D2,.lst (W.ov.map V.int))]::[(D,.lst (zj fi))]::stC cs fi::[(p,.ins C dx fC)]::M)/\ra.length=i)
     ⟨[],c0.new QR,(OP.new QR (.lst [])).pad.swap,rfl⟩ (λi H7 _ ⟨_,s7,_⟩=>eH.of (s7 _ _ TQ)) ?_ ?_
    ·rintro i x H7 m Wf hx ⟨ra,s7,G,l7⟩ nx
     walk_at "D"
     have Ir:=G.new C3 (.lst [])
     have g8:=Ir.get 1 0 rfl rfl
     refine⟨_,g8,bo (by rw[zB];lia),nx _ ⟨ra++[pn],(s7.trans (c0.new C3)).upd QR,?_,by rw[zN,l7];rfl⟩⟩
     have:=Ir.put 1 0 rfl rfl (.lst (ra.map V.ref++[.ref pn]))
     rw[zK,zK]
     have e:=dG (ls:=ra) (vs:=ra.map λ_=>[]) (by rw[zB]) pn []
     show Hc _ (_::zb (ra++[pn]) ((ra.map λ_=>[])++[[]])::_)
     rw[e]
     exact(Hc.join (this.pick 2 rfl)).swap
    ·rintro H7 ⟨ra,s7,G,l7⟩
     have TR:=s7 _ _ TN
     refine⟨_,rfl,p,C,dx,fC,rfl,TR,c.cl,c.n4,(by lia),?_⟩
     have Ls:=G.put 7 0 rfl rfl (.ins C dx (mr "rows" (.ref D4) fC))
     have kD:Kp Pd p H (upd H7 p (.ins C dx (mr "rows" (.ref D4) fC))):=kC.trans ((Kp.sm (Az.of s7)).trans Kp.put)
     have QS:zh Pd (upd H7 p (.ins C dx (mr "rows" (.ref D4) fC))):=(QP.same s7).Fo TR
     have TU:(mr "rows" (.ref D4) fC).length<=4:=e_ TM
     have JA:=fI ((Kp.sm (Az.of s7)).trans (Kp.put (Pd:=Pd) (o:=.ins C dx (mr "rows" (.ref D4) fC)))) TN QQ
     generalize W4:(mr "rows" (.ref D4) fC:List (Str×V))=fD at Ls kD QS TU JA ⊢
     generalize (upd H7 p (.ins C dx fD))=HD at Ls kD QS JA ⊢
     have TV:=Ls.get 7 0 rfl rfl
     have TX:=kD.lst hp h2.hb
     refine⟨_,rfl,(kD.tup hp h1<<<1>>>⟨ba,rfl,⟨_,eH.of TX⟩,λD5 QT=>?_⟩)⟩
     refine bA (a:=ba) (xs:=ys) (λi H8=>c0 HD H8/\H8 D5=some (.lst (((W.be.take i).map λt=>some t.2.2).map pV))) ⟨c0.new QT,bg⟩ (λi H8 _ p=>eH.of (p.1 _ _ TX)) ?_ ?_
     ·rintro i x H8 m Wf hx ⟨B,g8⟩ nx
      obtain⟨t,ht,a0,rfl,ha⟩:=h2.pb.gt hx
      refine⟨_,rfl,(B _ _ (kD.tup hp ha)<<<2>>>⟨_,g8,bo (by rw[zB,zB,yA];lia),nx _ ⟨B.upd QT,?_⟩⟩)⟩
      rw[bg,bI ht,zK,zK]
      rfl
     ·rintro H8 ⟨B,g8⟩
      rw[lb,zY]at g8
      replace g8:H8 D5=some (.lst (W.Ho.map pV)):=g8
      have Ir:=Ls.Er QT g8 B
      have TY:=B _ _ TV
      refine⟨_,rfl,p,C,dx,fD,rfl,TY,c.cl,c.n5,(by lia),?_⟩
      have OQ:=Ir.put 8 0 rfl rfl (.ins C dx (mr "promises" (.ref D5) fD))
      have kE:Kp Pd p H (upd H8 p (.ins C dx (mr "promises" (.ref D5) fD))):=kD.trans ((Kp.sm (Az.of B)).trans Kp.put)
      have QU:zh Pd (upd H8 p (.ins C dx (mr "promises" (.ref D5) fD))):=(QS.same B).Fo TY
      have W5:(mr "promises" (.ref D5) fD).length<=5:=e_ TU
      have QV:=fI ((Kp.sm (Az.of B)).trans (Kp.put (Pd:=Pd) (o:=.ins C dx (mr "promises" (.ref D5) fD)))) TV JA
      generalize W6:(mr "promises" (.ref D5) fD:List (Str×V))=fE at OQ kE QU W5 QV ⊢
      generalize (upd H8 p (.ins C dx fE))=HE at OQ kE QU QV ⊢
      have TZ:=OQ.get 8 0 rfl rfl
      have T4:=kE.lst hp h2.hs
      refine⟨_,rfl,(kE.tup hp h1<<<0>>>⟨sa,rfl,⟨_,eH.of T4⟩,λD6 QW=>?_⟩)⟩
      refine bA (a:=sa) (xs:=xs) (λi H9=>∃ga:List Addr,c0 HE H9/\Hc H9 ([(D6,.lst (ga.map V.ref))]::zb ga (ga.map λ_=>[])::[(D5,.lst (W.Ho.map pV))]::[(D4,.lst (ra.map V.ref))]::zb ra (ra.map λ_=>[])::[(D3,.lst (da.map V.ref))]::zb da dv::[(D2,.lst (W.ov.map V.int))]::[(D,.lst (zj fi))]::stC cs fi::[(p,.ins C dx fE)]::M)/\ga.length=i)
       ⟨[],c0.new QW,(OQ.new QW (.lst [])).pad.swap,rfl⟩ (λi H9 _ ⟨_,s9,_⟩=>eH.of (s9 _ _ T4)) ?_ ?_
      ·rintro i x H9 m Wf hx ⟨ga,s9,Iu,l9⟩ nx
       walk_at "D"
       have Gy:=Iu.new C3 (.lst [])
       have W7:=Gy.get 1 0 rfl rfl
       refine⟨_,W7,bo (by rw[zB];lia),nx _ ⟨ga++[pn],(s9.trans (c0.new C3)).upd QW,?_,by rw[zN,l9];rfl⟩⟩
       have:=Gy.put 1 0 rfl rfl (.lst (ga.map V.ref++[.ref pn]))
       rw[zK,zK]
       have e:=dG (ls:=ga) (vs:=ga.map λ_=>[]) (by rw[zB]) pn []
       show Hc _ (_::zb (ga++[pn]) ((ga.map λ_=>[])++[[]])::_)
       rw[e]
       exact(Hc.join (this.pick 2 rfl)).swap
      ·rintro H9 ⟨ga,s9,Iu,l9⟩
       have T5:=s9 _ _ TZ
       refine⟨_,rfl,p,C,dx,fE,rfl,T5,c.cl,c.n6,(by lia),?_⟩
       have B6:=Iu.put 10 0 rfl rfl (.ins C dx (mr "logs" (.ref D6) fE))
       have kF:Kp Pd p H (upd H9 p (.ins C dx (mr "logs" (.ref D6) fE))):=kE.trans ((Kp.sm (Az.of s9)).trans Kp.put)
       have M_:zh Pd (upd H9 p (.ins C dx (mr "logs" (.ref D6) fE))):=(QU.same s9).Fo T5
       have OJ:=fI ((Kp.sm (Az.of s9)).trans (Kp.put (Pd:=Pd) (o:=.ins C dx (mr "logs" (.ref D6) fE)))) TZ QV
       have W8:=((((((((((B6.pick 9 rfl).pick 2 rfl).pick 5 rfl).pick 7 rfl).pick 4 rfl).pick 5 rfl).pick 6 rfl).pick 7 rfl).pick 8 rfl).pick 9 rfl).pick 10 rfl
       have W9:=((((((W8.join).join).join).join).join).join)
       have T6:W.ov.length=W.be.length:=zB _
       have W_:fi.length=W.st.length:=by lia
       refine q ⟨p,dx,D,D2,D3,D4,D5,D6,fi,W.ov,da,ra,ga,dv,ra.map λ_=>[],ga.map λ_=>[],W.Ho⟩ _ rfl ?_ kF M_ ⟨⟨?_,?_,?_,?_,?_,?_,?_,?_,?_,?_,?_⟩,Hk,?_,rfl,rfl⟩ ⟨?_,?_,?_⟩
       ·subst W6 W4 W3 WX WV
        exact W9
       ·show da.length=fi.length;lia
       ·show dv.length=fi.length;lia
       ·show ra.length=W.ov.length;lia
       ·show(ra.map λ_=>([]:List V)).length=W.ov.length;rw[zB];lia
       ·show W.Ho.length=W.ov.length;unfold Wk.Ho;rw[zB];lia
       ·show ga.length=fi.length;lia
       ·show(ga.map λ_=>([]:List V)).length=fi.length;rw[zB];lia
       ·show fi.length<=8;lia
       ·show W.ov.length<=12;lia
       ·intro r hr wv Y
        obtain⟨j,hj⟩:=yS hr
        have mj:=Hk j r hj
        rw[mj.ws]at Y
        show _\/(_/\wv<(W.ov.length:Int))
        rw[T6]
        exact Wk.M8 Y
       ·intro r hr wv Y
        obtain⟨j,hj⟩:=yS hr
        have mj:=Hk j r hj
        rw[mj.bs]at Y
        show _/\wv<(W.ov.length:Int)
        rw[T6]
        exact Wk.M9 Y
       ·show fi.length=W.st.length;lia
       ·show Paired _ dv W.Fp
        have e:((xs.length:Nat):Int).toNat=W.st.length:=by lia
        rw[e]at OJ
        exact OJ
       ·exact cQ .nil (by lia)
       ·exact cQ .nil (by lia)
theorem SR.C4(r:SR):r.zg.lookup ("ways":Str)=some (.ref r.p1):=by
 unfold SR.zg
 cases r.k with
 | Ak n=>show(fR r.p1 r.p2 n).lookup ("ways":Str)=_;unfold fR;rw[cu (by decide +kernel)];exact ak _ _
 | zp=>exact ak _ _
 | rd n=>show(fT r.p1 r.p2 n r.seen).lookup ("ways":Str)=_;unfold fT;rw[cu (by decide +kernel),cu (by decide +kernel)];exact ak _ _
 | kc=>exact az _ _ _
 | sink=>exact ak _ _
theorem SR.Ez(r:SR):r.zg.lookup ("belts":Str)=some (.ref r.p2):=by
 unfold SR.zg
 cases r.k with
 | Ak n=>exact lP _ _ _
 | zp=>exact cY _ _
 | rd n=>exact mh _ _ _ _
 | kc=>exact lO _ _ _
 | sink=>exact cY _ _
theorem CY.st{cs:Cs}(c:CY K cs):∀k:Kd,Io K (cs.of k)
 | .Ak _=>c.rl.st
 | .zp=>c.so
 | .rd _=>c.th.st
 | .kc=>c.jn.st
 | .sink=>c.si
section
variable{cs:Cs}{o:OR}
theorem jl(hc:Hc H (zi cs C o++M))(hr:o.fi[s]?=some r):∀c∈Cy cs r,H c.1=some c.2:=λc h =>
 hc.2 c (jB.mpr ⟨stC cs o.fi,zE (i:=4) rfl,jC.mpr ⟨r,zE hr,h⟩⟩)
theorem JU(hc:Hc H (zi cs C o++M))(hr:o.fi[s]?=some r):H r.x=some (.ins (cs.of r.k) r.dx r.zg):=jl hc hr _ zH
theorem me(hc:Hc H (zi cs C o++M))(hr:o.fi[s]?=some r):H r.p1=some (.tup (r.ws.map V.int)):=jl hc hr (r.p1,.tup (r.ws.map V.int)) (.tail _ (.head _))
theorem vf(hc:Hc H (zi cs C o++M))(hr:o.fi[s]?=some r):H r.p2=some (.tup (r.bs.map V.int)):=jl hc hr (r.p2,.tup (r.bs.map V.int)) (.tail _ (.tail _ (.head _)))
theorem d3{fi:List SR}(h:fi[s]?=some r):(zj fi)[s]?=some (.ref r.x):=by unfold zj;rw[zG,h];rfl
theorem cZ{l:List α}{m:List β}(e:l.length=m.length){x:α}(h:l[i]?=some x):∃y,m[i]?=some y:=by
 have:=(zC.mp h).1
 exact⟨m[i]'(by lia),zD _⟩
theorem bG(h1:as[s]?=some a)(h2:vs[s]?=some us):(zb as vs)[s]?=some (a,.lst us):=iN h1 (by rw[zG,h2];rfl)
theorem cC(h:as[s]?=some a):(as.map V.ref)[s]?=some (.ref a):=by rw[zG,h];rfl
theorem AJ.log(ok:AJ o)(hc:Hc H (zi cs C o++M))(h:o.gv[s]?=some us):∃a,o.ga[s]?=some a/\H a=some (.lst us):=by
 obtain⟨a,ha⟩:=cZ (ok.Hq.trans ok.lg.symm) h
 exact⟨a,ha,hc.get 3 s rfl (bG ha h)⟩
theorem AJ.DV(ok:AJ o)(hc:Hc H (zi cs C o++M))(h:o.rv[s]?=some us):∃a,o.ra[s]?=some a/\H a=some (.lst us):=by
 obtain⟨a,ha⟩:=cZ (ok.Fz.trans ok.lr.symm) h
 exact⟨a,ha,hc.get 2 s rfl (bG ha h)⟩
theorem AJ.door(ok:AJ o)(hc:Hc H (zi cs C o++M))(h:o.dv[s]?=some us):∃a,o.da[s]?=some a/\H a=some (.lst us):=by
 obtain⟨a,ha⟩:=cZ (ok.KQ.trans ok.ld.symm) h
 exact⟨a,ha,hc.get 1 s rfl (bG ha h)⟩
end
def OR.at(o:OR)(s:Nat)(w:Int):Option (List V):=if w=-1 then o.dv[s]? else o.rv[w.toNat]?
def OR.Bg(o:OR)(s:Nat)(w:Int):Option Addr:=if w=-1 then o.da[s]? else o.ra[w.toNat]?
def OR.DW(o:OR)(w:Int):List fc->Option Int
 | t::_=>some t.1
 | []=>if w=-1 then none else o.pr.getD w.toNat none
def n7(de re:List (List fc))(s:Nat)(w:Int):List fc:=if w=-1 then de.getD s []else re.getD w.toNat []
def OR.zr(o:OR)(de re:List (List fc))(s:Nat)(r:SR):Option Int:=(r.ws.filterMap λw=>o.DW w (n7 de re s w)).min?
theorem wo{m:Int}(h1:m∈ns)(h2:∀a∈ns,m<=a):ns.min?=some m:=qY.mpr ⟨h1,h2⟩
inductive Dr(cs:Cs)(C:Addr)(vs:List V)(H:Hp)(Q:VK)(wc:XK):Prop where
 | mk (o:OR) (M:List (List Cell)) (s:Nat) (us:List V) (ui:vs=[.ref o.x,.int s]) (uj:Hc H (zi cs C o++M)) (zf:AJ o) (zq:o.gv[s]?=some us) (Ai:∀p,H p=none->Q (.ref p) (upd H p (.lst us))):Dr cs C vs H Q wc
inductive DX(cs:Cs)(C:Addr)(vs:List V)(H:Hp)(Q:VK)(wc:XK):Prop where
 | mk (o:OR) (M:List (List Cell)) (s:Nat) (w:Int) (us:List V) (ui:vs=[.ref o.x,.int s,.int w]) (uj:Hc H (zi cs C o++M)) (zf:AJ o) (zq:(w=-1\/0<=w)) (Ai:o.at s w=some us) (AA:∀a,o.Bg s w=some a->H a=some (.lst us)->Q (.ref a) H):DX cs C vs H Q wc
inductive Gz(cs:Cs)(C:Addr)(vs:List V)(H:Hp)(Q:VK)(wc:XK):Prop where
 | mk (o:OR) (M:List (List Cell)) (s:Nat) (w:Int) (us:List V) (ts:List fc) (ui:vs=[.ref o.x,.int s,.int w]) (uj:Hc H (zi cs C o++M)) (zf:AJ o) (zq:(w=-1\/0<=w)) (Ai:o.at s w=some us) (AA:Paired (d4 H) us ts) (Bl:Q (pV (o.DW w ts)) H):Gz cs C vs H Q wc
inductive E4(cs:Cs)(C:Addr)(vs:List V)(H:Hp)(Q:VK)(wc:XK):Prop where
 | mk (o:OR) (M:List (List Cell)) (s:Nat) (r:SR) (de re ge:List (List fc)) (ui:vs=[.ref o.x,.int s]) (uj:Hc H (zi cs C o++M)) (zf:AJ o) (zq:o.fi[s]?=some r) (Ai:r.ws.length<=100) (AA:Fy H o de re ge) (Bl:∀H',c0 H H'->Q (pV (o.zr de re s r)) H'):E4 cs C vs H Q wc
theorem qx{o:OR}(ok:AJ o)(hr:o.fi[s]?=some r){w:Int}(hw:w∈r.ws):(w=-1\/0<=w)/\∃us,o.at s w=some us:=by
 have hs:=(zC.mp hr).1
 rcases ok.Dq r (zE hr) w hw with e|⟨e1,e2⟩
 ·subst e
  refine⟨.inl rfl,?_⟩
  unfold OR.at
  rw[if_pos rfl]
  have:=ok.KQ
  exact⟨o.dv[s]'(by lia),zD _⟩
 ·refine⟨.inr e1,?_⟩
  unfold OR.at
  rw[if_neg (by lia)]
  have:=ok.Fz
  exact⟨o.rv[w.toNat]'(by lia),zD _⟩
theorem sA{o:OR}{de:List (List fc)}(ev:Fy H o de re ge){w:Int}(h:o.at s w=some us):Paired (d4 H) us (n7 de re s w):=by
 unfold OR.at at h
 unfold n7
 split at h
 ·rename_i e
  obtain⟨ts,h1,h2⟩:=ev.d.gt h
  rw[if_pos e,zA,h1]
  exact h2
 ·rename_i e
  obtain⟨ts,h1,h2⟩:=ev.r.gt h
  rw[if_neg e,zA,h1]
  exact h2
section
variable{cs:Cs}
theorem tK{f:Addr}(F:Ac K "taken" "Own.taken" (inClass (top 34) 1) f fd)(T:Txt K mg)(c:Fx K C):mu P w K mg base Aa 1 f fd ["self","station"] (Dr cs C):=by
 exists ["self","station"]
 obtain⟨o,M,s,us,rfl,hc,ok,hs,q⟩:=h
 obtain⟨a,ha,hl⟩:=ok.log hc hs
 refine⟨_,(~~~(b_ (iu (K:=K) rfl) (by rfl) T.KL uR ((bw (K:=K) rfl {0} rfl<*{1})>>a_))),?_⟩
 exact⟨_,rfl,o.x,C,o.dx,o.zg,_,rfl,hc.get 0 0 rfl rfl,c.cl,c.n6,s0,_,rfl,⟨_,_,_,_,rfl,rfl,eH.of (hc.get 0 6 rfl rfl),d5 (cC ha),a,us,rfl,.inl (eH.of hl),λl nl=>q l nl⟩⟩
theorem u4{f:Addr}(F:Ac K "row" "Own.row" (inClass (top 34) 6) f fd)(G:mg "DOOR"=some (.int (-1) Oh))(c:Fx K C):mu P w K mg base Aa 1 f fd ["self","station","way"] (DX cs C):=by
 exists ["self","station","way"]
 obtain⟨o,M,s,wy,us,rfl,hc,ok,hw,B,q⟩:=h
 refine⟨_,(~~~(c6 (bp bU {2} (cK (v:=.int (-1)) (by rfl) G ⟨_,rfl⟩) (bq _)) (bw (K:=K) rfl {0} rfl<*{1}) (bw (K:=K) rfl {0} rfl<*{2}))),?_⟩
 refine⟨_,rfl,rfl,_,rfl,?_⟩
 unfold OR.at at B
 unfold OR.Bg at q
 rw[bT]
 by_cases e:wy=-1
 ·rw[if_pos e]at B
  obtain⟨a,ha,hl⟩:=ok.door hc B
  rw[show(wy == -1)=true by simpa using e]
  refine vr ⟨_,rfl,o.x,C,o.dx,o.zg,_,rfl,hc.get 0 0 rfl rfl,c.cl,c.n3,aX,_,rfl,⟨_,_,_,_,rfl,rfl,eH.of (hc.get 0 3 rfl rfl),d5 (cC ha),q a (by rw[if_pos e];exact ha) hl⟩⟩
 ·rw[if_neg e]at B
  obtain⟨a,ha,hl⟩:=ok.DV hc B
  have ew:wy=(wy.toNat:Int):=by lia
  rw[show(wy == -1)=false by simpa using e]
  refine nj ⟨_,rfl,o.x,C,o.dx,o.zg,_,rfl,hc.get 0 0 rfl rfl,c.cl,c.n4,mP,_,rfl,⟨_,_,_,_,rfl,rfl,eH.of (hc.get 0 4 rfl rfl),(by rw[ew];exact d5 (cC ha)),q a (by rw[if_neg e];exact ha) hl⟩⟩
theorem xQ{f:Addr}(F:Ac K "earliest" "Own.earliest" (inClass (top 34) 7) f fd)(T:Txt K mg)(B:mg "DOOR"=some (.int (-1) Oh))(c:Fx K C)(O:MethAt P w K mg base 1 C "row" ["self","station","way"] (DX cs C)):mu P w K mg base Aa 2 f fd ["self","station","way"] (Gz cs C):=by
 exists ["self","station","way","row"]
 obtain⟨o,M,s,wy,us,ts,rfl,hc,ok,hw,G,pr,q⟩:=h
 refine⟨_,((3>>=(O<$>{0}>>({1}>>{2}>>a_)))<|>bL (bp fw ‹{3}› bh (bq _)) (~~~(({3}<*bh)<*>bh)) bz<|>(~~~(c6 (bp bU {2} (cK (v:=.int (-1)) (by rfl) B ⟨_,rfl⟩) (bq _)) bS (bw (K:=K) rfl {0} rfl<*{2})))),?_⟩
 refine⟨_,rfl,o.x,o.dx,o.zg,rfl,hc.get 0 0 rfl rfl,Ed (by decide +kernel),_,rfl,_,rfl,o,M,s,wy,us,rfl,hc,ok,hw,G,λa ha hl=>?_⟩
 refine⟨_,rfl,a,us,rfl,.inl (eH.of hl),_,_,rfl,rfl,_,rfl,?_⟩
 cases pr with
 | nil =>
  refine nj ⟨_,rfl,rfl,_,rfl,?_⟩
  rw[bT]
  by_cases e:wy=-1
  ·rw[show(wy == -1)=true by simpa using e]
   refine vr ?_
   unfold OR.DW at q
   rw[if_pos e]at q
   exact q
  ·rw[show(wy == -1)=false by simpa using e]
   have ew:wy=(wy.toNat:Int):=by lia
   unfold OR.at at G
   rw[if_neg e]at G
   obtain⟨m,hm⟩:=cZ (ok.Fz.trans ok.lp.symm) G
   unfold OR.DW at q
   rw[if_neg e,zA,hm]at q
   exact nj ⟨_,rfl,o.x,C,o.dx,o.zg,_,rfl,hc.get 0 0 rfl rfl,c.cl,c.n5,gY,_,rfl,⟨_,_,_,_,rfl,rfl,eH.of (hc.get 0 5 rfl rfl),(by rw[ew];exact d5 (by rw[zG,hm];rfl)),q⟩⟩
 | @cons x t us ts hx U =>
  obtain⟨pt,rfl,DI⟩:=hx
  have e:decide ((0:Int)<((V.ref pt::us).length:Int))=true:=decide_eq_true (by rw[yD];lia)
  rw[e]
  exact vr ⟨_,rfl,⟨_,_,_,_,rfl,rfl,eH.of hl,d5 (j:=0) rfl,(DI<<<0>>>q)⟩⟩
theorem xk{f:Addr}(F:Ac K "clock" "Own.clock" (inClass (top 34) 4) f fd)(T:Txt K mg)(c:Fx K C)(cc:CY K cs)(B:MethAt P w K mg base 2 C "earliest" ["self","station","way"] (Gz cs C)):mu P w K mg base Aa 3 f fd ["self","station"] (E4 cs C):=by
 exists ["self","station","times"]
 obtain⟨o,M,s,r,de,re,ge,rfl,hc,ok,hs,O,ev,q⟩:=h
 have ct:=cc.st r.k
 refine⟨_,((2|||["way"]|||["self","station"]|||[0,1]|||(cG (K:=K) rfl (bw (K:=K) rfl (bw (K:=K) rfl {0} rfl<*{1}) rfl))|||bB|||(B<$>{1}>>({2}>>{0}>>a_)))<|>(~~~(uy rfl (by rfl) T.EX i9 (["time"]^^^[]^^^[]^^^(bx (K:=K) rfl {2})^^^(cB (bp dS {0} bS (bq _)))^^^{0})))),?_⟩
 refine⟨_,rfl,o.x,C,o.dx,o.zg,_,rfl,hc.get 0 0 rfl rfl,c.cl,c.n1,jm,_,rfl,⟨_,_,_,_,rfl,rfl,eH.of (hc.get 0 1 rfl rfl),d5 (d3 hs),r.x,cs.of r.k,r.dx,r.zg,_,rfl,JU hc hs,ct.cl,ct.nW,r.C4,r.p1,rfl,⟨_,ze.of (me hc hs)⟩,λD nD=>?_⟩⟩
 refine dj (a:=r.p1) (xs:=r.ws.map V.int) (λi H5=>c0 H H5/\H5 D=some (.lst (((r.ws.take i).map λw=>o.DW w (n7 de re s w)).map pV))) ⟨c0.new nD,bg⟩ (λi H5 _ p=>ze.of (p.1 _ _ (me hc hs))) ?_ ?_
 ·rintro i x H5 m Wf hx ⟨s5,g5⟩ nx
  obtain⟨wy,rfl,G⟩:=cq hx
  obtain⟨a1,us,a2⟩:=qx ok hs (zE G)
  have hi:=(zC.mp G).1
  refine⟨_,rfl,o.x,o.dx,o.zg,rfl,s5 _ _ (hc.get 0 0 rfl rfl),Ed (by decide +kernel),_,rfl,_,rfl,o,M,s,wy,us,_,rfl,hc.same s5,ok,a1,a2,bf (λ_ _ h=>h.same s5) (sA ev a2),_,g5,bo (by rw[zB,zB,yA];lia),nx _ ⟨s5.upd nD,?_⟩⟩
  rw[bg,bI G,zK,zK]
  rfl
 ·rintro H5 ⟨s5,g5⟩
  rw[zB,zY]at g5
  have U:(r.ws.map λw=>o.DW w (n7 de re s w)).length<=100:=by rw[zB];exact O
  have hq:o.zr de re s r=((r.ws.map λw=>o.DW w (n7 de re s w)).filterMap id).min?:=by
   unfold OR.zr
   rw[List.filterMap_map]
   rfl
  rw[hq]at q
  generalize (r.ws.map λw=>o.DW w (n7 de re s w))=os at g5 U q
  refine⟨_,rfl,D,rfl,⟨_,eH.of g5⟩,λD2 Y=>?_⟩
  refine bA (a:=D) (xs:=os.map pV) (λi H6=>c0 H5 H6/\H6 D2=some (.lst (((os.take i).filterMap id).map V.int))) ⟨c0.new Y,bg⟩ (λi H6 _ p=>eH.of (p.1 _ _ g5)) ?_ ?_
  ·rintro i x H6 m Wf hx ⟨s6,g6⟩ nx
   rw[zG]at hx
   cases eo:os[i]? with
   | none=>rw[eo]at hx;cases hx
   | some t =>
    rw[eo]at hx
    cases hx
    have hle:(((os.take i).filterMap id).map V.int).length<=1000:=by
     rw[zB]
     have:=xD (id:Option Int->Option Int) (os.take i)
     rw[yA]at this
     lia
    refine⟨_,rfl,rfl,_,rfl,?_⟩
    cases t with
    | none =>
     refine nj (nx _ ⟨s6,?_⟩)
     rw[bI eo,kW]
     simpa using g6
    | some n =>
     refine vr ⟨_,rfl,_,g6,bo hle,nx _ ⟨s6.upd Y,?_⟩⟩
     rw[bg,bI eo,kW,zK]
     rfl
  ·rintro H6 ⟨s6,g6⟩
   rw[zB,zY]at g6
   have S:=s5.trans s6
   refine⟨D2,os.filterMap id,rfl,eH.of g6,λe=>?_,λm h1 h2=>?_⟩
   ·have:=q H6 S
    rw[e]at this
    exact this
   ·have:=q H6 S
    rw[wo h1 h2]at this
    exact this
end
set_option genInjectivity false in
set_option genSizeOf false in
structure SP where
 k:Kd
 ws:List Int
 bs:List Int
 seen:Int
 rows:List (List Int)
def SR.pu(r:SR):SP:=⟨r.k,r.ws,r.bs,r.seen,r.rows⟩
def SP.sr(p:SP):SR:=⟨0,0,0,0,0,p.k,p.ws,p.bs,[],p.seen,p.rows⟩
def SP.out(p:SP)(j:Nat)(z:Int):Option (Int×Int):=p.sr.out j z
def SP.Aw(p:SP)(j:Nat)(z:Int):SP:=(p.sr.Aw j z).pu
theorem SR.KU(r:SR)(j:Nat)(z:Int):r.out j z=r.pu.out j z:=rfl
theorem SR.GA(r:SR)(j:Nat)(z:Int):(r.Aw j z).pu=r.pu.Aw j z:=by
 obtain⟨x,dx,p1,p2,d,k,ws,bs,ls,seen,rows⟩:=r
 cases k <;>rfl
theorem SP.EA(p:SP)(j:Nat)(z:Int):(p.Aw j z).ws=p.ws:=(p.sr.DU j z).2.2.1
theorem SP.BW(p:SP)(j:Nat)(z:Int):(p.Aw j z).bs=p.bs:=(p.sr.DU j z).2.2.2
theorem gO{l:List Int}{y b v:Int}(h:(l.head?.map λb=>(b,v))=some (b,y)):b∈l:=by
 cases l with
 | nil=>cases h
 | cons a r=>cases h;exact zH
theorem SP.Ah{p:SP}{b y:Int}(h:p.out j z=some (b,y)):b∈p.bs:=by
 unfold SP.out SR.out at h
 cases e:p.k with
 | Ak n =>
  rw[show p.sr.k=p.k from rfl,e]at h
  exact gO h
 | zp =>
  rw[show p.sr.k=p.k from rfl,e]at h
  dsimp only at h
  split at h
  ·cases h
  ·cases eb:p.sr.bs[(z%(p.sr.bs.length:Int)).toNat]? with
   | none=>rw[eb]at h;cases h
   | some B =>
    rw[eb]at h
    cases h
    exact zE eb
 | rd n =>
  rw[show p.sr.k=p.k from rfl,e]at h
  dsimp only at h
  split at h
  ·cases h
  ·exact gO h
 | kc =>
  rw[show p.sr.k=p.k from rfl,e]at h
  dsimp only at h
  split at h
  ·cases h
  ·exact gO h
 | sink =>
  rw[show p.sr.k=p.k from rfl,e]at h
  cases h
theorem nY(cs:Cs)(A B:List SR)(r:SR):stC cs (A++r::B)=stC cs A++(Cy cs r++stC cs B):=by
 unfold stC
 rw[qV,vK]
theorem ou{cs:Cs}{A B:List SR}(hc:Hc H (stC cs (A++r::B)::M)):Hc H (Cy cs r::(stC cs A++stC cs B)::M):=by
 rw[nY]at hc
 have h1:=hc.split.swap.split
 exact((h1.pick 1 rfl).pick 2 rfl).join.swap
theorem oQ{cs:Cs}{A B:List SR}(hc:Hc H (Cy cs r::(stC cs A++stC cs B)::M)):Hc H (stC cs (A++r::B)::M):=by
 rw[nY]
 have h1:Hc H (stC cs A::stC cs B::Cy cs r::M):=hc.swap.split
 have h2:Hc H (Cy cs r::stC cs B::stC cs A::M):=(h1.pick 1 rfl).pick 2 rfl
 exact h2.join.swap.join
theorem dw{v:List V}(h:as[j]?=some a):(zb as vs).set j (a,.lst v)=zb as (vs.set j v):=by
 unfold zb
 rw[fZ h,j7]
theorem cp{F:α->β->Prop}:∀{l:List α}{m:List β}{i:Nat}{x:α}{y:β},Paired F l m->F x y->Paired F (l.set i x) (m.set i y)
 | _,_,_,_,_,.nil,_=>.nil
 | _,_,0,_,_,.cons _ r,h=>.cons h r
 | _,_,i+1,_,_,.cons p r,h=>.cons p (cp r h)
theorem fq{F:α->β->Prop}:∀{l:List α}{m:List β}{i:Nat},Paired F l m->Paired F (l.eraseIdx i) (m.eraseIdx i)
 | _,_,_,.nil=>.nil
 | _,_,0,.cons _ r=>r
 | _,_,i+1,.cons p r=>.cons p (fq r)
theorem cE{p:α->Prop}{l:List α}{x:α}(h:∀y∈l,p y)(hx:p x):∀y∈l.set i x,p y:=λy hy=>by
 rcases vY hy with e|e
 ·exact h y e
 ·rw[e];exact hx
structure OA where
 fi:List SP
 dl:List Int
 pr:List (Option Int)
 de:List (List fc)
 re:List (List fc)
 ge:List (List fc)
structure Bz(H:Hp)(o:OR)(A:OA):Prop where
 s:o.fi.map SR.pu=A.fi
 d:o.ov=A.dl
 p:o.pr=A.pr
 e:Fy H o A.de A.re A.ge
def sF(t:fc):Int×Int:=(t.1,t.2.1)
def OA.AN(A:OA)(s:Nat)(ws:List Int):List fc:=ws.filterMap λw=>(n7 A.de A.re s w).head?
def OA.GB(A:OA)(s:Nat)(ws:List Int):Option fc:=(A.AN s ws)[Ad ((A.AN s ws).map sF)]?
abbrev uq:Str:="Own.upcoming.<locals>.<lambda>"
abbrev Hr(P:Addr)(H:Hp):Prop:=zz P uq 194 31 H
def Xa(H:Hp)(v:V):Option fc->Prop
 | none=>v=.y2
 | some t=>d4 H v t
inductive GC(cs:Cs)(C Pu:Addr)(vs:List V)(H:Hp)(Q:VK)(wc:XK):Prop where
 | mk (o:OR) (M:List (List Cell)) (s:Nat) (A:OA) (r:SR) (ui:vs=[.ref o.x,.int s]) (uj:Hc H (zi cs C o++M)) (zf:AJ o) (zq:Bz H o A) (Ai:o.fi[s]?=some r) (AA:r.ws.length<=100) (Bl:Hr Pu H) (C7:∀(v:V)(H':Hp),ql [Pu] H H'->Hr Pu H'->Xa H' v (A.GB s r.ws)->Q v H'):GC cs C Pu vs H Q wc
variable{A B:OA}
theorem _root_.L2.zz.ne{P:Addr}(h:zz P q ln cl H){u:HO}(e:H b=some u)(hu:∀ps,u≠HO.AB ps):b≠P:=by
 rcases h with h|⟨c',h,_⟩
 ·exact bK e h (hu _)
 ·exact bK e h (hu _)
theorem ql.OS{P:Addr}(k:ql [P] H H')(h:zz P q ln cl H){x:V}(ht:d4 H x t):d4 H' x t:=by
 obtain⟨p,e,hp⟩:=ht
 exact⟨p,e,k _ _ hp (by rw[zF];exact h.ne hp λ_ z=>nomatch z)⟩
theorem vz{a:α}{X:Prop}(h:([]:List α)[j]?=some a):X:=by simp at h
section
variable{cs:Cs}
theorem tE:AU ["self","station","rows","firsts"] ["self","station"] (zc (inClass (top 34) 8)):=⟨rfl,rfl,rfl,by decide +kernel,rfl,by decide +kernel,by decide +kernel⟩
theorem wf{f c:Addr}(F:Ac K "upcoming" "Own.upcoming" (inClass (top 34) 8) f fd)(ER:fd.code=.ref c)(tm:Tab K mg base c Pu)(T:Txt K mg)(oc:Fx K C)(cc:CY K cs)(U:MethAt P w K mg base 1 C "row" ["self","station","way"] (DX cs C)):mu P w K mg base Aa 2 f fd ["self","station"] (GC cs C Pu):=by
 have nd:=tE.nd
 refine F.Ti ER tE (λvs H Q E h=>?_) (λA outer s H vs Q E hr h=>?_)
 ·obtain⟨o,M,s,A,r,rfl,_⟩:=h
  rfl
 ·obtain⟨o,M,s,A,r,rfl,hc,ok,is,hs,Xb,hT,q⟩:=h
  have ct:=cc.st r.k
  refine⟨_,((2|||["way"]|||["self","station"]|||[0,1]|||(cG (K:=K) rfl (bw (K:=K) rfl (bw (K:=K) rfl {0} rfl<*{1}) rfl))|||bB|||(U<$>{1}>>({2}>>{0}>>a_)))<|>(3|||["row"]|||[]|||[]|||(bx (K:=K) rfl {2})|||(cB (bp fw ‹{0}› bh (bq _)))|||({0}<*bh))<|>(~~~(rS rfl hr (by rfl) T.EX i9 rfl (by rfl) tm.hd tm.bl {3} (by decide) (λ_ _ _ _=>rfl) (by rfl) (by rfl)))),?_⟩
  walk_at "I"
  refine dj (a:=r.p1) (xs:=r.ws.map V.int) (λi H5=>c0 H H5/\∃as:List Addr,as.length=i/\H5 D=some (.lst (as.map V.ref))/\∀j a wy,as[j]?=some a->r.ws[j]?=some wy->∃us,o.at s wy=some us/\H a=some (.lst us)) ⟨c0.new nD,[],rfl,bg,λj a wy h=>vz h⟩ (λi H5 _ p=>ze.of (p.1 _ _ (me hc hs))) ?_ ?_
  ·rintro i x H5 m Wf hx ⟨s5,as,Y,g5,all⟩ nx
   obtain⟨wy,rfl,G⟩:=cq hx
   obtain⟨a1,us,a2⟩:=qx ok hs (zE G)
   have hi:=(zC.mp G).1
   refine⟨_,rfl,o.x,o.dx,o.zg,rfl,s5 _ _ (hc.get 0 0 rfl rfl),Ed (by decide +kernel),_,rfl,_,rfl,o,M,s,wy,us,rfl,hc.same s5,ok,a1,a2,λa ha hl=>?_⟩
   have QX:H a=some (.lst us):=by
    unfold OR.Bg at ha
    unfold OR.at at a2
    split at ha
    ·rename_i e
     rw[if_pos e]at a2
     obtain⟨a',h1,h2⟩:=ok.door hc a2
     rw[ha]at h1;cases h1
     exact h2
    ·rename_i e
     rw[if_neg e]at a2
     obtain⟨a',h1,h2⟩:=ok.DV hc a2
     rw[ha]at h1;cases h1
     exact h2
   refine⟨_,g5,bo (by rw[zB];lia),nx _ ⟨s5.upd nD,as++[a],by rw[zN,Y];rfl,by rw[bg,zK];rfl,λj a' Xc hj hw=>?_⟩⟩
   rcases Nat.lt_trichotomy j as.length with z|z|z
   ·rw[yP z]at hj
    exact all j a' Xc hj hw
   ·rw[zX (by lia),z,qN]at hj
    cases hj
    rw[z,Y,G]at hw
    cases hw
    exact⟨us,a2,QX⟩
   ·rw[zX (by lia)]at hj
    have:([a]:List Addr)[j-as.length]?=none:=yT (by show 1<=_;lia)
    rw[this]at hj;cases hj
  ·rintro H5 ⟨s5,as,Y,g5,all⟩
   rw[zB]at Y
   refine⟨_,rfl,D,rfl,⟨_,eH.of g5⟩,λD2 CV=>?_⟩
   refine bA (a:=D) (xs:=as.map V.ref) (λi H6=>c0 H5 H6/\∃B:List V,H6 D2=some (.lst B)/\Paired (d4 H) B (A.AN s (r.ws.take i))) ⟨c0.new CV,[],bg,.nil⟩ (λi H6 _ p=>eH.of (p.1 _ _ g5)) ?_ ?_
   ·rintro i x H6 m Wf hx ⟨s6,B,g6,O⟩ nx
    rw[zG]at hx
    obtain⟨a,ha,rfl⟩:=y6.mp hx
    have hi:=(zC.mp ha).1
    obtain⟨wy,G⟩:∃wy,r.ws[i]?=some wy:=⟨r.ws[i]'(by lia),zD _⟩
    obtain⟨us,Ii,hl⟩:=all i a wy ha G
    have pe:=sA is.e Ii
    have T7:=s6 _ _ (s5 _ _ hl)
    have l6:=O.length
    have lh:(A.AN s (r.ws.take i)).length<=100:=by
     unfold OA.AN
     refine yE (xD _ _) ?_
     rw[yA];lia
    have eh:A.AN s (r.ws.take (i+1))=A.AN s (r.ws.take i)++([wy].filterMap λw=>(n7 A.de A.re s w).head?):=by
     unfold OA.AN
     rw[bI G,kW]
    refine⟨_,rfl,a,us,rfl,.inl (eH.of T7),_,_,rfl,rfl,_,rfl,?_⟩
    cases ee:n7 A.de A.re s wy with
    | nil =>
     rw[ee]at pe
     cases pe
     refine nj (nx _ ⟨s6,B,g6,?_⟩)
     rw[eh,jR,ee]
     simpa using O
    | cons t ts =>
     rw[ee]at pe
     cases pe with
     | cons Xd ZE =>
      rename_i x0 Xe
      have e:decide ((0:Int)<((x0::Xe).length:Int))=true:=decide_eq_true (by rw[yD];lia)
      rw[e]
      refine vr ⟨_,rfl,⟨_,_,_,_,rfl,rfl,eH.of T7,d5 (j:=0) rfl,_,g6,bo (by lia),nx _ ⟨s6.upd CV,B++[x0],bg,?_⟩⟩⟩
      rw[eh,jR,ee]
      exact bv O (.cons Xd .nil)
   ·rintro H6 ⟨s6,B,g6,O⟩
    rw[zB,Y,zY]at O
    have S:=s5.trans s6
    have Gw:=hT.same S
    refine⟨_,rfl,D2,B,(A.AN s r.ws).map sF,rfl,eH.of g6,(by rw[zB,O.length]),λj x k hx hk=>?_,Gw,λH7 kp KS=>?_⟩
    ·obtain⟨t,ht,p,rfl,hp⟩:=O.gt hx
     rw[zG,ht]at hk
     cases hk
     exact⟨p,_,rfl,ze.of (S _ _ hp),rfl,rfl⟩
    ·have KP:ql [Pu] H H7:=λb u e n=>kp b u (S b u e) n
     refine⟨λe=>?_,λx hx=>?_⟩
     ·rw[e]at O
      refine q _ H7 KP KS ?_
      have e0:A.AN s r.ws=[]:=by
       generalize A.AN s r.ws=z at O
       cases O;rfl
      unfold OA.GB
      rw[e0]
      rfl
     ·obtain⟨t,ht,it⟩:=O.gt hx
      refine q x H7 KP KS ?_
      unfold OA.GB
      rw[ht]
      exact ql.OS KP hT it
end
def OA.lets(A:OA)(t:fc)(b:Nat):Bool:=if (A.re.getD b []).isEmpty=true then (match A.pr.getD b none with|none=>true|some g=>HT.lexLt [t.1,t.2.1] [g,(b:Int)])else true
def OA.may(A:OA)(ws:List Int)(t:fc):Bool:=(ws.filter λw=>!(w == -1)).all λw=>A.lets t w.toNat
inductive EB(cs:Cs)(C:Addr)(vs:List V)(H:Hp)(Q:VK)(wc:XK):Prop where
 | mk (o:OR) (M:List (List Cell)) (b:Nat) (A:OA) (v:V) (t:fc) (ui:vs=[.ref o.x,.int (b:Int),v]) (uj:Hc H (zi cs C o++M)) (zf:AJ o) (zq:Bz H o A) (Ai:b<o.ov.length) (AA:d4 H v t) (Bl:∀H',c0 H H'->Q (.bl (A.lets t b)) H'):EB cs C vs H Q wc
inductive GD(cs:Cs)(C:Addr)(vs:List V)(H:Hp)(Q:VK)(wc:XK):Prop where
 | mk (o:OR) (M:List (List Cell)) (s:Nat) (A:OA) (v:V) (t:fc) (r:SR) (ui:vs=[.ref o.x,.int (s:Int),v]) (uj:Hc H (zi cs C o++M)) (zf:AJ o) (zq:Bz H o A) (Ai:o.fi[s]?=some r) (AA:r.ws.length<=100) (Bl:d4 H v t) (C7:∀H',c0 H H'->Q (.bl (A.may r.ws t)) H'):GD cs C vs H Q wc
theorem Fy.tk{o:OR}{de:List (List fc)}(k:Tk H H')(e:Fy H o de re ge):Fy H' o de re ge :=
 ⟨bf (λ_ _ h=>bf (λ_ _ h=>h.tk k) h) e.d,bf (λ_ _ h=>bf (λ_ _ h=>h.tk k) h) e.r,bf (λ_ _ h=>bf (λ_ _ h=>h.tk k) h) e.g⟩
theorem Bz.tk{o:OR}(k:Tk H H')(h:Bz H o A):Bz H' o A:=⟨h.s,h.d,h.p,h.e.tk k⟩
section
variable{cs:Cs}
theorem uL{f:Addr}(F:Ac K "lets" "Own.lets" (inClass (top 34) 10) f fd)(T:Txt K mg)(oc:Fx K C):mu P w K mg base Aa 1 f fd ["self","belt","event"] (EB cs C):=by
 exists ["self","belt","event","given"]
 obtain⟨o,M,b,A,v,t,rfl,hc,ok,is,hb,ht,q⟩:=h
 have Fz:=ok.Fz
 have lp:=ok.lp
 obtain⟨us,B7⟩:∃us,o.rv[b]?=some us:=⟨o.rv[b]'(by lia),zD _⟩
 obtain⟨a,ha,hl⟩:=ok.DV hc B7
 obtain⟨ts,B,pt⟩:=is.e.r.gt B7
 obtain⟨g,hg⟩:∃g,o.pr[b]?=some g:=⟨o.pr[b]'(by lia),zD _⟩
 obtain⟨p,rfl,hp⟩:=ht
 unfold OA.lets at q
 rw[zA,B,←is.p,zA,hg]at q
 refine⟨_,(bL (bp fw ‹(bw (K:=K) rfl {0} rfl<*{1})› bh (bq _)) (~~~iC) bz<|>(3>>=(bw (K:=K) rfl {0} rfl<*{1}))<|>(~~~(yo (cF gU {3} bS (bq _)) (kj (cF (yc (qJ (Nat.le_add_right _ _) hr.units)) (@bF _ _ _ _ _ ({3}>>{1}>>a_)) (@bF _ _ _ _ _ (({2}<*>bh)>>({2}<*>bh)>>a_)) (bq _)))))),?_⟩
 refine⟨_,rfl,o.x,C,o.dx,o.zg,_,rfl,hc.get 0 0 rfl rfl,oc.cl,oc.n4,mP,_,rfl,⟨_,_,_,_,rfl,rfl,eH.of (hc.get 0 4 rfl rfl),d5 (cC ha),a,us,rfl,.inl (eH.of hl),_,_,rfl,rfl,_,rfl,?_⟩⟩
 cases pt with
 | nil =>
  refine nj ⟨_,rfl,o.x,C,o.dx,o.zg,_,rfl,hc.get 0 0 rfl rfl,oc.cl,oc.n5,gY,_,rfl,⟨_,_,_,_,rfl,rfl,eH.of (hc.get 0 5 rfl rfl),d5 (by rw[zG,hg];rfl),?_⟩⟩
  cases g with
  | none=>exact⟨_,rfl,rfl,⟨_,rfl,vr (q H (c0.refl _))⟩⟩
  | some g =>
   refine⟨_,rfl,rfl,⟨_,rfl,nj ?_⟩⟩
   refine⟨_,rfl,_,rfl,(by show 2<=sizeLine;decide),λp1 n1=>?_⟩
   have s1:=c0.new (o:=.tup [pV (some g),.int (b:Int)]) n1
   have O:=bg (H:=H) (a:=p1) (o:=.tup [pV (some g),.int (b:Int)])
   generalize upd H p1 (.tup [pV (some g),.int (b:Int)])=H1 at s1 O ⊢
   refine⟨_,rfl,(s1 _ _ hp<<<0>>>⟨_,rfl,(s1 _ _ hp<<<1>>>⟨(by show 2<=sizeLine;decide),λp2 n2=>?_⟩)⟩)⟩
   have s2:=c0.new (o:=.tup [.int t.1,.int t.2.1]) n2
   have U:=bg (H:=H1) (a:=p2) (o:=.tup [.int t.1,.int t.2.1])
   generalize upd H1 p2 (.tup [.int t.1,.int t.2.1])=H2 at s2 U ⊢
   exact⟨p1,p2,[g,(b:Int)],[t.1,t.2.1],rfl,rfl,ze.of (s2 _ _ O),ze.of U,q H2 (s1.trans s2)⟩
 | cons hx Y =>
  rename_i x0 t0 G ZF
  have e:decide ((0:Int)<((x0::G).length:Int))=true:=decide_eq_true (by rw[yD];lia)
  rw[e]
  exact vr (q H (c0.refl _))
theorem xw{f:Addr}(F:Ac K "may_take" "Own.may_take" (inClass (top 34) 9) f fd)(T:Txt K mg)(B:mg "DOOR"=some (.int (-1) Oh))(oc:Fx K C)(Y:CY K cs)(G:MethAt P w K mg base 1 C "lets" ["self","belt","event"] (EB cs C)):mu P w K mg base Aa 2 f fd ["self","station","event"] (GD cs C):=by
 exists ["self","station","event"]
 obtain⟨o,M,s,A,v,t,r,rfl,hc,ok,is,hs,U,ht,q⟩:=h
 have ct:=Y.st r.k
 refine⟨_,(~~~(z_ (iB rfl) (by rfl) T.Jx tP ((["belt"]^^^["self","event"]^^^[0,2]^^^(cG (K:=K) rfl (bw (K:=K) rfl (bw (K:=K) rfl {0} rfl<*{1}) rfl))^^^(cB (bp mq {0} (cK (v:=.int (-1)) (by rfl) (by exact B) ⟨_,rfl⟩) (bq _)))^^^(G<$>{1}>>({0}>>{2}>>a_)))>>a_))),?_⟩
 walk_at "I"
 refine dj (a:=r.p1) (xs:=r.ws.map V.int) (λi H5=>c0 H H5/\H5 D=some (.lst ((((r.ws.take i).filter λw=>!(w == -1)).map λw=>A.lets t w.toNat).map V.bl))) ⟨c0.new nD,bg⟩ (λi H5 _ p=>ze.of (p.1 _ _ (me hc hs))) ?_ ?_
 ·rintro i x H5 m Wf hx ⟨s5,g5⟩ nx
  obtain⟨wy,rfl,O⟩:=cq hx
  have hi:=(zC.mp O).1
  have lf:((r.ws.take i).filter λw=>!(w == -1)).length<=100:=by
   refine yE (jH _ _) ?_
   rw[yA];lia
  refine⟨_,rfl,rfl,_,rfl,?_⟩
  rw[bT]
  by_cases e:wy=-1
  ·rw[show(!(wy == -1))=false by simpa using e]
   refine nj (nx _ ⟨s5,?_⟩)
   rw[bI O,zM,yB (by simpa using e),yN,zQ]
   exact g5
  ·rw[show(!(wy == -1))=true by simpa using e]
   have hw:=ok.Dq r (zE hs) wy (zE O)
   obtain⟨b,hb⟩:∃b:Nat,wy=(b:Int):=⟨wy.toNat,by lia⟩
   subst hb
   refine vr ⟨_,rfl,o.x,o.dx,o.zg,rfl,s5 _ _ (hc.get 0 0 rfl rfl),Ed (by decide +kernel),_,rfl,_,rfl,o,M,b,A,v,t,rfl,hc.same s5,ok,is.tk (Tk.of s5),(by lia),ht.same s5,λH6 s6=>?_⟩
   refine⟨_,s6 _ _ g5,bo (by rw[zB,zB];lia),nx _ ⟨(s5.trans s6).upd nD,?_⟩⟩
   rw[bg,bI O,zM,zZ (by simpa using e),yN,zK,zK]
   rfl
 ·rintro H5 ⟨s5,g5⟩
  rw[zB,zY]at g5
  refine⟨D,_,rfl,eH.of g5,?_⟩
  have:=q H5 s5
  unfold OA.may at this
  rw[List.all_map]
  exact this
end
def OA.new(A:OA)(now:Option Int)(b:Nat):Option Int:=now.map λn=>n+A.dl.getD b 0
def OA.stays(A:OA)(now:Option Int)(b:Nat):Bool:=match A.pr.getD b none with
 | none=>true
 | some p=>match A.new now b with
  | none=>false
  | some n=>decide (n<=p)
def OA.AK(A:OA)(now:Option Int)(b:Nat):OA×Bool:=if A.stays now b=true then (A,false)else ({ A with pr:=A.pr.set b (A.new now b) },true)
def OA.B_(A:OA)(now:Option Int)(bs:List Int):OA×Bool:=bs.foldl (λp b=>((p.1.AK now b.toNat).1,p.2||(p.1.AK now b.toNat).2)) (A,false)
def OA.DW(A:OA)(w:Int):List fc->Option Int
 | t::_=>some t.1
 | []=>if w=-1 then none else A.pr.getD w.toNat none
def OA.zr(A:OA)(s:Nat)(ws:List Int):Option Int:=(ws.filterMap λw=>A.DW w (n7 A.de A.re s w)).min?
theorem Bz.zr{o:OR}(h:Bz H o A)(s:Nat)(r:SR):o.zr A.de A.re s r=A.zr s r.ws:=by
 unfold OR.zr OA.zr
 congr 1
 refine congrFun (congrArg _ (funext λw=>?_)) _
 cases n7 A.de A.re s w with
 | nil=>unfold OR.DW OA.DW;rw[h.p]
 | cons t ts=>rfl
structure JB(cs:Cs)(C:Addr)(M:List (List Cell))(H H':Hp)(o o':OR)(A':OA):Prop where
 x:o'.x=o.x
 s:o'.fi=o.fi
 d:o'.ov=o.ov
 hc:Hc H' (zi cs C o'++M)
 ok:AJ o'
 is:Bz H' o' A'
 tk:Tk H H'
inductive KW(cs:Cs)(C:Addr)(vs:List V)(H:Hp)(Q:VK)(wc:XK):Prop where
 | mk (o:OR) (M:List (List Cell)) (b:Nat) (A:OA) (now:Option Int) (ui:vs=[.ref o.x,.int (b:Int),pV now]) (uj:Hc H (zi cs C o++M)) (zf:AJ o) (zq:Bz H o A) (Ai:b<o.ov.length) (AA:∀(o':OR)(H':Hp),JB cs C M H H' o o' (A.AK now b).1->Q (.bl (A.AK now b).2) H'):KW cs C vs H Q wc
inductive GF(cs:Cs)(C:Addr)(vs:List V)(H:Hp)(Q:VK)(wc:XK):Prop where
 | mk (o:OR) (M:List (List Cell)) (s:Nat) (A:OA) (r:SR) (ui:vs=[.ref o.x,.int (s:Int)]) (uj:Hc H (zi cs C o++M)) (zf:AJ o) (zq:Bz H o A) (Ai:o.fi[s]?=some r) (AA:r.ws.length<=100) (Bl:∀(o':OR)(H':Hp),JB cs C M H H' o o' (A.B_ (A.zr s r.ws) r.bs).1->Q (.bl (A.B_ (A.zr s r.ws) r.bs).2) H'):GF cs C vs H Q wc
theorem sG(h:i<n):H_ n (i:Int)=some i:=by
 unfold H_
 simp
 lia
theorem AJ.pr{o:OR}(ok:AJ o)(p:List (Option Int))(h:p.length=o.pr.length):AJ { o with pr:=p }:=⟨ok.ld,ok.KQ,ok.lr,ok.Fz,h.trans ok.lp,ok.lg,ok.Hq,ok.s8,ok.BN,ok.Dq,ok.BO⟩
theorem Fy.pr{o:OR}{de:List (List fc)}(e:Fy H o de re ge)(p:List (Option Int)):Fy H { o with pr:=p } de re ge:=⟨e.d,e.r,e.g⟩
section
variable{cs:Cs}
theorem yk{f:Addr}(F:Ac K "raise_promise" "Own.raise_promise" (inClass (top 34) 13) f fd)(oc:Fx K C):mu P w K mg base Aa 1 f fd ["self","belt","now"] (KW cs C):=by
 exists ["self","belt","now","old","new"]
 obtain⟨o,M,b,A,now,rfl,hc,ok,is,hb,q⟩:=h
 have lp:=ok.lp
 obtain⟨g,hg⟩:∃g,o.pr[b]?=some g:=⟨o.pr[b]'(by lia),zD _⟩
 obtain⟨d,hd⟩:∃d,o.ov[b]?=some d:=⟨o.ov[b]'(by lia),zD _⟩
 have O:A.pr.getD b none=g:=by rw[←is.p,zA,hg];rfl
 have G:A.dl.getD b 0=d:=by rw[←is.d,zA,hd];rfl
 have same:A.stays now b=true->Q (.bl false) H:=λe=>by
  have h0:=q o H
  unfold OA.AK at h0
  rw[if_pos e]at h0
  exact h0 ⟨rfl,rfl,rfl,hc,ok,is,Tk.refl _⟩
 have go:A.stays now b=false->Q (.bl true) (upd H o.pl (.lst ((o.pr.map pV).set b (pV (A.new now b))))):=λe=>by
  have h0:=q { o with pr:=o.pr.set b (A.new now b) } (upd H o.pl (.lst ((o.pr.map pV).set b (pV (A.new now b)))))
  unfold OA.AK at h0
  rw[if_neg (by rw[e];decide)]at h0
  have hp:=hc.put 0 5 rfl rfl (.lst ((o.pr.map pV).set b (pV (A.new now b))))
  have tk:Tk H (upd H o.pl (.lst ((o.pr.map pV).set b (pV (A.new now b))))):=(Tk.refl H).put (hc.get 0 5 rfl rfl) (λz=>z)
  refine h0 ⟨rfl,rfl,rfl,?_,ok.pr _ yG,⟨is.s,is.d,by show o.pr.set b _=A.pr.set b _;rw[is.p],(is.e.tk tk).pr _⟩,tk⟩
  rw[←j7]at hp ⊢
  exact hp
 unfold OA.stays OA.new at same
 unfold OA.stays at go
 rw[O]at same go
 refine⟨_,((3>>=(bw (K:=K) rfl {0} rfl<*{1}))<|>(4>>=c6 (bp gU {2} bS (bq _)) bS (bu bQ {2} (bw (K:=K) rfl {0} rfl<*{1})))<|>bL ((gQ (bp gU {3} bS (bq _)) (hV ((i7 (bp dS {4} bS (bq _)) (gH (bp gn {4} {3} (bq _))))).pt))).pt (~~~iC) bz<|>rD {4} (wj (bw (K:=K) rfl {0} rfl) {1} sP)<|>(~~~iC)),?_⟩
 refine⟨_,rfl,o.x,C,o.dx,o.zg,_,rfl,hc.get 0 0 rfl rfl,oc.cl,oc.n5,gY,_,rfl,⟨_,_,_,_,rfl,rfl,eH.of (hc.get 0 5 rfl rfl),d5 (by rw[zG,hg];rfl),?_⟩⟩
 cases now with
 | none =>
  refine⟨_,rfl,rfl,_,rfl,vr ?_⟩
  cases g with
  | none=>exact⟨_,rfl,rfl,_,rfl,vr (vr (same rfl))⟩
  | some p =>
   refine⟨_,rfl,rfl,_,rfl,nj ⟨_,rfl,rfl,_,rfl,nj (nj ?_)⟩⟩
   exact⟨_,rfl,_,rfl,o.x,C,o.dx,o.zg,_,rfl,hc.get 0 0 rfl rfl,oc.cl,oc.n5,gY,_,rfl,o.pl,_,_,b,rfl,rfl,hc.get 0 5 rfl rfl,sG (by rw[zB];lia),go rfl⟩
 | some n =>
  refine⟨_,rfl,rfl,_,rfl,nj ?_⟩
  refine⟨_,rfl,_,rfl,o.x,C,o.dx,o.zg,_,rfl,hc.get 0 0 rfl rfl,oc.cl,oc.n2,sH,_,rfl,⟨_,_,_,_,rfl,rfl,eH.of (hc.get 0 2 rfl rfl),d5 (by rw[zG,hd];rfl),_,_,rfl,rfl,?_⟩⟩
  have U:A.new (some n) b=some (n+d):=by unfold OA.new;rw[G];rfl
  cases g with
  | none=>exact⟨_,rfl,rfl,_,rfl,vr (vr (same rfl))⟩
  | some p =>
   refine⟨_,rfl,rfl,_,rfl,nj ⟨_,rfl,rfl,_,rfl,vr ⟨_,rfl,_,rfl,_,_,rfl,rfl,_,rfl,?_⟩⟩⟩
   rw[U]at go
   by_cases B:n+d<=p
   ·rw[decide_eq_true B]
    refine vr (same ?_)
    rw[G]
    exact decide_eq_true B
   ·rw[decide_eq_false B]
    refine nj ?_
    exact⟨_,rfl,_,rfl,o.x,C,o.dx,o.zg,_,rfl,hc.get 0 0 rfl rfl,oc.cl,oc.n5,gY,_,rfl,o.pl,_,_,b,rfl,rfl,hc.get 0 5 rfl rfl,sG (by rw[zB];lia),go (decide_eq_false B)⟩
theorem w_{f:Addr}(F:Ac K "raise_promises" "Own.raise_promises" (inClass (top 34) 12) f fd)(oc:Fx K C)(cc:CY K cs)(G:MethAt P w K mg base 3 C "clock" ["self","station"] (E4 cs C))(B:MethAt P w K mg base 1 C "raise_promise" ["self","belt","now"] (KW cs C)):mu P w K mg base Aa 4 f fd ["self","station"] (GF cs C):=by
 exists ["self","station","now","raised","belt"]
 obtain⟨o,M,s,A,r,rfl,hc,ok,is,hs,Y,q⟩:=h
 have ct:=cc.st r.k
 refine⟨_,((2>>=(G<$>{0}>>({1}>>a_)))<|>(3>>=iC)<|>cj PassesOwn.never rfl (cG (K:=K) rfl (bw (K:=K) rfl (bw (K:=K) rfl {0} rfl<*{1}) rfl)) (fB (i:=4) nd rfl (by nofun)) (@ei _ _ _ (bL (dk (B<$>{0}>>({4}>>{2}>>a_))) (@ei _ _ _ (3>>=iC)) bz))<|>(~~~{3})),?_⟩
 refine⟨_,rfl,o.x,o.dx,o.zg,rfl,hc.get 0 0 rfl rfl,Ed (by decide +kernel),_,rfl,o,M,s,r,A.de,A.re,A.ge,rfl,hc,ok,hs,Y,is.e,λH1 s1=>?_⟩
 rw[is.zr]
 generalize A.zr s r.ws=now at q ⊢
 have O:=hc.same s1
 have Na:=is.tk (Tk.of s1)
 refine⟨_,rfl,o.x,C,o.dx,o.zg,_,rfl,O.get 0 0 rfl rfl,oc.cl,oc.n1,jm,_,rfl,⟨_,_,_,_,rfl,rfl,eH.of (O.get 0 1 rfl rfl),d5 (d3 hs),r.x,cs.of r.k,r.dx,r.zg,_,rfl,JU O hs,ct.cl,ct.nB,r.Ez,r.p2,rfl,⟨_,ze.of (vf O hs)⟩,?_⟩⟩
 refine jp (K:=K) (a:=r.p2) (xs:=r.bs.map V.int) (λi σ H5=>∃(o':OR)(v4:Option V),σ=[some (.ref o.x),some (.int (s:Int)),some (pV now),some (.bl (A.B_ now (r.bs.take i)).2),v4]/\JB cs C M H H5 o o' (A.B_ now (r.bs.take i)).1)
  ⟨o,none,rfl,rfl,rfl,rfl,O,ok,Na,Tk.of s1⟩ (λi σ H5 _ ⟨o',_,_,t⟩=>ze.of (vf (o:=o') t.hc (by rw[t.s];exact hs))) ?_ ?_
 ·rintro i x σ H5 hx ⟨o',v4,rfl,t⟩
  obtain⟨b,rfl,hb⟩:=cq hx
  obtain⟨b0,b1⟩:=ok.BO r (zE hs) b (zE hb)
  obtain⟨U,rfl⟩:∃U:Nat,b=(U:Int):=⟨b.toNat,by lia⟩
  have e1:A.B_ now (r.bs.take (i+1))=(((A.B_ now (r.bs.take i)).1.AK now U).1,(A.B_ now (r.bs.take i)).2||((A.B_ now (r.bs.take i)).1.AK now U).2):=by
   unfold OA.B_
   rw[bI hb,vJ]
   rfl
  have T8:=t.hc.get 0 0 rfl rfl
  rw[t.x]at T8
  refine⟨_,rfl,o.x,o'.dx,o'.zg,rfl,T8,Ed (by decide +kernel),_,rfl,_,rfl,o',M,U,(A.B_ now (r.bs.take i)).1,now,(by rw[t.x];rfl),t.hc,t.ok,t.is,(by rw[t.d];lia),λo2 H6 t2=>⟨_,rfl,?_⟩⟩
  have t3:JB cs C M H H6 o o2 (A.B_ now (r.bs.take (i+1))).1:=by
   rw[e1]
   exact⟨t2.x.trans t.x,t2.s.trans t.s,t2.d.trans t.d,t2.hc,t2.ok,t2.is,t.tk.trans t2.tk⟩
  rw[e1]at t3
  cases eb:((A.B_ now (r.bs.take i)).1.AK now U).2 with
  | true =>
   refine vr ⟨o2,some (.int (U:Int)),?_,by rw[e1];exact t3⟩
   rw[e1,eb,Bool.or_true]
   rfl
  | false =>
   refine nj ⟨o2,some (.int (U:Int)),?_,by rw[e1];exact t3⟩
   rw[e1,eb,Bool.or_false]
   rfl
 ·rintro σ H5 ⟨o',v4,rfl,t⟩
  rw[zB,zY]at t ⊢
  exact⟨_,rfl,q o' H5 t⟩
end
def OA.pop(A:OA)(s:Nat)(w:Int):OA:=if w=-1 then { A with de:=A.de.set s (A.de.getD s []).tail }else { A with re:=A.re.set w.toNat (A.re.getD w.toNat []).tail }
def OA.log(A:OA)(s:Nat)(t:fc):OA:={ A with ge:=A.ge.set s (A.ge.getD s []++[t]) }
def OA.lay(A:OA)(b:Nat)(t:fc):OA:={ A with re:=A.re.set b (A.re.getD b []++[t]) }
def OA.Ea(A:OA)(s:Nat)(p:SP):OA:={ A with fi:=A.fi.set s p }
def OA.put(A:OA)(t:fc):Option (Int×Int)->OA
 | none=>A
 | some p=>A.lay p.1.toNat (t.1+A.dl.getD p.1.toNat 0,p.1,p.2)
def OA.take(A:OA)(s:Nat)(p:SP)(t:fc):OA:=OA.put (((A.pop s t.2.1).log s t).Ea s (p.Aw (p.ws.idxOf t.2.1) t.2.2)) t (p.out (p.ws.idxOf t.2.1) t.2.2)
structure QY(cs:Cs)(C:Addr)(M:List (List Cell))(H H':Hp)(o o':OR)(A':OA):Prop where
 x:o'.x=o.x
 d:o'.ov=o.ov
 hc:Hc H' (zi cs C o'++M)
 ok:AJ o'
 is:Bz H' o' A'
 tk:Tk H H'
theorem gq{F:α->β->Prop}{l:List α}{m:List β}(h:Paired F l m):Paired F (l.eraseIdx 0) m.tail:=by
 cases h with
 | nil=>exact .nil
 | cons _ r=>exact r
section
variable{cs:Cs}{o:OR}
theorem AJ.dv(ok:AJ o)(p:List (List V))(h:p.length=o.dv.length):AJ { o with dv:=p }:=⟨ok.ld,h.trans ok.KQ,ok.lr,ok.Fz,ok.lp,ok.lg,ok.Hq,ok.s8,ok.BN,ok.Dq,ok.BO⟩
theorem AJ.rv(ok:AJ o)(p:List (List V))(h:p.length=o.rv.length):AJ { o with rv:=p }:=⟨ok.ld,ok.KQ,ok.lr,h.trans ok.Fz,ok.lp,ok.lg,ok.Hq,ok.s8,ok.BN,ok.Dq,ok.BO⟩
theorem AJ.gv(ok:AJ o)(p:List (List V))(h:p.length=o.gv.length):AJ { o with gv:=p }:=⟨ok.ld,ok.KQ,ok.lr,ok.Fz,ok.lp,ok.lg,h.trans ok.Hq,ok.s8,ok.BN,ok.Dq,ok.BO⟩
theorem wB(hc:Hc H (zi cs C o++M))(ok:AJ o)(is:Bz H o A){w:Int}(B:o.at s w=some us)(ha:o.Bg s w=some a):∃U,JB cs C M H (upd H a (.lst (us.eraseIdx 0))) o U (A.pop s w):=by
 unfold OR.at at B
 unfold OR.Bg at ha
 unfold OA.pop
 by_cases e:w=-1
 ·rw[if_pos e]at B ha ⊢
  have G:=hc.put 1 s rfl (bG ha B) (.lst (us.eraseIdx 0))
  have tk:Tk H (upd H a (.lst (us.eraseIdx 0))):=(Tk.refl H).put (hc.get 1 s rfl (bG ha B)) (λz=>z)
  rw[dw ha]at G
  obtain⟨ts,O,pt⟩:=is.e.d.gt B
  have ev:=is.e.tk tk
  refine⟨{ o with dv:=o.dv.set s (us.eraseIdx 0) },rfl,rfl,rfl,G,ok.dv _ yG,⟨is.s,is.d,is.p,?_,ev.r,ev.g⟩,tk⟩
  rw[zA,O]
  exact cp ev.d (gq (bf (λ_ _ h=>h.tk tk) pt))
 ·rw[if_neg e]at B ha ⊢
  have G:=hc.put 2 w.toNat rfl (bG ha B) (.lst (us.eraseIdx 0))
  have tk:Tk H (upd H a (.lst (us.eraseIdx 0))):=(Tk.refl H).put (hc.get 2 w.toNat rfl (bG ha B)) (λz=>z)
  rw[dw ha]at G
  obtain⟨ts,O,pt⟩:=is.e.r.gt B
  have ev:=is.e.tk tk
  refine⟨{ o with rv:=o.rv.set w.toNat (us.eraseIdx 0) },rfl,rfl,rfl,G,ok.rv _ yG,⟨is.s,is.d,is.p,ev.d,?_,ev.g⟩,tk⟩
  rw[zA,O]
  exact cp ev.r (gq (bf (λ_ _ h=>h.tk tk) pt))
theorem x4(hc:Hc H (zi cs C o++M))(ok:AJ o)(is:Bz H o A){G:List V}(hg:o.gv[s]?=some G)(ha:o.ga[s]?=some a)(ht:d4 H v t):∃U,JB cs C M H (upd H a (.lst (G++[v]))) o U (A.log s t):=by
 have B:=hc.put 3 s rfl (bG ha hg) (.lst (G++[v]))
 have tk:Tk H (upd H a (.lst (G++[v]))):=(Tk.refl H).put (hc.get 3 s rfl (bG ha hg)) (λz=>z)
 rw[dw ha]at B
 obtain⟨ts,O,pt⟩:=is.e.g.gt hg
 have ev:=is.e.tk tk
 refine⟨{ o with gv:=o.gv.set s (G++[v]) },rfl,rfl,rfl,B,ok.gv _ yG,⟨is.s,is.d,is.p,ev.d,ev.r,?_⟩,tk⟩
 show Paired _ (o.gv.set s (G++[v])) (A.ge.set s (A.ge.getD s []++[t]))
 rw[zA,O]
 exact cp ev.g (bv (bf (λ_ _ h=>h.tk tk) pt) (.cons (ht.tk tk) .nil))
theorem vv(hc:Hc H (zi cs C o++M))(ok:AJ o)(is:Bz H o A){b:Nat}(hg:o.rv[b]?=some us)(ha:o.ra[b]?=some a)(ht:d4 H v t):∃O,JB cs C M H (upd H a (.lst (us++[v]))) o O (A.lay b t):=by
 have B:=hc.put 2 b rfl (bG ha hg) (.lst (us++[v]))
 have tk:Tk H (upd H a (.lst (us++[v]))):=(Tk.refl H).put (hc.get 2 b rfl (bG ha hg)) (λz=>z)
 rw[dw ha]at B
 obtain⟨ts,G,pt⟩:=is.e.r.gt hg
 have ev:=is.e.tk tk
 refine⟨{ o with rv:=o.rv.set b (us++[v]) },rfl,rfl,rfl,B,ok.rv _ yG,⟨is.s,is.d,is.p,ev.d,?_,ev.g⟩,tk⟩
 show Paired _ (o.rv.set b (us++[v])) (A.re.set b (A.re.getD b []++[t]))
 rw[zA,G]
 exact cp ev.r (bv (bf (λ_ _ h=>h.tk tk) pt) (.cons (ht.tk tk) .nil))
theorem xY{ft:List Cell}{r':SR}{X Y:List SR}(ok:AJ o)(is:Bz H o A)(hs:o.fi[s]?=some r)(O:o.fi=X++r::Y)(U:X.length=s)(hx:r'.x=r.x)(hw:r'.ws=r.ws)(hb:r'.bs=r.bs)
  (hc:Hc H' (ft::Cy cs r'::(stC cs X++stC cs Y)::Ec C o::zb o.da o.dv::zb o.ra o.rv::zb o.ga o.gv::M)) (tk:Tk H H'):QY cs C (ft::M) H H' o { o with fi:=o.fi.set s r' } (A.Ea s r'.pu):=by
 have G:o.fi.set s r'=X++r'::Y:=by rw[O,←U];exact fG
 have B:zj (o.fi.set s r')=zj o.fi:=ff hs (by rw[hx])
 refine⟨rfl,rfl,?_,⟨?_,?_,ok.lr,ok.Fz,ok.lp,?_,?_,?_,ok.BN,?_,?_⟩,⟨?_,is.d,is.p,(is.e.tk tk).d,(is.e.tk tk).r,(is.e.tk tk).g⟩,tk⟩
 ·have h1:Hc H' (Cy cs r'::(stC cs X++stC cs Y)::Ec C o::zb o.da o.dv::zb o.ra o.rv::zb o.ga o.gv::ft::M):=by
   have h0:=hc.tl
   have h2:Hc H' (Cy cs r'::(stC cs X++stC cs Y)::ft::Ec C o::zb o.da o.dv::zb o.ra o.rv::zb o.ga o.gv::M):=(hc.pick 2 rfl).pick 2 rfl
   have h3:Hc H' (zb o.ga o.gv::Cy cs r'::(stC cs X++stC cs Y)::ft::Ec C o::zb o.da o.dv::zb o.ra o.rv::M):=h2.pick 6 rfl
   have h4:Hc H' (zb o.ra o.rv::zb o.ga o.gv::Cy cs r'::(stC cs X++stC cs Y)::ft::Ec C o::zb o.da o.dv::M):=h3.pick 6 rfl
   have h5:Hc H' (zb o.da o.dv::zb o.ra o.rv::zb o.ga o.gv::Cy cs r'::(stC cs X++stC cs Y)::ft::Ec C o::M):=h4.pick 6 rfl
   have h6:Hc H' (Ec C o::zb o.da o.dv::zb o.ra o.rv::zb o.ga o.gv::Cy cs r'::(stC cs X++stC cs Y)::ft::M):=h5.pick 6 rfl
   exact(h6.pick 5 rfl).pick 5 rfl
  have h2:=oQ h1
  have eh:Ec C { o with fi:=o.fi.set s r' }=Ec C o:=by
   show [(_,_),(_,HO.lst (zj (o.fi.set s r'))),_,_,_,_,_]=_
   rw[B]
   rfl
  show Hc H' (Ec C { o with fi:=o.fi.set s r' }::zb o.da o.dv::zb o.ra o.rv::zb o.ga o.gv::stC cs (o.fi.set s r')::ft::M)
  rw[eh,G]
  have h3:Hc H' (zb o.ga o.gv::stC cs (X++r'::Y)::Ec C o::zb o.da o.dv::zb o.ra o.rv::ft::M):=h2.pick 4 rfl
  have h4:Hc H' (zb o.ra o.rv::zb o.ga o.gv::stC cs (X++r'::Y)::Ec C o::zb o.da o.dv::ft::M):=h3.pick 4 rfl
  have h5:Hc H' (zb o.da o.dv::zb o.ra o.rv::zb o.ga o.gv::stC cs (X++r'::Y)::Ec C o::ft::M):=h4.pick 4 rfl
  exact h5.pick 4 rfl
 ·show o.da.length=(o.fi.set s r').length;rw[yG];exact ok.ld
 ·show o.dv.length=(o.fi.set s r').length;rw[yG];exact ok.KQ
 ·show o.ga.length=(o.fi.set s r').length;rw[yG];exact ok.lg
 ·show o.gv.length=(o.fi.set s r').length;rw[yG];exact ok.Hq
 ·show(o.fi.set s r').length<=8;rw[yG];exact ok.s8
 ·exact cE ok.Dq (by rw[hw];exact ok.Dq r (zE hs))
 ·exact cE ok.BO (by rw[hb];exact ok.BO r (zE hs))
 ·show(o.fi.set s r').map SR.pu=A.fi.set s r'.pu;rw[j7,is.s]
end
inductive KY(cs:Cs)(C:Addr)(vs:List V)(H:Hp)(Q:VK)(wc:XK):Prop where
 | mk (o:OR) (M:List (List Cell)) (s m:Nat) (A:OA) (v:V) (t:fc) (r:SR) (ui:vs=[.ref o.x,.int (s:Int),v]) (uj:Hc H (zi cs C o++M)) (zf:AJ o) (zq:Bz H o A) (Ai:o.fi[s]?=some r) (AA:(∀q∈o.fi,DT m q)) (Bl:m<=90000) (C7:d4 H v t) (Jt:t.2.1∈r.ws) (Ju:n7 A.de A.re s t.2.1≠[]) (GG:(∀row∈A.re,row.length<=m)) (KZ:(∀row∈A.ge,row.length<=m)) (Nb:∀(o':OR)(H':Hp),QY cs C M H H' o o' (A.take s r.pu t)->(∀q∈o'.fi,DT (m+1) q)->Q .y2 H'):KY cs C vs H Q wc
theorem w9{F:V->α->Prop}{ts:List α}(h:Paired F us ts)(n:ts≠[]):∃y,us[0]?=some y:=by
 cases h with
 | nil=>exact absurd rfl n
 | cons _ _=>exact⟨_,rfl⟩
section
variable{cs:Cs}
theorem yw{f:Addr}(F:Ac K "take_event" "Own.take_event" (inClass (top 34) 11) f fd)(T:Txt K mg)(oc:Fx K C)(cc:CY K cs)(Nc:MethAt P w K mg base 1 C "row" ["self","station","way"] (DX cs C))(EC:∀k,MethAt P w K mg base 2 (cs.of k) "take" ["self","way","piece"] (Fn cs k)):mu P w K mg base Aa 3 f fd ["self","station","event"] (KY cs C):=by
 exists ["self","station","event","put","belt"]
 obtain⟨o,M,s,m,A,v,t,r,rfl,hc,ok,is,hs,so,m9,ht,hw,A5,lr,lg,q⟩:=h
 obtain⟨p,rfl,hp⟩:=ht
 obtain⟨a1,us,Ii⟩:=qx ok hs hw
 have pe:=sA is.e Ii
 obtain⟨y,hy⟩:=w9 pe A5
 refine⟨_,(bC (bZ Z5 a09 a0_ ii (Nc<$>{0}>>({1}>>({2}<*>bh)>>a_)) (bh>>a_))<|>bC (bZ Z5 Z6 Z7 bH (bw (K:=K) rfl {0} rfl<*{1}) ({2}>>a_))<|>(3>>=oh (cls:=cs.of) (sp:=Fn cs) EC (hr.mono (by decide)) (bw (K:=K) rfl {0} rfl<*{1}) (({2}<*>bh)>>({2}<*>bh)>>a_))<|>@ei _ _ _ (bL (bp dS {3} bS (bq _)) ((4>>=({3}<*>bh))<|>@ei _ _ _ (bC (bZ Z5 Z6 Z7 bH (bw (K:=K) rfl {0} rfl<*{4}) (@bF _ _ _ _ _ (bu bQ ({2}<*>bh) (bw (K:=K) rfl {0} rfl<*{4})>>{4}>>({3}<*>bh)>>a_)>>a_)))) bz)),?_⟩
 refine⟨_,rfl,o.x,o.dx,o.zg,rfl,hc.get 0 0 rfl rfl,Ed (by decide +kernel),_,rfl,_,rfl,(hp<<<1>>>⟨o,M,s,t.2.1,us,rfl,hc,ok,a1,Ii,λa ha hl=>⟨CH hl,a,us,0,0,y,rfl,rfl,hl,by decide,by decide,seqIndex_of (k:=0) (by decide) (by have:=(zC.mp hy).1;lia),hy,?_⟩⟩)⟩
 obtain⟨o1,B⟩:=wB hc ok is Ii ha
 generalize upd H a (.lst (us.eraseIdx 0))=H1 at B ⊢
 have F5:=B.hc.get 0 0 rfl rfl
 rw[B.x]at F5
 have T9:=B.tk.tup hp
 have QZ:o1.fi[s]?=some r:=by rw[B.s];exact hs
 have T_:=(zC.mp QZ).1
 have Hq:=B.ok.Hq
 obtain⟨gs,F7⟩:∃gs,o1.gv[s]?=some gs:=⟨o1.gv[s]'(by lia),zD _⟩
 obtain⟨ga,Ig,Ua⟩:=B.ok.log B.hc F7
 obtain⟨tg,Ub,Xf⟩:=B.is.e.g.gt F7
 have ZG:gs.length<=90000:=by
  rw[Xf.length]
  have e0:(A.pop s t.2.1).ge=A.ge:=by unfold OA.pop;split <;>rfl
  rw[e0]at Ub
  exact yE (lg _ (zE Ub)) m9
 refine⟨_,rfl,o.x,C,o1.dx,o1.zg,_,rfl,F5,oc.cl,oc.n6,s0,_,rfl,⟨_,_,_,_,rfl,rfl,eH.of (B.hc.get 0 6 rfl rfl),d5 (cC Ig),CH Ua,_,rfl,ga,gs,_,rfl,rfl,Ua,cH (by lia),?_⟩⟩
 obtain⟨o2,t2⟩:=x4 B.hc B.ok B.is F7 Ig (v:=.ref p) (t:=t) ⟨p,rfl,T9⟩
 generalize upd H1 ga (.lst (gs++[.ref p]))=H2 at t2 ⊢
 have OT:o2.x=o.x:=t2.x.trans B.x
 have Nd:=t2.hc.get 0 0 rfl rfl
 rw[OT]at Nd
 have Jm:o2.fi[s]?=some r:=by rw[t2.s];exact QZ
 have Uc:=t2.tk.tup T9
 have T2:=B.tk.trans t2.tk
 obtain⟨X,Y,Ud,lX⟩:=jo Jm
 have LF:Hc H2 (Cy cs r::(stC cs X++stC cs Y)::Ec C o2::zb o2.da o2.dv::zb o2.ra o2.rv::zb o2.ga o2.gv::M):=ou (by rw[←Ud];exact t2.hc.pick 4 rfl)
 have Q0:r.ws[r.ws.idxOf t.2.1]?=some t.2.1:=by
  have Ay:r.ws.idxOf t.2.1<r.ws.length:=xE.mpr hw
  rw[zD Ay,vE]
 refine⟨_,rfl,o.x,C,o2.dx,o2.zg,_,rfl,Nd,oc.cl,oc.n1,jm,_,rfl,⟨_,_,_,_,rfl,rfl,eH.of (t2.hc.get 0 1 rfl rfl),d5 (d3 Jm),r.x,r.k,r.dx,_,rfl,LF.get 0 0 rfl rfl,r.E2 (by decide +kernel) (by decide +kernel) (by decide +kernel) (by decide +kernel) (by decide +kernel) (by decide +kernel),_,rfl,(Uc<<<1>>>⟨_,rfl,(Uc<<<2>>>?_)⟩)⟩⟩
 refine⟨r,r.ws.idxOf t.2.1,m,t.2.1,t.2.2,_,rfl,rfl,LF,so r (zE hs),m9,Q0,λv ft H3 U Iw Ow=>?_⟩
 have nx:=r.DU (r.ws.idxOf t.2.1) t.2.2
 have G:=xY t2.ok t2.is Jm Ud lX nx.1 nx.2.2.1 nx.2.2.2 Iw Ow
 have Xg:=r.GA (r.ws.idxOf t.2.1) t.2.2
 rw[Xg]at G
 have OU:∀q∈o2.fi.set s (r.Aw (r.ws.idxOf t.2.1) t.2.2),DT (m+1) q:=cE (λq hq=>(so q (by rw[←B.s,←t2.s];exact hq)).le (qQ m)) ((so r (zE hs)).Aw _ _)
 have T3:=T2.trans Ow
 have ew:(A.take s r.pu t)=OA.put (((A.pop s t.2.1).log s t).Ea s (r.pu.Aw (r.ws.idxOf t.2.1) t.2.2)) t (r.pu.out (r.ws.idxOf t.2.1) t.2.2):=rfl
 have eo:=r.KU (r.ws.idxOf t.2.1) t.2.2
 rw[eo]at U
 generalize ho:r.pu.out (r.ws.idxOf t.2.1) t.2.2=out at U ew
 generalize Xh:((A.pop s t.2.1).log s t).Ea s (r.pu.Aw (r.ws.idxOf t.2.1) t.2.2)=A3 at G ew
 have Xi:A3.dl=A.dl/\∀row∈A3.re,row.length<=m:=by
  rw[←Xh]
  unfold OA.Ea OA.log OA.pop
  split
  ·exact⟨rfl,lr⟩
  ·refine⟨rfl,cE lr ?_⟩
   rw[vQ,zA]
   cases e:A.re[t.2.1.toNat]? with
   | none=>exact yH _
   | some row=>have:=lr row (zE e);show row.length-1<=m;lia
 rw[ew]at q
 obtain⟨o3,G,OU⟩:∃o3,QY cs C (ft::M) H2 H3 o2 o3 A3/\∀q∈o3.fi,DT (m+1) q:=⟨_,G,OU⟩
 cases U with
 | no =>
  refine⟨_,rfl,rfl,_,rfl,nj ?_⟩
  exact q _ H3 ⟨G.x.trans OT,G.d.trans (t2.d.trans B.d),G.hc.pick 5 rfl |>.tl,G.ok,G.is,T3⟩ OU
 | yes b y' pt =>
  have DI:=G.hc.get 5 0 rfl rfl
  have hb:=SP.Ah ho
  obtain⟨b0,b1⟩:=ok.BO r (zE hs) b hb
  obtain⟨O,rfl⟩:∃O:Nat,b=(O:Int):=⟨b.toNat,by lia⟩
  have LG:=G.hc.get 0 0 rfl rfl
  rw[G.x,OT]at LG
  have Xj:=G.d.trans (t2.d.trans B.d)
  have Xk:=T3.tup hp
  refine⟨_,rfl,rfl,_,rfl,vr ⟨_,rfl,(DI<<<0>>>?_)⟩⟩
  have OV:=(G.hc.pick 5 rfl).tl
  have Q1:=G.ok
  have Q2:=G.is
  have Fz:=Q1.Fz
  obtain⟨Q3,K4⟩:∃us,o3.rv[O]?=some us:=⟨o3.rv[O]'(by lia),zD _⟩
  obtain⟨ra,Ue,Jn⟩:=Q1.DV OV K4
  obtain⟨d,hd⟩:∃d,o3.ov[O]?=some d:=⟨o3.ov[O]'(by lia),zD _⟩
  obtain⟨tr,Q4,ptr⟩:=Q2.e.r.gt K4
  have OW:Q3.length<=90000:=by
   rw[ptr.length]
   exact yE (Xi.2 _ (zE Q4)) m9
  have ed:A3.dl.getD O 0=d:=by rw[←Q2.d,zA,hd];rfl
  refine⟨_,rfl,o.x,C,o3.dx,o3.zg,_,rfl,LG,oc.cl,oc.n4,mP,_,rfl,⟨_,_,_,_,rfl,rfl,eH.of (OV.get 0 4 rfl rfl),d5 (cC Ue),CH Jn,_,rfl,(Xk<<<0>>>⟨_,rfl,o.x,C,o3.dx,o3.zg,_,rfl,LG,oc.cl,oc.n2,sH,_,rfl,⟨_,_,_,_,rfl,rfl,eH.of (OV.get 0 2 rfl rfl),d5 (by rw[zG,hd];rfl),_,_,rfl,rfl,_,rfl,_,rfl,(DI<<<1>>>⟨(by show 3<=sizeLine;decide),λpn nn=>?_⟩)⟩⟩)⟩⟩
  have s4:=c0.new (o:=.tup (Dm (t.1+d,(O:Int),y'))) nn
  have g4:=bg (H:=H3) (a:=pn) (o:=.tup (Dm (t.1+d,(O:Int),y')))
  change Dk _ _ (upd H3 pn (.tup (Dm (t.1+d,(O:Int),y')))) _
  generalize upd H3 pn (.tup (Dm (t.1+d,(O:Int),y')))=H4 at s4 g4 ⊢
  refine⟨ra,Q3,_,rfl,rfl,s4 _ _ Jn,cH (by lia),?_⟩
  obtain⟨o5,t5⟩:=vv (OV.same s4) Q1 (Q2.tk (Tk.of s4)) K4 Ue (v:=.ref pn) (t:=(t.1+d,(O:Int),y')) ⟨pn,rfl,g4⟩
  generalize upd H4 ra (.lst (Q3++[.ref pn]))=H5 at t5 ⊢
  have ep:OA.put A3 t (some ((O:Int),y'))=A3.lay O (t.1+d,(O:Int),y'):=by
   show A3.lay (Int.toNat (O:Int)) _=_
   rw[zV,ed]
  rw[ep]at q
  exact q o5 H5 ⟨t5.x.trans (G.x.trans OT),t5.d.trans Xj,t5.hc,t5.ok,t5.is,T3.trans ((Tk.of s4).trans t5.tk)⟩ (by rw[t5.s];exact OU)
end
def OA.CA(A:OA)(s:Nat)(p:SP):Option fc:=match A.GB s p.ws with
 | none=>none
 | some t=>if A.may p.ws t=true then some t else none
def OA.AS(A:OA)(s:Nat)(p:SP):OA:=match A.CA s p with
 | none=>A
 | some t=>A.take s p t
def OA.B2(A:OA)(s:Nat)(p:SP):OA×Bool:=A.B_ (A.zr s p.ws) p.bs
def OA.CI(A:OA)(s:Nat)(p:SP):OA×Str:=(((A.AS s p).B2 s p).1,if (A.CA s p).isSome=true then "took" else if ((A.AS s p).B2 s p).2=true then "raised" else "none")
structure AG(m:Nat)(A:OA):Prop where
 d:∀row∈A.de,∀t∈row,t.2.1=-1
 r:∀(j:Nat) row,A.re[j]?=some row->∀t∈row,t.2.1=(j:Int)
 lr:∀row∈A.re,row.length<=m
 lg:∀row∈A.ge,row.length<=m
theorem AG.le{m:Nat}(h:AG m A)(e:m<=n):AG n A:=⟨h.d,h.r,λrow hr=>yE (h.lr row hr) e,λrow hr=>yE (h.lg row hr) e⟩
theorem dH{l:List (List fc)}{p:List fc->Prop}(h0:p [])(h:∀row∈l,p row):p (l.getD i []):=by
 rw[zA]
 cases e:l[i]? with
 | none=>exact h0
 | some r=>exact h r (zE e)
theorem AG.pop{m:Nat}(h:AG m A)(s:Nat)(w:Int):AG m (A.pop s w):=by
 unfold OA.pop
 split
 ·refine⟨cE h.d λt ht=>?_,h.r,h.lr,h.lg⟩
  exact dH (p:=λrow=>∀t∈row,t.2.1=-1) (λ_ z=>absurd z zI) h.d t (jJ ht)
 ·refine⟨h.d,λj row hj t ht=>?_,cE h.lr ?_,h.lg⟩
  ·by_cases e:w.toNat=j
   ·by_cases hl:j<A.re.length
    ·rw[e,yW hl]at hj
     cases hj
     rw[zA,zD hl]at ht
     exact h.r j _ (zD hl) t (jJ ht)
    ·rw[yT (by rw[yG];lia)]at hj
     cases hj
   ·rw[y4 e]at hj
    exact h.r j row hj t ht
  ·have:=dH (i:=w.toNat) (p:=λrow=>row.length<=m) (yH _) h.lr
   rw[vQ]
   lia
theorem AG.log{m:Nat}(h:AG m A)(s:Nat)(t:fc):AG (m+1) (A.log s t):=by
 have h':=h.le (qQ m)
 refine⟨h'.d,h'.r,h'.lr,cE h'.lg ?_⟩
 have:=dH (i:=s) (p:=λrow=>row.length<=m) (yH _) h.lg
 rw[zN]
 show _+1<=_
 lia
theorem AG.put{m:Nat}(hr:∀row∈A.re,row.length<=m)(h:AG (m+1) A)(t:fc)(o:Option (Int×Int))(ho:∀b y,o=some (b,y)->0<=b):AG (m+1) (A.put t o):=by
 cases o with
 | none=>exact h
 | some p =>
  obtain⟨b,y⟩:=p
  have B:=ho b y rfl
  refine⟨h.d,λj row hj u hu=>?_,cE h.lr ?_,h.lg⟩
  ·replace hj:(A.re.set b.toNat (A.re.getD b.toNat []++[(t.1+A.dl.getD b.toNat 0,b,y)]))[j]?=some row:=hj
   by_cases e:b.toNat=j
   ·by_cases hl:j<A.re.length
    ·rw[e,yW hl]at hj
     cases hj
     rcases zW.mp hu with z|z
     ·rw[zA,zD hl]at z
      exact h.r j _ (zD hl) u z
     ·rw[zF.mp z]
      show b=(j:Int)
      lia
    ·rw[yT (by rw[yG];lia)]at hj
     cases hj
   ·rw[y4 e]at hj
    exact h.r j row hj u hu
  ·have:=dH (i:=b.toNat) (p:=λrow=>row.length<=m) (yH _) hr
   rw[zN]
   show _+1<=_
   lia
theorem AG.take{m:Nat}(h:AG m A)(s:Nat)(p:SP)(t:fc)(hb:∀b∈p.bs,0<=b):AG (m+1) (A.take s p t):=by
 have h1:=(h.pop s t.2.1)
 have h2:=h1.log s t
 refine AG.put (A:=((A.pop s t.2.1).log s t).Ea s _) h1.lr ⟨h2.d,h2.r,h2.lr,h2.lg⟩ t _ λb y e=>hb b (SP.Ah e)
theorem gR(A:OA)(now:Option Int)(b:Nat):(A.AK now b).1.de=A.de/\(A.AK now b).1.re=A.re/\(A.AK now b).1.ge=A.ge:=by
 unfold OA.AK
 split <;>exact⟨rfl,rfl,rfl⟩
theorem ml(now:Option Int)(A:OA):∀(bs:List Int)(B:OA)(c:Bool),B.de=A.de/\B.re=A.re/\B.ge=A.ge->(bs.foldl (λp b=>((p.1.AK now b.toNat).1,p.2||(p.1.AK now b.toNat).2)) (B,c)).1.de=A.de/\(bs.foldl (λp b=>((p.1.AK now b.toNat).1,p.2||(p.1.AK now b.toNat).2)) (B,c)).1.re=A.re/\(bs.foldl (λp b=>((p.1.AK now b.toNat).1,p.2||(p.1.AK now b.toNat).2)) (B,c)).1.ge=A.ge
 | [],_,_,h=>h
 | b::bs,B,c,h=>ml now A bs _ _ ⟨(gR B now b.toNat).1.trans h.1,(gR B now b.toNat).2.1.trans h.2.1,(gR B now b.toNat).2.2.trans h.2.2⟩
theorem AG.B2{m:Nat}(h:AG m A)(s:Nat)(p:SP):AG m (A.B2 s p).1:=by
 obtain⟨e1,e2,e3⟩:=ml (A.zr s p.ws) A p.bs A false ⟨rfl,rfl,rfl⟩
 exact⟨by show ∀row∈(A.B_ _ _).1.de,_;unfold OA.B_;rw[e1];exact h.d,by show ∀j row,(A.B_ _ _).1.re[j]?=_->_;unfold OA.B_;rw[e2];exact h.r,by show ∀row∈(A.B_ _ _).1.re,_;unfold OA.B_;rw[e2];exact h.lr,by show ∀row∈(A.B_ _ _).1.ge,_;unfold OA.B_;rw[e3];exact h.lg⟩
theorem wX{m:Nat}(h:AG m A){ws:List Int}(hw:∀w∈ws,w=-1\/0<=w)(e:A.GB s ws=some t):t.2.1∈ws/\n7 A.de A.re s t.2.1≠[]:=by
 have hm:=zE e
 unfold OA.AN at hm
 obtain⟨w,FG,hh⟩:=yZ.mp hm
 walk_at "q"
 rw[ew]
 exact⟨FG,List.ne_nil_of_mem BR⟩
def Ht(P:Addr)(H H':Hp):Prop:=∀b u,H b=some u->Ip u->b≠P->H' b=some u
theorem Ht.tk{P:Addr}(a:Ht P H H1)(b:Tk H1 H2):Ht P H H2:=λc u e i n=>b c u (a c u e i n) i
theorem Ht.of{P:Addr}(k:ql [P] H H1):Ht P H H1:=λb u e _ n=>k b u e (by rw[zF];exact n)
theorem _root_.L2.zz.Ug{P:Addr}(h:zz P q ln cl H)(k:Tk H H'):zz P q ln cl H':=by
 rcases h with h|⟨c',h1,h2⟩
 ·exact .inl (k _ _ h trivial)
 ·exact .inr ⟨c',k _ _ h1 trivial,k _ _ h2 trivial⟩
theorem uN{cs:Cs}{o:OR}(n:A8 M):A8 (zi cs C o++M):=by
 refine A8.cons (λx hx=>?_) (A8.cons dJ (A8.cons dJ (A8.cons dJ (A8.cons (mT cs o.fi) n))))
 simp only [Ec,zO,zI,or_false]at hx
 rcases hx with e|e|e|e|e|e|e <;>rw[e] <;>exact λ_ z=>nomatch z
theorem _root_.L2.Hc.Nf{P:Addr}(h:Hc H Ms)(n:A8 Ms)(hT:zz P q ln cl H)(k:ql [P] H H'):Hc H' Ms:=⟨h.1,λc hc=>k _ _ (h.2 c hc) (by rw[zF];exact hT.ne (h.2 c hc) (n c hc))⟩
theorem Bz.kp{P:Addr}{o:OR}(hT:zz P q ln cl H)(k:ql [P] H H')(h:Bz H o A):Bz H' o A :=
 ⟨h.s,h.d,h.p,bf (λ_ _ h=>bf (λ_ _ h=>ql.OS k hT h) h) h.e.d,bf (λ_ _ h=>bf (λ_ _ h=>ql.OS k hT h) h) h.e.r,bf (λ_ _ h=>bf (λ_ _ h=>ql.OS k hT h) h) h.e.g⟩
structure Uh(cs:Cs)(C Pu:Addr)(M:List (List Cell))(m:Nat)(H H':Hp)(o o':OR)(A':OA):Prop where
 x:o'.x=o.x
 d:o'.ov=o.ov
 l:o'.fi.length=o.fi.length
 hc:Hc H' (zi cs C o'++M)
 ok:AJ o'
 is:Bz H' o' A'
 so:∀q∈o'.fi,DT (m+1) q
 ao:AG (m+1) A'
 up:Hr Pu H'
 tk:Ht Pu H H'
inductive ED(cs:Cs)(C Pu:Addr)(vs:List V)(H:Hp)(Q:VK)(wc:XK):Prop where
 | mk (o:OR) (M:List (List Cell)) (s m:Nat) (A:OA) (r:SR) (ui:vs=[.ref o.x,.int (s:Int)]) (uj:Hc H (zi cs C o++M)) (zf:A8 M) (zq:AJ o) (Ai:Bz H o A) (AA:o.fi[s]?=some r) (Bl:(∀q∈o.fi,DT m q)) (C7:m<=90000) (Jt:AG m A) (Ju:Hr Pu H) (GG:∀(o':OR)(H':Hp),Uh cs C Pu M m H H' o o' (A.CI s r.pu).1->Q (.str (A.CI s r.pu).2) H'):ED cs C Pu vs H Q wc
theorem d7(A:OA)(s:Nat)(p:SP)(t:fc):(A.take s p t).fi=A.fi.set s (p.Aw (p.ws.idxOf t.2.1) t.2.2):=by
 unfold OA.take
 have e:∀(B:OA)(o:Option (Int×Int)),(B.put t o).fi=B.fi:=λB o=>by cases o <;>rfl
 rw[e]
 show(OA.pop A s t.2.1).fi.set s _=_
 have e2:(OA.pop A s t.2.1).fi=A.fi:=by unfold OA.pop;split <;>rfl
 rw[e2]
section
variable{cs:Cs}
theorem u8{f:Addr}(F:Ac K "step" "Own.step" (inClass (top 34) 5) f fd)(O:MethAt P w K mg base 2 C "upcoming" ["self","station"] (GC cs C Pu))(U:MethAt P w K mg base 2 C "may_take" ["self","station","event"] (GD cs C))(G:MethAt P w K mg base 3 C "take_event" ["self","station","event"] (KY cs C))(B:MethAt P w K mg base 4 C "raise_promises" ["self","station"] (GF cs C)):mu P w K mg base Aa 5 f fd ["self","station"] (ED cs C Pu):=by
 exists ["self","station","event","took","raised"]
 obtain⟨o,M,s,m,A,r,rfl,hc,nT,ok,is,hs,so,m9,ao,hT,q⟩:=h
 have Y:=(so r (zE hs)).l1
 have D9:∀w∈r.ws,w=-1\/0<=w:=λw hw=>(ok.Dq r (zE hs) w hw).imp id And.left
 have Xl:∀b∈r.bs,0<=b:=λb hb=>(ok.BO r (zE hs) b hb).1
 refine⟨_,((2>>=(O<$>{0}>>({1}>>a_)))<|>(3>>=je (cF dS {2} bS (bq _)) (kj (U<$>{0}>>({1}>>{2}>>a_))))<|>bL (dk {3}) (@ei _ _ _ (bC (G<$>{0}>>({1}>>{2}>>a_)))) bz<|>(4>>=(B<$>{0}>>({1}>>a_)))<|>bL (dk {3}) (~~~bE) bz<|>(~~~(c6 (dk {4}) bE bE))),?_⟩
 refine⟨_,rfl,o.x,o.dx,o.zg,rfl,hc.get 0 0 rfl rfl,Ed (by decide +kernel),_,rfl,o,M,s,A,r,rfl,hc,ok,is,hs,Y,hT,λv H1 kp Ui hv=>?_⟩
 have Fw:=hc.Nf (uN nT) hT kp
 have Na:=is.kp hT kp
 have k1:Ht Pu H H1:=Ht.of kp
 have F5:=Fw.get 0 0 rfl rfl
 have Ng:A.CA s r.pu=none->∀(o':OR)(H':Hp),JB cs C M H1 H' o o' (A.B_ (A.zr s r.ws) r.bs).1->Q (.str (if (A.B_ (A.zr s r.ws) r.bs).2=true then "raised" else "none")) H':=λe o' H' t=>by
  have ea:A.AS s r.pu=A:=by unfold OA.AS;rw[e]
  have h0:=q o' H'
  unfold OA.CI at h0
  rw[ea,e]at h0
  exact h0 ⟨t.x,t.d,by rw[t.s],t.hc,t.ok,t.is,by rw[t.s];exact λq hq=>(so q hq).le (qQ m),(ao.B2 s r.pu).le (qQ m),Ui.Ug t.tk,k1.tk t.tk⟩
 cases hu:A.GB s r.ws with
 | none =>
  rw[hu]at hv
  replace hv:v=.y2:=hv
  subst hv
  have e0:A.CA s r.pu=none:=by unfold OA.CA;rw[show r.pu.ws=r.ws from rfl,hu]
  refine⟨_,rfl,rfl,⟨_,rfl,nj ?_⟩⟩
  refine⟨_,rfl,_,rfl,nj ?_⟩
  refine⟨_,rfl,o.x,o.dx,o.zg,rfl,F5,Ed (by decide +kernel),_,rfl,o,M,s,A,r,rfl,Fw,ok,Na,hs,Y,λo' H' t=>?_⟩
  refine⟨_,rfl,_,rfl,nj ⟨_,rfl,_,rfl,?_⟩⟩
  have:=Ng e0 o' H' t
  cases eb:(A.B_ (A.zr s r.ws) r.bs).2 with
  | true=>rw[eb]at this;exact vr this
  | false=>rw[eb]at this;exact nj this
 | some t =>
  rw[hu]at hv
  replace hv:d4 H1 v t:=hv
  obtain⟨hw,A5⟩:=wX ao D9 hu
  obtain⟨p,rfl,hp⟩:=hv
  refine⟨_,rfl,rfl,⟨_,rfl,vr ?_⟩⟩
  refine⟨_,rfl,o.x,o.dx,o.zg,rfl,F5,Ed (by decide +kernel),_,rfl,_,rfl,o,M,s,A,.ref p,t,r,rfl,Fw,ok,Na,hs,Y,⟨p,rfl,hp⟩,λH2 s2=>?_⟩
  have Kx:=Fw.same s2
  have Uj:=Na.tk (Tk.of s2)
  have Nd:=Kx.get 0 0 rfl rfl
  cases hm:A.may r.ws t with
  | false =>
   have e0:A.CA s r.pu=none:=by unfold OA.CA;rw[show r.pu.ws=r.ws from rfl,hu];show(if A.may r.ws t=true then _ else _)=_;rw[hm];rfl
   refine⟨_,rfl,_,rfl,nj ?_⟩
   refine⟨_,rfl,o.x,o.dx,o.zg,rfl,Nd,Ed (by decide +kernel),_,rfl,o,M,s,A,r,rfl,Kx,ok,Uj,hs,Y,λo' H' t=>?_⟩
   refine⟨_,rfl,_,rfl,nj ⟨_,rfl,_,rfl,?_⟩⟩
   have:=Ng e0 o' H' ⟨t.x,t.s,t.d,t.hc,t.ok,t.is,(Tk.of s2).trans t.tk⟩
   cases eb:(A.B_ (A.zr s r.ws) r.bs).2 with
   | true=>rw[eb]at this;exact vr this
   | false=>rw[eb]at this;exact nj this
  | true =>
   have e0:A.CA s r.pu=some t:=by unfold OA.CA;rw[show r.pu.ws=r.ws from rfl,hu];show(if A.may r.ws t=true then _ else _)=_;rw[hm];rfl
   have ea:A.AS s r.pu=A.take s r.pu t:=by unfold OA.AS;rw[e0]
   refine⟨_,rfl,_,rfl,vr ?_⟩
   refine⟨_,rfl,o.x,o.dx,o.zg,rfl,Nd,Ed (by decide +kernel),_,rfl,_,rfl,o,M,s,m,A,.ref p,t,r,rfl,Kx,ok,Uj,hs,so,m9,⟨p,rfl,s2 _ _ hp⟩,hw,A5,ao.lr,ao.lg,λo1 H3 t1 Xm=>?_⟩
   have Xn:o1.fi.length=o.fi.length:=by
    have e1:=congrArg List.length t1.is.s
    have e2:=congrArg List.length is.s
    rw[zB]at e1 e2
    rw[e1,e2,d7,yG]
   have T_:=(zC.mp hs).1
   obtain⟨r1,Uk⟩:∃r1,o1.fi[s]?=some r1:=⟨o1.fi[s]'(by lia),zD _⟩
   have Ul:r1.pu=r.pu.Aw (r.pu.ws.idxOf t.2.1) t.2.2:=by
    have e1:(o1.fi.map SR.pu)[s]?=some r1.pu:=by rw[zG,Uk];rfl
    rw[t1.is.s,d7,yW (by rw[←is.s,zB];exact T_)]at e1
    exact(Option.some.inj e1).symm
   have ew:r1.ws=r.ws:=by
    have:=congrArg SP.ws Ul
    rw[SP.EA]at this
    exact this
   have Xo:r1.bs=r.bs:=by
    have:=congrArg SP.bs Ul
    rw[SP.BW]at this
    exact this
   have LG:=t1.hc.get 0 0 rfl rfl
   rw[t1.x]at LG
   refine⟨_,rfl,o.x,o1.dx,o1.zg,rfl,LG,Ed (by decide +kernel),_,rfl,o1,M,s,A.take s r.pu t,r1,(by rw[t1.x];rfl),t1.hc,t1.ok,t1.is,Uk,(by rw[ew];exact Y),λo' H' t2=>?_⟩
   rw[ew,Xo]at t2
   refine⟨_,rfl,_,rfl,vr ?_⟩
   have h0:=q o' H'
   unfold OA.CI at h0
   rw[ea,e0]at h0
   refine h0 ⟨t2.x.trans t1.x,t2.d.trans t1.d,by rw[t2.s];exact Xn,t2.hc,t2.ok,t2.is,by rw[t2.s];exact Xm,((ao.take s r.pu t Xl).B2 s r.pu),Ui.Ug ((Tk.of s2).trans (t1.tk.trans t2.tk)),k1.tk ((Tk.of s2).trans (t1.tk.trans t2.tk))⟩
end
def Sk(H H':Hp):Prop:=∀b u,H b=some u->(∀ps,u≠HO.AB ps)->H' b=some u
def B3:HO->Bool
 | .AB _=>false
 | _=>true
theorem B9.sk(k:Sk H H'){s f:Addr}(h2:B9 H s b f W xs ys zs):B9 H' s b f W xs ys zs:=by
 refine⟨k _ _ h2.hs (λ_ z=>nomatch z),k _ _ h2.hb (λ_ z=>nomatch z),k _ _ h2.hf (λ_ z=>nomatch z),bf (λ_ _ h=>?_) h2.ps,bf (λ_ _ h=>?_) h2.pb,bf (λ_ _ h=>?_) h2.pf⟩
 all_goals
  obtain⟨q,e,r⟩:=h
  exact⟨q,e,k _ _ r (λ_ z=>nomatch z)⟩
theorem qd(h:eH K H a xs):∃cs:List Cell,(∀c∈cs,H c.1=some c.2)/\(∀c∈cs,B3 c.2=true)/\∀H':Hp,(∀c∈cs,H' c.1=some c.2)->eH K H' a xs:=by
 rcases h with (h|⟨o,h⟩)|h
 ·exact⟨[(a,.lst xs)],λc hc=>by rw[zF.mp hc];exact h,λc hc=>by rw[zF.mp hc];rfl,λH' h'=>.inl (.inl (h' _ zH))⟩
 ·exact⟨[(a,.Ek o (.lst xs))],λc hc=>by rw[zF.mp hc];exact h,λc hc=>by rw[zF.mp hc];rfl,λH' h'=>.inl (.inr ⟨o,h' _ zH⟩)⟩
 ·exact⟨[],λc hc=>(by cases hc),λc hc=>(by cases hc),λH' _=>.inr h⟩
theorem oE{w:Addr}{vs:List V}(h1:Ag H w W)(h2:eH K H a vs):∃(M:List (List Cell))(s b f:Addr)(xs ys zs:List V),Hc H M/\A8 M/\∀H',Hc H' M->H' w=some (.tup [.ref s,.ref b,.ref f])/\B9 H' s b f W xs ys zs/\eH K H' a vs:=by
 obtain⟨U,s,b,f,xs,ys,zs,k1,e1⟩:=h1.KN
 obtain⟨c2,k2,n2,e2⟩:=qd h2
 have Y:Hs H U:=by have k:Hs H [U].flatten:=k1;rw[y7]at k;exact k
 obtain⟨L,l1,l2⟩:=dn (H:=H) (L:=U++c2) λc hc=>by
  rcases zW.mp hc with q|q
  ·exact Y.2 c q
  ·exact k2 c q
 refine⟨[L.filter λc=>B3 c.2],s,b,f,xs,ys,zs,?_,λc hc ps e=>?_,λH' hc=>?_⟩
 ·show Hs H [L.filter λc=>B3 c.2].flatten
  rw[y7]
  exact l1.sub kZ
 ·rw[y7]at hc
  have:=(zR.mp hc).2
  rw[e]at this
  cases this
 ·have B:Hs H' (L.filter λc=>B3 c.2):=by have k:Hs H' [L.filter λc=>B3 c.2].flatten:=hc;rw[y7]at k;exact k
  obtain⟨w1,w2⟩:=e1 (λa=>if a∈L.map Prod.fst then H a else none) λc Fw=>by
   have hm:=l2 c (yQ _ Fw)
   show(if c.1∈L.map Prod.fst then H c.1 else none)=_
   rw[if_pos (List.mem_map_of_mem hm)]
   exact l1.2 c hm
  have sk:Sk (λa=>if a∈L.map Prod.fst then H a else none) H':=λb u e n=>by
   have e':(if b∈L.map Prod.fst then H b else none)=some u:=e
   split at e'
   ·rename_i hb
    obtain⟨d,hd,ed⟩:=yF.mp hb
    have G:=l1.2 d hd
    rw[ed,e']at G
    have:d=(b,u):=Prod.ext ed (Option.some.inj G).symm
    subst this
    refine B.2 (b,u) (zR.mpr ⟨hd,?_⟩)
    show B3 u=true
    cases u <;>first|rfl|exact absurd rfl (n _)
   ·cases e'
  exact⟨sk _ _ w1 (λ_ z=>nomatch z),w2.sk sk,e2 H' λc O=>B.2 c (zR.mpr ⟨l2 c (zU _ O),n2 c O⟩)⟩
def Wk.sp(W:Wk)(s:Nat):SP:=⟨kdOf (W.st.getD s ("",none)),W.wy s,W.lv s,0,if kdOf (W.st.getD s ("",none))=.kc then (W.wy s).map (λ_=>[])else []⟩
theorem Made.pu(m:Made W s r):r.pu=W.sp s:=by
 obtain⟨st,h1,h2⟩:=m.k
 have e:W.st.getD s ("",none)=st:=by rw[zA,h1];rfl
 unfold SR.pu Wk.sp
 rw[e,←h2,m.ws,m.bs,m.seen,m.rows]
def Ao:SP:=⟨.sink,[],[],0,[]⟩
def Wk.oa(W:Wk):OA:=⟨(List.range W.st.length).map W.sp,W.ov,W.Ho,W.Fp,W.be.map λ_=>[],W.st.map λ_=>[]⟩
def OA.step(A:OA)(s:Nat):OA×Str:=A.CI s (A.fi.getD s Ao)
theorem xh{o:OR}(n:Iz W o)(ev:Fy H o W.Fp (W.be.map λ_=>[]) (W.st.map λ_=>[])):Bz H o W.oa:=by
 refine⟨?_,n.ov,n.pr,ev⟩
 refine jI λi=>?_
 show(o.fi.map SR.pu)[i]?=((List.range W.st.length).map W.sp)[i]?
 rw[zG,zG]
 cases e:o.fi[i]? with
 | none =>
  have hl:=jP.mp e
  rw[yT (by rw[qL,←n.ns];exact hl)]
  rfl
 | some r =>
  have hl:=(zC.mp e).1
  rw[qF (by rw[←n.ns];exact hl)]
  show some r.pu=some (W.sp i)
  rw[(n.fi i r e).pu]
theorem xS{o:OR}(n:Iz W o):∀q∈o.fi,DT 0 q:=λq hq=>by
 obtain⟨i,hi⟩:=yS hq
 exact(n.fi i q hi).ok
theorem mE(W:Wk):AG 0 W.oa:=by
 refine⟨λrow hr t ht=>?_,λj row hj t ht=>?_,λrow hr=>?_,λrow hr=>?_⟩
 ·obtain⟨s,_,rfl⟩:=yF.mp hr
  unfold Wk.de at ht
  obtain⟨p,_,rfl⟩:=yF.mp ht
  rfl
 ·obtain⟨_,_,rfl⟩:=yF.mp (zE hj)
  exact absurd ht zI
 ·obtain⟨_,_,rfl⟩:=yF.mp hr
  exact zJ _
 ·obtain⟨_,_,rfl⟩:=yF.mp hr
  exact zJ _
structure CZ(W:Wk)(m:Nat)(H:Hp)(o:OR)(A:OA):Prop where
 ok:AJ o
 is:Bz H o A
 so:∀q∈o.fi,DT m q
 ao:AG m A
 ns:W.st.length=o.fi.length
 nb:W.be.length=o.ov.length
theorem d4.Q5(k:Ht Pu H H')(hu:Hr Pu H){x:V}(h:d4 H x t):d4 H' x t:=by
 obtain⟨p,e,hp⟩:=h
 exact⟨p,e,k _ _ hp trivial (hu.ne hp λ_ z=>nomatch z)⟩
theorem d4.Q6{fs:List (Str×V)}(k:Kp Pd p H H')(hp:H p=some (.ins C dx fs)){x:V}(h:d4 H x t):d4 H' x t:=by
 obtain⟨q,e,hq⟩:=h
 exact⟨q,e,k.tup hp hq⟩
theorem Bz.Q7{o:OR}(f:∀x t,d4 H x t->d4 H' x t)(h:Bz H o A):Bz H' o A :=
 ⟨h.s,h.d,h.p,bf (λ_ _ h=>bf (λ_ _ h=>f _ _ h) h) h.e.d,bf (λ_ _ h=>bf (λ_ _ h=>f _ _ h) h) h.e.r,bf (λ_ _ h=>bf (λ_ _ h=>f _ _ h) h) h.e.g⟩
theorem CZ.Q7{m:Nat}{o:OR}(f:∀x t,d4 H x t->d4 H' x t)(e:m<=n)(h:CZ W m H o A):CZ W n H' o A:=⟨h.ok,h.is.Q7 f,λq hq=>(h.so q hq).le e,h.ao.le e,h.ns,h.nb⟩
theorem zz.Q5{P:Addr}(h:zz P q ln cl H)(k:Ht Pu H H')(ne:P≠Pu)(hu:Hr Pu H):zz P q ln cl H':=by
 rcases h with h|⟨c',h1,h2⟩
 ·exact .inl (k _ _ h trivial ne)
 ·exact .inr ⟨c',k _ _ h1 trivial ne,k _ _ h2 trivial (hu.ne h2 λ_ z=>nomatch z)⟩
theorem zz.Q6{P:Addr}{fs:List (Str×V)}(h:zz P q ln cl H)(k:Kp Pd p H H')(ne:P≠Pd)(hp:H p=some (.ins C dx fs)):zz P q ln cl H':=by
 rcases h with h|⟨c',h1,h2⟩
 ·exact .inl (k _ _ h (.inr ne) (bK h hp λz=>nomatch z))
 ·exact .inr ⟨c',k _ _ h1 (.inr ne) (bK h1 hp λz=>nomatch z),k _ _ h2 (.inl λ_ z=>nomatch z) (bK h2 hp λz=>nomatch z)⟩
theorem _root_.L2.Hc.drop{A B:List (List Cell)}(h:Hc H (A++B)):Hc H B:=by
 refine Hs.sub h ?_
 rw[kY]
 exact qE _ _
theorem ux{o:OR}(n:Iz W o)(ev:Fy H o W.Fp (W.be.map λ_=>[]) (W.st.map λ_=>[])):CZ W 0 H o W.oa:=⟨n.ok,xh n ev,xS n,mE W,n.ns.symm,by rw[n.ov];exact(zB _).symm⟩
theorem b9(a b:Int×Int):AI a b=true↔a.1<b.1\/(a.1=b.1/\a.2<b.2):=by
 unfold AI
 simp only [HT.lexLt]
 split <;>simp_all <;>lia
theorem eP(k:Int×Int):AI k k=false:=by
 cases e:AI k k with
 | false=>rfl
 | true=>rw[b9]at e;lia
theorem pD{a b c:Int×Int}(h1:AI a b=true)(h2:AI b c=true):AI a c=true:=by
 rw[b9]at *
 lia
theorem eZ(ks:List (Int×Int))(n:Nat):∀m,m<=n->AI (ks.getD m (0,0)) (ks.getD (argBest (λi j=>AI (ks.getD i (0,0)) (ks.getD j (0,0))) n) (0,0))=false:=by
 induction n with
 | zero=>intro m h;rw[Nat.le_zero.mp h];exact eP _
 | succ n ih =>
  intro m h
  simp only [argBest]
  by_cases e:AI (ks.getD (n+1) (0,0)) (ks.getD (argBest (λi j=>AI (ks.getD i (0,0)) (ks.getD j (0,0))) n) (0,0))=true
  ·rw[if_pos e]
   by_cases hm:m=n+1
   ·rw[hm];exact eP _
   ·cases q:AI (ks.getD m (0,0)) (ks.getD (n+1) (0,0)) with
    | false=>rfl
    | true =>
     have:=pD q e
     rw[ih m (by lia)]at this
     cases this
  ·rw[if_neg e]
   by_cases hm:m=n+1
   ·rw[hm];simpa using e
   ·exact ih m (by lia)
def oLe:Option Int->Option Int->Prop
 | _,none=>True
 | none,some _=>False
 | some a,some b=>a<=b
theorem cg(a:Option Int):oLe a none:=by cases a <;>trivial
theorem cA(a:Option Int):oLe a a:=by
 cases a with
 | none=>trivial
 | some a=>exact jL a
theorem bP{a b c:Option Int}(h:oLe a b)(k:oLe b c):oLe a c:=by
 cases c with
 | none=>exact cg a
 | some c =>
  cases b with
  | none=>exact k.elim
  | some b =>
   cases a with
   | none=>exact h.elim
   | some a=>exact vM (show a<=b from h) (show b<=c from k)
def CB(a:Option Int)(d:Int):Option Int:=a.map λn=>n+d
theorem fM{a b:Option Int}{d:Int}(h:oLe a b):oLe (CB a d) (CB b d):=by
 cases b with
 | none=>exact cg _
 | some b =>
  cases a with
  | none=>exact h.elim
  | some a=>exact Int.add_le_add_right (show a<=b from h) d
def OA.e(A:OA)(s:Nat)(w:Int):Option Int:=A.DW w (n7 A.de A.re s w)
theorem x8{f:Int->Option Int}{ws:List Int}{w:Int}(h:w∈ws):oLe ((ws.filterMap f).min?) (f w):=by
 cases e:f w with
 | none=>exact cg _
 | some a =>
  have ha:a∈ws.filterMap f:=yZ.mpr ⟨w,h,e⟩
  cases m:(ws.filterMap f).min? with
  | none=>rw[List.min?_eq_none_iff]at m;rw[m]at ha;exact absurd ha zI
  | some b=>exact(qY.mp m).2 a ha
theorem nv{f:Int->Option Int}{ws:List Int}{x:Option Int}(h:∀w∈ws,oLe x (f w)):oLe x ((ws.filterMap f).min?):=by
 cases m:(ws.filterMap f).min? with
 | none=>exact cg _
 | some b =>
  obtain⟨w,hw,e⟩:=yZ.mp (qY.mp m).1
  have:=h w hw
  rwa [e]at this
theorem i6{ws:List Int}{w:Int}(h:w∈ws):oLe (A.zr s ws) (A.e s w):=x8 (f:=A.e s) h
theorem eV{ws:List Int}(h:∀w∈ws,oLe (A.e s w) (B.e s w)):oLe (A.zr s ws) (B.zr s ws):=nv (f:=B.e s) λw hw=>bP (i6 hw) (h w hw)
theorem ce(l:List α)(i j:Nat)(x d:α):(l.set i x).getD j d=if i=j/\j<l.length then x else l.getD j d:=by
 rw[zA,zA,vH]
 by_cases h:i=j
 ·subst h
  by_cases k:i<l.length
  ·rw[if_pos rfl,if_pos k,if_pos ⟨rfl,k⟩];rfl
  ·rw[if_pos rfl,if_neg k,if_neg (λz=>k z.2),yT (by lia)]
 ·rw[if_neg h,if_neg (λz=>h z.1)]
structure JC(A:OA)(s:Nat)(ws:List Int)(t:fc):Prop where
 w:t.2.1∈ws
 hd:(n7 A.de A.re s t.2.1).head?=some t
 min:∀w∈ws,∀u,(n7 A.de A.re s w).head?=some u->AI (sF u) (sF t)=false
 may:∀w∈ws,w ≠ -1->A.re.getD w.toNat []=[]->∀g,A.pr.getD w.toNat none=some g->t.1<g\/(t.1=g/\t.2.1<(w.toNat:Int))
theorem ke{m:Nat}(h:AG m A){p:SP}(hw:∀w∈p.ws,w=-1\/0<=w)(e:A.CA s p=some t):JC A s p.ws t:=by
 unfold OA.CA at e
 cases eu:A.GB s p.ws with
 | none=>rw[eu]at e;cases e
 | some t' =>
  rw[eu]at e
  dsimp only at e
  split at e
  ·rename_i hm
   cases e
   have hx:=zE eu
   unfold OA.AN at hx
   obtain⟨w,FG,hh⟩:=yZ.mp hx
   walk_at "q"
   refine⟨by rw[ew];exact FG,by rw[ew];exact hh,λw' B u hu=>?_,λw' B n1 em g hg=>?_⟩
   ·have G:u∈A.AN s p.ws:=yZ.mpr ⟨w',B,hu⟩
    obtain⟨j,hj⟩:=yS G
    have O:=(zC.mp hj).1
    have b:=eZ ((A.AN s p.ws).map sF) (((A.AN s p.ws).map sF).length-1) j (by rw[zB];lia)
    have e1:((A.AN s p.ws).map sF).getD j (0,0)=sF u:=by rw[zA,zG,hj];rfl
    have e2:((A.AN s p.ws).map sF).getD (Ad ((A.AN s p.ws).map sF)) (0,0)=sF t:=by
     rw[zA,zG]
     unfold OA.GB at eu
     rw[eu];rfl
    unfold Ad at e2
    rw[e1,e2]at b
    exact b
   ·unfold OA.may at hm
    have:=List.all_eq_true.mp hm w' (zR.mpr ⟨B,by simp [n1]⟩)
    unfold OA.lets at this
    rw[em,if_pos (show([]:List fc).isEmpty=true from rfl),hg]at this
    dsimp only at this
    have z:=(b9 (t.1,t.2.1) (g,(w'.toNat:Int))).mp this
    exact z
  ·cases e
theorem JC.zr{ws:List Int}(h:JC A s ws t):A.zr s ws=some t.1:=by
 have h1:oLe (some t.1) (A.zr s ws):=by
  refine nv (f:=A.e s) λw hw=>?_
  unfold OA.e
  cases ev:n7 A.de A.re s w with
  | cons u r =>
   have:=h.min w hw u (by rw[ev];rfl)
   have n:¬(AI (sF u) (sF t)=true):=by rw[this];exact zS
   rw[b9]at n
   show t.1<=u.1
   unfold sF at n
   lia
  | nil =>
   show oLe _ (if w=-1 then none else A.pr.getD w.toNat none)
   split
   ·exact cg _
   ·rename_i n1
    cases eg:A.pr.getD w.toNat none with
    | none=>exact cg _
    | some g =>
     have em:A.re.getD w.toNat []=[]:=by unfold n7 at ev;rw[if_neg n1]at ev;exact ev
     have:=h.may w hw n1 em g eg
     show t.1<=g
     lia
 have h2:oLe (A.zr s ws) (some t.1):=by
  have:=i6 (A:=A) (s:=s) h.w
  unfold OA.e at this
  cases ev:n7 A.de A.re s t.2.1 with
  | nil=>have z:=h.hd;rw[ev]at z;cases z
  | cons u r =>
   have z:=h.hd
   rw[ev]at z this
   cases z
   exact this
 cases e:A.zr s ws with
 | none=>rw[e]at h2;exact h2.elim
 | some c =>
  rw[e]at h1 h2
  have a1:t.1<=c:=h1
  have a2:c<=t.1:=h2
  rw[Int.le_antisymm a2 a1]
def BA(A:OA)(b:Nat)(t:fc):Option (Int×Int)->List fc
 | none=>[]
 | some o=>if o.1.toNat=b/\b<A.re.length then [(t.1+A.dl.getD b 0,o.1,o.2)]else []
theorem eB(A:OA)(s:Nat)(p:SP)(t:fc)(w0:t.2.1=-1\/0<=t.2.1)(b:Nat):(A.take s p t).re.getD b []=(if t.2.1=(b:Int)then (A.re.getD b []).tail else A.re.getD b [])++BA A b t (p.out (p.ws.idxOf t.2.1) t.2.2):=by
 have hp:(A.pop s t.2.1).re.getD b []=if t.2.1=(b:Int)then (A.re.getD b []).tail else A.re.getD b []:=by
  unfold OA.pop
  split
  ·rename_i e
   rw[if_neg (by lia)]
  ·rename_i n
   show(A.re.set _ _).getD b []=_
   rw[ce]
   by_cases hb:t.2.1=(b:Int)
   ·rw[if_pos hb]
    have e:t.2.1.toNat=b:=by lia
    rw[e]
    by_cases hl:b<A.re.length
    ·rw[if_pos ⟨rfl,hl⟩]
    ·rw[if_neg (λz=>hl z.2),zA,yT (by lia)];rfl
   ·rw[if_neg (λz=>hb (by lia)),if_neg hb]
 have hl:(A.pop s t.2.1).re.length=A.re.length:=by unfold OA.pop;split <;>simp
 have hd:(A.pop s t.2.1).dl=A.dl:=by unfold OA.pop;split <;>rfl
 unfold OA.take
 cases p.out (p.ws.idxOf t.2.1) t.2.2 with
 | none =>
  show(A.pop s t.2.1).re.getD b []=_++[]
  rw[hp,zQ]
 | some o =>
  show((A.pop s t.2.1).re.set o.1.toNat ((A.pop s t.2.1).re.getD o.1.toNat []++[(t.1+(A.pop s t.2.1).dl.getD o.1.toNat 0,o.1,o.2)])).getD b []=_++(if o.1.toNat=b/\b<A.re.length then [(t.1+A.dl.getD b 0,o.1,o.2)]else [])
  rw[ce,hl,hd]
  by_cases h:o.1.toNat=b/\b<A.re.length
  ·rw[if_pos h,if_pos h,h.1,hp]
  ·rw[if_neg h,if_neg h,hp,zQ]
theorem fj(B:OA)(t:fc)(o:Option (Int×Int)):(B.put t o).de=B.de/\(B.put t o).pr=B.pr/\(B.put t o).dl=B.dl/\(B.put t o).ge=B.ge/\(B.put t o).re.length=B.re.length:=by
 cases o with
 | none=>exact⟨rfl,rfl,rfl,rfl,rfl⟩
 | some o=>exact⟨rfl,rfl,rfl,rfl,yG⟩
theorem cI(A:OA)(s:Nat)(p:SP)(t:fc):(A.take s p t).pr=A.pr/\(A.take s p t).dl=A.dl/\(A.take s p t).re.length=A.re.length/\(A.take s p t).ge=A.ge.set s (A.ge.getD s []++[t]):=by
 unfold OA.take
 obtain⟨e1,e2,e3,e4,e5⟩:=fj (((A.pop s t.2.1).log s t).Ea s (p.Aw (p.ws.idxOf t.2.1) t.2.2)) t (p.out (p.ws.idxOf t.2.1) t.2.2)
 rw[e2,e3,e4,e5]
 unfold OA.Ea OA.log OA.pop
 split
 ·exact⟨rfl,rfl,rfl,rfl⟩
 ·exact⟨rfl,rfl,yG,rfl⟩
theorem gM(A:OA)(s:Nat)(p:SP)(t:fc)(j:Nat):(A.take s p t).de.getD j []=if t.2.1=-1/\s=j then (A.de.getD j []).tail else A.de.getD j []:=by
 unfold OA.take
 rw[(fj _ _ _).1]
 show(A.pop s t.2.1).de.getD j []=_
 unfold OA.pop
 by_cases h:t.2.1=-1
 ·rw[if_pos h]
  show(A.de.set _ _).getD j []=_
  rw[ce]
  by_cases hj:s=j
  ·subst hj
   by_cases hl:s<A.de.length
   ·rw[if_pos ⟨rfl,hl⟩,if_pos ⟨h,rfl⟩]
   ·rw[if_neg (λz=>hl z.2),if_pos ⟨h,rfl⟩,zA,yT (by lia)];rfl
  ·rw[if_neg (λz=>hj z.1),if_neg (λz=>hj z.2)]
 ·rw[if_neg h,if_neg (λz=>h z.1)]
theorem uA(A:OA)(s:Nat)(p:SP)(t:fc):(A.take s p t).de.length=A.de.length:=by
 unfold OA.take
 rw[(fj _ _ _).1]
 show(A.pop s t.2.1).de.length=_
 unfold OA.pop
 split
 ·exact yG
 ·rfl
theorem gF(f:α->Bool):∀(l:List α)(k:Nat){w:Int},w∈idx f k l->∃(j:Nat)(t:α),l[j]?=some t/\f t=true/\w=((k+j:Nat):Int)
 | [],_,_,h=>absurd h zI
 | x::l,k,w,h=>by
  unfold idx at h
  split at h
  ·rename_i hx
   rcases zO.mp h with e|e
   ·exact⟨0,x,rfl,hx,by rw[e];rfl⟩
   ·obtain⟨j,t,h1,h2,h3⟩:=gF f l (k+1) e
    exact⟨j+1,t,h1,h2,by lia⟩
  ·obtain⟨j,t,h1,h2,h3⟩:=gF f l (k+1) h
   exact⟨j+1,t,h1,h2,by lia⟩
theorem j_(f:α->Bool):∀(l:List α)(k:Nat){j:Nat}{t:α},l[j]?=some t->f t=true->((k+j:Nat):Int)∈idx f k l
 | [],_,_,_,h,_=>by simp at h
 | x::l,k,0,t,h,hf=>by
  cases h
  unfold idx
  rw[if_pos hf]
  exact zH
 | x::l,k,j+1,t,h,hf=>by
  have:=j_ f l (k+1) (j:=j) h hf
  have e:((k+(j+1):Nat):Int)=((k+1+j:Nat):Int):=by lia
  rw[e]
  unfold idx
  split
  ·exact zL _ this
  ·exact this
theorem Wk.AZ{s w:Int}(h:w∈W.lv s):∃(j:Nat)(bt:fc),W.be[j]?=some bt/\bt.1=s/\w=(j:Int):=by
 obtain⟨j,t,h1,h2,h3⟩:=gF _ _ _ h
 exact⟨j,t,h1,by simpa using h2,by lia⟩
theorem Wk.A0{s w:Int}(h:w∈W.wy s):w=-1\/∃(j:Nat)(bt:fc),W.be[j]?=some bt/\bt.2.1=s/\w=(j:Int):=by
 unfold Wk.wy at h
 rcases zW.mp h with e|e
 ·split at e
  ·exact .inl (zF.mp e)
  ·exact absurd e zI
 ·obtain⟨j,t,h1,h2,h3⟩:=gF _ _ _ e
  exact .inr ⟨j,t,h1,by simpa using h2,by lia⟩
theorem Wk.BI{s w:Int}(h:w∈W.wy s):w=-1\/0<=w:=by
 rcases Wk.A0 h with e|⟨j,_,_,_,e⟩
 ·exact .inl e
 ·exact .inr (by lia)
theorem Wk.B4{b:Nat}{bt:fc}(h:W.be[b]?=some bt):W.ov.getD b 0=bt.2.2:=by
 unfold Wk.ov
 rw[zA,zG,h];rfl
theorem Wk.EE(ok:W.Ok)(b:Nat):0<=W.ov.getD b 0:=by
 cases h:W.be[b]? with
 | none=>unfold Wk.ov;rw[zA,zG,h];exact jL 0
 | some bt =>
  rw[Wk.B4 h]
  have:=(ok.EK bt (zE h)).2.2.2.2.1
  lia
structure Inv(W:Wk)(A:OA):Prop where
 st:A.fi.length=W.st.length
 sp:∀(s:Nat) p,A.fi[s]?=some p->p.ws=W.wy s/\p.bs=W.lv s
 dl:A.dl=W.ov
 lp:A.pr.length=W.be.length
 lr:A.re.length=W.be.length
 ld:A.de.length=W.st.length
 sd:∀s,(A.de.getD s []).Pairwise λa b=>a.1<=b.1
 sr:∀b,(A.re.getD b []).Pairwise λa b=>a.1<=b.1
 up:∀b,∀t∈A.re.getD b [],oLe (some t.1) (A.pr.getD b none)
 pc:∀(b:Nat) bt,W.be[b]?=some bt->oLe (A.pr.getD b none) (CB (A.zr bt.1.toNat (W.wy bt.1)) bt.2.2)
theorem wM(h:B.pr=A.pr)(w:Int)(l:List fc):B.DW w l=A.DW w l:=by
 cases l with
 | nil=>unfold OA.DW;rw[h]
 | cons t r=>rfl
theorem gc(ok:W.Ok)(I:Inv W A){p:SP}(hp:A.fi[s]?=some p)(T:JC A s p.ws t){w:Int}(w0:w=-1\/0<=w):oLe (A.e j w) ((A.take s p t).e j w):=by
 obtain⟨e1,e2,e3,e4⟩:=cI A s p t
 have U:t.2.1=-1\/0<=t.2.1:=Wk.BI (W:=W) (s:=s) (by rw[←(I.sp s p hp).1];exact T.w)
 unfold OA.e
 rw[wM e1]
 by_cases h:w=-1
 ·subst h
  unfold n7
  rw[if_pos rfl,if_pos rfl,gM]
  split
  ·rename_i z
   obtain⟨z1,rfl⟩:=z
   have hd:=T.hd
   unfold n7 at hd
   rw[if_pos z1]at hd
   have so:=I.sd s
   cases er:A.de.getD s [] with
   | nil=>rw[er]at hd;cases hd
   | cons u r =>
    rw[er]at hd so
    cases hd
    cases r with
    | nil=>exact cg _
    | cons v r=>exact(yY.mp so).1 v zH
  ·exact cA _
 ·have wp:=w0.resolve_left h
  obtain⟨b,rfl⟩:∃b:Nat,w=(b:Int):=⟨w.toNat,by lia⟩
  unfold n7
  rw[if_neg h,if_neg h,zV,eB A s p t U]
  have B:∀e∈BA A b t (p.out (p.ws.idxOf t.2.1) t.2.2),e.1=t.1+A.dl.getD b 0/\oLe (A.pr.getD b none) (some e.1):=λe G=>by
   cases eo:p.out (p.ws.idxOf t.2.1) t.2.2 with
   | none=>rw[eo]at G;exact absurd G zI
   | some o =>
    rw[eo]at G
    unfold BA at G
    dsimp only at G
    split at G
    ·rename_i z
     rw[zF.mp G]
     refine⟨rfl,?_⟩
     have hb:o.1∈W.lv s:=by rw[←(I.sp s p hp).2];exact SP.Ah (y:=o.2) eo
     obtain⟨k,bt,O,Y,g3⟩:=Wk.AZ hb
     have ek:k=b:=by lia
     subst ek
     have:=I.pc k bt O
     rw[Y,zV,←(I.sp s p hp).1,T.zr]at this
     rw[I.dl,Wk.B4 O]
     exact this
    ·exact absurd G zI
  by_cases hb:t.2.1=(b:Int)
  ·rw[if_pos hb]
   have hd:=T.hd
   unfold n7 at hd
   rw[hb,if_neg h,zV]at hd
   have so:=I.sr b
   cases er:A.re.getD b [] with
   | nil=>rw[er]at hd;cases hd
   | cons u r =>
    rw[er]at hd so
    cases hd
    cases r with
    | cons v r=>exact(yY.mp so).1 v zH
    | nil =>
     show oLe (some t.1) (A.DW (b:Int) (BA A b t _))
     cases Q8:BA A b t (p.out (p.ws.idxOf t.2.1) t.2.2) with
     | nil =>
      show oLe (some t.1) (if (b:Int)=-1 then none else A.pr.getD (b:Int).toNat none)
      rw[if_neg h,zV]
      exact I.up b t (by rw[er];exact zH)
     | cons e r =>
      have:=(B e (by rw[Q8];exact zH)).1
      have d0:=Wk.EE ok b
      rw[←I.dl]at d0
      show t.1<=e.1
      lia
  ·rw[if_neg hb]
   cases er:A.re.getD b [] with
   | cons u r=>exact jL _
   | nil =>
    rw[qI]
    cases Q8:BA A b t (p.out (p.ws.idxOf t.2.1) t.2.2) with
    | nil=>exact cA _
    | cons e r =>
     have:=(B e (by rw[Q8];exact zH)).2
     show oLe (if (b:Int)=-1 then none else A.pr.getD (b:Int).toNat none) (some e.1)
     rw[if_neg h,zV]
     exact this
structure Hu(now:Option Int)(bs:List Int)(B C:OA):Prop where
 de:C.de=B.de
 re:C.re=B.re
 ge:C.ge=B.ge
 dl:C.dl=B.dl
 sp:C.fi=B.fi
 lp:C.pr.length=B.pr.length
 le:∀j,oLe (B.pr.getD j none) (C.pr.getD j none)
 eq:∀j,C.pr.getD j none=B.pr.getD j none\/((∃b∈bs,b.toNat=j)/\C.pr.getD j none=B.new now j)
 JD:∀j,(∃b∈bs,b.toNat=j)->j<B.pr.length->oLe (B.new now j) (C.pr.getD j none)
theorem sK(now:Option Int)(B:OA)(b:Int):Hu now [b] B (B.AK now b.toNat).1:=by
 unfold OA.AK
 split
 ·rename_i h
  refine⟨rfl,rfl,rfl,rfl,rfl,rfl,λj=>cA _,λj=>.inl rfl,λj hj hl=>?_⟩
  obtain⟨c,hc,rfl⟩:=hj
  rw[zF.mp hc]
  unfold OA.stays at h
  cases e:B.pr.getD b.toNat none with
  | none=>exact cg _
  | some p =>
   rw[e]at h
   dsimp only at h
   cases e2:B.new now b.toNat with
   | none=>rw[e2]at h;cases h
   | some n=>rw[e2]at h;exact(of_decide_eq_true h:n<=p)
 ·rename_i h
  have key:oLe (B.pr.getD b.toNat none) (B.new now b.toNat):=by
   unfold OA.stays at h
   cases e:B.pr.getD b.toNat none with
   | none=>rw[e]at h;exact absurd rfl h
   | some p =>
    rw[e]at h
    cases e2:B.new now b.toNat with
    | none=>exact cg _
    | some n =>
     rw[e2]at h
     have:¬n<=p:=λz=>h (decide_eq_true z)
     show p<=n
     lia
  refine⟨rfl,rfl,rfl,rfl,rfl,yG,λj=>?_,λj=>?_,λj hj hl=>?_⟩
  ·show oLe _ ((B.pr.set _ _).getD j none)
   rw[ce]
   split
   ·rename_i z;rw[←z.1];exact key
   ·exact cA _
  ·show(B.pr.set _ _).getD j none=_\/_/\(B.pr.set _ _).getD j none=_
   rw[ce]
   split
   ·rename_i z;exact .inr ⟨⟨b,zF.mpr rfl,z.1⟩,by rw[z.1]⟩
   ·exact .inl rfl
  ·obtain⟨c,hc,rfl⟩:=hj
   rw[zF.mp hc]at hl ⊢
   show oLe _ ((B.pr.set _ _).getD _ none)
   rw[ce,if_pos ⟨rfl,hl⟩]
   exact cA _
theorem Hu.cons{now:Option Int}{b:Int}{bs:List Int}{C D:OA}(h:Hu now [b] B C)(k:Hu now bs C D):Hu now (b::bs) B D:=by
 have hn:∀j,C.new now j=B.new now j:=λj=>by unfold OA.new;rw[h.dl]
 refine⟨k.de.trans h.de,k.re.trans h.re,k.ge.trans h.ge,k.dl.trans h.dl,k.sp.trans h.sp,k.lp.trans h.lp,λj=>bP (h.le j) (k.le j),λj=>?_,λj hj hl=>?_⟩
 ·rcases k.eq j with e|⟨⟨c,hc,e1⟩,e2⟩
  ·rcases h.eq j with g|⟨⟨c,hc,G⟩,O⟩
   ·exact .inl (e.trans g)
   ·exact .inr ⟨⟨c,zO.mpr (.inl (zF.mp hc)),G⟩,e.trans O⟩
  ·exact .inr ⟨⟨c,zL _ hc,e1⟩,e2.trans (hn j)⟩
 ·obtain⟨c,hc,e⟩:=hj
  rcases zO.mp hc with z|z
  ·exact bP (h.JD j ⟨c,zF.mpr z,e⟩ hl) (k.le j)
  ·rw[←hn];exact k.JD j ⟨c,z,e⟩ (by rw[h.lp];exact hl)
theorem sU(now:Option Int):∀(bs:List Int)(B:OA)(c:Bool),Hu now bs B (bs.foldl (λp b=>((p.1.AK now b.toNat).1,p.2||(p.1.AK now b.toNat).2)) (B,c)).1
 | [],B,c=>⟨rfl,rfl,rfl,rfl,rfl,rfl,λ_=>cA _,λ_=>.inl rfl,λ_ h _=>by obtain⟨_,h,_⟩:=h;exact absurd h zI⟩
 | b::bs,B,c=>(sK now B b).cons (sU now bs (B.AK now b.toNat).1 (c||(B.AK now b.toNat).2))
theorem cz(B:OA)(s:Nat)(p:SP):Hu (B.zr s p.ws) p.bs B (B.B2 s p).1:=sU _ p.bs B false
theorem Hu.mono{now:Option Int}{bs:List Int}{C:OA}(h:Hu now bs B C)(j:Nat)(w:Int):oLe (B.e j w) (C.e j w):=by
 unfold OA.e
 rw[h.de,h.re]
 cases n7 B.de B.re j w with
 | cons t r=>exact jL _
 | nil =>
  show oLe (if w=-1 then none else B.pr.getD w.toNat none) (if w=-1 then none else C.pr.getD w.toNat none)
  split
  ·exact cg _
  ·exact h.le _
structure Q9(A C:OA)(s b:Nat)(bt:fc):Prop where
 le:oLe (A.pr.getD b none) (C.pr.getD b none)
 row:∃pop put:List fc,C.re.getD b []=pop++put/\(pop=A.re.getD b []\/(pop=(A.re.getD b []).tail/\A.re.getD b []≠[]/\bt.2.1=(s:Int)))/\(put=[]\/∃e,put=[e]/\e.2.1=(b:Int)/\(∃g,A.pr.getD b none=some g/\g<=e.1)/\bt.1=(s:Int))
 CK:bt.1≠(s:Int)->C.pr.getD b none=A.pr.getD b none
structure Q_(W:Wk)(A C:OA)(s:Nat):Prop where
 inv:Inv W C
 DV:∀(b:Nat) bt,W.be[b]?=some bt->Q9 A C s b bt
 zr:∀j:Nat,oLe (A.zr j (W.wy j)) (C.zr j (W.wy j))
theorem iO{C:OA}(ok:W.Ok)(I:Inv W A){p:SP}(hp:A.fi[s]?=some p)(R:Hu (B.zr s p.ws) p.bs B C)(sp:B.fi.length=A.fi.length/\∀(j:Nat) q,B.fi[j]?=some q->q.ws=W.wy j/\q.bs=W.lv j)(pr:B.pr=A.pr)(dl:B.dl=A.dl)(lr:B.re.length=A.re.length)(ld:B.de.length=A.de.length)
  (sd:∀j,(B.de.getD j []).Pairwise λa b=>a.1<=b.1) (sr:∀b,(B.re.getD b []).Pairwise λa b=>a.1<=b.1) (mono:∀(j:Nat)(w:Int),(w=-1\/0<=w)->oLe (A.e j w) (B.e j w))
  (up:∀(b:Nat) bt,W.be[b]?=some bt->∀t∈B.re.getD b [],t∈A.re.getD b []\/(bt.1=(s:Int)/\oLe (some t.1) (CB (B.zr s p.ws) bt.2.2)))
  (row:∀(b:Nat) bt,W.be[b]?=some bt->∃pop put:List fc,B.re.getD b []=pop++put/\(pop=A.re.getD b []\/(pop=(A.re.getD b []).tail/\A.re.getD b []≠[]/\bt.2.1=(s:Int)))/\(put=[]\/∃e,put=[e]/\e.2.1=(b:Int)/\(∃g,A.pr.getD b none=some g/\g<=e.1)/\bt.1=(s:Int))):Q_ W A C s:=by
 have C2:=(I.sp s p hp).1
 have Cd:=(I.sp s p hp).2
 have Um:∀j:Nat,oLe (A.zr j (W.wy j)) (B.zr j (W.wy j)):=λj=>eV λw hw=>mono j w (Wk.BI hw)
 have U:∀j:Nat,oLe (B.zr j (W.wy j)) (C.zr j (W.wy j)):=λj=>eV λw hw=>R.mono j w
 have G:∀{b:Nat}{bt:fc},W.be[b]?=some bt->B.new (B.zr s p.ws) b=CB (B.zr s p.ws) bt.2.2:=fun {b bt} h=>by
  unfold OA.new CB
  rw[dl,I.dl,Wk.B4 h]
 have O:∀{b:Nat}{bt:fc},W.be[b]?=some bt->(∃c∈p.bs,c.toNat=b)->bt.1=(s:Int):=fun {b bt} h hc=>by
  obtain⟨c,hc,e⟩:=hc
  rw[Cd]at hc
  obtain⟨k,GH,g1,g2,g3⟩:=Wk.AZ hc
  have:k=b:=by lia
  subst this
  rw[h]at g1
  cases g1
  exact g2
 have Y:∀{b:Nat}{bt:fc},W.be[b]?=some bt->bt.1=(s:Int)->∃c∈p.bs,c.toNat=b:=fun {b bt} h e=>by
  refine⟨(b:Int),?_,zV b⟩
  rw[Cd]
  have:=j_ (λ(t:fc)=>t.1==(s:Int)) W.be 0 h (by simpa using e)
  rw[jD]at this
  exact this
 have Xp:∀(b:Nat) bt,W.be[b]?=some bt->oLe (C.pr.getD b none) (CB (C.zr bt.1.toNat (W.wy bt.1)) bt.2.2):=λb bt h=>by
  have b0:=(ok.EK bt (zE h)).1
  have e0:bt.1=(bt.1.toNat:Int):=by lia
  rcases R.eq b with e|⟨hc,e⟩
  ·rw[e,pr]
   refine bP (I.pc b bt h) (fM ?_)
   rw[e0,zV]
   exact bP (Um _) (U _)
  ·have hs:=O h hc
   rw[e,G h,hs,zV,C2]
   exact fM (U s)
 refine⟨⟨by rw[R.sp,sp.1,I.st],by rw[R.sp];exact sp.2,by rw[R.dl,dl,I.dl],by rw[R.lp,pr,I.lp],by rw[R.re,lr,I.lr],by rw[R.de,ld,I.ld],by rw[R.de];exact sd,by rw[R.re];exact sr,λb t ht=>?_,Xp⟩,λb bt h=>?_,λj=>bP (Um j) (U j)⟩
 ·rw[R.re]at ht
  cases h:W.be[b]? with
  | none =>
   have:B.re.getD b []=[]:=by
    rw[zA,yT]
    ·rfl
    ·rw[lr,I.lr];exact jP.mp h
   rw[this]at ht
   exact absurd ht zI
  | some bt =>
   rcases up b bt h t ht with g|⟨g1,g2⟩
   ·refine bP (I.up b t g) ?_
    rw[←pr]
    exact R.le b
   ·refine bP g2 ?_
    rw[←G h]
    exact R.JD b (Y h g1) (by rw[pr,I.lp];exact(zC.mp h).1)
 ·refine⟨by rw[←pr];exact R.le b,by rw[R.re];exact row b bt h,λn=>?_⟩
  rcases R.eq b with e|⟨hc,_⟩
  ·rw[e,pr]
  ·exact absurd (O h hc) n
theorem dO{m:Nat}(ok:W.Ok)(I:Inv W A)(ao:AG m A)(hs:s<W.st.length):Q_ W A (A.step s).1 s:=by
 walk_at "e"
 have C2:=(I.sp s p hp).1
 have Y:=(I.sp s p hp).2
 unfold OA.step OA.CI
 rw[ep]
 show Q_ W A ((A.AS s p).B2 s p).1 s
 have R:=cz (A.AS s p) s p
 cases e:A.CA s p with
 | none =>
  have ea:A.AS s p=A:=by unfold OA.AS;rw[e]
  rw[ea]at R ⊢
  exact iO ok I hp R ⟨rfl,I.sp⟩ rfl rfl rfl rfl I.sd I.sr (λ_ _ _=>cA _) (λb bt h t ht=>.inl ht) λb bt h=>⟨_,[],(zQ _).symm,.inl rfl,.inl rfl⟩
 | some t =>
  walk_at "Q"
  rw[ea]at R ⊢
  walk_at "o"
  have t0:=D9 _ T.w
  have mono:∀(j:Nat)(w:Int),(w=-1\/0<=w)->oLe (A.e j w) ((A.take s p t).e j w):=λj w hw=>gc ok I hp T hw
  have cl:oLe (some t.1) ((A.take s p t).zr s p.ws):=by
   rw[←T.zr]
   exact eV λw hw=>mono s w (D9 w hw)
  obtain⟨e1,e2,e3,e4⟩:=cI A s p t
  have B:∀{b:Nat}{e:fc},e∈BA A b t (p.out (p.ws.idxOf t.2.1) t.2.2)->∃bt,W.be[b]?=some bt/\bt.1=(s:Int)/\e.1=t.1+bt.2.2/\e.2.1=(b:Int)/\oLe (A.pr.getD b none) (some e.1)/\BA A b t (p.out (p.ws.idxOf t.2.1) t.2.2)=[e]:=fun {b e} O=>by
   cases eo:p.out (p.ws.idxOf t.2.1) t.2.2 with
   | none=>rw[eo]at O;exact absurd O zI
   | some o =>
    rw[eo]at O
    unfold BA at O ⊢
    dsimp only at O ⊢
    split at O
    ·rename_i z
     have hb:o.1∈W.lv s:=by rw[←Y];exact SP.Ah (y:=o.2) eo
     obtain⟨k,bt,G,U,g3⟩:=Wk.AZ hb
     have ek:k=b:=by lia
     subst ek
     have:=I.pc k bt G
     rw[U,zV,←C2,T.zr]at this
     rw[if_pos z]
     rw[zF.mp O,I.dl,Wk.B4 G]
     exact⟨bt,G,U,rfl,g3,this,rfl⟩
    ·exact absurd O zI
  refine iO ok I hp R ⟨by rw[d7,yG],λj q hq=>?_⟩ e1 e2 e3 (uA A s p t) (λj=>?_) (λb=>?_) mono (λb bt h u hu=>?_) λb bt h=>?_
  ·rw[d7,vH]at hq
   split at hq
   ·rename_i z
    subst z
    split at hq
    ·cases hq
     rw[SP.EA,SP.BW]
     exact⟨C2,Y⟩
    ·cases hq
   ·exact I.sp j q hq
  ·rw[gM]
   split
   ·exact(I.sd j).sublist (List.tail_sublist _)
   ·exact I.sd j
  ·rw[eB A s p t t0]
   have s1:(if t.2.1=(b:Int)then (A.re.getD b []).tail else A.re.getD b []).Sublist (A.re.getD b []):=by
    split
    ·exact List.tail_sublist _
    ·exact List.Sublist.refl _
   refine qA.mpr ⟨(I.sr b).sublist s1,?_,λu hu e O=>?_⟩
   ·cases ee:BA A b t (p.out (p.ws.idxOf t.2.1) t.2.2) with
    | nil=>exact .nil
    | cons e r =>
     obtain⟨_,_,_,_,_,_,g⟩:=B (b:=b) (e:=e) (by rw[ee];exact zH)
     rw[ee]at g
     rw[g]
     exact jW _ _
   ·obtain⟨bt,G,U,g3,g4,g5,g6⟩:=B O
    have:=bP (I.up b u (s1.subset hu)) g5
    exact this
  ·rw[eB A s p t t0]at hu
   rcases zW.mp hu with z|z
   ·refine .inl ?_
    split at z
    ·exact jJ z
    ·exact z
   ·obtain⟨GH,G,U,g3,g4,g5,g6⟩:=B z
    rw[h]at G
    cases G
    refine .inr ⟨U,?_⟩
    rw[g3]
    exact fM cl
  ·refine⟨_,_,eB A s p t t0 b,?_,?_⟩
   ·by_cases hb:t.2.1=(b:Int)
    ·rw[if_pos hb]
     have hw:=T.w
     rw[C2,hb]at hw
     have b1:(b:Int) ≠ -1:=by lia
     refine .inr ⟨rfl,λz=>?_,?_⟩
     ·have hd:=T.hd
      unfold n7 at hd
      rw[hb,if_neg b1,zV,z]at hd
      cases hd
     ·rcases Wk.A0 hw with q|⟨k,GH,G,U,g3⟩
      ·exact absurd q b1
      ·have:k=b:=by lia
       subst this
       rw[h]at G
       cases G
       exact U
    ·rw[if_neg hb]
     exact .inl rfl
   ·cases ee:BA A b t (p.out (p.ws.idxOf t.2.1) t.2.2) with
    | nil=>exact .inl rfl
    | cons e r =>
     obtain⟨GH,G,U,g3,g4,g5,g6⟩:=B (b:=b) (e:=e) (by rw[ee];exact zH)
     rw[ee]at g6
     rw[h]at G
     cases G
     refine .inr ⟨e,g6,g4,?_,U⟩
     cases eg:A.pr.getD b none with
     | none=>rw[eg]at g5;exact g5.elim
     | some g=>rw[eg]at g5;exact⟨g,rfl,g5⟩
theorem rg(f:α->Bool):∀(l:List α)(k j:Nat)(y:α),l[j]?=some y->f y=true->((k+j:Nat):Int)∈idx f k l
 | [],_,_,_,h,_=>by cases h
 | x::l,k,0,y,h,hf=>by
  cases h
  unfold idx
  rw[if_pos hf]
  exact zH
 | x::l,k,j+1,y,h,hf=>by
  have:=rg f l (k+1) j y h hf
  rw[show k+1+j=k+(j+1) by lia]at this
  unfold idx
  split
  ·exact zL _ this
  ·exact this
theorem mM(f:α->Bool):∀(l:List α)(k:Nat)(x:Int),x∈idx f k l->∃(j:Nat)(y:α),x=((k+j:Nat):Int)/\l[j]?=some y/\f y=true
 | [],_,_,h=>absurd h zI
 | z::l,k,x,h=>by
  unfold idx at h
  have rest:x∈idx f (k+1) l->∃(j:Nat)(y:α),x=((k+j:Nat):Int)/\(z::l)[j]?=some y/\f y=true:=λh=>by
   obtain⟨j,y,e,h1,h2⟩:=mM f l (k+1) x h
   exact⟨j+1,y,by rw[e];congr 1;lia,h1,h2⟩
  split at h
  ·rename_i hf
   rcases zO.mp h with e|e
   ·exact⟨0,z,by rw[e];rfl,rfl,hf⟩
   ·exact rest e
  ·exact rest h
abbrev JE:=Option (Int×Int)
set_option genInjectivity false in
set_option genSizeOf false in
structure AR where
 s:Nat
 e:fc
 c:JE
set_option genInjectivity false in
set_option genSizeOf false in
structure CS where
 st:List SP
 ev:List (List fc)
 og:List (List JE)
 ar:List AR
def AR.key(a:AR):Int×Int:=(a.e.1,a.e.2.1)
def CS.at(S:CS):Nat:=Ad (S.ar.map AR.key)
def CS.first(S:CS):Option AR:=S.ar[S.at]?
def arrOf(W:Wk)(b y t:Int)(c:Int×Int):AR:=⟨((W.be.getD b.toNat (0,0,0)).2.1).toNat,(t+(W.be.getD b.toNat (0,0,0)).2.2,b,y),some c⟩
def BX(W:Wk)(o:Option (Int×Int))(t:Int)(c:Int×Int):List AR:=match o with
 | none=>[]
 | some (b,y)=>[arrOf W b y t c]
def CS.step(W:Wk)(S:CS)(a:AR):CS :=
 { st:=S.st.set a.s ((S.st.getD a.s Ao).Aw ((S.st.getD a.s Ao).ws.idxOf a.e.2.1) a.e.2.2),ev:=S.ev.set a.s (S.ev.getD a.s []++[a.e]),og:=S.og.set a.s (S.og.getD a.s []++[a.c]),ar:=S.ar.eraseIdx S.at++BX W ((S.st.getD a.s Ao).out ((S.st.getD a.s Ao).ws.idxOf a.e.2.1) a.e.2.2) a.e.1 ((a.s:Int),((S.ev.getD a.s []).length:Int)) }
inductive Runs(W:Wk)(u:Int):CS->CS->Prop
 | stop {S:CS} (h:∀a,S.first=some a->u<a.e.1):Runs W u S S
 | step {S R:CS} (a:AR) (h:S.first=some a) (hu:a.e.1<=u) (r:Runs W u (S.step W a) R):Runs W u S R
def Wk.C9(W:Wk)(n:Nat):List AR:=(List.range n).flatMap λ(s:Nat)=>(W.de (s:Int)).map λe=>⟨s,e,none⟩
def Wk.cs(W:Wk):CS:=⟨(List.range W.st.length).map W.sp,W.st.map λ_=>[],W.st.map λ_=>[],W.C9 W.st.length⟩
structure Bq(W:Wk)(S:CS):Prop where
 l1:S.st.length=W.st.length
 l2:S.ev.length=W.st.length
 l3:S.og.length=W.st.length
 ws:∀(s:Nat) p,S.st[s]?=some p->p.ws=W.wy s/\p.bs=W.lv s
 ar:∀a∈S.ar,a.s<W.st.length/\a.e.2.1∈W.wy a.s
variable{S R:CS}{L:List AR}
theorem gy{l:List α}{d:α}(h:i<l.length):l[i]?=some (l.getD i d):=by rw[zA,zD h];rfl
theorem Wk.Bm(ok:W.Ok){s b:Int}(h:b∈W.lv s):0<=b/\b<W.be.length/\0<=(W.be.getD b.toNat (0,0,0)).2.1/\(W.be.getD b.toNat (0,0,0)).2.1<W.st.length/\b∈W.wy (W.be.getD b.toNat (0,0,0)).2.1/\1<=(W.be.getD b.toNat (0,0,0)).2.2/\(W.be.getD b.toNat (0,0,0)).1=s:=by
 unfold Wk.lv at h
 obtain⟨j,t,e,ht,hf⟩:=mM _ _ _ _ h
 rw[jD]at e
 subst e
 have hj:=(zC.mp ht).1
 have B:W.be.getD (j:Int).toNat (0,0,0)=t:=by rw[zV,zA,ht];rfl
 rw[B]
 obtain⟨Y,q2,G,O,U,q6⟩:=ok.EK t (zE ht)
 refine⟨by lia,by lia,G,O,?_,U,by simpa using hf⟩
 unfold Wk.wy
 refine zU _ ?_
 have:=rg (λ(x:fc)=>x.2.1==t.2.1) W.be 0 j t ht (by simp)
 rw[jD]at this
 exact this
theorem Bq.step(ok:W.Ok)(h:Bq W S){a:AR}(ha:S.first=some a):Bq W (S.step W a):=by
 walk_at "C"
 refine⟨?_,?_,?_,λs p hs=>?_,λb hb=>?_⟩
 ·show(S.st.set _ _).length=_;rw[yG];exact h.l1
 ·show(S.ev.set _ _).length=_;rw[yG];exact h.l2
 ·show(S.og.set _ _).length=_;rw[yG];exact h.l3
 ·have B:(S.st.set a.s ((S.st.getD a.s Ao).Aw ((S.st.getD a.s Ao).ws.idxOf a.e.2.1) a.e.2.2))[s]?=some p:=hs
  by_cases e:s=a.s
  ·subst e
   rw[yW (by rw[h.l1];exact h1)]at B
   cases B
   rw[SP.EA,SP.BW]
   exact⟨w1,w2⟩
  ·rw[y4 (Ne.symm e)]at B
   exact h.ws s p B
 ·have O:b∈S.ar.eraseIdx S.at++BX W ((S.st.getD a.s Ao).out ((S.st.getD a.s Ao).ws.idxOf a.e.2.1) a.e.2.2) a.e.1 ((a.s:Int),((S.ev.getD a.s []).length:Int)):=hb
  rcases zW.mp O with q|q
  ·exact h.ar b (List.mem_of_mem_eraseIdx q)
  ·cases eo:(S.st.getD a.s Ao).out ((S.st.getD a.s Ao).ws.idxOf a.e.2.1) a.e.2.2 with
   | none=>rw[eo]at q;exact absurd q zI
   | some v =>
    obtain⟨U,y⟩:=v
    rw[eo]at q
    rw[zF.mp q]
    have G:=SP.Ah eo
    rw[w2]at G
    obtain⟨q1,q2,Y,q4,q5,_⟩:=Wk.Bm ok G
    refine⟨?_,?_⟩
    ·show((W.be.getD U.toNat (0,0,0)).2.1).toNat<_;lia
    ·show U∈W.wy (((W.be.getD U.toNat (0,0,0)).2.1).toNat:Int)
     rw[jS Y]
     exact q5
def EF(u:Int)(a:AR):Nat:=(u+2-a.e.1).toNat
def CS.C0(S:CS)(u:Int):Nat:=(S.ar.map (EF u)).sum
theorem qc{l:List Nat}{x:Nat}(h:l[i]?=some x):(l.eraseIdx i).sum+x=l.sum:=by
 induction l generalizing i with
 | nil=>cases h
 | cons y l ih =>
  cases i with
  | zero=>cases h;rw[List.eraseIdx_cons_zero,qB,vG]
  | succ i=>rw[kL,qB,qB,Nat.add_assoc,ih h]
theorem iY(f:α->β):∀(l:List α)(i:Nat),(l.map f).eraseIdx i=(l.eraseIdx i).map f
 | [],_=>rfl
 | x::l,0=>rfl
 | x::l,i+1=>by
  show f x::(l.map f).eraseIdx i=_
  rw[iY f l i]
  rfl
theorem CS.C_(ok:W.Ok)(h:Bq W S){a:AR}(ha:S.first=some a)(hu:a.e.1<=u):(S.step W a).C0 u<S.C0 u:=by
 walk_at "C"
 have e1:((S.ar.map (EF u)).eraseIdx S.at).sum+EF u a=(S.ar.map (EF u)).sum:=qc (by rw[zG];show(S.first).map _=_;rw[ha];rfl)
 have e2:(S.ar.map (EF u)).eraseIdx S.at=(S.ar.eraseIdx S.at).map (EF u):=iY _ _ _
 rw[e2]at e1
 show((S.ar.eraseIdx S.at++BX W _ a.e.1 _).map (EF u)).sum<(S.ar.map (EF u)).sum
 rw[zK,List.sum_append]
 have G:((BX W ((S.st.getD a.s Ao).out ((S.st.getD a.s Ao).ws.idxOf a.e.2.1) a.e.2.2) a.e.1 ((a.s:Int),((S.ev.getD a.s []).length:Int))).map (EF u)).sum<EF u a:=by
  have O:EF u a=(u+2-a.e.1).toNat:=rfl
  cases eo:(S.st.getD a.s Ao).out ((S.st.getD a.s Ao).ws.idxOf a.e.2.1) a.e.2.2 with
  | none=>show 0<_;lia
  | some v =>
   obtain⟨U,y⟩:=v
   have B:=SP.Ah eo
   rw[w2]at B
   obtain⟨_,_,_,_,_,Y,_⟩:=Wk.Bm ok B
   show(u+2-(a.e.1+(W.be.getD U.toNat (0,0,0)).2.2)).toNat+0<_
   lia
 lia
def Bh(H:Hp)(x:V):JE->Prop
 | none=>x=.y2
 | some c=>∃p,x=.ref p/\H p=some (.tup [.int c.1,.int c.2])
inductive Al(H:Hp)(x:V)(a:AR):Prop where
 | mk (p xe xc:_) (ui:x=.ref p) (uj:H p=some (.tup [.int (a.s:Int),xe,xc])) (zf:d4 H xe a.e) (zq:Bh H xc a.c):Al H x a
def Tp(Pd:Addr)(H H':Hp):Prop:=∀b u,H b=some u->Ip u->((∀ps,u≠HO.AB ps)\/b≠Pd)->H' b=some u
theorem Tp.refl(H:Hp):Tp Pd H H:=λ_ _ e _ _=>e
theorem Tp.trans(a:Tp Pd H H1)(b:Tp Pd H1 H2):Tp Pd H H2:=λc u e i n=>b c u (a c u e i n) i n
theorem Tp.of(s:c0 H H'):Tp Pd H H':=λb u e _ _=>s _ _ e
theorem Tp.sm(s:Az Pd H H'):Tp Pd H H':=λb u e _ n=>s.keep _ _ e n
theorem Tp.tk(s:Tk H H'):Tp Pd H H':=λb u e i _=>s _ _ e i
theorem Tp.put(k:Tp Pd H H')(e:H' a=some (.lst ys)):Tp Pd H (upd H' a o):=λb u B i n=>by
 have e1:=k b u B i n
 rw[bj (λz=>by subst z;rw[e]at e1;cases e1;exact i)]
 exact e1
theorem Tp.tup(k:Tp Pd H H')(e:H b=some (.tup xs)):H' b=some (.tup xs):=k _ _ e trivial (.inl λ_ z=>nomatch z)
theorem d4.tp(k:Tp Pd H H'){x:V}(h:d4 H x t):d4 H' x t:=let ⟨p,e,q⟩:=h;⟨p,e,k.tup q⟩
theorem Bh.tp(k:Tp Pd H H'){x:V}:∀{c:JE},Bh H x c->Bh H' x c
 | none,h=>h
 | some _,⟨p,e,q⟩=>⟨p,e,k.tup q⟩
theorem Al.tp(k:Tp Pd H H'){x:V}{a:AR}(h:Al H x a):Al H' x a:=let ⟨p,xe,xc,e,q,B,G⟩:=h;⟨p,xe,xc,e,k.tup q,B.tp k,G.tp k⟩
theorem sB(k:Tp Pd H H'){ts:List (List fc)}(h:Paired (λus ts=>Paired (d4 H) us ts) vs ts):Paired (λus ts=>Paired (d4 H') us ts) vs ts:=bf (λ_ _ h=>bf (λ_ _ h=>h.tp k) h) h
theorem sO(k:Tp Pd H H'){ts:List (List JE)}(h:Paired (λus ts=>Paired (Bh H) us ts) vs ts):Paired (λus ts=>Paired (Bh H') us ts) vs ts:=bf (λ_ _ h=>bf (λ_ _ h=>h.tp k) h) h
theorem _root_.L2.zz.tk{P:Addr}(h:zz P q ln cl H)(k:Tk H H'):zz P q ln cl H':=by
 rcases h with h|⟨c',h1,h2⟩
 ·exact .inl (k _ _ h trivial)
 ·exact .inr ⟨c',k _ _ h1 trivial,k _ _ h2 trivial⟩
theorem nL:∀{As:List (List Cell)},Hc H (As++M)->Hc H M
 | [],h=>h
 | _::_,h=>nL h.tl
def EG(M:List (List Cell))(w:Addr)(W:Wk):Prop:=∀H,Hc H M->Ag H w W
inductive GI(Pd:Addr)(vs:List V)(H:Hp)(Q:VK)(wc:XK):Prop where
 | mk (w:Addr) (W:Wk) (M:List (List Cell)) (ui:vs=[.ref w]) (uj:Hc H M) (zf:A8 M) (zq:Ag H w W) (Ai:W.Ok) (AA:zh Pd H) (Bl:∀(D:Addr)(xs:List V)(H':Hp),Hc H' ([(D,.lst xs)]::M)->Paired (Al H') xs (W.C9 W.st.length)->Az Pd H H'->zh Pd H'->xs.length<=480->Q (.ref D) H'):GI Pd vs H Q wc
inductive GJ(vs:List V)(H:Hp)(Q:VK)(wc:XK):Prop where
 | mk (w p c:Addr) (W:Wk) (b y t:Int) (ci:Int×Int) (ui:vs=[.ref w,.ref p,.int t,.ref c]) (uj:Ag H w W) (zf:W.Ok) (zq:H p=some (.tup [.int b,.int y])) (Ai:0<=b) (AA:b<W.be.length) (Bl:H c=some (.tup [.int ci.1,.int ci.2])) (C7:∀(x:V)(H':Hp),Al H' x (arrOf W b y t ci)->c0 H H'->Q x H'):GJ vs H Q wc
theorem xb{f:Addr}(F:Ac K "at_doors" "at_doors" (top 42) f fd)(T:Txt K mg)(af:FnAt P w K mg base 2 "door_events" ["works","station"] (Iy Pd)):mu P w K mg base Aa 3 f fd ["works"] (GI Pd):=by
 exists ["works","arrivals","station","event"]
 obtain⟨w,W,M,rfl,hc,nT,hw,ok,hT,q⟩:=h
 obtain⟨sa,ba,fa,xs,ys,zs,h1,h2⟩:=id hw.ex
 have ls:=h2.ps.length
 have s8:=ok.s8
 refine⟨_,((1>>=@bR _ _ _ _ a_)<|>cj PassesOwn.never rfl (bO rfl T.zt (‹({0}<*>bh)›>>a_)) (fB (i:=2) nd rfl (by nofun)) (@ei _ _ _ (cj PassesOwn.never rfl (bx (K:=K) rfl (af<&>({0}>>{2}>>a_))) (fB (i:=3) nd rfl (by nofun)) (@ei _ _ _ (bC (bZ Z5 Z6 Z7 bH {1} (@bF _ _ _ _ _ ({2}>>{3}>>bS>>a_)>>a_))))))<|>(~~~{1})),?_⟩
 refine⟨yH _,λD nD=>?_⟩
 have t0:c0 H (upd H D (.lst [])):=c0.new nD
 have Xq:=hc.new nD (.lst [])
 refine⟨_,rfl,⟨_,_,_,_,rfl,rfl,ze.of (t0 _ _ h1),(d5 (j:=0) rfl),sa,xs,rfl,.inl (eH.of (t0 _ _ h2.hs)),_,rfl,by rw[BL];lia,by rw[BL];lia,cW (n:=(xs.length:Int).toNat) (λi σ H4=>∃(us:List V)(v2 v3:Option V),σ=[some (.ref w),some (.ref D),v2,v3]/\Az Pd H H4/\Hc H4 ([(D,.lst us)]::M)/\Paired (Al H4) us (W.C9 i)/\zh Pd H4/\us.length<=60*i)
  ⟨[],_,_,rfl,Az.of t0,Xq,.nil,hT.same t0,yH _⟩ ?_ ?_⟩⟩
 ·rintro i σ H4 hi ⟨us,v2,v3,rfl,s4,B,G,U,l4⟩
  rw[qW]
  refine⟨_,rfl,_,rfl,w,W,i,rfl,hw.sm s4,ok,U,λp rs H5 np hp Ho Y OX TC=>?_⟩
  have Xr:A8 ([(D,.lst us)]::M):=nT.lst
  have AM:=B.sm Xr Y
  have Xs:=bf (λ_ _ h=>Al.tp (Tp.sm Y) h) G
  have lr:=Ho.length
  have Xu:D≠p:=λz=>by
   have e:=B.get 0 0 rfl rfl
   rw[z,np]at e
   cases e
  refine⟨p,rfl,⟨_,eH.of hp⟩,dh (K:=K) (a:=p) (xs:=rs) (λj σ H6=>∃(vs:List V)(v3:Option V),σ=[some (.ref w),some (.ref D),some (.int (i:Int)),v3]/\H6 p=some (.lst rs)/\Az Pd H H6/\Tp Pd H5 H6/\Hc H6 ([(D,.lst vs)]::M)/\Paired (Al H6) vs (W.C9 i++((W.de i).take j).map λe=>⟨i,e,none⟩)/\zh Pd H6/\vs.length=us.length+j)
   ⟨us,_,rfl,hp,s4.trans Y,Tp.refl _,AM,by rw[qX,jM,zQ];exact Xs,OX,rfl⟩ (λj σ H6 _ ⟨_,_,_,e,_⟩=>eH.of e) ?_ ?_⟩
  ·rintro j x σ H6 hx ⟨vs,Xv,rfl,HI,s6,Ra,A9,O,Gw,l6⟩
   obtain⟨t,ht,Q4⟩:=Ho.gt hx
   have hj:=(zC.mp hx).1
   have g6:=A9.get 0 0 rfl rfl
   refine⟨_,rfl,CH g6,_,rfl,_,rfl,(by show 3<=sizeLine;decide),λpt IA=>?_⟩
   have s7:c0 H6 (upd H6 pt (.tup [.int (i:Int),x,.y2])):=c0.new IA
   have g7:=s7 _ _ g6
   have Xw:H D=none:=nD
   refine⟨_,_,_,rfl,rfl,g7,cH (by lia),?_⟩
   have t7:Tp Pd H6 (upd (upd H6 pt (.tup [.int (i:Int),x,.y2])) D (.lst (vs++[.ref pt]))):=(Tp.of s7).put g7
   refine⟨vs++[.ref pt],_,rfl,?_,(s6.trans (Az.of s7)).upd Xw,Ra.trans t7,(A9.same s7).put 0 0 rfl rfl _,?_,(Gw.same s7).Fm g7,by rw[zN,l6];rfl⟩
   ·rw[bj Xu.symm];exact s7 _ _ HI
   ·rw[bI ht,zK,←yI]
    refine bv (bf (λ_ _ h=>Al.tp t7 h) O) (.cons ⟨pt,x,.y2,rfl,?_,(Q4.tp Ra).tp t7,rfl⟩ .nil)
    rw[bj (bK (bg (H:=H6) (a:=pt)) g7 λz=>nomatch z)]
    exact bg
  ·rintro σ H6 ⟨vs,Xv,rfl,HI,s6,Ra,A9,O,Gw,l6⟩
   rw[lr,zY]at O
   refine⟨vs,_,_,rfl,s6,A9,?_,Gw,by lia⟩
   have e:W.C9 (i+1)=W.C9 i++(W.de (i:Int)).map λe=>⟨i,e,none⟩:=by
    unfold Wk.C9
    rw[qM,qV]
    simp
   rw[e]
   exact O
 ·rintro σ H4 ⟨us,v2,v3,rfl,s4,B,G,U,l4⟩
  have e:((xs.length:Nat):Int).toNat=W.st.length:=by lia
  rw[e]at G l4
  exact⟨_,rfl,q D us H4 B G s4 U (by lia)⟩
theorem wP{f:Addr}(F:Ac K "arrival_of" "arrival_of" (top 43) f fd):mu P w K mg base Aa 1 f fd ["works","put","time","cause"] GJ:=by
 exists ["works","put","time","cause","belt"]
 obtain⟨w,p,c,W,b,y,t,ci,rfl,hw,ok,hp,b0,b1,U,q⟩:=h
 obtain⟨sa,ba,fa,xs,ys,zs,h1,h2⟩:=hw.ex
 have lb:=h2.pb.length
 obtain⟨xv,hx⟩:∃x,ys[b.toNat]?=some x:=⟨ys[b.toNat]'(by lia),zD _⟩
 obtain⟨B,G,a0,rfl,ha⟩:=h2.pb.gt hx
 have eg:W.be.getD b.toNat (0,0,0)=B:=by rw[zA,G];rfl
 obtain⟨q1,q2,q3,q4,q5,q6⟩:=ok.EK B (zE G)
 have eb:b=(b.toNat:Int):=by lia
 refine⟨_,((4>>=(({0}<*>bh)<*({1}<*>bh)))<|>(~~~(@bF _ _ _ _ _ (({4}<*>bh)>>@bF _ _ _ _ _ (bu bQ {2} ({4}<*>bh)>>({1}<*>bh)>>({1}<*>bh)>>a_)>>{3}>>a_)))),?_⟩
 refine⟨_,rfl,(h1<<<1>>>⟨_,rfl,(hp<<<0>>>⟨_,_,_,_,rfl,rfl,eH.of h2.hb,(by rw[eb];exact d5 hx),?_⟩)⟩)⟩
 refine⟨_,rfl,(ha<<<1>>>⟨_,rfl,_,rfl,(ha<<<2>>>⟨_,_,rfl,rfl,_,rfl,(hp<<<0>>>⟨_,rfl,(hp<<<1>>>⟨(by show 3<=sizeLine;decide),λO Y=>?_⟩)⟩)⟩)⟩)⟩
 have s1:c0 H (upd H O (.tup [.int (t+B.2.2),.int b,.int y])):=c0.new Y
 refine⟨_,rfl,(by show 3<=sizeLine;decide),λpa Xx=>?_⟩
 have s2:=c0.new (o:=.tup [.int B.2.1,.ref O,.ref c]) Xx
 refine q _ _ ⟨pa,.ref O,.ref c,rfl,?_,⟨O,rfl,?_⟩,⟨c,rfl,(s1.trans s2) _ _ U⟩⟩ (s1.trans s2)
 ·rw[bg]
  show some (HO.tup [V.int B.2.1,_,_])=some (HO.tup [V.int (((W.be.getD b.toNat (0,0,0)).2.1).toNat:Int),_,_])
  rw[eg,jS q3]
 ·rw[s2 _ _ bg]
  show some (HO.tup [V.int (t+B.2.2),V.int b,V.int y])=some (HO.tup (Dm (t+(W.be.getD b.toNat (0,0,0)).2.2,b,y)))
  rw[eg]
  rfl
def Nh:JE->PyData
 | none=>.none
 | some c=>.tuple [.int c.1,.int c.2]
def DC(a:AR):PyData:=.tuple [.int (a.s:Int),DQ a.e,Nh a.c]
theorem Bh.dt{x:V}:∀{c:JE},Bh H x c->Dt K H 1 x (Nh c)
 | none,h=>by cases h;exact .y2 1
 | some _,⟨p,e,q⟩=>by subst e;exact .tup (ze.of q) (.cons (.int _ _) (.cons (.int _ _) (.nil _)))
theorem Al.dt{x:V}{a:AR}(h:Al H x a):Dt K H 2 x (DC a):=by
 obtain⟨p,xe,xc,rfl,e,B,G⟩:=h
 exact .tup (ze.of e) (.cons (.int _ _) (.cons B.dt (.cons G.dt (.nil _))))
theorem um{a b:AR}(h:PyData.eqv (DC a) (DC b)=true):a.key=b.key:=by
 unfold DC DQ at h
 simp only [PyData.eqv,PyData.eqvAll,yL,beq_iff_eq]at h
 obtain⟨_,⟨h1,h2,_⟩,_⟩:=h
 unfold AR.key
 rw[h1,h2]
theorem wL{a b c:Int×Int}(h1:AI a b=true)(h2:AI c b=false):AI a c=true:=by
 have n:¬(c.1<b.1\/(c.1=b.1/\c.2<b.2)):=λq=>by rw[(b9 c b).mpr q]at h2;cases h2
 rw[b9]at h1 ⊢
 rcases Int.lt_trichotomy b.1 c.1 with q|q|q
 ·rcases h1 with h|⟨h,_⟩
  ·exact .inl (Int.lt_trans h q)
  ·exact .inl (by rw[h];exact q)
 ·have g:b.2<=c.2:=vV.mp λz=>n (.inr ⟨q.symm,z⟩)
  rcases h1 with h|⟨h,h'⟩
  ·exact .inl (by rw[←q];exact h)
  ·exact .inr ⟨h.trans q,jE h' g⟩
 ·exact absurd (.inl q) n
theorem gN(ks:List (Int×Int))(n:Nat):∀m,m<argBest (λi j=>AI (ks.getD i (0,0)) (ks.getD j (0,0))) n->AI (ks.getD (argBest (λi j=>AI (ks.getD i (0,0)) (ks.getD j (0,0))) n) (0,0)) (ks.getD m (0,0))=true:=by
 induction n with
 | zero=>intro m h;exact absurd h (qT _)
 | succ n ih =>
  intro m h
  have hb:=gK (λi j=>AI (ks.getD i (0,0)) (ks.getD j (0,0))) n
  simp only [argBest]at h ⊢
  by_cases e:AI (ks.getD (n+1) (0,0)) (ks.getD (argBest (λi j=>AI (ks.getD i (0,0)) (ks.getD j (0,0))) n) (0,0))=true
  ·rw[if_pos e]at h ⊢
   exact wL e (eZ ks n m (by lia))
  ·rw[if_neg e]at h ⊢
   exact ih m h
theorem oH{a:AR}(h:S.first=some a):S.at<S.ar.length:=(zC.mp h).1
theorem nu{a:AR}(h:S.first=some a):∀m,m<S.at->PyData.eqv ((S.ar.map DC).getD m .none) (DC a)=false:=λm hm=>by
 have hl:=oH h
 have em:S.ar[m]?=some (S.ar[m]'(by lia)):=zD _
 rw[zA,zG,em]
 show PyData.eqv (DC S.ar[m]) (DC a)=false
 cases q:PyData.eqv (DC S.ar[m]) (DC a) with
 | false=>rfl
 | true =>
  have hk:=um q
  have hb:=gN (S.ar.map AR.key) ((S.ar.map AR.key).length-1) m hm
  have e1:(S.ar.map AR.key).getD m (0,0)=(S.ar[m]'(by lia)).key:=by rw[zA,zG,em];rfl
  have e2:(S.ar.map AR.key).getD S.at (0,0)=a.key:=by
   rw[zA,zG]
   show((S.first).map AR.key).getD _=_
   rw[h]
   rfl
  have B:AI ((S.ar.map AR.key).getD S.at (0,0)) ((S.ar.map AR.key).getD m (0,0))=true:=hb
  rw[e1,e2,hk,eP]at B
  cases B
theorem wG(a:AR):(DC a).canLay0=true:=by
 unfold DC DQ
 cases a.c <;>rfl
theorem tJ{a:AR}(h:S.first=some a):PyData.eqv ((S.ar.map DC).getD S.at .none) (DC a)=true:=by
 rw[zA,zG]
 show PyData.eqv (((S.first).map DC).getD .none) (DC a)=true
 rw[h]
 exact SeqAt.eqv_refl _ (wG a)
inductive K6(Pd:Addr)(vs:List V)(H:Hp)(Q:VK)(wc:XK):Prop where
 | mk (w:Addr) (u:Int) (W:Wk) (M:List (List Cell)) (ui:vs=[.ref w,.int u]) (uj:Hc H M) (zf:A8 M) (zq:EG M w W) (Ai:W.Ok) (AA:zh Pd H) (Bl:u<=60) (C7:∀(R:CS)(t D1 D2:Addr)(ea oa:List Addr)(Bw Ck:List (List V))(H':Hp),Runs W u W.cs R->Bq W R->Hc H' ([(t,.tup [.ref D1,.ref D2])]::[(D2,.lst (oa.map V.ref))]::zb oa Ck::[(D1,.lst (ea.map V.ref))]::zb ea Bw::M)->ea.length=Bw.length->oa.length=Ck.length->Paired (λus ts=>Paired (d4 H') us ts) Bw R.ev->Paired (λus ts=>Paired (Bh H') us ts) Ck R.og->Tp Pd H H'->zh Pd H'->(∀us∈Bw,us.length<=30000)->Q (.ref t) H'):K6 Pd vs H Q wc
theorem cx{F:α->β->Prop}{G:α->γ->Prop}{f:β->γ}:∀{l:List α}{m:List β},(∀a,∀b∈m,F a b->G a (f b))->Paired F l m->Paired G l (m.map f)
 | _,_,_,.nil=>.nil
 | _,_,h,.cons p r=>.cons (h _ _ zH p) (cx (λa b hb=>h a b (zL _ hb)) r)
structure Lp(cs:Cs)(Pd:Addr)(W:Wk)(u:Int)(M:List (List Cell))(D D1 D2 D3:Addr)(ea oa:List Addr)(H H5:Hp)(S:CS)(fi:List SR)(Bw Ck:List (List V))(xs:List V)(k:Nat):Prop where
 hc:Hc H5 ([(D3,.lst xs)]::[(D2,.lst (oa.map V.ref))]::zb oa Ck::[(D1,.lst (ea.map V.ref))]::zb ea Bw::[(D,.lst (zj fi))]::stC cs fi::M)
 st:fi.map SR.pu=S.st
 so:∀r∈fi,DT k r
 km:k+S.C0 u<=30000
 le:∀us∈Bw,us.length<=k
 lo:∀us∈Ck,us.length<=k
 lx:xs.length<=480
 ar:Paired (Al H5) xs S.ar
 ev:Paired (λus ts=>Paired (d4 H5) us ts) Bw S.ev
 og:Paired (λus ts=>Paired (Bh H5) us ts) Ck S.og
 ok:Bq W S
 rn:∀R,Runs W u S R->Runs W u W.cs R
 tp:Tp Pd H H5
 dT:zh Pd H5
 l1:ea.length=Bw.length
 l2:oa.length=Ck.length
theorem Wk.Ds(ok:W.Ok){s:Int}{e:fc}(h:e∈W.de s):0<=e.1/\e.2.1=-1/\∃f∈W.fe,f.1=s/\e=(f.2.1,-1,f.2.2):=by
 unfold Wk.de Wk.dr at h
 obtain⟨p,hp,rfl⟩:=yF.mp h
 obtain⟨f,hf,rfl⟩:=yF.mp hp
 obtain⟨h1,h2⟩:=W.E3 hf
 obtain⟨_,_,B,_⟩:=ok.EZ f h1
 exact⟨B,rfl,f,h1,h2,rfl⟩
theorem jc{a:AR}(h:a∈W.C9 n):a.s<n/\a.e∈W.de (a.s:Int)/\a.c=none:=by
 unfold Wk.C9 at h
 obtain⟨s,hs,ha⟩:=jC.mp h
 obtain⟨e,B,rfl⟩:=yF.mp ha
 exact⟨y8.mp hs,B,rfl⟩
theorem ve(ok:W.Ok):Bq W W.cs:=by
 refine⟨?_,?_,?_,λs p hs=>?_,λa ha=>?_⟩
 ·show((List.range W.st.length).map W.sp).length=_;rw[zB,qL]
 ·show(W.st.map λ_=>([]:List fc)).length=_;rw[zB]
 ·show(W.st.map λ_=>([]:List JE)).length=_;rw[zB]
 ·have B:((List.range W.st.length).map W.sp)[s]?=some p:=hs
  rw[zG]at B
  cases e:(List.range W.st.length)[s]? with
  | none=>rw[e]at B;cases B
  | some s' =>
   rw[e]at B
   cases B
   have:s'=s:=by
    have h1:=(zC.mp e).2
    rw[j9]at h1
    exact h1.symm
   rw[this]
   exact⟨rfl,rfl⟩
 ·obtain⟨h1,h2,_⟩:=jc ha
  obtain⟨_,h3,f,hf,h4,_⟩:=W.Ds ok h2
  refine⟨h1,?_⟩
  rw[h3]
  unfold Wk.wy
  rw[if_pos (jO.mpr ⟨f,hf,by simpa using h4⟩)]
  exact yQ _ zH
theorem qv{f:α->Nat}{l:List α}{b:Nat}(h:∀x∈l,f x<=b):(l.map f).sum<=l.length*b:=by
 induction l with
 | nil=>exact yH _
 | cons x l ih =>
  have h1:=h x zH
  have h2:=ih λy hy=>h y (zL _ hy)
  rw[yM,qB,yD,vR,xN]
  lia
theorem yu(ok:W.Ok)(hu:u<=60)(h1:(W.C9 W.st.length).length<=480):W.cs.C0 u<=30000:=by
 have h2:((W.C9 W.st.length).map (EF u)).sum<=(W.C9 W.st.length).length*62:=qv λa ha=>by
  obtain⟨_,h2,_⟩:=jc ha
  obtain⟨h3,_⟩:=W.Ds ok h2
  show(u+2-a.e.1).toNat<=62
  lia
 show((W.C9 W.st.length).map (EF u)).sum<=30000
 have h3:(W.C9 W.st.length).length*62<=480*62:=Nat.mul_le_mul_right _ h1
 lia
theorem yf{f fR:Addr}{cs:Cs}(F:Ac K "traced" "traced" (top 45) f fd)(T:Txt K mg)(cc:CY K cs)(ai:FnAt P w K mg base 4 "station_of" ["works","station"] (Iv cs))(aE:FnAt P w K mg base 3 "at_doors" ["works"] (GI Pd))
  (ax:FnAt P w K mg base 1 "arrival_of" ["works","put","time","cause"] GJ) (a6:mg "rank"=some (.ref fR)) (a7:∀A:Around,A.depth<recursionLimit->Et P w K A.in1 fR) (EC:∀k,MethAt P w K mg base 2 (cs.of k) "take" ["self","way","piece"] (Fn cs k)) :
  mu P w K mg base Aa 5 f fd ["works","until"] (K6 Pd):=by
 exists ["works","until","takers","events","origins","arrivals","first","station","event","put"]
 obtain⟨w,u,W,M,rfl,hc,nT,hw,ok,hT,hu,q⟩:=h
 have Rc:=hw H hc
 obtain⟨sa,ba,fa,Ni,Uo,Nj,h1,h2⟩:=id Rc.ex
 have ls:=h2.ps.length
 have s8:=ok.s8
 refine⟨_,((2|||["station"]|||["works"]|||[0]|||(bO rfl T.zt (‹({0}<*>bh)›>>a_))|||bB|||(ai<&>({1}>>{0}>>a_)))<|>(3|||["taker"]|||[]|||[]|||(bx (K:=K) rfl {2})|||bB|||(@bR _ _ _ _ a_))<|>(4|||["taker"]|||[]|||[]|||(bx (K:=K) rfl {2})|||bB|||(@bR _ _ _ _ a_))<|>(5>>=(aE<&>({0}>>a_)))<|>lq PassesOwn.never (bp fw ‹{5}› bh (bq _)) ((6>>=qz rfl hr (by rfl) T.EX i9 (by rfl) a6 (a7 _ hr.depth) {5})<|>(7>>=({6}<*>bh))<|>(8>>=({6}<*>bh))<|>bL (bp fw ({8}<*>bh) {1} (bq _)) (@ei _ _ _ sJ) bz<|>bC (bZ Z5 PySem.F.slot_list_remove PySem.F.type_list_remove (o7 hr.units) {5} ({6}>>a_))<|>(9>>=oh (cls:=cs.of) (sp:=Fn cs) EC (hr.mono (by decide)) ({2}<*{7}) (({8}<*>bh)>>({8}<*>bh)>>a_))<|>bL (bp dS {9} bS (bq _)) (@ei _ _ _ (bC (bZ Z5 Z6 Z7 bH {5} ((ax<&>({0}>>{9}>>({8}<*>bh)>>@bF _ _ _ _ _ ({7}>>‹({3}<*{7})›>>a_)>>a_))>>a_)))) bz<|>bC (bZ Z5 Z6 Z7 bH ({3}<*{7}) ({8}>>a_))<|>@ei _ _ _ (bC (bZ Z5 Z6 Z7 bH ({4}<*{7}) (({6}<*>bh)>>a_))))<|>(~~~(@bF _ _ _ _ _ ({3}>>{4}>>a_)))),?_⟩
 refine⟨_,rfl,(h1<<<0>>>⟨sa,Ni,rfl,.inl (eH.of h2.hs),_,rfl,by rw[BL];lia,by rw[BL];lia,λD nD=>?_⟩)⟩
 refine cy (lo:=0) (n:=(Ni.length:Int).toNat) (λi H4=>∃fi:List SR,c0 H H4/\Hc H4 ([(D,.lst (zj fi))]::stC cs fi::M)/\fi.length=i/\∀j r,fi[j]?=some r->Made W j r) ⟨[],c0.new nD,(hc.new nD (.lst [])).pad.swap,rfl,λj r h=>by cases h⟩ ?_ ?_
 ·rintro i H4 m Wf hi ⟨fi,s4,Hv,l4,Hk⟩ nx
  rw[qW]
  refine⟨_,rfl,_,rfl,w,W,i,_,rfl,Rc.same s4,ok,by lia,Hv,λr H5 s5 AM mk=>?_⟩
  walk_at "z"
 ·rintro H4 ⟨fi,s4,Hv,l4,Hk⟩
  have W_:fi.length=W.st.length:=by lia
  have Rf:=Hv.get 0 0 rfl rfl
  have Xy:(zj fi).length=fi.length:=zB _
  refine⟨_,rfl,D,rfl,⟨_,eH.of Rf⟩,λD1 Im=>?_⟩
  refine bA (a:=D) (xs:=zj fi) (λi H5=>∃ea:List Addr,c0 H4 H5/\Hc H5 ([(D1,.lst (ea.map V.ref))]::zb ea (ea.map λ_=>[])::[(D,.lst (zj fi))]::stC cs fi::M)/\ea.length=i)
   ⟨[],c0.new Im,(Hv.new Im (.lst [])).pad.swap,rfl⟩ (λi H5 _ ⟨_,s5,_⟩=>eH.of (s5 _ _ Rf)) ?_ ?_
  ·rintro i x H5 m Wf hx ⟨ea,s5,AM,l5⟩ nx
   walk_at "D"
   have A9:=AM.new C3 (.lst [])
   have g6:=A9.get 1 0 rfl rfl
   refine⟨_,g6,bo (by rw[zB];lia),nx _ ⟨ea++[pn],(s5.trans (c0.new C3)).upd Im,?_,by rw[zN,l5];rfl⟩⟩
   walk_at "m"
  ·rintro H5 ⟨ea,s5,AM,l5⟩
   have Rg:=AM.get 2 0 rfl rfl
   refine⟨_,rfl,D,rfl,⟨_,eH.of Rg⟩,λD2 CV=>?_⟩
   refine bA (a:=D) (xs:=zj fi) (λi H6=>∃oa:List Addr,c0 H5 H6/\Hc H6 ([(D2,.lst (oa.map V.ref))]::zb oa (oa.map λ_=>[])::[(D1,.lst (ea.map V.ref))]::zb ea (ea.map λ_=>[])::[(D,.lst (zj fi))]::stC cs fi::M)/\oa.length=i)
    ⟨[],c0.new CV,(AM.new CV (.lst [])).pad.swap,rfl⟩ (λi H6 _ ⟨_,s6,_⟩=>eH.of (s6 _ _ Rg)) ?_ ?_
   ·rintro i x H6 m Wf hx ⟨oa,s6,A9,l6⟩ nx
    walk_at "D"
    have Gr:=A9.new C3 (.lst [])
    have g7:=Gr.get 1 0 rfl rfl
    refine⟨_,g7,bo (by rw[zB];lia),nx _ ⟨oa++[pn],(s6.trans (c0.new C3)).upd CV,?_,by rw[zN,l6];rfl⟩⟩
    have:=Gr.put 1 0 rfl rfl (.lst (oa.map V.ref++[.ref pn]))
    rw[zK,zK]
    have e:=dG (ls:=oa) (vs:=oa.map λ_=>[]) (by rw[zB]) pn []
    show Hc _ (_::zb (oa++[pn]) ((oa.map λ_=>[])++[[]])::_)
    rw[e]
    exact(Hc.join (this.pick 2 rfl)).swap
   ·rintro H6 ⟨oa,s6,A9,l6⟩
    have OY:=s4.trans (s5.trans s6)
    have OO:A8 ([(D2,.lst (oa.map V.ref))]::zb oa (oa.map λ_=>[])::[(D1,.lst (ea.map V.ref))]::zb ea (ea.map λ_=>[])::[(D,.lst (zj fi))]::stC cs fi::M):=((((nT.cons (mT cs fi)).lst).cons dJ).lst.cons dJ).lst
    refine⟨_,rfl,w,W,_,rfl,A9,OO,Rc.same OY,ok,hT.same OY,λD3 xs H7 Gr Rh LD KS Nk=>?_⟩
    have Xz:=Rh.length
    have L0:Lp cs Pd W u M D D1 D2 D3 ea oa H H7 W.cs fi (ea.map λ_=>[]) (oa.map λ_=>[]) xs 0:=by
     refine⟨Gr,?_,λr Dz=>?_,by have:=yu ok hu (by lia);lia,λus B7=>?_,λus B7=>?_,Nk,Rh,cQ .nil (by lia),cQ .nil (by lia),ve ok,λR r=>r,(Tp.of OY).trans (Tp.sm LD),KS,by rw[zB],by rw[zB]⟩
     ·refine jI λi=>?_
      show(fi.map SR.pu)[i]?=((List.range W.st.length).map W.sp)[i]?
      rw[zG,zG]
      cases e:fi[i]? with
      | none =>
       have:=jP.mp e
       rw[yT (by rw[qL];lia)]
       rfl
      | some r =>
       have hi:=(zC.mp e).1
       rw[qF (by lia)]
       show some r.pu=some (W.sp i)
       rw[(Hk i r e).pu]
     ·obtain⟨j,hj⟩:=yS Dz
      exact(Hk j r hj).ok
     ·obtain⟨_,_,rfl⟩:=yF.mp B7;exact zJ _
     ·obtain⟨_,_,rfl⟩:=yF.mp B7;exact zJ _
    refine⟨λm σ H5=>∃(S:CS)(fi:List SR)(Bw Ck:List (List V))(xs:List V)(k:Nat)(v6 v7 v8 v9:Option V),σ=[some (.ref w),some (.int u),some (.ref D),some (.ref D1),some (.ref D2),some (.ref D3),v6,v7,v8,v9]/\m=S.C0 u/\Lp cs Pd W u M D D1 D2 D3 ea oa H H5 S fi Bw Ck xs k,
     ⟨_,_,_,_,_,_,_,_,_,_,_,rfl,rfl,L0⟩,?_⟩
    clear L0 Gr Rh Xz Nk xs LD KS OO A9 l6 s6 Rg AM s5 Rf Xy Hv Hk s4 OY
    rintro m σ H8 ⟨S,G,Bw,Ck,xs,k,v6,v7,v8,v9,rfl,rfl,L⟩
    have LH:=L.hc.get 0 0 rfl rfl
    have ZH:=L.ar.length
    refine⟨_,rfl,D3,xs,rfl,.inl (eH.of LH),_,_,rfl,rfl,_,rfl,?_⟩
    walk_at "S"
    rotate_left
    ·-- nothing is left
     have Cb:¬(0:Int)<(xs.length:Int):=of_decide_eq_false hb
     have hs:∀a,S.first=some a->u<a.e.1:=λa ha=>by have:=oH ha;lia
     walk_at "u"
    have Cb:(0:Int)<(xs.length:Int):=of_decide_eq_true hb
    refine⟨fun σ' H'=>∃m',m'<S.C0 u/\∃(S:CS)(fi:List SR)(Bw Ck:List (List V))(xs:List V)(k:Nat)(v6 v7 v8 v9:Option V),σ'=[some (.ref w),some (.int u),some (.ref D),some (.ref D1),some (.ref D2),some (.ref D3),v6,v7,v8,v9]/\m'=S.C0 u/\Lp cs Pd W u M D D1 D2 D3 ea oa H H' S fi Bw Ck xs k,λ_ _ h=>h,?_⟩
    refine⟨_,rfl,D3,xs,S.ar.map AR.key,rfl,eH.of LH,by rw[zB];lia,(λe=>by rw[e]at Cb;exact absurd Cb (by decide)),λj x kk hj hk=>?_,λx hx=>?_⟩
    ·obtain⟨a,ha,p,xe,xc,rfl,e,⟨p2,rfl,e2⟩,_⟩:=L.ar.gt hj
     rw[zG,ha]at hk
     cases hk
     exact⟨p,_,p2,_,rfl,ze.of e,rfl,ze.of e2,rfl,rfl⟩
    obtain⟨a,ha,p,xe,xc,rfl,hp,⟨pe,rfl,Nl⟩,Nm⟩:=L.ar.gt hx
    replace ha:S.first=some a:=ha
    have Ri:Al H8 (.ref p) a:=⟨p,.ref pe,xc,rfl,hp,⟨pe,rfl,Nl⟩,Nm⟩
    refine⟨_,rfl,(hp<<<0>>>⟨_,rfl,(hp<<<1>>>?_)⟩)⟩
    refine⟨_,rfl,(Nl<<<0>>>⟨_,rfl,_,_,rfl,rfl,_,rfl,?_⟩)⟩
    refine Fd (λLx=>?_) (λLx=>?_)
    ·-- rq Lu Rj
     have hs:∀a',S.first=some a'->u<a'.e.1:=λa' Up=>by rw[ha]at Up;cases Up;exact of_decide_eq_true Lx
     walk_at "u"
    have hle:a.e.1<=u:=vV.mp (of_decide_eq_false Lx)
    refine⟨_,rfl,CH LH,_,rfl,D3,xs,.ref p,S.ar.map DC,DC a,2,S.at,rfl,rfl,LH,cx (λ_ _ _ h=>h.dt) L.ar,Ri.dt,by decide,by have:=oH ha;lia,tJ ha,nu ha,?_⟩
    have Iu:=L.hc.put 0 0 rfl rfl (.lst (xs.eraseIdx S.at))
    have Rk:Tp Pd H8 (upd H8 D3 (.lst (xs.eraseIdx S.at))):=(Tp.refl _).put LH
    have Uq:zh Pd (upd H8 D3 (.lst (xs.eraseIdx S.at))):=L.dT.Fm LH
    generalize (upd H8 D3 (.lst (xs.eraseIdx S.at)))=H9 at Iu Rk Uq ⊢
    have XA:=zE ha
    obtain⟨QZ,Jm⟩:=L.ok.ar a XA
    have lst:G.length=W.st.length:=by rw[←L.ok.l1,←L.st,zB]
    obtain⟨r,Dz⟩:∃r,G[a.s]?=some r:=⟨G[a.s]'(by lia),zD _⟩
    have Rl:S.st[a.s]?=some r.pu:=by rw[←L.st,zG,Dz];rfl
    have Ur:S.st.getD a.s Ao=r.pu:=by rw[zA,Rl];rfl
    have C2:r.ws=W.wy a.s:=(L.ok.ws _ _ Rl).1
    have Cd:r.bs=W.lv a.s:=(L.ok.ws _ _ Rl).2
    have Q0:r.ws[r.ws.idxOf a.e.2.1]?=some a.e.2.1:=by
     have Ay:r.ws.idxOf a.e.2.1<r.ws.length:=xE.mpr (by rw[C2];exact Jm)
     rw[zD Ay,vE]
    have Np:=Rk.tup Nl
    obtain⟨A',B',Us,lA⟩:=jo Dz
    have LF:=ou (by rw[←Us];exact Iu.pick 6 rfl)
    have LP:=L.km
    refine⟨_,rfl,_,rfl,⟨_,_,_,_,rfl,rfl,eH.of (Iu.get 5 0 rfl rfl),d5 (d3 Dz),r.x,r.k,r.dx,_,rfl,LF.get 0 0 rfl rfl,r.E2 (by decide +kernel) (by decide +kernel) (by decide +kernel) (by decide +kernel) (by decide +kernel) (by decide +kernel),_,rfl,(Np<<<1>>>⟨_,rfl,(Np<<<2>>>?_)⟩)⟩⟩
    refine⟨r,r.ws.idxOf a.e.2.1,k,a.e.2.1,a.e.2.2,_,rfl,rfl,LF,L.so r (zE Dz),by lia,Q0,λv ft Ee Nq Gy Nr=>?_⟩
    have Y:=Rk.trans (Tp.tk Nr)
    have Nt:=Uq.tk Nr
    have Rm:G.set a.s (r.Aw (r.ws.idxOf a.e.2.1) a.e.2.2)=A'++r.Aw (r.ws.idxOf a.e.2.1) a.e.2.2::B':=by rw[Us,←lA];exact fG
    have Nu:zj (G.set a.s (r.Aw (r.ws.idxOf a.e.2.1) a.e.2.2))=zj G:=ff Dz (by rw[(r.DU _ _).1])
    have IB:Hc Ee (ft::[(D3,.lst (xs.eraseIdx S.at))]::[(D2,.lst (oa.map V.ref))]::zb oa Ck::[(D1,.lst (ea.map V.ref))]::zb ea Bw::[(D,.lst (zj (G.set a.s (r.Aw (r.ws.idxOf a.e.2.1) a.e.2.2))))]::stC cs (G.set a.s (r.Aw (r.ws.idxOf a.e.2.1) a.e.2.2))::M):=by
     rw[Nu,Rm]
     have h1:Hc Ee (Cy cs (r.Aw (r.ws.idxOf a.e.2.1) a.e.2.2)::(stC cs A'++stC cs B')::ft::[(D3,.lst (xs.eraseIdx S.at))]::[(D2,.lst (oa.map V.ref))]::zb oa Ck::[(D1,.lst (ea.map V.ref))]::zb ea Bw::[(D,.lst (zj G))]::M):=(Gy.pick 2 rfl).pick 2 rfl
     have h2:=oQ h1
     exact((((((((h2.pick 7 rfl).pick 7 rfl).pick 7 rfl).pick 7 rfl).pick 7 rfl).pick 7 rfl).pick 7 rfl))
    clear Gy LF
    obtain⟨us,B7⟩:∃us,Bw[a.s]?=some us:=⟨Bw[a.s]'(by have:=L.ev.length;have:=L.ok.l2;lia),zD _⟩
    obtain⟨os,Nv⟩:∃os,Ck[a.s]?=some os:=⟨Ck[a.s]'(by have:=L.og.length;have:=L.ok.l3;lia),zD _⟩
    obtain⟨U,Ef⟩:=cZ L.l1.symm B7
    obtain⟨OZ,DM⟩:=cZ L.l2.symm Nv
    obtain⟨tu,XB,Nw⟩:=L.ev.gt B7
    obtain⟨to,Ny,Rn⟩:=L.og.gt Nv
    have eu:S.ev.getD a.s []=tu:=by rw[zA,XB];rfl
    have eo:S.og.getD a.s []=to:=by rw[zA,Ny];rfl
    have OW:=L.le us (zE B7)
    have XC:=L.lo os (zE Nv)
    have XD:=Nw.length
    have fin:∀(Nz:List V)(B:Hp)(Ut:Option V),Hc B ([(D3,.lst Nz)]::[(D2,.lst (oa.map V.ref))]::zb oa Ck::[(D1,.lst (ea.map V.ref))]::zb ea Bw::[(D,.lst (zj (G.set a.s (r.Aw (r.ws.idxOf a.e.2.1) a.e.2.2))))]::stC cs (G.set a.s (r.Aw (r.ws.idxOf a.e.2.1) a.e.2.2))::M)->Tp Pd H8 B->zh Pd B ->
      Paired (Al B) Nz (S.step W a).ar->Nz.length<=480 ->
      (∃hl:B U=some (.lst us),∃BF:(upd B U (.lst (us++[.ref pe]))) OZ=some (.lst os),∃m',m'<S.C0 u/\∃(S:CS)(fi:List SR)(Bw Ck:List (List V))(xs:List V)(k:Nat)(v6 v7 v8 v9:Option V),[some (.ref w),some (.int u),some (.ref D),some (.ref D1),some (.ref D2),some (.ref D3),some (V.ref p),some (V.int (a.s:Int)),some (V.ref pe),Ut]=[some (.ref w),some (.int u),some (.ref D),some (.ref D1),some (.ref D2),some (.ref D3),v6,v7,v8,v9]/\m'=S.C0 u/\Lp cs Pd W u M D D1 D2 D3 ea oa H (upd (upd B U (.lst (us++[.ref pe]))) OZ (.lst (os++[xc]))) S fi Bw Ck xs k):=by
     intro Nz B Ut GK Ro Rp NA XE
     have hl:B U=some (.lst us):=GK.get 4 a.s rfl (bG Ef B7)
     have O:=GK.put 4 a.s rfl (bG Ef B7) (.lst (us++[.ref pe]))
     rw[dw Ef]at O
     have K7:Tp Pd B (upd B U (.lst (us++[.ref pe]))):=(Tp.refl _).put hl
     have O0:zh Pd (upd B U (.lst (us++[.ref pe]))):=Rp.Fm hl
     have BF:(upd B U (.lst (us++[.ref pe]))) OZ=some (.lst os):=O.get 2 a.s rfl (bG DM Nv)
     have NB:=O.put 2 a.s rfl (bG DM Nv) (.lst (os++[xc]))
     rw[dw DM]at NB
     have Uu:Tp Pd (upd B U (.lst (us++[.ref pe]))) (upd (upd B U (.lst (us++[.ref pe]))) OZ (.lst (os++[xc]))):=(Tp.refl _).put BF
     have XF:=O0.Fm (o:=.lst (os++[xc])) BF
     have tp:=(Ro.trans K7).trans Uu
     have ms:=CS.C_ ok L.ok ha hle
     refine⟨hl,BF,_,ms,S.step W a,G.set a.s (r.Aw (r.ws.idxOf a.e.2.1) a.e.2.2),Bw.set a.s (us++[.ref pe]),Ck.set a.s (os++[xc]),Nz,k+1,_,_,_,_,rfl,rfl,?_⟩
     refine⟨NB,?_,?_,by lia,cE (λz hz=>qS (L.le z hz)) (by rw[zN];exact jA OW),cE (λz hz=>qS (L.lo z hz)) (by rw[zN];exact jA XC),XE,
      bf (λ_ _ h=>Al.tp (K7.trans Uu) h) NA,?_,?_,Bq.step ok L.ok ha,λR rr=>L.rn R (.step a ha hle rr),L.tp.trans tp,XF,by rw[yG];exact L.l1,by rw[yG];exact L.l2⟩
     ·rw[j7,L.st,SR.GA]
      show _=S.st.set a.s ((S.st.getD a.s Ao).Aw ((S.st.getD a.s Ao).ws.idxOf a.e.2.1) a.e.2.2)
      rw[Ur]
      rfl
     ·exact cE (λz hz=>(L.so z hz).le (qQ _)) ((L.so r (zE Dz)).Aw _ _)
     ·show Paired _ _ (S.ev.set a.s (S.ev.getD a.s []++[a.e]))
      rw[eu]
      exact cp (sB tp L.ev) (bv (bf (λ_ _ h=>d4.tp tp h) Nw) (.cons ⟨pe,rfl,tp.tup Nl⟩ .nil))
     ·show Paired _ _ (S.og.set a.s (S.og.getD a.s []++[a.c]))
      rw[eo]
      exact cp (sO tp L.og) (bv (bf (λ_ _ h=>Bh.tp tp h) Rn) (.cons (Nm.tp tp) .nil))
    have lex:(xs.eraseIdx S.at).length<=479:=by
     have:=List.length_eraseIdx_of_lt (l:=xs) (i:=S.at) (by have:=oH ha;lia)
     have:=L.lx
     lia
    have Uv:Paired (Al Ee) (xs.eraseIdx S.at) (S.ar.eraseIdx S.at):=bf (λ_ _ h=>Al.tp Y h) (fq L.ar)
    have GL:(S.step W a).ar=S.ar.eraseIdx S.at++BX W (r.out (r.ws.idxOf a.e.2.1) a.e.2.2) a.e.1 ((a.s:Int),(us.length:Int)):=by
     show S.ar.eraseIdx S.at++BX W ((S.st.getD a.s Ao).out ((S.st.getD a.s Ao).ws.idxOf a.e.2.1) a.e.2.2) a.e.1 ((a.s:Int),((S.ev.getD a.s []).length:Int))=_
     rw[Ur,eu,XD]
     rfl
    have NC:∀b y,r.out (r.ws.idxOf a.e.2.1) a.e.2.2=some (b,y)->0<=b/\b<W.be.length:=λb y e=>by
     have:=SP.Ah (p:=r.pu) e
     rw[show r.pu.bs=r.bs from rfl,Cd]at this
     obtain⟨x1,x2,_⟩:=Wk.Bm ok this
     exact⟨x1,x2⟩
    generalize r.out (r.ws.idxOf a.e.2.1) a.e.2.2=oo at Nq GL NC
    cases Nq with
    | no =>
     refine⟨_,rfl,rfl,_,rfl,nj ?_⟩
     obtain⟨hl,BF,fn⟩:=fin (xs.eraseIdx S.at) Ee (some .y2) IB.tl Y Nt (by rw[GL];show Paired _ _ (_++[]);rw[zQ];exact Uv) (by lia)
     have Rq:=IB.get 4 0 rfl rfl
     have Rr:(upd Ee U (.lst (us++[.ref pe]))) D2=some (.lst (oa.map V.ref)):=by
      have:=(IB.put 5 a.s rfl (bG Ef B7) (.lst (us++[.ref pe]))).get 2 0 rfl rfl
      exact this
     refine⟨_,rfl,_,rfl,⟨_,_,_,_,rfl,rfl,eH.of Rq,d5 (cC Ef),CH hl,_,rfl,_,_,_,rfl,rfl,hl,cH (by lia),?_⟩⟩
     refine⟨_,rfl,_,rfl,⟨_,_,_,_,rfl,rfl,eH.of Rr,d5 (cC DM),CH BF,_,rfl,(((Tp.put Y hl).tup hp)<<<2>>>⟨_,_,_,rfl,rfl,BF,cH (by lia),?_⟩)⟩⟩
     exact fn
    | yes b y t =>
     refine⟨_,rfl,rfl,_,rfl,vr ?_⟩
     obtain⟨b0,b1⟩:=NC b y rfl
     have XG:=IB.get 1 0 rfl rfl
     have Rq:=IB.get 4 0 rfl rfl
     have XH:=IB.get 5 a.s rfl (bG Ef B7)
     have gt:=IB.get 0 0 rfl rfl
     have Rt:=hw Ee (nL (As:=[_,_,_,_,_,_,_,_]) IB)
     refine⟨_,rfl,CH XG,_,rfl,_,rfl,_,rfl,(Y.tup Nl<<<0>>>⟨_,rfl,_,rfl,_,rfl,⟨_,_,_,_,rfl,rfl,eH.of Rq,d5 (cC Ef),U,us,rfl,.inl (eH.of XH),(by show 2<=sizeLine;decide),λpc XI=>?_⟩⟩)⟩
     have DY:c0 Ee (upd Ee pc (.tup [.int (a.s:Int),.int (us.length:Int)])):=c0.new XI
     refine⟨w,t,pc,W,b,y,a.e.1,((a.s:Int),(us.length:Int)),rfl,Rt.same DY,ok,DY _ _ gt,b0,b1,bg,λx B Ru Rv=>?_⟩
     have GN:=DY.trans Rv
     have GK:=(IB.same GN).tl
     have O2:=GK.get 0 0 rfl rfl
     refine⟨_,_,_,rfl,rfl,O2,cH (by lia),?_⟩
     have O:=GK.put 0 0 rfl rfl (.lst (xs.eraseIdx S.at++[x]))
     have K7:Tp Pd Ee (upd B D3 (.lst (xs.eraseIdx S.at++[x]))):=(Tp.of GN).put O2
     have ND:Tp Pd B (upd B D3 (.lst (xs.eraseIdx S.at++[x]))):=(Tp.refl _).put O2
     have O0:zh Pd (upd B D3 (.lst (xs.eraseIdx S.at++[x]))):=(Nt.same GN).Fm O2
     generalize (upd B D3 (.lst (xs.eraseIdx S.at++[x])))=NF at O K7 ND O0 ⊢
     obtain⟨hl,BF,fn⟩:=fin (xs.eraseIdx S.at++[x]) NF (some (.ref t)) O (Y.trans K7) O0 (by rw[GL];exact bv (bf (λ_ _ h=>Al.tp K7 h) Uv) (.cons (Ru.tp ND) .nil)) (by rw[zN];show _+1<=480;lia)
     have Rw:=O.get 3 0 rfl rfl
     have Rr:(upd NF U (.lst (us++[.ref pe]))) D2=some (.lst (oa.map V.ref)):=(O.put 4 a.s rfl (bG Ef B7) (.lst (us++[.ref pe]))).get 1 0 rfl rfl
     refine⟨_,rfl,_,rfl,⟨_,_,_,_,rfl,rfl,eH.of Rw,d5 (cC Ef),CH hl,_,rfl,_,_,_,rfl,rfl,hl,cH (by lia),?_⟩⟩
     refine⟨_,rfl,_,rfl,⟨_,_,_,_,rfl,rfl,eH.of Rr,d5 (cC DM),CH BF,_,rfl,(((Tp.put (Y.trans K7) hl).tup hp)<<<2>>>⟨_,_,_,rfl,rfl,BF,cH (by lia),?_⟩)⟩⟩
     exact fn
inductive GP(Pd:Addr)(vs:List V)(H:Hp)(Q:VK)(wc:XK):Prop where
 | mk (w:Addr) (u:Int) (W:Wk) (M:List (List Cell)) (ui:vs=[.ref w,.int u]) (uj:Hc H M) (zf:A8 M) (zq:EG M w W) (Ai:W.Ok) (AA:zh Pd H) (Bl:u<=60) (C7:∀(R:CS)(D1:Addr)(ea:List Addr)(Bw:List (List V))(H':Hp),Runs W u W.cs R->Bq W R->Hc H' ([(D1,.lst (ea.map V.ref))]::zb ea Bw::M)->ea.length=Bw.length->Paired (λus ts=>Paired (d4 H') us ts) Bw R.ev->Tp Pd H H'->zh Pd H'->(∀us∈Bw,us.length<=30000)->Q (.ref D1) H'):GP Pd vs H Q wc
theorem bc{f:Addr}(F:Ac K "run" "run" (top 46) f fd)(O:FnAt P w K mg base 5 "traced" ["works","until"] (K6 Pd)):mu P w K mg base Aa 6 f fd ["works","until"] (GP Pd):=by
 exists ["works","until"]
 obtain⟨w,u,W,M,rfl,hc,U,hw,ok,hT,hu,q⟩:=h
 refine⟨_,(~~~((O<&>({0}>>{1}>>a_))<*>bh)),?_⟩
 refine⟨_,rfl,_,rfl,w,u,W,M,rfl,hc,U,hw,ok,hT,hu,λR t D1 D2 ea oa Bw Ck H' r G B l1 l2 Y po tp dT le=>?_⟩
 refine(B.get 0 0 rfl rfl<<<0>>>?_)
 exact q R D1 ea Bw H' r G B.tl.tl.tl l1 Y tp dT le
def FA(a b:Int×Int):Prop:=AI b a=false
theorem cX(a b:Int×Int):FA a b↔a.1<b.1\/(a.1=b.1/\a.2<=b.2):=by
 unfold FA
 have h:=b9 b a
 cases e:AI b a with
 | true =>
  rw[e]at h;have:=h.mp rfl;constructor
  ·intro z;cases z
  ·intro z;exfalso;lia
 | false =>
  rw[e]at h
  have:¬(b.1<a.1\/(b.1=a.1/\b.2<a.2)):=λz=>by have:=h.mpr z;cases this
  constructor
  ·intro _;lia
  ·intro _;rfl
structure Ord(W:Wk)(A:OA):Prop where
 lg:A.ge.length=W.st.length
 so:∀s,(A.ge.getD s []).Pairwise λa b=>FA (sF a) (sF b)
 wy:∀s:Nat,∀t∈A.ge.getD s [],t.2.1∈W.wy s
 bd:∀s:Nat,∀t∈A.ge.getD s [],∀w∈W.wy s,∀x,A.e s w=some x->FA (sF t) (x,w)
theorem JC.bd{ws:List Int}(h:JC A s ws t)(D9:∀w∈ws,w=-1\/0<=w)(B:∀w∈ws,∀u,(n7 A.de A.re s w).head?=some u->u.2.1=w):∀w∈ws,∀x,A.e s w=some x->FA (sF t) (x,w):=λw hw x hx=>by
 unfold OA.e at hx
 cases ev:n7 A.de A.re s w with
 | cons u r =>
  rw[ev]at hx
  cases hx
  have e:=h.min w hw u (by rw[ev];rfl)
  have e2:=B w hw u (by rw[ev];rfl)
  unfold sF at e ⊢
  rw[e2]at e
  exact e
 | nil =>
  rw[ev]at hx
  replace hx:(if w=-1 then none else A.pr.getD w.toNat none)=some x:=hx
  split at hx
  ·cases hx
  ·rename_i n1
   have em:A.re.getD w.toNat []=[]:=by unfold n7 at ev;rw[if_neg n1]at ev;exact ev
   have z:=h.may w hw n1 em x hx
   have w0:=(D9 w hw).resolve_left n1
   rw[cX]
   unfold sF
   dsimp only
   lia
theorem tq{m:Nat}(h:AG m A){w:Int}(w0:w=-1\/0<=w){u:fc}(hh:(n7 A.de A.re s w).head?=some u):u.2.1=w:=by
 have BR:u∈n7 A.de A.re s w:=xK hh
 unfold n7 at BR
 split at BR
 ·rename_i z
  rw[z]
  exact dH (p:=λrow=>∀t∈row,t.2.1=-1) (λ_ z=>absurd z zI) h.d u BR
 ·rename_i z
  have w1:=w0.resolve_left z
  rw[zA]at BR
  cases er:A.re[w.toNat]? with
  | none=>rw[er]at BR;exact absurd BR zI
  | some row =>
   rw[er]at BR
   have:=h.r w.toNat row er u BR
   lia
theorem lL(now:Option Int):∀(bs:List Int)(B:OA)(c:Bool),((bs.foldl (λp b=>((p.1.AK now b.toNat).1,p.2||(p.1.AK now b.toNat).2)) (B,c)).2=c/\(bs.foldl (λp b=>((p.1.AK now b.toNat).1,p.2||(p.1.AK now b.toNat).2)) (B,c)).1=B) \/
  ((bs.foldl (λp b=>((p.1.AK now b.toNat).1,p.2||(p.1.AK now b.toNat).2)) (B,c)).2=true/\∃b∈bs,¬oLe ((bs.foldl (λp b=>((p.1.AK now b.toNat).1,p.2||(p.1.AK now b.toNat).2)) (B,c)).1.pr.getD b.toNat none) (B.pr.getD b.toNat none))
 | [],B,c=>.inl ⟨rfl,rfl⟩
 | b::bs,B,c=>by
  rw[List.foldl_cons]
  have Y:=sK now B b
  have hb:((B.AK now b.toNat).2=false/\(B.AK now b.toNat).1=B)\/((B.AK now b.toNat).2=true/\¬oLe ((B.AK now b.toNat).1.pr.getD b.toNat none) (B.pr.getD b.toNat none)):=by
   unfold OA.AK
   split
   ·exact .inl ⟨rfl,rfl⟩
   ·rename_i h
    refine .inr ⟨rfl,?_⟩
    show ¬oLe ((B.pr.set _ _).getD _ none) _
    unfold OA.stays at h
    cases e:B.pr.getD b.toNat none with
    | none=>rw[e]at h;exact absurd rfl h
    | some p =>
     have hl:b.toNat<B.pr.length:=by
      rw[zA]at e
      cases e2:B.pr[b.toNat]? with
      | none=>rw[e2]at e;cases e
      | some _=>exact(zC.mp e2).1
     rw[e]at h
     rw[ce,if_pos ⟨rfl,hl⟩]
     cases e3:B.new now b.toNat with
     | none=>exact λz=>z
     | some n =>
      rw[e3]at h
      intro z
      exact h (decide_eq_true (show n<=p from z))
  rcases lL now bs (B.AK now b.toNat).1 (c||(B.AK now b.toNat).2)with ⟨h1,h2⟩|⟨h1,b',G,h2⟩
  ·rcases hb with ⟨O,U⟩|⟨O,U⟩
   ·exact .inl ⟨by rw[h1,O,Bool.or_false],by rw[h2,U]⟩
   ·refine .inr ⟨by rw[h1,O,Bool.or_true],b,zH,?_⟩
    rw[h2]
    exact U
  ·refine .inr ⟨h1,b',zL _ G,λz=>h2 (bP z (Y.le _))⟩
inductive O6(W:Wk)(A C:OA)(s:Nat):Str->Prop
 | Rx (t:fc) (ge:C.ge=A.ge.set s (A.ge.getD s []++[t])) (ck:A.zr s (W.wy s)=some t.1):O6 W A C s "took"
 | raised (ge:C.ge=A.ge) (b:Nat) (bt:fc) (hb:W.be[b]?=some bt) (hs:bt.1=(s:Int)) (ne:C.pr.getD b none≠A.pr.getD b none):O6 W A C s "raised"
 | y2 (e:C=A):O6 W A C s "none"
theorem sL{m:Nat}(I:Inv W A)(ao:AG m A)(hs:s<W.st.length):O6 W A (A.step s).1 s (A.step s).2:=by
 walk_at "e"
 have C2:=(I.sp s p hp).1
 have B:=(I.sp s p hp).2
 unfold OA.step OA.CI
 rw[ep]
 dsimp only
 cases e:A.CA s p with
 | none =>
  have ea:A.AS s p=A:=by unfold OA.AS;rw[e]
  rw[ea,if_neg (by decide)]
  rcases lL (A.zr s p.ws) p.bs A false with ⟨h1,h2⟩|⟨h1,b,hb,h2⟩
  ·have e1:(A.B2 s p).2=false:=h1
   have e2:(A.B2 s p).1=A:=h2
   rw[e1,e2,if_neg (by decide)]
   exact .y2 rfl
  ·have e1:(A.B2 s p).2=true:=h1
   rw[e1,if_pos rfl]
   rw[B]at hb
   obtain⟨k,bt,G,O,g3⟩:=Wk.AZ hb
   have ek:b.toNat=k:=by lia
   rw[ek]at h2
   refine .raised (cz A s p).ge k bt G O λz=>h2 ?_
   have U:((A.B2 s p).1).pr.getD k none=A.pr.getD k none:=z
   have z2:(p.bs.foldl (λq b=>((q.1.AK (A.zr s p.ws) b.toNat).1,q.2||(q.1.AK (A.zr s p.ws) b.toNat).2)) (A,false)).1.pr.getD k none=A.pr.getD k none:=U
   rw[z2]
   exact cA _
 | some t =>
  walk_at "Q"
  rw[ea,if_pos (show(some t).isSome=true from rfl)]
  walk_at "o"
  refine .Rx t ?_ (by rw[←C2];exact T.zr)
  rw[(cz (A.take s p t) s p).ge]
  exact(cI A s p t).2.2.2
theorem rN{m:Nat}(ok:W.Ok)(I:Inv W A)(ao:AG m A)(O:Ord W A)(hs:s<W.st.length):Ord W (A.step s).1:=by
 have mono:∀(j:Nat)(w:Int),(w=-1\/0<=w)->oLe (A.e j w) ((A.step s).1.e j w):=by
  walk_at "e"
  intro j w hw
  unfold OA.step OA.CI
  rw[ep]
  refine bP (b:=(A.AS s p).e j w) ?_ ((cz (A.AS s p) s p).mono j w)
  cases e:A.CA s p with
  | none =>
   have ea:A.AS s p=A:=by unfold OA.AS;rw[e]
   rw[ea];exact cA _
  | some t =>
   walk_at "Q"
   rw[ea]
   exact gc ok I hp (ke ao (λw hw=>by rw[(I.sp s p hp).1]at hw;exact Wk.BI hw) e) hw
 have up:∀(j:Nat)(t:fc),(∀w∈W.wy j,∀x,A.e j w=some x->FA (sF t) (x,w))->∀w∈W.wy j,∀x,(A.step s).1.e j w=some x->FA (sF t) (x,w):=λj t h w hw x hx=>by
  have m1:=mono j w (Wk.BI hw)
  rw[hx]at m1
  cases e:A.e j w with
  | none=>rw[e]at m1;exact m1.elim
  | some y =>
   rw[e]at m1
   have:=h w hw y e
   rw[cX]at this ⊢
   have U:y<=x:=m1
   dsimp only at this ⊢
   lia
 have Y:=sL I ao hs
 have same:(A.step s).1.ge=A.ge->Ord W (A.step s).1:=λe=>⟨by rw[e];exact O.lg,by rw[e];exact O.so,by rw[e];exact O.wy,by rw[e];exact λj t ht=>up j t (O.bd j t ht)⟩
 walk_at "e"
 have C2:=(I.sp s p hp).1
 cases e:A.CA s p with
 | none =>
  have ea:A.AS s p=A:=by unfold OA.AS;rw[e]
  refine same ?_
  unfold OA.step OA.CI
  rw[ep,ea]
  exact(cz A s p).ge
 | some t =>
  walk_at "Q"
  walk_at "o"
  have B:(A.step s).1.ge=A.ge.set s (A.ge.getD s []++[t]):=by
   unfold OA.step OA.CI
   rw[ep,ea]
   exact(cz (A.take s p t) s p).ge.trans (cI A s p t).2.2.2
  have tb:∀w∈W.wy s,∀x,A.e s w=some x->FA (sF t) (x,w):=by
   rw[←C2]
   exact T.bd D9 λw hw u hu=>tq ao (D9 w hw) hu
  have te:A.e s t.2.1=some t.1:=by
   unfold OA.e
   cases ev:n7 A.de A.re s t.2.1 with
   | nil=>have z:=T.hd;rw[ev]at z;cases z
   | cons u r=>have z:=T.hd;rw[ev]at z;cases z;rfl
  have G:t.2.1∈W.wy s:=by rw[←C2];exact T.w
  have at_:∀j,(A.step s).1.ge.getD j []=if s=j then A.ge.getD j []++[t]else A.ge.getD j []:=λj=>by
   rw[B,ce]
   by_cases h:s=j
   ·subst h;rw[if_pos ⟨rfl,by rw[O.lg];exact hs⟩,if_pos rfl]
   ·rw[if_neg (λz=>h z.1),if_neg h]
  refine⟨by rw[B,yG];exact O.lg,λj=>?_,λj u hu=>?_,λj u hu=>?_⟩
  ·rw[at_]
   split
   ·rename_i h
    subst h
    refine qA.mpr ⟨O.so s,jW _ _,λa ha b hb=>?_⟩
    rw[zF.mp hb]
    exact O.bd s a ha t.2.1 G t.1 te
   ·exact O.so j
  ·rw[at_]at hu
   split at hu
   ·rename_i h
    subst h
    rcases zW.mp hu with z|z
    ·exact O.wy s u z
    ·rw[zF.mp z];exact G
   ·exact O.wy j u hu
  ·refine up j u λw hw x hx=>?_
   rw[at_]at hu
   split at hu
   ·rename_i h
    subst h
    rcases zW.mp hu with z|z
    ·exact O.bd s u z w hw x hx
    ·rw[zF.mp z];exact tb w hw x hx
   ·exact O.bd j u hu w hw x hx
theorem ul(W:Wk):Ord W W.oa:=by
 have e:∀s,W.oa.ge.getD s []=[]:=λs=>by
  show(W.st.map λ_=>([]:List fc)).getD s []=[]
  rw[zA,zG]
  cases W.st[s]? <;>rfl
 exact⟨zB _,λs=>by rw[e];exact .nil,λs t ht=>by rw[e]at ht;exact absurd ht zI,λs t ht=>by rw[e]at ht;exact absurd ht zI⟩
theorem ng(W:Wk)(s:Int):(W.Gv s).Pairwise λa b=>a.2.1<=b.2.1:=by
 unfold Wk.Gv
 refine kT.mpr ⟨λt _=>?_,?_⟩
 ·refine List.pairwise_iff_forall_sublist.mpr fun {a b} h=>?_
  have ha:=(zR.mp (h.subset zH)).2
  have hb:=(zR.mp (h.subset (zL _ zH))).2
  rw[yL,beq_iff_eq,beq_iff_eq]at ha hb
  lia
 ·refine List.Pairwise.imp_of_mem (fun {i j} _ _ B a ha b hb=>?_) jY
  have ha:=(zR.mp ha).2
  have hb:=(zR.mp hb).2
  rw[yL,beq_iff_eq,beq_iff_eq]at ha hb
  lia
theorem pT(W:Wk)(s:Int):(W.de s).Pairwise λa b=>a.1<=b.1:=by
 unfold Wk.de Wk.dr
 rw[qD]
 exact List.pairwise_map.mpr (ng W s)
theorem cJ(l:List α)(j:Nat):(l.map λ_=>([]:List fc)).getD j []=[]:=by
 rw[zA,zG]
 cases l[j]? <;>rfl
theorem rG(ok:W.Ok)(s:Int):∀t∈W.de s,0<=t.1:=λt ht=>by
 unfold Wk.de Wk.dr at ht
 rw[qD]at ht
 obtain⟨f,hf,rfl⟩:=yF.mp ht
 have:=(ok.EZ f (Wk.E3 hf).1).2.2.1
 exact this
theorem nr(j:Nat):W.Fp.getD j []=[]\/W.Fp.getD j []=W.de (j:Int):=by
 unfold Wk.Fp
 rw[zA,zG]
 cases h:(List.range W.st.length)[j]? with
 | none=>exact .inl rfl
 | some k =>
  have:=zC.mp h
  obtain⟨_,e⟩:=this
  rw[j9]at e
  subst e
  exact .inr rfl
theorem gL(ok:W.Ok):Inv W W.oa:=by
 refine⟨by show((List.range _).map _).length=_;rw[zB,qL],λs p hp=>?_,rfl,zB _,zB _,by show((List.range _).map _).length=_;rw[zB,qL],λs=>?_,λb=>?_,λb t ht=>?_,λb bt hb=>?_⟩
 ·have:((List.range W.st.length).map W.sp)[s]?=some p:=hp
  rw[zG]at this
  obtain⟨k,hk,e⟩:=y6.mp this
  have e2:=(zC.mp hk).2
  rw[j9]at e2
  rw[←e,←e2]
  exact⟨rfl,rfl⟩
 ·show(W.Fp.getD s []).Pairwise _
  rcases nr (W:=W) s with e|e
  ·rw[e];exact .nil
  ·rw[e];exact pT W s
 ·show((W.be.map λ_=>([]:List fc)).getD b []).Pairwise _
  rw[cJ];exact .nil
 ·replace ht:t∈(W.be.map λ_=>([]:List fc)).getD b []:=ht
  rw[cJ]at ht
  exact absurd ht zI
 ·have e1:W.oa.pr.getD b none=some bt.2.2:=by
   show(W.be.map λt=>some t.2.2).getD b none=_
   rw[zA,zG,hb];rfl
  rw[e1]
  have key:oLe (some 0) (W.oa.zr bt.1.toNat (W.wy bt.1)):=by
   refine nv (f:=W.oa.e bt.1.toNat) λw hw=>?_
   unfold OA.e
   cases ev:n7 W.oa.de W.oa.re bt.1.toNat w with
   | cons u r =>
    show(0:Int)<=u.1
    unfold n7 at ev
    split at ev
    ·replace ev:W.Fp.getD bt.1.toNat []=u::r:=ev
     rcases nr (W:=W) bt.1.toNat with e|e
     ·rw[e]at ev;cases ev
     ·rw[e]at ev
      exact rG ok _ u (by rw[ev];exact zH)
    ·replace ev:(W.be.map λ_=>([]:List fc)).getD w.toNat []=u::r:=ev
     rw[cJ]at ev
     cases ev
   | nil =>
    show oLe (some 0) (if w=-1 then none else W.oa.pr.getD w.toNat none)
    split
    ·exact cg _
    ·show oLe (some 0) ((W.be.map λt=>some t.2.2).getD w.toNat none)
     rw[zA,zG]
     cases h:W.be[w.toNat]? with
     | none=>exact cg _
     | some c =>
      have:=(ok.EK c (zE h)).2.2.2.2.1
      show(0:Int)<=c.2.2
      lia
  have:=fM (d:=bt.2.2) key
  have e0:CB (some 0) bt.2.2=some bt.2.2:=by show some (0+bt.2.2)=_;rw[qW]
  rw[e0]at this
  exact this
theorem om(f:Nat->Nat->Bool):∀n,argBest f n<=n
 | 0=>zJ _
 | n+1=>by
  have:=om f n
  simp only [argBest]
  split
  ·exact zJ _
  ·lia
theorem sf{ws:List Int}(h:A.AN s ws≠[]):∃t,A.GB s ws=some t:=by
 have l:0<(A.AN s ws).length:=q9.mpr h
 have b:=om (λi j=>AI (((A.AN s ws).map sF).getD i (0,0)) (((A.AN s ws).map sF).getD j (0,0))) (((A.AN s ws).map sF).length-1)
 have k:Ad ((A.AN s ws).map sF)<(A.AN s ws).length:=by
  unfold Ad
  rw[zB]at b ⊢
  lia
 exact⟨(A.AN s ws)[Ad ((A.AN s ws).map sF)]'k,zD k⟩
theorem uo{ws:List Int}(O:A.GB s ws=some t){w':Int}(B:w'∈ws){u:fc}(hu:(n7 A.de A.re s w').head?=some u):AI (sF u) (sF t)=false:=by
 have G:u∈A.AN s ws:=yZ.mpr ⟨w',B,hu⟩
 obtain⟨j,hj⟩:=yS G
 have U:=(zC.mp hj).1
 have b:=eZ ((A.AN s ws).map sF) (((A.AN s ws).map sF).length-1) j (by rw[zB];lia)
 have e1:((A.AN s ws).map sF).getD j (0,0)=sF u:=by rw[zA,zG,hj];rfl
 have e2:((A.AN s ws).map sF).getD (Ad ((A.AN s ws).map sF)) (0,0)=sF t:=by
  rw[zA,zG]
  unfold OA.GB at O
  rw[O];rfl
 unfold Ad at e2
 rw[e1,e2]at b
 exact b
def OA.go(A:OA)(ts:List Nat):OA:=ts.foldl (λA s=>(A.step s).1) A
theorem CZ.CI{m:Nat}{o:OR}(f:CZ W m H o A)(hr:o.fi[s]?=some r):A.CI s r.pu=A.step s:=by
 unfold OA.step
 rw[←f.is.s,zA,zG,hr]
 rfl
theorem CZ.Aw{cs:Cs}{m:Nat}{o o':OR}(f:CZ W m H o A)(hr:o.fi[s]?=some r)(st:Uh cs C Pu M m H H' o o' (A.CI s r.pu).1):CZ W (m+1) H' o' (A.step s).1:=by
 rw[f.CI hr]at st
 exact⟨st.ok,st.is,st.so,st.ao,by rw[st.l];exact f.ns,by rw[st.d];exact f.nb⟩
def IC(c:Option Int)(t:Int):Bool:=match c with
 | none=>false
 | some x=>decide (x<=t)
def OA.DD(A:OA)(n:Nat)(t:Int):List Nat:=(List.range n).filter λs=>IC (A.zr s (A.fi.getD s Ao).ws) t
theorem rz(A:OA)(i:Nat)(t:Int):A.DD (i+1) t=A.DD i t++if IC (A.zr i (A.fi.getD i Ao).ws) t=true then [i]else []:=by
 unfold OA.DD
 rw[qM,zM]
 congr 1
 by_cases h:IC (A.zr i (A.fi.getD i Ao).ws) t=true
 ·rw[if_pos h,zZ (p:=λs=>IC (A.zr s (A.fi.getD s Ao).ws) t) h];rfl
 ·rw[if_neg h,yB (p:=λs=>IC (A.zr s (A.fi.getD s Ao).ws) t) h];rfl
theorem uh(A:OA)(n:Nat)(t:Int):(A.DD n t).length<=n:=by
 have:=jH (λs=>IC (A.zr s (A.fi.getD s Ao).ws) t) (List.range n)
 rw[qL]at this
 exact this
theorem Bz.at{o:OR}(h:Bz H o A)(hr:o.fi[i]?=some r):(A.fi.getD i Ao).ws=r.ws:=by
 rw[←h.s,zA,zG,hr]
 rfl
def GQ(ts:List Nat):List V:=ts.map λt:Nat=>V.int (t:Int)
inductive K8(cs:Cs)(C:Addr)(vs:List V)(H:Hp)(Q:VK)(wc:XK):Prop where
 | mk (o:OR) (M:List (List Cell)) (s:Nat) (r:SR) (A:OA) (t:Int) (ui:vs=[.ref o.x,.int s,.int t]) (uj:Hc H (zi cs C o++M)) (zf:AJ o) (zq:o.fi[s]?=some r) (Ai:r.ws.length<=100) (AA:Bz H o A) (Bl:∀H',c0 H H'->Q (.bl (IC (A.zr s r.ws) t)) H'):K8 cs C vs H Q wc
inductive GR(cs:Cs)(C:Addr)(vs:List V)(H:Hp)(Q:VK)(wc:XK):Prop where
 | mk (o:OR) (M:List (List Cell)) (w:Addr) (W:Wk) (A:OA) (t:Int) (ui:vs=[.ref o.x,.ref w,.int t]) (uj:Hc H (zi cs C o++M)) (zf:AJ o) (zq:Bz H o A) (Ai:(∀r∈o.fi,r.ws.length<=100)) (AA:Ag H w W) (Bl:W.st.length=o.fi.length) (C7:∀(l:Addr)(H':Hp),H l=none->c0 H H'->H' l=some (.lst (GQ (A.DD W.st.length t)))->Q (.ref l) H'):GR cs C vs H Q wc
section
variable{cs:Cs}
theorem yh{f:Addr}(F:Ac K "is_behind" "is_behind" (top 36) f fd)(B:MethAt P w K mg base 3 C "clock" ["self","station"] (E4 cs C)):mu P w K mg base Aa 4 f fd ["own","station","until"] (K8 cs C):=by
 exists ["own","station","until","now"]
 obtain⟨o,M,s,r,A,t,rfl,hc,ok,G,l1,is,q⟩:=h
 refine⟨_,((3>>=(B<$>{0}>>({1}>>a_)))<|>(~~~(je (cF dS {3} bS (bq _)) (kj (cF gn {3} {2} (bq _)))))),?_⟩
 refine⟨_,rfl,o.x,o.dx,o.zg,rfl,hc.get 0 0 rfl rfl,Ed (by decide +kernel),_,rfl,o,M,s,r,A.de,A.re,A.ge,rfl,hc,ok,G,l1,is.e,λH1 s1=>?_⟩
 rw[is.zr]
 replace q:=q H1 s1
 revert q
 cases A.zr s r.ws with
 | none =>
  intro q
  refine⟨_,rfl,rfl,_,rfl,?_⟩
  exact nj q
 | some c =>
  intro q
  refine⟨_,rfl,rfl,_,rfl,?_⟩
  exact vr ⟨_,rfl,_,rfl,_,_,rfl,rfl,q⟩
theorem wU{f:Addr}(F:Ac K "behind" "behind" (top 37) f fd)(T:Txt K mg)(aC:FnAt P w K mg base 4 "is_behind" ["own","station","until"] (K8 cs C)):mu P w K mg base Aa 5 f fd ["own","works","until"] (GR cs C):=by
 exists ["own","works","until"]
 obtain⟨o,M,w,W,A,t,rfl,hc,ok,is,O,hw,eS,q⟩:=h
 obtain⟨sa,ba,fa,xs,ys,zs,h1,h2⟩:=hw.ex
 have s8:=ok.s8
 have lx:=h2.ps.length
 refine⟨_,(~~~(["station"]^^^["own","until"]^^^[0,2]^^^(bO rfl T.zt (‹({1}<*>bh)›>>a_))^^^(cB (dk (aC<&>({1}>>{0}>>{2}>>a_))))^^^{0})),?_⟩
 refine⟨_,rfl,(h1<<<0>>>⟨sa,_,rfl,.inl (eH.of h2.hs),_,rfl,by rw[BL];lia,by rw[BL];lia,λD nD=>?_⟩)⟩
 refine cy (lo:=0) (n:=((xs.length:Nat):Int).toNat) (λi H8=>c0 H H8/\H8 D=some (.lst (GQ (A.DD i t)))) ⟨c0.new nD,bg⟩ ?_ ?_
 ·rintro i H8 m Wf hi ⟨B,U⟩ nx
  have ez:(0:Int)+(i:Int)=(i:Int):=qW _
  rw[ez]
  obtain⟨r,G⟩:∃r,o.fi[i]?=some r:=⟨o.fi[i]'(by lia),zD _⟩
  have er:=is.at G
  refine⟨_,rfl,_,rfl,_,rfl,o,M,i,r,A,t,rfl,hc.same B,ok,G,O r (zE G),is.tk (Tk.of B),λH9 Y=>⟨_,rfl,?_⟩⟩
  have bs:=rz A i t
  rw[er]at bs
  have bl:=uh A i t
  cases hb:IC (A.zr i r.ws) t with
  | true =>
   rw[hb]at bs
   refine vr ⟨_,rfl,_,Y _ _ U,bo (by unfold GQ;rw[zB];lia),nx _ ⟨(B.trans Y).upd nD,?_⟩⟩
   rw[bg,bs,if_pos rfl]
   unfold GQ
   rw[zK]
   rfl
  | false =>
   rw[hb]at bs
   refine nj (nx _ ⟨B.trans Y,?_⟩)
   rw[bs,if_neg (λz=>nomatch z),zQ]
   exact Y _ _ U
 ·rintro H8 ⟨B,U⟩
  rw[zV,lx]at U
  exact q D H8 nD B U
end
theorem nO{t:Int}:(A.DD n t).isEmpty=true↔∀s<n,IC (A.zr s (A.fi.getD s Ao).ws) t=false:=by
 unfold OA.DD
 rw[List.isEmpty_iff,yJ]
 refine⟨λh s hs=>?_,λh s hs=>?_⟩
 ·have:=h s (y8.mpr hs)
  simpa using this
 ·rw[h s (y8.mp hs)]
  exact λz=>nomatch z
theorem Inv.ws(I:Inv W A)(hs:s<W.st.length):(A.fi.getD s Ao).ws=W.wy s:=by
 obtain⟨p,hp⟩:∃p,A.fi[s]?=some p:=⟨A.fi[s]'(by rw[I.st];exact hs),zD _⟩
 rw[zA,hp]
 exact(I.sp s p hp).1
def A7(p:fc->Bool)(rows:List (List fc)):Nat:=(rows.map λr=>r.countP p).sum
def OA.wt(A:OA)(p:fc->Bool):Nat:=A7 p A.de+A7 p A.re
theorem gz(p:fc->Bool):∀(rows:List (List fc))(i:Nat)(r:List fc),i<rows.length->A7 p (rows.set i r)+(rows.getD i []).countP p=A7 p rows+r.countP p
 | x::rows,0,r,_=>by
  unfold A7
  simp only [List.set_cons_zero,yM,qB,List.getD_cons_zero]
  lia
 | x::rows,i+1,r,h=>by
  have:=gz p rows i r (by simpa using h)
  unfold A7 at this ⊢
  simp only [List.set_cons_succ,yM,qB,List.getD_cons_succ]
  lia
theorem lK{p:fc->Bool}:∀{rows:List (List fc)},(∀i,∀t∈rows.getD i [],p t=false)->A7 p rows=0
 | [],_=>rfl
 | x::rows,h=>by
  have h0:x.countP p=0:=List.countP_eq_zero.mpr λt ht=>by
   have:=h 0 t ht
   rw[this]
   exact λz=>nomatch z
  have:=lK (p:=p) (rows:=rows) λi t ht=>h (i+1) t ht
  unfold A7 at this ⊢
  rw[yM,qB,h0,this]
theorem oO{m:Nat}(I:Inv W A)(ao:AG m A)(hs:s<W.st.length)(q:fc->Bool):((A.step s).1.de=A.de/\(A.step s).1.re=A.re/\∀p,A.fi[s]?=some p->A.CA s p=none)\/∃(t:fc)(k:Nat),JC A s (W.wy s) t/\(A.step s).1.wt q+(if q t=true then 1 else 0)=A.wt q+k/\k<=1/\(k=1->∃(e:fc)(b:Nat)(bt:fc),W.be[b]?=some bt/\q e=true/\∃g,A.pr.getD b none=some g/\g<=e.1):=by
 walk_at "e"
 have C2:=(I.sp s p hp).1
 have O:=(I.sp s p hp).2
 cases e:A.CA s p with
 | none =>
  have ea:(A.step s).1=(A.B2 s p).1:=by
   have ea:A.AS s p=A:=by unfold OA.AS;rw[e]
   unfold OA.step OA.CI
   rw[ep,ea]
  have R:=cz A s p
  rw[ea]
  exact .inl ⟨R.de,R.re,λp' B=>by rw[hp]at B;cases B;exact e⟩
 | some t =>
  walk_at "o"
  have t0:=D9 _ T.w
  have tw:t.2.1∈W.wy s:=by rw[←C2];exact T.w
  have R:=cz (A.take s p t) s p
  have ec:(A.step s).1=((A.take s p t).B2 s p).1:=by
   walk_at "Q"
   unfold OA.step OA.CI
   rw[ep,ea]
  have hw:(A.step s).1.wt q=(A.take s p t).wt q:=by
   unfold OA.wt
   rw[ec,R.de,R.re]
  rw[hw]
  have hd:∃r,n7 A.de A.re s t.2.1=t::r:=by
   have z:=T.hd
   cases ev:n7 A.de A.re s t.2.1 with
   | nil=>rw[ev]at z;cases z
   | cons u r=>rw[ev]at z;cases z;exact⟨r,rfl⟩
  obtain⟨r,er⟩:=hd
  have pop:(A.pop s t.2.1).wt q+(if q t=true then 1 else 0)=A.wt q:=by
   unfold n7 at er
   unfold OA.pop OA.wt
   by_cases U:t.2.1=-1
   ·rw[if_pos U]at er ⊢
    have:=gz q A.de s (A.de.getD s []).tail (by rw[I.ld];exact hs)
    rw[er,j3]at this
    show A7 q (A.de.set s (A.de.getD s []).tail)+A7 q A.re+_=_
    rw[er]
    rw[List.tail_cons]at this ⊢
    split <;>split at this <;>lia
   ·rw[if_neg U]at er ⊢
    obtain⟨b,bt,hb,eb,_⟩:=(Wk.A0 tw).resolve_left U
    have Y:=(zC.mp hb).1
    have:=gz q A.re t.2.1.toNat (A.re.getD t.2.1.toNat []).tail (by rw[I.lr];lia)
    rw[er,j3]at this
    show A7 q A.de+A7 q (A.re.set t.2.1.toNat (A.re.getD t.2.1.toNat []).tail)+_=_
    rw[er]
    rw[List.tail_cons]at this ⊢
    split <;>split at this <;>lia
  rw[C2]at T
  have ZI:(A.pop s t.2.1).re.length=W.be.length:=by rw[←I.lr];unfold OA.pop;split <;>simp
  have XJ:(A.pop s t.2.1).dl=W.ov:=by rw[←I.dl];unfold OA.pop;split <;>rfl
  cases eo:p.out (p.ws.idxOf t.2.1) t.2.2 with
  | none =>
   refine .inr ⟨t,0,T,?_,yH _,λz=>nomatch z⟩
   have:(A.take s p t).wt q=(A.pop s t.2.1).wt q:=by
    unfold OA.take
    rw[eo]
    rfl
   rw[this]
   exact pop
  | some o =>
   have Cb:o.1∈W.lv s:=by rw[←O];exact SP.Ah (y:=o.2) eo
   obtain⟨b,bt,G,g2,g3⟩:=Wk.AZ Cb
   have Y:=(zC.mp G).1
   have eb:o.1.toNat=b:=by lia
   refine .inr ⟨t,if q (t.1+W.ov.getD b 0,o.1,o.2)=true then 1 else 0,T,?_,(by split <;>lia),λz=>?_⟩
   ·have put:(A.take s p t).wt q=(A.pop s t.2.1).wt q+(if q (t.1+W.ov.getD b 0,o.1,o.2)=true then 1 else 0):=by
     have e1:(A.take s p t).de=(A.pop s t.2.1).de:=by unfold OA.take;rw[(fj _ _ _).1];rfl
     have e2:(A.take s p t).re=(A.pop s t.2.1).re.set b ((A.pop s t.2.1).re.getD b []++[(t.1+W.ov.getD b 0,o.1,o.2)]):=by
      unfold OA.take
      rw[eo]
      show(A.pop s t.2.1).re.set o.1.toNat ((A.pop s t.2.1).re.getD o.1.toNat []++[(t.1+(A.pop s t.2.1).dl.getD o.1.toNat 0,o.1,o.2)])=_
      rw[eb,XJ]
     unfold OA.wt
     rw[e1,e2]
     have:=gz q (A.pop s t.2.1).re b ((A.pop s t.2.1).re.getD b []++[(t.1+W.ov.getD b 0,o.1,o.2)]) (by lia)
     rw[List.countP_append,List.countP_singleton]at this
     lia
    rw[put]
    lia
   ·split at z
    ·rename_i hq
     refine⟨_,b,bt,G,hq,?_⟩
     have pc:=I.pc b bt G
     rw[g2,zV,T.zr]at pc
     rw[Wk.B4 G]
     cases eg:A.pr.getD b none with
     | none=>rw[eg]at pc;exact pc.elim
     | some g=>rw[eg]at pc;exact⟨g,rfl,pc⟩
    ·cases z
theorem gA(I:Inv W A)(hs:s<W.st.length):∃p,A.fi[s]?=some p/\p.ws=W.wy s/\p.bs=W.lv s/\((A.CA s p=none/\(A.step s).1=(A.B2 s p).1)\/∃t,A.CA s p=some t/\(A.step s).1=((A.take s p t).B2 s p).1):=by
 walk_at "e"
 refine⟨p,hp,(I.sp s p hp).1,(I.sp s p hp).2,?_⟩
 cases e:A.CA s p with
 | none =>
  refine .inl ⟨rfl,?_⟩
  have ea:A.AS s p=A:=by unfold OA.AS;rw[e]
  unfold OA.step OA.CI
  rw[ep,ea]
 | some t =>
  refine .inr ⟨t,rfl,?_⟩
  walk_at "Q"
  unfold OA.step OA.CI
  rw[ep,ea]
theorem oJ{m:Nat}(I:Inv W A)(ao:AG m A)(hs:s<W.st.length):AG (m+1) (A.step s).1:=by
 have G:∀{B C:OA},AG (m+1) B->C.de=B.de->C.re=B.re->C.ge=B.ge->AG (m+1) C:=fun {B C} h e1 e2 e3=>⟨by rw[e1];exact h.d,by rw[e2];exact h.r,by rw[e2];exact h.lr,by rw[e3];exact h.lg⟩
 obtain⟨p,hp,e1,e2,h⟩:=gA I hs
 rcases h with ⟨_,e⟩|⟨t,_,e⟩
 ·rw[e]
  have R:=cz A s p
  exact G (ao.le (qQ m)) R.de R.re R.ge
 ·rw[e]
  have R:=cz (A.take s p t) s p
  refine G (ao.take s p t λb hb=>?_) R.de R.re R.ge
  rw[e2]at hb
  obtain⟨j,_,_,_,h3⟩:=Wk.AZ hb
  lia
def Gt(W:Wk)(A:OA)(c:Int)(k:Nat):Prop:=∀(b:Nat) bt,W.be[b]?=some bt->bt.1<(k:Int)->∀g,A.pr.getD b none=some g->c<g
def E5(W:Wk)(A:OA)(c:Int):Prop:=∀s:Nat,s<W.st.length->∀x,A.zr s (W.wy s)=some x->c<=x
def LI(W:Wk)(A:OA)(c:Int)(j:Nat):Prop:=∀w∈W.wy j,∀t∈n7 A.de A.re j w,c<t.1
section
variable{m:Nat}{c:Int}
theorem rW(ok:W.Ok)(I:Inv W A)(ao:AG m A)(hs:s<W.st.length)(h:E5 W A c):E5 W (A.step s).1 c:=λj hj x hx=>by
 have:=(dO ok I ao hs).zr j
 rw[hx]at this
 cases e:A.zr j (W.wy j) with
 | none=>rw[e]at this;exact this.elim
 | some y=>rw[e]at this;exact vM (h j hj y e) this
theorem oF(ok:W.Ok)(I:Inv W A)(ao:AG m A)(hs:s<W.st.length){k:Nat}(h:Gt W A c k):Gt W (A.step s).1 c k:=λb bt hb hk g hg=>by
 have:=((dO ok I ao hs).DV b bt hb).le
 rw[hg]at this
 cases e:A.pr.getD b none with
 | none=>rw[e]at this;exact this.elim
 | some y=>rw[e]at this;exact jE (h b bt hb hk y e) this
theorem tL(ok:W.Ok)(I:Inv W A)(ao:AG m A)(hs:s<W.st.length)(h:E5 W A c)(g:Gt W A c s):Gt W (A.step s).1 c (s+1):=λb bt hb hk x hx=>by
 by_cases z:bt.1<(s:Int)
 ·exact oF ok I ao hs g b bt hb z x hx
 ·have es:bt.1=(s:Int):=by lia
  walk_at "L"
  obtain⟨p,hp,e1,e2,hh⟩:=gA I hs
  have mem:((b:Nat):Int)∈p.bs:=by
   rw[e2]
   have:=j_ (λt:fc=>t.1==(s:Int)) W.be 0 hb (by rw[es];exact beq_self_eq_true _)
   rw[jD]at this
   exact this
  have O:=(zC.mp hb).1
  have fin:∀B:OA,(A.step s).1=(B.B2 s p).1->B.pr.length=W.be.length->B.dl=W.ov->oLe (A.zr s (W.wy s)) (B.zr s (W.wy s))->c<x:=λB e lp U le=>by
   have R:=cz B s p
   rw[←e]at R
   have G:=R.JD b ⟨(b:Int),mem,zV b⟩ (by rw[lp];exact O)
   rw[hx,e1]at G
   unfold OA.new at G
   rw[U,Wk.B4 hb]at G
   cases ec:B.zr s (W.wy s) with
   | none=>rw[ec]at G;exact G.elim
   | some n =>
    rw[ec]at G le
    have G:n+bt.2.2<=x:=G
    cases ea:A.zr s (W.wy s) with
    | none=>rw[ea]at le;exact le.elim
    | some y =>
     rw[ea]at le
     have le:y<=n:=le
     have:=h s hs y ea
     lia
  rcases hh with ⟨_,e⟩|⟨t,Y,e⟩
  ·exact fin A e I.lp I.dl (cA _)
  ·have D9:∀w∈p.ws,w=-1\/0<=w:=λw hw=>by rw[e1]at hw;exact Wk.BI hw
   have T:=ke ao D9 Y
   refine fin _ e (by rw[(cI A s p t).1];exact I.lp) (by rw[(cI A s p t).2.1];exact I.dl) (eV λw hw=>gc ok I hp T (Wk.BI hw))
theorem lV(I:Inv W A)(ao:AG m A)(hs:s<W.st.length)(g:Gt W A c W.st.length)(ok:W.Ok)(h:LI W A c j):LI W (A.step s).1 c j:=λw hw t ht=>by
 obtain⟨p,hp,e1,e2,hh⟩:=gA I hs
 rcases hh with ⟨_,e⟩|⟨u,U,e⟩
 ·have R:=cz A s p
  rw[e,R.de,R.re]at ht
  exact h w hw t ht
 ·have R:=cz (A.take s p u) s p
  rw[e,R.de,R.re]at ht
  have D9:∀w∈p.ws,w=-1\/0<=w:=λw hw=>by rw[e1]at hw;exact Wk.BI hw
  have T:=ke ao D9 U
  have old:=h w hw
  unfold n7 at ht old
  by_cases O:w=-1
  ·rw[if_pos O]at ht old
   rw[gM]at ht
   split at ht
   ·exact old t (jJ ht)
   ·exact old t ht
  ·rw[if_neg O]at ht old
   rw[eB A s p u (D9 _ T.w)]at ht
   rcases zW.mp ht with z|z
   ·split at z
    ·exact old t (jJ z)
    ·exact old t z
   ·cases eo:p.out (p.ws.idxOf u.2.1) u.2.2 with
    | none=>rw[eo]at z;exact absurd z zI
    | some o =>
     rw[eo]at z
     unfold BA at z
     dsimp only at z
     split at z
     ·rename_i y
      have G:o.1∈W.lv s:=by rw[←e2];exact SP.Ah (y:=o.2) eo
      obtain⟨k,bt,B,Y,g3⟩:=Wk.AZ G
      have ek:k=w.toNat:=by lia
      rw[←ek]at z
      have pc:=I.pc k bt B
      rw[Y,zV,←e1,T.zr]at pc
      rw[zF.mp z,I.dl,Wk.B4 B]
      obtain⟨b1,b2,b3,b4,b5,b6⟩:=ok.EK bt (zE B)
      cases eg:A.pr.getD k none with
      | none=>rw[eg]at pc;exact pc.elim
      | some x =>
       rw[eg]at pc
       exact jE (g k bt B (by lia) x eg) pc
     ·exact absurd z zI
theorem oY(I:Inv W A)(j:Nat)(w:Int):(n7 A.de A.re j w).Pairwise λa b=>a.1<=b.1:=by
 unfold n7
 split
 ·exact I.sd j
 ·exact I.sr _
theorem qr(I:Inv W A)(h:∀w∈W.wy j,∀u,(n7 A.de A.re j w).head?=some u->c<u.1):LI W A c j:=λw hw t ht=>by
 have so:=oY I j w
 have hh:=h w hw
 cases e:n7 A.de A.re j w with
 | nil=>rw[e]at ht;exact absurd ht zI
 | cons u r =>
  rw[e]at ht so hh
  have:=hh u rfl
  rcases zO.mp ht with z|z
  ·rw[z];exact this
  ·exact jE this ((yY.mp so).1 t z)
theorem tY(ok:W.Ok)(I:Inv W A)(ao:AG m A)(hs:s<W.st.length)(g:Gt W A c W.st.length):(A.step s).1.wt (λt=>decide (t.1<=c))<A.wt (λt=>decide (t.1<=c))\/((A.step s).1.wt (λt=>decide (t.1<=c))=A.wt (λt=>decide (t.1<=c))/\LI W A c s):=by
 rcases oO I ao hs (λt=>decide (t.1<=c))with ⟨e1,e2,e3⟩|⟨t,k,T,e1,e2,e3⟩
 ·refine .inr ⟨by unfold OA.wt;rw[e1,e2],qr I λw hw u hu=>?_⟩
  refine Int.lt_of_not_ge λle=>?_
  obtain⟨p,hp,h1,h2,_⟩:=gA I hs
  have B:=e3 p hp
  have BR:u∈A.AN s (W.wy s):=yZ.mpr ⟨w,hw,hu⟩
  obtain⟨t,O⟩:=sf (A:=A) (s:=s) (ws:=W.wy s) (λz=>by rw[z]at BR;exact absurd BR zI)
  have U:=uo O hw hu
  have Y:t.1<=c:=by
   have:=mt (b9 (sF u) (sF t)).mpr (by rw[U];exact λz=>nomatch z)
   unfold sF at this
   lia
  have hm:A.may (W.wy s) t=true:=by
   unfold OA.may
   refine List.all_eq_true.mpr λw' G=>?_
   obtain⟨m1,m2⟩:=zR.mp G
   have n1:w' ≠ -1:=by simpa using m2
   obtain⟨j,bt,hb,_,rfl⟩:=(Wk.A0 m1).resolve_left n1
   walk_at "L"
   rw[zV]
   unfold OA.lets
   split
   ·cases eg:A.pr.getD j none with
    | none=>rfl
    | some x =>
     have:=g j bt hb (by lia) x eg
     exact(b9 (t.1,t.2.1) (x,(j:Int))).mpr (.inl (by show t.1<x;lia))
   ·rfl
  unfold OA.CA at B
  rw[h1,O]at B
  dsimp only at B
  rw[if_pos hm]at B
  cases B
 ·have k0:k=0:=by
   refine Classical.byContradiction λz=>?_
   obtain⟨e,b,bt,hb,q,x,hx,le⟩:=e3 (by lia)
   walk_at "L"
   have:=g b bt hb (by lia) x hx
   have:=of_decide_eq_true q
   lia
  by_cases tc:t.1<=c
  ·rw[if_pos (decide_eq_true tc)]at e1
   exact .inl (by lia)
  ·rw[if_neg (λz=>tc (of_decide_eq_true z))]at e1
   refine .inr ⟨by lia,qr I λw hw u hu=>?_⟩
   have:=T.min w hw u hu
   have n:¬(AI (sF u) (sF t)=true):=by rw[this];exact zS
   rw[b9]at n
   unfold sF at n
   lia
theorem rB(I:Inv W A)(ok:W.Ok)(g:Gt W A c W.st.length)(h:∀j:Nat,j<W.st.length->LI W A c j):E5 W A (c+1):=λs hs x hx=>by
 unfold OA.zr at hx
 obtain⟨w,hw,B⟩:=yZ.mp (qY.mp hx).1
 have z:=h s hs w hw
 cases ev:n7 A.de A.re s w with
 | cons u r =>
  rw[ev]at B z
  have:=z u zH
  replace B:some u.1=some x:=B
  cases B
  lia
 | nil =>
  rw[ev]at B
  replace B:(if w=-1 then none else A.pr.getD w.toNat none)=some x:=B
  split at B
  ·cases B
  ·rename_i w1
   obtain⟨j,bt,hb,_,rfl⟩:=(Wk.A0 hw).resolve_left w1
   walk_at "L"
   rw[zV]at B
   have:=g j bt hb (by lia) x B
   lia
end
def OA.Du(A:OA)(k:Nat):OA:=(List.range k).foldl (λB s=>(B.step s).1) A
theorem fx(A:OA)(k:Nat):A.Du (k+1)=((A.Du k).step k).1:=by
 unfold OA.Du
 rw[qM,vJ]
 rfl
structure Rb(W:Wk)(F:Nat)(A:OA):Prop where
 inv:Inv W A
 ao:∃m,AG m A
 wt:A.wt (λ_=>true)<=F
section
variable{c:Int}
theorem uB(ok:W.Ok)(h:Rb W F A)(hs:s<W.st.length):Rb W F (A.step s).1:=by
 obtain⟨m,ao⟩:=h.ao
 refine⟨(dO ok h.inv ao hs).inv,⟨_,oJ h.inv ao hs⟩,?_⟩
 have:=h.wt
 rcases oO h.inv ao hs (λ_=>true)with ⟨e1,e2,_⟩|⟨t,k,_,e1,e2,_⟩
 ·unfold OA.wt at this ⊢
  rw[e1,e2]
  exact this
 ·rw[if_pos rfl]at e1
  lia
theorem eM(ok:W.Ok)(h:Rb W F A):∀k,k<=W.st.length->Rb W F (A.Du k)
 | 0,_=>h
 | k+1,hk=>by rw[fx];exact uB ok (eM ok h k (by lia)) (by lia)
theorem jq(ok:W.Ok)(h:Rb W F A)(cl:E5 W A c):∀k,k<=W.st.length->E5 W (A.Du k) c/\Gt W (A.Du k) c k
 | 0,_=>⟨cl,λb bt hb hk=>by
  have:=(ok.EK bt (zE hb)).1
  exact absurd hk (by lia)⟩
 | k+1,hk=>by
  obtain⟨h1,h2⟩:=jq ok h cl k (by lia)
  have r:=eM ok h k (by lia)
  obtain⟨m,ao⟩:=r.ao
  rw[fx]
  exact⟨rW ok r.inv ao (by lia) h1,tL ok r.inv ao (by lia) h1 h2⟩
theorem mK(ok:W.Ok)(h:Rb W F A)(g:Gt W A c W.st.length):∀k,k<=W.st.length->Gt W (A.Du k) c W.st.length/\((A.Du k).wt (λt=>decide (t.1<=c))<A.wt (λt=>decide (t.1<=c))\/((A.Du k).wt (λt=>decide (t.1<=c))=A.wt (λt=>decide (t.1<=c))/\∀j<k,LI W (A.Du k) c j))
 | 0,_=>⟨g,.inr ⟨rfl,λj z=>absurd z (qT j)⟩⟩
 | k+1,hk=>by
  obtain⟨h1,h2⟩:=mK ok h g k (by lia)
  have r:=eM ok h k (by lia)
  obtain⟨m,ao⟩:=r.ao
  rw[fx]
  have Bp:k<W.st.length:=by lia
  refine⟨oF ok r.inv ao Bp h1,?_⟩
  rcases tY ok r.inv ao Bp h1 with t|⟨t,z⟩
  ·rcases h2 with h2|⟨h2,_⟩
   ·exact .inl (by lia)
   ·exact .inl (by lia)
  ·rcases h2 with h2|⟨h2,h3⟩
   ·exact .inl (by lia)
   ·refine .inr ⟨by lia,λj hj=>?_⟩
    by_cases e:j=k
    ·rw[e];exact lV r.inv ao Bp h1 ok z
    ·exact lV r.inv ao Bp h1 ok (h3 j (by lia))
end
def OA.zT(A:OA)(k:Nat):Nat->OA
 | 0=>A
 | r+1=>(A.zT k r).Du k
theorem ym(A:OA)(q:fc->Bool):A.wt q<=A.wt (λ_=>true):=by
 have h:∀rows:List (List fc),A7 q rows<=A7 (λ_=>true) rows:=λrows=>by
  induction rows with
  | nil=>exact zJ _
  | cons x rows ih =>
   unfold A7 at ih ⊢
   rw[yM,yM,qB,qB]
   have:x.countP q<=x.countP (λ_=>true):=xL λ_ _ _=>rfl
   lia
 unfold OA.wt
 exact Nat.add_le_add (h _) (h _)
section
variable{c:Int}
theorem gB(ok:W.Ok)(h:Rb W F A):∀r,Rb W F (A.zT W.st.length r)
 | 0=>h
 | r+1=>eM ok (gB ok h r) _ (zJ _)
theorem fL(A:OA)(k:Nat)(i:Nat):∀j,A.zT k (i+j)=(A.zT k i).zT k j
 | 0=>rfl
 | j+1=>by
  show(A.zT k (i+j)).Du k=((A.zT k i).zT k j).Du k
  rw[fL A k i j]
theorem lU(ok:W.Ok)(h:Rb W F A)(cl:E5 W A c):∀r,E5 W (A.zT W.st.length r) c
 | 0=>cl
 | r+1=>(jq ok (gB ok h r) (lU ok h cl r) _ (zJ _)).1
theorem wl(ok:W.Ok):∀(k:Nat){A:OA},Rb W F A->Gt W A c W.st.length->A.wt (λt=>decide (t.1<=c))<=k->E5 W (A.zT W.st.length (k+1)) (c+1):=by
 intro k
 induction k with
 | zero =>
  intro A h g le
  obtain⟨h1,h2⟩:=mK ok h g _ (zJ _)
  rcases h2 with h2|⟨_,h2⟩
  ·lia
  ·exact rB (eM ok h _ (zJ _)).inv ok h1 h2
 | succ k ih =>
  intro A h g le
  obtain⟨h1,h2⟩:=mK ok h g _ (zJ _)
  have r:=eM ok h _ (zJ _)
  have e:A.zT W.st.length (k+1+1)=(A.Du W.st.length).zT W.st.length (k+1):=by
   rw[show k+1+1=1+(k+1) by lia,fL]
   rfl
  rw[e]
  rcases h2 with h2|⟨_,h2⟩
  ·exact ih r h1 (by lia)
  ·exact lU ok r (rB r.inv ok h1 h2) _
theorem yz(ok:W.Ok)(h:Rb W F A)(cl:E5 W A c):E5 W (A.zT W.st.length (F+2)) (c+1):=by
 have r:=eM ok h _ (zJ _)
 have g:=(jq ok h cl _ (zJ _)).2
 have e:A.zT W.st.length (F+2)=(A.Du W.st.length).zT W.st.length (F+1):=by
  rw[show F+2=1+(F+1) by lia,fL]
  rfl
 rw[e]
 exact wl ok F r g (yE (ym _ _) r.wt)
theorem qp(ok:W.Ok)(h:Rb W F A)(cl:E5 W A 0):∀n:Nat,E5 W (A.zT W.st.length (n*(F+2))) (n:Int)
 | 0=>by rw[Nat.zero_mul];exact cl
 | n+1=>by
  rw[vR,xN,fL]
  have:=yz ok (gB ok h (n*(F+2))) (qp ok h cl n)
  rw[show((n+1:Nat):Int)=(n:Int)+1 by lia]
  exact this
end
theorem kn{a b c:fc->Bool}(h:∀x,(if a x=true then 1 else 0)+(if b x=true then 1 else 0)<=if c x=true then 1 else 0):∀l:List fc,l.countP a+l.countP b<=l.countP c
 | []=>zJ _
 | x::l=>by
  have h1:=kn h l
  have h2:=h x
  rw[j3,j3,j3]
  lia
theorem ut(W:Wk)(s:Int):(W.Gv s).length<=W.fe.countP λf=>f.1==s:=by
 have key:∀n:Nat,((List.range n).flatMap λ(t:Nat)=>W.fe.filter λf=>f.1==s&&f.2.1==(t:Int)).length<=W.fe.countP λf=>f.1==s&&decide (f.2.1<(n:Int)):=λn=>by
  induction n with
  | zero=>exact yH _
  | succ n ih =>
   rw[qM,qV,zN,jZ,←List.countP_eq_length_filter]
   refine yE (Nat.add_le_add_right ih _) (kn (λx=>?_) _)
   by_cases e:x.1=s
   ·by_cases e1:x.2.1<(n:Int)
    ·simp [e,e1,show ¬x.2.1=(n:Int) by lia,show x.2.1<(n:Int)+1 by lia]
    ·by_cases e2:x.2.1=(n:Int)
     ·simp [e,e2,show(n:Int)<(n:Int)+1 by lia]
     ·simp [e,e1,e2]
   ·simp [e]
 refine yE (key 51) (xL λx _ h=>?_)
 simp only [yL]at h
 exact h.1
theorem ww(W:Wk):W.oa.wt (λ_=>true)<=W.fe.length:=by
 have e1:A7 (λ_=>true) W.oa.re=0:=lK λi t ht=>by
  replace ht:t∈(W.be.map λ_=>([]:List fc)).getD i []:=ht
  rw[cJ]at ht
  exact absurd ht zI
 have key:∀n:Nat,A7 (λ_=>true) ((List.range n).map λ(s:Nat)=>W.de (s:Int))<=W.fe.countP λf=>decide (f.1<(n:Int)):=λn=>by
  induction n with
  | zero=>exact yH _
  | succ n ih =>
   unfold A7 at ih ⊢
   rw[qM,zK,zK,List.sum_append]
   have e:(W.de ((n:Nat):Int)).countP (λ_=>true)<=W.fe.countP λf=>f.1==((n:Nat):Int):=by
    refine yE xM ?_
    unfold Wk.de Wk.dr
    rw[zB,zB]
    exact ut W _
   simp only [yM,jM,qB,List.sum_nil,Nat.add_zero]
   refine yE (Nat.add_le_add ih e) (kn (λx=>?_) _)
   by_cases e1:x.1<(n:Int)
   ·simp [e1,show ¬x.1=(n:Int) by lia,show x.1<(n:Int)+1 by lia]
   ·by_cases e2:x.1=(n:Int)
    ·simp [e2,show(n:Int)<(n:Int)+1 by lia]
    ·simp [e1,e2]
 unfold OA.wt
 rw[e1]
 exact yE (key W.st.length) xM
theorem qh(ok:W.Ok):Rb W 60 W.oa:=⟨gL ok,⟨0,mE W⟩,yE (ww W) ok.DA⟩
theorem uF(ok:W.Ok):E5 W W.oa 0:=λs hs x hx=>by
 unfold OA.zr at hx
 obtain⟨w,hw,B⟩:=yZ.mp (qY.mp hx).1
 cases ev:n7 W.oa.de W.oa.re s w with
 | cons u r =>
  rw[ev]at B
  replace B:some u.1=some x:=B
  cases B
  unfold n7 at ev
  split at ev
  ·replace ev:W.Fp.getD s []=u::r:=ev
   rcases nr (W:=W) s with e|e
   ·rw[e]at ev;cases ev
   ·rw[e]at ev
    exact rG ok _ u (by rw[ev];exact zH)
  ·replace ev:(W.be.map λ_=>([]:List fc)).getD w.toNat []=u::r:=ev
   rw[cJ]at ev
   cases ev
 | nil =>
  rw[ev]at B
  replace B:(if w=-1 then none else W.oa.pr.getD w.toNat none)=some x:=B
  split at B
  ·cases B
  ·replace B:(W.be.map λt=>some t.2.2).getD w.toNat none=some x:=B
   rw[zA,zG]at B
   cases h:W.be[w.toNat]? with
   | none=>rw[h]at B;cases B
   | some c =>
    rw[h]at B
    replace B:some c.2.2=some x:=B
    cases B
    have:=(ok.EK c (zE h)).2.2.2.2.1
    lia
theorem ue(ok:W.Ok)(hu:u<(n:Int)):((W.oa.zT W.st.length (n*62)).DD W.st.length u).isEmpty=true:=by
 have c:=qp ok (qh ok) (uF ok) n
 have I:=(gB ok (qh ok) (n*62)).inv
 refine nO.mpr λs hs=>?_
 rw[I.ws hs]
 cases e:(W.oa.zT W.st.length (n*62)).zr s (W.wy s) with
 | none=>rfl
 | some x =>
  have:=c s hs x e
  exact decide_eq_false (by lia)
theorem oi(A:OA)(k:Nat):∀r,A.zT k r=A.go (List.replicate r (List.range k)).flatten
 | 0=>rfl
 | r+1=>by
  show(A.zT k r).Du k=_
  rw[oi A k r,j5,kY,y7]
  unfold OA.go OA.Du
  rw[vJ]
open Classical in
theorem xi{A B:List (List Cell)}(h:Hc H A)(p:∀c,A.flatten.count c=B.flatten.count c):Hc H B:=Hs.perm h (List.perm_iff_count.mpr p)
structure Dv(cs:Cs)(C Pd Pu:Addr)(W:Wk)(M:List (List Cell))(H:Hp)(o:OR)(A:OA)(m:Nat):Prop where
 hc:Hc H (zi cs C o++M)
 fo:CZ W m H o A
 inv:Inv W A
 dr:zh Pd H
 up:Hr Pu H
theorem Dv.same{cs:Cs}{o:OR}{m:Nat}(h:Dv cs C Pd Pu W M H o A m)(s:c0 H H'):Dv cs C Pd Pu W M H' o A m:=⟨h.hc.same s,h.fo.Q7 (λ_ _=>d4.same s) (zJ _),h.inv,h.dr.same s,h.up.same s⟩
theorem tX(h:n<=90000):n<sizeLine:=qJ h (by decide)
def upTo(u:Int)(t:fc):Bool:=decide (t.1<=u)
inductive GS(cs:Cs)(C Pd Pu:Addr)(vs:List V)(H:Hp)(Q:VK)(wc:XK):Prop where
 | mk (o:OR) (M:List (List Cell)) (m:Nat) (w:Addr) (W:Wk) (A:OA) (ui:vs=[.ref o.x,.ref w]) (uj:Dv cs C Pd Pu W M H o A m) (zf:A8 M) (zq:(∀H',Hc H' M->Ag H' w W)) (Ai:W.Ok) (AA:m+W.st.length<=90000) (Bl:Pd≠Pu) (C7:∀(o':OR)(H':Hp),o'.x=o.x->Dv cs C Pd Pu W M H' o' (A.Du W.st.length) (m+W.st.length)->(∀x t,d4 H x t->d4 H' x t)->Q .y2 H'):GS cs C Pd Pu vs H Q wc
inductive K9(cs:Cs)(C:Addr)(vs:List V)(H:Hp)(Q:VK)(wc:XK):Prop where
 | mk (o:OR) (M:List (List Cell)) (s:Nat) (us:List V) (ts:List fc) (u:Int) (ui:vs=[.ref o.x,.int (s:Int),.int u]) (uj:Hc H (zi cs C o++M)) (zf:AJ o) (zq:o.gv[s]?=some us) (Ai:Paired (d4 H) us ts) (AA:ts.length<=90000) (Bl:∀(p:Addr)(BP:List V)(H':Hp),H p=none->c0 H H'->H' p=some (.lst BP)->Paired (d4 H') BP (ts.filter (upTo u))->Q (.ref p) H'):K9 cs C vs H Q wc
structure Uw(W:Wk)(u:Int)(r:Nat):Prop where
 le:r<=(u.toNat+1)*62
 em:((W.oa.zT W.st.length r).DD W.st.length u).isEmpty=true
 ne:∀r'<r,((W.oa.zT W.st.length r').DD W.st.length u).isEmpty=false
def OA.NG(A:OA)(u:Int)(n:Nat):List (List fc):=(List.range n).map λs=>(A.ge.getD s []).filter (upTo u)
inductive GU(cs:Cs)(C Pd Pu:Addr)(vs:List V)(H:Hp)(Q:VK)(wc:XK):Prop where
 | mk (w:Addr) (W:Wk) (M:List (List Cell)) (u:Int) (ui:vs=[.ref w,.int u]) (uj:Hc H M) (zf:A8 M) (zq:(∀H',Hc H' M->Ag H' w W)) (Ai:W.Ok) (AA:0<=u) (Bl:u<=100) (C7:zh Pd H) (Jt:Hr Pu H) (Ju:Pd≠Pu) (GG:∀(t D:Addr)(bs:List Addr)(rv:List (List V))(r:Nat)(H':Hp),Uw W u r->Hc H' ([(t,.tup [.ref D,.int (r:Int)])]::[(D,.lst (bs.map V.ref))]::zb bs rv::M)->bs.length=rv.length->Paired (λus ts=>Paired (d4 H') us ts) rv ((W.oa.zT W.st.length r).NG u W.st.length)->zh Pd H'->Hr Pu H'->(∀x t,d4 H x t->d4 H' x t)->Q (.ref t) H'):GU cs C Pd Pu vs H Q wc
section
variable{cs:Cs}
theorem vw{f:Addr}(F:Ac K "go_round" "go_round" (top 38) f fd)(T:Txt K mg)(G:MethAt P w K mg base 5 C "step" ["self","station"] (ED cs C Pu)):mu P w K mg base Aa 6 f fd ["own","works"] (GS cs C Pd Pu):=by
 exists ["own","works","station"]
 obtain⟨o,M,m,w,W,A,rfl,L,nM,back,ok,hm,O,q⟩:=h
 obtain⟨sa,ba,fa,xs,ys,zs,h1,h2⟩:=(back H L.hc.drop).ex
 have lx:=h2.ps.length
 have s8:=ok.s8
 refine⟨_,(@ei _ _ _ (cj PassesOwn.never rfl (bO rfl T.zt (‹({1}<*>bh)›>>a_)) (fB (i:=2) nd rfl (by nofun)) (@ei _ _ _ (bC (G<$>{0}>>({2}>>a_)))))),?_⟩
 refine⟨_,rfl,(h1<<<0>>>⟨sa,_,rfl,.inl (eH.of h2.hs),?_⟩)⟩
 rw[lx]
 refine⟨_,rfl,by rw[BL];lia,by rw[BL];lia,?_⟩
 refine cW (n:=((W.st.length:Nat):Int).toNat) (λi σ H5=>∃(Y:Option V)(o':OR),σ=[some (.ref o.x),some (.ref w),Y]/\o'.x=o.x/\Dv cs C Pd Pu W M H5 o' (A.Du i) (m+i)/\∀x t,d4 H x t->d4 H5 x t) ⟨_,o,rfl,rfl,L,λ_ _ h=>h⟩ ?_ ?_
 ·rintro i σ H5 hi ⟨Y,o',rfl,ex,B,tr⟩
  rw[qW]
  have Mz:i<W.st.length:=by lia
  have e1:=B.fo.ns
  obtain⟨r,U⟩:∃r,o'.fi[i]?=some r:=⟨o'.fi[i]'(by lia),zD _⟩
  rw[←ex]
  refine⟨_,rfl,o'.x,o'.dx,o'.zg,rfl,B.hc.get 0 0 rfl rfl,Ed (by decide +kernel),_,rfl,o',_,i,_,_,r,rfl,B.hc,nM,B.fo.ok,B.fo.is,U,B.fo.so,(by lia),B.fo.ao,B.up,λo2 H6 st=>?_⟩
  have f':=B.fo.Aw U st
  have i':=(dO ok B.inv B.fo.ao Mz).inv
  rw[←fx]at f' i'
  exact⟨_,o2,rfl,st.x,⟨st.hc,f',i',zz.Q5 B.dr st.tk O B.up,st.up⟩,λx t h=>d4.Q5 st.tk B.up (tr x t h)⟩
 ·rintro σ H5 ⟨Y,o',rfl,ex,B,tr⟩
  exact q o' _ ex B tr
theorem yi{f:Addr}(F:Ac K "taken_until" "taken_until" (top 39) f fd)(B:MethAt P w K mg base 1 C "taken" ["self","station"] (Dr cs C)):mu P w K mg base Aa 2 f fd ["own","station","until"] (K9 cs C):=by
 exists ["own","station","until"]
 obtain⟨o,M,s,us,ts,u,rfl,hc,Y,hu,pu,hl,q⟩:=h
 have lu:=pu.length
 refine⟨_,(~~~(["event"]^^^["until"]^^^[2]^^^(bx (K:=K) rfl (B<$>{0}>>({1}>>a_)))^^^(cB (bp gn ({0}<*>bh) {1} (bq _)))^^^{0})),?_⟩
 refine⟨_,rfl,o.x,o.dx,o.zg,rfl,hc.get 0 0 rfl rfl,Ed (by decide +kernel),_,rfl,o,M,s,us,rfl,hc,Y,hu,λp1 n1=>?_⟩
 have s1:=c0.new (o:=.lst us) n1
 have g1:=bg (H:=H) (a:=p1) (o:=.lst us)
 generalize upd H p1 (.lst us)=H1 at s1 g1 ⊢
 refine⟨p1,rfl,⟨_,eH.of g1⟩,λD nD=>?_⟩
 have XM:H D=none:=by
  cases e:H D with
  | none=>rfl
  | some o=>rw[s1 _ _ e]at nD;cases nD
 have XN:=bf (λ_ _=>d4.same s1) pu
 refine bA (a:=p1) (xs:=us) (λi H6=>∃vs,c0 H1 H6/\H6 D=some (.lst vs)/\Paired (d4 H6) vs ((ts.take i).filter (upTo u))) ⟨[],c0.new nD,bg,.nil⟩ (λi H6 _ ⟨_,s6,_⟩=>eH.of (s6 _ _ g1)) ?_ ?_
 ·rintro i x H6 m' Wf hx ⟨vs,s6,G,O⟩ nx
  obtain⟨e,he,pe,rfl,U⟩:=XN.gt hx
  have lv:=O.length
  have lf:=jH (upTo u) (ts.take i)
  rw[yA]at lf
  refine⟨_,rfl,(s6 _ _ U<<<0>>>⟨_,rfl,_,_,rfl,rfl,_,rfl,?_⟩)⟩
  have tk:=bI he
  by_cases hh:e.1<=u
  ·rw[decide_eq_true hh]
   refine vr ⟨_,rfl,_,G,tX (by lia),nx _ ⟨vs++[.ref pe],s6.upd nD,bg,?_⟩⟩
   rw[tk,zM,zZ (show upTo u e=true from decide_eq_true hh),yN]
   exact bv (bf (λ_ _ h=>h.keep G) O) (.cons (d4.keep G ⟨pe,rfl,s6 _ _ U⟩) .nil)
  ·rw[decide_eq_false hh]
   refine nj (nx _ ⟨vs,s6,G,?_⟩)
   rw[tk,zM,yB (show ¬upTo u e=true from λz=>hh (of_decide_eq_true z)),yN,zQ]
   exact O
 ·rintro H6 ⟨vs,s6,G,O⟩
  rw[lu,zY]at O
  exact q D vs H6 XM (s1.trans s6) G O
theorem xx{f:Addr}(F:Ac K "settled" "settled" (top 40) f fd)(T:Txt K mg)(NH:DN P w K mg base 5 "Own" C ["self","works"] (Gx K cs C Pd))(aS:FnAt P w K mg base 5 "behind" ["own","works","until"] (GR cs C))(aG:FnAt P w K mg base 6 "go_round" ["own","works"] (GS cs C Pd Pu))(ap:FnAt P w K mg base 2 "taken_until" ["own","station","until"] (K9 cs C)):mu P w K mg base Aa 7 f fd ["works","until"] (GU cs C Pd Pu):=by
 exists ["works","until","own","rounds"]
 obtain⟨w,W,M,u,rfl,k,nM,back,ok,u0,u1,hT,hU,O,q⟩:=h
 have s8:=ok.s8
 refine⟨_,((2>>=iL NH (hr.mono (by decide)) (by rfl) ({0}>>a_))<|>(3>>=bh)<|>lq PassesOwn.never (bp fw ‹(aS<&>({2}>>{0}>>{1}>>a_))› bh (bq _)) (bC (aG<&>({2}>>{0}>>a_))<|>@ei _ _ _ (3>>=bu bQ {3} bh))<|>(~~~(@bF _ _ _ _ _ ((["station"]^^^["own","until"]^^^[2,1]^^^(bO rfl T.zt (‹({0}<*>bh)›>>a_))^^^bB^^^(ap<&>({1}>>{0}>>{2}>>a_)))>>{3}>>a_)))),?_⟩
 refine⟨_,rfl,λx dx nx Ux XO=>?_⟩
 have kF:=(k.same (c0.new (o:=.own x) Ux)).new (p:=x) (by rw[bj (Ne.symm XO)];exact nx) (.ins C dx [])
 have tF:c0 H (upd (upd H dx (.own x)) x (.ins C dx [])):=(c0.new Ux).upd nx
 have M_:=hT.same tF
 have Ry:=hU.same tF
 generalize (upd (upd H dx (.own x)) x (.ins C dx []))=HF at kF M_ Ry tF ⊢
 refine⟨x,w,dx,W,_,rfl,kF,nM,back HF kF.tl,ok,M_,λo1 H5 XQ AM Rz OX U Uy=>⟨rfl,?_⟩⟩
 subst XQ
 have L0:Dv cs C Pd Pu W M H5 o1 W.oa 0:=⟨AM,ux U Uy,gL ok,OX,zz.Q6 Ry Rz (Ne.symm O) (kF.get 0 0 rfl rfl)⟩
 have Uz:∀x t,d4 H x t->d4 H5 x t:=λx t h=>d4.Q6 Rz (kF.get 0 0 rfl rfl) (d4.same tF h)
 clear kF tF M_ Ry AM Rz OX U Uy hT hU k
 refine⟨λmm σ H6=>∃(r:Nat)(o:OR),mm=(u.toNat+1)*62-r/\σ=[some (.ref w),some (.int u),some (.ref o.x),some (.int (r:Int))]/\r<=(u.toNat+1)*62/\(∀r'<r,((W.oa.zT W.st.length r').DD W.st.length u).isEmpty=false)/\Dv cs C Pd Pu W M H6 o (W.oa.zT W.st.length r) (r*W.st.length)/\∀x t,d4 H x t->d4 H6 x t,⟨_,0,o1,rfl,rfl,yH _,(λr' z=>absurd z (qT r')),by rw[Nat.zero_mul];exact L0,Uz⟩,?_⟩
 clear L0 Uz
 rintro mm σ H6 ⟨r,o,rfl,rfl,UA,A5,L,tr⟩
 have Tr:r*W.st.length<=6262*8:=Nat.mul_le_mul (by lia) s8
 refine⟨_,rfl,_,rfl,_,rfl,o,M,w,W,_,u,rfl,L.hc,L.fo.ok,L.fo.is,(λr hr=>(L.fo.so r hr).l1),back H6 L.hc.drop,L.fo.ns,λl H7 nl s7 g7=>?_⟩
 refine⟨l,_,rfl,.inl (eH.of g7),_,_,rfl,rfl,_,rfl,?_⟩
 have el:(GQ ((W.oa.zT W.st.length r).DD W.st.length u)).length=((W.oa.zT W.st.length r).DD W.st.length u).length:=zB _
 rw[el]
 have Y:=L.same s7
 have UB:∀x t,d4 H x t->d4 H7 x t:=λx t h=>d4.same s7 (tr x t h)
 clear L g7
 cases hb:((W.oa.zT W.st.length r).DD W.st.length u).isEmpty with
 | false =>
  have lp:0<((W.oa.zT W.st.length r).DD W.st.length u).length:=q9.mpr λz=>by rw[z]at hb;cases hb
  rw[decide_eq_true (by lia)]
  have ZJ:r<(u.toNat+1)*62:=by
   refine Nat.lt_of_le_of_ne UA λz=>?_
   have:=ue ok (u:=u) (n:=u.toNat+1) (by lia)
   rw[←z,hb]at this
   cases this
  refine vr ⟨fun σ' H8=>∃o':OR,σ'=[some (.ref w),some (.int u),some (.ref o'.x),some (.int ((r+1:Nat):Int))]/\Dv cs C Pd Pu W M H8 o' (W.oa.zT W.st.length (r+1)) ((r+1)*W.st.length)/\∀x t,d4 H x t->d4 H8 x t,?_,?_⟩
  ·rintro σ' H8 ⟨o',rfl,L8,RA⟩
   refine⟨_,?_,r+1,o',rfl,rfl,by lia,λr' Dz=>?_,L8,RA⟩
   ·lia
   ·by_cases z:r'<r
    ·exact A5 r' z
    ·rw[show r'=r by lia];exact hb
  ·refine⟨_,rfl,_,rfl,o,M,r*W.st.length,w,W,_,rfl,Y,nM,back,ok,(by lia),O,λo' H8 ex L8 RA=>?_⟩
   refine⟨_,rfl,_,_,rfl,rfl,?_⟩
   refine⟨o',by rw[ex];rfl,?_,λx t h=>RA x t (UB x t h)⟩
   rw[vR,xN]
   exact L8
 | true =>
  have lp:((W.oa.zT W.st.length r).DD W.st.length u).length=0:=by rw[List.isEmpty_iff.mp hb];rfl
  rw[decide_eq_false (by lia)]
  refine nj ?_
  have Sx:Uw W u r:=⟨UA,hb,A5⟩
  have ZK:=Y.fo.ns
  have Hq:=Y.fo.ok.Hq
  have Gr:=Y.hc
  have G:=Y.fo
  generalize eA:W.oa.zT W.st.length r=A at G Y
  obtain⟨sa,ba,fa,xs,ys,zs,h1,h2⟩:=(back H7 Gr.drop).ex
  have lx:=h2.ps.length
  refine⟨_,rfl,(h1<<<0>>>⟨sa,_,rfl,.inl (eH.of h2.hs),?_⟩)⟩
  rw[lx]
  refine⟨_,rfl,by rw[BL];lia,by rw[BL];lia,λD nD=>?_⟩
  refine cy (lo:=0) (n:=((W.st.length:Nat):Int).toNat) (λi H8=>∃(bs:List Addr)(rv:List (List V)),c0 H7 H8/\Hc H8 ([(D,.lst (bs.map V.ref))]::zb bs rv::M)/\bs.length=rv.length/\rv.length=i/\Paired (λus ts=>Paired (d4 H8) us ts) rv (A.NG u i)) ⟨[],[],c0.new nD,(Gr.drop.pad).new nD (.lst []),rfl,rfl,.nil⟩ ?_ ?_
  ·rintro i H8 m' Wf hi ⟨bs,rv,B,k8,lb,lr,pr⟩ nx
   rw[qW]
   obtain⟨us,B7⟩:∃us,o.gv[i]?=some us:=⟨o.gv[i]'(by lia),zD _⟩
   obtain⟨ts,Jv,E6⟩:=G.is.e.g.gt B7
   have ZL:=G.ao.lg ts (zE Jv)
   refine⟨_,rfl,_,rfl,_,rfl,o,M,i,us,ts,u,rfl,Gr.same B,G.ok,B7,bf (λ_ _=>d4.same B) E6,(by lia),λp BP H9 np s9 g9 pu=>?_⟩
   have k9:=k8.Er np g9 s9
   have gD:=k9.get 1 0 rfl rfl
   have LJ:=k9.put 1 0 rfl rfl (.lst (bs.map V.ref++[.ref p]))
   have tk:Tk H9 (upd H9 D (.lst (bs.map V.ref++[.ref p]))):=(Tk.of (c0.refl _)).put gD (λz=>z)
   refine⟨_,gD,bo (by rw[zB];lia),nx _ ⟨bs++[p],rv++[BP],(B.trans s9).upd nD,?_,by rw[zN,zN,lb];rfl,by rw[zN,lr];rfl,?_⟩⟩
   ·rw[zK,dG lb]
    refine xi LJ λc=>?_
    simp only [List.set,kY,yO,List.count_append,yM,jM]
    lia
   ·unfold OA.NG
    rw[qM,zK]
    refine bv (bf (λ_ _ h=>bf (λ_ _ h=>d4.tk tk (d4.same s9 h)) h) pr) (.cons ?_ .nil)
    show Paired _ BP ((A.ge.getD i []).filter (upTo u))
    rw[zA,Jv]
    exact bf (λ_ _ h=>d4.tk tk h) pu
  ·rintro H8 ⟨bs,rv,B,k8,lb,lr,pr⟩
   rw[zV]at lr pr
   refine⟨_,rfl,(by show 2<=sizeLine;decide),λt nt=>?_⟩
   have s9:=c0.new (o:=.tup [.ref D,.int (r:Int)]) nt
   have S9:=B.trans s9
   exact q t D bs rv r _ Sx (k8.new nt _) lb (by rw[eA];exact bf (λ_ _ h=>bf (λ_ _=>d4.same s9) h) pr) (Y.dr.same S9) (Y.up.same S9) λx t h=>d4.same S9 (UB x t h)
end
def SP.BB(p:SP)(dl:List Int)(b:Nat)(t:fc):List fc:=match p.out (p.ws.idxOf t.2.1) t.2.2 with
 | none=>[]
 | some o=>if o.1.toNat=b then [(t.1+dl.getD b 0,o.1,o.2)]else []
def SP.go(p:SP)(t:fc):SP:=p.Aw (p.ws.idxOf t.2.1) t.2.2
def SP.Ar(dl:List Int)(b:Nat):SP->List fc->List fc
 | _,[]=>[]
 | p,t::r=>p.BB dl b t++SP.Ar dl b (p.go t) r
def SP.AS:SP->List fc->SP
 | p,[]=>p
 | p,t::r=>(p.go t).AS r
theorem oq:∀(p:SP)(g h:List fc),p.AS (g++h)=(p.AS g).AS h
 | _,[],_=>rfl
 | p,t::g,h=>oq (p.go t) g h
theorem h_(dl:List Int)(b:Nat):∀(p:SP)(g h:List fc),p.Ar dl b (g++h)=p.Ar dl b g++(p.AS g).Ar dl b h
 | _,[],_=>rfl
 | p,t::g,h=>by
  show p.BB dl b t++(p.go t).Ar dl b (g++h)=(p.BB dl b t++(p.go t).Ar dl b g)++_
  rw[h_ dl b (p.go t) g h,yI]
  rfl
theorem fF{dl:List Int}{b:Nat}{p:SP}{g h:List fc}(e:g <+: h):p.Ar dl b g <+: p.Ar dl b h:=by
 obtain⟨r,rfl⟩:=e
 rw[h_]
 exact vD _ _
theorem uI{p:SP}{dl:List Int}{b:Nat}{e:fc}(h:e∈p.BB dl b t):p.BB dl b t=[e]/\e.1=t.1+dl.getD b 0/\e.2.1.toNat=b/\p.out (p.ws.idxOf t.2.1) t.2.2=some (e.2.1,e.2.2):=by
 unfold SP.BB at h ⊢
 cases eo:p.out (p.ws.idxOf t.2.1) t.2.2 with
 | none=>rw[eo]at h;exact absurd h zI
 | some o =>
  rw[eo]at h
  dsimp only at h ⊢
  split at h
  ·rename_i z
   rw[if_pos z]
   rw[zF.mp h]
   exact⟨rfl,rfl,z,rfl⟩
  ·exact absurd h zI
theorem dP(dl:List Int)(b:Nat):∀(p:SP)(g:List fc)(j:Nat)(e:fc),(p.Ar dl b g)[j]?=some e->∃(i:Nat)(c:fc),g[i]?=some c/\e.1=c.1+dl.getD b 0/\(p.Ar dl b (g.take (i+1)))[j]?=some e
 | _,[],_,_,h=>by simp [SP.Ar]at h
 | p,t::r,j,e,h=>by
  replace h:(p.BB dl b t++(p.go t).Ar dl b r)[j]?=some e:=h
  by_cases hj:j<(p.BB dl b t).length
  ·rw[yP hj]at h
   have m:=uI (zE h)
   refine⟨0,t,rfl,m.2.1,?_⟩
   show(p.BB dl b t++_)[j]?=_
   rw[yP hj]
   exact h
  ·rw[zX (by lia)]at h
   obtain⟨i,c,h1,h2,h3⟩:=dP dl b (p.go t) r _ e h
   refine⟨i+1,c,h1,h2,?_⟩
   show(p.BB dl b t++(p.go t).Ar dl b (r.take (i+1)))[j]?=_
   rw[zX (by lia)]
   exact h3
def BQ(w:Int)(t:fc):Bool:=t.2.1==w
def Wk.BV(W:Wk)(b:Nat):Nat:=(W.be.getD b (0,0,0)).1.toNat
def OA.src(W:Wk)(A:OA)(s:Nat)(w:Int):List fc:=if w=-1 then W.de (s:Int)else (W.sp (W.BV w.toNat)).Ar W.ov w.toNat (A.ge.getD (W.BV w.toNat) [])
structure Cf(W:Wk)(A:OA):Prop where
 ord:Ord W A
 ev:∀s:Nat,s<W.st.length->∀w∈W.wy s,(A.ge.getD s []).filter (BQ w)++n7 A.de A.re s w=A.src W s w
 nn:∀s:Nat,∀t∈A.ge.getD s [],0<=t.1
 pc:∀(b:Nat) bt,W.be[b]?=some bt->oLe (A.pr.getD b none) (CB (A.zr bt.1.toNat (W.wy bt.1)) bt.2.2)
def Eg(A B:OA):Prop:=∀s:Nat,A.ge.getD s [] <+: B.ge.getD s []\/B.ge.getD s [] <+: A.ge.getD s []
theorem Eg.symm(h:Eg A B):Eg B A:=λs=>(h s).symm
theorem Eg.src(h:Eg A B)(W:Wk)(s:Nat)(w:Int):A.src W s w <+: B.src W s w\/B.src W s w <+: A.src W s w:=by
 unfold OA.src
 split
 ·exact .inl (List.prefix_refl _)
 ·exact(h _).imp fF fF
theorem eU{l m:List α}(h:l <+: m\/m <+: l){x y:α}(h1:l[j]?=some x)(h2:m[j]?=some y):x=y:=by
 rcases h with ⟨r,rfl⟩|⟨r,rfl⟩
 ·rw[yP (zC.mp h1).1,h1]at h2
  exact Option.some.inj h2
 ·rw[yP (zC.mp h2).1,h2]at h1
  exact(Option.some.inj h1).symm
theorem eG{g:List fc}{c:fc}{ev src:List fc}(e:(g++c::rest).filter (BQ c.2.1)++ev=src):src[(g.filter (BQ c.2.1)).length]?=some c:=by
 rw[←e,zM,zZ (show BQ c.2.1 c=true from beq_self_eq_true _),yI,zX (zJ _),qN]
 rfl
theorem Wk.BC{w:Int}(h:w∈W.wy s)(n:w ≠ -1):∃(b:Nat)(bt:fc),W.be[b]?=some bt/\w=(b:Int)/\W.BV b=bt.1.toNat:=by
 obtain⟨j,bt,h1,_,h3⟩:=(Wk.A0 h).resolve_left n
 refine⟨j,bt,h1,h3,?_⟩
 unfold Wk.BV
 rw[zA,h1]
 rfl
theorem dY{b:Nat}{bt:fc}(h:W.BV b=bt.1.toNat):A.src W s (b:Int)=(W.sp bt.1.toNat).Ar W.ov b (A.ge.getD bt.1.toNat []):=by
 unfold OA.src
 rw[if_neg (by lia),zV,h]
theorem i4{b:Nat}(h:n7 A.de A.re s (b:Int)=[]):A.e s (b:Int)=A.pr.getD b none:=by
 unfold OA.e
 rw[h]
 show(if ((b:Nat):Int)=-1 then none else A.pr.getD ((b:Nat):Int).toNat none)=_
 rw[if_neg (by lia),zV]
theorem g_{w:Int}{h:fc}{r:List fc}(e:n7 A.de A.re s w=h::r):A.e s w=some h.1:=by
 unfold OA.e
 rw[e]
 rfl
theorem eE(ok:W.Ok)(ca:Cf W A)(cb:Cf W B)(ag:Eg A B):∀(n:Nat)(b:Nat)(bt:fc),W.be[b]?=some bt->∀(j:Nat)(e:fc),((W.sp bt.1.toNat).Ar W.ov b (A.ge.getD bt.1.toNat []))[j]?=some e->e.1<(n:Int)->((W.sp bt.1.toNat).Ar W.ov b (B.ge.getD bt.1.toNat [])).length<=j->oLe (B.pr.getD b none) (some e.1):=by
 intro n
 induction n with
 | zero =>
  intro b bt hb j e he hn _
  obtain⟨i,c,h1,h2,_⟩:=dP _ _ _ _ _ _ he
  have:=ca.nn _ c (zE h1)
  have:=Wk.EE ok b
  lia
 | succ n ih =>
  intro b bt hb j e he hn hl
  walk_at "L"
  obtain⟨i,c,h1,h2,h3⟩:=dP _ _ _ _ _ _ he
  rw[Wk.B4 hb]at h2
  have U:bt.1.toNat<W.st.length:=by lia
  have ez:((bt.1.toNat:Nat):Int)=bt.1:=by lia
  rcases ag bt.1.toNat with pre|pre
  ·have:=(fF (dl:=W.ov) (b:=b) (p:=W.sp bt.1.toNat) pre).length_le
   have:=(zC.mp he).1
   lia
  ·obtain⟨rest,er⟩:=pre
   have li:(B.ge.getD bt.1.toNat []).length<=i:=by
    refine Nat.le_of_not_lt λz=>?_
    have p1:(A.ge.getD bt.1.toNat []).take (i+1) <+: B.ge.getD bt.1.toNat []:=by
     rw[←er,j4 (by lia)]
     exact List.take_prefix _ _
    have:=(fF (dl:=W.ov) (b:=b) (p:=W.sp bt.1.toNat) p1).length_le
    have:=(zC.mp h3).1
    lia
   cases rest with
   | nil =>
    have:=(zC.mp h1).1
    rw[←er,zQ]at this
    lia
   | cons c' rest =>
    have so:=ca.ord.so bt.1.toNat
    have cc:c'.1<=c.1:=by
     rw[←er]at so h1
     rw[zX li]at h1
     have RB:=(qA.mp so).2.1
     have hm:=zE h1
     rcases zO.mp hm with z|z
     ·rw[z];exact jL _
     ·have:=(cX _ _).mp ((yY.mp RB).1 c z)
      unfold sF at this
      lia
    have LK:c'∈A.ge.getD bt.1.toNat []:=by rw[←er];exact zU _ zH
    have hw:=ca.ord.wy bt.1.toNat c' LK
    have Y:=ca.ev _ U _ hw
    rw[←er]at Y
    have Bg:=eG Y
    have G:=cb.ev _ U _ hw
    have pc:=cb.pc b bt hb
    have ck:=i6 (A:=B) (s:=bt.1.toNat) hw
    rw[ez]at ck
    refine Classical.byContradiction λno=>?_
    have O:¬oLe (B.e bt.1.toNat c'.2.1) (some c'.1):=λz=>no (by
     have y:=bP ck z
     have x:=bP pc (fM (d:=bt.2.2) y)
     have e1:oLe (CB (some c'.1) bt.2.2) (some e.1):=by
      show c'.1+bt.2.2<=e.1
      lia
     exact bP x e1)
    cases ev:n7 B.de B.re bt.1.toNat c'.2.1 with
    | nil =>
     rw[ev,zQ]at G
     by_cases wd:c'.2.1=-1
     ·unfold OA.src at Bg G
      rw[if_pos wd]at Bg G
      rw[←G]at Bg
      have:=(zC.mp Bg).1
      lia
     ·obtain⟨b',GH,Cb,eb,e0⟩:=Wk.BC hw wd
      rw[eb]at Bg G ev O
      rw[dY e0]at Bg G
      refine O ?_
      rw[i4 ev]
      exact ih b' GH Cb _ c' Bg (by lia) (by rw[←G];exact zJ _)
    | cons h r =>
     rw[ev]at G
     have NI:(B.src W bt.1.toNat c'.2.1)[((B.ge.getD bt.1.toNat []).filter (BQ c'.2.1)).length]?=some h:=by
      rw[←G,zX (zJ _),qN]
      rfl
     have:=eU (ag.src W _ _) Bg NI
     refine O ?_
     rw[g_ ev,this]
     exact cA _
theorem qo{a b:fc}(h1:FA (sF a) (sF b))(h2:FA (sF b) (sF a)):a.1=b.1/\a.2.1=b.2.1:=by
 rw[cX]at h1 h2
 unfold sF at h1 h2
 lia
theorem mQ(ok:W.Ok)(ca:Cf W A)(cb:Cf W B)(ag:Eg A B)(hs:s<W.st.length){a b:fc}(T:JC B s (W.wy s) b)(XR:∀w∈W.wy s,∀u,(n7 B.de B.re s w).head?=some u->u.2.1=w)(e:A.ge.getD s []=B.ge.getD s []++a::rest):a=b:=by
 have LK:a∈A.ge.getD s []:=by rw[e];exact zU _ zH
 have hw:=ca.ord.wy s a LK
 have UC:=ca.ev _ hs _ hw
 rw[e]at UC
 have Bg:=eG UC
 have U:=cb.ev _ hs _ hw
 have k1:FA (sF b) (sF a):=by
  cases ev:n7 B.de B.re s a.2.1 with
  | nil =>
   rw[ev,zQ]at U
   by_cases wd:a.2.1=-1
   ·unfold OA.src at Bg U
    rw[if_pos wd]at Bg U
    rw[←U]at Bg
    have:=(zC.mp Bg).1
    lia
   ·obtain⟨b',GH,Cb,eb,e0⟩:=Wk.BC hw wd
    have Y:=hw
    rw[eb]at Bg U ev Y
    rw[dY e0]at Bg U
    have na:=ca.nn s a LK
    have d:=eE ok ca cb ag (a.1.toNat+1) b' GH Cb _ a Bg (by lia) (by rw[←U];exact zJ _)
    cases eg:B.pr.getD b' none with
    | none=>rw[eg]at d;exact d.elim
    | some g =>
     rw[eg]at d
     replace d:g<=a.1:=d
     have em:B.re.getD ((b':Nat):Int).toNat []=[]:=by unfold n7 at ev;rw[if_neg (by lia)]at ev;exact ev
     have m:=T.may _ Y (by lia) em g (by rw[zV];exact eg)
     rw[cX]
     unfold sF
     rw[zV]at m
     lia
  | cons h r =>
   rw[ev]at U
   have NI:(B.src W s a.2.1)[((B.ge.getD s []).filter (BQ a.2.1)).length]?=some h:=by
    rw[←U,zX (zJ _),qN]
    rfl
   have:=eU (ag.src W _ _) Bg NI
   subst this
   exact T.min _ hw a (by rw[ev];rfl)
 have NJ:=T.w
 have hd:=T.hd
 have G:=ca.ev _ hs _ NJ
 have RC:=cb.ev _ hs _ NJ
 have O:(B.src W s b.2.1)[((B.ge.getD s []).filter (BQ b.2.1)).length]?=some b:=by
  cases ev:n7 B.de B.re s b.2.1 with
  | nil=>rw[ev]at hd;cases hd
  | cons h r =>
   rw[ev]at hd
   cases hd
   rw[←RC,ev,zX (zJ _),qN]
   rfl
 have so:=ca.ord.so s
 rw[e]at so
 have RB:=(qA.mp so).2.1
 rw[e,zM,yI]at G
 have k2:FA (sF a) (sF b):=by
  cases ef:(a::rest).filter (BQ b.2.1) with
  | cons x y =>
   rw[ef]at G
   have K_:(A.src W s b.2.1)[((B.ge.getD s []).filter (BQ b.2.1)).length]?=some x:=by
    rw[←G,zX (zJ _),qN]
    rfl
   have eq:=eU (ag.src W _ _) K_ O
   subst eq
   have hm:x∈a::rest:=(zR.mp (show x∈(a::rest).filter (BQ x.2.1) by rw[ef];exact zH)).1
   rcases zO.mp hm with z|z
   ·rw[z];rw[cX];lia
   ·exact(yY.mp RB).1 x z
  | nil =>
   rw[ef,qI]at G
   cases ev:n7 A.de A.re s b.2.1 with
   | cons h r =>
    rw[ev]at G
    have K_:(A.src W s b.2.1)[((B.ge.getD s []).filter (BQ b.2.1)).length]?=some h:=by
     rw[←G,zX (zJ _),qN]
     rfl
    have eq:=eU (ag.src W _ _) K_ O
    subst eq
    exact ca.ord.bd s a LK _ NJ _ (g_ ev)
   | nil =>
    rw[ev,zQ]at G
    by_cases wd:b.2.1=-1
    ·unfold OA.src at O G
     rw[if_pos wd]at O G
     rw[←G]at O
     have:=(zC.mp O).1
     lia
    ·obtain⟨b',GH,Cb,eb,e0⟩:=Wk.BC NJ wd
     have Y:=NJ
     rw[eb]at O G ev Y
     rw[dY e0]at O G
     have d:=eE ok cb ca ag.symm (b.1.toNat+1) b' GH Cb _ b O (by lia) (by rw[←G];exact zJ _)
     cases eg:A.pr.getD b' none with
     | none=>rw[eg]at d;exact d.elim
     | some g =>
      rw[eg]at d
      replace d:g<=b.1:=d
      have:=ca.ord.bd s a LK _ Y g (by rw[i4 ev];exact eg)
      rw[cX]at this ⊢
      unfold sF at this ⊢
      dsimp only at this ⊢
      lia
 obtain⟨_,ew⟩:=qo k1 k2
 rw[ew]at O
 exact eU (ag.src W _ _) Bg O
structure La(W:Wk)(A:OA):Prop where
 cf:Cf W A
 sp:∀s:Nat,s<W.st.length->A.fi.getD s Ao=(W.sp s).AS (A.ge.getD s [])
theorem pX(dl:List Int)(b:Nat)(p:SP)(g:List fc)(t:fc):p.Ar dl b (g++[t])=p.Ar dl b g++(p.AS g).BB dl b t:=by
 rw[h_]
 show _++((p.AS g).BB dl b t++[])=_
 rw[zQ]
theorem u5(ok:W.Ok){m:Nat}(I:Inv W A)(ao:AG m A)(c:La W A)(hs:s<W.st.length):La W (A.step s).1:=by
 have S:=dO ok I ao hs
 have O:=rN ok I ao c.cf.ord hs
 have pc:=S.inv.pc
 walk_at "e"
 have C2:=(I.sp s p hp).1
 have Cd:=(I.sp s p hp).2
 have XS:∀C:OA,C.de=A.de->C.re=A.re->C.ge=A.ge->C.fi=A.fi->Ord W C->(∀(b:Nat) bt,W.be[b]?=some bt->oLe (C.pr.getD b none) (CB (C.zr bt.1.toNat (W.wy bt.1)) bt.2.2))->La W C:=λC h1 h2 h3 h4 o pc=>by
  refine⟨⟨o,λj hj w hw=>?_,λj t ht=>c.cf.nn j t (by rw[←h3];exact ht),pc⟩,λj hj=>by rw[h4,h3];exact c.sp j hj⟩
  have:=c.cf.ev j hj w hw
  unfold OA.src at this ⊢
  rw[h1,h2,h3]
  exact this
 cases e:A.CA s p with
 | none =>
  have ea:(A.step s).1=(A.B2 s p).1:=by
   have ea:A.AS s p=A:=by unfold OA.AS;rw[e]
   unfold OA.step OA.CI
   rw[ep,ea]
  have R:=cz A s p
  rw[ea]at O pc ⊢
  exact XS _ R.de R.re R.ge R.sp O pc
 | some t =>
  walk_at "o"
  have t0:=D9 _ T.w
  have tw:t.2.1∈W.wy s:=by rw[←C2];exact T.w
  have R:=cz (A.take s p t) s p
  have ec:(A.step s).1=((A.take s p t).B2 s p).1:=by
   walk_at "Q"
   unfold OA.step OA.CI
   rw[ep,ea]
  rw[ec]at O pc ⊢
  have hg:((A.take s p t).B2 s p).1.ge=A.ge.set s (A.ge.getD s []++[t]):=R.ge.trans (cI A s p t).2.2.2
  have hr:((A.take s p t).B2 s p).1.re=(A.take s p t).re:=R.re
  have hd:((A.take s p t).B2 s p).1.de=(A.take s p t).de:=R.de
  have Y:((A.take s p t).B2 s p).1.fi=A.fi.set s (p.go t):=R.sp.trans (d7 A s p t)
  generalize ((A.take s p t).B2 s p).1=C at O pc hg hr hd Y ⊢
  have lg:=c.cf.ord.lg
  have gj:∀j,C.ge.getD j []=if s=j then A.ge.getD j []++[t]else A.ge.getD j []:=λj=>by
   rw[hg,ce]
   by_cases h:s=j
   ·subst h;rw[if_pos ⟨rfl,by lia⟩,if_pos rfl]
   ·rw[if_neg (λz=>h z.1),if_neg h]
  have B:=c.sp s hs
  rw[ep]at B
  have UD:=c.cf.ev s hs _ tw
  have XT:∃r,n7 A.de A.re s t.2.1=t::r:=by
   have z:=T.hd
   cases ev:n7 A.de A.re s t.2.1 with
   | nil=>rw[ev]at z;cases z
   | cons u r=>rw[ev]at z;cases z;exact⟨r,rfl⟩
  obtain⟨r,er⟩:=XT
  have tn:0<=t.1:=by
   rw[er]at UD
   have hm:t∈A.src W s t.2.1:=by rw[←UD];exact zU _ zH
   by_cases U:t.2.1=-1
   ·unfold OA.src at hm
    rw[if_pos U]at hm
    exact rG ok _ t hm
   ·obtain⟨b',G,Cb,eb,e0⟩:=Wk.BC tw U
    rw[eb,dY e0]at hm
    obtain⟨j,hj⟩:=yS hm
    obtain⟨i,c',h1,h2,_⟩:=dP _ _ _ _ _ _ hj
    have:=c.cf.nn _ c' (zE h1)
    have:=Wk.EE ok b'
    lia
  refine⟨⟨O,λj hj w hw=>?_,λj u hu=>?_,pc⟩,λj hj=>?_⟩
  ·have old:=c.cf.ev j hj w hw
   rw[gj]
   by_cases U:w=-1
   ·subst U
    unfold OA.src n7 at old ⊢
    rw[if_pos rfl,if_pos rfl]at old ⊢
    rw[hd,gM]
    by_cases h:s=j
    ·subst h
     rw[if_pos rfl,zM]
     by_cases tm:t.2.1=-1
     ·rw[if_pos ⟨tm,rfl⟩]
      unfold n7 at er
      rw[if_pos tm]at er
      rw[er]at old
      rw[er,zZ (show BQ (-1) t=true by unfold BQ;rw[tm];rfl),yN,yI]
      exact old
     ·rw[if_neg (λz=>tm z.1),yB (show ¬BQ (-1) t=true by unfold BQ;simpa using tm),yN,zQ]
      exact old
    ·rw[if_neg h,if_neg (λz=>h z.2)]
     exact old
   ·obtain⟨b,bt,hb,eb,e0⟩:=Wk.BC hw U
    have ZM:bt.2.1=(j:Int):=by
     obtain⟨k,G,g1,g2,g3⟩:=(Wk.A0 hw).resolve_left U
     have:k=b:=by lia
     subst this
     rw[g1]at hb
     cases hb
     exact g2
    subst eb
    have NK:∀X:OA,n7 X.de X.re j ((b:Nat):Int)=X.re.getD b []:=λX=>by
     unfold n7
     rw[if_neg (by lia),zV]
    rw[dY e0]at old ⊢
    rw[NK]at old ⊢
    rw[hr,eB A s p t t0]
    have left:(if s=j then A.ge.getD j []++[t]else A.ge.getD j []).filter (BQ (b:Int))++(if t.2.1=(b:Int)then (A.re.getD b []).tail else A.re.getD b [])=(A.ge.getD j []).filter (BQ (b:Int))++A.re.getD b []:=by
     by_cases tb:t.2.1=(b:Int)
     ·have sj:s=j:=by
       obtain⟨k,G,g1,g2,g3⟩:=(Wk.A0 tw).resolve_left (by lia)
       have:k=b:=by lia
       subst this
       rw[g1]at hb
       cases hb
       lia
      subst sj
      rw[tb,NK]at er
      rw[if_pos rfl,if_pos tb,zM,zZ (show BQ (b:Int) t=true by unfold BQ;rw[tb];exact beq_self_eq_true _),yN,er,yI]
      rfl
     ·rw[if_neg tb]
      by_cases h:s=j
      ·rw[if_pos h,zM,yB (show ¬BQ (b:Int) t=true by unfold BQ;simpa using tb),yN,zQ]
      ·rw[if_neg h]
    rw[←yI,left,old,gj]
    have O7:b<W.be.length:=(zC.mp hb).1
    by_cases h:s=bt.1.toNat
    ·rw[if_pos h,pX,←h,←B]
     congr 1
     unfold BA SP.BB
     cases p.out (p.ws.idxOf t.2.1) t.2.2 with
     | none=>rfl
     | some o =>
      dsimp only
      rw[I.dl]
      by_cases z:o.1.toNat=b
      ·rw[if_pos ⟨z,by rw[I.lr];exact O7⟩,if_pos z]
      ·rw[if_neg (λy=>z y.1),if_neg z]
    ·rw[if_neg h]
     have:BA A b t (p.out (p.ws.idxOf t.2.1) t.2.2)=[]:=by
      unfold BA
      cases eo:p.out (p.ws.idxOf t.2.1) t.2.2 with
      | none=>rfl
      | some o =>
       dsimp only
       refine if_neg λz=>?_
       have Cb:o.1∈W.lv s:=by rw[←Cd];exact SP.Ah (y:=o.2) eo
       obtain⟨k,G,g1,g2,g3⟩:=Wk.AZ Cb
       have:k=b:=by lia
       subst this
       rw[g1]at hb
       cases hb
       lia
     rw[this,zQ]
  ·rw[gj]at hu
   split at hu
   ·rename_i h
    rcases zW.mp hu with z|z
    ·exact c.cf.nn j u z
    ·rw[zF.mp z];exact tn
   ·exact c.cf.nn j u hu
  ·rw[Y,gj,ce]
   by_cases h:s=j
   ·subst h
    rw[if_pos ⟨rfl,by rw[I.st];exact hs⟩,if_pos rfl,oq,←B]
    rfl
   ·rw[if_neg (λz=>h z.1),if_neg h]
    exact c.sp j hj
theorem wK(ok:W.Ok):La W W.oa:=by
 have e:∀s,W.oa.ge.getD s []=[]:=λs=>cJ W.st s
 refine⟨⟨ul W,λs hs w hw=>?_,λs t ht=>?_,(gL ok).pc⟩,λs hs=>?_⟩
 ·rw[e]
  show n7 W.oa.de W.oa.re s w=W.oa.src W s w
  unfold OA.src n7
  split
  ·show W.Fp.getD s []=_
   unfold Wk.Fp
   rw[zA,zG,qF hs]
   rfl
  ·rw[e]
   exact cJ W.be _
 ·rw[e]at ht
  exact absurd ht zI
 ·rw[e]
  show((List.range W.st.length).map W.sp).getD s Ao=W.sp s
  rw[zA,zG,qF hs]
  rfl
theorem rh(ok:W.Ok){m:Nat}(ca:Cf W A)(I:Inv W B)(ao:AG m B)(U:Cf W B)(O:Eg A B)(hs:s<W.st.length):Eg A (B.step s).1:=by
 obtain⟨p,hp⟩:∃p,B.fi[s]?=some p:=⟨B.fi[s]'(by rw[I.st];exact hs),zD _⟩
 have ep:B.fi.getD s Ao=p:=by rw[zA,hp];rfl
 have C2:=(I.sp s p hp).1
 cases e:B.CA s p with
 | none =>
  have ea:(B.step s).1=(B.B2 s p).1:=by
   have ea:B.AS s p=B:=by unfold OA.AS;rw[e]
   unfold OA.step OA.CI
   rw[ep,ea]
  rw[ea]
  intro j
  rw[(cz B s p).ge]
  exact O j
 | some t =>
  walk_at "o"
  have G:∀w∈W.wy s,∀u,(n7 B.de B.re s w).head?=some u->u.2.1=w:=λw hw u hu=>tq ao (Wk.BI hw) hu
  have Y:(B.step s).1=((B.take s p t).B2 s p).1:=by
   have ea:B.AS s p=B.take s p t:=by unfold OA.AS;rw[e]
   unfold OA.step OA.CI
   rw[ep,ea]
  have hg:(B.step s).1.ge=B.ge.set s (B.ge.getD s []++[t]):=by
   rw[Y]
   exact(cz (B.take s p t) s p).ge.trans (cI B s p t).2.2.2
  intro j
  rw[hg,ce]
  by_cases h:s=j
  ·subst h
   rw[if_pos ⟨rfl,by rw[U.ord.lg];exact hs⟩]
   rcases O s with z|⟨rest,er⟩
   ·exact .inl (z.trans (vD _ _))
   ·cases rest with
    | nil=>rw[zQ]at er;rw[←er];exact .inl (vD _ _)
    | cons a rest =>
     rw[C2]at T
     have:=mQ ok ca U O hs T G er.symm
     subst this
     refine .inr ⟨rest,?_⟩
     rw[←er,yI]
     rfl
  ·rw[if_neg (λz=>h z.1)]
   exact O j
def DF(a b:Int×Int):Prop:=a.1<b.1\/(a.1=b.1/\a.2<=b.2)
theorem wn{a b:Int×Int}(h:AI b a=false):DF a b:=by
 rcases Int.lt_trichotomy a.1 b.1 with q|q|q
 ·exact .inl q
 ·refine .inr ⟨q,vV.mp λz=>?_⟩
  rw[(b9 b a).mpr (.inr ⟨q.symm,z⟩)]at h
  cases h
 ·rw[(b9 b a).mpr (.inl q)]at h
  cases h
theorem rM{a b c:Int×Int}(h:DF a b)(g:DF b c):DF a c:=by
 rcases h with h|⟨h1,h2⟩
 ·rcases g with g|⟨B,_⟩
  ·exact .inl (Int.lt_trans h g)
  ·exact .inl (by rw[←B];exact h)
 ·rcases g with g|⟨B,G⟩
  ·exact .inl (by rw[h1];exact g)
  ·exact .inr ⟨h1.trans B,vM h2 G⟩
abbrev ek(e:fc):Int×Int:=(e.1,e.2.1)
theorem CS.Bn{a:AR}(h:S.first=some a):∃pre post,S.ar=pre++a::post/\S.ar.eraseIdx S.at=pre++post/\(∀b∈pre,AI a.key b.key=true)/\∀b∈pre++post,DF a.key b.key:=by
 have hi:=(zC.mp h).1
 have hg:=(zC.mp h).2
 have B:∀(j:Nat)(b:AR),S.ar[j]?=some b->(S.ar.map AR.key).getD j (0,0)=b.key:=λj b e=>by rw[zA,zG,e];rfl
 have G:∀(j:Nat)(b:AR),S.ar[j]?=some b->DF a.key b.key:=λj b e=>by
  have hj:=(zC.mp e).1
  have:=eZ (S.ar.map AR.key) ((S.ar.map AR.key).length-1) j (by rw[zB];lia)
  rw[B j b e,show argBest (λi j=>AI ((S.ar.map AR.key).getD i (0,0)) ((S.ar.map AR.key).getD j (0,0))) ((S.ar.map AR.key).length-1)=S.at from rfl,B _ _ h]at this
  exact wn this
 have O:∀b∈S.ar,DF a.key b.key:=λb hb=>let ⟨j,hj⟩:=yS hb;G j b hj
 refine⟨S.ar.take S.at,S.ar.drop (S.at+1),?_,List.eraseIdx_eq_take_drop_succ ..,λb hb=>?_,λb hb=>O b ?_⟩
 ·rw[←hg,List.getElem_cons_drop,List.take_append_drop]
 ·obtain⟨j,hj⟩:=yS hb
  rw[List.getElem?_take]at hj
  split at hj
  ·rename_i Ay
   have:=gN (S.ar.map AR.key) ((S.ar.map AR.key).length-1) j Ay
   rw[B j b hj,show argBest (λi j=>AI ((S.ar.map AR.key).getD i (0,0)) ((S.ar.map AR.key).getD j (0,0))) ((S.ar.map AR.key).length-1)=S.at from rfl,B _ _ h]at this
   exact this
  ·cases hj
 ·rcases zW.mp hb with q|q
  ·exact List.mem_of_mem_take q
  ·exact List.mem_of_mem_drop q
def Wk.bk(W:Wk)(s:Int)(t:Nat):List fc:=(W.fe.filter λf=>f.1==s&&f.2.1==(t:Int)).map λf=>((t:Int),-1,f.2.2)
def Wk.dd(W:Wk)(s:Int)(n:Nat):List fc:=(List.range n).flatMap (W.bk s)
theorem Wk.DZ(W:Wk)(s:Int):W.de s=W.dd s 51:=by
 unfold Wk.de Wk.dr Wk.Gv Wk.dd
 rw[vP,vP]
 congr 1
 funext t
 unfold Wk.bk
 rw[qD]
 refine kX λf hf=>?_
 have h:=(zR.mp hf).2
 rw[yL]at h
 show(f.2.1,(-1:Int),f.2.2)=_
 rw[eq_of_beq h.2]
theorem Wk.A4{s:Int}{t:Nat}{e:fc}(h:e∈W.bk s t):e.1=t/\e.2.1=-1:=by
 obtain⟨f,_,rfl⟩:=yF.mp h
 exact⟨rfl,rfl⟩
theorem Wk.Lb(ok:W.Ok){s:Int}{t:Nat}(h:51<=t):W.bk s t=[]:=by
 unfold Wk.bk
 rw[yJ.mpr λf hf q=>?_]
 ·rfl
 ·obtain⟨_,_,_,B,_⟩:=ok.EZ f hf
  rw[yL]at q
  have:=eq_of_beq q.2
  lia
theorem Wk.Ce(W:Wk)(s:Int)(n:Nat):W.dd s (n+1)=W.dd s n++W.bk s n:=by
 unfold Wk.dd
 rw[qM,qV,jZ]
theorem Wk.Lc(ok:W.Ok)(s:Int)(k:Nat):W.dd s (51+k)=W.dd s 51:=by
 induction k with
 | zero=>rfl
 | succ k ih=>rw[←Nat.add_assoc,Wk.Ce,ih,Wk.Lb ok (by lia),zQ]
theorem Wk.Fq(W:Wk)(s u:Int)(hu:0<=u)(n:Nat):(W.dd s n).filter (λe=>decide (e.1<=u))=W.dd s (min n (u+1).toNat):=by
 induction n with
 | zero=>rw[Nat.zero_min];rfl
 | succ n ih =>
  rw[Wk.Ce,zM,ih]
  by_cases h:(n:Int)<=u
  ·rw[show min (n+1) (u+1).toNat=n+1 by lia,Wk.Ce,show min n (u+1).toNat=n by lia]
   congr 1
   exact qG.mpr λe B=>decide_eq_true (by rw[(Wk.A4 B).1];exact h)
  ·rw[show min (n+1) (u+1).toNat=min n (u+1).toNat by lia,yJ.mpr λe B q=>h (by have:=of_decide_eq_true q;rw[(Wk.A4 B).1]at this;exact this),zQ]
theorem Wk.D0(ok:W.Ok)(s u:Int)(hu:0<=u):(W.de s).filter (λe=>decide (e.1<=u))=W.dd s (u+1).toNat:=by
 rw[Wk.DZ,Wk.Fq W s u hu]
 by_cases h:(u+1).toNat<=51
 ·rw[Nat.min_eq_right h]
 ·rw[qU (by lia),show(u+1).toNat=51+((u+1).toNat-51) by lia,Wk.Lc ok]
theorem Wk.NL(W:Wk)(s:Int):(W.de s).Pairwise λe f=>e.1<=f.1:=by
 rw[Wk.DZ]
 unfold Wk.dd
 rw[kT]
 refine⟨λt _=>?_,(jY).imp fun {a b} h e B f hf=>?_⟩
 ·refine List.Pairwise.imp_of_mem (R:=λ_ _=>True) (fun {e f} B hf _=>?_) (List.pairwise_of_forall (λ_ _=>trivial))
  rw[(Wk.A4 B).1,(Wk.A4 hf).1]
  exact jL _
 ·rw[(Wk.A4 B).1,(Wk.A4 hf).1]
  lia
abbrev JF(e:fc):Bool:=e.2.1 == -1
abbrev Br(s:Nat)(a:AR):Bool:=a.s==s&&JF a.e
def dQ(s:Nat)(L:List AR)(n:Nat):List fc:=(List.range n).flatMap λ(t:Nat)=>((L.filter (Br s)).map AR.e).filter λe=>e.1==(t:Int)
theorem nH(s:Nat)(L:List AR)(n:Nat):dQ s L (n+1)=dQ s L n++((L.filter (Br s)).map AR.e).filter λe=>e.1==(n:Int):=by
 unfold dQ
 rw[qM,qV,jZ]
theorem ot{a:AR}(h:¬Br s a=true)(pre post:List AR)(n:Nat):dQ s (pre++a::post) n=dQ s (pre++post) n:=by
 unfold dQ
 rw[zM,yB h,←zM]
theorem qi{a:AR}(h:Br s a=true){pre post:List AR}(a0:0<=a.e.1)(h1:∀b∈pre,Br s b=true->a.e.1<b.e.1)(h2:∀b∈pre++post,Br s b=true->a.e.1<=b.e.1):∀n:Nat,dQ s (pre++a::post) n=(if a.e.1<(n:Int)then [a.e]else [])++dQ s (pre++post) n/\((n:Int)<=a.e.1->dQ s (pre++post) n=[])
 | 0=>⟨by rw[if_neg (by lia)];rfl,λ_=>rfl⟩
 | n+1=>by
  obtain⟨i1,i2⟩:=qi h a0 h1 h2 n
  have lo:∀(L:List AR)(m:Int),(∀b∈L,Br s b=true->m<b.e.1)->((L.filter (Br s)).map AR.e).filter (λe=>e.1==m)=[]:=λL m hL=>yJ.mpr λe B q=>by
   obtain⟨b,hb,rfl⟩:=yF.mp B
   obtain⟨b1,b2⟩:=zR.mp hb
   have:=hL b b1 b2
   have:b.e.1=m:=eq_of_beq q
   lia
  rw[nH,nH,i1,zM,zZ h,zK,yM,zM]
  by_cases q:a.e.1=(n:Int)
  ·rw[zZ (p:=λe:fc=>e.1==(n:Int)) (by show(a.e.1==(n:Int))=true;rw[q];exact beq_self_eq_true _),lo pre _ (by rw[←q];exact h1),i2 (by lia),if_neg (by lia),if_pos (by lia)]
   refine⟨?_,λz=>by lia⟩
   rw[zM,zK,zM,lo pre _ (by rw[←q];exact h1)]
   rfl
  ·rw[yB (p:=λe:fc=>e.1==(n:Int)) (λz=>q (eq_of_beq z)),←zM,←zK,←zM,yI]
   refine⟨?_,λz=>?_⟩
   ·by_cases z:a.e.1<(n:Int)
    ·rw[if_pos z,if_pos (by lia)]
    ·rw[if_neg z,if_neg (by lia)]
   ·rw[i2 (by lia),lo _ _ λb hb hd=>by have:=h2 b hb hd;lia]
    rfl
structure RI(W:Wk)(u:Int)(S:CS):Prop where
 ok:Bq W S
 tm:∀a∈S.ar,0<=a.e.1
 cr:∀(s:Nat) l,S.ev[s]?=some l->∀e∈l,∀a∈S.ar,DF (ek e) a.key
 so:∀(s:Nat) l,S.ev[s]?=some l->l.Pairwise λe f=>DF (ek e) (ek f)
 ev:∀(s:Nat) l,S.ev[s]?=some l->∀e∈l,0<=e.1/\e.1<=u/\e.2.1∈W.wy s
 dm:∀a∈S.ar,JF a.e=true->a.e.1<51
 dr:∀(s:Nat) l,S.ev[s]?=some l->l.filter JF++dQ s S.ar 51=W.de s
theorem xu(s:Nat):∀n,s<n->((W.C9 n).filter (Br s)).map AR.e=W.de s:=by
 have B:∀n,n<=s->(W.C9 n).filter (Br s)=[]:=λn hn=>yJ.mpr λa ha q=>by
  obtain⟨h1,_⟩:=jc ha
  rw[yL]at q
  have:=eq_of_beq q.1
  lia
 intro n
 induction n with
 | zero=>intro h;exact absurd h (qT _)
 | succ n ih =>
  intro h
  have e:W.C9 (n+1)=W.C9 n++(W.de (n:Int)).map λe=>⟨n,e,none⟩:=by
   unfold Wk.C9
   rw[qM,qV,jZ]
  rw[e,zM,zK]
  by_cases hs:s=n
  ·subst hs
   rw[B s (zJ _),qG.mpr,qD]
   ·show []++(W.de (s:Int)).map (λe=>e)=_
    rw[List.map_id'',qI]
    intro _;rfl
   ·intro a ha
    obtain⟨e,G,rfl⟩:=yF.mp ha
    rw[Wk.DZ]at G
    unfold Wk.dd at G
    obtain⟨t,_,ht⟩:=jC.mp G
    show(s==s&&e.2.1 == -1)=true
    rw[(Wk.A4 ht).2,beq_self_eq_true]
    rfl
  ·rw[ih (by lia),yJ.mpr,jM,zQ]
   intro a ha q
   obtain⟨e,_,rfl⟩:=yF.mp ha
   rw[yL]at q
   exact hs (eq_of_beq q.1).symm
structure Wk.ID(W:Wk)(L:List AR):Prop where
 l:∀a∈L,a.s<W.st.length/\a.e.2.1=-1/\0<=a.e.1/\a.e.1<51/\-1∈W.wy a.s
 d:∀s:Nat,s<W.st.length->dQ s L 51=W.de s
def Wk.cS(W:Wk)(L:List AR):CS:={ W.cs with ar:=L }
theorem Wk.NM(ok:W.Ok){s:Int}{e:fc}(h:e∈W.de s):e.2.1=-1/\0<=e.1/\e.1<51/\-1∈W.wy s:=by
 obtain⟨h1,h2,f,hf,e1,e2⟩:=W.Ds ok h
 obtain⟨_,_,B,G,_⟩:=ok.EZ f hf
 refine⟨h2,h1,by rw[e2];show f.2.1<51;lia,?_⟩
 unfold Wk.wy
 rw[if_pos (jO.mpr ⟨f,hf,by simpa using e1⟩)]
 exact yQ _ zH
theorem Wk.JG(W:Wk)(s:Int)(t:Nat):∀n,(W.dd s n).filter (λe=>e.1==(t:Int))=if t<n then W.bk s t else []
 | 0=>rfl
 | n+1=>by
  rw[Wk.Ce,zM,Wk.JG W s t n]
  by_cases q:t=n
  ·subst q
   rw[if_neg (by lia),if_pos (by lia),qI]
   exact qG.mpr λe B=>by rw[(Wk.A4 B).1];exact beq_self_eq_true _
  ·rw[yJ.mpr λe B z=>q (by have z:e.1=(t:Int):=eq_of_beq z;rw[(Wk.A4 B).1]at z;lia),zQ]
   by_cases z:t<n
   ·rw[if_pos z,if_pos (by lia)]
   ·rw[if_neg z,if_neg (by lia)]
theorem eQ{f g:α->List β}:∀{l:List α},(∀x∈l,f x=g x)->l.flatMap f=l.flatMap g
 | [],_=>rfl
 | x::l,h=>by rw[vK,vK,h x zH,eQ λy hy=>h y (zL _ hy)]
theorem va(ok:W.Ok):W.ID (W.C9 W.st.length):=by
 refine⟨λa ha=>?_,λs hs=>?_⟩
 ·obtain⟨h1,h2,_⟩:=jc ha
  exact⟨h1,Wk.NM ok h2⟩
 ·unfold dQ
  rw[xu s _ hs,Wk.DZ]
  exact eQ λt ht=>by rw[Wk.JG,if_pos (y8.mp ht)]
theorem O8(ok:W.Ok)(hL:W.ID L):RI W u (W.cS L):=by
 walk_at "J"
 have c:=ve ok
 refine⟨⟨c.l1,c.l2,c.l3,c.ws,λa ha=>?_⟩,λa ha=>(hL.l a ha).2.2.1,λs l h e B=>?_,λs l h=>?_,λs l h e B=>?_,λa ha _=>(hL.l a ha).2.2.2.1,λs l h=>?_⟩
 ·obtain⟨h1,h2,_,_,h5⟩:=hL.l a ha
  exact⟨h1,by rw[h2];exact h5⟩
 ·rw[(hn s l h).1]at B;cases B
 ·rw[(hn s l h).1];exact .nil
 ·rw[(hn s l h).1]at B;cases B
 ·rw[(hn s l h).1]
  exact hL.d s (hn s l h).2
theorem x6(ok:W.Ok)(h:Bq W S){a:AR}(ha:S.first=some a){c:Int×Int}:∀b∈BX W ((S.st.getD a.s Ao).out ((S.st.getD a.s Ao).ws.idxOf a.e.2.1) a.e.2.2) a.e.1 c,a.e.1<b.e.1/\0<=b.e.2.1:=by
 intro b hb
 walk_at "C"
 cases eo:(S.st.getD a.s Ao).out ((S.st.getD a.s Ao).ws.idxOf a.e.2.1) a.e.2.2 with
 | none=>rw[eo]at hb;exact absurd hb zI
 | some v =>
  obtain⟨G,y⟩:=v
  rw[eo]at hb
  rw[zF.mp hb]
  have B:=SP.Ah eo
  rw[w2]at B
  obtain⟨O,U,Y,q4,q5,q6,_⟩:=Wk.Bm ok B
  refine⟨?_,O⟩
  show a.e.1<a.e.1+(W.be.getD G.toNat (0,0,0)).2.2
  lia
theorem RI.step(ok:W.Ok)(h:RI W u S){a:AR}(ha:S.first=some a)(hu:a.e.1<=u):RI W u (S.step W a):=by
 have hm:a∈S.ar:=zE ha
 obtain⟨h1,h2⟩:=h.ok.ar a hm
 obtain⟨pre,post,e1,e2,Ld,Le⟩:=CS.Bn ha
 have G:=x6 ok h.ok ha (c:=((a.s:Int),((S.ev.getD a.s []).length:Int)))
 generalize QO:BX W ((S.st.getD a.s Ao).out ((S.st.getD a.s Ao).ws.idxOf a.e.2.1) a.e.2.2) a.e.1 ((a.s:Int),((S.ev.getD a.s []).length:Int))=new at G
 have Y:(S.step W a).ar=pre++post++new:=by rw[←e2,←QO];rfl
 have BR:∀b∈pre++post,b∈S.ar:=λb hb=>by rw[e1];rcases zW.mp hb with q|q;exact yQ _ q;exact zU _ (zL _ q)
 have hle:∀b∈(S.step W a).ar,DF a.key b.key:=λb hb=>by
  rw[Y]at hb
  rcases zW.mp hb with q|q
  ·exact Le b q
  ·exact .inl (G b q).1
 have O:S.ev[a.s]?=some (S.ev.getD a.s []):=gy (by rw[h.ok.l2];exact h1)
 have O9:∀(s:Nat) l,(S.step W a).ev[s]?=some l->(s=a.s/\l=S.ev.getD a.s []++[a.e])\/(s≠a.s/\S.ev[s]?=some l):=λs l hs=>by
  have B:(S.ev.set a.s (S.ev.getD a.s []++[a.e]))[s]?=some l:=hs
  by_cases e:s=a.s
  ·subst e
   rw[yW (by rw[h.ok.l2];exact h1)]at B
   exact .inl ⟨rfl,(Option.some.inj B).symm⟩
  ·rw[y4 (Ne.symm e)]at B
   exact .inr ⟨e,B⟩
 have UE:=h.tm a hm
 refine⟨h.ok.step ok ha,λb hb=>?_,λs l hs e he b hb=>?_,λs l hs=>?_,λs l hs e he=>?_,λb hb hd=>?_,λs l hs=>?_⟩
 ·rw[Y]at hb
  rcases zW.mp hb with q|q
  ·exact h.tm b (BR b q)
  ·have:=(G b q).1;lia
 ·rcases O9 s l hs with ⟨rfl,rfl⟩|⟨_,B⟩
  ·rcases zW.mp he with q|q
   ·exact rM (h.cr _ _ O e q a hm) (hle b hb)
   ·rw[zF.mp q];exact hle b hb
  ·exact rM (h.cr _ _ B e he a hm) (hle b hb)
 ·rcases O9 s l hs with ⟨rfl,rfl⟩|⟨_,B⟩
  ·refine qA.mpr ⟨h.so _ _ O,jW _ _,λe he f hf=>?_⟩
   rw[zF.mp hf]
   exact h.cr _ _ O e he a hm
  ·exact h.so _ _ B
 ·rcases O9 s l hs with ⟨rfl,rfl⟩|⟨_,B⟩
  ·rcases zW.mp he with q|q
   ·exact h.ev _ _ O e q
   ·rw[zF.mp q];exact⟨UE,hu,h2⟩
  ·exact h.ev _ _ B e he
 ·rw[Y]at hb
  rcases zW.mp hb with q|q
  ·exact h.dm b (BR b q) hd
  ·have:=(G b q).2
   have:b.e.2.1=-1:=eq_of_beq hd
   lia
 ·have Kk:new.filter (Br s)=[]:=yJ.mpr λb hb q=>by
   rw[yL]at q
   have:=eq_of_beq q.2
   have:=(G b hb).2
   lia
  have XU:dQ s (S.step W a).ar 51=dQ s (pre++post) 51:=by
   rw[Y]
   unfold dQ
   rw[zM,Kk,zQ]
  rw[XU]
  rcases O9 s l hs with ⟨rfl,rfl⟩|⟨A5,B⟩
  ·have d0:=h.dr _ _ O
   rw[e1]at d0
   by_cases hd:JF a.e=true
   ·have U:Br a.s a=true:=by show(a.s==a.s&&JF a.e)=true;rw[hd,beq_self_eq_true];rfl
    have q2:a.e.2.1=-1:=eq_of_beq hd
    have tb:∀b:AR,Br a.s b=true->b.e.2.1=-1:=λb q=>by
     rw[yL]at q
     exact eq_of_beq q.2
    rw[(qi U UE (λb hb q=>by
     have:=tb b q
     have s5:a.e.1<b.e.1\/(a.e.1=b.e.1/\a.e.2.1<b.e.2.1):=(b9 _ _).mp (Ld b hb)
     lia) (λb hb _=>by
     have s5:a.e.1<b.e.1\/(a.e.1=b.e.1/\a.e.2.1<=b.e.2.1):=Le b hb
     lia) 51).1,if_pos (show a.e.1<((51:Nat):Int)from h.dm a hm hd)]at d0
    rw[zM,zZ hd,yN,yI]
    exact d0
   ·have U:¬Br a.s a=true:=λq=>by rw[yL]at q;exact hd q.2
    rw[ot U]at d0
    rw[zM,yB hd,yN,zQ]
    exact d0
  ·have d0:=h.dr _ _ B
   have U:¬Br s a=true:=λq=>by rw[yL]at q;exact A5 (eq_of_beq q.1).symm
   rw[e1,ot U]at d0
   exact d0
theorem Runs.ri(ok:W.Ok)(r:Runs W u S R):RI W u S->RI W u R/\∀a∈R.ar,u<a.e.1:=by
 induction r with
 | stop h =>
  intro i
  refine⟨i,λa ha=>?_⟩
  rename_i S
  cases e:S.first with
  | none =>
   have O:S.ar.length<=S.at:=jP.mp e
   have hb:=gK (λi j=>AI ((S.ar.map AR.key).getD i (0,0)) ((S.ar.map AR.key).getD j (0,0))) ((S.ar.map AR.key).length-1)
   have G:S.at<=(S.ar.map AR.key).length-1:=hb
   rw[zB]at G
   have:0<S.ar.length:=List.length_pos_of_mem ha
   lia
  | some b =>
   have hb:=h b e
   obtain⟨pre,post,e1,_,_,B⟩:=CS.Bn e
   rw[e1]at ha
   rcases zW.mp ha with q|q
   ·have:b.e.1<a.e.1\/(b.e.1=a.e.1/\b.e.2.1<=a.e.2.1):=B a (yQ _ q)
    lia
   ·rcases zO.mp q with q|q
    ·rw[q];exact hb
    ·have:b.e.1<a.e.1\/(b.e.1=a.e.1/\b.e.2.1<=a.e.2.1):=B a (zU _ q)
     lia
 | step a h hu _ ih=>intro i;exact ih (i.step ok h hu)
theorem d_(ok:W.Ok)(hu:0<=u)(hL:W.ID L)(r:Runs W u (W.cS L) R):∀(s:Nat) l,R.ev[s]?=some l->(l.Pairwise λe f=>DF (ek e) (ek f))/\(∀e∈l,0<=e.1/\e.1<=u/\e.2.1∈W.wy s)/\l.filter JF=W.dd s (u+1).toNat:=by
 intro s l hs
 obtain⟨i,B⟩:=r.ri ok (O8 ok hL)
 refine⟨i.so s l hs,i.ev s l hs,?_⟩
 rw[←Wk.D0 ok s u hu,←i.dr s l hs,zM]
 have h1:(l.filter JF).filter (λe=>decide (e.1<=u))=l.filter JF:=qG.mpr λe G=>decide_eq_true (i.ev s l hs e (zR.mp G).1).2.1
 have h2:(dQ s R.ar 51).filter (λe=>decide (e.1<=u))=[]:=yJ.mpr λe G q=>by
  obtain⟨_,_,G⟩:=jC.mp G
  obtain⟨a,ha,rfl⟩:=yF.mp (zR.mp G).1
  have:=B a (zR.mp ha).1
  have:=of_decide_eq_true q
  lia
 rw[h1,h2,zQ]
def SP.op(p:SP)(e:fc):Option (Int×Int):=p.out (p.ws.idxOf e.2.1) e.2.2
def SP.fold(p:SP):List fc->SP
 | []=>p
 | e::l=>(p.go e).fold l
theorem SP.Dc(e:fc):∀(l:List fc)(p:SP),p.fold (l++[e])=(p.fold l).go e
 | [],_=>rfl
 | f::l,p=>SP.Dc e l (p.go f)
theorem SP.E7:∀(l:List fc)(p:SP),(p.fold l).bs=p.bs
 | [],_=>rfl
 | f::l,p=>(SP.E7 l (p.go f)).trans (p.BW _ _)
def Wk.dl(W:Wk)(b:Int):Int:=(W.be.getD b.toNat (0,0,0)).2.2
def BY(W:Wk)(e:fc):Option (Int×Int)->List fc
 | none=>[]
 | some (b,y)=>[(e.1+W.dl b,b,y)]
def CC(W:Wk)(p:SP):List fc->List fc
 | []=>[]
 | e::l=>BY W e (p.op e)++CC W (p.go e) l
def Wk.E6(W:Wk)(s:Nat)(l:List fc):List fc:=CC W (W.sp s) l
theorem iE(W:Wk)(e:fc):∀(l:List fc)(p:SP),CC W p (l++[e])=CC W p l++BY W e ((p.fold l).op e)
 | [],p=>by show BY W e (p.op e)++[]=[]++_;rw[zQ];rfl
 | f::l,p=>by
  show BY W f (p.op f)++CC W (p.go f) (l++[e])=(BY W f (p.op f)++CC W (p.go f) l)++BY W e (((p.go f).fold l).op e)
  rw[iE W e l (p.go f),yI]
theorem Wk.GV(W:Wk)(s:Nat)(l:List fc)(e:fc):W.E6 s (l++[e])=W.E6 s l++BY W e (((W.sp s).fold l).op e):=iE W e l _
theorem i8{e x:fc}{o:Option (Int×Int)}(h:x∈BY W e o):∃y,o=some (x.2.1,y)/\x=(e.1+W.dl x.2.1,x.2.1,y):=by
 cases o with
 | none=>cases h
 | some v =>
  obtain⟨b,y⟩:=v
  have:=zF.mp h
  subst this
  exact⟨y,rfl,rfl⟩
theorem kr{x:fc}:∀(l:List fc)(p:SP),x∈CC W p l->x.2.1∈p.bs/\∃e∈l,x.1=e.1+W.dl x.2.1
 | [],_,h=>by cases h
 | e::l,p,h=>by
  rcases zW.mp h with q|q
  ·obtain⟨y,h1,h2⟩:=i8 q
   exact⟨SP.Ah h1,e,zH,by rw[h2]⟩
  ·obtain⟨h1,f,h2,h3⟩:=kr l (p.go e) q
   rw[show(p.go e).bs=p.bs from p.BW _ _]at h1
   exact⟨h1,f,zL _ h2,h3⟩
abbrev B5(b:Int)(e:fc):Bool:=e.2.1==b
theorem kq{b:Int}:∀(l:List fc)(p:SP),(l.Pairwise λe f=>DF (ek e) (ek f))->((CC W p l).filter (B5 b)).Pairwise λe f=>e.1<=f.1
 | [],_,_=>.nil
 | e::l,p,h=>by
  obtain⟨h1,h2⟩:=yY.mp h
  show((BY W e (p.op e)++CC W (p.go e) l).filter (B5 b)).Pairwise _
  rw[zM]
  refine qA.mpr ⟨?_,kq l _ h2,λx hx y hy=>?_⟩
  ·cases p.op e with
   | none=>exact .nil
   | some v=>exact(jW _ _).sublist kZ
  ·obtain⟨x1,G⟩:=zR.mp hx
   obtain⟨O,U⟩:=zR.mp hy
   obtain⟨_,_,e1⟩:=i8 x1
   obtain⟨_,f,hf,e2⟩:=kr l _ O
   have w1:x.2.1=b:=eq_of_beq G
   have w2:y.2.1=b:=eq_of_beq U
   have:=h1 f hf
   have B:x.1=e.1+W.dl x.2.1:=by rw[e1]
   rw[w1]at B
   rw[w2]at e2
   have k:e.1<f.1\/(e.1=f.1/\e.2.1<=f.2.1):=this
   lia
def Wk.fr(W:Wk)(b:Int):Nat:=((W.be.getD b.toNat (0,0,0)).1).toNat
def Wk.to(W:Wk)(b:Int):Nat:=((W.be.getD b.toNat (0,0,0)).2.1).toNat
theorem Wk.IE(ok:W.Ok){b:Int}(h:b∈W.wy s)(hb:0<=b):W.to b=s:=by
 unfold Wk.wy at h
 rcases zW.mp h with q|q
 ·split at q
  ·rw[zF.mp q]at hb;lia
  ·cases q
 ·obtain⟨j,t,e,ht,hf⟩:=mM _ _ _ _ q
  rw[jD]at e
  subst e
  unfold Wk.to
  rw[zV,zA,ht]
  show t.2.1.toNat=s
  have:=eq_of_beq hf
  lia
abbrev isWs(g:Nat)(b:Int)(a:AR):Bool:=a.s==g&&B5 b a.e
structure RP(W:Wk)(u:Int)(S:CS):Prop where
 ri:RI W u S
 st:∀(s:Nat) l,S.ev[s]?=some l->S.st[s]?=some ((W.sp s).fold l)
 ro:∀b:Int,0<=b->b<W.be.length->∀l m,S.ev[W.fr b]?=some l->S.ev[W.to b]?=some m->(W.E6 (W.fr b) l).filter (B5 b)=m.filter (B5 b)++(S.ar.filter (isWs (W.to b) b)).map AR.e
theorem XW(ok:W.Ok)(hL:W.ID L):RP W u (W.cS L):=by
 walk_at "J"
 refine⟨O8 ok hL,λs l h=>?_,λb B b1 l m h1 h2=>?_⟩
 ·obtain⟨rfl,hs⟩:=hn s l h
  show((List.range W.st.length).map W.sp)[s]?=_
  rw[zG,qF hs]
  rfl
 ·obtain⟨rfl,_⟩:=hn _ l h1
  obtain⟨rfl,_⟩:=hn _ m h2
  have:((W.cS L).ar.filter (isWs (W.to b) b))=[]:=yJ.mpr λa ha q=>by
   have h3:=(hL.l a ha).2.1
   rw[yL]at q
   have:a.e.2.1=b:=eq_of_beq q.2
   lia
  rw[this]
  rfl
theorem RP.step(ok:W.Ok)(h:RP W u S){a:AR}(ha:S.first=some a)(hu:a.e.1<=u):RP W u (S.step W a):=by
 have yx:=h.ri.ok
 have hm:a∈S.ar:=zE ha
 obtain⟨h1,h2⟩:=yx.ar a hm
 obtain⟨pre,post,e1,e2,Ld,Le⟩:=CS.Bn ha
 have U:S.ev[a.s]?=some (S.ev.getD a.s []):=gy (by rw[yx.l2];exact h1)
 have DB:=h.st _ _ U
 have UG:S.st.getD a.s Ao=(W.sp a.s).fold (S.ev.getD a.s []):=by rw[zA,DB];rfl
 have Y:∀(s:Nat) l,(S.step W a).ev[s]?=some l->(s=a.s/\l=S.ev.getD a.s []++[a.e])\/(s≠a.s/\S.ev[s]?=some l):=λs l hs=>by
  have O:(S.ev.set a.s (S.ev.getD a.s []++[a.e]))[s]?=some l:=hs
  by_cases e:s=a.s
  ·subst e
   rw[yW (by rw[yx.l2];exact h1)]at O
   exact .inl ⟨rfl,(Option.some.inj O).symm⟩
  ·rw[y4 (Ne.symm e)]at O
   exact .inr ⟨e,O⟩
 have XX:(S.step W a).ar=pre++post++BX W (((W.sp a.s).fold (S.ev.getD a.s [])).op a.e) a.e.1 ((a.s:Int),((S.ev.getD a.s []).length:Int)):=by
  rw[←e2,←UG];rfl
 refine⟨h.ri.step ok ha hu,λs l hs=>?_,λb b0 b1 l m hl RD=>?_⟩
 ·have hg:(S.step W a).st[s]?=(S.st.set a.s ((S.st.getD a.s Ao).go a.e))[s]?:=rfl
  rw[hg]
  rcases Y s l hs with ⟨rfl,rfl⟩|⟨A5,O⟩
  ·rw[yW (by rw[yx.l1];exact h1),SP.Dc,UG]
  ·rw[y4 (Ne.symm A5)]
   exact h.st s l O
 ·-- before
  have O7:∀{x:Nat}{z:List fc},(S.step W a).ev[x]?=some z->∃z0,S.ev[x]?=some z0:=fun {x z} hz=>by
   rcases Y x z hz with ⟨rfl,_⟩|⟨_,Qx⟩
   ·exact⟨_,U⟩
   ·exact⟨_,Qx⟩
  obtain⟨l0,B⟩:=O7 hl
  obtain⟨m0,G⟩:=O7 RD
  have old:=h.ro b b0 b1 l0 m0 B G
  have so:=kq (W:=W) (b:=b) l0 (W.sp (W.fr b)) (h.ri.so _ _ B)
  have new:(W.E6 (W.fr b) l).filter (B5 b)=(W.E6 (W.fr b) l0).filter (B5 b)++((BX W (((W.sp a.s).fold (S.ev.getD a.s [])).op a.e) a.e.1 ((a.s:Int),((S.ev.getD a.s []).length:Int))).filter (isWs (W.to b) b)).map AR.e:=by
   have hx:∀x∈BY W a.e (((W.sp a.s).fold (S.ev.getD a.s [])).op a.e),W.fr x.2.1=a.s:=λx hx=>by
    obtain⟨y,q1,q2⟩:=i8 hx
    have:=SP.Ah q1
    rw[SP.E7]at this
    obtain⟨_,_,_,_,_,_,q7⟩:=Wk.Bm ok (show x.2.1∈W.lv (a.s:Int)from this)
    unfold Wk.fr
    rw[q7]
    exact zV _
   have hp:((BX W (((W.sp a.s).fold (S.ev.getD a.s [])).op a.e) a.e.1 ((a.s:Int),((S.ev.getD a.s []).length:Int))).filter (isWs (W.to b) b)).map AR.e=(BY W a.e (((W.sp a.s).fold (S.ev.getD a.s [])).op a.e)).filter (B5 b):=by
    cases ((W.sp a.s).fold (S.ev.getD a.s [])).op a.e with
    | none=>rfl
    | some v =>
     obtain⟨bb,y⟩:=v
     show(([arrOf W bb y a.e.1 _]).filter (isWs (W.to b) b)).map AR.e=([((a.e.1+W.dl bb,bb,y):fc)]).filter (B5 b)
     by_cases hb:bb=b
     ·subst hb
      rw[zZ (by show((W.be.getD bb.toNat (0,0,0)).2.1.toNat==W.to bb&&bb==bb)=true;rw[beq_self_eq_true,xF];exact beq_self_eq_true _),zZ (by exact beq_self_eq_true _)]
      rfl
     ·rw[yB (by intro q;rw[yL]at q;exact hb (eq_of_beq q.2)),yB (by intro q;exact hb (eq_of_beq q))]
      rfl
   rw[hp]
   rcases Y _ l hl with ⟨ef,rfl⟩|⟨A5,UH⟩
   ·rw[ef]at B ⊢
    rw[U]at B
    cases B
    rw[Wk.GV,zM]
   ·rw[B]at UH
    cases UH
    have hz:(BY W a.e (((W.sp a.s).fold (S.ev.getD a.s [])).op a.e)).filter (B5 b)=[]:=yJ.mpr λx NN q=>A5 (by rw[←hx x NN,eq_of_beq q])
    rw[hz,zQ]
  rw[new,old,XX,zM,zK,←yI]
  congr 1
  rw[e1,zM]
  by_cases hd:B5 b a.e=true
  ·have Ny:W.to b=a.s:=by
    have:a.e.2.1=b:=eq_of_beq hd
    rw[this]at h2
    exact Wk.IE ok h2 b0
   have O_:isWs (W.to b) b a=true:=by show(a.s==W.to b&&B5 b a.e)=true;rw[hd,Ny,beq_self_eq_true];rfl
   have Jg:m=m0++[a.e]:=by
    rcases Y _ m RD with ⟨_,rfl⟩|⟨A5,_⟩
    ·rw[Ny,U]at G
     cases G
     rfl
    ·exact absurd Ny A5
   have UI:pre.filter (isWs (W.to b) b)=[]:=yJ.mpr λc hc q=>by
    have UJ:((W.E6 (W.fr b) l0).filter (B5 b)).Pairwise λe f=>e.1<=f.1:=so
    rw[old,e1,zM,zK,zZ O_]at UJ
    have s2:=(qA.mp UJ).2.1
    have s3:=(qA.mp s2).2.2 c.e (List.mem_map_of_mem (zR.mpr ⟨hc,q⟩)) a.e zH
    have s4:a.e.1<c.e.1\/(a.e.1=c.e.1/\a.e.2.1<c.e.2.1):=(b9 _ _).mp (Ld c hc)
    rw[yL]at q
    have q1:c.e.2.1=b:=eq_of_beq q.2
    have q2:a.e.2.1=b:=eq_of_beq hd
    lia
   rw[UI,Jg,zM,zM,UI,zZ O_,zZ hd,yN,yI]
   rfl
  ·have O_:¬isWs (W.to b) b a=true:=λq=>by rw[yL]at q;exact hd q.2
   have Jg:m.filter (B5 b)=m0.filter (B5 b):=by
    rcases Y _ m RD with ⟨ef,rfl⟩|⟨_,Lz⟩
    ·rw[ef,U]at G
     cases G
     rw[zM,yB hd,yN,zQ]
    ·rw[G]at Lz
     cases Lz
     rfl
   rw[yB O_,Jg,zM]
theorem Runs.rp(ok:W.Ok)(r:Runs W u S R):RP W u S->RP W u R:=by
 induction r with
 | stop h=>exact λi=>i
 | step a h hu _ ih=>intro i;exact ih (i.step ok h hu)
theorem pI(ok:W.Ok)(hL:W.ID L)(r:Runs W u (W.cS L) R){b:Int}(G:0<=b)(b1:b<W.be.length){l m:List fc}(hl:R.ev[W.fr b]?=some l)(hm:R.ev[W.to b]?=some m) :
  (W.E6 (W.fr b) l).filter (λe=>B5 b e&&decide (e.1<=u))=m.filter (B5 b):=by
 have rp:=r.rp ok (XW ok hL)
 obtain⟨ri,B⟩:=r.ri ok (O8 ok hL)
 have e:=rp.ro b G b1 l m hl hm
 have:(W.E6 (W.fr b) l).filter (λe=>B5 b e&&decide (e.1<=u))=((W.E6 (W.fr b) l).filter (B5 b)).filter (λe=>decide (e.1<=u)):=by
  rw[kG]
  congr 1
  funext x
  exact vC _ _
 rw[this,e,zM]
 have h1:(m.filter (B5 b)).filter (λe=>decide (e.1<=u))=m.filter (B5 b):=qG.mpr λx hx=>decide_eq_true (ri.ev _ m hm x (zR.mp hx).1).2.1
 have h2:((R.ar.filter (isWs (W.to b) b)).map AR.e).filter (λe=>decide (e.1<=u))=[]:=yJ.mpr λx hx q=>by
  obtain⟨a,ha,rfl⟩:=yF.mp hx
  have:=B a (zR.mp ha).1
  have:=of_decide_eq_true q
  lia
 rw[h1,h2,zQ]
theorem eR(u:Int):∀{l:List fc},(l.Pairwise λa b=>a.1<=b.1)->l.filter (λe=>decide (e.1<=u))++l.filter (λe=>decide (u<e.1))=l
 | [],_=>rfl
 | x::l,h=>by
  obtain⟨h1,h2⟩:=yY.mp h
  by_cases z:x.1<=u
  ·rw[zZ (by exact decide_eq_true z),yB (by simp;lia),kN,eR u h2]
  ·have e1:(x::l).filter (λe=>decide (e.1<=u))=[]:=yJ.mpr λe B q=>by
    have q:=of_decide_eq_true q
    rcases zO.mp B with y|y
    ·rw[y]at q;exact z q
    ·have:=h1 e y;lia
   have e2:(x::l).filter (λe=>decide (u<e.1))=x::l:=qG.mpr λe B=>decide_eq_true (by
    rcases zO.mp B with y|y
    ·rw[y];lia
    ·have:=h1 e y;lia)
   rw[e1,e2]
   rfl
theorem ye(W:Wk)(b:Nat):W.dl (b:Int)=W.ov.getD b 0:=by
 unfold Wk.dl Wk.ov
 rw[zV,zA,zA,zG]
 cases W.be[b]? <;>rfl
theorem ky(W:Wk)(b:Nat):∀(l:List fc)(p:SP),(∀x∈p.bs,0<=x)->(CC W p l).filter (B5 (b:Int))=p.Ar W.ov b l
 | [],_,_=>rfl
 | e::l,p,h=>by
  show(BY W e (p.op e)++CC W (p.go e) l).filter (B5 (b:Int))=p.BB W.ov b e++(p.go e).Ar W.ov b l
  rw[zM,ky W b l (p.go e) (by unfold SP.go;rw[SP.BW];exact h)]
  congr 1
  unfold SP.op SP.BB
  cases eo:p.out (p.ws.idxOf e.2.1) e.2.2 with
  | none=>rfl
  | some o =>
   have hb:=h _ (SP.Ah (y:=o.2) eo)
   show([(e.1+W.dl o.1,o.1,o.2)]:List fc).filter (B5 (b:Int))=if o.1.toNat=b then [(e.1+W.ov.getD b 0,o.1,o.2)]else []
   by_cases z:o.1.toNat=b
   ·have B:o.1=(b:Int):=by lia
    rw[if_pos z,B,ye,zZ (by exact beq_self_eq_true _)]
    rfl
   ·rw[if_neg z,yB (by
     intro y
     have y:o.1=(b:Int):=by simpa [B5]using y
     lia)]
    rfl
def Wk.Cg(W:Wk)(u:Int)(R:CS):OA:=⟨R.st,W.ov,W.be.map λ_=>some (u+1),(List.range W.st.length).map λs:Nat=>(W.de (s:Int)).filter (λe=>decide (u<e.1)),(List.range W.be.length).map λb:Nat=>((W.sp (W.BV b)).Ar W.ov b (R.ev.getD (W.BV b) [])).filter (λe=>decide (u<e.1)),R.ev⟩
theorem rF{w:Int}:∀e∈n7 (W.Cg u R).de (W.Cg u R).re s w,u<e.1:=λe B=>by
 unfold n7 at B
 split at B
 ·replace B:e∈((List.range W.st.length).map λs:Nat=>(W.de (s:Int)).filter (λe=>decide (u<e.1))).getD s []:=B
  rw[zA,zG]at B
  cases h:(List.range W.st.length)[s]? with
  | none=>rw[h]at B;exact absurd B zI
  | some k=>rw[h]at B;exact of_decide_eq_true (zR.mp B).2
 ·replace B:e∈((List.range W.be.length).map λb:Nat=>((W.sp (W.BV b)).Ar W.ov b (R.ev.getD (W.BV b) [])).filter (λe=>decide (u<e.1))).getD w.toNat []:=B
  rw[zA,zG]at B
  cases h:(List.range W.be.length)[w.toNat]? with
  | none=>rw[h]at B;exact absurd B zI
  | some k=>rw[h]at B;exact of_decide_eq_true (zR.mp B).2
theorem mW{b:Nat}{g:Int}(h:(W.Cg u R).pr.getD b none=some g):g=u+1:=by
 replace h:(W.be.map λ_=>some (u+1)).getD b none=some g:=h
 rw[zA,zG]at h
 cases e:W.be[b]? with
 | none=>rw[e]at h;cases h
 | some c=>rw[e]at h;cases h;rfl
theorem vp{w x:Int}(h:(W.Cg u R).e s w=some x):u<x:=by
 unfold OA.e at h
 cases ev:n7 (W.Cg u R).de (W.Cg u R).re s w with
 | cons t r =>
  rw[ev]at h
  replace h:some t.1=some x:=h
  cases h
  exact rF (s:=s) (w:=w) t (by rw[ev];exact zH)
 | nil =>
  rw[ev]at h
  replace h:(if w=-1 then none else (W.Cg u R).pr.getD w.toNat none)=some x:=h
  split at h
  ·cases h
  ·rw[mW h];lia
theorem xp(ok:W.Ok)(hu:0<=u)(hL:W.ID L)(r:Runs W u (W.cS L) R)(c:Bq W R):Cf W (W.Cg u R):=by
 have B:∀s:Nat,(R.ev.getD s []).Pairwise (λe f=>DF (ek e) (ek f))/\∀e∈R.ev.getD s [],0<=e.1/\e.1<=u/\e.2.1∈W.wy s:=λs=>by
  rw[zA]
  cases h:R.ev[s]? with
  | none=>exact⟨.nil,λe z=>absurd z zI⟩
  | some l=>exact⟨(d_ ok hu hL r s l h).1,(d_ ok hu hL r s l h).2.1⟩
 have tt:∀s:Nat,(R.ev.getD s []).Pairwise λa b=>a.1<=b.1:=λs=>(B s).1.imp fun {a b} h=>by
  unfold DF ek at h
  lia
 refine⟨⟨c.l2,λs=>(B s).1.imp fun {a b} h=>?_,λs t ht=>((B s).2 t ht).2.2,λs t ht w hw x hx=>?_⟩,λs hs w hw=>?_,λs t ht=>((B s).2 t ht).1,λb bt hb=>?_⟩
 ·rw[cX]
  unfold DF ek at h
  unfold sF
  exact h
 ·have h1:=((B s).2 t ht).2.1
  have h2:=vp hx
  rw[cX]
  unfold sF
  dsimp only
  lia
 ·have hl:R.ev[s]?=some (R.ev.getD s []):=by
   rw[zA,zD (by rw[c.l2];exact hs)]
   rfl
  unfold OA.src n7
  by_cases G:w=-1
  ·rw[if_pos G,if_pos G]
   subst G
   have e1:=(d_ ok hu hL r s _ hl).2.2
   rw[←Wk.D0 ok s u hu]at e1
   have e2:(W.Cg u R).de.getD s []=(W.de (s:Int)).filter (λe=>decide (u<e.1)):=by
    show((List.range W.st.length).map _).getD s []=_
    rw[zA,zG,qF hs]
    rfl
   have e3:(R.ev.getD s []).filter (BQ (-1))=(W.de (s:Int)).filter (λe=>decide (e.1<=u)):=e1
   show(R.ev.getD s []).filter (BQ (-1))++_=_
   rw[e2,e3]
   exact eR u (Wk.NL W _)
  ·rw[if_neg G,if_neg G]
   obtain⟨b,bt,hb,g2,rfl⟩:=(Wk.A0 hw).resolve_left G
   have Y:=(zC.mp hb).1
   walk_at "L"
   rw[zV]
   have O:W.fr (b:Int)=W.BV b:=by unfold Wk.fr Wk.BV;rw[zV]
   have XY:W.to (b:Int)=s:=by
    unfold Wk.to
    rw[zV,zA,hb]
    show bt.2.1.toNat=s
    lia
   have DB:W.BV b<W.st.length:=by
    unfold Wk.BV
    rw[zA,hb]
    show bt.1.toNat<_
    lia
   have QX:R.ev[W.fr (b:Int)]?=some (R.ev.getD (W.BV b) []):=by
    rw[O,zA,zD (by rw[c.l2];exact DB)]
    rfl
   have rr:=pI ok hL r (b:=(b:Int)) (by lia) (by lia) QX (by rw[XY];exact hl)
   have e2:(W.Cg u R).re.getD b []=((W.sp (W.BV b)).Ar W.ov b (R.ev.getD (W.BV b) [])).filter (λe=>decide (u<e.1)):=by
    show((List.range W.be.length).map _).getD b []=_
    rw[zA,zG,qF Y]
    rfl
   have nb:∀x∈(W.sp (W.BV b)).bs,0<=x:=λx hx=>by
    obtain⟨j,_,_,_,h3⟩:=Wk.AZ (W:=W) (s:=(W.BV b:Int)) hx
    lia
   have pp:=ky W b (R.ev.getD (W.BV b) []) (W.sp (W.BV b)) nb
   have e3:(R.ev.getD s []).filter (BQ (b:Int))=((W.sp (W.BV b)).Ar W.ov b (R.ev.getD (W.BV b) [])).filter (λe=>decide (e.1<=u)):=by
    rw[←pp,kG]
    show(R.ev.getD s []).filter (B5 (b:Int))=_
    rw[←rr,O]
    unfold Wk.E6
    refine j0 λe _=>?_
    rw[vC]
   have so:((W.sp (W.BV b)).Ar W.ov b (R.ev.getD (W.BV b) [])).Pairwise λa b=>a.1<=b.1:=by
    rw[←pp]
    exact kq _ _ (B (W.BV b)).1
   show(R.ev.getD s []).filter (BQ (b:Int))++_=_
   rw[e2,e3]
   exact eR u so
 ·cases U:(W.Cg u R).pr.getD b none with
  | none =>
   exfalso
   replace U:(W.be.map λ_=>some (u+1)).getD b none=none:=U
   rw[zA,zG,hb]at U
   cases U
  | some g =>
   rw[mW U]
   cases ec:(W.Cg u R).zr bt.1.toNat (W.wy bt.1) with
   | none=>exact cg _
   | some x =>
    unfold OA.zr at ec
    obtain⟨w,hw,he⟩:=yZ.mp (qY.mp ec).1
    have:=vp (W:=W) (u:=u) (R:=R) (s:=bt.1.toNat) (w:=w) (x:=x) he
    have:=(ok.EK bt (zE hb)).2.2.2.2.1
    show u+1<=x+bt.2.2
    lia
theorem rq(ok:W.Ok)(ca:Cf W A)(cb:Cf W (W.Cg u R))(ag:Eg A (W.Cg u R))(hs:s<W.st.length){a:fc}(e:A.ge.getD s []=(W.Cg u R).ge.getD s []++a::rest):u<a.1:=by
 have G:a∈A.ge.getD s []:=by rw[e];exact zU _ zH
 have hw:=ca.ord.wy s a G
 have O:=ca.ev _ hs _ hw
 rw[e]at O
 have Bg:=eG O
 have B:=cb.ev _ hs _ hw
 cases ev:n7 (W.Cg u R).de (W.Cg u R).re s a.2.1 with
 | nil =>
  rw[ev,zQ]at B
  by_cases wd:a.2.1=-1
  ·unfold OA.src at Bg B
   rw[if_pos wd]at Bg B
   rw[←B]at Bg
   have:=(zC.mp Bg).1
   lia
  ·obtain⟨b',U,Y,eb,e0⟩:=Wk.BC hw wd
   rw[eb]at Bg B ev
   rw[dY e0]at Bg B
   have d:=eE ok ca cb ag (a.1.toNat+1) b' U Y _ a Bg (by have:=ca.nn s a G;lia) (by rw[←B];exact zJ _)
   cases eg:(W.Cg u R).pr.getD b' none with
   | none=>rw[eg]at d;exact d.elim
   | some g =>
    rw[eg]at d
    have:=mW eg
    have d:g<=a.1:=d
    lia
 | cons h r =>
  have hh:=rF (W:=W) (u:=u) (R:=R) (s:=s) (w:=a.2.1) h (by rw[ev];exact zH)
  rw[ev]at B
  have NI:((W.Cg u R).src W s a.2.1)[(((W.Cg u R).ge.getD s []).filter (BQ a.2.1)).length]?=some h:=by
   rw[←B,zX (zJ _),qN]
   rfl
  rw[eU (ag.src W _ _) Bg NI]
  exact hh
theorem sg(ok:W.Ok)(ca:Cf W A)(U:Cf W (W.Cg u R))(G:Eg A (W.Cg u R))(hs:s<W.st.length):A.ge.getD s [] <+: R.ev.getD s []\/∃rest,A.ge.getD s []=R.ev.getD s []++rest/\∀e∈rest,u<e.1:=by
 rcases G s with z|⟨rest,er⟩
 ·exact .inl z
 ·refine .inr ⟨rest,er.symm,λe O=>?_⟩
  cases rest with
  | nil=>exact absurd O zI
  | cons a rest =>
   have b:=rq ok ca U G hs er.symm
   have so:=ca.ord.so s
   rw[←er]at so
   have B:=(qA.mp so).2.1
   rcases zO.mp O with z|z
   ·rw[z];exact b
   ·have:=(cX _ _).mp ((yY.mp B).1 e z)
    unfold sF at this
    lia
theorem uG(ok:W.Ok)(ca:Cf W A)(cb:Cf W (W.Cg u R))(ag:Eg A (W.Cg u R))(U:∀s:Nat,∀e∈R.ev.getD s [],e.1<=u)(XZ:∀s:Nat,s<W.st.length->∀w∈W.wy s,∀x,A.e s w=some x->u<x)(hs:s<W.st.length):(A.ge.getD s []).filter (upTo u)=R.ev.getD s []:=by
 have all:∀{l:List fc},(∀e∈l,e.1<=u)->l.filter (upTo u)=l:=λh=>qG.mpr λe he=>decide_eq_true (h e he)
 rcases sg ok ca cb ag hs with ⟨rest,er⟩|⟨rest,er,hr⟩
 ·cases rest with
  | nil =>
   rw[zQ]at er
   rw[er]
   exact all (U s)
  | cons a rest =>
   exfalso
   have Y:a∈R.ev.getD s []:=by rw[←er];exact zU _ zH
   have au:=U s a Y
   have hw:=cb.ord.wy s a Y
   have O:=cb.ev _ hs _ hw
   replace O:(R.ev.getD s []).filter (BQ a.2.1)++_=_:=O
   rw[←er]at O
   have G:=eG O
   have B:=ca.ev _ hs _ hw
   have fr:=XZ s hs _ hw
   cases ev:n7 A.de A.re s a.2.1 with
   | nil =>
    rw[ev,zQ]at B
    by_cases wd:a.2.1=-1
    ·unfold OA.src at G B
     rw[if_pos wd]at G B
     rw[←B]at G
     have:=(zC.mp G).1
     lia
    ·obtain⟨b',GH,Cb,eb,e0⟩:=Wk.BC hw wd
     rw[eb]at G B ev fr
     rw[dY e0]at G B
     have d:=eE ok cb ca ag.symm (a.1.toNat+1) b' GH Cb _ a G (by have:=cb.nn s a Y;lia) (by rw[←B];exact zJ _)
     rw[←i4 ev]at d
     cases eg:A.e s (b':Int) with
     | none=>rw[eg]at d;exact d.elim
     | some g =>
      rw[eg]at d
      have d:g<=a.1:=d
      have:=fr g eg
      lia
   | cons h r =>
    rw[ev]at B
    have Bg:(A.src W s a.2.1)[((A.ge.getD s []).filter (BQ a.2.1)).length]?=some h:=by
     rw[←B,zX (zJ _),qN]
     rfl
    have:=eU (ag.src W _ _) Bg G
    have:=fr h.1 (g_ ev)
    subst h
    lia
 ·rw[er,zM,all (U s),yJ.mpr,zQ]
  intro e he z
  have:=of_decide_eq_true z
  have:=hr e he
  lia
theorem vc(ok:W.Ok)(O:Cf W B):∀(ts:List Nat)(A:OA),(∀t∈ts,t<W.st.length)->Inv W A->(∃m,AG m A)->La W A->Eg B A->Inv W (A.go ts)/\La W (A.go ts)/\Eg B (A.go ts)
 | [],_,_,I,_,c,G=>⟨I,c,G⟩
 | t::ts,A,h,I,⟨m,ao⟩,c,G=>by
  have ht:=h t zH
  exact vc ok O ts (A.step t).1 (λx hx=>h x (zL _ hx)) (dO ok I ao ht).inv ⟨_,oJ I ao ht⟩ (u5 ok I ao c ht) (rh ok O I ao c.cf G ht)
theorem uD(B:OA):Eg B W.oa:=λs=>.inr (by rw[show W.oa.ge.getD s []=[]from cJ W.st s];exact List.nil_prefix)
theorem xZ(ok:W.Ok)(G:Cf W B){ts:List Nat}(h:∀t∈ts,t<W.st.length):Inv W (W.oa.go ts)/\La W (W.oa.go ts)/\Eg B (W.oa.go ts):=vc ok G ts W.oa h (gL ok) ⟨0,mE W⟩ (wK ok) (uD B)
theorem xt{r:Nat}:∀t∈(List.replicate r (List.range W.st.length)).flatten,t<W.st.length:=λt ht=>by
 obtain⟨l,hl,h⟩:=jB.mp ht
 rw[List.eq_of_mem_replicate hl]at h
 exact y8.mp h
theorem wr(h:∀s:Nat,s<W.st.length->∀x,A.zr s (W.wy s)=some x->u<x):∀s:Nat,s<W.st.length->∀w∈W.wy s,∀x,A.e s w=some x->u<x:=λs hs w hw x hx=>by
 have:=i6 (A:=A) (s:=s) hw
 rw[hx]at this
 cases e:A.zr s (W.wy s) with
 | none=>rw[e]at this;exact this.elim
 | some c =>
  rw[e]at this
  exact jE (h s hs c e) this
theorem yq(ok:W.Ok)(hu:0<=u)(hL:W.ID L)(r:Runs W u (W.cS L) R):∀s:Nat,∀e∈R.ev.getD s [],e.1<=u:=λs e B=>by
 rw[zA]at B
 cases h:R.ev[s]? with
 | none=>rw[h]at B;exact absurd B zI
 | some l=>rw[h]at B;exact((d_ ok hu hL r s l h).2.1 e B).2.1
theorem rV(ok:W.Ok)(hu:0<=u)(hL:W.ID L)(rn:Runs W u (W.cS L) R)(co:Bq W R){r:Nat}(em:((W.oa.zT W.st.length r).DD W.st.length u).isEmpty=true)(hs:s<W.st.length):((W.oa.zT W.st.length r).ge.getD s []).filter (upTo u)=R.ev.getD s []:=by
 have B:=xp ok hu hL rn co
 obtain⟨I,c,G⟩:=xZ ok B (ts:=(List.replicate r (List.range W.st.length)).flatten) xt
 rw[←oi]at I c G
 refine uG ok c.cf B G.symm (yq ok hu hL rn) (wr λs hs x hx=>?_) hs
 have:=nO.mp em s hs
 rw[I.ws hs,hx]at this
 have:=of_decide_eq_false this
 lia
inductive GW(vs:List V)(H:Hp)(Q:VK)(wc:XK):Prop where
 | mk (n:Int) (ui:vs=[.str (mn n)]) (uj:-1000000000<=n) (zf:n<=1000000000) (zq:∀H',c0 H H'->Q (.int n) H'):GW vs H Q wc
theorem gb{n:Int}(h:n.natAbs<=1000000000):n.natAbs.log2<1920:=by
 by_cases h0:n.natAbs=0
 ·rw[h0];decide
 ·exact(Nat.log2_lt h0).mpr (qJ h (yC (by decide:1000000000<2 ^ 30) (Nat.pow_le_pow_right (by decide) (by decide))))
theorem qk{c:Nat}(h:48<=c/\c<=57):(!(Builtin.Str.occurrences "0123456789" ⟨#[c]⟩ 0 ("0123456789":Str).length 1).isEmpty)=true:=by
 have:c=48\/c=49\/c=50\/c=51\/c=52\/c=53\/c=54\/c=55\/c=56\/c=57:=by lia
 rcases this with r|r|r|r|r|r|r|r|r|r <;>subst r <;>decide +kernel
theorem m6(k:Nat):PySem.Txt.startswith (mn (Int.negSucc k)) "-"=true:=by
 have e:=d9 k
 have hl:(mn (Int.negSucc k)).length=(dg (k+1)).length+1:=by show(mn (Int.negSucc k)).cps.size=_;rw[←yU,e,yD]
 unfold PySem.Txt.startswith
 rw[PySem.StrLaws.subAt_eq,e,hl]
 rw[show(List.take ("-":Str).length (List.drop 0 (45::dg (k+1)))==("-":Str).cps.toList)=true from rfl,xF]
 exact decide_eq_true (by show 0+1<=_;lia)
theorem nF(m:Nat):PySem.Txt.startswith (mn (Int.ofNat m)) "-"=false:=by
 have e:(mn (Int.ofNat m)).cps.toList=dg m:=dI m
 unfold PySem.Txt.startswith
 rw[PySem.StrLaws.subAt_eq,e]
 obtain⟨d,r,B⟩:∃d r,dg m=d::r:=by
  cases q:dg m with
  | nil=>exact absurd q (ll m)
  | cons d r=>exact⟨d,r,rfl⟩
 have hd:=eL m d (by rw[B];exact zH)
 rw[B]
 have:(List.take ("-":Str).length (List.drop 0 (d::r))==("-":Str).cps.toList)=false:=by
  show([d]==[45])=false
  simp
  lia
 rw[this,Bool.and_false]
theorem pB(k:Nat):(PySem.Txt.slice (mn (Int.negSucc k)) (some 1) none).cps.toList=dg (k+1):=by
 have e:=d9 k
 have hl:(mn (Int.negSucc k)).length=(dg (k+1)).length+1:=by show(mn (Int.negSucc k)).cps.size=_;rw[←yU,e,yD]
 have es:Builtin.Str.strSliceIndices (some 1) none 1 (mn (Int.negSucc k)).length=Builtin.Str.strSliceIndices (some ((1:Nat):Int)) (some (((mn (Int.negSucc k)).length:Nat):Int)) 1 (mn (Int.negSucc k)).length:=by
  have:¬(((mn (Int.negSucc k)).length:Int)<0):=by lia
  have e2:max (0:Int) (min ((mn (Int.negSucc k)).length:Int) ((mn (Int.negSucc k)).length:Int))=((mn (Int.negSucc k)).length:Int):=by lia
  simp [Builtin.Str.strSliceIndices,this,e2]
 have pl:=PySem.StrLaws.sliced_plain (mn (Int.negSucc k)) (a:=1) (b:=(mn (Int.negSucc k)).length) (by lia) (zJ _)
 have B:=PySem.StrLaws.strSliceIndices_plain (a:=1) (b:=(mn (Int.negSucc k)).length) (len:=(mn (Int.negSucc k)).length) (by lia) (zJ _)
 unfold PySem.Txt.slice
 rw[es,if_neg (by rw[B];simp;lia),pl,e]
 show(List.take ((mn (Int.negSucc k)).length-1) (dg (k+1))).toArray.toList=_
 rw[hl,Nat.add_sub_cancel]
 simp
theorem wY{f:Addr}{t1 t2:Tok}(F:Ac K "number_of" "number_of" (top 13) f fd)(T:Txt K mg)(G:mg "FIGURES"=some (.str "0123456789" t1))(B:mg "MOST_FIGURES"=some (.int 10 t2)):mu P w K mg base Aa 1 f fd ["word"] GW:=by
 exists ["word","figures","value"]
 obtain⟨n,rfl,h1,h2,q⟩:=h
 have hw:=fg (n:=n) (by lia) (by lia)
 have U:=ni (n:=n) (by lia) (by lia)
 refine⟨_,((1>>=c6 (dk (bZ Z9 PySem.F.slot_str_startswith PySem.F.type_str_startswith ix {0} (bE>>a_))) (c9 xr {0} (cM bh) du) {0})<|>bL ((gQ (hG (gT gn gn bh (z_ jg (by rfl) T.IL FE ({1}>>a_)) (cK (v:=.int 10) (by rfl) B ⟨_,rfl⟩))) (hV (hG (dk (z_ (iB rfl) (by rfl) T.Jx tP ((["sign"]^^^[]^^^[]^^^(wz {1})^^^bB^^^(cF o6 {0} (cK (v:=.str "0123456789") (by rfl) (by exact G) ⟨_,rfl⟩) (by rfl)))>>a_))))))).pt (@ei _ _ _ c7) bz<|>(2>>=b_ pO (by rfl) T.Jw rH ({0}>>a_))<|>bL (bp mq (b_ dM (by rfl) T.C8 fV ({2}>>a_)) {0} (bq _)) (@ei _ _ _ c7) bz<|>(~~~{2})),?_⟩
 refine⟨_,rfl,rfl,_,_,rfl,rfl,_,rfl,?_⟩
 cases n with
 | ofNat m =>
  rw[nF]
  refine nj ⟨_,rfl,?_⟩
  have Y:(mn (Int.ofNat m)).cps.toList=dg m:=dI m
  have hm:m<=1000000000:=by have:(m:Int)<=1000000000:=h2;lia
  have RE:=kg (m:=m) (by lia)
  ·have lz:(mn (Int.ofNat m)).length=(dg m).length:=by show(mn (Int.ofNat m)).cps.size=_;rw[←yU,Y]
   have lp:0<(dg m).length:=q9.mpr (ll m)
   refine⟨_,rfl,_,rfl,(by rw[a00];lia),_,_,rfl,rfl,_,rfl,?_⟩
   refine CT (λ_=>?_) (λhh=>absurd (decide_eq_true (show(1:Int)<=(mn (Int.ofNat m)).length by lia)) hh)
   refine⟨_,_,rfl,rfl,_,rfl,?_⟩
   rw[decide_eq_true (show((mn (Int.ofNat m)).length:Int)<=10 by lia)]
   refine nj ?_
   refine⟨_,rfl,_,rfl,λD nD=>?_⟩
   refine lQ (z:=mn (Int.ofNat m)) (λi H5=>c0 H H5/\H5 D=some (.lst ((List.replicate i true).map V.bl))) ⟨c0.new nD,bg⟩ ?_ ?_
   ·rintro i c H5 mm Wf hc ⟨s5,h5⟩ nx
    have O:c∈dg m:=by rw[←Y];exact zE (i:=i) (by rw[qH];exact hc)
    have hi:i<(mn (Int.ofNat m)).length:=(kH.mp hc).1
    refine⟨_,rfl,_,_,rfl,rfl,_,h5,bo (by rw[zB,j2];lia),?_⟩
    rw[qk (eL m c O)]
    exact nx _ ⟨s5.upd nD,by rw[bg,j5,zK];rfl⟩
   ·rintro H5 ⟨s5,h5⟩
    refine⟨D,_,rfl,eH.of h5,_,rfl,?_⟩
    rw[show(List.replicate (mn (Int.ofNat m)).cps.size true).all id=true from by simp]
    refine nj ?_
    refine⟨_,rfl,_,_,rfl,U,by lia,?_⟩
    refine⟨_,rfl,_,_,rfl,rfl,(λi hi=>by cases hi;exact gb (by lia)),?_⟩
    refine⟨_,rfl,rfl,_,rfl,?_⟩
    refine CT (λhh=>?_) (λ_=>⟨_,rfl,q _ s5⟩)
    simp [mn]at hh
 | negSucc k =>
  rw[m6]
  refine vr ⟨_,rfl,_,rfl,_,rfl,(by lia),?_⟩
  obtain⟨m,em⟩:∃m,m=k+1:=⟨_,rfl⟩
  have Y:(PySem.Txt.slice (mn (Int.negSucc k)) (some 1) none).cps.toList=dg m:=by rw[em];exact pB k
  have hm:m<=1000000000:=by rw[vW]at h1;lia
  have RE:=kg (m:=m) (by lia)
  ·have lz:(PySem.Txt.slice (mn (Int.negSucc k)) (some 1) none).length=(dg m).length:=by show(PySem.Txt.slice (mn (Int.negSucc k)) (some 1) none).cps.size=_;rw[←yU,Y]
   have lp:0<(dg m).length:=q9.mpr (ll m)
   refine⟨_,rfl,_,rfl,(by rw[a00];lia),_,_,rfl,rfl,_,rfl,?_⟩
   refine CT (λ_=>?_) (λhh=>absurd (decide_eq_true (show(1:Int)<=(PySem.Txt.slice (mn (Int.negSucc k)) (some 1) none).length by lia)) hh)
   refine⟨_,_,rfl,rfl,_,rfl,?_⟩
   rw[decide_eq_true (show((PySem.Txt.slice (mn (Int.negSucc k)) (some 1) none).length:Int)<=10 by lia)]
   refine nj ?_
   refine⟨_,rfl,_,rfl,λD nD=>?_⟩
   refine lQ (z:=PySem.Txt.slice (mn (Int.negSucc k)) (some 1) none) (λi H5=>c0 H H5/\H5 D=some (.lst ((List.replicate i true).map V.bl))) ⟨c0.new nD,bg⟩ ?_ ?_
   ·rintro i c H5 mm Wf hc ⟨s5,h5⟩ nx
    have O:c∈dg m:=by rw[←Y];exact zE (i:=i) (by rw[qH];exact hc)
    have hi:i<(PySem.Txt.slice (mn (Int.negSucc k)) (some 1) none).length:=(kH.mp hc).1
    refine⟨_,rfl,_,_,rfl,rfl,_,h5,bo (by rw[zB,j2];lia),?_⟩
    rw[qk (eL m c O)]
    exact nx _ ⟨s5.upd nD,by rw[bg,j5,zK];rfl⟩
   ·rintro H5 ⟨s5,h5⟩
    refine⟨D,_,rfl,eH.of h5,_,rfl,?_⟩
    rw[show(List.replicate (PySem.Txt.slice (mn (Int.negSucc k)) (some 1) none).cps.size true).all id=true from by simp]
    refine nj ?_
    refine⟨_,rfl,_,_,rfl,U,by lia,?_⟩
    refine⟨_,rfl,_,_,rfl,rfl,(λi hi=>by cases hi;exact gb (by lia)),?_⟩
    refine⟨_,rfl,rfl,_,rfl,?_⟩
    refine CT (λhh=>?_) (λ_=>⟨_,rfl,q _ s5⟩)
    simp [mn]at hh
def nl:Str:=⟨#[10]⟩
def sp:Str:=⟨#[32]⟩
def AQ:EY->List Str
 | (k,none)=>[k]
 | (k,some n)=>[k,mn n]
def Au(t:fc):List Str:=[mn t.1,mn t.2.1,mn t.2.2]
def zx(name:Str)(ts:List Str):Str:=PySem.Txt.join sp (name::ts)
def Wk.rows(W:Wk):List Str:=W.st.map (λs=>zx "station" (AQ s))++W.be.map (λt=>zx "belt" (Au t))++W.fe.map (λt=>zx "feed" (Au t))
def Wk.CD(W:Wk):Nat->List Str
 | 0=>[]
 | 1=>W.st.map (λs=>zx "station" (AQ s))
 | 2=>W.st.map (λs=>zx "station" (AQ s))++W.be.map (λt=>zx "belt" (Au t))
 | _=>W.rows
def VT(v:V)(t:Str):Prop:=KD v=some t/\(∀i,v=.int i->i.natAbs.log2<1920)/\t.length<=20
inductive Am(H:Hp)(x:V)(ts:List Str):Prop where
 | mk (p vs:_) (ui:x=.ref p) (uj:H p=some (.tup vs)) (zf:Paired VT vs ts) (zq:ts.length<=3):Am H x ts
theorem ip{n:Int}(h1:-1000000000<=n)(h2:n<=1000000000):VT (.int n) (mn n):=⟨rfl,λi e=>by cases e;exact gb (by lia),yE (fg (by lia) (by lia)) (by decide)⟩
theorem mo{x:V}{s:EY}(ok:DR s)(h:zu H x s):Am H x (AQ s):=by
 obtain⟨p,rfl,e⟩:=h
 rcases ok with ⟨n,rfl,a,b⟩|rfl|⟨n,rfl,a,b⟩|rfl|rfl
 ·exact⟨p,_,rfl,e,.cons ⟨rfl,λi e=>(by cases e),(by decide)⟩ (.cons (ip a b) .nil),(by show 2<=3;decide)⟩
 ·exact⟨p,_,rfl,e,.cons ⟨rfl,λi e=>(by cases e),(by decide)⟩ .nil,by decide⟩
 ·exact⟨p,_,rfl,e,.cons ⟨rfl,λi e=>(by cases e),(by decide)⟩ (.cons (ip (by lia) (by lia)) .nil),(by show 2<=3;decide)⟩
 ·exact⟨p,_,rfl,e,.cons ⟨rfl,λi e=>(by cases e),(by decide)⟩ .nil,by decide⟩
 ·exact⟨p,_,rfl,e,.cons ⟨rfl,λi e=>(by cases e),(by decide)⟩ .nil,by decide⟩
theorem fQ{x:V}(a1:-1000000000<=t.1)(a2:t.1<=1000000000)(b1:-1000000000<=t.2.1)(b2:t.2.1<=1000000000)(B:-1000000000<=t.2.2)(G:t.2.2<=1000000000)(h:d4 H x t):Am H x (Au t):=by
 obtain⟨p,rfl,e⟩:=h
 exact⟨p,_,rfl,e,.cons (ip a1 a2) (.cons (ip b1 b2) (.cons (ip B G) .nil)),(by show 3<=3;decide)⟩
theorem nG(ok:W.Ok){sa ba:Addr}(h2:B9 H sa ba fa W xs ys zs){x y:V}(hx:([.str "station",.str "belt",.str "feed"]:List V)[i]?=some x)(hy:([.ref sa,.ref ba,.ref fa]:List V)[i]?=some y) :
  ∃(name:Str)(G:Addr)(us:List V)(B:List (List Str)),x=.str name/\y=.ref G/\H G=some (.lst us)/\Paired (Am H) us B/\W.CD (i+1)=W.CD i++B.map (zx name)/\B.length<=60/\name.length<=10:=by
 have s8:=ok.s8
 have BN:=ok.BN
 have DA:=ok.DA
 rcases i with _|_|_|i
 ·cases hx;cases hy
  exact⟨_,sa,xs,W.st.map AQ,rfl,rfl,h2.hs,cx (λa b hb h=>mo (ok.Ea b hb) h) h2.ps,by rw[qD];rfl,by rw[zB];lia,by decide⟩
 ·cases hx;cases hy
  exact⟨_,ba,ys,W.be.map Au,rfl,rfl,h2.hb,cx (λa b hb h=>by obtain⟨O,U,Y,q4,q5,q6⟩:=ok.EK b hb;exact fQ (by lia) (by lia) (by lia) (by lia) (by lia) (by lia) h) h2.pb,by rw[qD];rfl,by rw[zB];lia,by decide⟩
 ·cases hx;cases hy
  exact⟨_,fa,zs,W.fe.map Au,rfl,rfl,h2.hf,cx (λa b hb h=>by obtain⟨O,U,Y,q4,q5,q6⟩:=ok.EZ b hb;exact fQ (by lia) (by lia) (by lia) (by lia) (by lia) (by lia) h) h2.pf,by rw[qD];rfl,by rw[zB];lia,by decide⟩
 ·cases hx
theorem Am.same(s:c0 H H'){x:V}(h:Am H x ts):Am H' x ts:=let ⟨p,vs,e,q,r,l⟩:=h;⟨p,vs,e,s _ _ q,r,l⟩
theorem fP(B:Str):∀ws:List Str,(Str.join B ws).length<=(ws.map (·.length)).sum+ws.length*B.length
 | []=>yH _
 | [x]=>by
  show x.length<=_
  simp
 | x::y::r=>by
  have ih:=fP B (y::r)
  show((x++B)++Str.join B (y::r)).length<=_
  rw[PySem.Str.length_append,PySem.Str.length_append,yM,qB,yD,vR]
  lia
theorem eY(hn:name.length<=10)(ht:∀t∈ts,t.length<=20)(hl:ts.length<=3):((name::ts).map (·.length)).sum+(name::ts).length*sp.length<=100:=by
 have h:=a05 (B:=20) ts ht
 have e:sp.length=1:=rfl
 rw[yM,qB,yD,e]
 lia
theorem uX(hn:name.length<=10)(ht:∀t∈ts,t.length<=20)(hl:ts.length<=3):(zx name ts).length<=100:=by
 have B:zx name ts=Str.join sp (name::ts):=a06 _ _
 rw[B]
 exact yE (fP sp _) (eY hn ht hl)
theorem iq{vs:List V}(h:Paired VT vs ts):∀t∈ts,t.length<=20:=by
 induction h with
 | nil=>intro t h;exact absurd h zI
 | cons p r ih =>
  intro t h
  rcases zO.mp h with e|e
  ·rw[e];exact p.2.2
  ·exact ih t e
theorem f9(ok:W.Ok)(i:Nat):(W.CD i).length<=80:=by
 have s8:=ok.s8
 have BN:=ok.BN
 have DA:=ok.DA
 rcases i with _|_|_|i
 ·exact yH _
 ·show(W.st.map _).length<=80
  rw[zB];lia
 ·show(W.st.map _++W.be.map _).length<=80
  rw[zN,zB,zB];lia
 ·show(W.st.map _++W.be.map _++W.fe.map _).length<=80
  rw[zN,zN,zB,zB,zB];lia
theorem mf(ok:W.Ok){sa ba:Addr}(h2:B9 H sa ba fa W xs ys zs):∀i,i<=3->∀r∈W.CD i,r.length<=100:=by
 intro i
 induction i with
 | zero=>intro _ r h;exact absurd h zI
 | succ i ih =>
  intro hi r h
  obtain⟨x,hx⟩:∃x,([.str "station",.str "belt",.str "feed"]:List V)[i]?=some x:=⟨_,zD (by show i<3;lia)⟩
  obtain⟨y,hy⟩:∃y,([.ref sa,.ref ba,.ref fa]:List V)[i]?=some y:=⟨_,zD (by show i<3;lia)⟩
  obtain⟨name,pa,us,Y,rfl,rfl,RF,B,G,U,hn⟩:=nG ok h2 hx hy
  rw[G]at h
  rcases zW.mp h with h|h
  ·exact ih (by lia) r h
  ·obtain⟨ts,O,rfl⟩:=yF.mp h
   obtain⟨j,hj⟩:=yS O
   have ME:=(zC.mp hj).1
   have hl:=B.length
   obtain⟨b,hb,pt,vs,_,_,Fc,l3⟩:=B.gt (i:=j) (zD (by lia))
   rw[hj]at hb
   cases hb
   exact uX hn (iq Fc) l3
inductive Dw(vs:List V)(H:Hp)(Q:VK)(wc:XK):Prop where
 | mk (w:Addr) (W:Wk) (ui:vs=[.ref w]) (uj:Ag H w W) (zf:W.Ok) (zq:∀H',c0 H H'->Q (.str (PySem.Txt.join nl W.rows)) H'):Dw vs H Q wc
theorem rZ{f aP:Addr}(F:Ac K "shown" "shown" (top 19) f fd)(T:Txt K mg)(G:mg "PARTS"=some (.ref aP))(hP:∀H,ze K H aP [.str "station",.str "belt",.str "feed"]):mu P w K mg base Aa 1 f fd ["works"] Dw:=by
 exists ["works","rows","name","part","told"]
 obtain⟨w,W,rfl,hw,ok,q⟩:=h
 obtain⟨sa,ba,fa,xs,ys,zs,h1,h2⟩:=hw.ex
 refine⟨_,((1>>=@bR _ _ _ _ a_)<|>cj PassesOwn.never rfl (tH false false rfl T.Jy (cK (v:=.ref _) (by rfl) G rfl>>{0}>>a_)) (ik rfl (bJ (fB (i:=2) nd rfl (by nofun)) (bJ (fB (i:=3) nd rfl (by nofun)) dW))) (@ei _ _ _ (cj PassesOwn.never rfl (bx (K:=K) rfl {3}) (fB (i:=4) nd rfl (by nofun)) (@ei _ _ _ (bC (bZ Z5 Z6 Z7 bH {1} (bZ Z9 a01 a02 fy bE (bu dF (@bR _ _ _ _ ({2}>>a_)) (["value"]^^^[]^^^[]^^^(cG (K:=K) rfl {4})^^^bB^^^(b_ dM (by rfl) T.C8 fV ({0}>>a_)))>>a_)>>a_))))))<|>(~~~(bZ Z9 a01 a02 fy bE ({1}>>a_)))),?_⟩
 refine⟨yH _,λaR nR=>?_⟩
 have sR:c0 H (upd H aR (.lst [])):=c0.new nR
 refine⟨_,rfl,aP,w,rfl,⟨_,(show Sq K _ false _ _ from hP _)⟩,⟨_,(show Sq K _ false _ _ from ze.of (sR _ _ h1))⟩,?_⟩
 refine nJ (K:=K) (b1:=false) (b2:=false) (a1:=aP) (a2:=w) (xs:=[.str "station",.str "belt",.str "feed"]) (ys:=[.ref sa,.ref ba,.ref fa]) (λi σ H7=>∃(v2 v3 v4:Option V),σ=[some (.ref w),some (.ref aR),v2,v3,v4]/\c0 H H7/\H7 aR=some (.lst ((W.CD i).map V.str)))
  ⟨_,_,_,rfl,sR,bg⟩ (λi σ H7 _ _=>hP _) (λi σ H7 _ ⟨_,_,_,_,s7,_⟩=>ze.of (s7 _ _ h1)) ?_ ?_
 ·rintro i x y σ H7 hx hy ⟨v2,v3,v4,rfl,s7,h7⟩ p np
  obtain⟨name,pa,us,UK,rfl,rfl,RF,O,RG,X0,hn⟩:=nG ok h2 hx hy
  have s8:c0 H7 (upd H7 p (.tup [.str name,.ref pa])):=c0.new np
  have Y:=s7.trans s8
  have h8:=s8 _ _ h7
  refine⟨p,_,rfl,ze.of bg,rfl,⟨_,_,rfl,⟨_,_,rfl,rfl,?_⟩⟩⟩
  refine⟨_,rfl,pa,rfl,⟨_,eH.of (Y _ _ RF)⟩,?_⟩
  generalize (upd H7 p (.tup [.str name,.ref pa]))=H8 at s8 Y h8 ⊢
  refine dh (K:=K) (a:=pa) (xs:=us) (λj σ U=>∃v4:Option V,σ=[some (.ref w),some (.ref aR),some (.str name),some (.ref pa),v4]/\c0 H U/\U aR=some (.lst ((W.CD i++(UK.take j).map (zx name)).map V.str)))
   ⟨_,rfl,Y,by rw[qX,jM,zQ];exact h8⟩ (λj σ U _ ⟨_,_,e,_⟩=>eH.of (e _ _ RF)) ?_ ?_
  ·rintro j z σ U hz ⟨v,rfl,s9,h9⟩
   obtain⟨ts,ht,pt,vs,rfl,DI,Fc,X1⟩:=O.gt hz
   have Jv:=iq Fc
   have l9:(W.CD i++(UK.take j).map (zx name)).length<=900:=by
    have:=f9 ok i
    rw[zN,zB,yA]
    lia
   refine⟨_,rfl,CH h9,rfl,_,rfl,(by show 1<=sizeLine;decide),λl1 RH=>?_⟩
   have Lf:c0 U (upd U l1 (.lst [.str name])):=c0.new RH
   refine⟨_,rfl,pt,rfl,⟨_,ze.of ((s9.trans Lf) _ _ DI)⟩,λD nD=>?_⟩
   refine dj (a:=pt) (xs:=vs) (λk H5=>c0 (upd U l1 (.lst [.str name])) H5/\H5 D=some (.lst ((ts.take k).map V.str))) ⟨c0.new nD,bg⟩ (λk H5 _ p=>ze.of (p.1 _ _ ((s9.trans Lf) _ _ DI))) ?_ ?_
   ·rintro k v H5 m Wf hv ⟨s5,h5⟩ nx
    obtain⟨t,ht,e1,e2,e3⟩:=Fc.gt hv
    refine⟨_,rfl,v,t,rfl,e1,e2,_,h5,bo (by rw[zB,yA];lia),nx _ ⟨s5.upd nD,?_⟩⟩
    rw[bg,yR,ht,zK]
    rfl
   ·rintro H5 ⟨s5,h5⟩
    rw[Fc.length,zY]at h5
    refine⟨l1,D,_,_,rfl,rfl,s5 _ _ bg,h5,(by rw[a00,zB,kU];lia),λl3 Hl=>?_⟩
    have DY:c0 H5 (upd H5 l3 (.lst ([.str name]++ts.map V.str))):=c0.new Hl
    have UL:=Lf.trans (s5.trans DY)
    refine⟨_,l3,name::ts,rfl,rfl,eH.of bg,yE (eY hn Jv X1) (by decide),?_⟩
    refine⟨_,_,_,rfl,rfl,UL _ _ h9,bo (by rw[zB];lia),⟨_,rfl,(s9.trans UL).upd nR,?_⟩⟩
    rw[bg,yR,ht]
    simp only [zK,yI]
    rfl
  ·rintro σ U ⟨v,rfl,s9,h9⟩
   refine⟨_,_,_,rfl,s9,?_⟩
   rw[h9,RG,O.length,zY]
 ·rintro σ H7 ⟨v2,v3,v4,rfl,s7,h7⟩
  refine⟨rfl,_,rfl,_,aR,W.rows,rfl,rfl,eH.of h7,?_,q _ s7⟩
  have hr:=a05 (B:=100) W.rows (mf ok h2 3 (zJ _))
  have hc:=f9 ok 3
  have e1:("\n":Str).length=1:=rfl
  have Jo:W.rows.length<=80:=hc
  rw[e1]
  lia
inductive BD(K:PySem.W.Frag)(vs:List V)(H:Hp)(Q:VK)(wc:XK):Prop where
 | mk (w a0 l:Addr) (rest xs:List V) (ns:List Int) (ui:vs=[.ref w,.ref l]) (uj:ze K H w (.ref a0::rest)) (zf:eH K H a0 xs) (zq:eH K H l (ns.map V.int)) (Ai:(∀n∈ns,0<=n/\n<xs.length)) (AA:Q .y2 H):BD K vs H Q wc
inductive Lg(K:PySem.W.Frag)(x:V)(p:Int×Int):Prop where
 | mk (a:_) (ui:x=.ref a) (uj:∀H,ze K H a [.int p.1,.int p.2]):Lg K x p
inductive BE(K:PySem.W.Frag)(vs:List V)(H:Hp)(Q:VK)(wc:XK):Prop where
 | mk (l b:Addr) (ns:List Int) (bs:List V) (ps:List (Int×Int)) (ui:vs=[.ref l,.ref b]) (uj:H l=some (.lst (ns.map V.int))) (zf:(∀H,ze K H b bs)) (zq:Paired (Lg K) bs ps) (Ai:(∀(i:Nat) n p,ns[i]?=some n->ps[i]?=some p->p.1<=n/\n<=p.2)) (AA:∀H',c0 H H'->Q .y2 H'):BE K vs H Q wc
inductive Dx(vs:List V)(H:Hp)(Q:VK)(wc:XK):Prop where
 | mk (w:Addr) (ws:List V) (j:Nat) (aj:Addr) (Lj:List V) (mj:Int) (a0:Addr) (L0:List V) (ui:vs=[.ref w,.int (j:Int)]) (uj:H w=some (.tup ws)) (zf:ws.length=3) (zq:ws[0]?=some (.ref a0)) (Ai:H a0=some (.lst L0)) (AA:ws[j]?=some (.ref aj)) (Bl:H aj=some (.lst Lj)) (C7:([8,12,60]:List Int)[j]?=some mj) (Jt:(Lj.length:Int)<mj) (Ju:(∀x∈ws.drop (j+1),∃a,x=.ref a/\H a=some (.lst []))) (GG:(0<j->0<L0.length)) (KZ:∀H',c0 H H'->Q .y2 H'):Dx vs H Q wc
theorem xf{f:Addr}(F:Ac K "check_stations" "check_stations" (top 15) f fd)(T:Txt K mg):mu P w K mg base Aa 1 f fd ["works","stations"] (BD K):=by
 exists ["works","stations","station"]
 obtain⟨w,a0,l,rest,xs,ns,rfl,h1,h2,h3,h4,q⟩:=h
 refine⟨_,(@ei _ _ _ (cj PassesOwn.never rfl (bx (K:=K) rfl {1}) (fB (i:=2) nd rfl (by nofun)) (@ei _ _ _ (bL (hG (gT gn vj bh {2} ‹({0}<*>bh)›)) (@ei _ _ _ c7) bz)))),?_⟩
 refine⟨_,rfl,l,rfl,⟨_,h3⟩,dh (K:=K) (a:=l) (xs:=ns.map V.int) (λi σ H5=>∃v:Option V,σ=[some (.ref w),some (.ref l),v]/\H5=H) ⟨_,rfl,rfl⟩ (λi σ H5 _ ⟨_,_,e⟩=>by rw[e];exact h3) ?_ ?_⟩
 ·rintro i x σ H5 hx ⟨v,rfl,rfl⟩
  obtain⟨n,rfl,hn⟩:=cq hx
  obtain⟨b1,b2⟩:=h4 n (zE hn)
  refine⟨_,rfl,_,_,rfl,rfl,_,rfl,?_⟩
  refine CT (λ_=>?_) (λhh=>absurd (decide_eq_true b1) hh)
  refine⟨_,rfl,⟨_,_,_,_,rfl,rfl,h1,(d5 (j:=0) rfl),a0,_,rfl,.inl h2,_,_,rfl,rfl,_,rfl,?_⟩⟩
  rw[decide_eq_true b2]
  exact nj ⟨_,rfl,rfl⟩
 ·rintro σ H5 ⟨v,rfl,rfl⟩
  exact q
theorem wZ{f:Addr}(F:Ac K "check_measures" "check_measures" (top 16) f fd)(T:Txt K mg):mu P w K mg base Aa 1 f fd ["measures","bounds"] (BE K):=by
 exists ["measures","bounds","measure","bound"]
 obtain⟨l,b,ns,bs,ps,rfl,h1,h2,h3,h4,q⟩:=h
 refine⟨_,(@ei _ _ _ (cj PassesOwn.never rfl (tH true false rfl T.Jy ({0}>>{1}>>a_)) (ik rfl (bJ (fB (i:=2) nd rfl (by nofun)) (bJ (fB (i:=3) nd rfl (by nofun)) dW))) (@ei _ _ _ (bL (hG (gT gn gn ({3}<*>bh) {2} ({3}<*>bh))) (@ei _ _ _ c7) bz)))),?_⟩
 refine⟨_,rfl,_,rfl,l,b,rfl,⟨_,(show Sq K _ true _ _ from eH.of h1)⟩,⟨_,(show Sq K _ false _ _ from h2 _)⟩,?_⟩
 refine nJ (K:=K) (b1:=true) (b2:=false) (a1:=l) (a2:=b) (xs:=ns.map V.int) (ys:=bs) (λi σ H7=>∃(B G:Option V),σ=[some (.ref l),some (.ref b),B,G]/\c0 H H7)
  ⟨_,_,rfl,c0.refl _⟩ (λi σ H7 _ ⟨_,_,_,s7⟩=>eH.of (s7 _ _ h1)) (λi σ H7 _ _=>h2 _) ?_ ?_
 ·rintro i x y σ H7 hx hy ⟨B,G,rfl,s7⟩ p O
  obtain⟨n,rfl,hn⟩:=cq hx
  obtain⟨bd,hb,a,rfl,ha⟩:=h3.gt hy
  obtain⟨U,Y⟩:=h4 i n bd hn hb
  have s8:c0 H7 (upd H7 p (.tup [.int n,.ref a])):=c0.new O
  refine⟨p,_,rfl,ze.of bg,rfl,⟨_,_,rfl,⟨_,_,rfl,rfl,?_⟩⟩⟩
  refine⟨_,rfl,⟨_,_,_,_,rfl,rfl,ha _,(d5 (j:=0) rfl),_,rfl,_,_,rfl,rfl,_,rfl,?_⟩⟩
  refine CT (λ_=>?_) (λhh=>absurd (decide_eq_true U) hh)
  refine⟨_,rfl,⟨_,_,_,_,rfl,rfl,ha _,(d5 (j:=1) rfl),_,_,rfl,rfl,_,rfl,?_⟩⟩
  rw[decide_eq_true Y]
  exact nj ⟨_,_,rfl,s7.trans s8⟩
 ·rintro σ H7 ⟨B,G,rfl,s7⟩
  exact q _ s7
theorem wu{f aM:Addr}(F:Ac K "check_place" "check_place" (top 14) f fd)(T:Txt K mg)(B:mg "MOST_ROWS"=some (.ref aM))(U:∀H,ze K H aM [.int 8,.int 12,.int 60]):mu P w K mg base Aa 1 f fd ["works","part"] Dx:=by
 exists ["works","part"]
 obtain⟨w,ws,j,aj,Lj,mj,a0,L0,rfl,h1,h2,h3,h4,h5,Y,h7,h8,h9,G,q⟩:=h
 have hj:j<3:=by rw[←h2];exact(zC.mp h5).1
 refine⟨_,(bL (dk (z_ (fY rfl) (by rfl) T.Gb mN ((["later"]^^^[]^^^[]^^^(cG (K:=K) rfl (c9 xl {0} (cM (bu bQ {1} bh)) du))^^^bB^^^(cF fw ‹{0}› bh (bq _)))>>a_))) (@ei _ _ _ c7) bz<|>bL (bp yp ‹({0}<*>{1})› (cK (v:=.ref _) (by rfl) B rfl<*>{1}) (bq _)) (@ei _ _ _ c7) bz<|>@ei _ _ _ (bL ((i7 (bp fw {1} bh (bq _)) (gH (bp bU ‹({0}<*>bh)› bh (bq _))))).pt (@ei _ _ _ c7) bz)),?_⟩
 have ec:(λ(i j:Int)=>V.int (i+j)) (j:Int) 1=V.int ((j+1:Nat):Int):=rfl
 have e1:HT.An ws.length 0 (some (((j+1:Nat):Int)))=j+1:=by rw[HT.AV,h2];lia
 have e2:AL ws (some ((j+1:Nat):Int)) none=ws.drop (j+1):=by
  unfold AL
  rw[e1,HT.Be]
  exact yV (by rw[jN];lia)
 refine⟨_,rfl,_,rfl,_,_,rfl,rfl,((j+1:Nat):Int),rfl,w,ws,rfl,ze.of h1,?_,λp np=>?_⟩
 ·rw[e1]
  exact λz=>absurd z.1 (by lia)
 ·rw[e2]
  have s1:c0 H (upd H p (.tup (ws.drop (j+1)))):=c0.new np
  refine⟨p,rfl,⟨_,ze.of bg⟩,λD nD=>?_⟩
  have lw:(ws.drop (j+1)).length<=3:=by rw[jN];lia
  refine dj (a:=p) (xs:=ws.drop (j+1)) (λk H5=>c0 (upd H p (.tup (ws.drop (j+1)))) H5/\H5 D=some (.lst ((List.replicate k false).map V.bl))) ⟨c0.new nD,bg⟩ (λk H5 _ z=>ze.of (z.1 _ _ bg)) ?_ ?_
  ·rintro k x H5 m Wf hx ⟨s5,g5⟩ nx
   obtain⟨a,rfl,ha⟩:=h9 x (zE hx)
   have hk:=(zC.mp hx).1
   refine⟨_,rfl,a,[],rfl,.inl (eH.of ((s1.trans s5) _ _ ha)),_,_,rfl,rfl,_,g5,bo (by rw[zB,j2];lia),nx _ ⟨s5.upd nD,?_⟩⟩
   rw[bg,j5,zK]
   rfl
  ·rintro H5 ⟨s5,g5⟩
   refine⟨D,_,rfl,eH.of g5,_,rfl,?_⟩
   rw[show(List.replicate (ws.drop (j+1)).length false).any id=false from by simp]
   refine nj ?_
   have S:=s1.trans s5
   refine⟨_,rfl,_,rfl,⟨_,_,_,_,rfl,rfl,ze.of (S _ _ h1),d5 h5,aj,Lj,rfl,.inl (eH.of (S _ _ Y)),_,rfl,⟨_,_,_,_,rfl,rfl,U _,(show Fi (([8,12,60]:List Int).map V.int) _=_ from ja rfl h7),_,_,rfl,rfl,_,rfl,?_⟩⟩⟩
   rw[decide_eq_false (show ¬mj<=(Lj.length:Int) by lia)]
   refine nj ?_
   refine⟨_,rfl,_,_,rfl,rfl,_,rfl,?_⟩
   refine CT (λhp=>?_) (λ_=>nj (q _ S))
   have LL:(0:Int)<(j:Int):=of_decide_eq_true hp
   have O:=G (by lia)
   refine⟨_,rfl,⟨_,_,_,_,rfl,rfl,ze.of (S _ _ h1),d5 h3,a0,L0,rfl,.inl (eH.of (S _ _ h4)),rfl,_,rfl,?_⟩⟩
   rw[show decide (V.int (L0.length:Int)=V.int 0)=false from decide_eq_false (λz=>by have:=V.int.inj z;lia)]
   exact nj (q _ S)
inductive AH(K:PySem.W.Frag)(kvs:List (Key×V))(key:Str)(c:Nat)(E8:List (Int×Int)):Prop where
 | mk (fa ba bs:_) (ui:AF kvs (.inr key)=some (.ref fa)) (uj:(∀H,ze K H fa [.int (c:Int),.ref ba])) (zf:(∀H,ze K H ba bs)) (zq:Paired (Lg K) bs E8):AH K kvs key c E8
structure E9(name:Str)(ks:List Str)(nums:List Int):Prop where
 X2:32∉name.cps.toList
 X3:∀k∈ks,32∉k.cps.toList
 nl:name.length<=10
 kl:∀k∈ks,k.length<=20
 k1:ks.length=if name="station" then 1 else 0
 n3:nums.length<=3
 nb:∀n∈nums,-1000000000<=n/\n<=1000000000
inductive GX(K:PySem.W.Frag)(kvs:List (Key×V))(vs:List V)(H:Hp)(Q:VK)(wc:XK):Prop where
 | mk (w:Addr) (ws:List V) (j:Nat) (aj:Addr) (Lj:List V) (mj:Int) (a0:Addr) (L0:List V) (name:Str) (ks:List Str) (nums:List Int) (c:Nat) (E8:List (Int×Int)) (ui:vs=[.ref w,.str (zx name (ks++nums.map mn))]) (uj:H w=some (.tup ws)) (zf:ws.length=3) (zq:ws[0]?=some (.ref a0)) (Ai:H a0=some (.lst L0)) (AA:ws[j]?=some (.ref aj)) (Bl:H aj=some (.lst Lj)) (C7:([8,12,60]:List Int)[j]?=some mj) (Jt:(Lj.length:Int)<mj) (Ju:(∀x∈ws.drop (j+1),∃a,x=.ref a/\H a=some (.lst []))) (GG:(0<j->0<L0.length)) (KZ:E9 name ks nums) (Nb:([("station":Str),"belt","feed"]:List Str)[j]?=some name) (RJ:AH K kvs (PySem.Txt.join sp (name::ks)) c E8) (X4:nums.length=c+E8.length) (X5:(∀n∈nums.take c,0<=n/\n<L0.length)) (X6:(∀(i:Nat) n p,(nums.drop c)[i]?=some n->E8[i]?=some p->p.1<=n/\n<=p.2)) (X7:∀(pt:Addr)(H':Hp),H pt=none->H' pt=some (.tup (ks.map V.str++nums.map V.int))->H' aj=some (.lst (Lj++[.ref pt]))->ql [aj] H H'->Q .y2 H'):GX K kvs vs H Q wc
theorem xg{c:Bool}{a b:V}{Q:VK}(e:(if c=true then a else b)=v)(h:tC v σ H Q):if c=true then tC a σ H Q else tC b σ H Q:=by
 cases c
 ·rw[if_neg zS]at e ⊢
  rw[e];exact h
 ·rw[if_pos rfl]at e ⊢
  rw[e];exact h
theorem x5{f aP aF:Addr}{UM:List (Key×Value)}(F:Ac K "read_row" "read_row" (top 17) f fd)(T:Txt K mg)(IF:mg "PARTS"=some (.ref aP))(hP:∀H,ze K H aP [.str "station",.str "belt",.str "feed"])(X8:∃o,K.lookup aP=some o/\o.cls=.type "tuple"/\o.dict=none)
  (IG:mg "FORMS"=some (.ref aF)) (X9:∀h,K.In h->h.DictOf (za P w) aF UM) (X_:KV kvs UM) (Yb:(aF==sysModules)=false)
  (Y:FnAt P w K mg base 1 "number_of" ["word"] GW) (U:FnAt P w K mg base 1 "check_place" ["works","part"] Dx) (G:FnAt P w K mg base 1 "check_stations" ["works","stations"] (BD K)) (O:FnAt P w K mg base 1 "check_measures" ["measures","bounds"] (BE K)) :
  mu P w K mg base Aa 2 f fd ["works","row"] (GX K kvs):=by
 exists ["works","row","words","head","form","numbers","part"]
 obtain⟨w,ws,j,aj,Lj,mj,a0,L0,name,ks,nums,c,E8,rfl,h1,h2,h3,h4,h5,h6,h7,h8,h9,Yc,ok,Pa,⟨fa,ba,bs,f1,f2,f3,f4⟩,CQ,DB,Yd,q⟩:=h
 refine⟨_,((2>>=bZ Z9 PySem.F.slot_str_split PySem.F.type_str_split iS {1} (bE>>a_))<|>(3>>=c6 (bp bU ({2}<*bh) bE (bq _)) bh bh)<|>(4>>=rE X9 X_ Yb (cK (v:=.ref _) (by rfl) IG rfl) (bZ Z9 a01 a02 fy bE (c9 eF {2} du (cM {3})>>a_)) ⟨rfl,rfl,rfl,rfl⟩)<|>bL ((gQ (bp gU {4} bS (bq _)) (hV (bp mq ‹{2}› (bu bQ (bu bQ {3} ({4}<*>bh)) ‹({4}<*>bh)›) (bq _))))).pt (@ei _ _ _ c7) bz<|>(5|||["word"]|||[]|||[]|||(bx (K:=K) rfl (c9 eF {2} (cM {3}) du))|||bB|||(Y<&>({0}>>a_)))<|>(6>>=wx (cK (v:=.ref _) (by rfl) IF rfl) ({2}<*bh) ⟨rfl,rfl,rfl,rfl⟩)<|>bC (U<&>({0}>>{6}>>a_))<|>bC (G<&>({0}>>c9 eF {5} du (cM ({4}<*>bh))>>a_))<|>bC (O<&>(c9 eF {5} (cM ({4}<*>bh)) du>>({4}<*>bh)>>a_))<|>@ei _ _ _ (bC (bZ Z5 Z6 Z7 bH ({0}<*>{6}) (b_ dz (by rfl) T.Cc fu (bu dF (c9 eF {2} (cM bh) (cM {3})) {5}>>a_)>>a_)))),?_⟩
 have ZN:(" ":Str)=sp:=rfl
 have NO:∀x∈name::(ks++nums.map mn),32∉x.cps.toList:=λx hx=>by
  rcases zO.mp hx with e|hx
  ·rw[e];exact ok.X2
  ·rcases zW.mp hx with hx|hx
   ·exact ok.X3 x hx
   ·obtain⟨n,_,rfl⟩:=yF.mp hx
    intro hc
    have:=iU n 32 hc
    lia
 have Lh:PySem.Txt.split (zx name (ks++nums.map mn)) " "=name::(ks++nums.map mn):=ib (c:=32) (by simp) NO
 have MQ:ks.length<=1:=by rw[ok.k1];split <;>decide
 have ZO:=ok.n3
 have Ye:(zx name (ks++nums.map mn)).length<=1000000:=by
  have ej:zx name (ks++nums.map mn)=Str.join sp (name::(ks++nums.map mn)):=a06 _ _
  have Yg:∀x∈name::(ks++nums.map mn),x.length<=20:=λx hx=>by
   rcases zO.mp hx with e|hx
   ·rw[e];exact yE ok.nl (by decide)
   ·rcases zW.mp hx with hx|hx
    ·exact ok.kl x hx
    ·obtain⟨n,hn,rfl⟩:=yF.mp hx
     obtain⟨b1,b2⟩:=ok.nb n hn
     exact yE (fg (by lia) (by lia)) (by decide)
  have hs:=a05 (B:=20) _ Yg
  have hj:=fP sp (name::(ks++nums.map mn))
  have e1:sp.length=1:=rfl
  rw[ej]
  rw[e1]at hj
  have hl:(name::(ks++nums.map mn)).length<=5:=by simp;lia
  lia
 refine⟨_,rfl,rfl,_,_,rfl,rfl,rfl,Ye,λlw Yh=>?_⟩
 rw[Lh]
 have s1:c0 H (upd H lw (.lst ((name::(ks++nums.map mn)).map V.str))):=c0.new Yh
 have FG:(upd H lw (.lst ((name::(ks++nums.map mn)).map V.str))) lw=some (.lst ((name::(ks++nums.map mn)).map V.str)):=bg
 generalize (upd H lw (.lst ((name::(ks++nums.map mn)).map V.str)))=H1 at s1 FG ⊢
 refine⟨_,rfl,⟨_,_,_,_,rfl,rfl,eH.of FG,(d5 (j:=0) rfl),rfl,_,rfl,?_⟩⟩
 have Yi:(if decide (V.str name=V.str "station")=true then V.int 2 else V.int 1)=V.int ((1+ks.length:Nat):Int):=by
  by_cases en:name="station"
  ·rw[decide_eq_true (by rw[en]),if_pos rfl,ok.k1,if_pos en];rfl
  ·rw[decide_eq_false (λz=>en (V.str.inj z)),if_neg zS,ok.k1,if_neg en];rfl
 refine xg Yi ?_
 have lW:((name::(ks++nums.map mn)).map V.str).length=1+ks.length+nums.length:=by simp;lia
 have RK:AL ((name::(ks++nums.map mn)).map V.str) none (some ((1+ks.length:Nat):Int))=(name::ks).map V.str:=by
  unfold AL
  rw[HT.Be,HT.AV,lW,qU (by lia),jK,xG,←vA]
  congr 1
  rw[vG,List.take_succ_cons,j4 (zJ _),zY]
 refine⟨rfl,_,rfl,_,rfl,_,rfl,lw,_,rfl,eH.of FG,λl2 RL=>?_⟩
 rw[RK]
 have s2:c0 H1 (upd H1 l2 (.lst ((name::ks).map V.str))):=c0.new RL
 have Ly:((name::ks).map (·.length)).sum+(name::ks).length*(" ":Str).length<=16777216:=by
  have:=a05 (B:=20) ks ok.kl
  have e1:(" ":Str).length=1:=rfl
  have:=ok.nl
  rw[yM,qB,yD,e1]
  lia
 refine⟨_,l2,name::ks,rfl,rfl,eH.of bg,Ly,.inr (PySem.Txt.join sp (name::ks)),rfl,?_⟩
 rw[f1]
 generalize (upd H1 l2 (.lst ((name::ks).map V.str)))=H2 at s2 ⊢
 refine⟨_,rfl,rfl,_,rfl,nj ?_⟩
 refine⟨_,rfl,lw,_,rfl,.inl (eH.of (s2 _ _ FG)),_,rfl,_,rfl,⟨_,_,_,_,rfl,rfl,f2 _,(d5 (j:=0) rfl),_,_,rfl,rfl,_,rfl,⟨_,_,_,_,rfl,rfl,f2 _,(d5 (j:=1) rfl),ba,bs,rfl,.inr (f3 _),_,_,rfl,rfl,rfl,_,rfl,?_⟩⟩⟩
 have ZP:=f4.length
 refine CT (λhh=>absurd hh ?_) (λ_=>?_)
 ·intro z
  rw[Bool.not_eq_true']at z
  exact of_decide_eq_false z (congrArg V.int (by rw[lW];lia))
 have RM:AL ((name::(ks++nums.map mn)).map V.str) (some ((1+ks.length:Nat):Int)) none=(nums.map mn).map V.str:=by
  unfold AL
  rw[HT.Be,HT.AV,lW,qU (by lia)]
  have e:(List.drop (1+ks.length) ((name::(ks++nums.map mn)).map V.str))=(nums.map mn).map V.str:=by
   rw[←vB]
   congr 1
   rw[vG,List.drop_succ_cons,List.drop_append_of_le_length (zJ _),List.drop_length,qI]
  rw[e]
  exact yV (by rw[zB,zB];lia)
 refine⟨_,rfl,_,rfl,_,rfl,lw,_,rfl,eH.of (s2 _ _ FG),λl3 Hl=>?_⟩
 rw[RM]
 have s3:c0 H2 (upd H2 l3 (.lst ((nums.map mn).map V.str))):=c0.new Hl
 have OH:(upd H2 l3 (.lst ((nums.map mn).map V.str))) l3=some (.lst ((nums.map mn).map V.str)):=bg
 generalize (upd H2 l3 (.lst ((nums.map mn).map V.str)))=H3 at s3 OH ⊢
 refine⟨l3,rfl,⟨_,eH.of OH⟩,λD nD=>?_⟩
 refine bA (a:=l3) (xs:=(nums.map mn).map V.str) (λk H5=>c0 H3 H5/\H5 D=some (.lst ((nums.take k).map V.int))) ⟨c0.new nD,bg⟩ (λk H5 _ z=>eH.of (z.1 _ _ OH)) ?_ ?_
 ·rintro k x H5 m Wf hx ⟨s5,g5⟩ nx
  rw[zG,zG]at hx
  cases en:nums[k]? with
  | none=>rw[en]at hx;cases hx
  | some n =>
   rw[en]at hx
   cases hx
   obtain⟨b1,b2⟩:=ok.nb n (zE en)
   refine⟨_,rfl,n,rfl,b1,b2,λH6 s6=>⟨_,s6 _ _ g5,bo (by rw[zB,yA];lia),nx _ ⟨(s5.trans s6).upd nD,?_⟩⟩⟩
   rw[bg,yR,en,zK]
   rfl
 ·rintro H5 ⟨s5,g5⟩
  rw[zB,zB,zY]at g5
  have S:=s1.trans (s2.trans (s3.trans s5))
  have UN:=s5 _ _ (s3 _ _ (s2 _ _ FG))
  have Li:∀i,i<j->([("station":Str),"belt","feed"]:List Str)[i]?≠some name:=by
   have hj:j<3:=(zC.mp Pa).1
   intro i hi
   rcases j with _|_|_|j
   ·lia
   ·cases Pa
    have:i=0:=by lia
    subst this
    decide
   ·cases Pa
    have:i=0\/i=1:=by lia
    rcases this with e|e <;>subst e <;>decide
   ·lia
  refine⟨aP,["station","belt","feed"],rfl,X8,hP _,_,rfl,⟨_,_,_,_,rfl,rfl,eH.of UN,(d5 (j:=0) rfl),name,j,rfl,hP _,Pa,Li,?_⟩⟩
  refine⟨_,rfl,_,rfl,w,ws,j,aj,Lj,mj,a0,L0,rfl,S _ _ h1,h2,h3,S _ _ h4,h5,S _ _ h6,h7,h8,(λx hx=>let ⟨a,e,q⟩:=h9 x hx;⟨a,e,S _ _ q⟩),Yc,λH6 s6=>?_⟩
  have S6:=S.trans s6
  have Yj:=s6 _ _ UN
  have g6:=s6 _ _ g5
  obtain⟨rest,LM⟩:∃rest,ws=.ref a0::rest:=by
   cases ws with
   | nil=>cases h3
   | cons x r=>cases h3;exact⟨r,rfl⟩
  have Ei:c<=nums.length:=by lia
  have lN:(nums.map V.int).length=nums.length:=zB _
  have RN:AL (nums.map V.int) none (some (c:Int))=(nums.take c).map V.int:=by
   unfold AL
   rw[HT.Be,HT.AV,lN,qU Ei,jK,xG,←vA]
  have RO:AL (nums.map V.int) (some (c:Int)) none=(nums.drop c).map V.int:=by
   unfold AL
   rw[HT.Be,HT.AV,lN,qU Ei,←vB]
   exact yV (by rw[zB,jN];exact zJ _)
  refine⟨_,rfl,_,rfl,_,rfl,⟨_,_,_,_,rfl,rfl,f2 _,(d5 (j:=0) rfl),_,rfl,D,_,rfl,eH.of g6,λl4 Pb=>?_⟩⟩
  rw[RN]
  have s7:c0 H6 (upd H6 l4 (.lst ((nums.take c).map V.int))):=c0.new Pb
  have S7:=S6.trans s7
  refine⟨w,a0,l4,rest,L0,nums.take c,rfl,ze.of (by rw[←LM];exact S7 _ _ h1),eH.of (S7 _ _ h4),eH.of bg,DB,?_⟩
  have UO:=s7 _ _ Yj
  have g7:=s7 _ _ g6
  generalize (upd H6 l4 (.lst ((nums.take c).map V.int)))=H7 at s7 S7 UO g7 ⊢
  refine⟨_,rfl,_,rfl,⟨_,_,_,_,rfl,rfl,f2 _,(d5 (j:=0) rfl),_,rfl,D,_,rfl,eH.of g7,λl5 RQ=>?_⟩⟩
  rw[RO]
  have s8:c0 H7 (upd H7 l5 (.lst ((nums.drop c).map V.int))):=c0.new RQ
  refine⟨_,rfl,⟨_,_,_,_,rfl,rfl,f2 _,(d5 (j:=1) rfl),l5,ba,nums.drop c,bs,E8,rfl,bg,f3,f4,Yd,λH9 s9=>?_⟩⟩
  have RR:=s8.trans s9
  have S9:=S7.trans RR
  have Yk:=RR _ _ UO
  have g9:=RR _ _ g7
  have RS:AL ((name::(ks++nums.map mn)).map V.str) (some ((1:Nat):Int)) (some ((1+ks.length:Nat):Int))=ks.map V.str:=by
   unfold AL
   rw[HT.AV,HT.AV,lW,qU (by lia),qU (by lia),←vB,←vA]
   congr 1
   rw[List.drop_succ_cons,jK,Nat.add_sub_cancel_left,j4 (zJ _),zY]
  refine⟨_,rfl,_,rfl,⟨_,_,_,_,rfl,rfl,ze.of (S9 _ _ h1),d5 h5,CH (S9 _ _ h6),_,rfl,((1:Nat):Int),rfl,_,rfl,_,rfl,lw,_,rfl,eH.of Yk,λl6 Yl=>?_⟩⟩
  rw[RS]
  have Lf:c0 H9 (upd H9 l6 (.lst (ks.map V.str))):=c0.new Yl
  refine⟨_,rfl,l6,D,_,_,rfl,rfl,bg,Lf _ _ g9,(by rw[a00,zB,zB];lia),λl7 UP=>?_⟩
  generalize (upd H9 l6 (.lst (ks.map V.str)))=Ha at Lf UP ⊢
  have DY:c0 Ha (upd Ha l7 (.lst (ks.map V.str++nums.map V.int))):=c0.new UP
  refine⟨l7,_,rfl,.inl ⟨eH.of bg,λpt IA=>?_⟩⟩
  generalize (upd Ha l7 (.lst (ks.map V.str++nums.map V.int)))=Hb at DY IA ⊢
  have Rv:c0 Hb (upd Hb pt (.tup (ks.map V.str++nums.map V.int))):=c0.new IA
  have Sb:=S9.trans (Lf.trans DY)
  have Sc:=Sb.trans Rv
  have RT:=Sb _ _ h6
  refine⟨_,_,_,rfl,rfl,Sc _ _ h6,bo (by
   have hm:mj<=60:=by
    rcases j with _|_|_|j
    ·cases h7;decide
    ·cases h7;decide
    ·cases h7;decide
    ·cases h7
   lia),?_⟩
  refine q pt _ (Sb.free IA) ?_ bg ((ql.same Sc).upd zH)
  rw[bj (bi RT IA).symm,bg]
structure E_(K:PySem.W.Frag)(kvs:List (Key×V)):Prop where
 Ak:AH K kvs (PySem.Txt.join sp ["station","relay"]) 0 [(-1000000000,1000000000)]
 zp:AH K kvs (PySem.Txt.join sp ["station","sorter"]) 0 []
 rd:AH K kvs (PySem.Txt.join sp ["station","thinner"]) 0 [(2,9)]
 kc:AH K kvs (PySem.Txt.join sp ["station","joiner"]) 0 []
 sink:AH K kvs (PySem.Txt.join sp ["station","sink"]) 0 []
 DV:AH K kvs (PySem.Txt.join sp ["belt"]) 2 [(1,9)]
 feed:AH K kvs (PySem.Txt.join sp ["feed"]) 1 [(0,50),(-1000000000,1000000000)]
theorem fv{k:Str}{nums:List Int}(B:32∉k.cps.toList)(hl:k.length<=20)(n3:nums.length<=3)(nb:∀n∈nums,-1000000000<=n/\n<=1000000000):E9 "station" [k] nums :=
 ⟨by decide,λx hx=>by rw[zF.mp hx];exact B,by decide,λx hx=>by rw[zF.mp hx];exact hl,rfl,n3,nb⟩
theorem uc{s:EY}(ok:DR s)(fo:E_ K kvs):∃(ks:List Str)(nums:List Int)(E8:List (Int×Int)),AQ s=ks++nums.map mn/\Ge s=ks.map V.str++nums.map V.int/\E9 "station" ks nums /\
  AH K kvs (PySem.Txt.join sp ("station"::ks)) 0 E8/\nums.length=0+E8.length/\(∀(i:Nat) n p,(nums.drop 0)[i]?=some n->E8[i]?=some p->p.1<=n/\n<=p.2):=by
 rcases ok with ⟨n,rfl,a,b⟩|rfl|⟨n,rfl,a,b⟩|rfl|rfl
 ·refine⟨["relay"],[n],[(-1000000000,1000000000)],rfl,rfl,fv (by decide) (by decide) (by show 1<=3;decide) (λx hx=>by rw[zF.mp hx];exact⟨a,b⟩),fo.Ak,rfl,λi m p h1 h2=>?_⟩
  rcases i with _|i
  ·cases h1;cases h2;exact⟨a,b⟩
  ·cases h1
 ·exact⟨["sorter"],[],[],rfl,rfl,fv (by decide) (by decide) (by decide) (λx hx=>absurd hx zI),fo.zp,rfl,λi m p h1 h2=>by cases h2⟩
 ·refine⟨["thinner"],[n],[(2,9)],rfl,rfl,fv (by decide) (by decide) (by show 1<=3;decide) (λx hx=>by rw[zF.mp hx];lia),fo.rd,rfl,λi m p h1 h2=>?_⟩
  rcases i with _|i
  ·cases h1;cases h2;exact⟨a,b⟩
  ·cases h1
 ·exact⟨["joiner"],[],[],rfl,rfl,fv (by decide) (by decide) (by decide) (λx hx=>absurd hx zI),fo.kc,rfl,λi m p h1 h2=>by cases h2⟩
 ·exact⟨["sink"],[],[],rfl,rfl,fv (by decide) (by decide) (by decide) (λx hx=>absurd hx zI),fo.sink,rfl,λi m p h1 h2=>by cases h2⟩
theorem n_(B:32∉name.cps.toList)(hl:name.length<=10)(hn:name ≠ "station")(a:-1000000000<=t.1/\t.1<=1000000000)(b:-1000000000<=t.2.1/\t.2.1<=1000000000)(c:-1000000000<=t.2.2/\t.2.2<=1000000000):E9 name [] [t.1,t.2.1,t.2.2] :=
 ⟨B,λx hx=>absurd hx zI,hl,λx hx=>absurd hx zI,by rw[if_neg hn];rfl,by show 3<=3;decide,λx hx=>by
  simp only [zO,zI,or_false]at hx
  rcases hx with e|e|e <;>rw[e] <;>assumption⟩
theorem d8(hn:10∉name.cps.toList)(ht:∀t∈ts,10∉t.cps.toList):10∉(zx name ts).cps.toList:=by
 have G:zx name ts=Str.join sp (name::ts):=a06 _ _
 rw[G,show sp=(⟨#[32]⟩:Str)from rfl,fb]
 have gen:∀l:List (List Nat),(∀x∈l,10∉x)->10∉jn 32 l:=by
  intro l
  induction l with
  | nil=>intro _ h;exact absurd h zI
  | cons x r ih =>
   intro h
   cases r with
   | nil=>exact h x zH
   | cons y r =>
    intro hm
    rcases zW.mp (show 10∈x++32::jn 32 (y::r)from hm)with q|q
    ·exact h x zH q
    ·rcases zO.mp q with q|q
     ·lia
     ·exact ih (λz hz=>h z (zL _ hz)) q
 refine gen _ λx hx=>?_
 obtain⟨t,B,rfl⟩:=yF.mp hx
 rcases zO.mp B with e|e
 ·rw[e];exact hn
 ·exact ht t e
theorem gW(n:Int):10∉(mn n).cps.toList:=λh=>by have:=iU n 10 h;lia
theorem pG(ok:W.Ok):∀r∈W.rows,10∉r.cps.toList:=by
 intro r hr
 rcases zW.mp hr with hr|hr
 ·rcases zW.mp hr with hr|hr
  ·obtain⟨s,hs,rfl⟩:=yF.mp hr
   rcases ok.Ea s hs with ⟨n,rfl,_⟩|rfl|⟨n,rfl,_⟩|rfl|rfl
   walk_at "M"
   walk_at "M"
   ·exact d8 (by decide) (λt ht=>by simp only [AQ,zO,zI,or_false]at ht;rw[ht];decide)
  ·obtain⟨s,hs,rfl⟩:=yF.mp hr
   exact d8 (by decide) (λt ht=>by simp only [Au,zO,zI,or_false]at ht;rcases ht with e|e|e <;>rw[e] <;>exact gW _)
 ·obtain⟨s,hs,rfl⟩:=yF.mp hr
  exact d8 (by decide) (λt ht=>by simp only [Au,zO,zI,or_false]at ht;rcases ht with e|e|e <;>rw[e] <;>exact gW _)
theorem uY{r:Str}(h:W.rows[i]?=some r) :
  (i<W.st.length/\∃s,W.st[i]?=some s/\r=zx "station" (AQ s))\/(W.st.length<=i/\i-W.st.length<W.be.length/\∃t,W.be[i-W.st.length]?=some t/\r=zx "belt" (Au t)) \/
  (W.st.length+W.be.length<=i/\∃t,W.fe[i-W.st.length-W.be.length]?=some t/\r=zx "feed" (Au t)):=by
 unfold Wk.rows at h
 by_cases h1:i<W.st.length
 ·rw[yP (by simp;lia),yP (by simpa using h1),zG,zD h1]at h
  cases h
  exact .inl ⟨h1,_,zD h1,rfl⟩
 ·by_cases h2:i-W.st.length<W.be.length
  ·rw[yP (by simp;lia),zX (by simp;lia),zB,zG,zD h2]at h
   cases h
   exact .inr (.inl ⟨by lia,h2,_,zD h2,rfl⟩)
  ·rw[zX (by simp;lia),zN,zB,zB,zG,←Nat.sub_sub]at h
   cases e:W.fe[i-W.st.length-W.be.length]? with
   | none=>rw[e]at h;cases h
   | some t=>rw[e]at h;cases h;exact .inr (.inr ⟨by lia,t,rfl,rfl⟩)
def Wk.upTo(W:Wk)(i:Nat):Wk:=⟨W.st.take i,W.be.take (i-W.st.length),W.fe.take (i-W.st.length-W.be.length)⟩
theorem d4.kp{L:List V}(k:ql [a] H H')(e:H a=some (.lst L)){x:V}(h:d4 H x t):d4 H' x t:=by
 obtain⟨p,rfl,q⟩:=h
 exact⟨p,rfl,k _ _ q (by rw[zF];exact bK q e λz=>nomatch z)⟩
theorem zu.kp{L:List V}(k:ql [a] H H')(e:H a=some (.lst L)){x:V}{t:EY}(h:zu H x t):zu H' x t:=by
 obtain⟨p,rfl,q⟩:=h
 exact⟨p,rfl,k _ _ q (by rw[zF];exact bK q e λz=>nomatch z)⟩
inductive EH(vs:List V)(H:Hp)(Q:VK)(wc:XK):Prop where
 | mk (W:Wk) (ui:vs=[.str (PySem.Txt.join nl W.rows)]) (uj:(PySem.Txt.join nl W.rows).length<=1000000) (zf:W.Ok) (zq:∀(w:Addr)(H':Hp),Ag H' w W->c0 H H'->Q (.ref w) H'):EH vs H Q wc
theorem ql.old{H7 H8:Hp}(s:c0 H H7)(n:H a=none)(k:ql [a] H7 H8):c0 H H8:=λb u e=>k b u (s b u e) (by rw[zF];exact bi e n)
theorem uZ{f:Addr}(F:Ac K "read" "read" (top 18) f fd)(T:Txt K mg)(fo:E_ K kvs)(G:FnAt P w K mg base 2 "read_row" ["works","row"] (GX K kvs)):mu P w K mg base Aa 3 f fd ["text"] EH:=by
 exists ["text","works","row"]
 obtain⟨W,rfl,CQ,ok,q⟩:=h
 have s1:=ok.s1
 have s8:=ok.s8
 have BN:=ok.BN
 have DA:=ok.DA
 have RU:W.rows.length=W.st.length+W.be.length+W.fe.length:=by unfold Wk.rows;rw[zN,zN,zB,zB,zB]
 have A5:W.rows≠[]:=λe=>by rw[e]at RU;simp at RU;lia
 have U:PySem.Txt.split (PySem.Txt.join nl W.rows) "\n"=W.rows:=ib (c:=10) A5 (pG ok)
 refine⟨_,((1>>=@bF _ _ _ _ _ (@bR _ _ _ _ a_>>@bR _ _ _ _ a_>>@bR _ _ _ _ a_>>a_))<|>cj PassesOwn.never rfl (bx (K:=K) rfl (bZ Z9 PySem.F.slot_str_split PySem.F.type_str_split iS {0} (bE>>a_))) (fB (i:=2) nd rfl (by nofun)) (@ei _ _ _ (bC (G<&>({1}>>{2}>>a_))))<|>(~~~{1})),?_⟩
 refine⟨yH _,λsa na=>⟨yH _,λba nb=>⟨yH _,λfa nf=>⟨(by show 3<=sizeLine;decide),λwa nw=>?_⟩⟩⟩⟩
 have t1:c0 H (upd H sa (.lst [])):=c0.new na
 have t2:c0 (upd H sa (.lst [])) (upd (upd H sa (.lst [])) ba (.lst [])):=c0.new nb
 have t3:c0 (upd (upd H sa (.lst [])) ba (.lst [])) (upd (upd (upd H sa (.lst [])) ba (.lst [])) fa (.lst [])):=c0.new nf
 have t4:c0 (upd (upd (upd H sa (.lst [])) ba (.lst [])) fa (.lst [])) (upd (upd (upd (upd H sa (.lst [])) ba (.lst [])) fa (.lst [])) wa (.tup [.ref sa,.ref ba,.ref fa])):=c0.new nw
 have e1:sa≠ba:=bi bg nb
 have e2:sa≠fa:=bi (t2 _ _ bg) nf
 have e3:ba≠fa:=bi bg nf
 have RV:=t4 _ _ (t3 _ _ (t2 _ _ (bg (H:=H) (a:=sa) (o:=.lst []))))
 have RW:=t4 _ _ (t3 _ _ (bg (H:=upd H sa (.lst [])) (a:=ba) (o:=.lst [])))
 have RX:=t4 _ _ (bg (H:=upd (upd H sa (.lst [])) ba (.lst [])) (a:=fa) (o:=.lst []))
 have UQ:(upd (upd (upd (upd H sa (.lst [])) ba (.lst [])) fa (.lst [])) wa (.tup [.ref sa,.ref ba,.ref fa])) wa=some (.tup [.ref sa,.ref ba,.ref fa]):=bg
 have Ym:H ba=none:=t1.free nb
 have Yn:H fa=none:=(t1.trans t2).free nf
 have S4:=t1.trans (t2.trans (t3.trans t4))
 generalize (upd (upd (upd (upd H sa (.lst [])) ba (.lst [])) fa (.lst [])) wa (.tup [.ref sa,.ref ba,.ref fa]))=H4 at S4 RV RW RX UQ ⊢
 clear t1 t2 t3 t4
 refine⟨_,rfl,rfl,_,_,rfl,rfl,rfl,CQ,λlr Y=>?_⟩
 rw[U]
 have t5:c0 H4 (upd H4 lr (.lst (W.rows.map V.str))):=c0.new Y
 have RY:(upd H4 lr (.lst (W.rows.map V.str))) lr=some (.lst (W.rows.map V.str)):=bg
 have n1:lr≠sa:=(bi RV Y).symm
 have n2:lr≠ba:=(bi RW Y).symm
 have n3:lr≠fa:=(bi RX Y).symm
 generalize (upd H4 lr (.lst (W.rows.map V.str)))=H5 at t5 RY ⊢
 refine⟨lr,rfl,⟨_,eH.of RY⟩,?_⟩
 refine dh (K:=K) (a:=lr) (xs:=W.rows.map V.str) (λi σ H7=>∃(v2:Option V)(xs ys zs:List V),σ=[some (.str (PySem.Txt.join nl W.rows)),some (.ref wa),v2]/\c0 H H7/\H7 wa=some (.tup [.ref sa,.ref ba,.ref fa])/\H7 lr=some (.lst (W.rows.map V.str))/\B9 H7 sa ba fa (W.upTo i) xs ys zs)
  ⟨_,[],[],[],rfl,S4.trans t5,t5 _ _ UQ,RY,⟨t5 _ _ RV,t5 _ _ RW,t5 _ _ RX,.nil,by show Paired _ [] (W.be.take (0-W.st.length));rw[kO,qX];exact .nil,by show Paired _ [] (W.fe.take (0-W.st.length-W.be.length));rw[kO,kO,qX];exact .nil⟩⟩
  (λi σ H7 _ ⟨_,_,_,_,_,_,_,l7,_⟩=>eH.of l7) ?_ ?_
 ·rintro i y σ H7 hy ⟨v2,xs,ys,zs,rfl,s7,w7,l7,B⟩
  rw[zG]at hy
  cases er:W.rows[i]? with
  | none=>rw[er]at hy;cases hy
  | some r =>
  rw[er]at hy
  cases hy
  have lx:xs.length=(W.st.take i).length:=B.ps.length
  have ly:ys.length=(W.be.take (i-W.st.length)).length:=B.pb.length
  have lz:zs.length=(W.fe.take (i-W.st.length-W.be.length)).length:=B.pf.length
  rw[yA]at lx ly lz
  have RZ:∀{a:Addr}{L:List V},H7 a=some (.lst L)->wa≠a:=λe=>bK w7 e λz=>nomatch z
  rcases uY er with ⟨hi,st,DB,rfl⟩|⟨ZQ,ZR,t,ht,rfl⟩|⟨hi,t,ht,rfl⟩
  ·obtain⟨ks,nums,E8,k1,k2,k3,k4,k5,k6⟩:=uc (ok.Ea st (zE DB)) fo
   rw[k1]
   have ey:ys=[]:=qR (by lia)
   have ez:zs=[]:=qR (by lia)
   refine⟨_,rfl,_,rfl,wa,[.ref sa,.ref ba,.ref fa],0,sa,xs,8,sa,xs,"station",ks,nums,0,E8,rfl,w7,rfl,rfl,B.hs,rfl,B.hs,rfl,by lia,λx hx=>?_,λh=>absurd h (qO _),k3,rfl,k4,k5,λn hn=>absurd hn zI,k6,λpt H8 IA DI O kp=>?_⟩
   ·have NN:x=.ref ba\/x=.ref fa:=by simpa using hx
    rcases NN with e|e
    ·exact⟨ba,e,by rw[←ey];exact B.hb⟩
    ·exact⟨fa,e,by rw[←ez];exact B.hf⟩
   ·have u0:i+1-W.st.length=0:=by lia
    have v0:i-W.st.length=0:=by lia
    refine⟨_,xs++[.ref pt],ys,zs,rfl,ql.old s7 na kp,kp _ _ w7 (by rw[zF];exact RZ B.hs),kp _ _ l7 (by rw[zF];exact n1),
     ⟨O,kp _ _ B.hb (by rw[zF];exact e1.symm),kp _ _ B.hf (by rw[zF];exact e2.symm),?_,?_,?_⟩⟩
    ·show Paired _ _ (W.st.take (i+1))
     rw[bI DB]
     exact bv (bf (λ_ _ h=>h.kp kp B.hs) B.ps) (.cons ⟨pt,rfl,by rw[DI,k2]⟩ .nil)
    ·show Paired _ _ (W.be.take (i+1-W.st.length))
     have p:=B.pb
     have p':Paired (d4 H7) ys (W.be.take (i-W.st.length)):=p
     rw[v0]at p'
     rw[u0]
     exact bf (λ_ _ h=>h.kp kp B.hs) p'
    ·show Paired _ _ (W.fe.take (i+1-W.st.length-W.be.length))
     have p':Paired (d4 H7) zs (W.fe.take (i-W.st.length-W.be.length)):=B.pf
     rw[v0,kO]at p'
     rw[u0,kO]
     exact bf (λ_ _ h=>h.kp kp B.hs) p'
  ·obtain⟨q1,q2,q3,q4,q5,q6⟩:=ok.EK t (zE ht)
   have ez:zs=[]:=qR (by lia)
   have R0:xs.length=W.st.length:=by lia
   refine⟨_,rfl,_,rfl,wa,[.ref sa,.ref ba,.ref fa],1,ba,ys,12,sa,xs,"belt",[],[t.1,t.2.1,t.2.2],2,[(1,9)],rfl,w7,rfl,rfl,B.hs,rfl,B.hb,rfl,by lia,λx hx=>?_,λ_=>by lia,n_ (by decide) (by decide) (by decide) (by lia) (by lia) (by lia),rfl,fo.DV,rfl,λn hn=>?_,λk n p g1 g2=>?_,λpt H8 IA DI O kp=>?_⟩
   ·have NN:x=.ref fa:=by simpa using hx
    exact⟨fa,NN,by rw[←ez];exact B.hf⟩
   ·have Ff:n=t.1\/n=t.2.1:=by simpa using hn
    rcases Ff with e|e <;>rw[e,R0] <;>lia
   ·rcases k with _|k
    ·cases g1;cases g2;exact⟨q5,q6⟩
    ·cases g1
   ·have u0:i+1-W.st.length=i-W.st.length+1:=by lia
    have v0:i-W.st.length-W.be.length=0:=by lia
    have v1:i+1-W.st.length-W.be.length=0:=by lia
    refine⟨_,xs,ys++[.ref pt],zs,rfl,ql.old s7 Ym kp,kp _ _ w7 (by rw[zF];exact RZ B.hb),kp _ _ l7 (by rw[zF];exact n2),
     ⟨kp _ _ B.hs (by rw[zF];exact e1),O,kp _ _ B.hf (by rw[zF];exact e3.symm),?_,?_,?_⟩⟩
    ·show Paired _ _ (W.st.take (i+1))
     have p':Paired (zu H7) xs (W.st.take i):=B.ps
     rw[yV (by lia)]at p' ⊢
     exact bf (λ_ _ h=>h.kp kp B.hb) p'
    ·show Paired _ _ (W.be.take (i+1-W.st.length))
     rw[u0,bI ht]
     exact bv (bf (λ_ _ h=>h.kp kp B.hb) B.pb) (.cons ⟨pt,rfl,DI⟩ .nil)
    ·show Paired _ _ (W.fe.take (i+1-W.st.length-W.be.length))
     have p':Paired (d4 H7) zs (W.fe.take (i-W.st.length-W.be.length)):=B.pf
     rw[v0]at p'
     rw[v1]
     exact bf (λ_ _ h=>h.kp kp B.hb) p'
  ·obtain⟨q1,q2,q3,q4,q5,q6⟩:=ok.EZ t (zE ht)
   have R0:xs.length=W.st.length:=by lia
   have Td:=(zC.mp ht).1
   refine⟨_,rfl,_,rfl,wa,[.ref sa,.ref ba,.ref fa],2,fa,zs,60,sa,xs,"feed",[],[t.1,t.2.1,t.2.2],1,[(0,50),(-1000000000,1000000000)],rfl,w7,rfl,rfl,B.hs,rfl,B.hf,rfl,by lia,λx hx=>absurd hx zI,λ_=>by lia,n_ (by decide) (by decide) (by decide) (by lia) (by lia) (by lia),rfl,fo.feed,rfl,λn hn=>?_,λk n p g1 g2=>?_,λpt H8 IA DI O kp=>?_⟩
   ·have Ff:n=t.1:=by simpa using hn
    rw[Ff,R0];lia
   ·rcases k with _|_|k
    ·cases g1;cases g2;exact⟨q3,q4⟩
    ·cases g1;cases g2;exact⟨q5,q6⟩
    ·cases g1
   ·have u0:i+1-W.st.length-W.be.length=i-W.st.length-W.be.length+1:=by lia
    refine⟨_,xs,ys,zs++[.ref pt],rfl,ql.old s7 Yn kp,kp _ _ w7 (by rw[zF];exact RZ B.hf),kp _ _ l7 (by rw[zF];exact n3),
     ⟨kp _ _ B.hs (by rw[zF];exact e2),kp _ _ B.hb (by rw[zF];exact e3),O,?_,?_,?_⟩⟩
    ·show Paired _ _ (W.st.take (i+1))
     have p':Paired (zu H7) xs (W.st.take i):=B.ps
     rw[yV (by lia)]at p' ⊢
     exact bf (λ_ _ h=>h.kp kp B.hf) p'
    ·show Paired _ _ (W.be.take (i+1-W.st.length))
     have p':Paired (d4 H7) ys (W.be.take (i-W.st.length)):=B.pb
     rw[yV (by lia)]at p' ⊢
     exact bf (λ_ _ h=>h.kp kp B.hf) p'
    ·show Paired _ _ (W.fe.take (i+1-W.st.length-W.be.length))
     rw[u0,bI ht]
     exact bv (bf (λ_ _ h=>h.kp kp B.hf) B.pf) (.cons ⟨pt,rfl,DI⟩ .nil)
 ·rintro σ H7 ⟨v2,xs,ys,zs,rfl,s7,w7,l7,B⟩
  have eW:W.upTo (W.rows.map V.str).length=W:=by
   unfold Wk.upTo
   rw[zB,RU,yV (by lia),yV (by lia),yV (by lia)]
  rw[eW]at B
  exact⟨_,rfl,q wa H7 ⟨sa,ba,fa,xs,ys,zs,w7,B⟩ s7⟩
inductive GY(vs:List V)(H:Hp)(Q:VK)(wc:XK):Prop where
 | mk (w:Addr) (W:Wk) (ui:vs=[.ref w]) (uj:Ag H w W) (zf:W.Ok) (zq:∀H',(PySem.Txt.join nl W.rows).length<=1000000->c0 H H'->Q (.str (PySem.Txt.join nl W.rows)) H'):GY vs H Q wc
theorem w6{f:Addr}(F:Ac K "_law_text" "_law_text" (top 53) f fd)(T:Txt K mg):mu P w K mg base Aa 1 f fd ["works"] GY:=by
 exists ["works","rows"]
 obtain⟨w,W,rfl,hw,ok,q⟩:=h
 obtain⟨sa,ba,fa,xs,ys,zs,h1,h2⟩:=hw.ex
 have s8:=ok.s8
 have BN:=ok.BN
 have DA:=ok.DA
 have ps:Paired (Am H) xs (W.st.map AQ):=cx (λa b hb h=>mo (ok.Ea b hb) h) h2.ps
 have pb:Paired (Am H) ys (W.be.map Au):=cx (λa b hb h=>by obtain⟨q1,q2,q3,q4,q5,q6⟩:=ok.EK b hb;exact fQ (by lia) (by lia) (by lia) (by lia) (by lia) (by lia) h) h2.pb
 have pf:Paired (Am H) zs (W.fe.map Au):=cx (λa b hb h=>by obtain⟨q1,q2,q3,q4,q5,q6⟩:=ok.EZ b hb;exact fQ (by lia) (by lia) (by lia) (by lia) (by lia) (by lia) h) h2.pf
 have l1:(W.st.map AQ).length<=80:=by rw[zB];lia
 have l2:(W.be.map Au).length<=80:=by rw[zB];lia
 have l3:(W.fe.map Au).length<=80:=by rw[zB];lia
 refine⟨_,((1|||["one"]|||[]|||[]|||(bx (K:=K) rfl ({0}<*>bh))|||bB|||(mF (K:=K) rfl Z9 a01 a02 (gZ (K:=K) rfl) bE (bu dF (@bR _ _ _ _ (bE>>a_)) (["part"]^^^[]^^^[]^^^(cG (K:=K) rfl {0})^^^bB^^^(b_ dM (by rfl) T.C8 fV ({0}>>a_)))>>a_)))<|>(1>>=bu dF {1} (["one"]^^^[]^^^[]^^^(bx (K:=K) rfl ({0}<*>bh))^^^bB^^^(mF (K:=K) rfl Z9 a01 a02 (gZ (K:=K) rfl) bE (bu dF (@bR _ _ _ _ (bE>>a_)) (["part"]^^^[]^^^[]^^^(cG (K:=K) rfl {0})^^^bB^^^(b_ dM (by rfl) T.C8 fV ({0}>>a_)))>>a_))))<|>(1>>=bu dF {1} (["one"]^^^[]^^^[]^^^(bx (K:=K) rfl ({0}<*>bh))^^^bB^^^(mF (K:=K) rfl Z9 a01 a02 (gZ (K:=K) rfl) bE (bu dF (@bR _ _ _ _ (bE>>a_)) (["part"]^^^[]^^^[]^^^(cG (K:=K) rfl {0})^^^bB^^^(b_ dM (by rfl) T.C8 fV ({0}>>a_)))>>a_))))<|>(~~~(bZ Z9 a01 a02 fy bE ({1}>>a_)))),?_⟩
 refine⟨_,rfl,(h1<<<0>>>⟨sa,rfl,⟨_,eH.of h2.hs⟩,λD1 Im=>?_⟩)⟩
 refine bA (a:=sa) (xs:=xs) (λj H5=>c0 H H5/\H5 D1=some (.lst ((((W.st.map AQ).take j).map (zx "station")).map V.str))) ⟨c0.new Im,bg⟩ (λj H5 _ p=>eH.of (p.1 _ _ h2.hs)) ?_ ?_
 ·rintro j x H5 m Wf hx ⟨s5,g5⟩ nx
  obtain⟨ts,ht,pt,vs,rfl,DI,Fc,O⟩:=ps.gt hx
  have U:=iq Fc
  have hj:=(zC.mp ht).1
  refine⟨rfl,(by show 1<=sizeLine;decide),λl1 Y=>?_⟩
  have s6:c0 H5 (upd H5 l1 (.lst [.str "station"])):=c0.new Y
  have g6:(upd H5 l1 (.lst [.str "station"])) l1=some (.lst [.str "station"]):=bg
  generalize upd H5 l1 (.lst [.str "station"])=H6 at s6 g6 ⊢
  walk_at "d"
  ·rintro H7 ⟨s7,g7⟩
   walk_at "F"
   have s8:c0 H7 (upd H7 l3 (.lst ([.str "station"]++ts.map V.str))):=c0.new Hl
   have G:=s6.trans (s7.trans s8)
   refine⟨_,l3,"station"::ts,rfl,rfl,eH.of bg,yE (eY (by decide) U O) (by decide),?_⟩
   refine⟨_,G _ _ g5,bo (by rw[zB,zB,yA];lia),nx _ ⟨(s5.trans G).upd Im,?_⟩⟩
   rw[bg,yR,ht,zK,zK]
   rfl
 rintro H1 ⟨s1,g1⟩
 rw[ps.length,zY]at g1
 replace g1:H1 D1=some (.lst ((W.st.map λs=>zx "station" (AQ s)).map V.str)):=by rw[g1,qD (f:=AQ) (g:=zx "station")];rfl
 have Yo:Paired (Am H1) ys (W.be.map Au):=bf (λ_ _ h=>Am.same s1 h) pb
 refine⟨_,rfl,_,rfl,(s1 _ _ h1<<<1>>>⟨ba,rfl,⟨_,eH.of (s1 _ _ h2.hb)⟩,λD2 CV=>?_⟩)⟩
 refine bA (a:=ba) (xs:=ys) (λj H5=>c0 H1 H5/\H5 D2=some (.lst ((((W.be.map Au).take j).map (zx "belt")).map V.str))) ⟨c0.new CV,bg⟩ (λj H5 _ p=>eH.of (p.1 _ _ (s1 _ _ h2.hb))) ?_ ?_
 ·rintro j x H5 m Wf hx ⟨s5,g5⟩ nx
  obtain⟨ts,ht,pt,vs,rfl,DI,Fc,O⟩:=Yo.gt hx
  have U:=iq Fc
  have hj:=(zC.mp ht).1
  refine⟨rfl,(by show 1<=sizeLine;decide),λl1 Y=>?_⟩
  have s6:c0 H5 (upd H5 l1 (.lst [.str "belt"])):=c0.new Y
  have g6:(upd H5 l1 (.lst [.str "belt"])) l1=some (.lst [.str "belt"]):=bg
  generalize upd H5 l1 (.lst [.str "belt"])=H6 at s6 g6 ⊢
  walk_at "d"
  ·rintro H7 ⟨s7,g7⟩
   walk_at "F"
   have s8:c0 H7 (upd H7 l3 (.lst ([.str "belt"]++ts.map V.str))):=c0.new Hl
   have G:=s6.trans (s7.trans s8)
   refine⟨_,l3,"belt"::ts,rfl,rfl,eH.of bg,yE (eY (by decide) U O) (by decide),?_⟩
   refine⟨_,G _ _ g5,bo (by rw[zB,zB,yA];lia),nx _ ⟨(s5.trans G).upd CV,?_⟩⟩
   rw[bg,yR,ht,zK,zK]
   rfl
 rintro H2 ⟨s2,g2⟩
 rw[pb.length,zY]at g2
 replace g2:H2 D2=some (.lst ((W.be.map λt=>zx "belt" (Au t)).map V.str)):=by rw[g2,qD (f:=Au) (g:=zx "belt")];rfl
 refine⟨D1,D2,_,_,rfl,rfl,s2 _ _ g1,g2,(by rw[a00];simp only [zB];lia),λl4 Pb=>?_⟩
 rw[←zK]
 have s3:c0 H2 (upd H2 l4 (.lst ((W.st.map (λs=>zx "station" (AQ s))++W.be.map (λt=>zx "belt" (Au t))).map V.str))):=c0.new Pb
 have g3:(upd H2 l4 (.lst ((W.st.map (λs=>zx "station" (AQ s))++W.be.map (λt=>zx "belt" (Au t))).map V.str))) l4=some (.lst ((W.st.map (λs=>zx "station" (AQ s))++W.be.map (λt=>zx "belt" (Au t))).map V.str)):=bg
 generalize upd H2 l4 (.lst ((W.st.map (λs=>zx "station" (AQ s))++W.be.map (λt=>zx "belt" (Au t))).map V.str))=H3 at s3 g3 ⊢
 have S3:=s1.trans (s2.trans s3)
 have Yp:Paired (Am H3) zs (W.fe.map Au):=bf (λ_ _ h=>Am.same S3 h) pf
 refine⟨_,rfl,_,rfl,(S3 _ _ h1<<<2>>>⟨fa,rfl,⟨_,eH.of (S3 _ _ h2.hf)⟩,λD3 KR=>?_⟩)⟩
 refine bA (a:=fa) (xs:=zs) (λj H5=>c0 H3 H5/\H5 D3=some (.lst ((((W.fe.map Au).take j).map (zx "feed")).map V.str))) ⟨c0.new KR,bg⟩ (λj H5 _ p=>eH.of (p.1 _ _ (S3 _ _ h2.hf))) ?_ ?_
 ·rintro j x H5 m Wf hx ⟨s5,g5⟩ nx
  obtain⟨ts,ht,pt,vs,rfl,DI,Fc,O⟩:=Yp.gt hx
  have U:=iq Fc
  have hj:=(zC.mp ht).1
  refine⟨rfl,(by show 1<=sizeLine;decide),λl1 Y=>?_⟩
  have s6:c0 H5 (upd H5 l1 (.lst [.str "feed"])):=c0.new Y
  have g6:(upd H5 l1 (.lst [.str "feed"])) l1=some (.lst [.str "feed"]):=bg
  generalize upd H5 l1 (.lst [.str "feed"])=H6 at s6 g6 ⊢
  walk_at "d"
  ·rintro H7 ⟨s7,g7⟩
   walk_at "F"
   have s8:c0 H7 (upd H7 l3 (.lst ([.str "feed"]++ts.map V.str))):=c0.new Hl
   have G:=s6.trans (s7.trans s8)
   refine⟨_,l3,"feed"::ts,rfl,rfl,eH.of bg,yE (eY (by decide) U O) (by decide),?_⟩
   refine⟨_,G _ _ g5,bo (by rw[zB,zB,yA];lia),nx _ ⟨(s5.trans G).upd KR,?_⟩⟩
   rw[bg,yR,ht,zK,zK]
   rfl
 rintro H4 ⟨s4,g4⟩
 rw[pf.length,zY]at g4
 replace g4:H4 D3=some (.lst ((W.fe.map λt=>zx "feed" (Au t)).map V.str)):=by rw[g4,qD (f:=Au) (g:=zx "feed")];rfl
 refine⟨l4,D3,_,_,rfl,rfl,s4 _ _ g3,g4,(by rw[a00];simp only [zB,zN];lia),λl5 RQ=>?_⟩
 rw[←zK]
 have s5:c0 H4 (upd H4 l5 (.lst (W.rows.map V.str))):=c0.new RQ
 have g5:(upd H4 l5 (.lst (W.rows.map V.str))) l5=some (.lst (W.rows.map V.str)):=bg
 have hr:=a05 (B:=100) W.rows (mf ok h2 3 (zJ _))
 have Jo:W.rows.length<=80:=f9 ok 3
 have e1:("\n":Str).length=1:=rfl
 refine⟨rfl,_,rfl,_,l5,W.rows,rfl,rfl,eH.of g5,(by rw[e1];lia),q _ ?_ (S3.trans (s4.trans s5))⟩
 have ej:PySem.Txt.join nl W.rows=Str.join nl W.rows:=a06 _ _
 have:=fP nl W.rows
 have e2:nl.length=1:=rfl
 rw[ej]
 rw[e2]at this
 lia
inductive GZ(vs:List V)(H:Hp)(Q:VK)(wc:XK):Prop where
 | mk (w:Addr) (s:Int) (W:Wk) (ui:vs=[.ref w,.int s]) (uj:Ag H w W) (zf:W.Ok) (zq:∀(l:Addr)(H':Hp),H l=none->H' l=some (.lst ((W.wy s).map V.int))->c0 H H'->Q (.ref l) H'):GZ vs H Q wc
theorem sW(ts:List fc):PyData.eqv (.list (ts.map DQ)) (.list [])=ts.isEmpty:=by cases ts <;>simp [PyData.eqv,PyData.eqvAll]
theorem nU{ts:List fc}(e:H p=some (.lst xs))(h:Paired (d4 H) xs ts):Dt K H 2 (.ref p) (.list (ts.map DQ)):=.lst (eH.of e) (zy.of (f:=DQ) (P:=d4 H) (λ_ _ h=>h.dt) h)
theorem d2{l:Addr}(h:H l=some (.lst [])):Dt K H 2 (.ref l) (.list []):=.lst (eH.of h) (.nil _)
theorem yb{f:Addr}(F:Ac K "_law_lanes" "_law_lanes" (top 54) f fd)(T:Txt K mg):mu P w K mg base Aa 1 f fd ["works","station"] GZ:=by
 exists ["works","station","lanes"]
 obtain⟨w,B,W,rfl,hw,ok,q⟩:=h
 obtain⟨sa,ba,fa,xs,ys,zs,h1,h2⟩:=hw.ex
 have BN:=ok.BN
 have DA:=ok.DA
 have lb:=h2.pb.length
 have lf:=h2.pf.length
 refine⟨_,((2>>=bu wH (@bR _ _ _ _ (bu gf bh bh>>a_)) (b_ qe (by rfl) T.Jw rH (cF (ox (K:=K) rfl hr.units) (["one"]^^^["station"]^^^[1]^^^(bx (K:=K) rfl ({0}<*>bh))^^^(cB (bp bU ({0}<*>bh) {1} (bq _)))^^^{0}) (@bR _ _ _ _ a_) (bq _)>>a_)))<|>(~~~(bu dF {2} (["k"]^^^["works","station"]^^^[0,1]^^^(bO rfl T.zt (‹({0}<*>bh)›>>a_))^^^(cB (bp bU ((({1}<*>bh)<*{0})<*>bh) {2} (bq _)))^^^{0})))),?_⟩
 refine⟨_,_,rfl,rfl,(by show 1<=sizeLine;decide),λl1 RH=>?_⟩
 have s1:c0 H (upd H l1 (.lst [.int (0-1)])):=c0.new RH
 have g1:(upd H l1 (.lst [.int (0-1)])) l1=some (.lst [.int (0-1)]):=bg
 generalize upd H l1 (.lst [.int (0-1)])=H1 at s1 g1 ⊢
 refine⟨_,rfl,(s1 _ _ h1<<<2>>>⟨fa,rfl,⟨_,eH.of (s1 _ _ h2.hf)⟩,λD nD=>?_⟩)⟩
 refine bA (a:=fa) (xs:=zs) (λi H4=>∃us:List V,c0 H1 H4/\H4 D=some (.lst us)/\us.length<=i/\Paired (d4 H4) us ((W.fe.take i).filter λt=>t.1==B)) ⟨[],c0.new nD,bg,zJ _,.nil⟩ (λi H4 _ ⟨_,p,_⟩=>eH.of (p _ _ (s1 _ _ h2.hf))) ?_ ?_
 ·rintro i x H4 m Wf hx ⟨us,s4,G,l4,p4⟩ nx
  obtain⟨t,ht,a0,rfl,ha⟩:=h2.pf.gt hx
  have hi:=(zC.mp hx).1
  have O:=s4 _ _ (s1 _ _ ha)
  have U:decide (V.int t.1=V.int B)=(t.1==B):=bT
  refine⟨_,rfl,(O<<<0>>>⟨_,rfl,rfl,_,rfl,?_⟩)⟩
  walk_at "S"
  ·rw[U]at hb
   refine⟨_,rfl,_,G,bo (by lia),nx _ ⟨us++[.ref a0],s4.upd nD,bg,by rw[zN];exact jA l4,?_⟩⟩
   rw[bI ht,zM,zZ (p:=λt:fc=>t.1==B) hb]
   exact bv (bf (λ_ _ h=>h.keep G) p4) (.cons (d4.keep G ⟨a0,rfl,O⟩) .nil)
  ·rw[U]at hb
   refine nx _ ⟨us,s4,G,qS l4,?_⟩
   rw[bI ht,zM,yB (p:=λt:fc=>t.1==B) (by rw[hb];exact zS),yN,zQ]
   exact p4
 rintro H4 ⟨us,s4,G,l4,p4⟩
 rw[lf,zY]at p4
 refine⟨yH _,λe0 JQ=>?_⟩
 have s5:c0 H4 (upd H4 e0 (.lst [])):=c0.new JQ
 have g5:(upd H4 e0 (.lst [])) e0=some (.lst []):=bg
 have p5:Paired (d4 (upd H4 e0 (.lst []))) us (W.fe.filter λt=>t.1==B):=bf (λ_ _ h=>d4.same s5 h) p4
 generalize upd H4 e0 (.lst [])=H5 at s5 g5 p5 ⊢
 refine⟨_,_,2,nU (s5 _ _ G) p5,d2 g5,by decide,.inr ⟨_,rfl,?_⟩⟩
 rw[sW]
 have S5:=s1.trans (s4.trans s5)
 have Yq:=s5 _ _ (s4 _ _ g1)
 refine⟨l1,_,_,rfl,rfl,Yq,by split <;>decide,by split <;>decide,(by rw[a00];split <;>decide),λl2 RL=>?_⟩
 have ew:(List.replicate (Int.toNat (if (!(W.fe.filter λt=>t.1==B).isEmpty)=true then 1 else 0)) [V.int (0-1)]).flatten=(if W.fe.any (λt=>t.1==B)then [-1]else []:List Int).map V.int:=by
  cases hc:W.fe.filter (λt=>t.1==B) with
  | nil =>
   have:W.fe.any (λt=>t.1==B)=false:=by
    rw[List.any_eq_false]
    exact λt ht=>by have:=yJ.mp hc t ht;simpa using this
   rw[this]
   rfl
  | cons t l =>
   have hm:t∈W.fe.filter (λt=>t.1==B):=by rw[hc];exact zH
   have:W.fe.any (λt=>t.1==B)=true:=jO.mpr ⟨t,(zR.mp hm).1,(zR.mp hm).2⟩
   rw[this]
   rfl
 rw[ew]
 generalize Y:(if W.fe.any (λt=>t.1==B)then [-1]else []:List Int)=dv
 have ld:dv.length<=1:=by rw[←Y];split <;>decide
 have s6:c0 H5 (upd H5 l2 (.lst (dv.map V.int))):=c0.new RL
 have g6:(upd H5 l2 (.lst (dv.map V.int))) l2=some (.lst (dv.map V.int)):=bg
 generalize upd H5 l2 (.lst (dv.map V.int))=H6 at s6 g6 ⊢
 have S6:=S5.trans s6
 refine⟨_,rfl,_,rfl,(S6 _ _ h1<<<1>>>⟨ba,ys,rfl,.inl (eH.of (S6 _ _ h2.hb)),_,rfl,by rw[BL];lia,by rw[BL];lia,λD2 CV=>?_⟩)⟩
 refine cy (lo:=0) (n:=(ys.length:Int).toNat) (λi H4=>c0 H6 H4/\H4 D2=some (.lst ((idx (λ(t:fc)=>t.2.1==B) 0 (W.be.take i)).map V.int))) ⟨c0.new CV,bg⟩ ?_ ?_
 ·rintro i H4 m Wf hi ⟨s4,h4⟩ nx
  rw[zV]at hi
  obtain⟨x,hx⟩:∃x,ys[i]?=some x:=⟨_,zD hi⟩
  obtain⟨t,ht,a0,rfl,ha⟩:=h2.pb.gt hx
  have S4:=S6.trans s4
  rw[qW]
  refine⟨_,rfl,(S4 _ _ h1<<<1>>>⟨_,rfl,⟨_,_,_,_,rfl,rfl,eH.of (S4 _ _ h2.hb),d5 hx,(S4 _ _ ha<<<1>>>⟨_,rfl,rfl,_,rfl,?_⟩)⟩⟩)⟩
  have U:decide (V.int t.2.1=V.int B)=(t.2.1==B):=bT
  have NP:=fh (λ(t:fc)=>t.2.1==B) ht
  have li:((idx (λ(t:fc)=>t.2.1==B) 0 (W.be.take i)).map V.int).length<=12:=by
   rw[zB]
   have:=df (λ(t:fc)=>t.2.1==B) (W.be.take i) 0
   rw[yA]at this
   lia
  walk_at "S"
  ·rw[U]at hb
   refine⟨_,rfl,_,h4,bo (by lia),nx _ ⟨s4.upd CV,?_⟩⟩
   rw[NP,hb,if_pos rfl,zK]
   exact bg
  ·rw[U]at hb
   refine nx _ ⟨s4,?_⟩
   rw[NP,hb,if_neg zS,zQ]
   exact h4
 rintro H9 ⟨s9,h9⟩
 rw[zV,lb,zY]at h9
 have li:=df (λ(t:fc)=>t.2.1==B) W.be 0
 refine⟨l2,D2,_,_,rfl,rfl,s9 _ _ g6,h9,(by rw[a00];simp only [zB];lia),λl3 Hl=>?_⟩
 rw[←zK]
 refine q l3 _ ((S6.trans s9).free Hl) ?_ ((S6.trans s9).trans (c0.new Hl))
 rw[bg]
 unfold Wk.wy
 rw[Y]
def rb(kp:List (Int×Int))(w:Int):List Int:=(kp.filter λp=>p.1==w).map (·.2)
theorem gX{p:Int×Int}{kp:List (Int×Int)}{w:Int}(h:p.1=w):rb (p::kp) w=p.2::rb kp w:=by
 unfold rb
 rw[zZ (by rw[h];exact beq_self_eq_true _)]
 rfl
theorem d6{p:Int×Int}{kp:List (Int×Int)}{w:Int}(h:¬p.1=w):rb (p::kp) w=rb kp w:=by
 unfold rb
 rw[yB (p:=λp:Int×Int=>p.1==w) (λz=>h (eq_of_beq z))]
theorem oN{w:Int}:∀{kp:List (Int×Int)},rb kp w≠[]->∃(j:Nat)(y:Int),(kp.map (·.1))[j]?=some w/\(∀i,i<j->(kp.map (·.1))[i]?≠some w)/\kp[j]?=some (w,y)/\∀v,rb (kp.eraseIdx j) v=if v=w then (rb kp w).tail else rb kp v
 | [],h=>absurd rfl h
 | p::kp,h=>by
  by_cases q:p.1=w
  ·refine⟨0,p.2,by rw[←q];rfl,λi hi=>absurd hi (qT i),by rw[←q];rfl,λv=>?_⟩
   show rb kp v=_
   rw[gX q]
   by_cases z:v=w
   ·rw[if_pos z,z];rfl
   ·rw[if_neg z,d6 (λy=>z (y.symm.trans q))]
  ·rw[d6 q]at h
   obtain⟨j,y,a1,a2,G,B⟩:=oN h
   refine⟨j+1,y,a1,λi hi=>?_,G,λv=>?_⟩
   ·cases i with
    | zero=>exact λz=>q (Option.some.inj z)
    | succ i=>exact a2 i (by lia)
   ·show rb (p::kp.eraseIdx j) v=_
    rw[d6 q]
    by_cases z:p.1=v
    ·rw[gX z,gX z,B,if_neg (λy=>q (z.trans y)),if_neg (λy=>q (z.trans y))]
    ·rw[d6 z,d6 z,B]
inductive G_(vs:List V)(H:Hp)(Q:VK)(wc:XK):Prop where
 | mk (l k:Addr) (ws:List Int) (us:List V) (kp:List (Int×Int)) (ui:vs=[.ref l,.ref k]) (uj:H l=some (.lst (ws.map V.int))) (zf:H k=some (.lst us)) (zq:Paired (wh H) us kp) (Ai:ws.Nodup) (AA:ws.length<=13) (Bl:us.length<=90000) (C7:∀(H':Hp),((∃w∈ws,rb kp w=[])->c0 H H'->Q .y2 H')/\∀BP BZ,(∀w∈ws,rb kp w≠[])->ql [k] H H'->H' k=some (.lst BP)->Paired (wh H') BP BZ->BP.length<=us.length->(∀v,rb BZ v=if v∈ws then (rb kp v).tail else rb kp v)->Q (.int (ws.map λw=>(rb kp w).headD 0).sum) H'):G_ vs H Q wc
theorem uP(ts:List (Int×Int)):PyData.eqv (.list (ts.map JA)) (.list [])=ts.isEmpty:=by cases ts <;>simp [PyData.eqv,PyData.eqvAll]
theorem iT{F:α->β->Prop}:∀{l:List α}{m:List β}{i:Nat},Paired F l m->Paired F (l.eraseIdx i) (m.eraseIdx i)
 | _,_,_,.nil=>.nil
 | _,_,0,.cons _ r=>r
 | _,_,i+1,.cons p r=>.cons p (iT r)
theorem v_{f:Addr}(F:Ac K "_law_joined" "_law_joined" (top 55) f fd)(T:Txt K mg):mu P w K mg base Aa 1 f fd ["lanes","kept"] G_:=by
 exists ["lanes","kept","total","way","some","at"]
 obtain⟨l,k,ws,us,kp,rfl,hl,hk,pk,Hn,OL,lu,q⟩:=h
 have lk:=pk.length
 have ZS:l≠k\/ws.map V.int=us:=by
  by_cases z:l=k
  ·rw[z,hk]at hl;cases hl;exact .inr rfl
  ·exact .inl z
 refine⟨_,((2>>=bh)<|>cj PassesOwn.never rfl (bx (K:=K) rfl {0}) (fB (i:=3) nd rfl (by nofun)) ((4|||["one"]|||["way"]|||[3]|||(bx (K:=K) rfl {1})|||(cB (bp bU ({0}<*>bh) {1} (bq _)))|||{0})<|>bL (bp (jt (K:=K) rfl hr.units) {4} (@bR _ _ _ _ a_) (bq _)) (~~~bS) bz<|>@ei _ _ _ (rT (i:=2) nd rfl (by nofun) (({4}<*bh)<*>bh) qm))<|>cj PassesOwn.never rfl (bx (K:=K) rfl {0}) (fB (i:=3) nd rfl (by nofun)) ((5>>=bZ Z5 PySem.F.slot_list_index PySem.F.type_list_index sV (["one"]^^^[]^^^[]^^^(bx (K:=K) rfl {1})^^^bB^^^({0}<*>bh)) ({3}>>a_))<|>@ei _ _ _ (bC (bZ Z5 a09 a0_ ii {1} ({5}>>a_))))<|>(~~~{2})),?_⟩
 refine⟨_,rfl,l,rfl,⟨_,eH.of hl⟩,dh (K:=K) (a:=l) (xs:=ws.map V.int) (λi σ H5=>∃(U Y:Option V),σ=[some (.ref l),some (.ref k),some (.int ((ws.take i).map λw=>(rb kp w).headD 0).sum),U,Y,none]/\c0 H H5/\∀w∈ws.take i,rb kp w≠[]) ⟨_,_,rfl,c0.refl _,λw h=>absurd h zI⟩ (λi σ H5 _ ⟨_,_,_,p,_⟩=>eH.of (p _ _ hl)) ?_ ?_⟩
 ·rintro i x σ H5 hx ⟨U,Y,rfl,s5,n5⟩
  obtain⟨wv,rfl,hw⟩:=cq hx
  have Pc:=s5 _ _ hk
  have Yr:Paired (wh H5) us kp:=bf (λ_ _ h=>wh.same s5 h) pk
  refine⟨_,rfl,k,rfl,⟨_,eH.of Pc⟩,λD nD=>?_⟩
  refine bA (a:=k) (xs:=us) (λi H6=>∃rs:List V,c0 H5 H6/\H6 D=some (.lst rs)/\rs.length<=i/\Paired (wh H6) rs ((kp.take i).filter λp=>p.1==wv)) ⟨[],c0.new nD,bg,zJ _,.nil⟩ (λi H6 _ ⟨_,p,_⟩=>eH.of (p _ _ Pc)) ?_ ?_
  ·rintro j x H6 m Wf hx ⟨rs,s6,g6,l6,G⟩ nx
   obtain⟨t,ht,a0,rfl,ha⟩:=Yr.gt hx
   have hj:=(zC.mp hx).1
   have UR:=s6 _ _ ha
   have et:decide (V.int t.1=V.int wv)=(t.1==wv):=bT
   refine⟨_,rfl,(UR<<<0>>>⟨_,rfl,rfl,_,rfl,?_⟩)⟩
   walk_at "S"
   ·rw[et]at hb
    refine⟨_,rfl,_,g6,cH (by lia),nx _ ⟨rs++[.ref a0],s6.upd nD,bg,by rw[zN];exact jA l6,?_⟩⟩
    rw[bI ht,zM,zZ (p:=λp:Int×Int=>p.1==wv) hb]
    exact bv (bf (λ_ _ h=>h.keep g6) G) (.cons (wh.keep g6 ⟨a0,rfl,UR⟩) .nil)
   ·rw[et]at hb
    refine nx _ ⟨rs,s6,g6,qS l6,?_⟩
    rw[bI ht,zM,yB (p:=λp:Int×Int=>p.1==wv) (by rw[hb];exact zS),yN,zQ]
    exact G
  rintro H6 ⟨rs,s6,g6,l6,G⟩
  rw[lk,zY]at G
  refine⟨_,rfl,yH _,λe0 JQ=>?_⟩
  have s7:c0 H6 (upd H6 e0 (.lst [])):=c0.new JQ
  have g7:(upd H6 e0 (.lst [])) e0=some (.lst []):=bg
  have p7:Paired (wh (upd H6 e0 (.lst []))) rs (kp.filter λp=>p.1==wv):=bf (λ_ _ h=>wh.same s7 h) G
  generalize upd H6 e0 (.lst [])=H7 at s7 g7 p7 ⊢
  have S7:=s5.trans (s6.trans s7)
  refine⟨_,_,2,w5 (s7 _ _ g6) p7,d2 g7,by decide,_,rfl,?_⟩
  rw[uP]
  cases hc:kp.filter (λp=>p.1==wv) with
  | nil=>exact vr ((q H7).1 ⟨wv,zE hw,by unfold rb;rw[hc];rfl⟩ S7)
  | cons t ts =>
   rw[hc]at p7
   cases p7 with
   | @cons x _ ZT _ px pr =>
   obtain⟨a0,rfl,ha⟩:=px
   have er:rb kp wv=t.2::ts.map (·.2):=by unfold rb;rw[hc];rfl
   refine nj ⟨_,rfl,_,rfl,⟨_,_,_,_,rfl,rfl,eH.of (s7 _ _ g6),(d5 (j:=0) rfl),(ha<<<1>>>⟨_,_,rfl,rfl,?_⟩)⟩⟩
   refine⟨some (.int wv),some (.ref D),?_,S7,?_⟩
   ·rw[bI hw,zK,List.map_singleton,lH,er]
    rfl
   ·rw[bI hw]
    intro w Ys
    rcases zW.mp Ys with z|z
    ·exact n5 w z
    ·rw[zF.mp z,er];exact List.cons_ne_nil _ _
 rintro σ H5 ⟨U,Y,rfl,s5,n5⟩
 rw[zB,zY]at n5
 rw[zB,zY]
 refine⟨_,rfl,l,rfl,⟨_,eH.of (s5 _ _ hl)⟩,dh (K:=K) (a:=l) (xs:=ws.map V.int) (λi σ H6=>∃(U Y v5:Option V)(BP:List V)(BZ:List (Int×Int)),σ=[some (.ref l),some (.ref k),some (.int (ws.map λw=>(rb kp w).headD 0).sum),U,Y,v5]/\ql [k] H H6/\H6 l=some (.lst (ws.map V.int))/\H6 k=some (.lst BP)/\Paired (wh H6) BP BZ/\BP.length<=us.length/\∀v,rb BZ v=if v∈ws.take i then (rb kp v).tail else rb kp v) ⟨_,_,_,us,kp,rfl,ql.same s5,s5 _ _ hl,s5 _ _ hk,bf (λ_ _ h=>wh.same s5 h) pk,zJ _,λv=>by rw[qX,if_neg zI]⟩ (λi σ H6 _ ⟨_,_,_,_,_,_,_,p,_⟩=>eH.of p) ?_ ?_⟩
 ·rintro i x σ H6 hx ⟨U,Y,v5,BP,BZ,rfl,k6,O,B,G,R1,r6⟩
  obtain⟨wv,rfl,hw⟩:=cq hx
  have Yt:=G.length
  have US:wv∉ws.take i:=λz=>by
   obtain⟨j,hj⟩:=yS z
   have Yu:j<i:=by
    have:=(zC.mp hj).1
    rw[yA]at this
    lia
   rw[kJ Yu]at hj
   have:=(vI (zC.mp hj).1 Hn).mp (hj.trans hw.symm)
   lia
  have Yv:rb BZ wv≠[]:=by
   rw[r6,if_neg US]
   exact n5 wv (zE hw)
  obtain⟨j,y,a1,a2,a3,a4⟩:=oN Yv
  have hj:=(zC.mp a3).1
  have nl:l≠k:=λz=>by
   rw[z,B]at O
   cases O
   obtain⟨x0,h0⟩:∃x0,(ws.map V.int)[j]?=some x0:=⟨_,zD (by lia)⟩
   obtain⟨t,ht,a0,e,_⟩:=G.gt h0
   obtain⟨z,ez,_⟩:=cq h0
   rw[e]at ez
   cases ez
  refine⟨_,rfl,k,rfl,⟨_,eH.of B⟩,λD nD=>?_⟩
  refine bA (a:=k) (xs:=BP) (λi H7=>c0 H6 H7/\H7 D=some (.lst (((BZ.take i).map (·.1)).map V.int))) ⟨c0.new nD,bg⟩ (λi H7 _ p=>eH.of (p.1 _ _ B)) ?_ ?_
  ·rintro n x H7 m Wf hx ⟨s7,g7⟩ nx
   obtain⟨t,ht,a0,rfl,ha⟩:=G.gt hx
   have hn:=(zC.mp hx).1
   refine⟨_,rfl,(s7 _ _ ha<<<0>>>⟨_,g7,cH (by simp only [zB,yA];lia),nx _ ⟨s7.upd nD,?_⟩⟩)⟩
   rw[bg,bI ht,zK,zK]
   rfl
  rintro H7 ⟨s7,g7⟩
  rw[Yt,zY]at g7
  refine⟨CH g7,_,rfl,⟨D,_,wv,j,rfl,rfl,g7,a1,a2,by lia,?_⟩⟩
  have R4:=s7 _ _ B
  obtain⟨x1,F5⟩:∃x1,BP[j]?=some x1:=⟨_,zD (by lia)⟩
  refine⟨_,rfl,CH R4,_,rfl,⟨k,BP,_,j,x1,rfl,rfl,R4,by lia,by lia,seqIndex_of (by lia) (by lia),F5,?_⟩⟩
  have k7:ql [k] H H7:=k6.trans (ql.same s7)
  refine⟨_,_,_,BP.eraseIdx j,BZ.eraseIdx j,rfl,k7.upd zH,by rw[bj nl];exact s7 _ _ O,bg,iT (bf (λ_ _ h=>(wh.same s7 h).keep R4) G),yE (eI BP j) R1,λv=>?_⟩
  rw[a4,bI hw]
  by_cases z:v=wv
  ·rw[if_pos z,if_pos (by rw[z];exact zU _ zH),r6,if_neg US,z]
  ·rw[if_neg z,r6]
   by_cases y:v∈ws.take i
   ·rw[if_pos y,if_pos (yQ _ y)]
   ·rw[if_neg y,if_neg λm=>by
     rcases zW.mp m with m|m
     ·exact y m
     ·exact z (zF.mp m)]
 ·rintro σ H6 ⟨U,Y,v5,BP,BZ,rfl,k6,O,B,G,R1,r6⟩
  rw[zB,zY]at r6
  exact⟨_,rfl,(q H6).2 BP BZ n5 k6 B G R1 r6⟩
theorem ig(ns:List Int):PyData.eqv (.list (ns.map PyData.int)) (.list [])=ns.isEmpty:=by cases ns <;>simp [PyData.eqv,PyData.eqvAll]
def CN(p:SP)(kp:List (Int×Int)):Prop:=(p.k=.kc->p.rows=p.ws.map (rb kp))/\((∃n,p.k=.rd n)->p.seen=(kp.length:Int))
def NQ(H:Hp)(o:Option (Int×Int))(v:V):Prop:=(o=none/\v=.y2)\/∃b y t,o=some (b,y)/\v=.ref t/\H t=some (.tup [.int b,.int y])
theorem iK(kp:List (Int×Int))(a z v:Int):rb (kp++[(a,z)]) v=rb kp v++if a=v then [z]else []:=by
 unfold rb
 rw[zM,zK]
 congr 1
 by_cases q:a=v
 ·rw[if_pos q,zZ (p:=λp:Int×Int=>p.1==v) (by rw[q];exact beq_self_eq_true _)]
  rfl
 ·rw[if_neg q,yB (p:=λp:Int×Int=>p.1==v) (λz=>q (eq_of_beq z))]
  rfl
theorem yn{ws:List Int}{kp:List (Int×Int)}{a:Int}(nd:ws.Nodup)(ha:a∈ws):(ws.map (rb kp)).set (ws.idxOf a) ((ws.map (rb kp)).getD (ws.idxOf a) []++[z])=ws.map (rb (kp++[(a,z)])):=by
 have hi:ws.idxOf a<ws.length:=List.idxOf_lt_length_of_mem ha
 have hg:ws[ws.idxOf a]?=some a:=by rw[zD hi,vE hi]
 refine jI λj=>?_
 rw[vH,zB,zG,zG]
 by_cases q:ws.idxOf a=j
 ·subst q
  rw[if_pos rfl,if_pos hi,hg,zA,zG,hg]
  show some (rb kp a++[z])=some (rb (kp++[(a,z)]) a)
  rw[iK,if_pos rfl]
 ·rw[if_neg q]
  cases e:ws[j]? with
  | none=>rfl
  | some b =>
   show some (rb kp b)=some (rb (kp++[(a,z)]) b)
   rw[iK,if_neg,zQ]
   intro w
   rw[←w]at e
   have:=(vI (zC.mp hg).1 nd).mp (hg.trans e.symm)
   exact q this
theorem mx{ws:List Int}{R:Int->List Int}:Bf (ws.map R)=true↔∃w∈ws,R w=[]:=by
 unfold Bf
 rw[vL,jO]
 constructor
 ·rintro⟨w,h,e⟩
  exact⟨w,h,by simpa using e⟩
 ·rintro⟨w,h,e⟩
  exact⟨w,h,by simp [e]⟩
theorem pj{ws:List Int}{R:Int->List Int}:heads (ws.map R)=(ws.map λw=>(R w).headD 0).sum:=by
 unfold heads
 rw[qD]
 rfl
theorem wO{p:SP}{kp:List (Int×Int)}{a:Int}(h:CN p kp)(B:p.k≠.kc):CN (p.Aw j z) (kp++[(a,z)]):=by
 obtain⟨k,ws,bs,seen,rows⟩:=p
 obtain⟨h1,h2⟩:=h
 cases k with
 | kc=>exact absurd rfl B
 | rd n =>
  refine⟨λe=>(nomatch e),λ_=>?_⟩
  show seen+1=((kp++[(a,z)]).length:Int)
  have e:seen=(kp.length:Int):=h2 ⟨n,rfl⟩
  rw[e,zN]
  rfl
 | Ak n=>exact⟨λe=>(nomatch e),λ⟨_,e⟩=>(nomatch e)⟩
 | zp=>exact⟨λe=>(nomatch e),λ⟨_,e⟩=>(nomatch e)⟩
 | sink=>exact⟨λe=>(nomatch e),λ⟨_,e⟩=>(nomatch e)⟩
theorem ua{p:SP}{kp:List (Int×Int)}{a:Int}(h:CN p kp)(B:p.k=.kc)(nd:p.ws.Nodup)(ha:a∈p.ws):((∃w∈p.ws,rb (kp++[(a,z)]) w=[])->p.out (p.ws.idxOf a) z=none/\CN (p.Aw (p.ws.idxOf a) z) (kp++[(a,z)])) /\
  ((∀w∈p.ws,rb (kp++[(a,z)]) w≠[])->p.out (p.ws.idxOf a) z=p.bs.head?.map (λb=>(b,(p.ws.map λw=>(rb (kp++[(a,z)]) w).headD 0).sum))/\∀BZ,(∀v,rb BZ v=if v∈p.ws then (rb (kp++[(a,z)]) v).tail else rb (kp++[(a,z)]) v)->CN (p.Aw (p.ws.idxOf a) z) BZ):=by
 obtain⟨k,ws,bs,seen,rows⟩:=p
 obtain⟨h1,h2⟩:=h
 cases B
 have er:rows=ws.map (rb kp):=h1 rfl
 subst er
 have ea:(ws.map (rb kp)).set (ws.idxOf a) ((ws.map (rb kp)).getD (ws.idxOf a) []++[z])=ws.map (rb (kp++[(a,z)])):=yn nd ha
 refine⟨λq=>?_,λq=>?_⟩
 ·have an:=mx.mpr q
  rw[←ea]at an
  refine⟨?_,λ_=>?_,λ⟨_,e⟩=>nomatch e⟩
  ·show(if Bf ((ws.map (rb kp)).set (ws.idxOf a) ((ws.map (rb kp)).getD (ws.idxOf a) []++[z]))=true then none else _)=none
   rw[if_pos an]
  ·show(if Bf ((ws.map (rb kp)).set (ws.idxOf a) ((ws.map (rb kp)).getD (ws.idxOf a) []++[z]))=true then _ else _)=_
   rw[if_pos an]
   exact ea
 ·have an:¬Bf ((ws.map (rb kp)).set (ws.idxOf a) ((ws.map (rb kp)).getD (ws.idxOf a) []++[z]))=true:=by
   rw[ea,mx]
   exact λ⟨w,h,e⟩=>q w h e
  refine⟨?_,λBZ hk=>⟨λ_=>?_,λ⟨_,e⟩=>nomatch e⟩⟩
  ·show(if Bf ((ws.map (rb kp)).set (ws.idxOf a) ((ws.map (rb kp)).getD (ws.idxOf a) []++[z]))=true then none else bs.head?.map λb=>(b,heads ((ws.map (rb kp)).set (ws.idxOf a) ((ws.map (rb kp)).getD (ws.idxOf a) []++[z]))))=_
   rw[if_neg an,ea,pj]
  ·show(if Bf ((ws.map (rb kp)).set (ws.idxOf a) ((ws.map (rb kp)).getD (ws.idxOf a) []++[z]))=true then _ else ((ws.map (rb kp)).set (ws.idxOf a) ((ws.map (rb kp)).getD (ws.idxOf a) []++[z])).map List.tail)=ws.map (rb BZ)
   rw[if_neg an,ea,qD]
   exact kX λw hw=>by rw[hk w,if_pos hw];rfl
inductive EI(vs:List V)(H:Hp)(Q:VK)(wc:XK):Prop where
 | mk (w e k:Addr) (s:Nat) (W:Wk) (M:List (List Cell)) (us:List V) (kp:List (Int×Int)) (p:SP) (t a z:Int) (ui:vs=[.ref w,.int (s:Int),.ref e,.ref k]) (uj:Hc H ([(k,.lst us)]::M)) (zf:EG M w W) (zq:W.Ok) (Ai:s<W.st.length) (AA:H e=some (.tup [.int t,.int a,.int z])) (Bl:Paired (wh H) us kp) (C7:CN p kp) (Jt:p.k=kdOf (W.st.getD s ("",none))) (Ju:p.ws=W.wy s) (GG:p.bs=W.lv s) (KZ:a∈W.wy s) (Nb:us.length<=80000) (RJ:∀(v:V)(H':Hp)(BP:List V)(BZ:List (Int×Int)),NQ H' (p.out (p.ws.idxOf a) z) v->ql [k] H H'->H' k=some (.lst BP)->Paired (wh H') BP BZ->CN (p.Aw (p.ws.idxOf a) z) BZ->BP.length<=us.length+1->Q v H'):EI vs H Q wc
theorem ur{f:Addr}(F:Ac K "_law_put" "_law_put" (top 56) f fd)(T:Txt K mg)(ay:FnAt P w K mg base 1 "_law_lanes" ["works","station"] GZ)(aq:FnAt P w K mg base 1 "_law_joined" ["lanes","kept"] G_):mu P w K mg base Aa 2 f fd ["works","station","event","kept"] EI:=by
 exists ["works","station","event","kept","belts","kind","piece"]
 obtain⟨w,e,k,Y,W,M,us,kp,p,t,a,z,rfl,hc,wW,ok,hs,he,pk,Pm,U,LM,UT,ha,lu,q⟩:=h
 obtain⟨sa,ba,fa,xs,ys,zs,h1,h2⟩:=(wW H hc.tl).ex
 have hk:=hc.get 0 0 rfl rfl
 have BN:=ok.BN
 have lb:=h2.pb.length
 have ls:=h2.ps.length
 have ZU:e≠k:=bK he hk λz=>nomatch z
 refine⟨_,((4|||["k"]|||["works","station"]|||[0,1]|||(bO rfl T.zt (‹({0}<*>bh)›>>a_))|||(cB (bp bU ((({1}<*>bh)<*{0})<*>bh) {2} (bq _)))|||{0})<|>(5>>=(({0}<*>bh)<*{1}))<|>(6>>=({2}<*>bh))<|>bC (bZ Z5 Z6 Z7 bH {3} (@bF _ _ _ _ _ (({2}<*>bh)>>{6}>>a_)>>a_))<|>bL (bp bU ({5}<*>bh) bE (bq _)) (@ei _ _ _ (6>>=(aq<&>((ay<&>({0}>>{1}>>a_))>>{3}>>a_)))) bz<|>bL ((gQ (bp bU ({5}<*>bh) bE (bq _)) (gQ (bp (jt (K:=K) rfl hr.units) {4} (@bR _ _ _ _ a_) (bq _)) (hV (bp gU {6} bS (bq _)))))).pt (~~~bS) bz<|>bL ((i7 (bp bU ({5}<*>bh) bE (bq _)) (gH (bp bU (bu bN ‹{3}› ({5}<*>bh)) bh (bq _))))).pt (~~~bS) bz<|>bL (bp bU ({5}<*>bh) bE (bq _)) (~~~(@bF _ _ _ _ _ (({4}<*bu bN {6} ‹{4}›)>>{6}>>a_))) bz<|>bL (bp bU ({5}<*>bh) bE (bq _)) (@ei _ _ _ (rT (i:=6) nd rfl (by nofun) ({5}<*>bh) qm)) bz<|>(~~~(@bF _ _ _ _ _ (({4}<*bh)>>{6}>>a_)))),?_⟩
 refine⟨_,rfl,(h1<<<1>>>⟨ba,ys,rfl,.inl (eH.of h2.hb),_,rfl,by rw[BL];lia,by rw[BL];lia,λD nD=>?_⟩)⟩
 refine cy (lo:=0) (n:=(ys.length:Int).toNat) (λi H4=>c0 H H4/\H4 D=some (.lst ((idx (λ(t:fc)=>t.1==(Y:Int)) 0 (W.be.take i)).map V.int))) ⟨c0.new nD,bg⟩ ?_ ?_
 ·rintro i H4 m Wf hi ⟨s4,h4⟩ nx
  rw[zV]at hi
  obtain⟨x,hx⟩:∃x,ys[i]?=some x:=⟨_,zD hi⟩
  obtain⟨t,ht,a0,rfl,ha⟩:=h2.pb.gt hx
  rw[qW]
  refine⟨_,rfl,(s4 _ _ h1<<<1>>>⟨_,rfl,⟨_,_,_,_,rfl,rfl,eH.of (s4 _ _ h2.hb),d5 hx,(s4 _ _ ha<<<0>>>⟨_,rfl,rfl,_,rfl,?_⟩)⟩⟩)⟩
  have et:decide (V.int t.1=V.int (Y:Int))=(t.1==(Y:Int)):=bT
  have NP:=fh (λ(t:fc)=>t.1==(Y:Int)) ht
  have li:((idx (λ(t:fc)=>t.1==(Y:Int)) 0 (W.be.take i)).map V.int).length<=12:=by
   rw[zB]
   have:=df (λ(t:fc)=>t.1==(Y:Int)) (W.be.take i) 0
   rw[yA]at this
   lia
  walk_at "S"
  ·rw[et]at hb
   refine⟨_,rfl,_,h4,bo (by lia),nx _ ⟨s4.upd nD,?_⟩⟩
   rw[NP,hb,if_pos rfl,zK]
   exact bg
  ·rw[et]at hb
   refine nx _ ⟨s4,?_⟩
   rw[NP,hb,if_neg zS,zQ]
   exact h4
 rintro H1 ⟨s1,g1⟩
 rw[zV,lb,zY]at g1
 replace g1:H1 D=some (.lst (p.bs.map V.int)):=by rw[g1,UT];rfl
 obtain⟨sx,UU⟩:∃x,xs[Y]?=some x:=⟨_,zD (by lia)⟩
 obtain⟨st,DB,as,rfl,has⟩:=h2.ps.gt UU
 have Yw:st∈W.st:=zE DB
 have Yx:W.st.getD Y ("",none)=st:=by rw[zA,DB];rfl
 rw[Yx]at U
 refine⟨_,rfl,(s1 _ _ h1<<<0>>>⟨_,rfl,⟨_,_,_,_,rfl,rfl,eH.of (s1 _ _ h2.hs),d5 UU,?_⟩⟩)⟩
 have R5:=s1 _ _ he
 refine⟨_,rfl,(R5<<<2>>>?_)⟩
 have MQ:=s1 _ _ hk
 refine⟨_,rfl,CH MQ,_,rfl,(R5<<<1>>>⟨_,rfl,(by show 2<=sizeLine;decide),λp1 Yy=>?_⟩)⟩
 have s2:c0 H1 (upd H1 p1 (.tup [.int a,.int z])):=c0.new Yy
 have g2:(upd H1 p1 (.tup [.int a,.int z])) p1=some (.tup [.int a,.int z]):=bg
 generalize upd H1 p1 (.tup [.int a,.int z])=H2 at s2 g2 ⊢
 have S2:=s1.trans s2
 have Pe:=S2 _ _ hk
 refine⟨k,us,_,rfl,rfl,Pe,cH (by lia),?_⟩
 have Iw:=(hc.same S2).put 0 0 rfl rfl (.lst (us++[.ref p1]))
 replace Iw:Hc (upd H2 k (.lst (us++[.ref p1]))) ([(k,.lst (us++[.ref p1]))]::M):=Iw
 have K3:ql [k] H (upd H2 k (.lst (us++[.ref p1]))):=(ql.same S2).upd zH
 have g3:(upd H2 k (.lst (us++[.ref p1]))) D=some (.lst (p.bs.map V.int)):=by
  rw[bj (bi hk nD).symm]
  exact s2 _ _ g1
 have CG:(upd H2 k (.lst (us++[.ref p1]))) as=some (.tup (Ge st)):=by
  rw[bj (bK has hk λz=>nomatch z)]
  exact S2 _ _ has
 have p3:Paired (wh (upd H2 k (.lst (us++[.ref p1])))) (us++[.ref p1]) (kp++[(a,z)]):=bv (bf (λ_ _ h=>(wh.same S2 h).keep Pe) pk) (.cons (wh.keep Pe ⟨p1,rfl,g2⟩) .nil)
 generalize upd H2 k (.lst (us++[.ref p1]))=H3 at Iw K3 g3 CG p3 ⊢
 have LP:=Iw.get 0 0 rfl rfl
 have B:(us++[V.ref p1]).length=us.length+1:=by rw[zN];rfl
 clear R5 MQ s2 g2 Pe S2 g1
 have Yz:=Wk.KO ok (Y:Int)
 rw[←UT]at Yz
 rcases ok.Ea st Yw with ⟨n,rfl,_,_⟩|rfl|⟨n,rfl,n2,n9⟩|rfl|rfl
 ·have ek:p.k=.Ak n:=U.trans (ma _)
  walk_at "t"
  rw[show decide (V.str "relay"=V.str (Str.ofString "joiner"))=false from by decide +kernel]
  refine nj ?_
  refine⟨_,rfl,(CG<<<0>>>⟨rfl,_,rfl,?_⟩)⟩
  rw[show decide (V.str "relay"=V.str (Str.ofString "sink"))=false from by decide +kernel]
  walk_at "f"
  cases Cd:p.bs with
  | nil=>exact vr (vr (q .y2 HE _ _ (.inl ⟨by unfold SP.out SR.out;rw[show p.sr.k=.Ak n from ek];show p.bs.head?.map _=_;rw[Cd];rfl,rfl⟩) kE uE pE Cj (qK B)))
  | cons b bs =>
  refine nj ⟨_,rfl,rfl,_,rfl,nj ?_⟩
  rw[Cd]at DE
  walk_at "x"
  rw[show decide (V.str "relay"=V.str (Str.ofString "thinner"))=false from by decide +kernel]
  refine nj ?_
  walk_at "x"
  rw[show decide (V.str "relay"=V.str (Str.ofString "sorter"))=false from by decide +kernel]
  refine nj ?_
  walk_at "x"
  rw[show decide (V.str "relay"=V.str (Str.ofString "relay"))=true from by decide +kernel]
  refine vr ⟨_,rfl,_,rfl,(Od<<<1>>>⟨_,_,rfl,rfl,?_⟩)⟩
  refine⟨_,rfl,⟨_,_,_,_,rfl,rfl,eH.of DE,(d5 (j:=0) rfl),_,rfl,(by show 2<=sizeLine;decide),λpt G=>?_⟩⟩
  have O:=c0.new (o:=.tup [.int b,.int (z+n)]) G
  exact q (.ref pt) _ _ _ (.inr ⟨b,z+n,pt,by unfold SP.out SR.out;rw[show p.sr.k=.Ak n from ek];show p.bs.head?.map _=_;rw[Cd];rfl,rfl,bg⟩) (kE.trans (ql.same O)) (O _ _ uE) (bf (λ_ _ h=>wh.same O h) pE) Cj (qK B)
 ·have ek:p.k=.zp:=U.trans (iZ _)
  walk_at "t"
  rw[show decide (V.str "sorter"=V.str (Str.ofString "joiner"))=false from by decide +kernel]
  refine nj ?_
  refine⟨_,rfl,(CG<<<0>>>⟨rfl,_,rfl,?_⟩)⟩
  rw[show decide (V.str "sorter"=V.str (Str.ofString "sink"))=false from by decide +kernel]
  walk_at "f"
  cases Cd:p.bs with
  | nil=>exact vr (vr (q .y2 HE _ _ (.inl ⟨by unfold SP.out SR.out;rw[show p.sr.k=.zp from ek];show(if p.bs=[]then none else _)=_;rw[if_pos Cd],rfl⟩) kE uE pE Cj (qK B)))
  | cons b bs =>
  refine nj ⟨_,rfl,rfl,_,rfl,nj ?_⟩
  rw[Cd]at DE
  walk_at "x"
  rw[show decide (V.str "sorter"=V.str (Str.ofString "thinner"))=false from by decide +kernel]
  refine nj ?_
  walk_at "x"
  rw[show decide (V.str "sorter"=V.str (Str.ofString "sorter"))=true from by decide +kernel]
  have lp:0<p.bs.length:=by rw[Cd];exact Nat.succ_pos _
  have a1:=qC z (show(p.bs.length:Int)≠0 by lia)
  have a2:=y3 z (show 0<(p.bs.length:Int) by lia)
  obtain⟨b',Ox⟩:∃b,p.bs[(z%(p.bs.length:Int)).toNat]?=some b:=⟨p.bs[(z%(p.bs.length:Int)).toNat]'(by lia),zD _⟩
  rw[←Cd]at DE
  have YA:Fi (p.bs.map V.int) (z%((p.bs.map V.int).length:Int))=some (.int b'):=by
   rw[zB,show z%(p.bs.length:Int)=(((z%(p.bs.length:Int)).toNat:Nat):Int) by lia]
   exact d5 (by rw[zG,Ox];rfl)
  refine vr ⟨_,rfl,_,rfl,_,rfl,D,_,rfl,.inl (eH.of DE),_,_,rfl,rfl,(by rw[zB];lia),⟨_,_,_,_,rfl,rfl,eH.of DE,YA,_,rfl,(by show 2<=sizeLine;decide),λpt G=>?_⟩⟩
  have O:=c0.new (o:=.tup [.int b',.int z]) G
  refine q (.ref pt) _ _ _ (.inr ⟨b',z,pt,?_,rfl,bg⟩) (kE.trans (ql.same O)) (O _ _ uE) (bf (λ_ _ h=>wh.same O h) pE) Cj (qK B)
  unfold SP.out SR.out
  rw[show p.sr.k=.zp from ek]
  show(if p.bs=[]then none else (p.bs[(z%(p.bs.length:Int)).toNat]?).map _)=_
  rw[if_neg (by rw[Cd];exact List.cons_ne_nil _ _),Ox]
  rfl
 ·have ek:p.k=.rd n:=U.trans (ie _)
  walk_at "t"
  rw[show decide (V.str "thinner"=V.str (Str.ofString "joiner"))=false from by decide +kernel]
  refine nj ?_
  refine⟨_,rfl,(CG<<<0>>>⟨rfl,_,rfl,?_⟩)⟩
  rw[show decide (V.str "thinner"=V.str (Str.ofString "sink"))=false from by decide +kernel]
  walk_at "f"
  cases Cd:p.bs with
  | nil=>exact vr (vr (q .y2 HE _ _ (.inl ⟨by unfold SP.out SR.out;rw[show p.sr.k=.rd n from ek];show(if (p.seen+1)%n=0 then none else p.bs.head?.map _)=_;rw[Cd];split <;>rfl,rfl⟩) kE uE pE Cj (qK B)))
  | cons b bs =>
  refine nj ⟨_,rfl,rfl,_,rfl,nj ?_⟩
  rw[Cd]at DE
  walk_at "x"
  rw[show decide (V.str "thinner"=V.str (Str.ofString "thinner"))=true from by decide +kernel]
  have YB:p.seen=(kp.length:Int):=Pm.2 ⟨n,ek⟩
  have lk:=pk.length
  refine vr ⟨_,rfl,k,_,rfl,.inl (eH.of uE),_,rfl,(Od<<<1>>>⟨_,_,rfl,rfl,(by lia),rfl,_,rfl,?_⟩)⟩
  have el:((us++[V.ref p1]).length:Int)=p.seen+1:=by rw[B,YB];lia
  rw[el]
  have ed:decide (V.int ((p.seen+1)%n)=V.int 0)=((p.seen+1)%n==0):=bT
  have eo:p.out (p.ws.idxOf a) z=if (p.seen+1)%n=0 then none else p.bs.head?.map λb=>(b,z):=by
   unfold SP.out SR.out
   rw[show p.sr.k=.rd n from ek]
   rfl
  walk_at "S"
  ·rw[ed]at hb
   exact q .y2 HE _ _ (.inl ⟨by rw[eo,if_pos (eq_of_beq hb)],rfl⟩) kE uE pE Cj (qK B)
  rw[ed]at hb
  have YC:p.out (p.ws.idxOf a) z=some (b,z):=by rw[eo,if_neg (λy=>by rw[y]at hb;cases hb),Cd];rfl
  walk_at "x"
  rw[show decide (V.str "thinner"=V.str (Str.ofString "sorter"))=false from by decide +kernel]
  refine nj ?_
  walk_at "x"
  rw[show decide (V.str "thinner"=V.str (Str.ofString "relay"))=false from by decide +kernel]
  refine nj ?_
  refine⟨_,rfl,⟨_,_,_,_,rfl,rfl,eH.of DE,(d5 (j:=0) rfl),_,rfl,(by show 2<=sizeLine;decide),λpt G=>?_⟩⟩
  have O:=c0.new (o:=.tup [.int b,.int (z)]) G
  exact q (.ref pt) _ _ _ (.inr ⟨b,z,pt,by exact YC,rfl,bg⟩) (kE.trans (ql.same O)) (O _ _ uE) (bf (λ_ _ h=>wh.same O h) pE) Cj (qK B)
 ·have ek:p.k=.kc:=U.trans (iI _)
  refine⟨_,rfl,(CG<<<0>>>⟨rfl,_,rfl,?_⟩)⟩
  rw[show decide (V.str "joiner"=V.str (Str.ofString "joiner"))=true from by decide +kernel]
  refine vr ⟨_,rfl,_,rfl,⟨w,(Y:Int),W,rfl,wW H3 Iw.tl,ok,λl4 H4 Pb g4 s4=>?_⟩⟩
  have UW:=s4 _ _ LP
  have p4:Paired (wh H4) (us++[.ref p1]) (kp++[(a,z)]):=bf (λ_ _ h=>wh.same s4 h) p3
  rw[←LM]at g4
  have Hn:p.ws.Nodup:=by rw[LM];exact W.Cz _
  have YD:a∈p.ws:=by rw[LM];exact ha
  have OL:=Wk.Gu ok (Y:Int)
  rw[←LM]at OL
  obtain⟨YE,YF⟩:=ua (z:=z) Pm ek Hn YD
  refine⟨_,rfl,⟨l4,k,p.ws,_,_,rfl,g4,UW,p4,Hn,OL,by rw[B];lia,λH5=>⟨λex s5=>?_,λBP BZ al k5 Pc p5 R6 r5=>?_⟩⟩⟩
  ·obtain⟨o1,o2⟩:=YE ex
   have NR:=s4.trans s5
   have FH:=NR _ _ CG
   have fin:∀HX,c0 H5 HX->NQ HX (p.out (p.ws.idxOf a) z) .y2->Q .y2 HX:=λHX sX pv=>q .y2 HX _ _ pv (K3.trans (ql.same (NR.trans sX))) ((NR.trans sX) _ _ LP) (bf (λ_ _ h=>wh.same (NR.trans sX) h) p3) o2 (qK B)
   walk_at "B"
   refine⟨_,_,2,Dt.ints 1 (eH.of (sE _ _ (NR _ _ g3))),d2 gE,by decide,_,rfl,?_⟩
   rw[ig]
   refine Fd (λ_=>?_) (λ_=>?_)
   ·exact vr (fin HE sE (.inl ⟨o1,rfl⟩))
   ·exact⟨_,rfl,rfl,_,rfl,vr (fin HE sE (.inl ⟨o1,rfl⟩))⟩
  ·obtain⟨o1,o2⟩:=YF al
   have Cj:=o2 BZ r5
   rw[B]at R6
   have K5:ql [k] H H5:=K3.trans ((ql.same s4).trans k5)
   have FH:H5 as=some (.tup (Ge ("joiner",none))):=k5 _ _ (s4 _ _ CG) (by rw[zF];exact bK (s4 _ _ CG) UW λz=>nomatch z)
   have D5:H5 D=some (.lst (p.bs.map V.int)):=k5 _ _ (s4 _ _ g3) (by rw[zF];exact(bi hk nD).symm)
   walk_at "B"
   refine⟨_,_,2,Dt.ints 1 (eH.of (sE _ _ D5)),d2 gE,by decide,_,rfl,?_⟩
   rw[ig]
   have Od:=sE _ _ FH
   have DE:=sE _ _ D5
   have uE:=sE _ _ Pc
   have pE:Paired (wh HE) BP BZ:=bf (λ_ _ h=>wh.same sE h) p5
   have kE:ql [k] H HE:=K5.trans (ql.same sE)
   cases Cd:p.bs with
   | nil=>exact vr (vr (q .y2 HE BP BZ (.inl ⟨by rw[o1,Cd];rfl,rfl⟩) kE uE pE Cj R6))
   | cons b bs =>
   refine nj ⟨_,rfl,rfl,_,rfl,nj ?_⟩
   rw[Cd]at DE
   walk_at "x"
   rw[show decide (V.str "joiner"=V.str (Str.ofString "thinner"))=false from by decide +kernel]
   refine nj ?_
   walk_at "x"
   rw[show decide (V.str "joiner"=V.str (Str.ofString "sorter"))=false from by decide +kernel]
   refine nj ?_
   walk_at "x"
   rw[show decide (V.str "joiner"=V.str (Str.ofString "relay"))=false from by decide +kernel]
   refine nj ?_
   refine⟨_,rfl,⟨_,_,_,_,rfl,rfl,eH.of DE,(d5 (j:=0) rfl),_,rfl,(by show 2<=sizeLine;decide),λpt G=>?_⟩⟩
   have O:=c0.new (o:=.tup [.int b,.int ((p.ws.map λw=>(rb (kp++[(a,z)]) w).headD 0).sum)]) G
   exact q (.ref pt) _ BP BZ (.inr ⟨b,(p.ws.map λw=>(rb (kp++[(a,z)]) w).headD 0).sum,pt,by rw[o1,Cd];rfl,rfl,bg⟩) (kE.trans (ql.same O)) (O _ _ uE) (bf (λ_ _ h=>wh.same O h) pE) Cj R6
 ·have ek:p.k=.sink:=U.trans (oR _)
  walk_at "t"
  rw[show decide (V.str "sink"=V.str (Str.ofString "joiner"))=false from by decide +kernel]
  refine nj ?_
  refine⟨_,rfl,(CG<<<0>>>⟨rfl,_,rfl,?_⟩)⟩
  rw[show decide (V.str "sink"=V.str (Str.ofString "sink"))=true from by decide +kernel]
  exact vr (vr (q .y2 H3 _ _ (.inl ⟨by unfold SP.out SR.out;rw[show p.sr.k=.sink from ek],rfl⟩) K3 LP p3 Cj (qK B)))
theorem sY(h:S.ar≠[]):∃a,S.first=some a:=by
 have hl:0<S.ar.length:=q9.mpr h
 have:S.at<S.ar.length:=by
  have b:=gK (λi j=>AI ((S.ar.map AR.key).getD i (0,0)) ((S.ar.map AR.key).getD j (0,0))) ((S.ar.map AR.key).length-1)
  have e:(S.ar.map AR.key).length=S.ar.length:=zB _
  have b:S.at<=(S.ar.map AR.key).length-1:=b
  lia
 exact⟨_,zD this⟩
theorem UX{a b:Int×Int}(h1:AI a b=true)(h2:DF b a):False:=by
 have h1:=(b9 a b).mp h1
 unfold DF at h2
 lia
theorem gG{pre post:List α}{c a:α}{L:List α}(e:L=pre++c::post)(h:L[n]?=some a):(n<pre.length->a∈pre)/\(pre.length<n->a∈post):=by
 subst e
 refine⟨λq=>?_,λq=>?_⟩
 ·rw[yP q]at h
  exact zE h
 ·rw[zX (by lia),show n-pre.length=(n-pre.length-1)+1 by lia,List.getElem?_cons_succ]at h
  exact zE h
theorem rY{pre post:List AR}{c:AR}(e:S.ar=pre++c::post)(h1:∀b∈pre,AI c.key b.key=true)(h2:∀b∈post,DF c.key b.key):S.first=some c/\S.ar.eraseIdx S.at=pre++post:=by
 obtain⟨a,ha⟩:=sY (S:=S) (by rw[e];exact λz=>by cases pre <;>cases z)
 obtain⟨B,O,e1,e2,U,Y⟩:=CS.Bn ha
 have hc:S.ar[pre.length]?=some c:=by rw[e,zX (zJ _),qN];rfl
 have G:S.ar[B.length]?=some a:=by rw[e1,zX (zJ _),qN];rfl
 rcases Nat.lt_trichotomy pre.length B.length with q|q|q
 ·exact(UX (U c ((gG e1 hc).1 q)) (h2 a ((gG e G).2 q))).elim
 ·obtain⟨x1,x2⟩:=List.append_inj (e.symm.trans e1) q
  cases x2
  subst x1
  exact⟨ha,e2⟩
 ·exact(UX (h1 a ((gG e G).1 q)) (Y c (zU _ ((gG e1 hc).2 q)))).elim
def fA(f:fc):AR:=⟨f.1.toNat,(f.2.1,-1,f.2.2),none⟩
theorem ny(ok:W.Ok):W.ID (W.fe.map fA):=by
 refine⟨λa ha=>?_,λs hs=>?_⟩
 ·obtain⟨f,hf,rfl⟩:=yF.mp ha
  obtain⟨B,O,G,U,_⟩:=ok.EZ f hf
  refine⟨by show f.1.toNat<_;lia,rfl,G,by show f.2.1<51;lia,?_⟩
  show -1∈W.wy ((f.1.toNat:Nat):Int)
  rw[jS B]
  unfold Wk.wy
  rw[if_pos (jO.mpr ⟨f,hf,by show(f.1==f.1)=true;exact beq_self_eq_true _⟩)]
  exact yQ _ zH
 ·rw[Wk.DZ]
  unfold dQ Wk.dd
  refine eQ λt _=>?_
  unfold Wk.bk
  rw[kP,kP,kP,qD,kG]
  have e:W.fe.filter (λf=>(((λe:fc=>e.1==(t:Int))∘AR.e)∘fA) f&&(Br s∘fA) f)=W.fe.filter λf=>f.1==(s:Int)&&f.2.1==(t:Int):=j0 λf hf=>by
   obtain⟨B,_⟩:=ok.EZ f hf
   show(f.2.1==(t:Int)&&(f.1.toNat==s&&((-1:Int) == -1)))=_
   have:(f.1.toNat==s)=(f.1==(s:Int)):=by
    by_cases z:f.1=(s:Int)
    ·rw[z,zV,beq_self_eq_true,beq_self_eq_true]
    ·rw[beq_eq_false_iff_ne.mpr z,beq_eq_false_iff_ne.mpr (by lia)]
   rw[this,beq_self_eq_true,xF,vC]
  rw[e]
  refine kX λf hf=>?_
  have h:=(zR.mp hf).2
  rw[yL]at h
  show(f.2.1,(-1:Int),f.2.2)=_
  rw[eq_of_beq h.2]
abbrev tm(t:Int)(a:AR):Bool:=a.e.1==t
abbrev gw(wv:Int)(a:AR):Bool:=decide (wv<a.e.2.1)
abbrev lw(wv:Int)(a:AR):Bool:=decide (wv<=a.e.2.1)
structure Wl(T wv:Int)(so:List AR)(i:Nat)(CL:List AR)(S:CS):Prop where
 lo:∀b∈S.ar,T<=b.e.1
 hi:∀t,T<t->S.ar.filter (tm t)=CL.filter (tm t)
 tt:∀a∈so,a.e.1=T
 nw:S.ar.filter (tm T)=(so.take i).filter (gw wv)++(so.drop i).filter (lw wv)
section
variable{T wv:Int}{so CL:List AR}{c:AR}
theorem rL{l:List α}{x:α}(h:l[i]?=some x):l.drop i=x::l.drop (i+1):=by
 obtain⟨h1,h2⟩:=zC.mp h
 rw[xA h1,h2]
theorem Wl.skip(w:Wl T wv so i CL S)(h:so[i]?=some c)(n:c.e.2.1≠wv):Wl T wv so (i+1) CL S:=by
 refine⟨w.lo,w.hi,w.tt,?_⟩
 rw[w.nw,bI h,rL h,zM,yI]
 congr 1
 by_cases z:wv<c.e.2.1
 ·rw[zZ (p:=lw wv) (decide_eq_true (by lia)),zZ (p:=gw wv) (decide_eq_true z)]
  rfl
 ·rw[yB (p:=lw wv) (by rw[show lw wv c=false from decide_eq_false (by lia)];exact zS),yB (p:=gw wv) (by rw[show gw wv c=false from decide_eq_false z];exact zS)]
  rfl
theorem Wl.take(w:Wl T wv so i CL S)(h:so[i]?=some c)(n:c.e.2.1=wv):S.first=some c/\∀{S':CS}{N:List AR},S'.ar=S.ar.eraseIdx S.at++N->(∀b∈N,T<b.e.1)->Wl T wv so (i+1) (CL++N) S':=by
 have e:=w.nw
 have cT:=w.tt c (zE h)
 rw[rL h,zZ (p:=lw wv) (decide_eq_true (by lia))]at e
 obtain⟨pre,l2,e1,e2,e3⟩:=List.filter_eq_append_iff.mp e
 obtain⟨l3,post,f1,f2,_,f4⟩:=List.filter_eq_cons_iff.mp e3
 have big:∀b∈S.ar,tm T b=true\/T<b.e.1:=λb hb=>by
  have:=w.lo b hb
  by_cases z:b.e.1=T
  ·exact .inl (by show(b.e.1==T)=true;rw[z];exact beq_self_eq_true _)
  ·exact .inr (by lia)
 have G:S.ar=(pre++l3)++c::post:=by rw[e1,f1,yI]
 obtain⟨x1,U⟩:=rY G (λb hb=>by
  have B:b∈S.ar:=by rw[G];exact yQ _ hb
  rw[b9]
  show c.e.1<b.e.1\/(c.e.1=b.e.1/\c.e.2.1<b.e.2.1)
  rcases big b B with z|z
  ·have Y:b.e.1=T:=eq_of_beq z
   rcases zW.mp hb with y|y
   ·have m:b∈pre.filter (tm T):=zR.mpr ⟨y,z⟩
    rw[e2]at m
    have:=of_decide_eq_true (zR.mp m).2
    lia
   ·exact absurd z (f2 b y)
  ·lia) (λb hb=>by
  have B:b∈S.ar:=by rw[G];exact zU _ (zL _ hb)
  show c.e.1<b.e.1\/(c.e.1=b.e.1/\c.e.2.1<=b.e.2.1)
  rcases big b B with z|z
  ·have Y:b.e.1=T:=eq_of_beq z
   have m:b∈post.filter (tm T):=zR.mpr ⟨hb,z⟩
   rw[f4]at m
   have:=of_decide_eq_true (zR.mp m).2
   lia
  ·lia)
 refine⟨x1,fun {S' N} es hN=>?_⟩
 rw[U]at es
 have O:l3.filter (tm T)=[]:=yJ.mpr f2
 have cn:∀t,T<t->¬tm t c=true:=λt ht z=>by have:c.e.1=t:=eq_of_beq z;lia
 refine⟨λb hb=>?_,λt ht=>?_,w.tt,?_⟩
 ·rw[es]at hb
  rcases zW.mp hb with z|z
  ·refine w.lo b ?_
   rw[G]
   rcases zW.mp z with y|y
   ·exact yQ _ y
   ·exact zU _ (zL _ y)
  ·exact Int.le_of_lt (hN b z)
 ·rw[es,zM (l₂:=N),zM (l₁:=CL),←w.hi t ht,G,zM (l₂:=post),zM (l₂:=c::post),yB (cn t ht)]
 ·have Nn:N.filter (tm T)=[]:=yJ.mpr λb hb z=>by have:=hN b hb;have:b.e.1=T:=eq_of_beq z;lia
  rw[es,zM,Nn,zQ,zM,zM,O,zQ,e2,f4,bI h,zM,yB (p:=gw wv) (by rw[show gw wv c=false from decide_eq_false (by lia)];exact zS),yN,zQ]
theorem Wl.way(w:Wl T wv so so.length CL S):Wl T (wv+1) so 0 CL S:=by
 refine⟨w.lo,w.hi,w.tt,?_⟩
 rw[w.nw,zY,List.drop_length,yN,zQ,qX,jK,yN,qI]
 exact j0 λa _=>by
  by_cases z:wv<a.e.2.1
  ·rw[show gw wv a=true from decide_eq_true z,show lw (wv+1) a=true from decide_eq_true (by lia)]
  ·rw[show gw wv a=false from decide_eq_false z,show lw (wv+1) a=false from decide_eq_false (by lia)]
theorem Wl.next(w:Wl T wv so 0 CL S)(h:∀a∈so,a.e.2.1<wv)(hC:∀a∈CL,-1<=a.e.2.1):Wl (T+1) (-1) (CL.filter (tm (T+1))) 0 CL S:=by
 have e:=w.nw
 have B:so.filter (lw wv)=[]:=yJ.mpr λa ha z=>by have:=h a ha;have:=of_decide_eq_true z;lia
 rw[qX,jK,yN,qI,B]at e
 refine⟨λb hb=>?_,λt ht=>w.hi t (by lia),λa ha=>eq_of_beq (zR.mp ha).2,?_⟩
 ·have:=w.lo b hb
  have:b.e.1≠T:=λz=>by
   have m:b∈S.ar.filter (tm T):=zR.mpr ⟨hb,by show(b.e.1==T)=true;rw[z];exact beq_self_eq_true _⟩
   rw[e]at m
   exact absurd m zI
  lia
 ·rw[w.hi (T+1) (by lia),qX,jK,yN,qI]
  exact(qG.mpr λa ha=>decide_eq_true (hC a (zR.mp ha).1)).symm
theorem Wl.new(h0:∀a∈CL,0<=a.e.1)(hC:∀a∈CL,-1<=a.e.2.1)(e:S.ar=CL):Wl 0 (-1) (CL.filter (tm 0)) 0 CL S:=by
 refine⟨λb hb=>h0 b (by rw[←e];exact hb),λt _=>by rw[e],λa ha=>eq_of_beq (zR.mp ha).2,?_⟩
 rw[e,qX,jK,yN,qI]
 exact(qG.mpr λa ha=>decide_eq_true (hC a (zR.mp ha).1)).symm
end
inductive zl(H:Hp)(x:V)(a:AR):Prop where
 | mk (p:_) (ui:x=.ref p) (uj:H p=some (.tup [.int a.e.1,.int (a.s:Int),.int a.e.2.1,.int a.e.2.2])):zl H x a
theorem zl.same(s:c0 H H'){x:V}{a:AR}(h:zl H x a):zl H' x a:=let ⟨p,e,q⟩:=h;⟨p,e,s _ _ q⟩
theorem zl.keep{l:Addr}(e:H l=some (.lst xs)){x:V}{a:AR}(h:zl H x a):zl (upd H l o) x a:=by
 obtain⟨p,ex,q⟩:=h
 exact⟨p,ex,by rw[bj (bK q e λz=>nomatch z)];exact q⟩
theorem zl.kp{l:Addr}(k:ql [l] H H')(e:H l=some (.lst xs)){x:V}{a:AR}(h:zl H x a):zl H' x a:=by
 obtain⟨p,ex,q⟩:=h
 exact⟨p,ex,k _ _ q (by rw[zF];exact bK q e λz=>nomatch z)⟩
theorem wh.kp{l:Addr}(k:ql [l] H H')(e:H l=some (.lst xs)){x:V}{a:Int×Int}(h:wh H x a):wh H' x a:=by
 obtain⟨p,ex,q⟩:=h
 exact⟨p,ex,k _ _ q (by rw[zF];exact bK q e λz=>nomatch z)⟩
theorem Hc.kp{k:Addr}(h:Hc (upd H k o) Ms)(kp:ql [k] H H')(e:H' k=some o):Hc H' Ms:=⟨h.1,λc hc=>by
 have h2:=h.2 c hc
 by_cases z:c.1=k
 ·rw[z,bg]at h2
  rw[z,e]
  exact h2
 ·rw[bj z]at h2
  exact kp _ _ h2 (by rw[zF];exact z)⟩
inductive Hd(vs:List V)(H:Hp)(Q:VK)(wc:XK):Prop where
 | mk (w:Addr) (u:Int) (W:Wk) (M:List (List Cell)) (ui:vs=[.ref w,.int u]) (uj:Hc H M) (zf:EG M w W) (zq:W.Ok) (Ai:0<=u) (AA:u<=60) (Bl:∀(R:CS)(D:Addr)(ra:List Addr)(rv:List (List V))(H':Hp),Runs W u (W.cS (W.fe.map fA)) R->Bq W R->Hc H' ([(D,.lst (ra.map V.ref))]::zb ra rv::M)->ra.length=rv.length->Paired (λus ts=>Paired (d4 H') us ts) rv R.ev->c0 H H'->Q (.ref D) H'):Hd vs H Q wc
structure Wg(W:Wk)(u:Int)(M:List (List Cell))(C R Kl:Addr)(ra ka:List Addr)(H H5:Hp)(S:CS)(CL:List AR)(cs:List V)(rv kv:List (List V))(CF:List (List (Int×Int)))(n:Nat):Prop where
 hc:Hc H5 ([(C,.lst cs)]::[(R,.lst (ra.map V.ref))]::zb ra rv::[(Kl,.lst (ka.map V.ref))]::zb ka kv::M)
 cm:Paired (zl H5) cs CL
 ev:Paired (λus ts=>Paired (d4 H5) us ts) rv S.ev
 kp:Paired (λus ts=>Paired (wh H5) us ts) kv CF
 kl:CF.length=W.st.length
 ko:∀(s:Nat) p k,S.st[s]?=some p->CF[s]?=some k->CN p k
 km:n+S.C0 u<=30000
 lc:cs.length<=60+n
 le:∀us∈rv,us.length<=n
 lk:∀us∈kv,us.length<=n
 ok:Bq W S
 rn:∀R',Runs W u S R'->Runs W u (W.cS (W.fe.map fA)) R'
 ca:∀a∈CL,a.s<W.st.length/\-1<=a.e.2.1/\a.e.2.1<(W.be.length:Int)
 l1:ra.length=rv.length
 l2:ka.length=kv.length
 sm:c0 H H5
 f1:∀a∈ra,H a=none
 f2:∀a∈ka,H a=none
 f3:H C=none
 kd:∀(s:Nat) p,S.st[s]?=some p->p.k=kdOf (W.st.getD s ("",none))
theorem wN{f:Addr}(F:Ac K "_law_walked" "_law_walked" (top 57) f fd)(T:Txt K mg)(aH:FnAt P w K mg base 2 "_law_put" ["works","station","event","kept"] EI):mu P w K mg base Aa 3 f fd ["works","until"] Hd:=by
 exists ["works","until","rows","kept","coming","now","some","way","time","station","here","piece","event","put","start","goal","delay"]
 obtain⟨w,u,W,M,rfl,hc,wW,ok,u0,u1,q⟩:=h
 obtain⟨sa,ba,fa,xs,ys,zs,h1,h2⟩:=(wW H hc).ex
 have s8:=ok.s8
 have DA:=ok.DA
 have BN:=ok.BN
 have ls:=h2.ps.length
 have lb:=h2.pb.length
 have lf:=h2.pf.length
 refine⟨_,((2|||["one"]|||[]|||[]|||(bx (K:=K) rfl ({0}<*>bh))|||bB|||(@bR _ _ _ _ a_))<|>(3|||["one"]|||[]|||[]|||(bx (K:=K) rfl ({0}<*>bh))|||bB|||(@bR _ _ _ _ a_))<|>Dd (i:=4) nd rfl (Or.inl rfl) rfl (own:=["station","time","piece"]) (fr:=[]) (js:=[]) (by and_intros) (bx (K:=K) rfl ({0}<*>bh)) (λ_ _ _ _=>(jy (K:=K) (n:=3) rfl rfl (bJ (fB (i:=0) (show List.Nodup (["station","time","piece"]:List Str)from by decide +kernel) rfl (by nofun)) (bJ (fB (i:=1) (show List.Nodup (["station","time","piece"]:List Str)from by decide +kernel) rfl (by nofun)) (bJ (fB (i:=2) (show List.Nodup (["station","time","piece"]:List Str)from by decide +kernel) rfl (by nofun)) dW))))) (λ_ _ _ _=>bB) (λ_ _ _ _=>(@bF _ _ _ _ _ ({1}>>{0}>>bu gf bh bh>>{2}>>a_)))<|>cj PassesOwn.never rfl (bO rfl T.zt (bu bQ {1} bh>>a_)) (fB (i:=5) nd rfl (by nofun)) ((6|||["one"]|||["now"]|||[5]|||(bx (K:=K) rfl {4})|||(cB (bp bU ({0}<*>bh) {1} (bq _)))|||{0})<|>@ei _ _ _ (cj PassesOwn.never rfl (o9 rfl T.zt (bu gf bh bh>>‹({0}<*>bh)›>>a_)) (fB (i:=7) nd rfl (by nofun)) (@ei _ _ _ (cj PassesOwn.never rfl (bx (K:=K) rfl {6}) (ik rfl (bJ (fB (i:=8) nd rfl (by nofun)) (bJ (fB (i:=9) nd rfl (by nofun)) (bJ (fB (i:=10) nd rfl (by nofun)) (bJ (fB (i:=11) nd rfl (by nofun)) dW))))) (@ei _ _ _ (bL (bp bU {10} {7} (bq _)) ((12>>=@bF _ _ _ _ _ ({5}>>{7}>>{11}>>a_))<|>bC (bZ Z5 Z6 Z7 bH ({2}<*{9}) ({12}>>a_))<|>(13>>=(aH<&>({0}>>{9}>>{12}>>({3}<*{9})>>a_)))<|>@ei _ _ _ (bL (bp dS {13} bS (bq _)) (rD (({0}<*>bh)<*({13}<*>bh)) (ik rfl (bJ (fB (i:=14) nd rfl (by nofun)) (bJ (fB (i:=15) nd rfl (by nofun)) (bJ (fB (i:=16) nd rfl (by nofun)) dW))))<|>@ei _ _ _ (bC (bZ Z5 Z6 Z7 bH {4} (@bF _ _ _ _ _ (bu bQ {5} {16}>>{15}>>({13}<*>bh)>>({13}<*>bh)>>a_)>>a_)))) bz)) bz))))))<|>(~~~{2})),?_⟩
 refine⟨_,rfl,(h1<<<0>>>⟨sa,rfl,⟨_,eH.of h2.hs⟩,λR nR=>?_⟩)⟩
 refine bA (a:=sa) (xs:=xs) (λi H4=>∃ea:List Addr,c0 H H4/\Hc H4 ([(R,.lst (ea.map V.ref))]::zb ea (ea.map λ_=>[])::M)/\ea.length=i/\∀a∈ea,H a=none) ⟨[],c0.new nR,(hc.new nR (.lst [])).pad.swap,rfl,λa h=>absurd h zI⟩ (λi H4 _ ⟨_,p,_⟩=>eH.of (p _ _ h2.hs)) ?_ ?_
 ·rintro i x H4 m Wf hx ⟨ea,s4,Hv,l4,f4⟩ nx
  walk_at "D"
  have A9:=Hv.new C3 (.lst [])
  have g6:=A9.get 1 0 rfl rfl
  refine⟨_,g6,bo (by rw[zB];lia),nx _ ⟨ea++[pn],(s4.trans (c0.new C3)).upd nR,?_,by rw[zN,l4];rfl,dN f4 (s4.free C3)⟩⟩
  walk_at "m"
 rintro H4 ⟨ra,s4,Hv,l4,f4⟩
 refine⟨_,rfl,(s4 _ _ h1<<<0>>>⟨sa,rfl,⟨_,eH.of (s4 _ _ h2.hs)⟩,λKl nK=>?_⟩)⟩
 refine bA (a:=sa) (xs:=xs) (λi H5=>∃ea:List Addr,c0 H4 H5/\Hc H5 ([(Kl,.lst (ea.map V.ref))]::zb ea (ea.map λ_=>[])::[(R,.lst (ra.map V.ref))]::zb ra (ra.map λ_=>[])::M)/\ea.length=i/\∀a∈ea,H a=none) ⟨[],c0.new nK,(Hv.new nK (.lst [])).pad.swap,rfl,λa h=>absurd h zI⟩ (λi H5 _ ⟨_,p,_⟩=>eH.of (p _ _ (s4 _ _ h2.hs))) ?_ ?_
 ·rintro i x H5 m Wf hx ⟨ea,s5,AM,l5,f5⟩ nx
  walk_at "D"
  have A9:=AM.new C3 (.lst [])
  have g6:=A9.get 1 0 rfl rfl
  refine⟨_,g6,bo (by rw[zB];lia),nx _ ⟨ea++[pn],(s5.trans (c0.new C3)).upd nK,?_,by rw[zN,l5];rfl,dN f5 ((s4.trans s5).free C3)⟩⟩
  walk_at "m"
 rintro H5 ⟨ka,s5,AM,l5,f5⟩
 have S5:=s4.trans s5
 refine⟨_,rfl,(S5 _ _ h1<<<2>>>⟨fa,rfl,⟨_,eH.of (S5 _ _ h2.hf)⟩,λC nC=>?_⟩)⟩
 refine bA (a:=fa) (xs:=zs) (λi H6=>∃cs:List V,c0 H5 H6/\H6 C=some (.lst cs)/\cs.length=i/\Paired (zl H6) cs ((W.fe.take i).map fA)) ⟨[],c0.new nC,bg,rfl,.nil⟩ (λi H6 _ ⟨_,p,_⟩=>eH.of (p _ _ (S5 _ _ h2.hf))) ?_ ?_
 ·rintro i x H6 m Wf hx ⟨cs,s6,g6,l6,p6⟩ nx
  obtain⟨t,ht,a0,rfl,ha⟩:=h2.pf.gt hx
  have hi:=(zC.mp hx).1
  obtain⟨q1,q2,q3,q4,_⟩:=ok.EZ t (zE ht)
  refine⟨a0,_,rfl,ze.of (s6 _ _ (S5 _ _ ha)),rfl,⟨_,_,rfl,⟨_,_,rfl,⟨_,_,rfl,rfl,?_⟩⟩⟩⟩
  refine⟨_,rfl,_,rfl,⟨_,_,rfl,rfl,_,rfl,(by show 4<=sizeLine;decide),λpn C3=>?_⟩⟩
  have s7:c0 H6 (upd H6 pn (.tup [.int t.2.1,.int t.1,.int (0-1),.int t.2.2])):=c0.new C3
  have g7:(upd H6 pn (.tup [.int t.2.1,.int t.1,.int (0-1),.int t.2.2])) pn=some (.tup [.int t.2.1,.int t.1,.int (0-1),.int t.2.2]):=bg
  generalize upd H6 pn (.tup [.int t.2.1,.int t.1,.int (0-1),.int t.2.2])=H7 at s7 g7 ⊢
  have gC:=s7 _ _ g6
  refine⟨_,gC,bo (by lia),nx _ ⟨cs++[.ref pn],(s6.trans s7).upd nC,bg,by rw[zN,l6];rfl,?_⟩⟩
  rw[bI ht,zK]
  refine bv (bf (λ_ _ h=>(zl.same s7 h).keep gC) p6) (.cons (zl.keep gC ⟨pn,rfl,?_⟩) .nil)
  rw[g7]
  show _=some (HO.tup [.int t.2.1,.int ((t.1.toNat:Nat):Int),.int (-1),.int t.2.2])
  rw[jS q1]
  rfl
 rintro H6 ⟨cs,s6,g6,l6,p6⟩
 rw[lf,zY]at p6
 have A9:Hc H6 ([(C,.lst cs)]::[(R,.lst (ra.map V.ref))]::zb ra (ra.map λ_=>[])::[(Kl,.lst (ka.map V.ref))]::zb ka (ka.map λ_=>[])::M):=(((((AM.Er nC g6 s6).pick 2 rfl).pick 2 rfl).pick 4 rfl).pick 4 rfl).pick 4 rfl
 have L0:Wg W u M C R Kl ra ka H H6 (W.cS (W.fe.map fA)) (W.fe.map fA) cs (ra.map λ_=>[]) (ka.map λ_=>[]) (W.st.map λ_=>[]) 0:=by
  have ca:∀a∈W.fe.map fA,a.s<W.st.length/\-1<=a.e.2.1/\a.e.2.1<(W.be.length:Int):=λa ha=>by
   obtain⟨f,hf,rfl⟩:=yF.mp ha
   obtain⟨q1,q2,_⟩:=ok.EZ f hf
   exact⟨by show f.1.toNat<_;lia,by show -1<=(-1:Int);lia,by show(-1:Int)<_;lia⟩
  refine⟨A9,p6,cQ .nil (by lia),cQ .nil (by lia),by rw[zB],λs p k hp hk=>?_,?_,by lia,λus h=>?_,λus h=>?_,(O8 ok (u:=u) (ny ok)).ok,λR' r=>r,ca,by rw[zB],by rw[zB],S5.trans s6,f4,f5,S5.free nC,λs p hp=>?_⟩
  ·have LL:((List.range W.st.length).map W.sp)[s]?=some p:=hp
   rw[zG]at LL
   obtain⟨s',e1,e2⟩:=y6.mp LL
   rw[zG]at hk
   obtain⟨_,_,e3⟩:=y6.mp hk
   subst e2 e3
   refine⟨λe=>?_,λ_=>rfl⟩
   show(if kdOf (W.st.getD s' ("",none))=.kc then (W.wy s').map (λ_=>[])else [])=(W.wy s').map (rb [])
   rw[if_pos (show kdOf (W.st.getD s' ("",none))=.kc from e)]
   rfl
  ·have h3:((W.fe.map fA).map (EF u)).sum<=(W.fe.map fA).length*62:=qv λa ha=>by
    obtain⟨f,hf,rfl⟩:=yF.mp ha
    obtain⟨_,_,q3,_⟩:=ok.EZ f hf
    show(u+2-f.2.1).toNat<=62
    lia
   rw[zB]at h3
   show 0+((W.fe.map fA).map (EF u)).sum<=30000
   lia
  ·obtain⟨_,_,rfl⟩:=yF.mp h
   exact yH _
  ·obtain⟨_,_,rfl⟩:=yF.mp h
   exact yH _
  ·have LL:((List.range W.st.length).map W.sp)[s]?=some p:=hp
   rw[zG]at LL
   obtain⟨s',e1,e2⟩:=y6.mp LL
   have h1:=(zC.mp e1).2
   rw[j9]at h1
   subst e2 h1
   rfl
 have W0:Wl 0 (-1) ((W.fe.map fA).filter (tm 0)) 0 (W.fe.map fA) (W.cS (W.fe.map fA)):=Wl.new (λa ha=>((ny ok).l a ha).2.2.1) (λa ha=>(L0.ca a ha).2.1) rfl
 clear A9 p6 g6 AM Hv nC s6 l6
 refine⟨_,rfl,⟨_,_,rfl,rfl,_,rfl,by rw[BL];lia,by rw[BL];lia,?_⟩⟩
 refine cW (n:=(u+1).toNat) (λi σ H5=>∃(v5 v6 v7 v8 v9 O U Y He Hf Hg Hh:Option V)(S:CS)(CL:List AR)(cs:List V)(rv kv:List (List V))(CF:List (List (Int×Int)))(n:Nat),σ=[some (.ref w),some (.int u),some (.ref R),some (.ref Kl),some (.ref C),v5,v6,v7,v8,v9,O,U,Y,He,Hf,Hg,Hh]/\Wg W u M C R Kl ra ka H H5 S CL cs rv kv CF n/\Wl (i:Int) (-1) (CL.filter (tm (i:Int))) 0 CL S)
  ⟨_,_,_,_,_,_,_,_,_,_,_,_,_,_,_,_,_,_,_,rfl,L0,W0⟩ ?_ ?_
 rotate_left
 ·rintro σ H7 ⟨v5,v6,v7,v8,v9,O,U,Y,He,Hf,Hg,Hh,S,CL,cs,rv,kv,CF,n,rfl,G,Z⟩
  have st:∀a,S.first=some a->u<a.e.1:=λa ha=>by
   have:=Z.lo a (zE ha)
   lia
  have B6:=(((G.hc.tl).pick 2 rfl).tl.pick 2 rfl).tl
  exact⟨_,rfl,q S R ra rv H7 (G.rn S (.stop st)) G.ok B6 G.l1 G.ev G.sm⟩
 rintro i σ H7 hi ⟨v5,v6,v7,v8,v9,O,U,Y,He,Hf,Hg,Hh,S,CL,cs,rv,kv,CF,n,rfl,G,Z⟩
 rw[qW]
 have gC:=G.hc.get 0 0 rfl rfl
 have lcs:=G.cm.length
 have lC:=G.lc
 have UY:=G.km
 refine⟨_,rfl,C,rfl,⟨_,eH.of gC⟩,λSo NS=>?_⟩
 refine bA (a:=C) (xs:=cs) (λj H8=>∃ss:List V,c0 H7 H8/\H8 So=some (.lst ss)/\ss.length<=j/\Paired (zl H8) ss ((CL.take j).filter (tm (i:Int)))) ⟨[],c0.new NS,bg,zJ _,.nil⟩ (λj H8 _ ⟨_,p,_⟩=>eH.of (p _ _ gC)) ?_ ?_
 ·rintro j x H8 m Wf hx ⟨ss,Hw,g8,l8,p8⟩ nx
  obtain⟨t,ht,a0,rfl,ha⟩:=G.cm.gt hx
  have hj:=(zC.mp hx).1
  have UZ:=Hw _ _ ha
  have et:decide (V.int t.e.1=V.int (i:Int))=tm (i:Int) t:=bT
  refine⟨_,rfl,(UZ<<<0>>>⟨_,rfl,rfl,_,rfl,?_⟩)⟩
  walk_at "S"
  ·rw[et]at hb
   refine⟨_,rfl,_,g8,cH (by lia),nx _ ⟨ss++[.ref a0],Hw.upd NS,bg,by rw[zN];exact jA l8,?_⟩⟩
   rw[bI ht,zM,zZ hb]
   exact bv (bf (λ_ _ h=>h.keep g8) p8) (.cons (zl.keep g8 ⟨a0,rfl,UZ⟩) .nil)
  ·rw[et]at hb
   refine nx _ ⟨ss,Hw,g8,qS l8,?_⟩
   rw[bI ht,zM,yB (by rw[hb];exact zS),yN,zQ]
   exact p8
 rintro H8 ⟨ss,Hw,g8,l8,p8⟩
 rw[lcs,zY]at p8
 generalize U0:CL.filter (tm (i:Int))=so at p8 Z
 have U1:∀a∈so,a.s<W.st.length/\-1<=a.e.2.1/\a.e.2.1<(W.be.length:Int):=λa ha=>G.ca a (by rw[←U0]at ha;exact(zR.mp ha).1)
 have YG:H So=none:=G.sm.free NS
 have ZV:EG ([(So,.lst ss)]::M) w W:=λH' h'=>wW H' h'.tl
 have G':Wg W u ([(So,.lst ss)]::M) C R Kl ra ka H H8 S CL cs rv kv CF n:=by
  have k8:=G.hc.Er NS g8 Hw
  have YH:Hc H8 ([(C,.lst cs)]::[(R,.lst (ra.map V.ref))]::zb ra rv::[(Kl,.lst (ka.map V.ref))]::zb ka kv::[(So,.lst ss)]::M):=((((k8.pick 5 rfl).pick 5 rfl).pick 5 rfl).pick 5 rfl).pick 5 rfl
  exact⟨YH,bf (λ_ _ h=>zl.same Hw h) G.cm,bf (λ_ _ h=>bf (λ_ _ h=>d4.same Hw h) h) G.ev,bf (λ_ _ h=>bf (λ_ _ h=>wh.same Hw h) h) G.kp,G.kl,G.ko,G.km,G.lc,G.le,G.lk,G.ok,G.rn,G.ca,G.l1,G.l2,G.sm.trans Hw,G.f1,G.f2,G.f3,G.kd⟩
 clear gC lcs lC UY G Hw l8 g8 NS U0
 obtain⟨U2,U3⟩:H8 w=some (.tup [.ref sa,.ref ba,.ref fa])/\H8 ba=some (.lst ys):=⟨G'.sm _ _ h1,G'.sm _ _ h2.hb⟩
 have YI:=p8
 refine⟨_,_,rfl,rfl,_,rfl,(U2<<<1>>>⟨ba,ys,rfl,.inl (eH.of U3),_,_,rfl,by rw[BL];lia,?_⟩)⟩
 refine cW (lo:=0-1) (n:=((ys.length:Int)-(0-1)).toNat) (λk σ H9=>∃(v7 v8 v9 O U Y He Hf Hg Hh:Option V)(S:CS)(CL:List AR)(cs:List V)(rv kv:List (List V))(CF:List (List (Int×Int)))(n:Nat),σ=[some (.ref w),some (.int u),some (.ref R),some (.ref Kl),some (.ref C),some (.int (i:Int)),some (.ref So),v7,v8,v9,O,U,Y,He,Hf,Hg,Hh]/\Wg W u ([(So,.lst ss)]::M) C R Kl ra ka H H9 S CL cs rv kv CF n/\Paired (zl H9) ss so/\Wl (i:Int) (-1+(k:Int)) so 0 CL S)
  ⟨_,_,_,_,_,_,_,_,_,_,_,_,_,_,_,_,_,rfl,G',p8,(show Wl (i:Int) (-1+((0:Nat):Int)) so 0 CL S from Z)⟩ ?_ ?_
 rotate_left
 ·rintro σ H9 ⟨v7,v8,v9,O,U,Y,He,Hf,Hg,Hh,S,CL,cs,rv,kv,CF,n,rfl,G,pS,Z⟩
  have kF:Hc H9 ([(C,.lst cs)]::[(R,.lst (ra.map V.ref))]::zb ra rv::[(Kl,.lst (ka.map V.ref))]::zb ka kv::M):=(G.hc.pick 5 rfl).tl
  refine⟨_,_,_,_,_,_,_,_,_,_,_,_,S,CL,cs,rv,kv,CF,n,rfl,⟨kF,G.cm,G.ev,G.kp,G.kl,G.ko,G.km,G.lc,G.le,G.lk,G.ok,G.rn,G.ca,G.l1,G.l2,G.sm,G.f1,G.f2,G.f3,G.kd⟩,?_⟩
  have:=Z.next (λa ha=>by have:=(U1 a ha).2.2;lia) (λa ha=>(G.ca a ha).2.1)
  rw[Int.natCast_add]
  exact this
 clear Z G' p8 YI U2 U3
 rintro k σ H9 ZW ⟨v7,v8,v9,O,U,Y,He,Hf,Hg,Hh,S,CL,cs,rv,kv,CF,n,rfl,G,pS,Z⟩
 have U4:=G.hc.get 5 0 rfl rfl
 refine⟨_,rfl,So,rfl,⟨_,eH.of U4⟩,dh (K:=K) (a:=So) (xs:=ss) (λj σ H9=>∃(v8 v9 O U Y He Hf Hg Hh:Option V)(S:CS)(CL:List AR)(cs:List V)(rv kv:List (List V))(CF:List (List (Int×Int)))(n:Nat),σ=[some (.ref w),some (.int u),some (.ref R),some (.ref Kl),some (.ref C),some (.int (i:Int)),some (.ref So),some (.int (0-1+(k:Int))),v8,v9,O,U,Y,He,Hf,Hg,Hh]/\Wg W u ([(So,.lst ss)]::M) C R Kl ra ka H H9 S CL cs rv kv CF n/\Paired (zl H9) ss so/\Wl (i:Int) (-1+(k:Int)) so j CL S)
  ⟨_,_,_,_,_,_,_,_,_,_,_,_,_,_,_,_,rfl,G,pS,Z⟩ (λj σ H9 _ ⟨_,_,_,_,_,_,_,_,_,_,_,_,_,_,_,_,_,G,_⟩=>eH.of (G.hc.get 5 0 rfl rfl)) ?_ ?_⟩
 rotate_left
 ·rintro σ Ee ⟨v8,v9,O,U,Y,He,Hf,Hg,Hh,S,CL,cs,rv,kv,CF,n,rfl,G,pS,Z⟩
  refine⟨_,_,_,_,_,_,_,_,_,_,S,CL,cs,rv,kv,CF,n,rfl,G,pS,?_⟩
  rw[pS.length]at Z
  have:=Z.way
  rw[Int.natCast_add,←Int.add_assoc]
  exact this
 clear G pS Z U4
 rintro j x σ Ee hx ⟨v8,v9,O,U,Y,He,Hf,Hg,Hh,S,CL,cs,rv,kv,CF,n,rfl,G,pS,Z⟩
 obtain⟨c,Pf,a0,rfl,ha⟩:=pS.gt hx
 obtain⟨c1,c2,c3⟩:=U1 c (zE Pf)
 refine⟨a0,_,rfl,ze.of ha,rfl,⟨_,_,rfl,⟨_,_,rfl,⟨_,_,rfl,⟨_,_,rfl,rfl,?_⟩⟩⟩⟩⟩
 have et:decide (V.int c.e.2.1=V.int (0-1+(k:Int)))=(c.e.2.1==(-1+(k:Int))):=bT
 refine⟨_,rfl,_,rfl,rfl,_,rfl,?_⟩
 walk_at "S"
 rotate_left
 ·rw[et]at hb
  exact⟨_,_,_,_,_,_,_,_,_,S,CL,cs,rv,kv,CF,n,rfl,G,pS,Z.skip Pf (beq_eq_false_iff_ne.mp hb)⟩
 rw[et]at hb
 have cw:c.e.2.1=-1+(k:Int):=eq_of_beq hb
 obtain⟨x1,x2⟩:=Z.take Pf cw
 have cT:c.e.1=(i:Int):=Z.tt c (zE Pf)
 have hle:c.e.1<=u:=by lia
 have ms:=CS.C_ ok G.ok x1 hle
 have OI:=Bq.step ok G.ok x1
 have UY:=G.km
 have aw:=(G.ok.ar c (zE x1)).2
 refine⟨_,rfl,_,rfl,_,rfl,(by show 3<=sizeLine;decide),λB YJ=>?_⟩
 have DY:c0 Ee (upd Ee B (.tup [.int (i:Int),.int (0-1+(k:Int)),.int c.e.2.2])):=c0.new YJ
 have ge:(upd Ee B (.tup [.int (i:Int),.int (0-1+(k:Int)),.int c.e.2.2])) B=some (.tup [.int c.e.1,.int c.e.2.1,.int c.e.2.2]):=by rw[bg,cT,cw];rfl
 generalize upd Ee B (.tup [.int (i:Int),.int (0-1+(k:Int)),.int c.e.2.2])=IH at DY ge ⊢
 have Pg:=G.hc.same DY
 have lS:S.st.length=W.st.length:=G.ok.l1
 obtain⟨la,Ef⟩:∃la,ra[c.s]?=some la:=⟨_,zD (by have:=G.l1;have:=G.ev.length;have:=G.ok.l2;lia)⟩
 obtain⟨us,B7⟩:=cZ G.l1 Ef
 obtain⟨Ph,Lk⟩:∃kx,ka[c.s]?=some kx:=⟨_,zD (by have:=G.l2;have:=G.kp.length;have:=G.kl;lia)⟩
 obtain⟨ku,NT⟩:=cZ G.l2 Lk
 have hl:=Pg.get 2 c.s rfl (bG Ef B7)
 have OW:=G.le us (zE B7)
 have ZX:=G.lk ku (zE NT)
 refine⟨_,rfl,_,rfl,⟨_,_,_,_,rfl,rfl,eH.of (Pg.get 1 0 rfl rfl),d5 (cC Ef),CH hl,_,rfl,_,_,_,rfl,rfl,hl,cH (by lia),?_⟩⟩
 have R7:=Pg.put 2 c.s rfl (bG Ef B7) (.lst (us++[.ref B]))
 rw[dw Ef]at R7
 have Hi:Hc (upd IH la (.lst (us++[.ref B]))) ([(C,.lst cs)]::[(R,.lst (ra.map V.ref))]::zb ra (rv.set c.s (us++[.ref B]))::[(Kl,.lst (ka.map V.ref))]::zb ka kv::[(So,.lst ss)]::M):=R7
 have U5:c0 H (upd IH la (.lst (us++[.ref B]))):=(G.sm.trans DY).upd (G.f1 la (zE Ef))
 have JD:(upd IH la (.lst (us++[.ref B]))) B=some (.tup [.int c.e.1,.int c.e.2.1,.int c.e.2.2]):=by rw[bj (bK ge hl λz=>nomatch z)];exact ge
 have U6:Paired (zl (upd IH la (.lst (us++[.ref B])))) cs CL:=bf (λ_ _ h=>(zl.same DY h).keep hl) G.cm
 have U7:Paired (zl (upd IH la (.lst (us++[.ref B])))) ss so:=bf (λ_ _ h=>(zl.same DY h).keep hl) pS
 have MS:Paired (λxs ts=>Paired (wh (upd IH la (.lst (us++[.ref B])))) xs ts) kv CF:=bf (λ_ _ h=>bf (λ_ _ h=>(wh.same DY h).keep hl) h) G.kp
 have NK:Paired (λxs ts=>Paired (d4 (upd IH la (.lst (us++[.ref B])))) xs ts) (rv.set c.s (us++[.ref B])) (S.ev.set c.s (S.ev.getD c.s []++[c.e])):=by
  have e1:Paired (λxs ts=>Paired (d4 (upd IH la (.lst (us++[.ref B])))) xs ts) rv S.ev:=bf (λ_ _ h=>bf (λ_ _ h=>(d4.same DY h).keep hl) h) G.ev
  obtain⟨ts,Jv,E6⟩:=e1.gt B7
  rw[zA,Jv]
  exact cp e1 (bv E6 (.cons ⟨B,rfl,JD⟩ .nil))
 generalize upd IH la (.lst (us++[.ref B]))=NF at Hi U5 JD U6 U7 MS NK ⊢
 clear R7 Pg DY ge hl
 obtain⟨YK,NU,YL⟩:=MS.gt NT
 have hp:S.st[c.s]?=some (S.st.getD c.s Ao):=gy (by lia)
 obtain⟨YM,U8⟩:=G.ok.ws _ _ hp
 have II:=Hi.get 4 c.s rfl (bG Lk NT)
 have YN:Hc NF ([(Ph,.lst ku)]::M):=by
  have:List.Sublist ([(Ph,HO.lst ku)]++M.flatten) ([(C,.lst cs)]++([(R,.lst (ra.map V.ref))]++(zb ra (rv.set c.s (us++[.ref B]))++([(Kl,.lst (ka.map V.ref))]++(zb ka kv++([(So,.lst ss)]++M.flatten)))))):=by
   refine List.Sublist.trans ?_ (qE _ _)
   refine List.Sublist.trans ?_ (qE _ _)
   refine List.Sublist.trans ?_ (qE _ _)
   refine List.Sublist.trans ?_ (qE _ _)
   exact List.Sublist.append (List.singleton_sublist.mpr (zE (bG Lk NT))) (qE _ _)
  have k:Hs NF ([(C,.lst cs)]++([(R,.lst (ra.map V.ref))]++(zb ra (rv.set c.s (us++[.ref B]))++([(Kl,.lst (ka.map V.ref))]++(zb ka kv++([(So,.lst ss)]++M.flatten)))))):=Hi
  exact k.sub this
 refine⟨_,rfl,_,rfl,_,rfl,_,rfl,_,rfl,⟨_,_,_,_,rfl,rfl,eH.of (Hi.get 3 0 rfl rfl),d5 (cC Lk),?_⟩⟩
 refine⟨w,B,Ph,c.s,W,M,ku,YK,S.st.getD c.s Ao,c.e.1,c.e.2.1,c.e.2.2,rfl,YN,wW,ok,c1,JD,YL,G.ko _ _ _ hp NU,G.kd _ _ hp,YM,U8,aw,by lia,λv Hx NV BZ pv LN R8 R9 NW YO=>?_⟩
 have R_:Hc Hx ([(C,.lst cs)]::[(R,.lst (ra.map V.ref))]::zb ra (rv.set c.s (us++[.ref B]))::[(Kl,.lst (ka.map V.ref))]::zb ka (kv.set c.s NV)::[(So,.lst ss)]::M):=by
  have:=Hi.put 4 c.s rfl (bG Lk NT) (.lst NV)
  rw[dw Lk]at this
  exact Hc.kp this LN R8
 have NX:c0 H Hx:=ql.old U5 (G.f2 Ph (zE Lk)) LN
 have NY:Paired (zl Hx) cs CL:=bf (λ_ _ h=>h.kp LN II) U6
 have NZ:Paired (zl Hx) ss so:=bf (λ_ _ h=>h.kp LN II) U7
 have N4:Paired (λxs ts=>Paired (d4 Hx) xs ts) (rv.set c.s (us++[.ref B])) (S.step W c).ev:=bf (λ_ _ h=>bf (λ_ _ h=>d4.kp LN II h) h) NK
 have N5:Paired (λxs ts=>Paired (wh Hx) xs ts) (kv.set c.s NV) (CF.set c.s BZ):=cp (bf (λ_ _ h=>bf (λ_ _ h=>wh.kp LN II h) h) MS) R9
 have U9:∀(s:Nat) p,(S.step W c).st[s]?=some p->(s=c.s/\p=(S.st.getD c.s Ao).Aw ((S.st.getD c.s Ao).ws.idxOf c.e.2.1) c.e.2.2)\/(s≠c.s/\S.st[s]?=some p):=λs p h=>by
  have h':(S.st.set c.s ((S.st.getD c.s Ao).Aw ((S.st.getD c.s Ao).ws.idxOf c.e.2.1) c.e.2.2))[s]?=some p:=h
  by_cases z:s=c.s
  ·subst z
   rw[yW (by lia)]at h'
   exact .inl ⟨rfl,(Option.some.inj h').symm⟩
  ·rw[y4 (Ne.symm z)]at h'
   exact .inr ⟨z,h'⟩
 have YQ:c.s<CF.length:=(zC.mp NU).1
 have N6:∀(s:Nat) p k,(S.step W c).st[s]?=some p->(CF.set c.s BZ)[s]?=some k->CN p k:=λs p k h1 h2=>by
  rcases U9 s p h1 with ⟨e1,e2⟩|⟨e1,e2⟩
  ·subst e1 e2
   rw[yW YQ]at h2
   cases h2
   exact NW
  ·rw[y4 (Ne.symm e1)]at h2
   exact G.ko s p k e2 h2
 have N7:∀(s:Nat) p,(S.step W c).st[s]?=some p->p.k=kdOf (W.st.getD s ("",none)):=λs p h1=>by
  rcases U9 s p h1 with ⟨e1,e2⟩|⟨e1,e2⟩
  ·subst e1 e2
   rw[←G.kd _ _ hp]
   exact((S.st.getD c.s Ao).sr.DU _ _).2.1
  ·exact G.kd s p e2
 have U_:∀R',Runs W u (S.step W c) R'->Runs W u (W.cS (W.fe.map fA)) R':=λR' r=>G.rn R' (.step c x1 hle r)
 have N8:∀xs∈rv.set c.s (us++[.ref B]),xs.length<=n+1:=cE (λz hz=>qS (G.le z hz)) (by rw[zN];exact jA OW)
 have JH:∀xs∈kv.set c.s NV,xs.length<=n+1:=cE (λz hz=>qS (G.lk z hz)) (by lia)
 have ZY:=G.lc
 rcases pv with ⟨eo,rfl⟩|⟨b,y,t,eo,rfl,ht⟩
 ·refine⟨_,rfl,rfl,_,rfl,nj ?_⟩
  refine⟨_,_,_,_,_,_,_,_,_,S.step W c,CL,cs,_,_,_,n+1,rfl,⟨R_,NY,N4,N5,by rw[yG];exact G.kl,N6,by lia,by lia,N8,JH,OI,U_,G.ca,by rw[yG];exact G.l1,by rw[yG];exact G.l2,NX,G.f1,G.f2,G.f3,N7⟩,NZ,?_⟩
  have:=x2 (S':=S.step W c) (N:=[]) (by show S.ar.eraseIdx S.at++BX W ((S.st.getD c.s Ao).out ((S.st.getD c.s Ao).ws.idxOf c.e.2.1) c.e.2.2) _ _=_;rw[eo];rfl) (λb hb=>absurd hb zI)
  rw[zQ]at this
  exact this
 ·refine⟨_,rfl,rfl,_,rfl,vr ?_⟩
  have YR:b∈W.lv (c.s:Int):=by rw[←U8];exact SP.Ah eo
  obtain⟨q1,q2,q3,q4,_,q6,_⟩:=Wk.Bm ok YR
  obtain⟨jb,Sa⟩:=Int.eq_ofNat_of_zero_le q1
  subst Sa
  rw[zV]at q3 q4 q6
  obtain⟨x,hx⟩:∃x,ys[jb]?=some x:=⟨_,zD (by lia)⟩
  obtain⟨bt,YS,ab,rfl,YT⟩:=h2.pb.gt hx
  have Va:W.be.getD jb (0,0,0)=bt:=by rw[zA,YS];rfl
  rw[Va]at q3 q4 q6
  refine⟨_,rfl,(NX _ _ h1<<<1>>>⟨_,rfl,(ht<<<0>>>⟨_,_,_,_,rfl,rfl,eH.of (NX _ _ h2.hb),d5 hx,⟨ab,_,rfl,ze.of (NX _ _ YT),rfl,⟨_,_,rfl,⟨_,_,rfl,⟨_,_,rfl,rfl,?_⟩⟩⟩⟩⟩)⟩)⟩
  have N9:=R_.get 0 0 rfl rfl
  refine⟨_,rfl,CH N9,_,rfl,_,rfl,⟨_,_,rfl,rfl,_,rfl,_,rfl,(ht<<<0>>>⟨_,rfl,(ht<<<1>>>⟨(by show 4<=sizeLine;decide),λpn C3=>?_⟩)⟩)⟩⟩
  have JI:c0 Hx (upd Hx pn (.tup [.int ((i:Int)+bt.2.2),.int bt.2.1,.int (jb:Int),.int y])):=c0.new C3
  have Vb:(upd Hx pn (.tup [.int ((i:Int)+bt.2.2),.int bt.2.1,.int (jb:Int),.int y])) pn=some (.tup [.int ((i:Int)+bt.2.2),.int bt.2.1,.int (jb:Int),.int y]):=bg
  generalize upd Hx pn (.tup [.int ((i:Int)+bt.2.2),.int bt.2.1,.int (jb:Int),.int y])=YU at JI Vb ⊢
  have Fs:=JI _ _ N9
  refine⟨C,cs,_,rfl,rfl,Fs,cH (by lia),?_⟩
  have YV:Hc (upd YU C (.lst (cs++[.ref pn]))) ([(C,.lst (cs++[.ref pn]))]::[(R,.lst (ra.map V.ref))]::zb ra (rv.set c.s (us++[.ref B]))::[(Kl,.lst (ka.map V.ref))]::zb ka (kv.set c.s NV)::[(So,.lst ss)]::M):=(R_.same JI).put 0 0 rfl rfl (.lst (cs++[.ref pn]))
  have eN:(S.step W c).ar=S.ar.eraseIdx S.at++[arrOf W (jb:Int) y c.e.1 ((c.s:Int),((S.ev.getD c.s []).length:Int))]:=by
   show S.ar.eraseIdx S.at++BX W ((S.st.getD c.s Ao).out ((S.st.getD c.s Ao).ws.idxOf c.e.2.1) c.e.2.2) _ _=_
   rw[eo]
   rfl
  have eA:(arrOf W (jb:Int) y c.e.1 ((c.s:Int),((S.ev.getD c.s []).length:Int))).e=((i:Int)+bt.2.2,(jb:Int),y)/\(arrOf W (jb:Int) y c.e.1 ((c.s:Int),((S.ev.getD c.s []).length:Int))).s=bt.2.1.toNat:=by
   unfold arrOf
   rw[zV,Va,cT]
   exact⟨rfl,rfl⟩
  generalize arrOf W (jb:Int) y c.e.1 ((c.s:Int),((S.ev.getD c.s []).length:Int))=aN at eN eA
  obtain⟨Sd,Vc⟩:=eA
  refine⟨_,_,_,_,_,_,_,_,_,S.step W c,CL++[aN],cs++[.ref pn],_,_,_,n+1,rfl,⟨YV,?_,bf (λ_ _ h=>bf (λ_ _ h=>(d4.same JI h).keep Fs) h) N4,bf (λ_ _ h=>bf (λ_ _ h=>(wh.same JI h).keep Fs) h) N5,by rw[yG];exact G.kl,N6,by lia,by rw[zN];show cs.length+1<=_;lia,N8,JH,OI,U_,?_,by rw[yG];exact G.l1,by rw[yG];exact G.l2,(NX.trans JI).upd G.f3,G.f1,G.f2,G.f3,N7⟩,bf (λ_ _ h=>(zl.same JI h).keep Fs) NZ,x2 eN λb hb=>?_⟩
  ·refine bv (bf (λ_ _ h=>(zl.same JI h).keep Fs) NY) (.cons (zl.keep Fs ⟨pn,rfl,?_⟩) .nil)
   rw[Vb,Sd,Vc,jS q3]
  ·intro a ha
   rcases zW.mp ha with z|z
   ·exact G.ca a z
   ·rw[zF.mp z,Sd,Vc]
    exact⟨by lia,by show -1<=(jb:Int);lia,q2⟩
  ·rw[zF.mp hb,Sd]
   show(i:Int)<(i:Int)+bt.2.2
   lia
theorem tS{f:Addr}(F:Ac K "_law_more" "_law_more" (top 52) f fd)(T:Txt K mg)(ae:FnAt P w K mg base 1 "_law_mixed" ["cell","k"] E1):mu P w K mg base Aa 2 f fd ["script","many"] (Ex K):=by
 exists ["script","many","feeds","cells","k","number"]
 obtain⟨a,ns,n,rfl,hS,n0,n8,q⟩:=h
 refine⟨_,((2>>=@bR _ _ _ _ a_)<|>(3>>=c9 eF {0} du (cM bh))<|>cj PassesOwn.never rfl (bO rfl T.zt (z_ (pR rfl) (by rfl) T.EX i9 (bh>>‹{3}›>>a_)>>a_)) (fB (i:=4) nd rfl (by nofun)) ((5>>=(ae<&>(z_ (qb rfl) (by rfl) T.M3 wg (m8 (K:=K) rfl {3} (cM {4}) du (cM bh)>>a_)>>bu bQ bh {4}>>a_)))<|>@ei _ _ _ (bC (bZ Z5 Z6 Z7 bH {2} (@bF _ _ _ _ _ (bu bN {5} {1}>>bu bN (bu cP {5} bh) bh>>bu bN (bu cP {5} bh) (bu mO bh bh)>>a_)>>a_))))<|>(~~~{2})),?_⟩
 refine⟨yH _,λD nD=>?_⟩
 have s1:c0 H (upd H D (.lst [])):=c0.new nD
 refine⟨_,rfl,_,rfl,a,_,rfl,s1.seq hS,λpc G=>?_⟩
 obtain⟨ms,em,_⟩:=rj ns none (some 63)
 rw[em]
 have s2:c0 (upd H D (.lst [])) (upd (upd H D (.lst [])) pc (.lst (ms.map V.int))):=c0.new G
 have h2:=s2 _ _ (bg (H:=H) (a:=D) (o:=.lst []))
 have O:(upd (upd H D (.lst [])) pc (.lst (ms.map V.int))) pc=some (.lst (ms.map V.int)):=bg
 have S2:=s1.trans s2
 have ne:pc≠D:=λz=>by rw[z,bg]at G;cases G
 generalize (upd (upd H D (.lst [])) pc (.lst (ms.map V.int)))=H2 at S2 h2 O ⊢
 refine⟨_,rfl,pc,_,rfl,.inl (eH.of O),_,_,rfl,?_⟩
 rw[zB]
 obtain⟨N,hN,N0,ZZ⟩:∃N:Int,(if (ms.length:Int)<12 then (ms.length:Int)else 12)=N/\0<=N/\N<=12:=⟨_,rfl,by split <;>lia,by split <;>lia⟩
 rw[hN]
 refine⟨_,rfl,by rw[BL];lia,by rw[BL];lia,cW (n:=N.toNat) (λi σ H7=>∃(v4 v5:Option V)(zs:List V)(fe:List fc),σ=[some (.ref a),some (.int n),some (.ref D),some (.ref pc),v4,v5]/\c0 H H7/\H7 pc=some (.lst (ms.map V.int))/\H7 D=some (.lst zs)/\Paired (d4 H7) zs fe/\fe.length=i/\∀t∈fe,0<=t.1/\t.1<n/\0<=t.2.1/\t.2.1<=50/\-1000000000<=t.2.2/\t.2.2<=1000000000)
  ⟨_,_,[],[],rfl,S2,O,h2,.nil,rfl,λs h=>absurd h zI⟩ ?_ ?_⟩
 ·rintro i σ H7 hi ⟨v4,v5,zs,fe,rfl,s7,U,Y,pr,el,ok⟩
  refine⟨_,rfl,_,rfl,_,rfl,_,rfl,pc,ms,rfl,eH.of U,(by intro z;have z':=Option.some.inj z;lia),λp ls _ _ np=>?_⟩
  have s8:c0 H7 (upd H7 p (.lst (ls.map V.int))):=c0.new np
  have g8:(upd H7 p (.lst (ls.map V.int))) p=some (.lst (ls.map V.int)):=bg
  generalize (upd H7 p (.lst (ls.map V.int)))=H8 at s8 g8 ⊢
  refine⟨p,ls,rfl,eH.of g8,?_⟩
  refine⟨_,rfl,_,_,rfl,rfl,_,_,rfl,λr r0 r1=>?_⟩
  have lx:=pr.length
  have h8:=s8 _ _ Y
  refine⟨_,rfl,CH h8,_,rfl,_,rfl,_,_,rfl,rfl,n0,?_⟩
  infer_instance
  refine⟨(by show 3<=sizeLine;decide),λt nt=>?_⟩
  have s9:c0 H8 (upd H8 t (.tup (Dm (r%n,r / 7%9,r / 63%10000000)))):=c0.new nt
  have B:=s8.trans s9
  refine⟨_,_,_,rfl,rfl,s9 _ _ h8,bo (by lia),?_⟩
  refine⟨_,_,zs++[.ref t],fe++[(r%n,r / 7%9,r / 63%10000000)],rfl,(s7.trans B).upd nD,(bj ne).trans (B _ _ U),bg,?_,by rw[zN,el];rfl,dN ok ⟨qC _ (by lia),y3 _ (by lia),by show 0<=r / 7%9;lia,by show r / 7%9<=50;lia,by show -1000000000<=r / 63%10000000;lia,by show r / 63%10000000<=1000000000;lia⟩⟩
  exact bv (bf (λ_ _ h=>(d4.same B h).keep (B _ _ Y)) pr) (.cons (d4.keep (B _ _ Y) ⟨t,rfl,bg⟩) .nil)
 ·rintro σ H7 ⟨v4,v5,zs,fe,rfl,s7,U,Y,pr,el,ok⟩
  exact⟨_,rfl,q D zs fe H7 nD Y pr (by lia) ok s7⟩
theorem sZ(as:List Addr)(vs:List (List V)):∀x∈zb as vs,∀ps,x.2≠HO.AB ps:=λx hx ps=>by
 obtain⟨v,_,e⟩:=yF.mp (jU (show(x.1,x.2)∈as.zip (vs.map HO.lst)from hx)).2
 rw[←e]
 exact λy=>nomatch y
def N_(r:List fc):PyData:=.list (r.map DQ)
theorem uM{gv:List (List V)}(p:Paired (λus ts=>Paired (d4 H) us ts) gv ge):∀{as:List Addr},(∀c∈zb as gv,H c.1=some c.2)->as.length=gv.length->zy K H 2 (as.map V.ref) (ge.map N_):=by
 induction p with
 | nil=>intro as _ l;cases as with
  | nil=>exact .nil 2
  | cons _ _=>cases l
 | @cons us ts gv ge p r ih =>
  intro as m l
  cases as with
  | nil=>cases l
  | cons a as =>
   have B:∀c∈(a,HO.lst us)::zb as gv,H c.1=some c.2:=m
   exact .cons (nU (B _ zH) p) (ih (λc hc=>B c (zL _ hc)) (by simpa using l))
theorem fH{bs:List Addr}{rv:List (List V)}(h:H D=some (.lst (bs.map V.ref)))(hc:∀c∈zb bs rv,H c.1=some c.2)(l:bs.length=rv.length)(p:Paired (λus ts=>Paired (d4 H) us ts) rv ge):Dt K H 3 (.ref D) (.list (ge.map N_)):=.lst (eH.of h) (uM p hc l)
theorem oB{f:Nat->List fc}{ev:List (List fc)}(l:ev.length=n)(h:∀s<n,f s=ev.getD s []):(List.range n).map f=ev:=by
 refine jI λi=>?_
 rw[zG]
 by_cases z:i<n
 ·rw[qF z]
  show some (f i)=_
  rw[h i z,zA,zD (by lia)]
  rfl
 ·rw[yT (by rw[qL];lia),yT (by lia)]
  rfl
theorem ug(ok:W.Ok)(G:W.fe.length<=7){B:List fc}(l:B.length<=12){n:Int}(hn:n=(W.st.length:Int))(h:∀t∈B,0<=t.1/\t.1<n/\0<=t.2.1/\t.2.1<=50/\-1000000000<=t.2.2/\t.2.2<=1000000000):Wk.Ok ⟨W.st,W.be,W.fe++B⟩ :=
 ⟨ok.s1,ok.s8,ok.BN,by show(W.fe++B).length<=60;rw[zN];lia,ok.Ea,ok.EK,λt ht=>by
  rcases zW.mp ht with z|z
  ·exact ok.EZ t z
  ·subst hn;exact h t z⟩
theorem uf{A B:List (List Cell)}(a:Hc H A)(b:Hc H B)(G:A8 A)(nb:A8 B):∃M,Hc H M/\A8 M/\∀H',Hc H' M->Hc H' A/\Hc H' B:=by
 have q:∀{o:HO},(∀ps,o≠HO.AB ps)->B3 o=true:=fun {o} n=>by cases o <;>first|rfl|exact absurd rfl (n _)
 obtain⟨L,l1,l2⟩:=dn (H:=H) (L:=A.flatten++B.flatten) λc hc=>(zW.mp hc).elim (a.2 c) (b.2 c)
 refine⟨[L.filter λc=>B3 c.2],by unfold Hc;rw[y7];exact l1.sub kZ,λc hc ps e=>?_,λH' k=>?_⟩
 ·rw[y7]at hc
  have:=(zR.mp hc).2
  rw[e]at this
  cases this
 ·unfold Hc at k
  rw[y7]at k
  exact⟨⟨a.1,λc hc=>k.2 c (zR.mpr ⟨l2 c (yQ _ hc),q (G c hc)⟩)⟩,⟨b.1,λc hc=>k.2 c (zR.mpr ⟨l2 c (zU _ hc),q (nb c hc)⟩)⟩⟩
inductive D7(Pd Pu:Addr)(K:PySem.W.Frag)(vs:List V)(H:Hp)(Q:VK)(wc:XK):Prop where
 | mk (a:Addr) (ns:List Int) (ui:vs=[.ref a]) (uj:eH K H a (ns.map V.int)) (zf:ns.length<=63) (zq:zh Pd H) (Ai:Hr Pu H) (AA:Pd≠Pu) (Bl:∀H',Q (.bl true) H'):D7 Pd Pu K vs H Q wc
section
variable{cs:Cs}
theorem wQ{f:Addr}(F:Ac K "law" "law" (top 58) f fd)(T:Txt K mg)(YW:PySem.W.kitOne K (.type "tuple") (.type "tuple")=some true)(YX:PySem.W.kitOne K (.type "str") (.type "str")=some true)(aA:FnAt P w K mg base 2 "_law_works" ["script"] (Gg K))(aB:FnAt P w K mg base 2 "_law_more" ["script","many"] (Ex K))(ad:FnAt P w K mg base 1 "_law_cell_at" ["script","k"] (Dn K))(aD:FnAt P w K mg base 1 "_law_text" ["works"] GY)(O:FnAt P w K mg base 3 "read" ["text"] EH)(B:FnAt P w K mg base 1 "shown" ["works"] Dw)(av:FnAt P w K mg base 3 "_law_walked" ["works","until"] Hd)(Oa:FnAt P w K mg base 6 "run" ["works","until"] (GP Pd))(aL:FnAt P w K mg base 7 "settled" ["works","until"] (GU cs C Pd Pu)):mu P w K mg base Aa 8 f fd ["script"] (D7 Pd Pu K):=by
 exists ["script","works","text","told","until","due","found","again"]
 obtain⟨a,ns,rfl,hS,hl,hT,hU,Se,q⟩:=h
 refine⟨_,((1>>=(aA<&>({0}>>a_)))<|>(1>>=@bF _ _ _ _ _ (({1}<*>bh)>>({1}<*>bh)>>bu dF ({1}<*>bh) (aB<&>({0}>>‹({1}<*>bh)›>>a_))>>a_))<|>(2>>=(aD<&>({1}>>a_)))<|>(3>>=(O<&>({2}>>a_)))<|>(4>>=bu bN (bu cP (ad<&>({0}>>bh>>a_)) bh) bh)<|>(5>>=(av<&>({1}>>{4}>>a_)))<|>(6>>=(aL<&>({3}>>{4}>>a_)))<|>bL ((gQ (hG (dk (z_ (il (K:=K) rfl) (by rfl) T.BM eK ({6}>>oM (v:=.ty _) (by rfl) T.Cc fu rfl>>a_)))) (gQ (bp mq ‹{6}› bh (bq _)) (hV (bp (ox (K:=K) rfl hr.units) ({6}<*>bh) {5} (bq _)))))).pt (~~~iC) bz<|>(7>>=(B<&>({3}>>a_)))<|>(~~~(je (cF (jt (K:=K) rfl hr.units) (Oa<&>({3}>>{4}>>a_)) {5} (bq _)) (je (z_ (il (K:=K) rfl) (by rfl) T.BM eK ({7}>>oM (v:=.ty _) (by rfl) T.C8 fV rfl>>a_)) (kj (cF bU {7} {2} (bq _))))))),?_⟩
 refine⟨_,rfl,a,ns,rfl,hS,λw0 U H1 Vd Y f7 s1=>?_⟩
 obtain⟨G,Pj,Z0,Ni,Uo,Nj,h1,h2⟩:=Vd.ex
 have YY:=h2.ps.length
 have Z1:=h2.pf.length
 have o1:=Y.s1
 have o8:=Y.s8
 refine⟨_,rfl,(h1<<<0>>>?_)⟩
 refine⟨_,rfl,(h1<<<1>>>?_)⟩
 refine⟨_,rfl,(h1<<<2>>>?_)⟩
 refine⟨_,rfl,_,rfl,(h1<<<0>>>⟨G,Ni,rfl,.inl (eH.of h2.hs),?_⟩)⟩
 refine⟨a,ns,_,rfl,s1.seq hS,by lia,by lia,λpm zm fm H2 Z2 Ve Sf lm Vf s2=>?_⟩
 have Z3:=Sf.length
 refine⟨_,_,_,_,rfl,rfl,s2 _ _ h2.hf,Ve,qP (bo (by lia)),λpf YZ=>⟨(by show 3<=sizeLine;decide),λwb Vg=>?_⟩⟩
 have s3:=c0.new (o:=.lst (Nj++zm)) YZ
 have g3:=bg (H:=H2) (a:=pf) (o:=.lst (Nj++zm))
 generalize (upd H2 pf (.lst (Nj++zm)))=H3 at s3 g3 Vg ⊢
 have s4:=c0.new (o:=.tup [.ref G,.ref Pj,.ref pf]) Vg
 have g4:=bg (H:=H3) (a:=wb) (o:=.tup [.ref G,.ref Pj,.ref pf])
 generalize (upd H3 wb (.tup [.ref G,.ref Pj,.ref pf]))=H4 at s4 g4 ⊢
 have t4:=s2.trans (s3.trans s4)
 have S4:=s1.trans t4
 have hW:Ag H4 wb ⟨U.st,U.be,U.fe++fm⟩:=⟨G,Pj,pf,Ni,Uo,Nj++zm,g4,⟨t4 _ _ h2.hs,t4 _ _ h2.hb,s4 _ _ g3,bf (λ_ _=>zu.same t4) h2.ps,bf (λ_ _=>d4.same t4) h2.pb,bv (bf (λ_ _=>d4.same t4) h2.pf) (bf (λ_ _=>d4.same (s3.trans s4)) Sf)⟩⟩
 have ok:Wk.Ok ⟨U.st,U.be,U.fe++fm⟩:=ug Y f7 lm (by rw[YY]) Vf
 generalize (⟨U.st,U.be,U.fe++fm⟩:Wk)=W at hW ok
 clear h1 h2 Ve Sf g3 g4 s3 s4 Vf Vd Y
 refine⟨_,rfl,wb,W,rfl,hW,ok,λH5 lt s5=>⟨_,rfl,W,rfl,lt,ok,λwt H6 Y0 s6=>?_⟩⟩
 have S6:=S4.trans (s5.trans s6)
 have Sg:=S6.seq hS
 refine⟨_,rfl,a,ns,0,rfl,Sg,by decide,λc=>⟨_,_,rfl,rfl,⟨by decide,by decide⟩,_,_,rfl,rfl,(show(0:Int)<10 by decide),?_⟩⟩
 have u0:=qC (c / 280) (show(10:Int)≠0 by decide)
 have u1:=y3 (c / 280) (show(0:Int)<10 by decide)
 generalize c / 280%10=u at u0 u1 ⊢
 obtain⟨A1,_,_,_,_,_,_,a1,n1,b1⟩:=oE (hW.same (s5.trans s6)) Sg
 obtain⟨A2,_,_,_,_,_,_,a2,n2,b2⟩:=oE Y0 Sg
 obtain⟨M,kM,nM,bM⟩:=uf a1 a2 n1 n2
 have wW:EG M wb W:=λH' h'=>let ⟨a,b,_⟩:=b1 H' (bM H' h').1;⟨_,_,_,_,_,_,a,b⟩
 have tW:EG M wt W:=λH' h'=>let ⟨a,b,_⟩:=b2 H' (bM H' h').2;⟨_,_,_,_,_,_,a,b⟩
 refine⟨_,rfl,_,rfl,wb,u,W,M,rfl,kM,wW,ok,u0,by lia,λR D ra rv H7 rn co k7 l7 p7 s7=>?_⟩
 have Vh:A8 ([(D,.lst (ra.map V.ref))]::zb ra rv::M):=(nM.cons (sZ ra rv)).lst
 refine⟨_,rfl,_,rfl,wt,W,_,u,rfl,k7,Vh,(λH' k=>tW H' k.tl.tl),ok,u0,by lia,hT.same (S6.trans s7),hU.same (S6.trans s7),Se,λt D2 bs Y1 r H8 sx k8 lb pr Y2 Z4 tr=>?_⟩
 have ht:=k8.get 0 0 rfl rfl
 have p8:=bf (λ_ _ h=>bf (λ_ _ h=>tr _ _ h) h) p7
 have eA:(W.oa.zT W.st.length r).NG u W.st.length=R.ev:=oB co.l2 λs hs=>rV ok u0 (ny ok) rn co sx.em hs
 rw[eA]at pr
 have c8:∀c∈zb ra rv,H8 c.1=some c.2:=λc hc=>k8.2 c (jB.mpr ⟨_,zE (i:=4) rfl,hc⟩)
 have dA:=fH (K:=K) (k8.get 1 0 rfl rfl) (λc hc=>k8.2 c (jB.mpr ⟨_,zE (i:=2) rfl,hc⟩)) lb pr
 have dB:=fH (K:=K) (k8.get 3 0 rfl rfl) c8 l7 p8
 refine⟨_,rfl,_,"tuple",_,true,rfl,.tup ht,YW,_,rfl,nj ⟨_,rfl,t,_,rfl,.inr (ze.of ht),rfl,_,rfl,nj ?_⟩⟩
 refine⟨_,rfl,(ht<<<0>>>⟨_,rfl,_,_,3,dA,dB,by decide,_,rfl,?_⟩)⟩
 rw[SeqAt.eqv_refl _ dA.Kt]
 refine nj ⟨_,rfl,wt,W,rfl,tW H8 k8.tl.tl.tl.tl.tl,ok,λH9 s9=>?_⟩
 refine⟨_,rfl,_,rfl,wt,u,W,_,rfl,k8.same s9,((Vh.cons (sZ bs Y1)).lst).one (λ_ z=>nomatch z),(λH' k=>tW H' k.tl.tl.tl.tl.tl),ok,Y2.same s9,by lia,λR3 D3 ea Bw Ee Y3 Vi LJ Y4 Vj Y5 _ _=>?_⟩
 have eC:(W.oa.zT W.st.length r).NG u W.st.length=R3.ev:=oB Vi.l2 λs hs=>rV ok u0 (va ok) Y3 Vi sx.em hs
 rw[←eC,eA]at Vj
 have dC:=fH (K:=K) (LJ.get 0 0 rfl rfl) (λc hc=>LJ.2 c (jB.mpr ⟨_,zE (i:=1) rfl,hc⟩)) Y4 Vj
 have dD:=fH (K:=K) (LJ.get 5 0 rfl rfl) (λc hc=>LJ.2 c (jB.mpr ⟨_,zE (i:=6) rfl,hc⟩)) l7 (bf (λ_ _ h=>bf (λ_ _ h=>d4.tp Y5 (d4.same s9 h)) h) p8)
 refine⟨_,rfl,_,_,3,dC,dD,by decide,?_⟩
 rw[SeqAt.eqv_refl _ dC.Kt]
 refine⟨true,rfl,vr ⟨_,rfl,_,"str",_,true,rfl,.str _,YX,true,rfl,vr ⟨_,rfl,_,rfl,rfl,?_⟩⟩⟩
 rw[show decide (V.str (PySem.Txt.join nl W.rows)=V.str (PySem.Txt.join nl W.rows))=true from decide_eq_true rfl]
 exact q _
end
theorem x3{sl:Array (Option Value)}(h:K.lookup a=some ⟨.type "tuple",od,.seq ⟨its⟩ n,sl⟩)(r:Vals xs its)(hs:Nat.ble its.length 9=true:=by rfl):∀H,ze K H a xs :=
 λ_=>.inr ⟨_,⟨its⟩,n,h,rfl,rfl,yE (xJ hs) (by decide),r⟩
inductive Bi(w:World):List DictEntry->List (Str×Value)->Prop
 | nil:Bi w [] []
 | cons {k:Str} {t:Tok} {v:Value} {es:List DictEntry} {ws:List (Str×Value)}:Bi w es ws->Bi w (⟨hashStr w k,.str k t,v⟩::es) ((k,v)::ws)
theorem Bi.pairs:∀{es:List DictEntry}{ws:List (Str×Value)},Bi w es ws->Pairs (za P w) es (ws.map λp=>((.inr p.1:Key),p.2))
 | _,_,.nil=>.nil
 | _,_,.cons (t:=t) h=>.cons (f8 _ t) rfl h.pairs
theorem Bi.keys:∀{es:List DictEntry}{ws:List (Str×Value)},Bi w es ws->∀e∈es,∃k,(za P w).is k e.key=true/\e.hash=(za P w).hash k
 | _,_,.nil=>λe h=>absurd h zI
 | _,_,.cons (k:=k) (t:=t) h=>λe B=>by
  rcases zO.mp B with q|q
  ·rw[q];exact⟨.inr k,f8 _ t,rfl⟩
  ·exact h.keys e q
theorem sh{es:Array DictEntry}{ep:Nat}{ws:List (Str×Value)}(hl:h.get? a=some ⟨.type "dict",none,.dict es ep,#[]⟩)(O:Bi w es.toList ws){ks:List Str}(B:ks.Nodup)(hk:ws.map (·.1)=ks) :
  h.DictOf (za P w) a (ws.map λp=>((.inr p.1:Key),p.2)):=by
 refine⟨_,es,ep,hl,⟨rfl,rfl,rfl⟩,rfl,λe hm=>O.keys e (xP.mpr hm),O.pairs,?_⟩
 have hn:(ws.map (·.1)).Nodup:=by rw[hk];exact B
 rw[qD]
 have:(ws.map (·.1)).map (λs=>(Sum.inr s:Key))=ws.map ((λp:Key×Value=>p.1)∘λp=>((.inr p.1:Key),p.2)):=by rw[qD];rfl
 rw[←this]
 exact hn.map _ λa b G e=>G (Sum.inr.inj e)
inductive JJ(K:PySem.W.Frag)(s:Stmt)(m q:Str)(f:Addr)(cd:Value):Prop where
 | mk {oc:Value} {od an:Option Addr} {sl:Array (Option Value)} {kV dc pm ct:Value} (l:K.lookup f=some ⟨oc,od,.func (PySem.W.fnOf m q (AW s) (Ax s) (zc s) .none kV dc pm an cd ct),sl⟩) (c:PySem.W.codeIn K cd q=true) (k:PySem.W.keepIn K (.ref f)=true):JJ K s m q f cd
theorem JJ.fn{s:Stmt}{m:Str}{f:Addr}(h:JJ K s m q f cd):∃fd,Ac K m q s f fd/\PySem.W.keepIn K (.ref f)=true/\fd.code=cd:=by
 obtain⟨l,c,k⟩:=h
 exact⟨_,sM l c k,k,rfl⟩
structure Ev(P:Program)(w:World)(K:PySem.W.Frag)(mg:Str->Option Value)(base h:Heap):Prop where
 X:K.In h
 G:h.Ns mainGlobals mg
abbrev Bd(m q:Str)(s:Stmt)(ps:List Str):Prop:=∀(kV doc pm:Value)(an:Option Addr)(Bj ct:Value)(us:List Value),us.length=ps.length->bindArgs (PySem.W.fnOf m q (AW s) (Ax s) (zc s) .none kV doc pm an Bj ct) ⟨us,[]⟩=pure (ps.zip us)
section
variable{n:Str}{s:Stmt}{sp:Sp}{v:Value}(V:Ev P w K mg base h)
include V
theorem Ev.g(e:PySem.W.nsIn K mainGlobals y=some (some v):=by k_is):mg y=some v:=PySem.W.mg_of V.X V.G e
theorem Ev.l{o:Obj}(e:K.lookup a=some o:=by k_is):K.lookup a=some o:=e
theorem Ev.f(ok:∀{fd:FuncData},Ac K q q s a fd->fd.code=cd->mu P w K mg base Aa j a fd ps sp)(e1:PySem.W.nsIn K mainGlobals q=some (some (.ref a)):=by k_is)(z:JJ K s q q a cd:=by subst_eqs)(b:Bd q q s ps:=by injections):FnAt P w K mg base j q ps sp:=by
 obtain⟨fd,F,kp,e⟩:=z.fn
 exact⟨⟨a,fd,ok F e,V.g e1,kp,F.binds b⟩⟩
theorem Ev.m(ok:∀{fd:FuncData},Ac K n q s a fd->fd.code=cd->mu P w K mg base Aa j a fd ps sp)(e1:PySem.W.findIn K (.ref C) n=some (some (.ref a)):=by k_is)(i:PySem.W.isFn K (.ref a)=true:=by k_is)(z:JJ K s n q a cd:=by subst_eqs)(b:Bd n q s ps:=by injections)(c:Fg K C:=by subst_vars):MethAt P w K mg base j C n ps sp:=by
 obtain⟨fd,F,kp,e⟩:=z.fn
 exact⟨⟨a,fd,ok F e,⟨e1,i,kp⟩,F.binds b⟩,c⟩
theorem Ev.k(ok:∀{fd:FuncData},Ac K n q s a fd->fd.code=cd->mu P w K mg base Aa j a fd ps sp)(g:PySem.W.nsIn K mainGlobals y=some (some (.ref C)):=by k_is)(mk:PySem.W.makesIn K C=true:=by k_is)(e1:PySem.W.findIn K (.ref C) "__init__"=some (some (.ref a)):=by k_is)(i:PySem.W.isFn K (.ref a)=true:=by k_is)(B:PySem.W.keepIn K (.ref C)=true:=by k_is)(z:JJ K s n q a cd:=by subst_eqs)(b:Bd n q s ps:=by injections):DN P w K mg base j y C ps sp:=by
 obtain⟨fd,F,kp,e⟩:=z.fn
 exact⟨⟨a,fd,ok F e,⟨mk,e1,i,B⟩,F.binds b⟩,V.g g⟩
theorem Ev.c{mc:Value}(ok:∀{fd:FuncData},Ac K n q s a fd->fd.code=cd->mu P w K mg base Aa j a fd ps sp)(ga:PySem.W.specialIn K (.ref C) "__getattribute__"=some (some (.builtin "type.__getattribute__")):=by k_is)(ty:PySem.W.typeIn K (.ref C)=some mc:=by k_is)(B:PySem.W.readsIn K C mc=true:=by k_is)(G:PySem.W.findCls K (.ref C) mc n=some (.val (.ref a)):=by k_is)(z:JJ K s n q a cd:=by subst_eqs)(b:Bd n q s ps:=by injections):ClsAt P w K mg base j C n ps sp:=by
 obtain⟨fd,F,kp,e⟩:=z.fn
 exact⟨⟨a,fd,ok F e,⟨ga,⟨_,B,G⟩,kp⟩,F.binds b⟩⟩
end
theorem tG{sl:Array (Option Value)}(h:K.lookup a=some ⟨.type "tuple",od,.seq ⟨its⟩ n,sl⟩:=by k_is)(r:Vals xs its:=by subst_vars)(hs:Nat.ble its.length 9=true:=by rfl):∀H,ze K H a xs:=x3 h r hs
theorem lG{s:Stmt}{f:Addr}{Q:FuncData->Prop}(_:Ac K x x s f fd)(h:Q fd):∃fd,Q fd:=⟨_,h⟩
theorem su:∀l:List (Str×Nat),KV (κ:=Key) (l.map λp=>(.inr p.1,.ref p.2)) ((l.map λp=>(p.1,Value.ref p.2)).map λp=>(.inr p.1,p.2))
 | []=>.nil
 | _::l=>.cons ⟨rfl,rfl⟩ (su l)
end Oc
namespace Oc
open PySem PySem.W PyProof.Rows PySem.Calls
abbrev pW:Program:=PySem.Challenge.pw_ownclocks_k34_whole_from_text
noncomputable def Ll:Env:={ scope:=pW.main.scope,locals:=mainNs,globals:=mainNs,cells:=[],code:=.ref 13,frame:=some 14 }
noncomputable def hB:List Stmt:=behindTheImports pW
noncomputable def hC:Code:=.body hB Ll
noncomputable def hF:List Frame:=[topFrame ⟨0,0,0,0⟩]
noncomputable def Y6:Obj:=⟨.type "tuple",none,.seq #[] 0,#[]⟩
noncomputable def Y7:Obj:=⟨.none,none,.fields #[],#[]⟩
noncomputable def Y8:Obj:=⟨.type "code",none,.fields #[.str "<module>" 182,.str "<module>" 183,.str "/claim/cut.py" 184,.int 1 0,.int 0 0,.int 0 0,.int 0 0,.int 0 0,.ref 11,.bool false,.int 181 0,.ref 12,.none,.none,.none,.none,.int 185 0,.int 1 0,.str "/claim/cut.py" 186],#[]⟩
noncomputable def Y9:Obj:=⟨.type "frame",none,.plain,#[some (.ref 13),some (.ref 3),some (.ref 3),none,some (.str "__main__" 164),none,some (.ref 0)]⟩
noncomputable def hT(P:Params):BT:=(.node (boot_o_0 P) (.node (boot_o_1 P) (.node (boot_o_3 P) (.node (boot_o_7 P) .nil .nil) (.node Y6 .nil .nil)) (.node (boot_o_5 P) (.node (boot_o_9 P) .nil .nil) (.node Y8 .nil .nil))) (.node (boot_o_2 P) (.node (boot_o_4 P) (.node (boot_o_8 P) .nil .nil) (.node Y7 .nil .nil)) (.node (boot_o_6 P) (.node (boot_o_10 P) .nil .nil) (.node Y9 .nil .nil))))
noncomputable def hS(w:World)(os:OsState):SharedT:=⟨hT w.params,15,(boot_heap w.params).life,#[],boot_drawn,187,os⟩
theorem yj(w:World)(s:SharedT)(q:Pos):topRun treeTable pW w 11 (some (.ref 6)) 2 s.abs ⟨doneF .next,hC,q,hF⟩=some s.abs:=rfl
theorem uU(w:World)(os:OsState):segRunT treeTable pW w 11 (some (.ref 6)) 1 1 (hS w os) (blockOf hB Ll hC ⟨0,0,0,0⟩ hF)=some (.next,hS w os,hC,⟨0,0,0,0⟩):=by
 kernel_rfl
theorem yg(w:World)(os:OsState):topGo treeTable pW w 11 (some (.ref 6)) 12 ⟨boot_heap w.params,#[],boot_drawn,boot_toks,os⟩ (topStub pW)=some ((hS w os).abs,⟨denote treeTable hC,hC,⟨0,0,0,0⟩,hF⟩):=by
 kernel_rfl
noncomputable def dE(P:Params)(k:Str)(t:Nat)(v:Value):DictEntry:=⟨PyData.keyHash P k,.str k t,v⟩
noncomputable def cO(nm B:Str)(t ln ac G:Nat)(tp:Addr)(b:Bool)(tb:Addr)(x y z:Value)(T:Nat):Obj:=⟨.type "code",none,.fields #[.str nm t,.str B (t+1),.str "/claim/cut.py" (t+2),.int ln 0,.int ac 0,.int 0 0,.int 0 0,.int G 0,.ref tp,.bool b,.int 181 0,.ref tb,.none,x,y,z,.int T 0,.int ln 0,.str "/claim/cut.py" (T+1)],#[]⟩
noncomputable def fO(s:Stmt)(nm B:Str)(pm cd:Value):Obj:=⟨.type "function",none,.func (fnOf nm B (L2.AW s) (L2.Ax s) (L2.zc s) .none .none .none pm none cd .none),#[]⟩
noncomputable def cL(nm:Str)(bs B:List Value)(ns:Addr)(G:Str)(hd:Bool)(sub:List Value):ClassData:={ name:=nm,bases:=bs,mro:=B,ns:=ns,qualname:=G,hasDict:=hd,subclasses:=sub }
noncomputable def m0:Value:=.str "ownclocks.works" 262
noncomputable def m1:Value:=.str "ownclocks.kinds" 397
noncomputable def m2:Value:=.str "ownclocks.own" 605
noncomputable def m3:Value:=.str "ownclocks.together" 754
noncomputable def m4:Value:=.str "ownclocks.clock" 793
noncomputable def m5:Value:=.str "law_ownclocks_k34_whole_from_text" 837
noncomputable def dR(P:Params)(k:Str)(t:Nat)(a:Addr):DictEntry:=dE P k t (.ref a)
noncomputable def cN(nm B:Str)(t ln ac a:Nat):Obj:=cO nm B t ln ac 3 (a-3) true (a-2) .none .none (.ref (a-1)) (t+3)
noncomputable def cV(nm B:Str)(t ln ac T a:Nat):Obj:=cO nm B t ln ac 3 (a-5) true (a-4) (.ref (a-3)) (.ref (a-2)) (.ref (a-1)) T
noncomputable def fN(s:Stmt)(nm B:Str)(G:Value)(a:Nat):Obj:=fO s nm B G (.ref (a-1))
noncomputable def cn(nm:Str):Nat->Nat->Nat->Nat->Obj:=cN nm nm
noncomputable def cv(nm:Str):Nat->Nat->Nat->Nat->Nat->Obj:=cV nm nm
noncomputable def fn(s:Stmt)(nm:Str):Value->Nat->Obj:=fN s nm nm
noncomputable def tu(a:Array Value):Obj:=⟨.type "tuple",none,.seq a 0,#[]⟩
noncomputable def dc(a:Array DictEntry)(n:Nat):Obj:=⟨.type "dict",none,.dict a n,#[]⟩
noncomputable def tO(nm:Str)(bs B:List Value)(ns:Addr)(sub:List Value)(x:Option Value)(t u:Nat):Obj:=⟨.type "type",none,.cls (cL nm bs B ns nm true sub),#[x,none,some (.str nm t),some (.str nm u),some (.builtin "object.__new__"),some (.bool true)]⟩
local macro_rules | `($n:num <<< $x) => `((nat_lit $n, $x $n))
local macro_rules | `($n:num >>> $x) => `((nat_lit $n, $x))
noncomputable def hK:Params->Frag:=λP=>2>>>⟨.none,none,.dict #[] 0,#[]⟩ ::
 3>>>dc #[dE P "__name__" 165 (.str "law_ownclocks_k34_whole_from_text" 837),dE P "__doc__" 166 (.none),dE P "__package__" 167 (.none),dE P "__loader__" 168 (.builtin "__main__.__loader__#opaque"),dE P "__spec__" 169 (.none),dR P "__annotations__" 170 6,dR P "__builtins__" 171 4,dE P "__file__" 173 (.str "/claim/cut.py" 172),dE P "__cached__" 174 (.none),dR P "_wall" 193 21,dR P "WorksError" 213 31,dR P "NoRow" 229 44,dR P "NoStation" 245 56,dR P "NoMeasure" 261 68,dE P "DOOR" 266 (.int (-1) 265),dR P "PARTS" 270 71,dR P "MOST_ROWS" 274 72,dR P "FORMS" 308 73,dE P "FIGURES" 310 (.str "0123456789" 309),dE P "MOST_FIGURES" 312 (.int 10 311),dR P "number_of" 318 97,dR P "check_place" 324 102,dR P "check_stations" 333 109,dR P "check_measures" 343 116,dR P "read_row" 349 121,dR P "read" 358 128,dR P "shown" 364 133,dR P "ways" 370 138,dR P "door" 376 143,dR P "door_events" 382 148,dR P "leaving" 388 153,dR P "sides" 396 160,dR P "Station" 446 191,dR P "Relay" 482 219,dR P "Sorter" 507 238,dR P "Thinner" 544 264,dR P "Joiner" 577 288,dR P "Sink" 593 300,dR P "station_of" 604 309,dR P "Own" 753 409,dR P "is_behind" 765 420,dR P "behind" 771 425,dR P "go_round" 780 432,dR P "taken_until" 786 437,dR P "settled" 792 442,dR P "at_doors" 804 449,dR P "arrival_of" 815 456,dR P "rank" 822 463,dR P "traced" 828 468,dR P "run" 836 475,dR P "_law_cell_at" 846 482,dR P "_law_mixed" 855 489,dR P "_law_station" 863 496,dR P "_law_works" 869 501,dR P "_law_more" 881 508,dR P "_law_text" 887 513,dR P "_law_lanes" 893 518,dR P "_law_joined" 899 523,dR P "_law_put" 905 528,dR P "_law_walked" 911 533,dR P "law" 925 540] 61 ::
 71>>>tu #[.str "station" 267,.str "belt" 268,.str "feed" 269] ::
 72>>>tu #[.int 8 271,.int 12 272,.int 60 273] ::
 73>>>dc #[dR P "station relay" 275 76,dR P "station sorter" 280 78,dR P "station thinner" 282 81,dR P "station joiner" 286 83,dR P "station sink" 288 85,dR P "belt" 290 88,dR P "feed" 294 92] 7 ::
 74>>>tu #[.int (-1000000000) 278,.int 1000000000 279] ::
 75>>>tu #[.ref 74] ::
 76>>>tu #[.int 0 276,.ref 75] ::
 77>>>tu #[] ::
 78>>>tu #[.int 0 281,.ref 77] ::
 79>>>tu #[.int 2 284,.int 9 285] ::
 80>>>tu #[.ref 79] ::
 81>>>tu #[.int 0 283,.ref 80] ::
 82>>>tu #[] ::
 83>>>tu #[.int 0 287,.ref 82] ::
 84>>>tu #[] ::
 85>>>tu #[.int 0 289,.ref 84] ::
 86>>>tu #[.int 1 292,.int 9 293] ::
 87>>>tu #[.ref 86] ::
 88>>>tu #[.int 2 291,.ref 87] ::
 89>>>tu #[.int 0 296,.int 50 297] ::
 90>>>tu #[.int (-1000000000) 299,.int 1000000000 300] ::
 91>>>tu #[.ref 89,.ref 90] ::
 92>>>tu #[.int 1 295,.ref 91] ::
 96<<<cn "number_of" 313 20 1 ::
 97<<<fn (top 13) "number_of" m0 ::
 101<<<cn "check_place" 319 28 2 ::
 102<<<fn (top 14) "check_place" m0 ::
 108<<<cv "check_stations" 325 35 2 331 ::
 109<<<fn (top 15) "check_stations" m0 ::
 115<<<cv "check_measures" 334 39 2 341 ::
 116<<<fn (top 16) "check_measures" m0 ::
 120<<<cn "read_row" 344 43 2 ::
 121<<<fn (top 17) "read_row" m0 ::
 127<<<cv "read" 350 55 1 356 ::
 128<<<fn (top 18) "read" m0 ::
 132<<<cn "shown" 359 60 1 ::
 133<<<fn (top 19) "shown" m0 ::
 137<<<cn "ways" 365 66 2 ::
 138<<<fn (top 20) "ways" m0 ::
 142<<<cn "door" 371 70 2 ::
 143<<<fn (top 21) "door" m0 ::
 147<<<cn "door_events" 377 73 2 ::
 148<<<fn (top 22) "door_events" m0 ::
 152<<<cn "leaving" 383 75 2 ::
 153<<<fn (top 23) "leaving" m0 ::
 159<<<cv "sides" 389 77 2 394 ::
 160<<<fn (top 24) "sides" m0 ::
 173<<<cV "__init__" "Station.__init__" 411 82 3 417 ::
 174<<<fN (L2.inClass (top 26) 0) "__init__" "Station.__init__" m1 ::
 180<<<cV "take" "Station.take" 420 86 3 426 ::
 181<<<fN (L2.inClass (top 26) 1) "take" "Station.take" m1 ::
 187<<<cV "on_first" "Station.on_first" 429 89 2 434 ::
 188<<<fN (L2.inClass (top 26) 2) "on_first" "Station.on_first" m1 ::
 190>>>dc #[dE P "__module__" 406 (.str "ownclocks.kinds" 397),dE P "__firstlineno__" 410 (.int 80 409),dR P "__init__" 419 174,dR P "take" 428 181,dR P "on_first" 436 188,dR P "__static_attributes__" 439 189,dR P "__dict__" 441 192,dR P "__weakref__" 443 193,dE P "__doc__" 444 (.none)] 4 ::
 191>>>tO "Station" [.type "object"] [.ref 191,.type "object"] 190 [.ref 219,.ref 238,.ref 264,.ref 288,.ref 300] (none) 399 407 ::
 192>>>⟨.type "getset_descriptor",none,.fields #[.str "__dict__" 440,.ref 191,.builtin "function.__dict__",.builtin "function.__dict__#set"],#[]⟩ ::
 193>>>⟨.type "getset_descriptor",none,.fields #[.str "__weakref__" 442,.ref 191,.builtin "ExceptionGroup.__weakref__",.none],#[]⟩ ::
 196>>>tu #[.ref 191] ::
 208<<<cV "__init__" "Relay.__init__" 459 93 4 466 ::
 209<<<fN (L2.inClass (top 27) 0) "__init__" "Relay.__init__" m1 ::
 215<<<cV "take" "Relay.take" 469 97 3 475 ::
 216<<<fN (L2.inClass (top 27) 1) "take" "Relay.take" m1 ::
 218>>>dc #[dE P "__module__" 454 (.str "ownclocks.kinds" 397),dE P "__firstlineno__" 458 (.int 91 457),dR P "__init__" 468 209,dR P "take" 477 216,dR P "__static_attributes__" 479 217,dE P "__doc__" 480 (.none)] 2 ::
 219>>>tO "Relay" [.ref 191] [.ref 219,.ref 191,.type "object"] 218 [] (some (.ref 196)) 447 455 ::
 222>>>tu #[.ref 191] ::
 234<<<cV "take" "Sorter.take" 495 101 3 501 ::
 235<<<fN (L2.inClass (top 28) 0) "take" "Sorter.take" m1 ::
 237>>>dc #[dE P "__module__" 490 (.str "ownclocks.kinds" 397),dE P "__firstlineno__" 494 (.int 99 493),dR P "take" 503 235,dR P "__static_attributes__" 504 236,dE P "__doc__" 505 (.none)] 2 ::
 238>>>tO "Sorter" [.ref 191] [.ref 238,.ref 191,.type "object"] 237 [] (some (.ref 222)) 483 491 ::
 241>>>tu #[.ref 191] ::
 253<<<cV "__init__" "Thinner.__init__" 520 107 4 527 ::
 254<<<fN (L2.inClass (top 29) 0) "__init__" "Thinner.__init__" m1 ::
 260<<<cV "take" "Thinner.take" 530 112 3 536 ::
 261<<<fN (L2.inClass (top 29) 1) "take" "Thinner.take" m1 ::
 263>>>dc #[dE P "__module__" 515 (.str "ownclocks.kinds" 397),dE P "__firstlineno__" 519 (.int 105 518),dR P "__init__" 529 254,dR P "take" 538 261,dR P "__static_attributes__" 541 262,dE P "__doc__" 542 (.none)] 2 ::
 264>>>tO "Thinner" [.ref 191] [.ref 264,.ref 191,.type "object"] 263 [] (some (.ref 241)) 508 516 ::
 267>>>tu #[.ref 191] ::
 279<<<cV "__init__" "Joiner.__init__" 557 119 3 564 ::
 280<<<fN (L2.inClass (top 30) 0) "__init__" "Joiner.__init__" m1 ::
 284<<<cN "take" "Joiner.take" 567 125 3 ::
 285<<<fN (L2.inClass (top 30) 1) "take" "Joiner.take" m1 ::
 287>>>dc #[dE P "__module__" 552 (.str "ownclocks.kinds" 397),dE P "__firstlineno__" 556 (.int 117 555),dR P "__init__" 566 280,dR P "take" 572 285,dR P "__static_attributes__" 574 286,dE P "__doc__" 575 (.none)] 2 ::
 288>>>tO "Joiner" [.ref 191] [.ref 288,.ref 191,.type "object"] 287 [] (some (.ref 267)) 545 553 ::
 291>>>tu #[.ref 191] ::
 299>>>dc #[dE P "__module__" 585 (.str "ownclocks.kinds" 397),dE P "__firstlineno__" 589 (.int 133 588),dR P "__static_attributes__" 590 298,dE P "__doc__" 591 (.none)] 2 ::
 300>>>tO "Sink" [.ref 191] [.ref 300,.ref 191,.type "object"] 299 [] (some (.ref 291)) 578 586 ::
 308<<<cv "station_of" 594 135 2 602 ::
 309<<<fn (top 32) "station_of" m1 ::
 320<<<cN "__init__" "Own.__init__" 619 151 2 ::
 321<<<fN (L2.inClass (top 34) 0) "__init__" "Own.__init__" m2 ::
 327<<<cV "taken" "Own.taken" 625 159 2 630 ::
 328<<<fN (L2.inClass (top 34) 1) "taken" "Own.taken" m2 ::
 346<<<cN "clock" "Own.clock" 649 168 2 ::
 347<<<fN (L2.inClass (top 34) 4) "clock" "Own.clock" m2 ::
 353<<<cV "step" "Own.step" 655 172 2 663 ::
 354<<<fN (L2.inClass (top 34) 5) "step" "Own.step" m2 ::
 360<<<cV "row" "Own.row" 666 182 3 672 ::
 361<<<fN (L2.inClass (top 34) 6) "row" "Own.row" m2 ::
 367<<<cV "earliest" "Own.earliest" 675 185 3 682 ::
 368<<<fN (L2.inClass (top 34) 7) "earliest" "Own.earliest" m2 ::
 372<<<cN "upcoming" "Own.upcoming" 685 191 2 ::
 373<<<fN (L2.inClass (top 34) 8) "upcoming" "Own.upcoming" m2 ::
 377<<<cN "may_take" "Own.may_take" 691 196 3 ::
 378<<<fN (L2.inClass (top 34) 9) "may_take" "Own.may_take" m2 ::
 384<<<cV "lets" "Own.lets" 697 199 3 704 ::
 385<<<fN (L2.inClass (top 34) 10) "lets" "Own.lets" m2 ::
 391<<<cV "take_event" "Own.take_event" 707 205 3 715 ::
 392<<<fN (L2.inClass (top 34) 11) "take_event" "Own.take_event" m2 ::
 398<<<cV "raise_promises" "Own.raise_promises" 718 213 2 726 ::
 399<<<fN (L2.inClass (top 34) 12) "raise_promises" "Own.raise_promises" m2 ::
 405<<<cV "raise_promise" "Own.raise_promise" 729 221 3 737 ::
 406<<<fN (L2.inClass (top 34) 13) "raise_promise" "Own.raise_promise" m2 ::
 408>>>dc #[dE P "__module__" 614 (.str "ownclocks.own" 605),dE P "__firstlineno__" 618 (.int 149 617),dR P "__init__" 624 321,dR P "taken" 632 328,dR P "waiting" 640 335,dR P "promise" 648 342,dR P "clock" 654 347,dR P "step" 665 354,dR P "row" 674 361,dR P "earliest" 684 368,dR P "upcoming" 690 373,dR P "may_take" 696 378,dR P "lets" 706 385,dR P "take_event" 717 392,dR P "raise_promises" 728 399,dR P "raise_promise" 739 406,dR P "__static_attributes__" 746 407,dR P "__dict__" 748 410,dR P "__weakref__" 750 411,dE P "__doc__" 751 (.none)] 4 ::
 409>>>tO "Own" [.type "object"] [.ref 409,.type "object"] 408 [] (none) 607 615 ::
 410>>>⟨.type "getset_descriptor",none,.fields #[.str "__dict__" 747,.ref 409,.builtin "function.__dict__",.builtin "function.__dict__#set"],#[]⟩ ::
 411>>>⟨.type "getset_descriptor",none,.fields #[.str "__weakref__" 749,.ref 409,.builtin "ExceptionGroup.__weakref__",.none],#[]⟩ ::
 419<<<cv "is_behind" 756 229 3 763 ::
 420<<<fn (top 36) "is_behind" m3 ::
 424<<<cn "behind" 766 232 3 ::
 425<<<fn (top 37) "behind" m3 ::
 431<<<cv "go_round" 772 234 2 778 ::
 432<<<fn (top 38) "go_round" m3 ::
 436<<<cn "taken_until" 781 237 3 ::
 437<<<fn (top 39) "taken_until" m3 ::
 441<<<cn "settled" 787 239 2 ::
 442<<<fn (top 40) "settled" m3 ::
 448<<<cv "at_doors" 795 247 1 802 ::
 449<<<fn (top 42) "at_doors" m4 ::
 455<<<cv "arrival_of" 805 253 4 813 ::
 456<<<fn (top 43) "arrival_of" m4 ::
 462<<<cv "rank" 816 256 1 820 ::
 463<<<fn (top 44) "rank" m4 ::
 467<<<cn "traced" 823 258 2 ::
 468<<<fn (top 45) "traced" m4 ::
 474<<<cv "run" 829 276 2 834 ::
 475<<<fn (top 46) "run" m4 ::
 481<<<cv "_law_cell_at" 839 279 2 844 ::
 482<<<fn (top 48) "_law_cell_at" m5 ::
 488<<<cv "_law_mixed" 847 283 2 853 ::
 489<<<fn (top 49) "_law_mixed" m5 ::
 495<<<cv "_law_station" 856 287 1 861 ::
 496<<<fn (top 50) "_law_station" m5 ::
 500<<<cn "_law_works" 864 294 1 ::
 501<<<fn (top 51) "_law_works" m5 ::
 507<<<cv "_law_more" 870 307 2 879 ::
 508<<<fn (top 52) "_law_more" m5 ::
 512<<<cn "_law_text" 882 314 1 ::
 513<<<fn (top 53) "_law_text" m5 ::
 517<<<cn "_law_lanes" 888 319 2 ::
 518<<<fn (top 54) "_law_lanes" m5 ::
 522<<<cn "_law_joined" 894 322 2 ::
 523<<<fn (top 55) "_law_joined" m5 ::
 527<<<cn "_law_put" 900 333 4 ::
 528<<<fn (top 56) "_law_put" m5 ::
 532<<<cn "_law_walked" 906 349 2 ::
 533<<<fn (top 57) "_law_walked" m5 ::
 539<<<cv "law" 912 365 1 923 ::
 540<<<fn (top 58) "law" m5::[]
noncomputable def hA:List Addr:=[2,3,71,72,73,74,75,76,77,78,79,80,81,82,83,84,85,86,87,88,89,90,91,92,96,97,101,102,108,109,115,116,120,121,127,128,132,133,137,138,142,143,147,148,152,153,159,160,173,174,180,181,187,188,190,191,192,193,196,208,209,215,216,218,219,222,234,235,237,238,241,253,254,260,261,263,264,267,279,280,284,285,287,288,291,299,300,308,309,320,321,327,328,346,347,353,354,360,361,367,368,372,373,377,378,384,385,391,392,398,399,405,406,408,409,410,411,419,420,424,425,431,432,436,437,441,442,448,449,455,456,462,463,467,468,474,475,481,482,488,489,495,496,500,501,507,508,512,513,517,518,522,523,527,528,532,533,539,540]
noncomputable def Mg:List Addr:=[140,370]
noncomputable def hL:List Str:="_wall"::"WorksError"::"NoRow"::"NoStation"::"NoMeasure"::"DOOR"::"PARTS"::"MOST_ROWS"::"FORMS"::"FIGURES"::"MOST_FIGURES"::"number_of"::"check_place"::"check_stations"::"check_measures"::"read_row"::"read"::"shown"::"ways"::"door"::"door_events"::"leaving"::"sides"::"Station"::"Relay"::"Sorter"::"Thinner"::"Joiner"::"Sink"::"station_of"::"Own"::"is_behind"::"behind"::"go_round"::"taken_until"::"settled"::"at_doors"::"arrival_of"::"rank"::"traced"::"run"::"_law_cell_at"::"_law_mixed"::"_law_station"::"_law_works"::"_law_more"::"_law_text"::"_law_lanes"::"_law_joined"::"_law_put"::"_law_walked"::[]
noncomputable def hQ:Program:={ pW with main:={ pW.main with body:=[top 58] } }
noncomputable def hX(s:Shared):Bool:=recOk [] s
noncomputable def Sh(s:Shared):List (Option Obj)×List (Option Obj):=(hA.map s.heap.get?,Mg.map s.heap.get?)
noncomputable def Si(w:World):List (Option Obj)×List (Option Obj):=((hK w.params).map λp=>some p.2,Mg.map λ_=>some (tabObj #[]))
noncomputable def Fb(w:World)(s:Shared):=(staticsOk (importedModules pW.main.body) (boot_heap w.params) s.heap&&namesBound pW s.heap&&gensDone s&&laidKept (boot_heap w.params) s.heap,openSeen hQ hL (importedModules pW.main.body) hX true s,Sh s)
noncomputable def hR(w:World)(os:OsState):Prop:=(segRunT treeTable pW w 11 (some (.ref 6)) 1 4349 (hS w os) (piecesOf hB Ll hC ⟨0,0,0,0⟩ hF)).map (λr=>(r.1,r.2.2.1,r.2.2.2,Fb w r.2.1.abs))=some (.next,hC,⟨365,0,376,81⟩,true,openGood hQ hL,Si w)
theorem Sj(w:World)(os:OsState):hR (w.withFollow "special-get-raises" false) os:=by
 unfold hR Fb
 rw[Fast.te10110043849684766642,Fast.te14364793385576792824,Fast.te4187177175401517315,Fast.te5923862056798008813]
 kernel_rfl
theorem Sl(w:World)(os:OsState):hR (w.withFollow "special-get-raises" true) os:=by
 unfold hR Fb
 rw[Fast.te10110043849684766642,Fast.te14364793385576792824,Fast.te4187177175401517315,Fast.te5923862056798008813]
 kernel_rfl
theorem yl(w:World)(os:OsState):hR w os:=by
 have e:=World.withFollow_self w "special-get-raises"
 generalize w.params.followText "special-get-raises"=b at e
 cases b
 ·exact e▸Sj w os
 ·exact e▸Sl w os
theorem tz{p q:Program}{Xt:Shared->Bool}{Yf:Shared->α}{Ya:World->α}{N:Nat}{g0:Bool}{H₀:Params->Heap}{G:Array GenState}{U:Drawn}{Y m₀:Nat}{ann:Option Value}{M:Nat}
  (O:∀w:World,(fencedOpening treeTable p w N).map (λs=>(s.heap,s.gens,s.drawn,s.toks))=some (H₀ w.params,G,U,Y))
  (size:∀w:World,((H₀ w.params).isNs mainGlobals&&G.size==0,(H₀ w.params).objs.size,(H₀ w.params).nsMap mainGlobals "__annotations__")=(true,m₀,ann)) (le:Nat.ble M N=true)
  (run:∀(w:World)(os:OsState),∃B,topRun treeTable p w m₀ ann M ⟨H₀ w.params,G,U,Y,os⟩ (topStub p)=some B /\
   (staticsOk (importedModules p.main.body) (H₀ w.params) B.heap&&namesBound p B.heap&&gensDone B&&laidKept (H₀ w.params) B.heap)=true/\openSeen q loose (importedModules p.main.body) Xt g0 B=openGood q loose/\Yf B=Ya w):LeftO p q loose Xt Yf Ya N g0:=λw=>by
 obtain⟨⟨h,gs,d,k,os⟩,e,e'⟩:=y6.mp (O w)
 obtain⟨rfl,rfl,rfl,rfl⟩:h=H₀ w.params/\gs=G/\d=U/\k=Y:=by simpa using e'
 obtain⟨z1,z2,z3⟩:_/\_/\_:=by simpa only [Prod.mk.injEq]using size w
 obtain⟨B,hr,l1,l2,l3⟩:=run w os
 have r:=topRun_mono (N-M) _ _ _ _ hr
 rw[show M+(N-M)=N by have:=xJ le;lia]at r
 have t:topFrom treeTable p w N ⟨H₀ w.params,gs,d,k,os⟩=some B:=by
  unfold topFrom
  dsimp only
  rw[z1,z2,z3,r]
  show(match staticsOk (importedModules p.main.body) (H₀ w.params) B.heap&&namesBound p B.heap&&gensDone B&&laidKept (H₀ w.params) B.heap with|true=>_|false=>_)=_
  rw[l1]
 unfold openEnds
 rw[e]
 show(topFrom treeTable p w N _).map _=_
 rw[t]
 exact congrArg some (Prod.ext l2 l3)
theorem Lm:LeftO pW hQ hL hX Sh Si 8822:=by
 refine tz (M:=12+(1+(4349+2))) (boot_open (by kernel_rfl) rfl (λs=>rfl)) (m₀:=11) (ann:=some (.ref 6)) (λw=>by kernel_rfl) rfl λw os=>?_
 obtain⟨⟨f,s',c,q⟩,e,B⟩:=y6.mp (yl w os)
 simp only [Prod.mk.injEq]at B
 obtain⟨rfl,rfl,rfl,l⟩:=B
 have k:=piece_app (rest:=[]) (segRun_of e) (piece_nil (yj w s' _))
 rw[zQ]at k
 have k2:=go_top (yg w os) (piece_block (segRun_of (uU w os)) k)
 unfold Fb at l
 simp only [Prod.mk.injEq]at l
 exact⟨_,k2,l.1,l.2.1,l.2.2⟩
theorem IJ{q:Program}{XP:(Str->Option Value)->Heap->Prop}{r:RowW}{d:DefRec}{B:List (Str×PySem.Expr)}{run:Value->List Value->Sem Value}{K:Params->Frag}{ts:List Addr}(e:∀P,as=(K P).map (·.1))
  (h:WalkO q loose XP (λw h=>InK K w h/\∀P∈ts,h.get? P=some (tabObj #[])) r d B run):WalkX q loose XP (λs=>(as.map s.heap.get?,ts.map s.heap.get?)) (λw=>((K w.params).map λp=>some p.2,ts.map λ_=>some (tabObj #[]))) r d B run:=by
 intro w s₀ s₁ mg mb G y fa o pm cd doc dV kV ho hd ER hD Km hg args O Y_ L U Y SQ P5 DM
 exact h w s₀ s₁ mg mb G ⟨InK.keeps w _ _ (InK.of e w s₀ (congrArg Prod.fst y)) L.keeps,λP hP=>L.keeps _ _ (List.map_inj_left.mp (congrArg Prod.snd y) P hP)⟩ fa o pm cd doc dV kV ho hd ER hD Km hg args O Y_ U Y SQ P5 DM
end Oc
namespace Oc
open PySem PySem.W PyProof.Rows PySem.Calls L2
local macro_rules | `(tactic| injections) => `(tactic| (intro _ _ _ _ _ _ us hl; first | (obtain ⟨_, rfl⟩ := MV hl; rfl) | (obtain ⟨_, _, rfl⟩ := MW hl; rfl) | (obtain ⟨_, _, _, rfl⟩ := MX hl; rfl) | (obtain ⟨_, _, _, _, rfl⟩ := Qw hl; rfl)))
local macro_rules | `(tactic| subst_eqs) => `(tactic| (refine' JJ.mk ?l ?c ?k; (case l => k_is); (case c => k_is); (case k => k_is)))
local macro_rules | `(tactic| subst_vars) => `(tactic| repeat' first | rfl | exact ⟨_, rfl⟩ | k_is | constructor)
def Vk:List (Str×Nat):=[("station relay",76),("station sorter",78),("station thinner",81),("station joiner",83),("station sink",85),("belt",88),("feed",92)]
theorem Ob(X:(hK w.params).In h)(G:h.Ns mainGlobals mg)(O:mg "law"=some (.ref fa)):∃fd:FuncData,(∀(s:Shared)(v:Value),BindsTo s fd ⟨[v],[]⟩ [("script",v)])/\∀base:Heap,(hK w.params).In base->base.Ns mainGlobals mg->Tab (hK w.params) mg base 142 140->Tab (hK w.params) mg base 372 370->mu PySem.Challenge.rw_ownclocks_k34_whole_from_text.prog w (hK w.params) mg base Aa 8 fa fd ["script"] (D7 140 370 (hK w.params)):=by
 k_fill
 have e:some (Value.ref fa)=some (.ref 540):=O.symm.trans (mg_of X G (by k_is))
 cases e
 have L:=sM (K:=(hK w.params)) (x:="law") (qual:="law") (st:=top 58) (f:=540) (by k_is) (by k_is) (by k_is)
 have T:Txt (hK w.params) mg:=by constructor <;>exact mg_none_of X G (by k_is)
 refine lG L ⟨λs v=>.of_eq rfl,λbase _ _ tb tu=>?_⟩
 have V:Ev PySem.Challenge.rw_ownclocks_k34_whole_from_text.prog w (hK w.params) mg base h:=⟨X,G⟩
 have c:CY (hK w.params) ⟨219,238,264,288,300⟩:=by subst_vars
 have cO:Fx (hK w.params) 409:=by subst_vars
 have B:=V.g (y:="DOOR")
 have U:=V.c (C:=191) λF _=>m7 F T
 have TK:=qq (cs:=⟨219,238,264,288,300⟩) (V.m λF _=>vx F c.rl (V.m λF _=>mC F T)) (V.m λF _=>xn F T c.so) (V.m λF _=>vy F c.th (V.m λF _=>mC F T)) (V.m λF _=>xj F T c.jn (V.m λF _=>mC F T)) (V.m λF _=>wI F)
 have GO:=V.f λF _=>yt F c (V.f λF _=>aT F (V.f λF _=>aV F T B) (V.f λF _=>t_ F T)) (V.k λF _=>xR F V.g U) (V.k λF _=>m7 F T) (V.k λF _=>xX F V.g U) (V.k λF _=>we F V.g U) (V.k λF _=>m7 F T)
 have GE:=V.f λF _=>yr F B (V.f λF e=>aW F e tb T)
 have MO:=V.k (y:="Own") (C:=409) λF _=>x_ F T cO GO GE
 have O1:=V.m (C:=409) λF _=>tK (cs:=⟨219,238,264,288,300⟩) F T cO
 have Y:=V.m (C:=409) λF _=>u4 (cs:=⟨219,238,264,288,300⟩) F B cO
 have O3:=V.m (C:=409) λF _=>xQ F T B cO Y
 have O4:=V.m (C:=409) λF _=>xk F T cO c O3
 have O5:=V.m (C:=409) λF _=>u8 F (V.m λF e=>wf F e tu T cO c Y) (V.m λF _=>xw F T B cO c (V.m λF _=>uL F T cO)) (V.m λF _=>yw F T cO c Y TK) (V.m λF _=>w_ F cO c O4 (V.m λF _=>yk F cO))
 have R:=V.l (a:=463)
 have G1:=V.f λF _=>bc F (V.f λF _=>yf F T c GO (V.f λF _=>xb F T GE) (V.f λF _=>wP F) V.g (λA hA=>tU (A:=A.in1) R (by k_is) rfl rfl rfl rfl (by decide) hA rfl (λ_ _=>.of_eq rfl)) TK)
 have G2:=V.f λF _=>xx F T MO (V.f λF _=>wU F T (V.f λF _=>yh F O4)) (V.f λF _=>vw F T O5) (V.f λF _=>yi F O1)
 have G3:=V.f λF _=>u_ F T
 have G4:=V.f λF _=>wJ F
 have G5:=V.f λF _=>xq F T G3 G4 (V.f λF _=>yd F)
 have G6:=V.f λF _=>tS F T G4
 have G7:=V.f λF _=>w6 F T
 have G8:=V.f λF _=>wN F T (V.f λF _=>ur F T (V.f λF _=>yb F T) (V.f λF _=>v_ F T))
 have G9:=V.f λF _=>rZ (aP:=71) F T V.g tG
 have lF:=V.l (a:=73)
 have Za:=V.f λF _=>uZ (kvs:=Vk.map λp=>(.inr p.1,.ref p.2)) F T ⟨⟨76,75,[.ref 74],by kernel_rfl,tG,tG,(.cons ⟨74,rfl,tG⟩ .nil)⟩,⟨78,77,[],by kernel_rfl,tG,tG,.nil⟩,⟨81,80,[.ref 79],by kernel_rfl,tG,tG,(.cons ⟨79,rfl,tG⟩ .nil)⟩,⟨83,82,[],by kernel_rfl,tG,tG,.nil⟩,⟨85,84,[],by kernel_rfl,tG,tG,.nil⟩,⟨88,87,[.ref 86],by kernel_rfl,tG,tG,(.cons ⟨86,rfl,tG⟩ .nil)⟩,⟨92,91,[.ref 89,.ref 90],by kernel_rfl,tG,tG,(.cons ⟨89,rfl,tG⟩ (.cons ⟨90,rfl,tG⟩ .nil))⟩⟩ (V.f λF _=>x5 (aP:=71) (aF:=73) F T V.g tG ⟨_,by k_is,by rfl,by rfl⟩ V.g (λh kx=>sh (ws:=Vk.map λp=>(p.1,.ref p.2)) (kx _ _ lF) (.cons (.cons (.cons (.cons (.cons (.cons (.cons .nil))))))) (ks:=["station relay","station sorter","station thinner","station joiner","station sink","belt","feed"]) (by decide +kernel) rfl) (su _) rfl (V.f λF _=>wY F T V.g V.g) (V.f λF _=>wu (aM:=72) F T V.g tG) (V.f λF _=>xf F T) (V.f λF _=>wZ F T))
 exact wQ L T (by kit_is) (by kit_is) G5 G6 G3 G7 Za G9 G8 G1 G2
theorem walk{l:PySem.W.OpenLaw}{q:Program}{XP:(Str->Option Value)->Heap->Prop}{YP:World->Heap->Prop}{d:DefRec}{K:Params->PySem.W.Frag}{ts:List Addr}{cD B cU O:Addr}(hn:l.most=some 63)(P4:d.params.defaults=[])
  (hY:∀(w:World)(h:Heap),YP w h->(K w.params).In h) (Zb:∀(w:World)(h:Heap),YP w h->∀P∈ts,h.get? P=some (PySem.W.tabObj #[]))
  (Sn:B∈ts/\∀w:World,PySem.W.codeHdIn (K w.params) cD B=true/\(K w.params).lookup B=none) (Sr:O∈ts/\∀w:World,PySem.W.codeHdIn (K w.params) cU O=true/\(K w.params).lookup O=none) (ne:B≠O)
  (F:∀(w:World)(mg:Str->Option Value)(fa:Addr)(h:Heap),(K w.params).In h->h.Ns mainGlobals mg->mg d.name=some (.ref fa) ->
   ∃fd:FuncData,(∀(s:Shared)(u:Value),BindsTo s fd ⟨[u],[]⟩ [("script",u)])/\∀base:Heap,(K w.params).In base->base.Ns mainGlobals mg->Tab (K w.params) mg base cD B->Tab (K w.params) mg base cU O->mu l.prog w (K w.params) mg base Aa 8 fa fd ["script"] (D7 B O (K w.params))) :
  PySem.W.WalkO q loose XP YP l.row.toRowW d [] (λf vs=>PySem.call f vs):=by
 refine Att.DL hn P4 λw s₀ s₁ mg mb fa o pm cd doc a vs ns G Y ho hd ER Km Kn hints U hg=>?_
 have KX:=hY w _ Y
 obtain⟨fd,hb,hF⟩:=F w mg fa _ KX G.T.g Km
 have mk:∀{c P:Addr},P∈ts->PySem.W.codeHdIn (K w.params) c P=true->(K w.params).lookup P=none->Tab (K w.params) mg s₁.heap c P/\s₁.heap.get? P=some (PySem.W.tabObj #[])/\(K w.params).lookup P=none:=fun {c P} h1 h2 h3=>by
  have hP:=Zb w _ Y P h1
  obtain⟨bm,ob,b1,b2,b3,b4,b5,b6⟩:=G.T.bmain
  have Zc:bm≠P:=λq=>by rw[q,hP]at b3;cases b3;cases b4
  have Zd:bm≠mainGlobals:=λq=>by
   obtain⟨o,es,ep,e,hd,_⟩:=G.T.g
   rw[q,e]at b3;cases b3;rw[hd]at b6;cases b6
  exact⟨⟨PySem.W.codeHd_of_K KX h2,⟨bm,ob,b1,b2,Zd,Zc,b3,b4,b5,b6⟩⟩,hP,h3⟩
 refine L2.Fl (k:=8) (x:="script") (CX:=Aa) (sp:=D7 B O (K w.params)) (tabs:=[(cD,B),(cU,O)]) KX G.T.g G.T.b G.T.builtins G.T.nolimit hg Kn hints (yE U (by decide)) ⟨rfl,by decide,by decide⟩ (λt ht=>?_) (λbase kb nb Oz=>hF base kb nb (Oz _ zH) (Oz _ (zL _ zH))) hb (λH hO hS=>?_) λH e s' z=>z
 ·rcases zO.mp ht with e|e
  ·rw[e];exact mk Sn.1 (Sn.2 w).1 (Sn.2 w).2
  ·rw[zF.mp e];exact mk Sr.1 (Sr.2 w).1 (Sr.2 w).2
 ·have tb:∀P∈[B,O],H P=some (.AB #[]):=λP hP=>by
   rcases hO P with ⟨_,h⟩|⟨h,_⟩
   ·exact h
   ·exact absurd hP h
  exact⟨a,ns,rfl,hS,U,.inl (tb B zH),.inl (tb O (zL _ zH)),ne,λ_=>rfl⟩
end Oc
open PySem PySem.W PySem.W.X PyProof.Rows
set_option maxRecDepth 100000 in
set_option maxHeartbeats 0 in
theorem PySem.Challenge.cw_ownclocks_k34_whole_from_text_holds : PySem.Challenge.rw_ownclocks_k34_whole_from_text.Holds := by
 refine holds_law (by kernel_rfl) λSs=>?_
 refine holds_openX (q:=Oc.hQ) (loose:=Oc.hL) (Xt:=Oc.hX) (XP:=λ_ _=>True) (Yf:=Oc.Sh) (Ya:=Oc.Si) (N:=8822) Oc.Lm (λ_ _=>trivial) (λ_ _ _ h _=>h) (by rfl) (by rfl) (by rfl) (λs e=>recFacts_of e) (by rfl) Ss (by decide +kernel) ⟨rfl,rfl,rfl,rfl,rfl,by decide +kernel⟩ ?hw ?hc
 case hw=>w_witness2
 refine Oc.IJ (K:=Oc.hK) (as:=Oc.hA) (ts:=Oc.Mg) (λ_=>rfl) ?_
 refine Oc.walk (l:=PySem.Challenge.rw_ownclocks_k34_whole_from_text) rfl rfl (λw h Y=>Y.1) (λw h Y=>Y.2) ⟨by decide,λw=>⟨by kernel_rfl,by kernel_rfl⟩⟩ ⟨by decide,λw=>⟨by kernel_rfl,by kernel_rfl⟩⟩ (by decide) λw mg fa h X G e=>Oc.Ob X G e
#print axioms PySem.Challenge.cw_ownclocks_k34_whole_from_text_holds
