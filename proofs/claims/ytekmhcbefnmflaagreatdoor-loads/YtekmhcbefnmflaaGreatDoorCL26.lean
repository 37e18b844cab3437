import Derived.Test.YtekmhcbefnmflaaGreatDoorCL25
namespace Go.Proofs.YtekmhcbefnmflaaGreatDoor
open Go.RowKit Tryz
open Bool renaming false_and->cI,false->eE,true->eJ
open List renaming replicate->ab,getElem_mem->an,getElem_set->ao,getElem_append_right->ar,drop_eq_getElem_cons->cb,mem_or_eq_of_mem_set->cj,length_cons->cw,drop_length->cx,ext_getElem->cy,length_set->cD,getElem_replicate->cG,getElem_cons_zero->cH,map_cons->cN,getElem_of_mem->cQ,length_append->cR,not_mem_nil->cW,length->ee
open Nat renaming le_refl->bh,sub_self->bt,le_trans->b5,zero_le->b9
open Decidable renaming decide->eS
open Ending renaming returned->fR
open Obj renaming cells->eR
open Option renaming none->ez,some->eC
open Value renaming bool->fS,agg->fW,string->eI,slice->eK
open _root_.Go renaming Calls->fL,Value->eM,maxLen->fX,info_parts->lO
set_option linter.all false
set_option maxRecDepth 100000
set_option maxHeartbeats 2000000
theorem eu.cells{w:tW}{b:Nat}{o:dX}(h:eu w b o):w.cell? ⟨b,2,ez⟩=eC (vI o.slots)/\w.cell? ⟨b,3,ez⟩=eC (fS o.jumps)/\w.cell? ⟨b,4,ez⟩=eC (fS o.ends)/\w.cell? ⟨b,5,ez⟩=eC (vI o.aJ):=by obtain⟨o1,n1,c1,f6,c6,k7,c7,k8,c8,f9,c9,hb,_⟩:=h.ex;exact⟨hb.cell 2,hb.cell 3,hb.cell 4,hb.cell 5⟩
theorem Bc(w:tW)(b n:Nat)(hz:∀w',aa ah w w'->w'.cell? ⟨b,2,ez⟩=eC (vI n))(d s num high jump:Int)(label name:tBA)(slot:Nat)(hs:slot<=1000000)(ho:n<=10)(hj:-32768<=jump/\jump<=32767):fL prog 235 #[fW #[vP b,vB d,vB s,.int .i16 jump,vJ num,vJ high,eI label,eI name],vI slot] w λe w'=>e=fR (vI ((slot:Int)+n+jump))/\aa ah w w':=by have z2:=hz _ (aA.alloc (eR #[vP b,vB d,vB s,.int .i16 jump,vJ num,vJ high,eI label,eI name] 141));clear hz;go_in;go_wp2_with fail;go_quiet (fail);go_wp2_with fail;go_ret;exact⟨rfl,aq.drewN _⟩
theorem Mh(w:tW)(b:Nat)(o:dX)(hA:eu w b o)(d s num high jump:Int)(label name:tBA)(slot:Nat)(hs:slot<=1000000)(ho:o.slots<=10)(hj:-32768<=jump/\jump<=32767):fL prog 235 #[fW #[vP b,vB d,vB s,.int .i16 jump,vJ num,vJ high,eI label,eI name],vI slot] w λe w'=>e=fR (vI ((slot:Int)+o.slots+jump))/\aa ah w w' :=
 Bc w b o.slots (λ_ m=>(hA.ae m).cells.1) d s num high jump label name slot hs ho hj
def kI(bs:tLN)(l:List PI):tLV:=l.flatMap (λx=>(x.ins bs).di)
theorem lT{w:tW}{v:eM}{bs:tLN}(hO:aT 0 w v bs ax)(x:PI)(hk:x.k<88):eu w (bs[x.k]?.getD 0) x.o:=by
 have hkt:x.k<ee ax:=by rw[eZ];exact hk
 have hkb:x.k<ee bs:=by rw[hO.len];exact hkt
 have h:=hO.at' x.k hkb hkt;have e1:bs[x.k]?.getD 0=bs[x.k]:=by simp[hkb]
 have e2:x.o=ax[x.k]:=by simp[PI.o,hkt]
 rw[e1,e2];exact h
theorem oK{w:tW}{bs:tLN}{l:List PI}{v:eM}{n:Nat}(h:Sl w 141 8 v n (kI bs l))(hn:n=ee l){o:Option Addr}{c:Nat}(hv:v=eK o n c)(k:Nat)(hk:k<ee l):∃g,o=eC ⟨g,0,ez⟩/\g<w.heap.size/\w.cell? ⟨g,k*8,ez⟩=eC (vP (bs[l[k].k]?.getD 0))/\w.cell? ⟨g,k*8+1,ez⟩=eC (vB l[k].d)/\w.cell? ⟨g,k*8+2,ez⟩=eC (vB l[k].s) /\ w.cell? ⟨g,k*8+3,ez⟩=eC (.int .i16 l[k].jump)/\w.cell? ⟨g,k*8+4,ez⟩=eC (vJ l[k].num)/\w.cell? ⟨g,k*8+5,ez⟩=eC (vJ l[k].high)/\w.cell? ⟨g,k*8+6,ez⟩=eC (eI ByteArray.empty)/\w.cell? ⟨g,k*8+7,ez⟩=eC (eI (T l[k].name)):=by
 obtain⟨o',c',hv',h2⟩:=h.view;rw[hv]at hv';cases hv';obtain⟨g,cs,rfl,hb,ht,_⟩:=h2 (by omega);refine⟨g,rfl,hb.lt,?_,?_,?_,?_,?_,?_,?_,?_⟩
 all_goals rw[aX hb ht _ (by omega)]
 ·exact(flat_get (λx:PI=>(x.ins bs).di) 8 (λ_=>rfl) l k 0 hk (by omega)).trans rfl
 ·exact(flat_get (λx:PI=>(x.ins bs).di) 8 (λ_=>rfl) l k 1 hk (by omega)).trans rfl
 ·exact(flat_get (λx:PI=>(x.ins bs).di) 8 (λ_=>rfl) l k 2 hk (by omega)).trans rfl
 ·exact(flat_get (λx:PI=>(x.ins bs).di) 8 (λ_=>rfl) l k 3 hk (by omega)).trans rfl
 ·exact(flat_get (λx:PI=>(x.ins bs).di) 8 (λ_=>rfl) l k 4 hk (by omega)).trans rfl
 ·exact(flat_get (λx:PI=>(x.ins bs).di) 8 (λ_=>rfl) l k 5 hk (by omega)).trans rfl
 ·exact(flat_get (λx:PI=>(x.ins bs).di) 8 (λ_=>rfl) l k 6 hk (by omega)).trans rfl
 ·exact(flat_get (λx:PI=>(x.ins bs).di) 8 (λ_=>rfl) l k 7 hk (by omega)).trans rfl
structure kz(x:PI):Prop where
 k:x.k<88
 d:x.d<=15
 s:x.s<=15
 j:-32768<=x.jump/\x.jump<=32767
 n:-2147483648<=x.num/\x.num<=2147483647
 h:-2147483648<=x.high/\x.high<=2147483647
theorem kz.slots{x:PI}(h:kz x):x.o.slots=1\/x.o.slots=2:=by
 have hkt:x.k<ee ax:=by rw[eZ];exact h.k
 have e2:x.o=ax[x.k]:=by simp[PI.o,hkt]
 rw[e2];exact Bb _ (an hkt)
def iJ(l:List PI)(k:Nat):Nat:=((l.take k).map (·.o.slots)).sum
theorem vV(l:List PI)(k:Nat)(h:k<ee l):iJ l (k+1)=iJ l k+l[k].o.slots:=by unfold iJ;rw[List.take_succ_eq_append_getElem h,List.map_append,List.sum_append];simp
theorem BK(l:List PI)(hl:∀x∈l,kz x):∀k,iJ l k<=2*ee l:=by
 have h:∀l:List PI,(∀x∈l,kz x)->(l.map (·.o.slots)).sum<=2*ee l:=by
  intro l;induction l with
  |nil=>intro _;simp
  |cons x l ih =>intro hl;have h1:=(hl x (by simp)).slots;have h2:=ih (λy hy=>hl y (List.mem_cons_of_mem _ hy));simp only[cN,List.sum_cons,cw];omega
 intro k;have h1:=h (l.take k) (λx hx=>hl x (List.mem_of_mem_take hx));have h2:ee (l.take k)<=ee l:=by simp;omega
 unfold iJ;omega
def De(l:List Bool):tLV:=l.map Value.bool
theorem VV(w:tW)(tv:eM)(bs:tLN)(hO:aT 0 w tv bs ax)(code:List PI)(hok:∀x∈code,kz x)(hl:ee code<=10000)(vC:eM)(hC:Sl w 141 8 vC (ee code) (kI bs code))(st:List Bool)(hst:ee st<=10000)(vS:eM)(hS:Sl w 4 1 vS (ee st) (De st)):fL prog 340 #[vC,vS] w λe w'=>e=fR (fS (leadP st 0 code))/\aa ah w w':=by
 obtain⟨oC,cC,rfl,_⟩:=hC.view;obtain⟨oS,cS,rfl,_⟩:=hS.view;have HO:=ai hO;have HC:=ai hC;have HS:=ai hS;have Eb:=ai hok;have Jz:af (∀k,iJ code k<=20000):=λk=>by have:=BK code Eb.o k;omega
 clear hO hC hS hok;go_in;go_wp2_with fail;go_loopw [5,11] (λsv i wl=>∃k:Nat,k<=ee code/\i=vI k/\sv=vI (iJ code k)/\leadP st (iJ code k) (code.drop k)=leadP st 0 code/\aa ah w wl) (λ_ i _=>ee code-(intOf i).toNat)
 case atStart=>exact⟨0,b9 _,rfl,rfl,rfl,aA⟩
 case round =>
  obtain⟨k,hk,rfl,rfl,hn,hM⟩:=hrel;have HN:af _:=hn;have HM:=ai hM;clear hn hM;by_cases hlt:k<ee code
  ·have HD:af (leadP st (iJ code k) (code.drop k)=((if code[k].o.jumps then eS (0<=code[k].target (iJ code k))&&(st[(code[k].target (iJ code k)).toNat]?.getD eE)else eJ)&&leadP st (iJ code k+code[k].o.slots) (code.drop (k+1)))):=by rw[af,cb hlt];rfl
   have PT:=ai (vV code k hlt);obtain⟨g,rfl,hg,q0,q1,q2,q3,q4,q5,q6,q7⟩:=oK (HC.o.ae HM.o (λ_ _=>id)) rfl rfl k hlt;have hx:=Eb.o code[k] (an hlt);have hA:=lT (HO.o.ae HM.o) code[k] hx.k;have hsum:=Jz.o k;have hsl:=hx.slots;have hj:=hx.j;have ht:code[k].target (iJ code k)=(iJ code k:Int)+code[k].o.slots+code[k].jump:=rfl;rw[ht]at HD;clear hx ht;generalize code[k].o=o at *;generalize code[k].jump=jmp at *;generalize code[k].d=xd at *;generalize code[k].s=xs at *;generalize code[k].num=xn at *;generalize code[k].high=xh at *;generalize code[k].name=xm at *;generalize bs[code[k].k]?.getD 0=b at *;have hA1:=hA.ae (aA.alloc (eR #[vP b,vB xd,vB xs,.int .i16 jmp,vJ xn,vJ xh,eI ByteArray.empty,eI (T xm)] 141));obtain⟨y2,y3,_,_⟩:=hA1.cells;have HA1:=ai hA1;have dB:=ai (HM.o.alloc (eR #[vP b,vB xd,vB xs,.int .i16 jmp,vJ xn,vJ xh,eI ByteArray.empty,eI (T xm)] 141));clear hA hA1;generalize iJ code k=sk at *;have HTg:af (fL prog 235 #[fW #[vP b,vB xd,vB xs,.int .i16 jmp,vJ xn,vJ xh,eI ByteArray.empty,eI (T xm)],vI sk] (wr.alloc (eR #[vP b,vB xd,vB xs,.int .i16 jmp,vJ xn,vJ xh,eI ByteArray.empty,eI (T xm)] 141)) λe w'=>e=fR (vI ((sk:Int)+o.slots+jmp))/\aa ah (wr.alloc (eR #[vP b,vB xd,vB xs,.int .i16 jmp,vJ xn,vJ xh,eI ByteArray.empty,eI (T xm)] 141)) w'):=Mh _ b o HA1.o xd xs xn xh jmp _ _ sk (by omega) (by omega) hj;have hBk:=ak.new wr #[vP b,vB xd,vB xs,.int .i16 jmp,vJ xn,vJ xh,eI ByteArray.empty,eI (T xm)] 141;have pQ:=ai hBk;clear hBk;generalize hjs:o.jumps=oj at *;cases oj with
   |false =>
    have HNx:af (leadP st (sk+o.slots) (code.drop (k+1))=leadP st 0 code):=by
     have:=HD.o;rw[HN.o]at this;rw[af]
     simpa using this.symm
    generalize o.slots=os at *;go_wp2_with fail;go_roundw
    case rel=>exact⟨k+1,by omega,by go_num,by rw[PT.o];go_num,by rw[PT.o];exact HNx.o,dB.o⟩
    case measure=>simp[intOf];omega
   |true =>
    have HD2:af (leadP st 0 code=((eS (0<=(sk:Int)+o.slots+jmp)&&(st[((sk:Int)+o.slots+jmp).toNat]?.getD eE))&&leadP st (sk+o.slots) (code.drop (k+1)))):=by
     have:=HD.o;rw[HN.o]at this;rw[af]
     simpa using this
    clear HD;go_wp2_with fail;refine HTg.o.mono ?_;rintro e w3 ⟨rfl,m3⟩;have eH:=ai (dB.o.trans m3);have hB3:=pQ.o.ae m3 id;have hA3:=HA1.o.ae m3;obtain⟨v2,_,_,_⟩:=hA3.cells;have v0:=hB3.c0;clear hB3 hA3 m3 HTg HA1;generalize o.slots=os at *;by_cases hneg:(sk:Int)+os+jmp<0
    ·have HF:af (leadP st 0 code=eE):=by rw[af,HD2.o,decide_eq_false (by omega),cI,cI]
     generalize(sk:Int)+os+jmp=tt at *;go_wp2_with fail;go_ret;exact⟨by rw[HF.o];rfl,eH.o⟩
    ·obtain⟨t,ht⟩:∃t:Nat,(sk:Int)+os+jmp=t:=⟨((sk:Int)+os+jmp).toNat,by omega⟩
     rw[ht]at HD2 hneg ⊢;simp only[show eS ((0:Int)<=(t:Int))=eJ by simp,Bool.true_and,Int.toNat_natCast]at HD2;by_cases hlt2:t<ee st
     ·obtain⟨gS,rfl,csS⟩:=(HS.o.ae eH.o (λ_ _=>id)).at rfl t hlt2;have cS':=csS t hlt2;have e1:(De st)[t]?=eC (fS st[t]):=by simp[De,hlt2]
      rw[e1]at cS';have e2:st[t]?.getD eE=st[t]:=by simp[hlt2]
      rw[e2]at HD2;clear csS e1 e2;generalize st[t]=sb at *;cases sb with
      |false =>
       have HF:af (leadP st 0 code=eE):=by rw[af,HD2.o,cI]
       go_wp2_with fail;go_ret;exact⟨by rw[HF.o];rfl,eH.o⟩
      |true =>
       have HNx:af (leadP st (sk+os) (code.drop (k+1))=leadP st 0 code):=by rw[af,HD2.o,Bool.true_and]
       go_wp2_with fail;go_roundw
       case rel=>exact⟨k+1,by omega,by go_num,by rw[PT.o];go_num,by rw[PT.o];exact HNx.o,eH.o⟩
       case measure=>simp[intOf];omega
     ·have HF:af (leadP st 0 code=eE):=by rw[af,HD2.o,List.getElem?_eq_none (by omega)];rfl
      have hge:¬((t:Int)<(ee st:Int)):=by omega
      go_wp2_with fail;go_ret;exact⟨by rw[HF.o];rfl,eH.o⟩
  ·obtain rfl:k=ee code:=by omega
   have HF:af (leadP st 0 code=eJ):=by rw[af,<-HN.o,cx];rfl
   go_wp2_with fail;go_ret;exact⟨by rw[HF.o];rfl,HM.o⟩
theorem xL:(prog.info? 141).map (λi=>(i.zero,i.size,i.bytes))=eC (eC (fW Z8),8,56):=by kernel_rfl
theorem Ri(x:dQ)(hop:x.op.oneCell'=eJ):∀u∈x.di,u.oneCell'=eJ:=by
 intro u hu;simp only[dQ.di,List.mem_cons,cW,or_false]at hu;rcases hu with rfl|rfl|rfl|rfl|rfl|rfl|rfl|rfl
 ·exact hop
 all_goals rfl
structure Ag(w0:tW)(b:Nat)(q:PR)(tv:eM)(bs:tLN)(v:eM)(acc:List PI)(gS n:Nat)(st:List Bool)(w:tW):Prop where
 rd:jO w b q
 sl:Sl w 141 8 v (ee acc) (kI bs acc)
 sb:ak w gS (oH st) 4
 ln:ee st=n
 own:∀k,v.ownBlock=eC k->w0.heap.size<=k/\k≠gS
 gS:w0.heap.size<=gS
 md:aa ah w0 w
theorem Ag.quiet{w0 w w':tW}{b:Nat}{q:PR}{tv:eM}{bs:tLN}{v:eM}{acc:List PI}{gS n:Nat}{st:List Bool}(h:Ag w0 b q tv bs v acc gS n st w)(m:aa ah w w'):Ag w0 b q tv bs v acc gS n st w' :=
 ⟨ak.ae h.rd m id,h.sl.ae m (λ_ _=>id),h.sb.ae m id,h.ln,h.own,h.gS,h.md.trans m⟩
theorem Ag.app{w0 w w':tW}{b:Nat}{q:PR}{tv:eM}{bs:tLN}{v v':eM}{acc:List PI}{gS n:Nat}{st:List Bool}{x:PI}(h:Ag w0 b q tv bs v acc gS n st w)(hb:b<w0.heap.size)(s:Sl w' 141 8 v' (ee acc+1) (kI bs acc++(x.ins bs).di))(m:aa (λk=>v.ownBlock=eC k) w w')(l:∀k,v'.ownBlock=eC k->v.ownBlock=eC k\/w.heap.size<=k):Ag w0 b q tv bs v' (acc++[x]) gS n st w':=by
 refine⟨ak.ae h.rd m (λe=>by have:=(h.own b e).1;omega),by simpa [kI]using s,h.sb.ae m (λe=>(h.own gS e).2 rfl),h.ln,λk hk=>?_,h.gS,h.md.step m (λi hi e=>by have:=(h.own i e).1;omega)⟩;rcases l k hk with e|e
 ·exact h.own k e
 ·have h1:=h.md.size;have h2:=h.sb.lt;exact⟨by omega,by omega⟩
theorem Ag.mark{w0 w:tW}{b:Nat}{q:PR}{tv:eM}{bs:tLN}{v:eM}{acc:List PI}{gS n:Nat}{st:List Bool}(h:Ag w0 b q tv bs v acc gS n st w)(hb:b<w0.heap.size)(i:Nat):Ag w0 b q tv bs v acc gS n (st.set i eJ) (w.setCell ⟨gS,i,ez⟩ (fS eJ)) :=
 ⟨ak.setOther h.rd (by have:=h.gS;simp only;omega) _,h.sl.ae ((aa.refl (Only gS) w).bz i _) (λk hk e=>(h.own k hk).2 e),by rw[<-P7];exact h.sb.set i _,by simp[h.ln],h.own,h.gS,h.md.set (.inr h.gS) _⟩
theorem Ah(l:tLB)(x:PI)(h:gp l=eC x):∃k hi,gU (at' l 0)=eC k/\x=⟨k,at' l 1%16,at' l 1/16,eP (at' l 2+256*at' l 3),bI (l.drop 4),hi,[]⟩/\(-2147483648<=hi/\hi<=2147483647)/\¬ee l<(ax[k]?.getD kg).slots*8:=by
 by_cases h8:ee l<8
 ·rw[Ba l h8]at h;cases h
 ·cases hc:gU (at' l 0)with
  |none=>rw[Da l h8 hc]at h;cases h
  |some k =>
   by_cases hs:ee l<(ax[k]?.getD kg).slots*8
   ·rw[Db l h8 k hc hs]at h;cases h
   ·rw[Dc l h8 k hc hs]at h;split at h
    ·cases h
    ·rename_i hz
     generalize hhi:(if 1<(ax[k]?.getD kg).slots then bI (l.drop 12)else 0)=hi at h
     have hb:-2147483648<=hi/\hi<=2147483647:=by
      rw[<-hhi];split
      ·exact qg _
      ·omega
     split at h
     ·cases h;exact⟨k,hi,rfl,rfl,hb,hs⟩
     ·cases h
theorem GN(l:tLB)(x:PI)(h:gp l=eC x):kz x:=by obtain⟨k,hi,hk,rfl,hb,hs⟩:=Ah l x h;have h1:=jo l 1;have h2:=jo l 2;have h3:=jo l 3;exact⟨Fa _ _ hk,by simp only;omega,by simp only;omega,CE _ (by omega),qg _,hb⟩
theorem ZQ(l:tLB)(x:PI)(h:gp l=eC x):x.name=[]:=by obtain⟨k,hi,hk,rfl,hb,hs⟩:=Ah l x h;rfl
theorem Df(l:tLB)(x:PI)(h:gp l=eC x):x.o.slots*8<=ee l:=by obtain⟨k,hi,hk,rfl,hb,hs⟩:=Ah l x h;exact Nat.le_of_not_lt hs
def JB(w:tW)(b:Nat)(bs:tLN)(q:PR)(code:List PI)(e:Ending)(w':tW):Prop :=
 ∃v,e=fR v/\jO w' b q/\Sl w' 141 8 v (ee code) (kI bs code)/\(∀k,v.ownBlock=eC k->w.heap.size<=k)/\aa (Only b) w w'/\(∀x∈code,kz x)
theorem ZR(l:List Bool):oH l=(De l).toArray:=rfl
theorem VW{w:tW}{g n:Nat}{st:List Bool}(h:ak w g (oH st) 4)(hn:ee st=n)(hm:n<=10000):Sl w 4 1 (eK (eC ⟨g,0,ez⟩) n n) (ee st) (De st):=by subst hn;exact XX.sl ⟨bh _,by unfold fX;omega,by simp[oH],by rw[Nat.mul_one,ZR];exact List.take_of_length_le (by simp[De]),by simp[De]⟩ h
theorem code_any(w:tW)(b:Nat)(q:PR)(h:jO w b q)(wT:tW)(tv:eM)(bs:tLN)(hT:aT 0 wT tv bs ax)(mT:aa ah wT w)(hbT:wT.heap.size<=b)(sl:tLB)(hsl:ee sl<=2000):fL prog 278 #[vP b,tv,eI (T sl)] w λe w'=>JB w b bs (codeP sl q).2 (codeP sl q).1 e w':=by
 obtain⟨iI,hiI,hzI,hsI,hbI⟩:=lO xL;obtain⟨iB,hiB,hzB,hsB,hbB⟩:=lO EP;have hb:=ak.lt h;have hs:=bS sl;obtain⟨n,hn⟩:∃n,n=ee sl/8:=⟨_,rfl⟩
 have hcp:codeP sl q=match codeL sl n (n+1) 0 [] (ab n eE)with
   |none=>([],⟨q.rest,eJ⟩)
   |some (l,st)=>(l,az (leadP st 0 l) (az (qd l) q)):=by rw[hn];rfl
 have HCP:af _:=hcp;clear hcp;have hq8:((ee sl:Int)/8)=(n:Int):=by omega
 have hn8:n*8<=ee sl:=by omega
 have HT:=ai hT;have TI:=ai mT;have HO:=ai (hT.ae mT);obtain⟨oT,cT,hv,_⟩:=hT.sl.view;subst hv;clear hT mT hn
 have hK0:Ag w b q (eK oT (ee bs) cT) bs (vN) [] w.heap.size n (ab n eE) (w.alloc (eR (oH (ab n eE)) 4)) :=
  ⟨ak.alloc h _,Sl.nil _ _ _,ak.new _ _ _,by simp,λk hk=>(by cases hk),bh _,aq⟩
 have hmk:=run_make_row' (P:=prog) 378 4 (fS eE) 1 underlying378 EP rfl .i64 .i64 n (by omega) (by omega);simp only[P6]at hmk;go_in;go_upto_block 0 with fail;clear hmk;have YK:af _:=hK0;clear hK0;go_cut [7] (λv wx=>∃acc st,Ag w b q (eK oT (ee bs) cT) bs v acc w.heap.size n st wx/\codeL sl n (n+1) 0 [] (ab n eE)=eC (acc,st)/\acc.length<=n/\(∀x∈acc,kz x))
 case first =>
  go_wp2_with fail;go_loopg [7,9] (n+1) (λg v at_ wx=>∃(f p:Nat) (acc:List PI) (st:List Bool),at_=vI p/\Ag w b q (eK oT (ee bs) cT) bs v acc w.heap.size n st wx/\codeL sl n f p acc st=codeL sl n (n+1) 0 [] (ab n eE)/\n<p+f/\p<=n/\g=f/\acc.length<=p/\(∀x∈acc,kz x))
  case atStart=>exact⟨n+1,0,[],_,rfl,YK.o,rfl,by omega,b9 _,rfl,bh _,λx hx=>(by cases hx)⟩
  case round =>
   obtain⟨f,p,acc,st,rfl,hK,hR,hf,hp,hgf,hal,hok⟩:=hrel;clear YK;have HK:=ai hK;have HR:af _:=hR;have Eb:=ai hok;clear hK hR hok;obtain⟨f,rfl⟩:∃f',f=f'+1:=⟨f-1,by omega⟩
   have HGf:af _:=hgf;clear hgf;by_cases hlt:p<n
   ·have x8:(T sl).extract (p*8) (ee sl)=T (sl.drop (p*8)):=by have:=nr sl (p*8);rw[hs]at this;exact this
    have i8:((p:Int)*8)<=(ee sl:Int):=by omega
    have TH:=VS wr (eK oT (ee bs) cT) bs (HO.o.ae HK.o.md) (sl.drop (p*8)) (by unfold fX;simp;omega);have hR2:=HR.o;rw[codeL,iP9 hlt]at hR2;have iO:af _:=hR2;clear hR2 HR;have hlen:ee (sl.drop (p*8))=ee sl-p*8:=by simp
    have hfl:=Df (sl.drop (p*8));have hfo:=GN (sl.drop (p*8));have hfn:=ZQ (sl.drop (p*8));rw[hlen]at hfl;have adj:=ai TH;have HFl:=ai hfl;have HFo:=ai hfo;have HFn:=ai hfn;clear TH hlen hfl hfo hfn;generalize sl.drop (p*8)=lp at *;go_wp2_with fail;refine adj.o.mono ?_;rintro e w3 ⟨cs,rfl,hcs,h8,m3⟩;have HK3:=ai (HK.o.quiet m3);have HO3:=ai ((HO.o.ae HK.o.md).ae m3);clear m3 adj;cases hfr:gp lp with
    |none =>rw[hfr]at iO;have HNo:=ai iO.o.symm;obtain⟨e0,e1,e2,e3,e4,e5,e6,e7,rfl⟩:=h8;clear hcs iO hfr;have hRd:jO (w3.alloc (eR #[.pointer e0,vB e1,vB e2,.int .i16 e3,vJ e4,vJ e5,eI e6,eI e7] 141)) b q:=ak.alloc HK3.o.rd _;have c1:=ak.cell hRd 1;have fr1:=ak.frozen hRd 1;simp at c1;have Yr:af _:=hRd;clear hRd;go_wp2_with fail;go_ret;rw[HCP.o,HNo.o];exact⟨_,rfl,ak.set Yr.o 1 _,Sl.nil _ _ _,λk hk=>(by cases hk),((HK3.o.md.alloc _).of_nil).bz 1 _,λx hx=>(by cases hx)⟩
    |some x =>
     rw[hfr]at iO;have hcx:=hcs x hfr;have hxo:=HFo.o x hfr;have hxl:=HFl.o x hfr;have hxs:=hxo.slots;clear hcs h8 HFo HFl HFn hfr;have hA:=lT HO3.o x hxo.k;have HXo:=ai hxo;have tJ:af (codeL sl n f (p+x.o.slots) (acc++[x]) (st.set p eJ)=codeL sl n (n+1) 0 [] (ab n eE)):=iO.o;clear iO hxo HO3;have HXc:af ((x.ins bs).di=[vP (bs[x.k]?.getD 0),vB x.d,vB x.s,.int .i16 x.jump,vJ x.num,vJ x.high,eI ByteArray.empty,eI (T x.name)]):=rfl;have aff:cs=#[vP (bs[x.k]?.getD 0),vB x.d,vB x.s,.int .i16 x.jump,vJ x.num,vJ x.high,eI ByteArray.empty,eI (T x.name)]:=hcx;clear hcx;subst aff;have adk:af (∀u∈(x.ins bs).di,u.oneCell'=eJ):=Ri _ rfl;rw[HXc.o]at adk;generalize hos:x.o.slots=os at *;have HA:=ai hA;have HOs:=ai hos;clear hA hos;generalize hbx:bs[x.k]?.getD 0=bx at *;have HBx:=ai hbx;clear hbx;generalize x.d=xd at *;generalize x.s=xs at *;generalize x.jump=xj at *;generalize x.num=xn at *;generalize x.high=xh at *;generalize x.name=xm at *;have HIn:af (Ag w b q (eK oT (ee bs) cT) bs u7 acc w.heap.size n st (w3.alloc (eR #[vP bx,vB xd,vB xs,.int .i16 xj,vJ xn,vJ xh,eI ByteArray.empty,eI (T xm)] 141))):=HK3.o.quiet aq;have HBn:=ai (ak.new w3 #[vP bx,vB xd,vB xs,.int .i16 xj,vJ xn,vJ xh,eI ByteArray.empty,eI (T xm)] 141);have HAn:af (eu (w3.alloc (eR #[vP bx,vB xd,vB xs,.int .i16 xj,vJ xn,vJ xh,eI ByteArray.empty,eI (T xm)] 141)) bx x.o):=HA.o.ae aq;have HOw:=ai HK3.o.sl.lt;have hg3:=HK3.o.sb.lt;clear HK3 HA;have lS:p<(oH st).size:=by have:=HIn.o.ln;simp[oH];omega
     have HLS:af _:=lS;clear lS;go_wp2_with (at_builtin;go_loud (refine aP _ rfl (.tmp 34) (.tmp 36) 80 rfl 141 iI (fW Z8) 8 56 underlying80 hiI hzI hsI hbI rfl (by decide) u7 (ee acc) (kI bs acc) rfl (HIn.o.quiet aq).sl ⟨w3.heap.size+1,0,ez⟩ 1 1 [vP bx,vB xd,vB xs,.int .i16 xj,vJ xn,vJ xh,eI ByteArray.empty,eI (T xm)] rfl rfl (aY _ _ _ _ (by simp)) adk.o (by unfold fX;omega) (by omega) ?_;intro vA wA sA mA lA;have HKA:=ai ((HIn.o.quiet aq).app hb (by rw[HXc.o];exact sA) mA lA);have XN:=ai ((HBn.o.alloc _).ae mA (λe=>by have:=HOw.o _ e;omega));obtain⟨oA,cA,rfl,_⟩:=Sl.view sA;clear sA mA lA;obtain⟨y0,y1⟩:wA.cell? ⟨w.heap.size,p,ez⟩=eC (fS (st[p]?.getD eE))/\wA.frozen? ⟨w.heap.size,p,ez⟩=eE:=⟨by rw[HKA.o.sb.cell p];simp[oH,HKA.o.ln,hlt],HKA.o.sb.frozen p⟩;have HKM:=HKA.o.mark hb p;have z0:(wA.setCell ⟨w.heap.size,p,ez⟩ (fS eJ)).cell? ⟨w3.heap.size,0,ez⟩=eC (vP bx):=(ak.setOther XN.o (show w.heap.size≠w3.heap.size by omega) _).cell 0;have dV:=ai HKM;clear HKM;have hAM:=lT (HO.o.ae dV.o.md) x HXo.o.k;rw[HBx.o]at hAM;obtain⟨z2,_,_,_⟩:=hAM.cells;rw[HOs.o]at z2;clear hAM));go_roundg f
     case measure=>have:=HGf.o;omega
     case rel=>exact⟨f,p+os,acc++[x],st.set p eJ,by go_num,dV.o,tJ.o,by omega,by omega,rfl,by simp;omega,λy hy=>(by rcases List.mem_append.1 hy with h'|h';exact Eb.o y h';rw[List.mem_singleton.1 h'];exact HXo.o)⟩
   ·have iO:af (codeL sl n (n+1) 0 [] (ab n eE)=eC (acc,st)):=by rw[af,<-HR.o,codeL,iN9 hlt]
    have af3:¬((p:Int)<(n:Int)):=by omega
    go_wp2_with fail;go_meet;exact⟨acc,st,HK.o,iO.o,by omega,Eb.o⟩
 case rest =>
 obtain⟨acc,st,hK,hR,hal,hok⟩:=hcut;rw[hR]at HCP;simp only at HCP;clear hR YK;obtain⟨oC,cC,rfl,_⟩:=hK.sl.view;have HK:=ai hK;have Eb:=ai hok;clear hK hok
 have HFin:af (∀w4,jO w4 b (az (qd acc) q)->aa (Only b) wc w4->fL prog 340 #[eK oC (ee acc) cC,eK (eC ⟨w.heap.size,0,ez⟩) n n] w4 (λe w'=>e=fR (fS (leadP st 0 acc))/\aa ah w4 w')/\∀w5,aa ah w4 w5->∀w6,jO w6 b (az (leadP st 0 acc) (az (qd acc) q))->aa (Only b) w5 w6->JB w b bs (az (leadP st 0 acc) (az (qd acc) q)) acc (fR (eK oC (ee acc) cC)) w6):=by
  intro w4 h4 m4;have hne:∀k,(Value.slice oC (ee acc) cC).ownBlock=eC k->¬Only b k:=λk hk e=>by have:=(HK.o.own k hk).1;have:k=b:=e;omega
  have hS4:=HK.o.sl.ae m4 hne;have UQ:=HK.o.md.of_nil.trans m4;have hB4:=HK.o.sb.ae m4 (show ¬w.heap.size=b by omega);have hbw:=ak.lt h4;have hob:=HT.o.ae (TI.o.step UQ (λi hi e=>by have:i=b:=e;omega));refine⟨?_,λw5 m5 w6 h6 m6=>?_⟩
  ·have:=VV w4 _ bs hob acc Eb.o (by omega) _ hS4 st (by have:=HK.o.ln;omega) (eK (eC ⟨w.heap.size,0,ez⟩) n n) (by have:=HK.o.ln;exact VW hB4 this (by omega));exact this
  ·exact⟨_,rfl,h6,(hS4.ae m5 (λ_ _=>id)).ae m6 hne,λk hk=>(HK.o.own k hk).1,(UQ.trans m5.of_nil).trans m6,Eb.o⟩
 cases VX:ee acc with
 |zero =>rw[VX]at HFin;obtain rfl:acc=[]:=List.length_eq_zero_iff.1 VX;have HL:af (qd []=eE):=rfl;rw[HL.o]at HFin HCP;generalize leadP st 0 []=ld at *;go_wp2_with fail;refine(dZ b _ _ _ HK.o.rd).mono ?_;rintro e w4 ⟨rfl,h4,m4⟩;obtain⟨f1,f2⟩:=HFin.o w4 h4 m4;have F2:af _:=f2;clear f2 HFin;go_wp2_with fail;refine f1.mono ?_;rintro e w5 ⟨rfl,m5⟩;have h5:=ak.ae h4 m5 id;have F3:af _:=F2.o w5 m5;clear F2 m5 m4 h4;go_wp2_with fail;refine(dZ b _ _ _ h5).mono ?_;rintro e w6 ⟨rfl,h6,m6⟩;have F4:af _:=F3.o w6 h6 m6;clear F3 h6 m6 h5;go_wp2_with fail;go_ret;rw[HCP.o];exact F4.o
 |succ j =>
  have hj:j<ee acc:=by omega
  have HL:af (qd acc=acc[j].o.ends):=by
   have:acc.getLast?=eC acc[j]:=by rw[List.getLast?_eq_getElem?,show ee acc-1=j by omega];simp[hj]
   rw[af,qd,this]
  obtain⟨g,rfl,hg,q0,_,_,_,_,_,_,_⟩:=oK HK.o.sl rfl rfl j hj;obtain⟨_,_,q4,_⟩:=(lT (HO.o.ae HK.o.md) acc[j] (Eb.o acc[j] (an hj)).k).cells;rw[VX]at HFin;rw[HL.o]at HFin HCP;generalize acc[j].o.ends=le at *;generalize bs[acc[j].k]?.getD 0=bx at *;generalize leadP st 0 acc=ld at *;have Tq:=ai VX;have hj2:j<2000:=by omega
  clear VX hal;go_wp2_with fail;refine(dZ b _ _ _ HK.o.rd).mono ?_;rintro e w4 ⟨rfl,h4,m4⟩;obtain⟨f1,f2⟩:=HFin.o w4 h4 m4;have F2:af _:=f2;clear f2 HFin;go_wp2_with fail;refine f1.mono ?_;rintro e w5 ⟨rfl,m5⟩;have h5:=ak.ae h4 m5 id;have F3:af _:=F2.o w5 m5;clear F2 m5 m4 h4;go_wp2_with fail;refine(dZ b _ _ _ h5).mono ?_;rintro e w6 ⟨rfl,h6,m6⟩;have F4:af _:=F3.o w6 h6 m6;clear F3 h6 m6 h5;go_wp2_with fail;go_ret;rw[HCP.o];exact F4.o
theorem xM:(prog.info? 109).map (λi=>(i.zero,i.size,i.bytes))=eC (eC (fW #[eI E0,vN]),2,40):=by kernel_rfl
def wR(x:tLB×eM):tLV:=[eI (T x.1),x.2]
def rQ(h:bY):tLB×eM:=(h.name,vN)
def wS(l:List bY):tLV:=l.map (λh=>vI (h.slots:Nat))
theorem Oe(n:tLB)(o:Option Addr)(k c:Nat):∀u∈[Value.string (T n),eK o k c],u.oneCell'=eJ:=by intro u hu;simp only[List.mem_cons,cW,or_false]at hu;rcases hu with rfl|rfl<;>rfl
structure uP(w0:tW)(b:Nat)(q:PR)(v vS:eM)(hs:List bY)(w:tW):Prop where
 rd:jO w b q
 sf:Sl w 109 2 v (ee hs) ((hs.map rQ).flatMap wR)
 ss:Sl w 3 1 vS (ee hs) (wS hs)
 own:∀k,v.ownBlock=eC k->w0.heap.size<=k
 JC:∀k,vS.ownBlock=eC k->w0.heap.size<=k
 md:aa (Only b) w0 w
structure GP(w0:tW)(b:Nat)(q:PR)(v vS:eM)(hs:List bY)(nm:tLB)(w:tW):Prop where
 rd:jO w b q
 sf:Sl w 109 2 v (ee hs+1) ((hs.map rQ).flatMap wR++[eI (T nm),vN])
 ss:Sl w 3 1 vS (ee hs) (wS hs)
 own:∀k,v.ownBlock=eC k->w0.heap.size<=k
 JC:∀k,vS.ownBlock=eC k->w0.heap.size<=k
 md:aa (Only b) w0 w
theorem uP.read{w0 w w':tW}{b:Nat}{q q':PR}{v vS:eM}{hs:List bY}(h:uP w0 b q v vS hs w)(hr:jO w' b q')(m:aa (Only b) w w'):uP w0 b q' v vS hs w' :=
 ⟨hr,h.sf.ae m (λk hk e=>h.sf.ay h.rd (by decide) (hk.trans (congrArg eC e))),h.ss.ae m (λk hk e=>h.ss.ay h.rd (by decide) (hk.trans (congrArg eC e))),h.own,h.JC,h.md.trans m⟩
theorem uP.alloc{w0 w:tW}{b:Nat}{q:PR}{v vS:eM}{hs:List bY}(h:uP w0 b q v vS hs w)(o:Obj):uP w0 b q v vS hs (w.alloc o) :=
 ⟨ak.alloc h.rd o,h.sf.ae ((aa.refl ah w).alloc o) (λ_ _=>id),h.ss.ae ((aa.refl ah w).alloc o) (λ_ _=>id),h.own,h.JC,h.md.alloc o⟩
theorem uP.app{w0 w w':tW}{b:Nat}{q:PR}{v vS v':eM}{hs:List bY}{nm:tLB}(h:uP w0 b q v vS hs w)(s:Sl w' 109 2 v' (ee hs+1) ((hs.map rQ).flatMap wR++[eI (T nm),vN]))(m:aa (λk=>v.ownBlock=eC k) w w')(l:∀k,v'.ownBlock=eC k->v.ownBlock=eC k\/w.heap.size<=k):GP w0 b q v' vS hs nm w' :=
 ⟨ak.ae h.rd m (λe=>h.sf.ay h.rd (by decide) e),s,h.ss.ae m (λk hk e=>h.sf.apart h.ss (by decide) e hk),λk hk=>by
  rcases l k hk with e|e
  ·exact h.own k e
  ·have:=h.md.size;omega,h.JC,h.md.step m (λi hi e=>by have:=h.own i e;omega)⟩
theorem GP.read{w0 w w':tW}{b:Nat}{q q':PR}{v vS:eM}{hs:List bY}{nm:tLB}(h:GP w0 b q v vS hs nm w)(hr:jO w' b q')(m:aa (Only b) w w'):GP w0 b q' v vS hs nm w' :=
 ⟨hr,h.sf.ae m (λk hk e=>h.sf.ay h.rd (by decide) (hk.trans (congrArg eC e))),h.ss.ae m (λk hk e=>h.ss.ay h.rd (by decide) (hk.trans (congrArg eC e))),h.own,h.JC,h.md.trans m⟩
theorem GP.alloc{w0 w:tW}{b:Nat}{q:PR}{v vS:eM}{hs:List bY}{nm:tLB}(h:GP w0 b q v vS hs nm w)(o:Obj):GP w0 b q v vS hs nm (w.alloc o) :=
 ⟨ak.alloc h.rd o,h.sf.ae ((aa.refl ah w).alloc o) (λ_ _=>id),h.ss.ae ((aa.refl ah w).alloc o) (λ_ _=>id),h.own,h.JC,h.md.alloc o⟩
theorem GP.app{w0 w w':tW}{b:Nat}{q:PR}{v vS v':eM}{hs:List bY}{nm:tLB}{n:Nat}(h:GP w0 b q v vS hs nm w)(s:Sl w' 3 1 v' (ee hs+1) (wS hs++[vI n]))(m:aa (λk=>vS.ownBlock=eC k) w w')(l:∀k,v'.ownBlock=eC k->vS.ownBlock=eC k\/w.heap.size<=k):uP w0 b q v v' (hs++[⟨nm,n⟩]) w' :=
 ⟨ak.ae h.rd m (λe=>h.ss.ay h.rd (by decide) e),by simpa [rQ,wR]using h.sf.ae m (λk hk e=>h.sf.apart h.ss (by decide) hk e),by simpa [wS]using s,h.own,λk hk=>by
  rcases l k hk with e|e
  ·exact h.JC k e
  ·have:=h.md.size;omega,h.md.step m (λi hi e=>by have:=h.JC i e;omega)⟩
theorem uP.at{w0 w:tW}{b:Nat}{q:PR}{v vS:eM}{hs:List bY}(h:uP w0 b q v vS hs w)(k:Nat)(hk:k<ee hs):∃g c gS cS,v=eK (eC ⟨g,0,ez⟩) (ee hs) c/\vS=eK (eC ⟨gS,0,ez⟩) (ee hs) cS/\w.cell? ⟨g,k*2,ez⟩=eC (eI (T hs[k].name))/\w.cell? ⟨gS,k,ez⟩=eC (vI (hs[k].slots:Nat))/\∀j,w.frozen? ⟨g,j,ez⟩=eE:=by
 obtain⟨o,c,rfl,h2⟩:=h.sf.view;obtain⟨oS,cS,rfl,h3⟩:=h.ss.view;obtain⟨g,cs,rfl,hb,ht,_⟩:=h2 (by omega);obtain⟨gS,cs',rfl,hb',ht',_⟩:=h3 (by omega);refine⟨g,c,gS,cS,rfl,rfl,?_,?_,λj=>hb.frozen j⟩
 ·rw[hb.cell (k*2),<-Array.getElem?_toList,<-List.getElem?_take_of_lt (show k*2<ee hs*2 by omega),ht];have:=flat_get wR 2 (λ_=>rfl) (hs.map rQ) k 0 (by simpa using hk) (by omega);rw[Nat.add_zero]at this;rw[this];simp[wR,rQ]
 ·rw[hb'.cell k,<-Array.getElem?_toList,<-List.getElem?_take_of_lt (show k<ee hs*1 by omega),ht'];simp[wS,hk]
structure xN(w:tW)(lo:Nat)(bs:tLN)(v:eM)(fs:List cZ)(vs:tLV):Prop where
 len:ee vs=ee fs
 sl:Sl w 109 2 v (ee fs) (((fs.map (·.name)).zip vs).flatMap wR)
 cd:∀i (_:i<ee fs) (_:i<ee vs),Sl w 141 8 vs[i] (ee fs[i].code) (kI bs fs[i].code)
 ok:∀f∈fs,∀x∈f.code,kz x
 own:∀k,v.ownBlock=eC k->lo<=k
 rR:∀u∈vs,∀k,u.ownBlock=eC k->lo<=k
 ne:∀i j (_:i<ee vs) (_:j<ee vs),i≠j->∀k,vs[i].ownBlock=eC k->vs[j].ownBlock≠eC k
theorem xN.ae{w w':tW}{lo:Nat}{bs:tLN}{v:eM}{fs:List cZ}{vs:tLV}{S:Nat->Prop}(h:xN w lo bs v fs vs)(m:aa S w w')(h1:∀k,v.ownBlock=eC k->¬S k)(h2:∀u∈vs,∀k,u.ownBlock=eC k->¬S k):xN w' lo bs v fs vs :=
 ⟨h.len,h.sl.ae m h1,λi a b=>(h.cd i a b).ae m (h2 _ (an b)),h.ok,h.own,h.rR,h.ne⟩
theorem xN.quiet{w w':tW}{lo:Nat}{bs:tLN}{v:eM}{fs:List cZ}{vs:tLV}(h:xN w lo bs v fs vs)(m:aa ah w w'):xN w' lo bs v fs vs :=
 h.ae m (λ_ _=>id) (λ_ _ _ _=>id)
theorem xN.read{w w':tW}{lo:Nat}{bs:tLN}{v:eM}{fs:List cZ}{vs:tLV}{b:Nat}{q:PR}(h:xN w lo bs v fs vs)(hr:jO w b q)(m:aa (Only b) w w'):xN w' lo bs v fs vs :=
 h.ae m (λk hk e=>h.sl.ay hr (by decide) (hk.trans (congrArg eC e))) (λu hu k hk e=>by obtain⟨i,hi,rfl⟩:=cQ hu;exact(h.cd i (by rw[<-h.len];exact hi) hi).ay hr (by decide) (hk.trans (congrArg eC e)))
theorem Mi(ns:List tLB)(vs:tLV)(k:Nat)(h:k<ee ns)(h':k<ee vs):(ns.zip vs)[k]'(by simp;omega)=(ns[k],vs[k]):=by simp
theorem xN.put{w:tW}{lo g c:Nat}{bs:tLN}{fs:List cZ}{vs:tLV}(k:Nat)(hk:k<ee fs){nf:Nat}(hnf:nf=ee fs)(h:xN w lo bs (eK (eC ⟨g,0,ez⟩) nf c) fs vs)(o:Option Addr)(n cp:Nat)(code:List PI)(hn:n=ee code)(s:Sl w 141 8 (eK o n cp) n (kI bs code))(hok:∀x∈code,kz x)(hlo:∀k,(Value.slice o n cp).ownBlock=eC k->lo<=k)(hne:∀u∈vs,∀k,u.ownBlock=eC k->(Value.slice o n cp).ownBlock≠eC k):xN (w.setCell ⟨g,k*2+1,ez⟩ (eK o n cp)) lo bs (eK (eC ⟨g,0,ez⟩) nf c) (fs.set k ⟨fs[k].name,code⟩) (vs.set k (eK o n cp)):=by
 subst hnf;have Bd:k<ee vs:=by rw[h.len];exact hk
 have hkz:k<ee ((fs.map (·.name)).zip vs):=by simp;omega
 have m:aa (Only g) w (w.setCell ⟨g,k*2+1,ez⟩ (eK o n cp)):=aA.bz _ _;have hf:=λk' v' (_:Sl w 141 8 v' k' (kI bs code))=>trivial;have hgn:∀{v':eM} {n':Nat} {xs:tLV},Sl w 141 8 v' n' xs->∀k,v'.ownBlock=eC k->¬Only g k:=λs' k' hk' e=>s'.apart h.sl (by decide) hk' (congrArg eC (show g=k' from e.symm))
 have hnm:(fs.set k ⟨fs[k].name,code⟩).map (·.name)=fs.map (·.name):=by
  rw[List.map_set]
  exact cy (by simp) (λi h1 h2=>by
   rw[ao];split
   ·rename_i e;subst e;simp
   ·rfl)
 refine⟨by simp[h.len],?_,λi h1 h2=>?_,λf hf' x hx=>?_,h.own,λu hu k' hk'=>?_,λi j h1 h2 hij k' hk'=>?_⟩
 ·have:=h.sl.setAt (k*2+1) (eK o n cp) (by omega);rw[tT wR 2 (λ_=>rfl) _ k 1 hkz (by omega) (eK o n cp) (fs[k].name,eK o n cp) (by rw[Mi _ _ k (by simpa using hk) Bd];simp[wR])]at this;rw[hnm,cD]
  have e:((fs.map (·.name)).zip vs).set k (fs[k].name,eK o n cp)=(fs.map (·.name)).zip (vs.set k (eK o n cp)):=by
   refine cy (by simp) (λi h1 h2=>?_);rw[ao];split
   ·rename_i e;subst e;simp
   ·rename_i e
    simp[e]
  rw[e]at this;exact this
 ·rw[cD]at h1 h2;rw[ao];by_cases e:k=i
  ·subst e;simp only[ao,if_true];subst hn;exact s.ae m (hgn s)
  ·simp only[e,if_false,ao];exact(h.cd i h1 h2).ae m (hgn (h.cd i h1 h2))
 ·rcases cj hf' with h'|h'
  ·exact h.ok f h' x hx
  ·subst h';exact hok x hx
 ·rcases cj hu with h'|h'
  ·exact h.rR u h' k' hk'
  ·subst h';exact hlo k' hk'
 ·rw[cD]at h1 h2;rw[ao]at hk' ⊢;by_cases e:k=i
  ·subst e;rw[iP9 rfl]at hk';rw[iN9 hij];intro e2;exact hne _ (an h2) k' e2 hk'
  ·rw[iN9 e]at hk';by_cases e2:k=j
   ·subst e2;rw[iP9 rfl];exact hne _ (an h1) k' hk'
   ·rw[iN9 e2];exact h.ne i j h1 h2 hij k' hk'
def nR(h:bY):cZ:=⟨h.name,[]⟩
theorem uP.fns{w0 w:tW}{b:Nat}{q:PR}{v vS:eM}{hs:List bY}(h:uP w0 b q v vS hs w)(bs:tLN):xN w w0.heap.size bs v (hs.map nR) (ab (ee hs) (vN)):=by
 refine⟨by simp,?_,λi h1 h2=>?_,λf hf x hx=>?_,h.own,λu hu k hk=>?_,λi j h1 h2 _ k hk=>?_⟩
 ·have e:((hs.map nR).map (·.name)).zip (ab (ee hs) (vN))=hs.map rQ:=by refine cy (by simp) (λi h1 h2=>?_);simp[nR,rQ]
  rw[e]
  simpa using h.sf
 ·simp only[List.getElem_map,cG,nR];exact Sl.nil _ _ _
 ·obtain⟨h',_,rfl⟩:=List.mem_map.1 hf;cases hx
 ·rw[List.eq_of_mem_replicate hu]at hk;cases hk
 ·rw[cG]at hk;cases hk
theorem VY(q:PR):(kR q).1<65536:=by
 have h1:=kU q;have h2:=kU (oneP q).2;show(oneP q).1+256*(oneP (oneP q).2).1<65536
 omega
def JD(l:List bY):Nat:=(l.map (·.slots)).sum
theorem JE(l:List bY)(h:bY)(hm:h∈l):h.slots<=JD l:=by
 induction l with
 |nil=>cases hm
 |cons x l ih =>
  simp only[JD,cN,List.sum_cons]at *;rcases List.mem_cons.1 hm with rfl|hm
  ·omega
  ·have:=ih hm;omega
theorem Og(n:Nat)(q:PR):ee (aR n q).1<=n:=by
 unfold aR;split
 ·simp;omega
 ·simp;omega
def Fb(w:tW)(b:Nat)(bs:tLN)(q:PR)(fs:List cZ)(e:Ending)(w':tW):Prop :=
 ∃v vs,e=fR v/\jO w' b q/\xN w' w.heap.size bs v fs vs/\aa (Only b) w w'
theorem set_mid{α:Type}(acc l:List α)(x y:α):(acc++x::l).set (ee acc) y=(acc++[y])++l:=by rw[List.set_append,iN9 (by omega),bt,List.set_cons_zero,List.append_assoc];rfl
theorem ZS{α:Type}(acc l:List α)(x:α)(h:ee acc<ee (acc++x::l)):(acc++x::l)[ee acc]=x:=by rw[ar (bh _)];simp
theorem Rj(w:tW)(b:Nat)(q:PR)(h:jO w b q)(hl:ee q.rest<=fX)(wT:tW)(tv:eM)(bs:tLN)(hT:aT 0 wT tv bs ax)(mT:aa ah wT w)(hbT:wT.heap.size<=b):fL prog 161 #[vP b,tv] w λe w'=>Fb w b bs (dF q).2 (dF q).1 e w':=by
 obtain⟨iF,hiF,hzF,hsF,Ia⟩:=lO xM;obtain⟨iN,hiN,hzN,hsN,hbN⟩:=lO Ca;have hb:=ak.lt h;have H1:=ai (λw h=>rP b q w h hl);have l1:=kU q;have hl1:=b5 (kr q) hl;have hfp:dF q=(let hd:=headsP (oneP q).1 (az (eS ((oneP q).1<=16)) (oneP q).2) [] 0 [];let q3:=az (eS (hd.2.1<=200)) hd.2.2;if q3.bad then([],q3)else codesP hd.1 q3 []):=rfl;simp only at hfp;have abD:af _:=hfp;clear hfp;generalize oneP q=r1 at *;obtain⟨n,q1⟩:=r1;simp only at *;have hd:eS ((n:Int)<=16)=eS (n<=16):=by simp;omega
 have hl2:ee (az (eS (n<=16)) q1).rest<=fX:=hl1;have HQ:af (∃q2,az (eS (n<=16)) q1=q2):=⟨_,rfl⟩
 obtain⟨q2,hq2⟩:=HQ.o;rw[hq2]at hl2 abD;have HQ2:=ai hq2;clear hq2 HQ;have HFP:=ai abD.o;clear abD;have HT:=ai hT;have TI:=ai mT;obtain⟨oT,cT,hv,_⟩:=hT.sl.view;subst hv;clear hT mT;go_in;go_wp2_with fail;refine(H1.o _ h).mono ?_;rintro e w1 ⟨rfl,h1,m1⟩;go_wp2_with fail;refine(dZ b _ _ _ h1).mono ?_;rintro e w2 ⟨rfl,h2,m2⟩;have hI:uP w b (az (eS (n<=16)) q1) (vN) (vN) [] w2:=⟨h2,Sl.nil _ _ _,Sl.nil _ _ _,λk hk=>(by cases hk),λk hk=>(by cases hk),m1.trans m2⟩
 rw[HQ2.o]at hI;clear h1 h2 m1 m2 hd;have HI0:af _:=hI;clear hI;go_upto_block 0 with fail;go_cut [5,6,8] (λv vS all wx=>∃(hs:List bY) (tot:Nat) (q3:PR),uP w b q3 v vS hs wx/\headsP n q2 [] 0 []=(hs,tot,q3)/\all=vI tot/\hs.length=n/\tot=JD hs/\tot<=n*65536/\q3.rest.length<=fX)
 case first =>
  go_wp2_with fail;go_loopg [5,6,7,8,19] n (λg v vS last all i wl=>∃(k:Nat) (acc:List bY) (tot:Nat) (r:PR) (nP:tLB),i=vI k/\last=eI (T nP)/\all=vI tot/\uP w b r v vS acc wl/\headsP (n-k) r nP tot acc=headsP n q2 [] 0 []/\k<=n/\g=n-k/\acc.length=k/\tot=JD acc/\tot<=k*65536/\r.rest.length<=fX)
  case atStart=>exact⟨0,[],0,q2,[],rfl,rfl,rfl,HI0.o,rfl,b9 _,rfl,rfl,rfl,b9 _,hl2⟩
  case round =>
   obtain⟨k,acc,tot,r,nP,rfl,rfl,rfl,hI2,fQ,hk,rfl,hal,htot,hbd,hrl⟩:=hrel;have HR:af _:=fQ;have ZT:=ai htot;clear fQ HI0 htot;by_cases hkn:k<n
   ·obtain⟨j,hj⟩:∃j,n-k=j+1:=⟨n-k-1,by omega⟩
    have HJ:=ai hj;have iO:headsP j (az (Ea nP (dJ r).1) (kR (dJ r).2).2) (dJ r).1 (tot+(kR (dJ r).2).1) (acc++[⟨(dJ r).1,(kR (dJ r).2).1⟩])=headsP n q2 [] 0 []:=by rw[<-HR.o,hj];rfl
    clear HR hj;have HN:=ai (λw h=>E7 b r w h hrl);have z1:=b5 (zb r) hrl;generalize dJ r=p0 at *;obtain⟨nm,r0⟩:=p0;simp only at *;have H2:=ai (λw h=>Ob b r0 w h z1);have z2:=b5 (Oa r0) z1;have y2:=VY r0;generalize kR r0=p1 at *;obtain⟨sn,r1⟩:=p1;simp only at *;have tJ:af _:=iO;clear iO;have Oc:af (Ea nP nm=Op.bytesLess (T nP).toList (T nm).toList):=rfl;obtain⟨o5,c5,rfl,_⟩:=hI2.sf.view;obtain⟨o6,c6,rfl,_⟩:=hI2.ss.view;subst hal;go_wp2_with fail;refine(HN.o _ hI2.rd).mono ?_;rintro e w3 ⟨rfl,h3,m3⟩;have II:=hI2.read h3 m3;have HI3:=ai II;clear h3 m3 hI2 II;go_wp2_with (at_builtin;go_loud (refine aP _ rfl (.tmp 22) (.tmp 26) 97 rfl 109 iF (fW #[eI E0,vN]) 2 40 underlying97 hiF hzF hsF Ia rfl (by decide) (eK o5 (ee acc) c5) (ee acc) ((acc.map rQ).flatMap wR) rfl (HI3.o.alloc _).sf ⟨w3.heap.size,0,ez⟩ 1 1 [eI (T nm),vN] rfl rfl (aY _ _ _ _ rfl) (Oe _ _ _ _) (by unfold fX;omega) (by omega) ?_;intro vA wA sA mA lA;have Ge:=ai ((HI3.o.alloc _).app sA mA lA);obtain⟨oA,cA,rfl,_⟩:=Sl.view sA;clear sA mA lA HI3));refine(H2.o _ Ge.o.rd).mono ?_;rintro e w4 ⟨rfl,h4,m4⟩;have hM4:=Ge.o.read h4 m4;have jh:=ai hM4;clear h4 m4 hM4 Ge;go_wp2_with (at_builtin;go_loud (refine aP _ rfl (.tmp 28) (.tmp 31) 41 rfl 3 iN (vI 0) 1 8 underlying41 hiN hzN hsN hbN rfl (by decide) (eK o6 (ee acc) c6) (ee acc) (wS acc) rfl (jh.o.alloc _).ss ⟨w4.heap.size,0,ez⟩ 1 1 [vI sn] rfl rfl (aY _ _ _ _ rfl) (BD _) (by unfold fX;omega) (by omega) ?_;intro vB wB sB mB lB;have HIB:=ai ((jh.o.alloc _).app sB mB lB);obtain⟨oB,cB,rfl,_⟩:=Sl.view sB;clear sB mB lB jh;obtain⟨gA,kA,gB,kB,eA,eB,x0,x1,_⟩:=HIB.o.at (ee acc) (by simp);simp only[cR,cw,List.length_nil,Value.slice.injEq]at eA eB;obtain⟨rfl,_,rfl⟩:=eA;obtain⟨rfl,_,rfl⟩:=eB;simp only[ar (bh _),bt,cH]at x0 x1));refine(dZ b _ _ _ HIB.o.rd).mono ?_;rintro e wC ⟨rfl,hC,mC⟩;have hIC:=HIB.o.read hC mC;obtain⟨gA',kA',gB',kB',eA,eB,v0,v1,_⟩:=hIC.at (ee acc) (by simp);simp only[cR,cw,List.length_nil,Value.slice.injEq]at eA eB;obtain⟨⟨rfl⟩,_,rfl⟩:=eA;obtain⟨⟨rfl⟩,_,rfl⟩:=eB;simp only[ar (bh _),bt,cH]at v0 v1;have HIC:af (uP w b (az (Ea nP nm) r1) (eK (eC ⟨gA,0,ez⟩) (ee acc+1) cA) (eK (eC ⟨gB,0,ez⟩) (ee acc+1) cB) (acc++[⟨nm,sn⟩]) wC):=hIC;clear hIC hC mC x0 x1 HIB;go_wp2_with fail;go_roundg (n-(ee acc+1))
    case measure=>omega
    case rel=>exact⟨ee acc+1,acc++[⟨nm,sn⟩],tot+sn,az (Ea nP nm) r1,nm,by go_num,rfl,by go_num,HIC.o,by rw[show n-(ee acc+1)=j by have:=HJ.o;omega];exact tJ.o,by omega,rfl,by simp,by rw[ZT.o];simp[JD],by omega,z2⟩
   ·obtain rfl:k=n:=by omega
    have HE:af (headsP k q2 [] 0 []=(acc,tot,r)):=by rw[af,<-HR.o,bt];rfl
    go_wp2_with fail;go_meet;exact⟨acc,tot,r,hI2,HE.o,rfl,hal,ZT.o,hbd,hrl⟩
 case rest =>
 obtain⟨hs,tot,q3,hI,hE,rfl,hal,htot,hbd,hrl⟩:=hcut;subst hal;rw[hE]at HFP;simp only at HFP;have HI:=ai hI;have ZT:=ai htot;clear hE HI0 hI htot;have hd2:eS ((tot:Int)<=200)=eS (tot<=200):=by simp;omega
 go_wp2_with fail;refine(dZ b _ _ _ HI.o.rd).mono ?_;rintro e w4 ⟨rfl,h4,m4⟩;have yo:=HI.o.read h4 m4;have hq4:(az (eS (tot<=200)) q3).bad=eE->tot<=200:=λe=>by simp[az]at e;omega
 have HQ4:af _:=hq4;have hr4:ee (az (eS (tot<=200)) q3).rest<=fX:=hrl;clear hq4 h4 m4 hd2;generalize az (eS (tot<=200)) q3=q4 at *;obtain⟨Oh,K5⟩:=q4;have c1:w4.cell? ⟨b,1,ez⟩=eC (fS K5):=ak.cell yo.rd 1;cases K5 with
 |true =>simp only[if_true]at HFP;have HI4:af _:=yo;clear yo;go_wp2_with fail;go_ret;rw[HFP.o];exact⟨_,[],rfl,HI4.o.rd,⟨rfl,Sl.nil _ _ _,λi h=>absurd h (Nat.not_lt_zero _),λf h=>(by cases h),λk h=>(by cases h),λu h=>(by cases h),λi j h=>absurd h (Nat.not_lt_zero _)⟩,HI4.o.md⟩
 |false =>
  simp only[Bool.false_eq_true,if_false]at HFP;have ht:=HQ4.o rfl;have HS:af (∀h∈hs,h.slots<=200):=λh hm=>by have:=JE hs h hm;rw[<-ZT.o]at this;omega
  obtain⟨o5,c5,rfl,_⟩:=yo.sf.view;obtain⟨o6,c6,rfl,_⟩:=yo.ss.view;have HFs:=ai (yo.fns bs);have HI4:=ai yo;clear yo;go_wp2_with fail;go_loopg [64] (ee hs) (λg i wl=>∃(k:Nat) (acc:List cZ) (vs:tLV) (r:PR),i=vI k/\xN wl w.heap.size bs (eK o5 (ee hs) c5) (acc++(hs.drop k).map nR) (vs++ab (ee hs-k) (vN))/\jO wl b r/\Sl wl 3 1 (eK o6 (ee hs) c6) (ee hs) (wS hs)/\aa (Only b) w wl/\codesP (hs.drop k) r acc=codesP hs ⟨Oh,eE⟩ []/\k<=ee hs/\g=ee hs-k/\acc.length=k/\vs.length=k/\r.rest.length<=fX)
  case atStart=>exact⟨0,[],[],⟨Oh,eE⟩,rfl,HFs.o,HI4.o.rd,HI4.o.ss,HI4.o.md,rfl,b9 _,rfl,rfl,rfl,hr4⟩
  case round =>
   obtain⟨k,acc,vs,r,rfl,hF,hR,hSS,hM,hcp,hk,rfl,hal,hvl,hrl2⟩:=hrel;have HF:=ai hF;have HR:=ai hR;have HSS:=ai hSS;have HM:=ai hM;have HCp:=ai hcp;clear hF hR hSS hM hcp HFs HI4;by_cases hkn:k<ee hs
   ·obtain⟨gS,rfl,cS⟩:=HSS.o.at rfl k hkn;have y1:=cS k hkn;have e1:(wS hs)[k]?=eC (vI (hs[k].slots:Nat)):=by simp[wS,hkn]
    rw[e1]at y1;have hsl:=HS.o hs[k] (an hkn);obtain⟨hdk,hdt⟩:∃x,hs.drop k=x::hs.drop (k+1)/\x=hs[k]:=⟨_,cb hkn,rfl⟩
    obtain⟨hdr,hdx⟩:=hdt;rw[<-hdx]at y1 hsl;obtain⟨nm,sn⟩:=hdk;simp only at y1 hsl;have hF3:=HF.o;rw[hdr,show ee hs-k=(ee hs-(k+1))+1 by omega,List.replicate_succ,cN]at hF3;have HC2:codesP (hs.drop (k+1)) (codeP (aR (sn*8) r).1 (aR (sn*8) r).2).2 (acc++[⟨nm,(codeP (aR (sn*8) r).1 (aR (sn*8) r).2).1⟩])=codesP hs ⟨Oh,eE⟩ []:=by rw[<-HCp.o,hdr];rfl
    clear HF HCp e1 cS hdr hdx;have HTk:af (∀w,jO w b r->fL prog 158 #[vP b,vI ((sn:Int)*8)] w λe w'=>e=fR (eI (T (aR (sn*8) r).1))/\jO w' b (aR (sn*8) r).2/\aa (Only b) w w'):=λw h=>by rw[show((sn:Int)*8)=((sn*8:Nat):Int) by omega];exact uO b r (sn*8) w h hrl2 (by unfold fX;omega)
    have htl:=Og (sn*8) r;have htr:=b5 (take_len (sn*8) r) hrl2;generalize aR (sn*8) r=tk at *;obtain⟨tl,rk⟩:=tk;simp only at *;have HCd:=ai (λw5 (h5:jO w5 b rk) (m5:aa (Only b) w w5)=>code_any w5 b rk h5 wT _ bs HT.o (TI.o.step m5 (λi hi e=>by have:i=b:=e;omega)) hbT tl (by omega));have hcr:(codeP tl rk).2.rest=rk.rest:=by unfold codeP;split<;>rfl
    rw[<-hcr]at htr;generalize codeP tl rk=ck at *;obtain⟨code,rc⟩:=ck;simp only at *;have Mj:=ai hF3;have Rk:af _:=HC2;clear hF3 HC2 hcr;obtain⟨o5',c5',e5,f5⟩:=Mj.o.sl.view;have hfl:ee (acc++nR ⟨nm,sn⟩::(hs.drop (k+1)).map nR)=ee hs:=by simp;omega
    rw[hfl]at e5 f5;cases e5;obtain⟨g,csg,rfl,_⟩:=f5 (by omega);have HFl:=ai hfl;clear f5 hfl;subst hal;go_wp2_with fail;refine(HTk.o _ HR.o).mono ?_;rintro e w5 ⟨rfl,h5,m5⟩;have HF5:af _:=Mj.o.read HR.o m5;have Yd:=ai (HSS.o.ae m5 (λk hk e=>HSS.o.ay HR.o (by decide) (hk.trans (congrArg eC e))));have jK:=ai (HM.o.trans m5);have hsz5:=m5.size;clear m5 HSS HM HR;go_wp2_with fail;refine(HCd.o _ h5 jK.o).mono ?_;rintro e w6 ⟨vc,rfl,h6,s6,abE,m6,ok6⟩;obtain⟨oc,cc,rfl,_⟩:=s6.view;have hF6:=HF5.o.read h5 m6;have I4:=ai (Yd.o.ae m6 (λk hk e=>Yd.o.ay h5 (by decide) (hk.trans (congrArg eC e))));have yq:=ai (jK.o.trans m6);obtain⟨csg,hbg,hsb⟩:=(show Sl w6 109 2 (eK (eC ⟨g,0,ez⟩) (ee hs) c5) (ee hs) _ from HFl.o ▸ hF6.sl).blk
    obtain⟨y3,hy3⟩:∃y3,w6.cell? ⟨g,ee acc*2+1,ez⟩=eC y3:=by
     rw[hbg.cell,hsb.get _ (by omega)];have hz:ee acc<(((acc++nR ⟨nm,sn⟩::(hs.drop (ee acc+1)).map nR).map (·.name)).zip (vs++vN::ab (ee hs-(ee acc+1)) (vN))).length:=by simp;omega
     rw[flat_get wR 2 (λ_=>rfl) _ (ee acc) 1 hz (by omega)];exact⟨_,rfl⟩
    have fy3:=hbg.frozen (ee acc*2+1);have hmd:=λ(h':ee acc<(acc++nR ⟨nm,sn⟩::(hs.drop (ee acc+1)).map nR).length)=>ZS _ _ _ h';have hput:=hF6.put (ee acc) (by simp) HFl.o.symm oc (ee code) cc code rfl s6 ok6 (λk hk=>b5 jK.o.size (abE k hk)) (λu hu k hk e=>by obtain⟨i,hi,rfl⟩:=cQ hu;have h1:=(HF5.o.cd i (by rw[<-HF5.o.len];exact hi) hi).lt k hk;have h2:=abE k e;omega);rw[hmd,set_mid]at hput;rw[show ee acc=ee vs by omega,set_mid]at hput;rw[hvl]at hput;have afg:=ai hput;have afh:af (jO (w6.setCell ⟨g,ee acc*2+1,ez⟩ (eK oc (ee code) cc)) b rc):=ak.setOther h6 (λe=>by simp only at e;subst e;unfold jO ak at h6;unfold ak at hbg;rw[h6]at hbg;cases hbg) _;have afi:af (Sl (w6.setCell ⟨g,ee acc*2+1,ez⟩ (eK oc (ee code) cc)) 3 1 (eK (eC ⟨gS,0,ez⟩) (ee hs) c6) (ee hs) (wS hs)):=I4.o.ae ((aa.refl (Only g) w6).bz _ _) (λk hk e=>I4.o.ay hbg (by decide) (hk.trans (congrArg eC e)));have afj:af (aa (Only b) w (w6.setCell ⟨g,ee acc*2+1,ez⟩ (eK oc (ee code) cc))):=yq.o.set (.inr (hF6.own g rfl)) _;clear hput hF6 I4 yq h6 s6 abE m6 ok6 hbg hsb hmd HF5 Yd jK h5;go_wp2_with fail;go_roundg (ee hs-(ee acc+1))
    case measure=>omega
    case rel=>exact⟨ee acc+1,acc++[⟨nm,code⟩],vs++[eK oc (ee code) cc],rc,by go_num,afg.o,afh.o,afi.o,afj.o,Rk.o,by omega,rfl,by simp,by simp[hvl],htr⟩
   ·obtain rfl:k=ee hs:=by omega
    have HE:af (codesP hs ⟨Oh,eE⟩ []=(acc,r)):=by rw[af,<-HCp.o,cx];rfl
    have hF2:=HF.o;rw[cx,bt]at hF2;simp only[List.map_nil,List.append_nil,List.replicate_zero]at hF2;have VZ:af _:=hF2;clear hF2;go_wp2_with fail;go_ret;rw[HFP.o,HE.o];exact⟨_,vs,rfl,HR.o,VZ.o,HM.o⟩
