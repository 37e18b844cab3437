import Derived.Test.YthnphhgpfedeeaaGreatDoorCF24
namespace Go.Proofs.YthnphhgpfedeeaaGreatDoor
open Go.RowKit Tryz
open List renaming replicate->ab,getElem_set->al,getElem_mem->an,getElem_append_right->ao,mem_or_eq_of_mem_set->bh,ext_getElem->bj,length_set->bq,getElem_replicate->bO,getElem_cons_zero->bQ,getElem_of_mem->b5,length_append->b9,not_mem_nil->ca,length_cons->cj,drop_length->cq
open Nat renaming le_refl->ar,sub_self->aE,le_trans->ba,zero_le->bt
set_option linter.all false
set_option maxRecDepth 100000
set_option maxHeartbeats 2000000
theorem vH:(prog.info? 138).map (λi=>(i.zero,i.size,i.bytes))=some (some (.agg Z8),8,56):=by kernel_rfl
theorem Pf(x:di)(hop:x.op.oneCell'=true):∀u∈x.dU,u.oneCell'=true:=by
 intro u hu;simp only[di.dU,List.mem_cons,ca,or_false]at hu;rcases hu with rfl|rfl|rfl|rfl|rfl|rfl|rfl|rfl
 ·exact hop
 all_goals rfl
structure xD(w0:tW)(b:Nat)(q:PR)(tv:Value)(bs:List Nat)(v:Value)(acc:List PI)(gS n:Nat)(st:List Bool)(w:tW):Prop where
 rd:dM w b q
 sl:Sl w 138 8 v acc.length (xe bs acc)
 sb:ak w gS (lV st) 4
 ln:st.length=n
 own:∀k,v.ownBlock=some k->w0.heap.size<=k/\k≠gS
 gS:w0.heap.size<=gS
 md:aa ae w0 w
theorem xD.quiet{w0 w w':tW}{b:Nat}{q:PR}{tv:Value}{bs:List Nat}{v:Value}{acc:List PI}{gS n:Nat}{st:List Bool}(h:xD w0 b q tv bs v acc gS n st w)(m:aa ae w w'):xD w0 b q tv bs v acc gS n st w' :=
 ⟨ak.ag h.rd m id,h.sl.ag m (λ_ _=>id),h.sb.ag m id,h.ln,h.own,h.gS,h.md.trans m⟩
theorem xD.app{w0 w w':tW}{b:Nat}{q:PR}{tv:Value}{bs:List Nat}{v v':Value}{acc:List PI}{gS n:Nat}{st:List Bool}{x:PI}(h:xD w0 b q tv bs v acc gS n st w)(hb:b<w0.heap.size)(s:Sl w' 138 8 v' (acc.length+1) (xe bs acc++(x.ins bs).dU))(m:aa (λk=>v.ownBlock=some k) w w')(l:∀k,v'.ownBlock=some k->v.ownBlock=some k\/w.heap.size<=k):xD w0 b q tv bs v' (acc++[x]) gS n st w':=by
 refine⟨ak.ag h.rd m (λe=>by have:=(h.own b e).1;omega),by simpa [xe]using s,h.sb.ag m (λe=>(h.own gS e).2 rfl),h.ln,λk hk=>?_,h.gS,h.md.step m (λi hi e=>by have:=(h.own i e).1;omega)⟩;rcases l k hk with e|e
 ·exact h.own k e
 ·have h1:=h.md.size;have h2:=h.sb.lt;exact⟨by omega,by omega⟩
theorem xD.mark{w0 w:tW}{b:Nat}{q:PR}{tv:Value}{bs:List Nat}{v:Value}{acc:List PI}{gS n:Nat}{st:List Bool}(h:xD w0 b q tv bs v acc gS n st w)(hb:b<w0.heap.size)(i:Nat):xD w0 b q tv bs v acc gS n (st.set i true) (w.setCell ⟨gS,i,none⟩ (.bool true)) :=
 ⟨ak.setOther h.rd (by have:=h.gS;simp only;omega) _,h.sl.ag ((aa.refl (Only gS) w).aY i _) (λk hk e=>(h.own k hk).2 e),by rw[<-NR];exact h.sb.set i _,by simp[h.ln],h.own,h.gS,h.md.set (.inr h.gS) _⟩
theorem yK(l:tLB)(x:PI)(h:jf l=some x):∃k hi,kX (at' l 0)=some k/\x=⟨k,at' l 1%16,at' l 1/16,ep (at' l 2+256*at' l 3),bA (l.drop 4),hi,[]⟩/\(-2147483648<=hi/\hi<=2147483647)/\¬l.length<(aq[k]?.getD iK).slots*8:=by
 by_cases h8:l.length<8
 ·rw[agf l h8]at h;cases h
 ·cases hc:kX (at' l 0)with
  |none=>rw[A7 l h8 hc]at h;cases h
  |some k =>
   by_cases hs:l.length<(aq[k]?.getD iK).slots*8
   ·rw[A8 l h8 k hc hs]at h;cases h
   ·rw[A9 l h8 k hc hs]at h;split at h
    ·cases h
    ·rename_i hz
     generalize hhi:(if 1<(aq[k]?.getD iK).slots then bA (l.drop 12)else 0)=hi at h
     have hb:-2147483648<=hi/\hi<=2147483647:=by
      rw[<-hhi];split
      ·exact xB _
      ·omega
     split at h
     ·cases h;exact⟨k,hi,rfl,rfl,hb,hs⟩
     ·cases h
theorem L6(l:tLB)(x:PI)(h:jf l=some x):eU x:=by obtain⟨k,hi,hk,rfl,hb,hs⟩:=yK l x h;have h1:=uL l 1;have h2:=uL l 2;have h3:=uL l 3;exact⟨Dt _ _ hk,by simp only;omega,by simp only;omega,GL _ (by omega),xB _,hb⟩
theorem Xr(l:tLB)(x:PI)(h:jf l=some x):x.name=[]:=by obtain⟨k,hi,hk,rfl,hb,hs⟩:=yK l x h;rfl
theorem GS(l:tLB)(x:PI)(h:jf l=some x):x.o.slots*8<=l.length:=by obtain⟨k,hi,hk,rfl,hb,hs⟩:=yK l x h;exact Nat.le_of_not_lt hs
def Bc(w:tW)(b:Nat)(bs:List Nat)(q:PR)(code:List PI)(e:Ending)(w':tW):Prop :=
 ∃v,e=.returned v/\dM w' b q/\Sl w' 138 8 v code.length (xe bs code)/\(∀k,v.ownBlock=some k->w.heap.size<=k)/\aa (Only b) w w'/\(∀x∈code,eU x)
theorem Xt(l:List Bool):lV l=(Bb l).toArray:=rfl
theorem Tp{w:tW}{g n:Nat}{st:List Bool}(h:ak w g (lV st) 4)(hn:st.length=n)(hm:n<=10000):Sl w 4 1 (.slice (some ⟨g,0,none⟩) n n) st.length (Bb st):=by subst hn;exact VR.sl ⟨ar _,by unfold maxLen;omega,by simp[lV],by rw[Nat.mul_one,Xt];exact List.take_of_length_le (by simp[Bb]),by simp[Bb]⟩ h
theorem code_any(w:tW)(b:Nat)(q:PR)(h:dM w b q)(wT:tW)(tv:Value)(bs:List Nat)(hT:aH 0 wT tv bs aq)(mT:aa ae wT w)(hbT:wT.heap.size<=b)(sl:tLB)(hsl:sl.length<=2000):Calls prog 171 #[.pointer (some ⟨b,0,none⟩),tv,.string (T sl)] w λe w'=>Bc w b bs (codeP sl q).2 (codeP sl q).1 e w':=by
 obtain⟨iI,hiI,hzI,hsI,hbI⟩:=info_parts vH;obtain⟨iB,hiB,hzB,hsB,hbB⟩:=info_parts Dc;have hb:b<w.heap.size:=ak.lt h;have hs:(T sl).size=sl.length:=bG sl;obtain⟨n,hn⟩:∃n,n=sl.length/8:=⟨_,rfl⟩
 have hcp:codeP sl q=match codeL sl n (n+1) 0 [] (ab n false)with
   |none=>([],⟨q.rest,true⟩)
   |some (l,st)=>(l,aI (leadP st 0 l) (aI (zj l) q)):=by rw[hn];rfl
 have V8:af _:=hcp;clear hcp;have hq8:((sl.length:Int)/8)=(n:Int):=by omega
 have hn8:n*8<=sl.length:=by omega
 have HT:=ai hT;have Cv:=ai mT;have HO:af (aH 0 w tv bs aq):=hT.ag mT;obtain⟨oT,cT,hv,_⟩:=hT.sl.view;subst hv;clear hT mT hn
 have hK0:xD w b q (.slice oT bs.length cT) bs (.slice none 0 0) [] w.heap.size n (ab n false) (w.alloc (.cells (lV (ab n false)) 4)) :=
  ⟨ak.alloc h _,Sl.nil _ _ _,ak.new _ _ _,by simp,λk hk=>(by cases hk),ar _,aj⟩
 have hmk:=run_make_row' (P:=prog) 313 4 (.bool false) 1 underlying313 Dc rfl .i64 .i64 n (by omega) (by omega);simp only[NQ]at hmk;go_enter func171,ntmps171;go_upto_block 0 with fail;clear hmk;have Xu:af _:=hK0;clear hK0;go_cut [7] (λv wx=>∃acc st,xD w b q (.slice oT bs.length cT) bs v acc w.heap.size n st wx/\codeL sl n (n+1) 0 [] (ab n false)=some (acc,st)/\acc.length<=n/\(∀x∈acc,eU x))
 case first =>
  go_wp2_with fail;go_loopg [7,9] (n+1) (λg v at_ wx=>∃(f p:Nat) (acc:List PI) (st:List Bool),at_=.int .i64 p/\xD w b q (.slice oT bs.length cT) bs v acc w.heap.size n st wx/\codeL sl n f p acc st=codeL sl n (n+1) 0 [] (ab n false)/\n<p+f/\p<=n/\g=f/\acc.length<=p/\(∀x∈acc,eU x))
  case atStart=>exact⟨n+1,0,[],_,rfl,Xu.o,rfl,by omega,bt _,rfl,ar _,λx hx=>(by cases hx)⟩
  case round =>
   obtain⟨f,p,acc,st,rfl,hK,hR,hf,hp,hgf,hal,hok⟩:=hrel;clear Xu;have HK:=ai hK;have HR:af _:=hR;have Cu:=ai hok;clear hK hR hok;obtain⟨f,rfl⟩:∃f',f=f'+1:=⟨f-1,by omega⟩
   have HGf:af _:=hgf;clear hgf;by_cases hlt:p<n
   ·have x8:(T sl).extract (p*8) sl.length=T (sl.drop (p*8)):=by have:=lT sl (p*8);rw[hs]at this;exact this
    have i8:((p:Int)*8)<=(sl.length:Int):=by omega
    have Rq:=Tk wr (.slice oT bs.length cT) bs (HO.o.ag HK.o.md) (sl.drop (p*8)) (by unfold maxLen;simp;omega);have hR2:=HR.o;rw[codeL,iP9 hlt]at hR2;have kE:af _:=hR2;clear hR2 HR;have hlen:(sl.drop (p*8)).length=sl.length-p*8:=by simp
    have hfl:=GS (sl.drop (p*8));have hfo:=L6 (sl.drop (p*8));have hfn:=Xr (sl.drop (p*8));rw[hlen]at hfl;have ab5:=ai Rq;have HFl:=ai hfl;have HFo:=ai hfo;have HFn:=ai hfn;clear Rq hlen hfl hfo hfn;generalize sl.drop (p*8)=lp at *;go_wp2_with fail;refine ab5.o.mono ?_;rintro e w3 ⟨cs,rfl,hcs,h8,m3⟩;have HK3:=ai (HK.o.quiet m3);have HO3:af (aH 0 w3 (.slice oT bs.length cT) bs aq):=(HO.o.ag HK.o.md).ag m3;clear m3 ab5;cases hfr:jf lp with
    |none =>rw[hfr]at kE;have Zn:=ai kE.o.symm;obtain⟨e0,e1,e2,e3,e4,e5,e6,e7,rfl⟩:=h8;clear hcs kE hfr;have hRd:dM (w3.alloc (.cells #[.pointer e0,.int .u8 e1,.int .u8 e2,.int .i16 e3,.int .i32 e4,.int .i32 e5,.string e6,.string e7] 138)) b q:=ak.alloc HK3.o.rd _;have c1:=ak.cell hRd 1;have fr1:=ak.frozen hRd 1;simp at c1;have Ws:af _:=hRd;clear hRd;go_wp2_with fail;go_ret;rw[V8.o,Zn.o];exact⟨_,rfl,ak.set Ws.o 1 _,Sl.nil _ _ _,λk hk=>(by cases hk),((HK3.o.md.alloc _).of_nil).aY 1 _,λx hx=>(by cases hx)⟩
    |some x =>
     rw[hfr]at kE;have hcx:=hcs x hfr;have hxo:=HFo.o x hfr;have hxl:=HFl.o x hfr;have hxs:=hxo.slots;clear hcs h8 HFo HFl HFn hfr;have hA:=jI HO3.o x hxo.k;have HXo:=ai hxo;have xX:af (codeL sl n f (p+x.o.slots) (acc++[x]) (st.set p true)=codeL sl n (n+1) 0 [] (ab n false)):=kE.o;clear kE hxo HO3;have HXc:af ((x.ins bs).dU=[.pointer (some ⟨bs[x.k]?.getD 0,0,none⟩),.int .u8 x.d,.int .u8 x.s,.int .i16 x.jump,.int .i32 x.num,.int .i32 x.high,.string ByteArray.empty,.string (T x.name)]):=rfl;have ad9:cs=#[.pointer (some ⟨bs[x.k]?.getD 0,0,none⟩),.int .u8 x.d,.int .u8 x.s,.int .i16 x.jump,.int .i32 x.num,.int .i32 x.high,.string ByteArray.empty,.string (T x.name)]:=hcx;clear hcx;subst ad9;have ab6:af (∀u∈(x.ins bs).dU,u.oneCell'=true):=Pf _ rfl;rw[HXc.o]at ab6;generalize hos:x.o.slots=os at *;have HA:=ai hA;have HOs:=ai hos;clear hA hos;generalize hbx:bs[x.k]?.getD 0=bx at *;have HBx:=ai hbx;clear hbx;generalize x.d=xd at *;generalize x.s=xs at *;generalize x.jump=xj at *;generalize x.num=xn at *;generalize x.high=xh at *;generalize x.name=xm at *;have HIn:af (xD w b q (.slice oT bs.length cT) bs u7 acc w.heap.size n st (w3.alloc (.cells #[.pointer (some ⟨bx,0,none⟩),.int .u8 xd,.int .u8 xs,.int .i16 xj,.int .i32 xn,.int .i32 xh,.string ByteArray.empty,.string (T xm)] 138))):=HK3.o.quiet aj;have HBn:af (ak (w3.alloc (.cells #[.pointer (some ⟨bx,0,none⟩),.int .u8 xd,.int .u8 xs,.int .i16 xj,.int .i32 xn,.int .i32 xh,.string ByteArray.empty,.string (T xm)] 138)) w3.heap.size #[.pointer (some ⟨bx,0,none⟩),.int .u8 xd,.int .u8 xs,.int .i16 xj,.int .i32 xn,.int .i32 xh,.string ByteArray.empty,.string (T xm)] 138):=ak.new _ _ _;have HAn:af (bY (w3.alloc (.cells #[.pointer (some ⟨bx,0,none⟩),.int .u8 xd,.int .u8 xs,.int .i16 xj,.int .i32 xn,.int .i32 xh,.string ByteArray.empty,.string (T xm)] 138)) bx x.o):=HA.o.ag aj;have HOw:=ai HK3.o.sl.lt;have hg3:w.heap.size<w3.heap.size:=HK3.o.sb.lt;clear HK3 HA;have lS:p<(lV st).size:=by have:=HIn.o.ln;simp[lV];omega
     have HLS:af _:=lS;clear lS;go_wp2_with (at_builtin;go_loud (refine aL _ rfl (.tmp 34) (.tmp 36) 73 rfl 138 iI (.agg Z8) 8 56 underlying73 hiI hzI hsI hbI rfl (by decide) u7 acc.length (xe bs acc) rfl (HIn.o.quiet aj).sl ⟨w3.heap.size+1,0,none⟩ 1 1 [.pointer (some ⟨bx,0,none⟩),.int .u8 xd,.int .u8 xs,.int .i16 xj,.int .i32 xn,.int .i32 xh,.string ByteArray.empty,.string (T xm)] rfl rfl (aV _ _ _ _ (by simp)) ab6.o (by unfold maxLen;omega) (by omega) ?_;intro vA wA sA mA lA;have HKA:af (xD w b q (.slice oT bs.length cT) bs vA (acc++[x]) w.heap.size n st wA):=(HIn.o.quiet aj).app hb (by rw[HXc.o];exact sA) mA lA;have VN:af (ak wA w3.heap.size #[.pointer (some ⟨bx,0,none⟩),.int .u8 xd,.int .u8 xs,.int .i16 xj,.int .i32 xn,.int .i32 xh,.string ByteArray.empty,.string (T xm)] 138):=(HBn.o.alloc _).ag mA (λe=>by have:=HOw.o _ e;omega);obtain⟨oA,cA,rfl,_⟩:=Sl.view sA;clear sA mA lA;obtain⟨y0,y1⟩:wA.cell? ⟨w.heap.size,p,none⟩=some (.bool (st[p]?.getD false))/\wA.frozen? ⟨w.heap.size,p,none⟩=false:=⟨by rw[HKA.o.sb.cell p];simp[lV,HKA.o.ln,hlt],HKA.o.sb.frozen p⟩;have HKM:=HKA.o.mark hb p;have z0:(wA.setCell ⟨w.heap.size,p,none⟩ (.bool true)).cell? ⟨w3.heap.size,0,none⟩=some (.pointer (some ⟨bx,0,none⟩)):=(ak.setOther VN.o (show w.heap.size≠w3.heap.size by omega) _).cell 0;have dD:af (xD w b q (.slice oT bs.length cT) bs (.slice oA (acc.length+1) cA) (acc++[x]) w.heap.size n (st.set p true) (wA.setCell ⟨w.heap.size,p,none⟩ (.bool true))):=HKM;clear HKM;have hAM:=jI (HO.o.ag dD.o.md) x HXo.o.k;rw[HBx.o]at hAM;obtain⟨z2,_,_,_⟩:=hAM.cells;rw[HOs.o]at z2;clear hAM));go_roundg f
     case measure=>have:=HGf.o;omega
     case rel=>exact⟨f,p+os,acc++[x],st.set p true,by go_num,dD.o,xX.o,by omega,by omega,rfl,by simp;omega,λy hy=>(by rcases List.mem_append.1 hy with h'|h';exact Cu.o y h';rw[List.mem_singleton.1 h'];exact HXo.o)⟩
   ·have kE:af (codeL sl n (n+1) 0 [] (ab n false)=some (acc,st)):=by rw[af,<-HR.o,codeL,iN9 hlt]
    have ae0:¬((p:Int)<(n:Int)):=by omega
    go_wp2_with fail;go_meet;exact⟨acc,st,HK.o,kE.o,by omega,Cu.o⟩
 case rest =>
 obtain⟨acc,st,hK,hR,hal,hok⟩:=hcut;rw[hR]at V8;simp only at V8;clear hR Xu;obtain⟨oC,cC,rfl,_⟩:=hK.sl.view;have HK:=ai hK;have Cu:=ai hok;clear hK hok
 have HFin:af (∀w4,dM w4 b (aI (zj acc) q)->aa (Only b) wc w4->Calls prog 267 #[.slice oC acc.length cC,.slice (some ⟨w.heap.size,0,none⟩) n n] w4 (λe w'=>e=.returned (.bool (leadP st 0 acc))/\aa ae w4 w')/\∀w5,aa ae w4 w5->∀w6,dM w6 b (aI (leadP st 0 acc) (aI (zj acc) q))->aa (Only b) w5 w6->Bc w b bs (aI (leadP st 0 acc) (aI (zj acc) q)) acc (.returned (.slice oC acc.length cC)) w6):=by
  intro w4 h4 m4;have hne:∀k,(Value.slice oC acc.length cC).ownBlock=some k->¬Only b k:=λk hk e=>by have:=(HK.o.own k hk).1;have:k=b:=e;omega
  have hS4:=HK.o.sl.ag m4 hne;have Sa:aa (Only b) w w4:=HK.o.md.of_nil.trans m4;have hB4:ak w4 w.heap.size (lV st) 4:=HK.o.sb.ag m4 (show ¬w.heap.size=b by omega);have hbw:b<w4.heap.size:=ak.lt h4;have hob:aH 0 w4 (.slice oT bs.length cT) bs aq:=HT.o.ag (Cv.o.step Sa (λi hi e=>by have:i=b:=e;omega));refine⟨?_,λw5 m5 w6 h6 m6=>?_⟩
  ·have:=Tn w4 _ bs hob acc Cu.o (by omega) _ hS4 st (by have:=HK.o.ln;omega) (.slice (some ⟨w.heap.size,0,none⟩) n n) (by have:=HK.o.ln;exact Tp hB4 this (by omega));exact this
  ·exact⟨_,rfl,h6,(hS4.ag m5 (λ_ _=>id)).ag m6 hne,λk hk=>(HK.o.own k hk).1,(Sa.trans m5.of_nil).trans m6,Cu.o⟩
 cases Tq:acc.length with
 |zero =>rw[Tq]at HFin;obtain rfl:acc=[]:=List.length_eq_zero_iff.1 Tq;have HL:af (zj []=false):=rfl;rw[HL.o]at HFin V8;generalize leadP st 0 []=ld at *;go_wp2_with fail;refine(bI b _ _ _ HK.o.rd).mono ?_;rintro e w4 ⟨rfl,h4,m4⟩;obtain⟨f1,f2⟩:=HFin.o w4 h4 m4;have F2:af _:=f2;clear f2 HFin;go_wp2_with fail;refine f1.mono ?_;rintro e w5 ⟨rfl,m5⟩;have h5:=ak.ag h4 m5 id;have F3:af _:=F2.o w5 m5;clear F2 m5 m4 h4;go_wp2_with fail;refine(bI b _ _ _ h5).mono ?_;rintro e w6 ⟨rfl,h6,m6⟩;have F4:af _:=F3.o w6 h6 m6;clear F3 h6 m6 h5;go_wp2_with fail;go_ret;rw[V8.o];exact F4.o
 |succ j =>
  have hj:j<acc.length:=by omega
  have HL:af (zj acc=acc[j].o.ends):=by
   have:acc.getLast?=some acc[j]:=by rw[List.getLast?_eq_getElem?,show acc.length-1=j by omega];simp[hj]
   rw[af,zj,this]
  obtain⟨g,rfl,hg,q0,_,_,_,_,_,_,_⟩:=kZ HK.o.sl rfl rfl j hj;obtain⟨_,_,q4,_⟩:=(jI (HO.o.ag HK.o.md) acc[j] (Cu.o acc[j] (an hj)).k).cells;rw[Tq]at HFin;rw[HL.o]at HFin V8;generalize acc[j].o.ends=le at *;generalize bs[acc[j].k]?.getD 0=bx at *;generalize leadP st 0 acc=ld at *;have VQ:=ai Tq;have hj2:j<2000:=by omega
  clear Tq hal;go_wp2_with fail;refine(bI b _ _ _ HK.o.rd).mono ?_;rintro e w4 ⟨rfl,h4,m4⟩;obtain⟨f1,f2⟩:=HFin.o w4 h4 m4;have F2:af _:=f2;clear f2 HFin;go_wp2_with fail;refine f1.mono ?_;rintro e w5 ⟨rfl,m5⟩;have h5:=ak.ag h4 m5 id;have F3:af _:=F2.o w5 m5;clear F2 m5 m4 h4;go_wp2_with fail;refine(bI b _ _ _ h5).mono ?_;rintro e w6 ⟨rfl,h6,m6⟩;have F4:af _:=F3.o w6 h6 m6;clear F3 h6 m6 h5;go_wp2_with fail;go_ret;rw[V8.o];exact F4.o
theorem vI:(prog.info? 96).map (λi=>(i.zero,i.size,i.bytes))=some (some (.agg #[.string E0,.slice none 0 0]),2,40):=by kernel_rfl
def mF(x:tLB×Value):List Value:=[.string (T x.1),x.2]
def qE(h:fH):tLB×Value:=(h.name,.slice none 0 0)
def qR(l:List fH):List Value:=l.map (λh=>.int .i64 (h.slots:Nat))
theorem Xv(n:tLB)(o:Option Addr)(k c:Nat):∀u∈[Value.string (T n),.slice o k c],u.oneCell'=true:=by intro u hu;simp only[List.mem_cons,ca,or_false]at hu;rcases hu with rfl|rfl<;>rfl
structure qX(w0:tW)(b:Nat)(q:PR)(v vS:Value)(hs:List fH)(w:tW):Prop where
 rd:dM w b q
 sf:Sl w 96 2 v hs.length ((hs.map qE).flatMap mF)
 ss:Sl w 3 1 vS hs.length (qR hs)
 own:∀k,v.ownBlock=some k->w0.heap.size<=k
 GU:∀k,vS.ownBlock=some k->w0.heap.size<=k
 md:aa (Only b) w0 w
structure CJ(w0:tW)(b:Nat)(q:PR)(v vS:Value)(hs:List fH)(nm:tLB)(w:tW):Prop where
 rd:dM w b q
 sf:Sl w 96 2 v (hs.length+1) ((hs.map qE).flatMap mF++[.string (T nm),.slice none 0 0])
 ss:Sl w 3 1 vS hs.length (qR hs)
 own:∀k,v.ownBlock=some k->w0.heap.size<=k
 GU:∀k,vS.ownBlock=some k->w0.heap.size<=k
 md:aa (Only b) w0 w
theorem qX.read{w0 w w':tW}{b:Nat}{q q':PR}{v vS:Value}{hs:List fH}(h:qX w0 b q v vS hs w)(hr:dM w' b q')(m:aa (Only b) w w'):qX w0 b q' v vS hs w' :=
 ⟨hr,h.sf.ag m (λk hk e=>h.sf.au h.rd (by decide) (hk.trans (congrArg some e))),h.ss.ag m (λk hk e=>h.ss.au h.rd (by decide) (hk.trans (congrArg some e))),h.own,h.GU,h.md.trans m⟩
theorem qX.alloc{w0 w:tW}{b:Nat}{q:PR}{v vS:Value}{hs:List fH}(h:qX w0 b q v vS hs w)(o:Obj):qX w0 b q v vS hs (w.alloc o) :=
 ⟨ak.alloc h.rd o,h.sf.ag ((aa.refl ae w).alloc o) (λ_ _=>id),h.ss.ag ((aa.refl ae w).alloc o) (λ_ _=>id),h.own,h.GU,h.md.alloc o⟩
theorem qX.app{w0 w w':tW}{b:Nat}{q:PR}{v vS v':Value}{hs:List fH}{nm:tLB}(h:qX w0 b q v vS hs w)(s:Sl w' 96 2 v' (hs.length+1) ((hs.map qE).flatMap mF++[.string (T nm),.slice none 0 0]))(m:aa (λk=>v.ownBlock=some k) w w')(l:∀k,v'.ownBlock=some k->v.ownBlock=some k\/w.heap.size<=k):CJ w0 b q v' vS hs nm w' :=
 ⟨ak.ag h.rd m (λe=>h.sf.au h.rd (by decide) e),s,h.ss.ag m (λk hk e=>h.sf.apart h.ss (by decide) e hk),λk hk=>by
  rcases l k hk with e|e
  ·exact h.own k e
  ·have:=h.md.size;omega,h.GU,h.md.step m (λi hi e=>by have:=h.own i e;omega)⟩
theorem CJ.read{w0 w w':tW}{b:Nat}{q q':PR}{v vS:Value}{hs:List fH}{nm:tLB}(h:CJ w0 b q v vS hs nm w)(hr:dM w' b q')(m:aa (Only b) w w'):CJ w0 b q' v vS hs nm w' :=
 ⟨hr,h.sf.ag m (λk hk e=>h.sf.au h.rd (by decide) (hk.trans (congrArg some e))),h.ss.ag m (λk hk e=>h.ss.au h.rd (by decide) (hk.trans (congrArg some e))),h.own,h.GU,h.md.trans m⟩
theorem CJ.alloc{w0 w:tW}{b:Nat}{q:PR}{v vS:Value}{hs:List fH}{nm:tLB}(h:CJ w0 b q v vS hs nm w)(o:Obj):CJ w0 b q v vS hs nm (w.alloc o) :=
 ⟨ak.alloc h.rd o,h.sf.ag ((aa.refl ae w).alloc o) (λ_ _=>id),h.ss.ag ((aa.refl ae w).alloc o) (λ_ _=>id),h.own,h.GU,h.md.alloc o⟩
theorem CJ.app{w0 w w':tW}{b:Nat}{q:PR}{v vS v':Value}{hs:List fH}{nm:tLB}{n:Nat}(h:CJ w0 b q v vS hs nm w)(s:Sl w' 3 1 v' (hs.length+1) (qR hs++[.int .i64 n]))(m:aa (λk=>vS.ownBlock=some k) w w')(l:∀k,v'.ownBlock=some k->vS.ownBlock=some k\/w.heap.size<=k):qX w0 b q v v' (hs++[⟨nm,n⟩]) w' :=
 ⟨ak.ag h.rd m (λe=>h.ss.au h.rd (by decide) e),by simpa [qE,mF]using h.sf.ag m (λk hk e=>h.sf.apart h.ss (by decide) hk e),by simpa [qR]using s,h.own,λk hk=>by
  rcases l k hk with e|e
  ·exact h.GU k e
  ·have:=h.md.size;omega,h.md.step m (λi hi e=>by have:=h.GU i e;omega)⟩
theorem qX.at{w0 w:tW}{b:Nat}{q:PR}{v vS:Value}{hs:List fH}(h:qX w0 b q v vS hs w)(k:Nat)(hk:k<hs.length):∃g c gS cS,v=.slice (some ⟨g,0,none⟩) hs.length c/\vS=.slice (some ⟨gS,0,none⟩) hs.length cS/\w.cell? ⟨g,k*2,none⟩=some (.string (T hs[k].name))/\w.cell? ⟨gS,k,none⟩=some (.int .i64 (hs[k].slots:Nat))/\∀j,w.frozen? ⟨g,j,none⟩=false:=by
 obtain⟨o,c,rfl,h2⟩:=h.sf.view;obtain⟨oS,cS,rfl,h3⟩:=h.ss.view;obtain⟨g,cs,rfl,hb,ht,_⟩:=h2 (by omega);obtain⟨gS,cs',rfl,hb',ht',_⟩:=h3 (by omega);refine⟨g,c,gS,cS,rfl,rfl,?_,?_,λj=>hb.frozen j⟩
 ·rw[hb.cell (k*2),<-Array.getElem?_toList,<-List.getElem?_take_of_lt (show k*2<hs.length*2 by omega),ht];have:=flat_get mF 2 (λ_=>rfl) (hs.map qE) k 0 (by simpa using hk) (by omega);rw[Nat.add_zero]at this;rw[this];simp[mF,qE]
 ·rw[hb'.cell k,<-Array.getElem?_toList,<-List.getElem?_take_of_lt (show k<hs.length*1 by omega),ht'];simp[qR,hk]
structure pG(w:tW)(lo:Nat)(bs:List Nat)(v:Value)(fs:List aS)(vs:List Value):Prop where
 len:vs.length=fs.length
 sl:Sl w 96 2 v fs.length (((fs.map (·.name)).zip vs).flatMap mF)
 cd:∀i (_:i<fs.length) (_:i<vs.length),Sl w 138 8 vs[i] fs[i].code.length (xe bs fs[i].code)
 ok:∀f∈fs,∀x∈f.code,eU x
 own:∀k,v.ownBlock=some k->lo<=k
 l8:∀u∈vs,∀k,u.ownBlock=some k->lo<=k
 ne:∀i j (_:i<vs.length) (_:j<vs.length),i≠j->∀k,vs[i].ownBlock=some k->vs[j].ownBlock≠some k
theorem pG.ag{w w':tW}{lo:Nat}{bs:List Nat}{v:Value}{fs:List aS}{vs:List Value}{S:Nat->Prop}(h:pG w lo bs v fs vs)(m:aa S w w')(h1:∀k,v.ownBlock=some k->¬S k)(h2:∀u∈vs,∀k,u.ownBlock=some k->¬S k):pG w' lo bs v fs vs :=
 ⟨h.len,h.sl.ag m h1,λi a b=>(h.cd i a b).ag m (h2 _ (an b)),h.ok,h.own,h.l8,h.ne⟩
theorem pG.quiet{w w':tW}{lo:Nat}{bs:List Nat}{v:Value}{fs:List aS}{vs:List Value}(h:pG w lo bs v fs vs)(m:aa ae w w'):pG w' lo bs v fs vs :=
 h.ag m (λ_ _=>id) (λ_ _ _ _=>id)
theorem pG.read{w w':tW}{lo:Nat}{bs:List Nat}{v:Value}{fs:List aS}{vs:List Value}{b:Nat}{q:PR}(h:pG w lo bs v fs vs)(hr:dM w b q)(m:aa (Only b) w w'):pG w' lo bs v fs vs :=
 h.ag m (λk hk e=>h.sl.au hr (by decide) (hk.trans (congrArg some e))) (λu hu k hk e=>by obtain⟨i,hi,rfl⟩:=b5 hu;exact(h.cd i (by rw[<-h.len];exact hi) hi).au hr (by decide) (hk.trans (congrArg some e)))
theorem EW(ns:List tLB)(vs:List Value)(k:Nat)(h:k<ns.length)(h':k<vs.length):(ns.zip vs)[k]'(by simp;omega)=(ns[k],vs[k]):=by simp
theorem pG.put{w:tW}{lo g c:Nat}{bs:List Nat}{fs:List aS}{vs:List Value}(k:Nat)(hk:k<fs.length){nf:Nat}(hnf:nf=fs.length)(h:pG w lo bs (.slice (some ⟨g,0,none⟩) nf c) fs vs)(o:Option Addr)(n cp:Nat)(code:List PI)(hn:n=code.length)(s:Sl w 138 8 (.slice o n cp) n (xe bs code))(hok:∀x∈code,eU x)(hlo:∀k,(Value.slice o n cp).ownBlock=some k->lo<=k)(hne:∀u∈vs,∀k,u.ownBlock=some k->(Value.slice o n cp).ownBlock≠some k):pG (w.setCell ⟨g,k*2+1,none⟩ (.slice o n cp)) lo bs (.slice (some ⟨g,0,none⟩) nf c) (fs.set k ⟨fs[k].name,code⟩) (vs.set k (.slice o n cp)):=by
 subst hnf;have zn:k<vs.length:=by rw[h.len];exact hk
 have hkz:k<((fs.map (·.name)).zip vs).length:=by simp;omega
 have m:aa (Only g) w (w.setCell ⟨g,k*2+1,none⟩ (.slice o n cp)):=ax.aY _ _;have hf:∀k',∀v',Sl w 138 8 v' k' (xe bs code)->True:=λ_ _ _=>trivial;have hgn:∀{v':Value} {n':Nat} {xs:List Value},Sl w 138 8 v' n' xs->∀k,v'.ownBlock=some k->¬Only g k:=λs' k' hk' e=>s'.apart h.sl (by decide) hk' (congrArg some (show g=k' from e.symm))
 have hnm:(fs.set k ⟨fs[k].name,code⟩).map (·.name)=fs.map (·.name):=by
  rw[List.map_set]
  exact bj (by simp) (λi h1 h2=>by
   rw[al];split
   ·rename_i e;subst e;simp
   ·rfl)
 refine⟨by simp[h.len],?_,λi h1 h2=>?_,λf hf' x hx=>?_,h.own,λu hu k' hk'=>?_,λi j h1 h2 hij k' hk'=>?_⟩
 ·have:=h.sl.setAt (k*2+1) (.slice o n cp) (by omega);rw[lJ mF 2 (λ_=>rfl) _ k 1 hkz (by omega) (.slice o n cp) (fs[k].name,.slice o n cp) (by rw[EW _ _ k (by simpa using hk) zn];simp[mF])]at this;rw[hnm,bq]
  have e:((fs.map (·.name)).zip vs).set k (fs[k].name,.slice o n cp)=(fs.map (·.name)).zip (vs.set k (.slice o n cp)):=by
   refine bj (by simp) (λi h1 h2=>?_);rw[al];split
   ·rename_i e;subst e;simp
   ·rename_i e
    simp[e]
  rw[e]at this;exact this
 ·rw[bq]at h1 h2;rw[al];by_cases e:k=i
  ·subst e;simp only[al,if_true];subst hn;exact s.ag m (hgn s)
  ·simp only[e,if_false,al];exact(h.cd i h1 h2).ag m (hgn (h.cd i h1 h2))
 ·rcases bh hf' with h'|h'
  ·exact h.ok f h' x hx
  ·subst h';exact hok x hx
 ·rcases bh hu with h'|h'
  ·exact h.l8 u h' k' hk'
  ·subst h';exact hlo k' hk'
 ·rw[bq]at h1 h2;rw[al]at hk' ⊢;by_cases e:k=i
  ·subst e;rw[iP9 rfl]at hk';rw[iN9 hij];intro e2;exact hne _ (an h2) k' e2 hk'
  ·rw[iN9 e]at hk';by_cases e2:k=j
   ·subst e2;rw[iP9 rfl];exact hne _ (an h1) k' hk'
   ·rw[iN9 e2];exact h.ne i j h1 h2 hij k' hk'
def iZ(h:fH):aS:=⟨h.name,[]⟩
theorem qX.fns{w0 w:tW}{b:Nat}{q:PR}{v vS:Value}{hs:List fH}(h:qX w0 b q v vS hs w)(bs:List Nat):pG w w0.heap.size bs v (hs.map iZ) (ab hs.length (.slice none 0 0)):=by
 refine⟨by simp,?_,λi h1 h2=>?_,λf hf x hx=>?_,h.own,λu hu k hk=>?_,λi j h1 h2 _ k hk=>?_⟩
 ·have e:((hs.map iZ).map (·.name)).zip (ab hs.length (.slice none 0 0))=hs.map qE:=by refine bj (by simp) (λi h1 h2=>?_);simp[iZ,qE]
  rw[e]
  simpa using h.sf
 ·simp only[List.getElem_map,bO,iZ];exact Sl.nil _ _ _
 ·obtain⟨h',_,rfl⟩:=List.mem_map.1 hf;cases hx
 ·rw[List.eq_of_mem_replicate hu]at hk;cases hk
 ·rw[bO]at hk;cases hk
theorem Tt(q:PR):(iY q).1<65536:=by
 have h1:=yN q;have h2:=yN (oneP q).2;show(oneP q).1+256*(oneP (oneP q).2).1<65536
 omega
def GV(l:List fH):Nat:=(l.map (·.slots)).sum
theorem GW(l:List fH)(h:fH)(hm:h∈l):h.slots<=GV l:=by
 induction l with
 |nil=>cases hm
 |cons x l ih =>
  simp only[GV,List.map_cons,List.sum_cons]at *;rcases List.mem_cons.1 hm with rfl|hm
  ·omega
  ·have:=ih hm;omega
theorem L7(n:Nat)(q:PR):(bU n q).1.length<=n:=by
 unfold bU;split
 ·simp;omega
 ·simp;omega
def yL(w:tW)(b:Nat)(bs:List Nat)(q:PR)(fs:List aS)(e:Ending)(w':tW):Prop :=
 ∃v vs,e=.returned v/\dM w' b q/\pG w' w.heap.size bs v fs vs/\aa (Only b) w w'
theorem set_mid{α:Type}(acc l:List α)(x y:α):(acc++x::l).set acc.length y=(acc++[y])++l:=by rw[List.set_append,iN9 (by omega),aE,List.set_cons_zero,List.append_assoc];rfl
theorem mX{α:Type}(acc l:List α)(x:α)(h:acc.length<(acc++x::l).length):(acc++x::l)[acc.length]=x:=by rw[ao (ar _)];simp
theorem Dv(w:tW)(b:Nat)(q:PR)(h:dM w b q)(hl:q.rest.length<=maxLen)(wT:tW)(tv:Value)(bs:List Nat)(hT:aH 0 wT tv bs aq)(mT:aa ae wT w)(hbT:wT.heap.size<=b):Calls prog 100 #[.pointer (some ⟨b,0,none⟩),tv] w λe w'=>yL w b bs (jH q).2 (jH q).1 e w':=by
 obtain⟨iF,hiF,hzF,hsF,Pg⟩:=info_parts vI;obtain⟨iN,hiN,hzN,hsN,hbN⟩:=info_parts Sb;have hb:b<w.heap.size:=ak.lt h;have H1:af (∀w,dM w b q->Calls prog 98 #[.pointer (some ⟨b,0,none⟩)] w λe w'=>e=.returned (.int .i64 ((oneP q).1:Nat))/\dM w' b (oneP q).2/\aa (Only b) w w'):=λw h=>kY b q w h hl;have l1:=yN q;have hl1:=ba (fP q) hl;have hfp:jH q=(let hd:=headsP (oneP q).1 (aI (decide ((oneP q).1<=16)) (oneP q).2) [] 0 [];let q3:=aI (decide (hd.2.1<=200)) hd.2.2;if q3.bad then([],q3)else codesP hd.1 q3 []):=rfl;simp only at hfp;have aar:af _:=hfp;clear hfp;generalize oneP q=r1 at *;obtain⟨n,q1⟩:=r1;simp only at *;have hd:decide ((n:Int)<=16)=decide (n<=16):=by simp;omega
 have hl2:(aI (decide (n<=16)) q1).rest.length<=maxLen:=hl1;have HQ:af (∃q2,aI (decide (n<=16)) q1=q2):=⟨_,rfl⟩
 obtain⟨q2,hq2⟩:=HQ.o;rw[hq2]at hl2 aar;have WM:=ai hq2;clear hq2 HQ;have HFP:=ai aar.o;clear aar;have HT:=ai hT;have Cv:=ai mT;obtain⟨oT,cT,hv,_⟩:=hT.sl.view;subst hv;clear hT mT;go_enter func100,ntmps100;go_wp2_with fail;refine(H1.o _ h).mono ?_;rintro e w1 ⟨rfl,h1,m1⟩;go_wp2_with fail;refine(bI b _ _ _ h1).mono ?_;rintro e w2 ⟨rfl,h2,m2⟩;have hI:qX w b (aI (decide (n<=16)) q1) (.slice none 0 0) (.slice none 0 0) [] w2:=⟨h2,Sl.nil _ _ _,Sl.nil _ _ _,λk hk=>(by cases hk),λk hk=>(by cases hk),m1.trans m2⟩
 rw[WM.o]at hI;clear h1 h2 m1 m2 hd;have HI0:af _:=hI;clear hI;go_upto_block 0 with fail;go_cut [5,6,8] (λv vS all wx=>∃(hs:List fH) (tot:Nat) (q3:PR),qX w b q3 v vS hs wx/\headsP n q2 [] 0 []=(hs,tot,q3)/\all=.int .i64 tot/\hs.length=n/\tot=GV hs/\tot<=n*65536/\q3.rest.length<=maxLen)
 case first =>
  go_wp2_with fail;go_loopg [5,6,7,8,19] n (λg v vS last all i wl=>∃(k:Nat) (acc:List fH) (tot:Nat) (r:PR) (lY:tLB),i=.int .i64 k/\last=.string (T lY)/\all=.int .i64 tot/\qX w b r v vS acc wl/\headsP (n-k) r lY tot acc=headsP n q2 [] 0 []/\k<=n/\g=n-k/\acc.length=k/\tot=GV acc/\tot<=k*65536/\r.rest.length<=maxLen)
  case atStart=>exact⟨0,[],0,q2,[],rfl,rfl,rfl,HI0.o,rfl,bt _,rfl,rfl,rfl,bt _,hl2⟩
  case round =>
   obtain⟨k,acc,tot,r,lY,rfl,rfl,rfl,hI2,iA,hk,rfl,hal,htot,hbd,hrl⟩:=hrel;have HR:af _:=iA;have Xw:=ai htot;clear iA HI0 htot;by_cases hkn:k<n
   ·obtain⟨j,hj⟩:∃j,n-k=j+1:=⟨n-k-1,by omega⟩
    have HJ:=ai hj;have kE:headsP j (aI (ZA lY (dA r).1) (iY (dA r).2).2) (dA r).1 (tot+(iY (dA r).2).1) (acc++[⟨(dA r).1,(iY (dA r).2).1⟩])=headsP n q2 [] 0 []:=by rw[<-HR.o,hj];rfl
    clear HR hj;have HN:af (∀w,dM w b r->Calls prog 168 #[.pointer (some ⟨b,0,none⟩)] w λe w'=>e=.returned (.string (T (dA r).1))/\dM w' b (dA r).2/\aa (Only b) w w'):=λw h=>yH b r w h hrl;have z1:=ba (tu r) hrl;generalize dA r=p0 at *;obtain⟨nm,r0⟩:=p0;simp only at *;have H2:af (∀w,dM w b r0->Calls prog 170 #[.pointer (some ⟨b,0,none⟩)] w λe w'=>e=.returned (.int .i64 ((iY r0).1:Nat))/\dM w' b (iY r0).2/\aa (Only b) w w'):=λw h=>EU b r0 w h z1;have z2:=ba (xC r0) z1;have y2:=Tt r0;generalize iY r0=p1 at *;obtain⟨sn,r1⟩:=p1;simp only at *;have xX:af _:=kE;clear kE;have Ro:af (ZA lY nm=Op.bytesLess (T lY).toList (T nm).toList):=rfl;obtain⟨o5,c5,rfl,_⟩:=hI2.sf.view;obtain⟨o6,c6,rfl,_⟩:=hI2.ss.view;subst hal;go_wp2_with fail;refine(HN.o _ hI2.rd).mono ?_;rintro e w3 ⟨rfl,h3,m3⟩;have Zh:=hI2.read h3 m3;have HI3:=ai Zh;clear h3 m3 hI2 Zh;go_wp2_with (at_builtin;go_loud (refine aL _ rfl (.tmp 22) (.tmp 26) 88 rfl 96 iF (.agg #[.string E0,.slice none 0 0]) 2 40 underlying88 hiF hzF hsF Pg rfl (by decide) (.slice o5 acc.length c5) acc.length ((acc.map qE).flatMap mF) rfl (HI3.o.alloc _).sf ⟨w3.heap.size,0,none⟩ 1 1 [.string (T nm),.slice none 0 0] rfl rfl (aV _ _ _ _ rfl) (Xv _ _ _ _) (by unfold maxLen;omega) (by omega) ?_;intro vA wA sA mA lA;have Ct:af (CJ w b r0 vA (.slice o6 acc.length c6) acc nm wA):=(HI3.o.alloc _).app sA mA lA;obtain⟨oA,cA,rfl,_⟩:=Sl.view sA;clear sA mA lA HI3));refine(H2.o _ Ct.o.rd).mono ?_;rintro e w4 ⟨rfl,h4,m4⟩;have hM4:=Ct.o.read h4 m4;have fU:=ai hM4;clear h4 m4 hM4 Ct;go_wp2_with (at_builtin;go_loud (refine aL _ rfl (.tmp 28) (.tmp 31) 40 rfl 3 iN (.int .i64 0) 1 8 underlying40 hiN hzN hsN hbN rfl (by decide) (.slice o6 acc.length c6) acc.length (qR acc) rfl (fU.o.alloc _).ss ⟨w4.heap.size,0,none⟩ 1 1 [.int .i64 sn] rfl rfl (aV _ _ _ _ rfl) (Wy _) (by unfold maxLen;omega) (by omega) ?_;intro vB wB sB mB lB;have Tu:af (qX w b r1 (.slice oA (acc.length+1) cA) vB (acc++[⟨nm,sn⟩]) wB):=(fU.o.alloc _).app sB mB lB;obtain⟨oB,cB,rfl,_⟩:=Sl.view sB;clear sB mB lB fU;obtain⟨gA,kA,gB,kB,eA,eB,x0,x1,_⟩:=Tu.o.at acc.length (by simp);simp only[b9,cj,List.length_nil,Value.slice.injEq]at eA eB;obtain⟨rfl,_,rfl⟩:=eA;obtain⟨rfl,_,rfl⟩:=eB;simp only[ao (ar _),aE,bQ]at x0 x1));refine(bI b _ _ _ Tu.o.rd).mono ?_;rintro e wC ⟨rfl,hC,mC⟩;have hIC:=Tu.o.read hC mC;obtain⟨gA',kA',gB',kB',eA,eB,v0,v1,_⟩:=hIC.at acc.length (by simp);simp only[b9,cj,List.length_nil,Value.slice.injEq]at eA eB;obtain⟨⟨rfl⟩,_,rfl⟩:=eA;obtain⟨⟨rfl⟩,_,rfl⟩:=eB;simp only[ao (ar _),aE,bQ]at v0 v1;have HIC:af (qX w b (aI (ZA lY nm) r1) (.slice (some ⟨gA,0,none⟩) (acc.length+1) cA) (.slice (some ⟨gB,0,none⟩) (acc.length+1) cB) (acc++[⟨nm,sn⟩]) wC):=hIC;clear hIC hC mC x0 x1 Tu;go_wp2_with fail;go_roundg (n-(acc.length+1))
    case measure=>omega
    case rel=>exact⟨acc.length+1,acc++[⟨nm,sn⟩],tot+sn,aI (ZA lY nm) r1,nm,by go_num,rfl,by go_num,HIC.o,by rw[show n-(acc.length+1)=j by have:=HJ.o;omega];exact xX.o,by omega,rfl,by simp,by rw[Xw.o];simp[GV],by omega,z2⟩
   ·obtain rfl:k=n:=by omega
    have HE:af (headsP k q2 [] 0 []=(acc,tot,r)):=by rw[af,<-HR.o,aE];rfl
    go_wp2_with fail;go_meet;exact⟨acc,tot,r,hI2,HE.o,rfl,hal,Xw.o,hbd,hrl⟩
 case rest =>
 obtain⟨hs,tot,q3,hI,hE,rfl,hal,htot,hbd,hrl⟩:=hcut;subst hal;rw[hE]at HFP;simp only at HFP;have HI:=ai hI;have Xw:=ai htot;clear hE HI0 hI htot;have hd2:decide ((tot:Int)<=200)=decide (tot<=200):=by simp;omega
 go_wp2_with fail;refine(bI b _ _ _ HI.o.rd).mono ?_;rintro e w4 ⟨rfl,h4,m4⟩;have Rp:=HI.o.read h4 m4;have hq4:(aI (decide (tot<=200)) q3).bad=false->tot<=200:=λe=>by simp[aI]at e;omega
 have HQ4:af _:=hq4;have hr4:(aI (decide (tot<=200)) q3).rest.length<=maxLen:=hrl;clear hq4 h4 m4 hd2;generalize aI (decide (tot<=200)) q3=q4 at *;obtain⟨L8,ab7⟩:=q4;have c1:w4.cell? ⟨b,1,none⟩=some (.bool ab7):=ak.cell Rp.rd 1;cases ab7 with
 |true =>simp only[if_true]at HFP;have HI4:af _:=Rp;clear Rp;go_wp2_with fail;go_ret;rw[HFP.o];exact⟨_,[],rfl,HI4.o.rd,⟨rfl,Sl.nil _ _ _,λi h=>absurd h (Nat.not_lt_zero _),λf h=>(by cases h),λk h=>(by cases h),λu h=>(by cases h),λi j h=>absurd h (Nat.not_lt_zero _)⟩,HI4.o.md⟩
 |false =>
  simp only[Bool.false_eq_true,if_false]at HFP;have ht:=HQ4.o rfl;have HS:af (∀h∈hs,h.slots<=200):=λh hm=>by have:=GW hs h hm;rw[<-Xw.o]at this;omega
  obtain⟨o5,c5,rfl,_⟩:=Rp.sf.view;obtain⟨o6,c6,rfl,_⟩:=Rp.ss.view;have HFs:af (pG w4 w.heap.size bs (.slice o5 hs.length c5) (hs.map iZ) (ab hs.length (.slice none 0 0))):=Rp.fns bs;have HI4:=ai Rp;clear Rp;go_wp2_with fail;go_loopg [64] hs.length (λg i wl=>∃(k:Nat) (acc:List aS) (vs:List Value) (r:PR),i=.int .i64 k/\pG wl w.heap.size bs (.slice o5 hs.length c5) (acc++(hs.drop k).map iZ) (vs++ab (hs.length-k) (.slice none 0 0))/\dM wl b r/\Sl wl 3 1 (.slice o6 hs.length c6) hs.length (qR hs)/\aa (Only b) w wl/\codesP (hs.drop k) r acc=codesP hs ⟨L8,false⟩ []/\k<=hs.length/\g=hs.length-k/\acc.length=k/\vs.length=k/\r.rest.length<=maxLen)
  case atStart=>exact⟨0,[],[],⟨L8,false⟩,rfl,HFs.o,HI4.o.rd,HI4.o.ss,HI4.o.md,rfl,bt _,rfl,rfl,rfl,hr4⟩
  case round =>
   obtain⟨k,acc,vs,r,rfl,hF,hR,hSS,hM,hcp,hk,rfl,hal,hvl,hrl2⟩:=hrel;have HF:=ai hF;have HR:=ai hR;have HSS:=ai hSS;have HM:=ai hM;have HCp:=ai hcp;clear hF hR hSS hM hcp HFs HI4;by_cases hkn:k<hs.length
   ·obtain⟨gS,rfl,cS⟩:=HSS.o.at rfl k hkn;have y1:=cS k hkn;have e1:(qR hs)[k]?=some (.int .i64 (hs[k].slots:Nat)):=by simp[qR,hkn]
    rw[e1]at y1;have hsl:=HS.o hs[k] (an hkn);obtain⟨hdk,hdt⟩:∃x,hs.drop k=x::hs.drop (k+1)/\x=hs[k]:=⟨_,List.drop_eq_getElem_cons hkn,rfl⟩
    obtain⟨hdr,hdx⟩:=hdt;rw[<-hdx]at y1 hsl;obtain⟨nm,sn⟩:=hdk;simp only at y1 hsl;have hF3:=HF.o;rw[hdr,show hs.length-k=(hs.length-(k+1))+1 by omega,List.replicate_succ,List.map_cons]at hF3;have HC2:codesP (hs.drop (k+1)) (codeP (bU (sn*8) r).1 (bU (sn*8) r).2).2 (acc++[⟨nm,(codeP (bU (sn*8) r).1 (bU (sn*8) r).2).1⟩])=codesP hs ⟨L8,false⟩ []:=by rw[<-HCp.o,hdr];rfl
    clear HF HCp e1 cS hdr hdx;have HTk:af (∀w,dM w b r->Calls prog 97 #[.pointer (some ⟨b,0,none⟩),.int .i64 ((sn:Int)*8)] w λe w'=>e=.returned (.string (T (bU (sn*8) r).1))/\dM w' b (bU (sn*8) r).2/\aa (Only b) w w'):=λw h=>by rw[show((sn:Int)*8)=((sn*8:Nat):Int) by omega];exact oq b r (sn*8) w h hrl2 (by unfold maxLen;omega)
    have htl:=L7 (sn*8) r;have htr:=ba (take_len (sn*8) r) hrl2;generalize bU (sn*8) r=tk at *;obtain⟨tl,rk⟩:=tk;simp only at *;have HCd:af (∀w5,dM w5 b rk->aa (Only b) w w5->Calls prog 171 #[.pointer (some ⟨b,0,none⟩),.slice oT bs.length cT,.string (T tl)] w5 λe w'=>Bc w5 b bs (codeP tl rk).2 (codeP tl rk).1 e w'):=λw5 h5 m5=>code_any w5 b rk h5 wT _ bs HT.o (Cv.o.step m5 (λi hi e=>by have:i=b:=e;omega)) hbT tl (by omega);have hcr:(codeP tl rk).2.rest=rk.rest:=by unfold codeP;split<;>rfl
    rw[<-hcr]at htr;generalize codeP tl rk=ck at *;obtain⟨code,rc⟩:=ck;simp only at *;have V9:=ai hF3;have Ph:af _:=HC2;clear hF3 HC2 hcr;obtain⟨o5',c5',e5,f5⟩:=V9.o.sl.view;have hfl:(acc++iZ ⟨nm,sn⟩::(hs.drop (k+1)).map iZ).length=hs.length:=by simp;omega
    rw[hfl]at e5 f5;cases e5;obtain⟨g,csg,rfl,_⟩:=f5 (by omega);have HFl:=ai hfl;clear f5 hfl;subst hal;go_wp2_with fail;refine(HTk.o _ HR.o).mono ?_;rintro e w5 ⟨rfl,h5,m5⟩;have HF5:af _:=V9.o.read HR.o m5;have GX:af (Sl w5 3 1 (.slice (some ⟨gS,0,none⟩) hs.length c6) hs.length (qR hs)):=HSS.o.ag m5 (λk hk e=>HSS.o.au HR.o (by decide) (hk.trans (congrArg some e)));have iC:=ai (HM.o.trans m5);have hsz5:=m5.size;clear m5 HSS HM HR;go_wp2_with fail;refine(HCd.o _ h5 iC.o).mono ?_;rintro e w6 ⟨vc,rfl,h6,s6,aas,m6,ok6⟩;obtain⟨oc,cc,rfl,_⟩:=s6.view;have hF6:=HF5.o.read h5 m6;have LK:af (Sl w6 3 1 (.slice (some ⟨gS,0,none⟩) hs.length c6) hs.length (qR hs)):=GX.o.ag m6 (λk hk e=>GX.o.au h5 (by decide) (hk.trans (congrArg some e)));have sW:=ai (iC.o.trans m6);obtain⟨csg,hbg,hsb⟩:=(show Sl w6 96 2 (.slice (some ⟨g,0,none⟩) hs.length c5) hs.length _ from HFl.o ▸ hF6.sl).blk
    obtain⟨y3,hy3⟩:∃y3,w6.cell? ⟨g,acc.length*2+1,none⟩=some y3:=by
     rw[hbg.cell,hsb.get _ (by omega)];have hz:acc.length<(((acc++iZ ⟨nm,sn⟩::(hs.drop (acc.length+1)).map iZ).map (·.name)).zip (vs++.slice none 0 0::ab (hs.length-(acc.length+1)) (.slice none 0 0))).length:=by simp;omega
     rw[flat_get mF 2 (λ_=>rfl) _ acc.length 1 hz (by omega)];exact⟨_,rfl⟩
    have fy3:=hbg.frozen (acc.length*2+1);have hmd:∀h':acc.length<(acc++iZ ⟨nm,sn⟩::(hs.drop (acc.length+1)).map iZ).length,(acc++iZ ⟨nm,sn⟩::(hs.drop (acc.length+1)).map iZ)[acc.length]=iZ ⟨nm,sn⟩:=λh'=>mX _ _ _ h';have hput:=hF6.put acc.length (by simp) HFl.o.symm oc code.length cc code rfl s6 ok6 (λk hk=>ba iC.o.size (aas k hk)) (λu hu k hk e=>by obtain⟨i,hi,rfl⟩:=b5 hu;have h1:=(HF5.o.cd i (by rw[<-HF5.o.len];exact hi) hi).lt k hk;have h2:=aas k e;omega);rw[hmd,set_mid]at hput;rw[show acc.length=vs.length by omega,set_mid]at hput;rw[hvl]at hput;have aea:=ai hput;have aeb:af (dM (w6.setCell ⟨g,acc.length*2+1,none⟩ (.slice oc code.length cc)) b rc):=ak.setOther h6 (λe=>by simp only at e;subst e;unfold dM ak at h6;unfold ak at hbg;rw[h6]at hbg;cases hbg) _;have aec:af (Sl (w6.setCell ⟨g,acc.length*2+1,none⟩ (.slice oc code.length cc)) 3 1 (.slice (some ⟨gS,0,none⟩) hs.length c6) hs.length (qR hs)):=LK.o.ag ((aa.refl (Only g) w6).aY _ _) (λk hk e=>LK.o.au hbg (by decide) (hk.trans (congrArg some e)));have aed:af (aa (Only b) w (w6.setCell ⟨g,acc.length*2+1,none⟩ (.slice oc code.length cc))):=sW.o.set (.inr (hF6.own g rfl)) _;clear hput hF6 LK sW h6 s6 aas m6 ok6 hbg hsb hmd HF5 GX iC h5;go_wp2_with fail;go_roundg (hs.length-(acc.length+1))
    case measure=>omega
    case rel=>exact⟨acc.length+1,acc++[⟨nm,code⟩],vs++[.slice oc code.length cc],rc,by go_num,aea.o,aeb.o,aec.o,aed.o,Ph.o,by omega,rfl,by simp,by simp[hvl],htr⟩
   ·obtain rfl:k=hs.length:=by omega
    have HE:af (codesP hs ⟨L8,false⟩ []=(acc,r)):=by rw[af,<-HCp.o,cq];rfl
    have hF2:=HF.o;rw[cq,aE]at hF2;simp only[List.map_nil,List.append_nil,List.replicate_zero]at hF2;have ZH:af _:=hF2;clear hF2;go_wp2_with fail;go_ret;rw[HFP.o,HE.o];exact⟨_,vs,rfl,HR.o,ZH.o,HM.o⟩
theorem jJ(w:tW)(b:Nat)(o:dY)(hA:bY w b o)(d:Int)(s:Nat)(num high jump:Int)(label name:tBA):Calls prog 84 #[.agg #[.pointer (some ⟨b,0,none⟩),.int .u8 d,.int .u8 s,.int .i16 jump,.int .i32 num,.int .i32 high,.string label,.string name]] w λe w'=>e=.returned (.int .i64 ((if s=1 then o.aO else 0:Nat):Int))/\aa ae w w':=by
 have hA1:=(hA.ag (ax.alloc (.cells #[.pointer (some ⟨b,0,none⟩),.int .u8 d,.int .u8 s,.int .i16 jump,.int .i32 num,.int .i32 high,.string label,.string name] 138))).cells;obtain⟨_,_,_,z5⟩:=hA1;generalize o.aO=rf at *;by_cases h1:s=1
 ·subst h1;simp only[Int.cast_ofNat_Int]at *;go_enter func84,ntmps84;go_wp2_with fail;go_ret;exact⟨rfl,aj⟩
 ·have h2:¬((s:Int)=1):=by omega
  go_enter func84,ntmps84;go_wp2_with fail;go_ret;exact⟨rfl,aj⟩
theorem L9{w:tW}{ms:List az}{v:Value}{n:Nat}(h:Sl w 100 4 v n (ms.flatMap az.cells))(hn:n=ms.length){o:Option Addr}{c:Nat}(hv:v=.slice o n c)(k:Nat)(hk:k<ms.length):∃g,o=some ⟨g,0,none⟩/\w.cell? ⟨g,k*4,none⟩=some (.string (T ms[k].name))/\w.cell? ⟨g,k*4+1,none⟩=some (.int .u8 ms[k].key)/\w.cell? ⟨g,k*4+2,none⟩=some (.int .u8 ms[k].value)/\w.cell? ⟨g,k*4+3,none⟩=some (.int .u8 ms[k].entries):=by
 obtain⟨o',c',hv',h2⟩:=h.view;rw[hv]at hv';cases hv';obtain⟨g,cs,rfl,hb,ht,_⟩:=h2 (by omega);have key:∀j,j<4->w.cell? ⟨g,k*4+j,none⟩=(az.cells ms[k])[j]?:=λj hj=>by rw[hb.cell (k*4+j),<-Array.getElem?_toList,<-List.getElem?_take_of_lt (show k*4+j<n*4 by omega),ht];exact flat_get az.cells 4 (λ_=>rfl) ms k j hk hj
 exact⟨g,rfl,key 0 (by omega),key 1 (by omega),key 2 (by omega),key 3 (by omega)⟩
