import Derived.Test.YthnphhgpfedeeaaGreatDoorCF19
namespace Go.Proofs.YthnphhgpfedeeaaGreatDoor
open Go.RowKit Tryz
open List renaming getElem_mem->ab
open Option renaming isSome_some->al,getD_some->an
set_option linter.all false
set_option maxRecDepth 100000
set_option maxHeartbeats 4000000
def Tg(t:tLB):Prop:=∃x,bT t=some x/\2<=x.kind/\x.kind<=4
theorem OZ{l:tLB}{x:dN}(h:uU l=some x):x.kind=1:=by
 unfold uU at h;split at h
 ·obtain⟨a,_,h⟩:=Option.bind_eq_some_iff.1 h;obtain⟨b,_,h⟩:=Option.bind_eq_some_iff.1 h;obtain⟨c,_,h⟩:=Option.bind_eq_some_iff.1 h;split at h
  ·cases h;rfl
  ·cases h
 ·cases h
theorem Xk(wT w:tW)(v:Value)(bs:List Nat)(t:tLB)(hO:aH 0 wT v bs aq)(m:aa ae wT w)(hE:Env w)(hM:mE w)(ht:t.length<=1000000)(hq:Tg t):Calls prog 71 #[v,.string (T t)] w λe w'=>bK w bs (bT t) e w':=by
 obtain⟨x,hx,h2,_⟩:=hq;cases hn:jE t with
 |none=>rw[J5 hn]at hx;cases hx
 |some l =>
  have hp:=qA hn;by_cases hs:ay l=[]
  ·rw[hp,iP9 hs]at hx;cases hx;exact absurd h2 (by decide)
  ·cases hk:aP 58 (aG l).2 with
   |true=>exact OU wT w v bs t hO m hE hM ht l hn hs hk
   |false =>
    by_cases h1:(aG l).1=[109,97,112]
    ·rw[hp,iN9 hs,iN9 (by rw[hk];exact Bool.false_ne_true),iP9 h1]at hx;have:=OZ hx;omega
    ·by_cases h2:(aG l).1=[102,117,110,99]
     ·exact OV wT w v bs t hO m hE hM ht l hn hs hk h2
     ·exact OW wT w v bs t hO m hE hM ht l hn hs hk h1 h2
theorem parseT_any(wT w:tW)(v:Value)(bs:List Nat)(l:tLB)(hO:aH 0 wT v bs aq)(m:aa ae wT w)(hE:Env w)(hM:mE w)(hl:l.length<=1000000)(hq:∀t∈linesP l,Tg t)(hs:∃ls,parseP (linesP l) false 0 []=.inl ls):Calls prog 41 #[v,.string (T l)] w λe w'=>ES w bs (parseP (linesP l) false 0 []) e w':=by
 have HSP:af (Calls prog 70 #[.string (T l),.string ⟨#[10]⟩] w λe w'=>∃n,e=.returned (.slice (some ⟨w.heap.size,0,none⟩) (linesP l).length n)/\w'=w.alloc (.cells ((linesP l).map (λt=>Value.string (T t))).toArray 9)):=J6 l w hM hl;have VY:af (∀t w',t∈linesP l->aa ae w w'->Calls prog 71 #[v,.string (T t)] w' λe w''=>bK w' bs (bT t) e w''):=λt w' ht m'=>Xk wT w' v bs t hO (m.trans m') (hE.ag m') (hM.ag m') (by have:=aan ht;omega) (hq t ht);have HQ:=ai hq;have HS:=ai hs;have HNL:af ((linesP l).length<=1000001):=by have:=Dk l;rw[af];omega
 have rQ:af (∀e w' u ls,parseP (linesP l) false 0 []=.inl ls->fG w u bs ls w'->e=.returned (.tuple #[u,.int .i64 0])->ES w bs (parseP (linesP l) false 0 []) e w'):=λe w' u ls h1 h2 h3=>by rw[h1];exact⟨u,h3,h2⟩
 have HDR:af (∀k (hk:k<(linesP l).length) lH n acc,parseP ((linesP l).drop k) lH n acc=match bT (linesP l)[k]with
  |none=>.inr (n+1)
  |some x=>if(lH||x.kind==2)=false/\(x.kind=3\/x.kind=4)then .inr (n+1)else parseP ((linesP l).drop (k+1)) (lH||x.kind==2) (n+1) (acc++[x])):=λk hk lH n acc=>GG _ k hk lH n acc
 obtain⟨iP,hiP,rX,hsP,wj⟩:=info_parts AR;obtain⟨vo,vc,rfl,_⟩:=hO.sl.view;generalize ES w bs (parseP (linesP l) false 0 [])=PA at *;clear hO m hE hM hq hs;generalize linesP l=ts at *;have ZB:af (∃pr,pr=parseP ts false 0 []):=⟨_,rfl⟩
 generalize hpr:parseP ts false 0 []=pr at *;have Xl:=ai hpr;clear hpr ZB;go_enter func41,ntmps41;go_wp2_with fail;refine HSP.o.mono ?_;rintro e w1 ⟨nc,rfl,hw1⟩;have HTB:af (ak w1 w.heap.size (ts.map (λt=>Value.string (T t))).toArray 9):=by rw[hw1];exact ak.new w _ _
 have HA0:af (fG w (.slice none 0 0) bs [] w1):=by rw[hw1];exact(fG.nil w bs).quiet aj
 have dh:=ai HA0.o.md;have Cr:af (w1.heap.size=w.heap.size+1):=by rw[af,hw1];simp
 clear hw1 HSP;have hnl:=HNL.o;go_wp2_with fail;go_loopg [6,7,15] ts.length (λq v6 v7 v15 wx=>∃(k:Nat) (lH:Bool) (acc:List dN),k<=ts.length/\v15=.int .i64 k/\v7=.bool lH/\fG w v6 bs acc wx/\aa ae w1 wx/\parseP (ts.drop k) lH k acc=pr/\acc.length=k/\q=ts.length-k)
 case atStart=>exact⟨0,false,[],Nat.zero_le _,rfl,rfl,HA0.o,ax,Xl.o,rfl,rfl⟩
 case round =>
  obtain⟨k,lH,acc,hk,rfl,rfl,hA,hmk,hP,hak,rfl⟩:=hrel;have HA:=ai hA;have HP:=ai hP;have uV:=ai hmk;have HAK:=ai hak;clear hA hP hmk hak HA0 Xl;by_cases hlt:k<ts.length
  ·have t0:wr.cell? ⟨w.heap.size,k,none⟩=some (.string (T ts[k])):=by rw[(HTB.o.ag uV.o id).cell k];simp[hlt]
   have HD:af (pr=match bT ts[k]with
    |none=>.inr (k+1)
    |some x=>if(lH||x.kind==2)=false/\(x.kind=3\/x.kind=4)then .inr (k+1)else parseP (ts.drop (k+1)) (lH||x.kind==2) (k+1) (acc++[x])):=by rw[af,<-HP.o];exact HDR.o k hlt lH k acc
   have Zd:af (Calls prog 71 #[.slice vo bs.length vc,.string (T ts[k])] wr λe w''=>bK wr bs (bT ts[k]) e w''):=VY.o ts[k] wr (ab hlt) HA.o.md;have VZ:=ai (HQ.o ts[k] (ab hlt));clear HDR HP;generalize ts[k]=t at *;go_wp2_with fail;refine Zd.o.mono ?_;intro e w2 hpo;obtain⟨m2,hpo⟩:=hpo;have HA2:=ai (HA.o.quiet m2);have dD:=ai (uV.o.trans m2);clear m2 HA uV Zd t0;obtain⟨x,hlp,hk2,hk4⟩:=VZ.o;rw[hlp]at hpo;have he:e=.returned (.tuple #[.agg (x.cells bs),.bool true]):=hpo;subst he;clear hpo;have nE:af ((x.cells bs).size=20):=gT bs x;have V4:af ((x.cells bs)[0]?=some (.int .i64 x.kind)):=qB bs x;have GM:af ((x.cells bs).all (·.oneCell')=true):=cells_one bs x;have HD2:af (pr=if(lH||x.kind==2)=false/\(x.kind=3\/x.kind=4)then .inr (k+1)else parseP (ts.drop (k+1)) (lH||x.kind==2) (k+1) (acc++[x])):=by rw[af,HD.o,hlp]
   have HB2:af (ak (w2.alloc (.cells (xg 0 ⟨#[]⟩ aT aT aT) 160)) w2.heap.size (xg 0 ⟨#[]⟩ aT aT aT) 160):=ak.new w2 _ _;have HAP:af (∀(wA wB:tW) (vB:Value),fG w u6 bs acc wA->Sl wB 160 20 vB (acc.length+1) (acc.flatMap (λx=>(x.cells bs).toList)++(x.cells bs).toList)->aa (λk=>u6.ownBlock=some k) wA wB->(∀k,vB.ownBlock=some k->u6.ownBlock=some k\/wA.heap.size<=k)->fG w vB bs (acc++[x]) wB):=λwA wB vB h=>h.app
   have HT:af ((lH||x.kind==2)=true):=by
    cases hb:(lH||x.kind==2)with
    |true=>rfl
    |false =>obtain⟨ls,h⟩:=HS.o;have h2:=HD2.o;rw[h,iP9 ⟨hb,(by have:x.kind≠2:=(λe=>by simp[e]at hb);omega)⟩]at h2;cases h2
   have HE2:af (parseP (ts.drop (k+1)) true (k+1) (acc++[x])=pr):=by rw[af,HD2.o,iN9 (by rw[HT.o];rintro⟨h,_⟩;cases h),HT.o]
   clear HD hlp HD2 HQ VZ;generalize x.cells bs=cs at *;go_upto_region 7 with(refine fw rfl 160 (.tmp 10) (.tmp 24) rfl w2.heap.size (cs) rfl rfl 160 _ HB2.o (by rw[nE.o];kernel_rfl) (by rw[nE.o];rfl) (GM.o) ?_;intro W3 hB3 uy)
   have kG:=ai (HA2.o.quiet uy.fresh);have dw:=ai (dD.o.trans uy.fresh);have HB3:=ai hB3;have c0:W3.cell? ⟨w2.heap.size,0,none⟩=some (.int .i64 x.kind):=(hB3.cell 0).trans V4.o;clear hB3 uy HB2 HA2 dD;generalize hB:w2.heap.size=B at *;go_cut [7] (λv7 wx=>v7=.bool true/\wx=W3)
   case first =>
    cases lH with
    |true =>go_wp2_with fail;go_meet;exact⟨rfl,rfl⟩
    |false =>
     have q2:((x.kind:Int)==2)=true:=by have:=HT.o;simp at this;simp[this]
     go_wp2_with fail;go_meet;exact⟨rfl,rfl⟩
   case rest =>
   obtain⟨rfl,hw⟩:=hcut;have hw':=hw.symm;subst hw';go_upto_region 10 with fail;obtain⟨o6,c6,h6,_⟩:=kG.o.sl.view;have hal:=HAK.o;have V5:af (∀os,fG w u6 bs acc (W3.alloc os)):=λos=>kG.o.quiet aj;have fU:af (∀os,aa ae w1 (W3.alloc os)):=λos=>dw.o.alloc _;subst h6;have HOn:af (∀u∈cs.toList,u.oneCell'=true):=λu hu=>by have:=GM.o;rw[Array.all_eq_true_iff_forall_mem]at this;exact this u (by simpa using hu)
   go_wp2_with (first |(refine wpList_load_row rfl 160 (.tmp 10) rfl B rfl 160 cs (0,0) _ HB3.o underlying160 rfl (by rw[nE.o];kernel_rfl) ?_) |(refine xu rfl (.tmp 51) rfl cs rfl nE.o ?_) |(at_builtin;refine aL _ rfl (.tmp 50) (.tmp 52) 102 rfl 160 iP (.agg (xg 0 ⟨#[]⟩ aT aT aT)) 20 160 underlying102 hiP rX hsP wj rfl (by decide) (.slice o6 acc.length c6) acc.length (acc.flatMap (λx=>(x.cells bs).toList)) rfl (V5.o _).sl ⟨W3.heap.size,0,none⟩ 1 1 cs.toList rfl (by rw[Array.length_toList,nE.o]) (aV _ _ _ _ rfl) HOn.o (by unfold maxLen;omega) (by omega) ?_;intro vA wA sA mA lA;have HAA:af (fG w vA bs (acc++[x]) wA):=HAP.o _ _ _ (V5.o _) sA mA lA;have Ct:af (aa ae w1 wA):=(fU.o _).step mA (λi hi e=>by have h1:=kG.o.own i e;have h2:=Cr.o;have h3:i=w.heap.size:=(by omega);subst h3;exact kG.o.sl.au (HTB.o.ag dw.o id) (by decide) e);clear sA mA lA));go_roundg (ts.length-(k+1))
   case measure=>omega
   case rel=>exact⟨k+1,true,acc++[x],by omega,by go_num,rfl,HAA.o,Ct.o,HE2.o,by simp[hal],rfl⟩
  ·have hke:k=ts.length:=by omega
   subst hke;have HE2:af (pr=.inl acc):=by rw[af,<-HP.o,List.drop_length];rfl
   obtain⟨o6,c6,h6,_⟩:=HA.o.sl.view;go_wp2_with fail;exact rQ.o _ _ _ acc HE2.o HA.o rfl
theorem J9(wT wL w:tW)(v vL:Value)(bs:List Nat)(ls:List dN)(hO:aH 0 wT v bs aq)(m:aa ae wT w)(hL:fG wL vL bs ls w)(hin:InF ls)(hk4:∀x∈ls,x.kind=4->x.x.k<aq.length)(hkk:∀x∈ls,2<=x.kind/\x.kind<=4)(hnl:ls.length<=1000001):Calls prog 42 #[vL] w λe w'=>xz w (ah ls) e w':=by
 have O0:af (∀e w' bm vF lb,e=.returned (.agg #[.map (some bm),vF])->dL w bm vF lb (ah ls) w'->xz w (ah ls) e w'):=λe w' bm vF lb h1 h2=>⟨bm,vF,lb,h1,h2⟩
 generalize xz w (ah ls)=RP at *
 have zK:af (∀w',aa ae w w'->∀x∈ls,x.kind=4->bY w' (bs[x.x.k]?.getD 0) x.x.o):=λw' m' x hx h4=>by
  have h1:=hk4 x hx h4;have h2:x.x.k<bs.length:=by rw[hO.len];exact h1
  have:=(hO.ag (m.trans m')).at' x.x.k h2 h1;rw[List.getElem?_eq_getElem h2];unfold dH.o;rw[List.getElem?_eq_getElem h1];exact this
 have VY:=ai hL;have Rl:=ai hin;have HKK:=ai hkk;have HSM:af (∀k,k<=ls.length->(∀f∈(ah (ls.take k)).fs,f.slots<=2*k)/\(ah (ls.take k)).fs.length<=k):=iJ ls;have ZC:af (∀k,k<=ls.length->(ah (ls.take k)).maps.length<=k):=xy ls;have HST:af (∀k (h:k<ls.length),ah (ls.take (k+1))=bH (ah (ls.take k)) ls[k]):=fO ls;have nD:af (∀k,¬k<ls.length->ah (ls.take k)=ah ls):=λk h=>by rw[List.take_of_length_le (by omega)]
 obtain⟨oL,cL,rfl,_⟩:=hL.sl.view;have hmm:=@run_makeMap prog;clear hO m hL hin hk4 hkk
 have HW0:af (kW w w.heap.size (w.heap.size+1+1) (w.heap.size+1) (.slice none 0 0) [] {} (((w.alloc (.cells #[.map none,.slice none 0 0] 108)).alloc (.map #[] 0)).alloc (.cells #[.map (some (w.heap.size+1)),.slice none 0 0] 108))):=by
  have m1:aa ae w (w.alloc (.cells #[.map none,.slice none 0 0] 108)):=aj;have h1:=dL.new w _ m1;have hs:(w.alloc (.cells #[.map none,.slice none 0 0] 108)).heap.size=w.heap.size+1:=by simp
  rw[hs]at h1;have hs2:((w.alloc (.cells #[.map none,.slice none 0 0] 108)).alloc (.map #[] 0)).heap.size=w.heap.size+1+1:=by simp
  refine⟨((ak.new w _ _).alloc _).alloc _,?_,h1.quiet aj,by omega⟩;have:=ak.new ((w.alloc (.cells #[.map none,.slice none 0 0] 108)).alloc (.map #[] 0)) #[.map (some (w.heap.size+1)),.slice none 0 0] 108;rw[hs2]at this;exact this
 go_enter func42,ntmps42;go_upto_region 1 with fail;go_wp2_with fail;generalize((w.alloc (.cells #[.map none,.slice none 0 0] 108)).alloc (.map #[] 0)).alloc (.cells #[.map (some (w.heap.size+1)),.slice none 0 0] 108)=w1 at *;generalize w.heap.size=R at *;generalize hbm:R+1=bm at *;generalize bm+1=A at *;clear hbm;go_loopg [15] ls.length (λq v15 wx=>∃(k:Nat) (vF:Value) (lb:List Nat),k<=ls.length/\v15=.int .i64 k/\kW w R A bm vF lb (ah (ls.take k)) wx/\q=ls.length-k)
 case atStart=>exact⟨0,_,[],Nat.zero_le _,rfl,HW0.o,rfl⟩
 case round =>
  obtain⟨k,vF,lb,hk,rfl,hA,rfl⟩:=hrel;have HA:=ai hA;clear hA HW0;have hsm:=(HSM.o k hk).2;obtain⟨oF,cF,jZ,_⟩:=HA.o.mV.sl.view;subst jZ;by_cases hlt:k<ls.length
  ·obtain⟨g,cL',hv,hcl,hrow⟩:=VY.o.row k hlt;injection hv with hv1 hv2 hv3;subst hv1;have HRW:=hrow wr HA.o.mV.md;have HS:=ai (HST.o k hlt);have HI:=ai (Rl.o k hlt);have ET:af (∀f∈(ah (ls.take k)).fs,f.slots<=2*k):=(HSM.o k hk).1;have HO4:af (∀w',aa ae w w'->ls[k].kind=4->bY w' (bs[ls[k].x.k]?.getD 0) ls[k].x.o):=λw' m'=>zK.o w' m' ls[k] (ab hlt);have xc:=ai (HKK.o _ (ab hlt));have hmp:=ZC.o k hk;clear hrow HST Rl HSM zK hv3 nD ZC;generalize ah (ls.take k)=o at *;generalize ls[k]=x at *;have nE:af ((x.cells bs).size=20):=gT bs x;have V4:af ((x.cells bs)[0]?=some (.int .i64 x.kind)):=qB bs x;have GM:af ((x.cells bs).all (·.oneCell')=true):=cells_one bs x;have O6:af (x.kind≠4->(x.cells bs)[1]?=some (.string (T x.name))):=qC bs x;have O7:af (x.kind=4->(x.cells bs)[11]?=some (.pointer (some ⟨bs[x.x.k]?.getD 0,0,none⟩))):=Te bs x;have HB2:af (ak (wr.alloc (.cells (xg 0 ⟨#[]⟩ aT aT aT) 160)) wr.heap.size (xg 0 ⟨#[]⟩ aT aT aT) 160):=ak.new wr _ _;generalize x.cells bs=cs at *;go_upto_region 5 with(first |(refine dO rfl 160 (.tmp 17) rfl g (k*20) rfl cs _ HRW underlying160 rfl (by rw[nE.o];kernel_rfl) ?_) |(refine fw rfl 160 (.tmp 5) (.tmp 18) rfl wr.heap.size cs rfl rfl 160 _ HB2.o (by rw[nE.o];kernel_rfl) (by rw[nE.o];rfl) GM.o ?_;intro W3 hB3 uy))
   have kG:=ai (HA.o.quiet uy.fresh);have c0:W3.cell? ⟨wr.heap.size,0,none⟩=some (.int .i64 x.kind):=(hB3.cell 0).trans V4.o;have a0:W3.cell? ⟨A,0,none⟩=some (.map (some bm)):=kG.o.all.cell 0;have a1:W3.cell? ⟨A,1,none⟩=some (.slice oF o.fs.length cF):=kG.o.all.cell 1;have HB3:=ai hB3;have HBL:=ai HA.o.mV.md.size;clear HA HB2 HRW uy hB3;generalize wr.heap.size=B at *;have hcase:x.kind=2\/x.kind=3\/x.kind=4:=by have:=xc.o;omega
   rcases hcase with hx|hx|hx
   ·have q1:((x.kind:Int)==1)=false:=by rw[hx];rfl
    have q2:((x.kind:Int)==2)=true:=by rw[hx];rfl
    have HWN:af (kW w R A bm (.slice oF o.fs.length cF) lb o (W3.alloc (.map #[] 0))):=kG.o.quiet aj;have HLW:af (gU (W3.alloc (.map #[] 0)) W3.heap.size []):=Xi W3;have HOS:af (bH o x={o with fs:=o.fs++[({}:ra)]}):=by rw[af,bH,iN9 (by omega),iP9 hx]
    have Rm:=ai kG.o.mV.md.size
    have uF:af (W3.heap.size ∉ bm::lb):=λhm=>by
     rcases List.mem_cons.1 hm with e|e
     ·have:=kG.o.mV.maps.lt;omega
     ·obtain⟨i,hi,e⟩:=List.getElem_of_mem e;have hi':i<o.fs.length:=by rw[<-kG.o.mV.len];exact hi
      have:=MapOf.lt (kG.o.mV.bB i hi');rw[List.getElem?_eq_getElem hi]at this;simp only[an]at this;omega
    clear hx;obtain⟨iP,hiP,rX,hsP,wj⟩:=info_parts GJ;go_upto_region 10 with fail;have HWS:af (∀os,kW w R A bm (.slice oF o.fs.length cF) lb o ((W3.alloc (.map #[] 0)).alloc os)):=λos=>HWN.o.quiet aj;have HLS:af (∀os,gU ((W3.alloc (.map #[] 0)).alloc os) W3.heap.size []):=λos=>MapOf.ag HLW.o ((aa.refl ae _).alloc os) id
    have HAP:af (∀os vA wA,Sl wA 164 3 vA (o.fs.length+1) (gV lb o.fs++jC W3.heap.size ({}:ra))->aa (λk=>(Value.slice oF o.fs.length cF).ownBlock=some k) ((W3.alloc (.map #[] 0)).alloc os) wA->(∀k,vA.ownBlock=some k->(Value.slice oF o.fs.length cF).ownBlock=some k\/((W3.alloc (.map #[] 0)).alloc os).heap.size<=k)->ak wA A #[.map (some bm),.slice oF o.fs.length cF] 108/\(∃oA cA,vA=.slice oA (o.fs.length+1) cA)/\kW w R A bm vA (lb++[W3.heap.size]) (bH o x) (wA.setCell ⟨A,1,none⟩ vA)):=λos vA wA sA mA lA=>by
     refine⟨(HWS.o os).all.ag mA (λe=>(HWS.o os).mV.sl.au (HWS.o os).all (by decide) e),?_,?_⟩
     ·obtain⟨oA,cA,CF,_⟩:=sA.view;exact⟨oA,cA,CF⟩
     ·rw[HOS.o];exact(HWS.o os).func (HLS.o os) Rm.o uF.o sA mA lA
    go_wp2_with (first |(refine zJ rfl (.tmp 38) rfl (.int .i64 0) (.bool false) (.map (some W3.heap.size)) rfl ?_) |(at_builtin;(refine aL _ rfl (.tmp 36) (.tmp 39) 106 rfl 164 iP (.agg #[.int .i64 0,.bool false,.map none]) 3 24 underlying106 hiP rX hsP wj rfl (by decide) (.slice oF o.fs.length cF) o.fs.length (gV lb o.fs) rfl (HWS.o _).mV.sl ⟨(W3.alloc (.map #[] 0)).heap.size,0,none⟩ 1 1 (#[.int .i64 0,.bool false,.map (some W3.heap.size)]:tAV).toList rfl rfl (aV _ _ _ _ rfl) (by simp[Value.oneCell']) (by unfold maxLen;omega) (by omega) ?_;intro vA wA sA mA lA;obtain⟨hAA,⟨oA,cA,CF⟩,LZ⟩:=HAP.o _ _ _ sA mA lA;subst CF;have aA1:=hAA.cell 1;have aAf:=hAA.frozen;have HAA:af (kW w R A bm (.slice oA (o.fs.length+1) cA) (lb++[W3.heap.size]) (bH o x) (wA.setCell ⟨A,1,none⟩ (.slice oA (o.fs.length+1) cA))):=LZ;clear sA mA lA hAA LZ)));go_roundg (ls.length-(k+1))
    case measure=>omega
    case rel=>exact⟨k+1,_,_,by omega,by go_num,by rw[HS.o];exact HAA.o,rfl⟩
   ·have q1:((x.kind:Int)==1)=false:=by rw[hx];rfl
    have q2:((x.kind:Int)==2)=false:=by rw[hx];rfl
    have q3:((x.kind:Int)==3)=true:=by rw[hx];rfl
    have hne:=HI.o (.inl hx);obtain⟨gF,rfl,hcF,hrw⟩:=kG.o.mV.LX hne;have AY:∀j (h:j<(#[.int .i64 o.last.slots,.bool o.last.ends,.map (some (lb[o.fs.length-1]?.getD 0))]:tAV).size),W3.cell? ⟨gF,(o.fs.length-1)*3+j,none⟩=some (#[.int .i64 o.last.slots,.bool o.last.ends,.map (some (lb[o.fs.length-1]?.getD 0))]:tAV)[j]:=hrw W3 ax;have hn1:1<=o.fs.length:=List.length_pos_iff.2 hne;have hi:((o.fs.length:Int)-1)=((o.fs.length-1:Nat):Int):=by omega
    have Rn:af (∀W,aa ae W3 W->kW w R A bm (.slice (some ⟨gF,0,none⟩) o.fs.length cF) lb o W):=λW m=>kG.o.quiet m;have HOL:=qD ET.o;have ad1:=ai (O6.o (by omega));have HOS:af (bH o x=o.cZ (o.last.label x.name)):=by rw[af,bH,iN9 (by omega),iN9 (by omega),iP9 hx]
    have V6:af (o.cZ o.last=o):=GI hne;have V7:af (∀W,aa ae W3 W->gU W (lb[o.fs.length-1]?.getD 0) o.last.bB):=λW m=>(Rn.o W m).mV.Xh hne;have O8:af (∀W w',aa ae W3 W->gU w' (lb[o.fs.length-1]?.getD 0) (o.last.bB++[(x.name,o.last.slots)])->aa (λk=>k=lb[o.fs.length-1]?.getD 0) W w'->kW w R A bm (.slice (some ⟨gF,0,none⟩) o.fs.length cF) lb (o.cZ {o.last with bB:=o.last.bB++[(x.name,o.last.slots)]}) w'):=λW w' m h1 h2=>(Rn.o W m).lab hne h1 h2;clear hx hrw;go_upto_region 12 with fail;generalize lb[o.fs.length-1]?.getD 0=bl at *;generalize hn1':o.fs.length-1=n1 at *;generalize hnn:o.fs.length=nn at *;have HLD:af (o.last.label x.name=if(fA o.last.bB x.name).isSome then o.last else{o.last with bB:=o.last.bB++[(x.name,o.last.slots)]}):=rfl;generalize ad2:o.last=la at *;obtain⟨sl,en,las⟩:=la;dsimp only at *;have fU:af (aa ae W3 (W3.alloc (.cells #[.int .i64 sl,.bool en,.map (some bl)] 164))):=aj;have c1':(W3.alloc (.cells #[.int .i64 sl,.bool en,.map (some bl)] 164)).cell? ⟨B,1,none⟩=some (.string (T x.name)):=((HB3.o.ag fU.o id).cell 1).trans ad1.o;have hlk:=(V7.o _ fU.o).look x.name;have HPU:af ((fA las x.name).isSome=false->∃w',(Instr.mapUpdate 105 (.map (some bl)) (.string (T x.name)) (.int .i64 sl)).run prog (W3.alloc (.cells #[.int .i64 sl,.bool en,.map (some bl)] 164))=.ok () w'/\gU w' bl (las++[(x.name,sl)])/\aa (λk=>k=bl) (W3.alloc (.cells #[.int .i64 sl,.bool en,.map (some bl)] 164)) w'):=λh=>(V7.o _ fU.o).put x.name sl h;generalize fA las x.name=lo at *;cases lo with
    |some lv =>
     have Rj:af (kW w R A bm (.slice (some ⟨gF,0,none⟩) nn cF) lb (bH o x) (W3.alloc (.cells #[.int .i64 sl,.bool en,.map (some bl)] 164))):=by rw[HOS.o,HLD.o];simp only[al,if_true];rw[V6.o];exact Rn.o _ fU.o
     simp only[an,al]at hlk;go_wp2_with (refine dO rfl 164 (.tmp 47) rfl gF (n1*3) rfl #[.int .i64 sl,.bool en,.map (some bl)] _ AY underlying164 rfl (by kernel_rfl) ?_);go_roundg (ls.length-(k+1))
     case measure=>omega
     case rel=>exact⟨k+1,_,lb,by omega,by go_num,by rw[HS.o];exact Rj.o,rfl⟩
    |none =>
     obtain⟨w5,hup,hl5,m5⟩:=HPU.o rfl;have Rj:af (kW w R A bm (.slice (some ⟨gF,0,none⟩) nn cF) lb (bH o x) w5):=by rw[HOS.o,HLD.o];exact O8.o _ _ fU.o hl5 m5
     simp only[Option.getD_none,Option.isSome_none]at hlk;clear hl5 m5;go_wp2_with (refine dO rfl 164 (.tmp 47) rfl gF (n1*3) rfl #[.int .i64 sl,.bool en,.map (some bl)] _ AY underlying164 rfl (by kernel_rfl) ?_);go_roundg (ls.length-(k+1))
     case measure=>omega
     case rel=>exact⟨k+1,_,lb,by omega,by go_num,by rw[HS.o];exact Rj.o,rfl⟩
   ·have q1:((x.kind:Int)==1)=false:=by rw[hx];rfl
    have q2:((x.kind:Int)==2)=false:=by rw[hx];rfl
    have q3:((x.kind:Int)==3)=false:=by rw[hx];rfl
    have q4:((x.kind:Int)==4)=true:=by rw[hx];rfl
    have hne:=HI.o (.inr hx);obtain⟨gF,rfl,hcF,hrw⟩:=kG.o.mV.LX hne;have AY:∀j (h:j<(#[.int .i64 o.last.slots,.bool o.last.ends,.map (some (lb[o.fs.length-1]?.getD 0))]:tAV).size),W3.cell? ⟨gF,(o.fs.length-1)*3+j,none⟩=some (#[.int .i64 o.last.slots,.bool o.last.ends,.map (some (lb[o.fs.length-1]?.getD 0))]:tAV)[j]:=hrw W3 ax;have hn1:1<=o.fs.length:=List.length_pos_iff.2 hne;have hi:((o.fs.length:Int)-1)=((o.fs.length-1:Nat):Int):=by omega
    have Rn:af (∀W,aa ae W3 W->kW w R A bm (.slice (some ⟨gF,0,none⟩) o.fs.length cF) lb o W):=λW m=>kG.o.quiet m;have HOL:=qD ET.o;have HOS:af (bH o x=o.cZ (o.last.code x.x.o)):=by rw[af,bH,iN9 (by omega),iN9 (by omega),iN9 (by omega),iP9 hx]
    have ad3:=ai (O7.o hx);have Xm:af (∀W,aa ae W3 W->bY W (bs[x.x.k]?.getD 0) x.x.o):=λW m=>HO4.o W (kG.o.mV.md.trans m) hx;have hs2:=x.x.vz;have HRD:af (∀W,aa ae W3 W->W.cell? ⟨gF,(o.fs.length-1)*3,none⟩=some (.int .i64 o.last.slots)/\W.cell? ⟨gF,(o.fs.length-1)*3+1,none⟩=some (.bool o.last.ends)):=λW m=>⟨hrw W m 0 (by show 0<3;decide),hrw W m 1 (by show 1<3;decide)⟩
    have HGB:af (∀W,aa ae W3 W->∃cs,ak W gF cs 164):=λW m=>by obtain⟨o',c',hv',hb'⟩:=(Rn.o W m).mV.sl.view;obtain⟨g',cs',h1,h2,_⟩:=hb' hn1;injection hv' with e1 e2 e3;rw[h1]at e1;injection e1 with e1;injection e1 with e1;exact⟨cs',by rw[e1];exact h2⟩
    clear hx hrw HO4 O7 AY;go_upto_region 17 with fail;generalize lb[o.fs.length-1]?.getD 0=bl at *;generalize bs[x.x.k]?.getD 0=bo at *;have HRW:af (∀W f,aa ae W3 W->f.bB=o.last.bB->kW w R A bm (.slice (some ⟨gF,0,none⟩) o.fs.length cF) lb (o.cZ f) ((W.setCell ⟨gF,(o.fs.length-1)*3,none⟩ (.int .i64 f.slots)).setCell ⟨gF,(o.fs.length-1)*3+1,none⟩ (.bool f.ends))):=λW f m hf=>(Rn.o W m).row hne hf;generalize hn1':o.fs.length-1=n1 at *;generalize hnn:o.fs.length=nn at *;have HFS:af (o.last.code x.x.o={slots:=o.last.slots+x.x.o.slots,ends:=x.x.o.ends,bB:=o.last.bB}):=rfl;generalize ad2:o.last=la at *;obtain⟨sl,en,las⟩:=la;dsimp only at *;go_upto_region 18 with fail;have eZ:af (aa ae W3 W3.drew):=aJ;refine bJ 13 (by kernel_rfl) (by kernel_rfl) ?_;intro W hW;rw[<-hW]at eZ;clear hW c0 a0 a1;obtain⟨d0,d1⟩:=HRD.o W eZ.o;have e11:W.cell? ⟨B,11,none⟩=some (.pointer (some ⟨bo,0,none⟩)):=((HB3.o.ag eZ.o id).cell 11).trans ad3.o;obtain⟨p1,p2,p3,p4,p5,p6,p7,p8,p9,p10,p11,yD,_⟩:=(Xm.o W eZ.o).ex;have o2:=yD.cell 2;have o4:=yD.cell 4;obtain⟨csF,hgb⟩:=HGB.o W eZ.o;have gf:=hgb.frozen;have gB:B≠gF:=λe=>(HB3.o.ag eZ.o id).apart hgb (by decide) e;have gO:bo≠gF:=λe=>yD.apart hgb (by decide) e;have Rj:af (kW w R A bm (.slice (some ⟨gF,0,none⟩) nn cF) lb (bH o x) ((W.setCell ⟨gF,n1*3,none⟩ (.int .i64 ((sl:Int)+(x.x.o.slots:Int)))).setCell ⟨gF,n1*3+1,none⟩ (.bool x.x.o.ends))):=by rw[HOS.o,HFS.o];exact HRW.o W {slots:=sl+x.x.o.slots,ends:=x.x.o.ends,bB:=las} eZ.o rfl
    clear yD hgb;generalize x.x.o.slots=os at *;generalize x.x.o.ends=oe at *;simp only[List.take_succ_cons,List.take_zero,List.drop_succ_cons,List.drop_zero]
    repeat(go_big_quiet_step (fail))
    refine wpQuiet_nil ?_;go_wp2_with fail;go_roundg (ls.length-(k+1))
    case measure=>omega
    case rel=>exact⟨k+1,_,lb,by omega,by go_num,by rw[HS.o];exact Rj.o,rfl⟩
  ·rw[nD.o k hlt]at HA;have a0:wr.cell? ⟨A,0,none⟩=some (.map (some bm)):=HA.o.all.cell 0;have a1:wr.cell? ⟨A,1,none⟩=some (.slice oF (ah ls).fs.length cF):=HA.o.all.cell 1;have r0:=HA.o.res.cell 0;have r1:=HA.o.res.cell 1;have rf:=HA.o.res.frozen;have HF:af (dL w bm (.slice oF (ah ls).fs.length cF) lb (ah ls) ((wr.setCell ⟨R,0,none⟩ (.map (some bm))).setCell ⟨R,1,none⟩ (.slice oF (ah ls).fs.length cF))):=HA.o.mV.keep HA.o.res (by decide) HA.o.lt.2.1 ((ax.aY _ _).aY _ _);have HRB:af (ak ((wr.setCell ⟨R,0,none⟩ (.map (some bm))).setCell ⟨R,1,none⟩ (.slice oF (ah ls).fs.length cF)) R #[.map (some bm),.slice oF (ah ls).fs.length cF] 108):=(HA.o.res.set 0 _).set 1 _;go_wp2_with fail;exact bodyPost_ret (results_cell_row results42 _ _ R 108 #[.map (some bm),.slice oF (ah ls).fs.length cF] (0,0) _ rfl HRB.o underlying108 rfl (by kernel_rfl)) rfl (O0.o _ _ _ _ lb rfl HF.o)
