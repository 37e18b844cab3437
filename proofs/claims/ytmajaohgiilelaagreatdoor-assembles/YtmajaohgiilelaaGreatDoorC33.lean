import Derived.Test.YtmajaohgiilelaaGreatDoorC32
namespace Go.Proofs.YtmajaohgiilelaaGreatDoor
open Go.RowKit
open List renaming length_append->an,append_assoc->ao,length_cons->ar,length_nil->ba,drop_eq_nil_of_le->bh,getElem_mem->bj,map_cons->b9,flatMap_cons->ca
open Nat renaming zero_le->bt
set_option linter.all false
set_option maxRecDepth 100000
set_option maxHeartbeats 2000000
theorem Ps(nU:Bool)(HIF:ae (nU=false))(w:tW)(pb:Nat)(vM vF:Value)(ms:List bz)(fx:List (yY×dF))(os:List lS)(hI:Pr w pb vM vF ms fx os)(hl:os.length=fx.length) (hf:fx.length<=16) (hm:ms.length<=8) (hms:∀m∈ms,MOk m) (hfo:∀i (h:i<fx.length) (h':i<os.length),ab1 fx[i].1 os[i]):Calls Tryz.prog 7 #[.pointer (some ⟨pb,0,none⟩),.bool nU] w λe w'=>e=.returned (.string (T (vw nU ms (fx.map (·.1)) os)))/\aa af w w':=by
 obtain⟨oM,cM,Jv,_⟩:=hI.maps.view;obtain⟨oF,cF,uZ,_⟩:=hI.rows.view;subst Jv uZ;have p0:w.cell? ⟨pb,0,none⟩=some (.slice oM ms.length cM):=hI.prog.cell 0;have HI:=ak hI;have US:=ak hms;have HFO:=ak hfo;have Yl:=ak hl;clear hI hms hfo hl;have hc1:=oW w [(ms.length:Int)] (λx hx=>by simp at hx;subst hx;omega);simp only[b9,List.map_nil,ar,ba]at hc1;rw[nT]at hc1;obtain⟨n1,hn1,ahj⟩:=fV (l:=b8 [(ms.length:Int)]) (k:=1) (by simp[b8]);rw[<-hn1.o]at hc1;go_enter Tryz.func7,Tryz.ntmps7;go_upto_if 17 with fail;go_cut [5] (λs5 wx=>s5=.string (T (if nU then [2]else [1]))/\wx=w)
 case first =>
  cases nU
  ·go_wp2_with fail;go_meet;exact⟨rfl,rfl⟩
  ·go_wp2_with fail;go_meet;exact⟨rfl,rfl⟩
 case rest =>
 obtain⟨rfl,rfl⟩:=hcut;obtain⟨hd,hhd⟩:∃hd:tLB,hd=[83,80,79,76]++(if nU then [2]else [1])++b8 [(ms.length:Int)]:=⟨_,rfl⟩
 have ahk:hd.length<=6:=by rw[hhd];cases nU<;>simp[b8]
 have HHD:=ak hhd;clear hhd;obtain⟨s5,hs5,ahl⟩:=fV (l:=(if nU then [2]else [1]:tLB)) (k:=1) (by cases nU<;>simp);have HHT:ae (T [83,80,79,76]++s5++n1=T hd):=by rw[ae,HHD.o,<-jR,<-jR,hs5.o,hn1.o]
 rw[<-hs5.o];go_wp2_with fail;clear hc1;go_loopg [6,7] ms.length (λg ov iv wx=>∃(k:Nat) (l:tLB),ov=.string (T l)/\iv=.int .i64 k/\l++qX (ms.drop k)=hd++qX ms/\l.length<=6+k*310/\aa af wc wx/\k<=ms.length/\g=ms.length-k)
 case atStart=>exact⟨0,hd,congrArg Value.string HHT.o,rfl,rfl,by omega,(aa.refl _ _).alloc _,bt _,rfl⟩
 case round =>
  obtain⟨k,l,rfl,rfl,iy,hll,hmd,hk,rfl⟩:=hrel;have HR:=ak iy;clear iy p0;have hI:=HI.o.quiet hmd;have p0:wr.cell? ⟨pb,0,none⟩=some (.slice oM ms.length cM):=hI.prog.cell 0;have p1:wr.cell? ⟨pb,1,none⟩=some (.slice oF fx.length cF):=hI.prog.cell 1;by_cases hkl:k<ms.length
  ·obtain⟨gM,rfl,c0,c1,c2,c3⟩:=hI.atM rfl k hkl;have hok:=US.o ms[k] (bj hkl);have HD:ae (l++Lc ms[k]++qX (ms.drop (k+1))=hd++qX ms):=by rw[ae,<-HR.o,NK ms k hkl,ao]
   generalize ms[k]=m at *;obtain⟨nm,ky,vl,en⟩:=m;obtain⟨n0,k0,k1,v0,v1,n2,n3⟩:=hok;simp only at *;obtain⟨so,wW⟩:∃o,o=T l:=⟨_,rfl⟩
   have WN:so.size<=6+k*310:=by rw[wW,bZ];exact hll
   have HSO:=ak wW;rw[<-wW];have Ff:=ak hll;clear wW hll;obtain⟨sn,hsn,aeQ⟩:=fV (l:=dH nm) (k:=301) (by rw[dS];omega);obtain⟨s3,hs3,aeR⟩:=fV (l:=b8 [ky,vl,en]) (k:=3) (by simp[b8]);have HNA:ae (∀w',Calls Tryz.prog 19 #[.string nm] w' λe w2=>e=.returned (.string sn)/\aa af w' w2):=λw'=>by rw[hsn.o];exact yt nm (by omega) w'
   go_upto_region 9 with fail;have Qr:=aq.new wr #[.string nm,.int .i64 ky,.int .i64 vl,.int .i64 en] 64;have Tn:aa af wc (wr.alloc (.cells #[.string nm,.int .i64 ky,.int .i64 vl,.int .i64 en] 64)):=hmd.alloc _;generalize wr.alloc (Obj.cells #[.string nm,.int .i64 ky,.int .i64 vl,.int .i64 en] 64)=W at *;have HBM:ae (∀w',aa af W w'->aq w' wr.heap.size #[.string nm,.int .i64 ky,.int .i64 vl,.int .i64 en] 64):=λw' m=>Qr.ah m id;refine mD [.inl (.string so),.inl (.pointer (some ⟨wr.heap.size,0,none⟩)),.inl (.string nm),.inl (.string sn),.inl (.string (so++sn)),.inl (.pointer (some ⟨wr.heap.size,1,none⟩)),.inl (.int .i64 ky),.inl (.int .u8 ky),.inl (.pointer (some ⟨wr.heap.size,2,none⟩)),.inl (.int .i64 vl),.inl (.int .u8 vl),.inl (.pointer (some ⟨wr.heap.size,3,none⟩)),.inl (.int .i64 en),.inl (.int .u8 en),.inr (λu w'=>∃g,u=.slice (some ⟨g,0,none⟩) 3 3/\aq w' g #[.int .u8 ky,.int .u8 vl,.int .u8 en] 5),.inl (.string s3),.inl (.string (so++sn++s3)),.inl (.string (so++sn++s3))] (λw'=>aa af W w') (aa af) (by kernel_rfl) (by kernel_rfl) (by kernel_rfl) ((aa.refl _ _).drew) ?_ (λ_ _ h1 h2=>h1.trans h2) (λ_=>aa.refl _ _) ?_
   ·exact oz (show tM _ _ from⟨λu w1 w2 m ⟨g,h1,h2⟩=>⟨g,h1,h2.ah m id⟩,trivial⟩)
   refine aM rfl (λw' hC _ K hK=>?_) ?_
   ·go_big_op;exact hK _ _ _ rfl (aa.refl _ _) rfl
   simp only[Act.put,sA9,sB9,sC9];refine aM rfl (λw' hC _ K hK=>?_) ?_
   ·go_big_op;exact hK _ _ _ rfl (aa.refl _ _) rfl
   simp only[Act.put,sA9,sB9,sC9];refine aM rfl (λw' hC _ K hK=>?_) ?_
   ·have e1:w'.cell? ⟨wr.heap.size,0,none⟩=some (.string nm):=(HBM.o w' hC).cell 0;go_big_op;exact hK _ _ _ rfl (aa.refl _ _) rfl
   simp only[Act.put,sA9,sB9,sC9];refine aM rfl (λw' hC _ K hK=>?_) ?_
   ·go_big_op;refine(HNA.o _).mono ?_;rintro e w2 ⟨rfl,m2⟩;exact hK _ _ _ rfl m2 rfl
   simp only[Act.put,sA9,sB9,sC9];refine aM rfl (λw' hC _ K hK=>?_) ?_
   ·go_big_op;exact hK _ _ _ rfl (aa.refl _ _) rfl
   simp only[Act.put,sA9,sB9,sC9];refine aM rfl (λw' hC _ K hK=>?_) ?_
   ·go_big_op;exact hK _ _ _ rfl (aa.refl _ _) rfl
   simp only[Act.put,sA9,sB9,sC9];refine aM rfl (λw' hC _ K hK=>?_) ?_
   ·have e1:w'.cell? ⟨wr.heap.size,1,none⟩=some (.int .i64 ky):=(HBM.o w' hC).cell 1;go_big_op;exact hK _ _ _ rfl (aa.refl _ _) rfl
   simp only[Act.put,sA9,sB9,sC9];refine aM rfl (λw' hC _ K hK=>?_) ?_
   ·go_big_op;exact hK _ _ _ rfl (aa.refl _ _) rfl
   simp only[Act.put,sA9,sB9,sC9];refine aM rfl (λw' hC _ K hK=>?_) ?_
   ·go_big_op;exact hK _ _ _ rfl (aa.refl _ _) rfl
   simp only[Act.put,sA9,sB9,sC9];refine aM rfl (λw' hC _ K hK=>?_) ?_
   ·have e1:w'.cell? ⟨wr.heap.size,2,none⟩=some (.int .i64 vl):=(HBM.o w' hC).cell 2;go_big_op;exact hK _ _ _ rfl (aa.refl _ _) rfl
   simp only[Act.put,sA9,sB9,sC9];refine aM rfl (λw' hC _ K hK=>?_) ?_
   ·go_big_op;exact hK _ _ _ rfl (aa.refl _ _) rfl
   simp only[Act.put,sA9,sB9,sC9];refine aM rfl (λw' hC _ K hK=>?_) ?_
   ·go_big_op;exact hK _ _ _ rfl (aa.refl _ _) rfl
   simp only[Act.put,sA9,sB9,sC9];refine aM rfl (λw' hC _ K hK=>?_) ?_
   ·have e1:w'.cell? ⟨wr.heap.size,3,none⟩=some (.int .i64 en):=(HBM.o w' hC).cell 3;go_big_op;exact hK _ _ _ rfl (aa.refl _ _) rfl
   simp only[Act.put,sA9,sB9,sC9];refine aM rfl (λw' hC _ K hK=>?_) ?_
   ·go_big_op;exact hK _ _ _ rfl (aa.refl _ _) rfl
   simp only[Act.put,sA9,sB9,sC9];refine CT rfl (λw' hC _ K hK=>?_) (λx=>?_)
   ·go_big_op;exact hK _ _ _ rfl ((aa.refl _ _).alloc _) ⟨_,rfl,aq.new _ _ _⟩
   simp only[Act.put,sA9,sB9,sC9];refine aM rfl (λw' hC hk K hK=>?_) ?_
   ·obtain⟨g,rfl,hg⟩:∃g,x=.slice (some ⟨g,0,none⟩) 3 3/\aq w' g #[.int .u8 ky,.int .u8 vl,.int .u8 en] 5:=qW hk 14 (by decide);have hcv:=ve w' g [ky,vl,en] (λx hx=>by simp at hx;rcases hx with rfl|rfl|rfl<;>omega) hg;simp only[ar,ba]at hcv;rw[nT,<-hs3.o]at hcv;go_big_op;exact hK _ _ _ rfl (aa.refl _ _) rfl
   simp only[Act.put,sA9,sB9,sC9];refine aM rfl (λw' hC _ K hK=>?_) ?_
   ·go_big_op;exact hK _ _ _ rfl (aa.refl _ _) rfl
   simp only[Act.put,sA9,sB9,sC9];refine aM rfl (λw' hC _ K hK=>?_) ?_
   ·go_big_op;exact hK _ _ _ rfl (aa.refl _ _) rfl
   simp only[Act.put,sA9,sB9,sC9];refine CU (λw' hC _=>?_)
   try simp only[Exit.then]
   go_wp2_with fail;go_roundg (ms.length-(k+1))
   case measure=>omega
   case rel =>
    have hlz:=Ff.o;refine⟨k+1,l++Lc ⟨nm,ky,vl,en⟩,congrArg Value.string ?_,by go_num,HD.o,?_,Tn.trans hC,by omega,rfl⟩
    ·rw[Lc,<-jR,<-jR,<-HSO.o,<-hsn.o,<-hs3.o,ByteArray.append_assoc]
    ·rw[an,Lc,an,dS,gQ];simp only[ar,ba];omega
  ·obtain rfl:k=ms.length:=by omega
   have iG:ae (l=hd++qX ms):=by
    have:=HR.o;rw[List.drop_length]at this;rw[ae]
    simpa [qX]using this
   clear HR;have hc2:=oW wr [(fx.length:Int)] (λx hx=>by simp at hx;subst hx;omega);simp only[b9,List.map_nil,ar,ba]at hc2;rw[nT]at hc2;obtain⟨n4,WO,ahm⟩:=fV (l:=b8 [(fx.length:Int)]) (k:=1) (by simp[b8]);rw[<-WO.o]at hc2;obtain⟨so,wW⟩:∃o,o=T l:=⟨_,rfl⟩
   have WN:so.size<=2600:=by rw[wW,bZ];omega
   have HSO:=ak wW;rw[<-wW];have Ff:ae (l.length<=2600):=by rw[ae];omega
   clear wW hll;go_wp2_with fail;clear hc2;have HST:ae (so++n4=T (l++b8 [(fx.length:Int)])):=by rw[ae,HSO.o,WO.o,jR]
   have HMD:=ak hmd;go_loopg [6,9] fx.length (λg ov iv wx=>∃(k:Nat) (l':tLB),ov=.string (T l')/\iv=.int .i64 k/\l'++ni ((fx.map (·.1)).drop k)=l++b8 [(fx.length:Int)]++ni (fx.map (·.1))/\l'.length<=2601+k*310/\aa af wc wx/\k<=fx.length/\g=fx.length-k)
   case atStart=>exact⟨0,l++b8 [(fx.length:Int)],congrArg Value.string HST.o,rfl,rfl,by have:=Ff.o;rw[an,gQ];simp only[ar,ba];omega,HMD.o.alloc _,bt _,rfl⟩
   case round =>
    clear hmd p0 p1 hI WN;obtain⟨k,l',rfl,rfl,iy,hll,hmd,hk,rfl⟩:=hrel;have HR:=ak iy;clear iy;have hI:=HI.o.quiet hmd;have p1:wr.cell? ⟨pb,1,none⟩=some (.slice oF fx.length cF):=hI.prog.cell 1;by_cases hkl:k<fx.length
    ·have hko:k<os.length:=by rw[Yl.o];exact hkl
     obtain⟨gF,rfl,_⟩:=hI.rows.atA rfl rfl k hkl;obtain⟨f,⟨⟨vL,vA,vB,vP⟩,ln,vN⟩,hfk⟩:∃f h,fx[k]=(f,h):=⟨_,_,rfl⟩
     have hT:=HFO.o k hkl hko;rw[hfk]at hT;simp only at hT;have HFR:ae (∀w',aa af wr w'->YZ w' gF (k*8) f.slots vL vA vB vP f.name os[k].ls os[k].ats os[k].lab):=λw' m=>(hI.quiet m).frd rfl k hkl hko hfk;have fq:ae (∀w',aa af wr w'->w'.cell? ⟨pb,1,none⟩=some (.slice (some ⟨gF,0,none⟩) fx.length cF)):=λw' m=>(hI.quiet m).prog.cell 1;have HD:ae (l'++BX f++ni ((fx.map (·.1)).drop (k+1))=l++b8 [(fx.length:Int)]++ni (fx.map (·.1))):=by rw[ae,<-HR.o,Ld _ k (by simpa using hkl),ao];simp[hfk]
     generalize os[k]=o at *;clear HR hfk hI;obtain⟨nm,slots⟩:=f;have hsl:=hT.sl;have aeS:=hT.nm;simp only at hsl aeS HFR;clear hT;obtain⟨so',wW⟩:∃o,o=T l':=⟨_,rfl⟩
     have WN:so'.size<=2601+k*310:=by rw[wW,bZ];exact hll
     have Tp:=ak wW;rw[<-wW];have aeT:=ak hll;clear wW hll;obtain⟨sn,hsn,aeQ⟩:=fV (l:=dH nm) (k:=301) (by rw[dS];omega);obtain⟨s2,hs2,adk⟩:=fV (l:=b8 (dY slots)) (k:=2) (by simp[b8,dY]);have HNA:ae (∀w',Calls Tryz.prog 19 #[.string nm] w' λe w2=>e=.returned (.string sn)/\aa af w' w2):=λw'=>by rw[hsn.o];exact yt nm (by omega) w'
     have HTW:ae (∀w',Calls Tryz.prog 20 #[.int .i64 slots] w' λe w2=>e=.returned (.string s2)/\aa af w' w2):=λw'=>by rw[hs2.o];exact DY slots w'
     go_wp2_with fail;have g1:∀g:Ext af wr,g.w.cell? ⟨pb,1,none⟩=some (.slice (some ⟨gF,0,none⟩) fx.length cF):=λg=>fq.o _ g.m;have g2:∀g:Ext af wr,g.w.cell? ⟨gF,k*8,none⟩=some (.string nm):=λg=>(HFR.o _ g.m).c0;have g3:∀g:Ext af wr,g.w.cell? ⟨gF,k*8+3,none⟩=some (.int .i64 slots):=λg=>(HFR.o _ g.m).c3;have ne1:=Ext.ne af wr;refine bD af (by kernel_rfl) (by kernel_rfl) ?_
     repeat(go_big_quiet_step (first |(go_at_call 19;exact Calls.dN (HNA.o _)) |(go_at_call 20;exact Calls.dN (HTW.o _))))
     refine wpQuiet_nil ?_;rintro w2 ⟨⟨wx,m2⟩,hwx⟩;simp only at hwx;subst hwx;go_wp2_with fail;go_roundg (fx.length-(k+1))
     case measure=>omega
     case rel =>
      have hlz:=aeT.o;refine⟨k+1,l'++BX ⟨nm,slots⟩,congrArg Value.string ?_,by go_num,HD.o,?_,hmd.trans m2,by omega,rfl⟩
      ·rw[BX,<-jR,<-jR,<-Tp.o,<-hsn.o,<-hs2.o,ByteArray.append_assoc]
      ·rw[an,BX,an,dS,gQ];simp only[dY,ar,ba];omega
    ·obtain rfl:k=fx.length:=by omega
     have ep:ae (l'=hd++qX ms++b8 [(fx.length:Int)]++ni (fx.map (·.1))):=by
      have:=HR.o;rw[bh (by simp)]at this;rw[ae,<-iG.o]
      simpa [ni]using this
     clear HR;have NU:ae (l'.length<=7600):=by rw[ae];omega
     have aeU:=ak hmd;clear hll hI hmd;obtain⟨mn,VI⟩:∃mn,mn=ms.map (·.name):=⟨_,rfl⟩
     obtain⟨fn,hfn⟩:∃fn,fn=(fx.map (·.1)).map (·.name):=⟨_,rfl⟩
     have VT:=ak VI;have HFN:=ak hfn;clear VI hfn;go_wp2_with fail;clear p1;go_loopg [6,10,11,12] fx.length (λg ov rv cv iv wx=>∃(k c:Nat) (a r:tLB),ov=.string (T a)/\rv=.string (T r)/\cv=.int .i64 c/\iv=.int .i64 k/\a++Cz nU mn fn (os.drop k)=l'++Cz nU mn fn os/\r++aib k (os.drop k)=aib 0 os/\c+aic (os.drop k)=aic os/\a.length<=7600+k*3200/\r.length<=k*70000/\c<=k*200/\aa af wc wx/\k<=fx.length/\g=fx.length-k)
     case atStart=>exact⟨0,0,l',[],rfl,rfl,rfl,rfl,rfl,rfl,by simp,by have:=NU.o;omega,by simp,by omega,aeU.o,bt _,rfl⟩
     case round =>
      obtain⟨k,c,a,r,rfl,rfl,rfl,rfl,HA0,iy,KS,hal,hrl,hcl,hmd,hk,rfl⟩:=hrel;have HA:=ak HA0;have HR:=ak iy;have HC:=ak KS;clear HA0 iy KS;have hI:=HI.o.quiet hmd;have p1:wr.cell? ⟨pb,1,none⟩=some (.slice oF fx.length cF):=hI.prog.cell 1;by_cases hkl:k<fx.length
      ·have hko:k<os.length:=by rw[Yl.o];exact hkl
       obtain⟨gF,rfl,_⟩:=hI.rows.atA rfl rfl k hkl;obtain⟨f,⟨⟨vL,vA,vB,vP⟩,ln,vN⟩,hfk⟩:∃f h,fx[k]=(f,h):=⟨_,_,rfl⟩
       have hT:=HFO.o k hkl hko;rw[hfk]at hT;simp only at hT;have HFR:ae (∀w',aa af wr w'->YZ w' gF (k*8) f.slots vL vA vB vP f.name os[k].ls os[k].ats os[k].lab):=λw' m=>(hI.quiet m).frd rfl k hkl hko hfk;have HDA:ae (a++Yp nU mn fn os[k]++Cz nU mn fn (os.drop (k+1))=l'++Cz nU mn fn os):=by rw[ae,<-HA.o,SH _ _ _ _ k hko,ao]
       have HDR:ae (r++(os[k].ls.zip os[k].ats).flatMap (vg k)++aib (k+1) (os.drop (k+1))=aib 0 os):=by rw[ae,<-HR.o,NL _ _ k hko,ao]
       have HDC:ae (c+((os[k].ls.zip os[k].ats).map vk).sum+aic (os.drop (k+1))=aic os):=by rw[ae,<-HC.o,NM _ k hko];omega
       have HFU:ae (Yp nU mn fn os[k]=(os[k].ls.zip os[k].ats).flatMap (Js nU mn fn os[k].lab)):=rfl;generalize os[k]=o at *;clear HA HR HC hfk hI p1;obtain⟨nm,slots⟩:=f;simp only at HFR hT;have HT:=ak hT;have hsl:=hT.sl;have hll:=hT.ll;have hlb:=hT.lb;have HAL:=ak hT.al;simp only at hsl;clear hT;have HB:ae (a.length<=7600+k*3200/\r.length<=k*70000/\c<=k*200):=⟨hal,hrl,hcl⟩
       clear hal hrl hcl;have p1:wr.cell? ⟨pb,1,none⟩=some (.slice (some ⟨gF,0,none⟩) fx.length cF):=(HI.o.quiet hmd).prog.cell 1;go_wp2_with fail;clear p1;have Pt:=ak hmd;have hmr:aa af wr wr:=aa.refl _ _;clear hmd;obtain⟨wO,hwO⟩:∃wO,wO=wr:=⟨_,rfl⟩
       rw[<-hwO]at HFR Pt;have HWO:=ak hwO;clear hmr;subst hwO;go_loopg [6,10,11,14] o.ls.length (λg ov rv cv jv wx=>∃(j c':Nat) (a' r':tLB),ov=.string (T a')/\rv=.string (T r')/\cv=.int .i64 c'/\jv=.int .i64 j/\a'++((o.ls.zip o.ats).drop j).flatMap (Js nU mn fn o.lab)=a++Yp nU mn fn o/\r'++((o.ls.zip o.ats).drop j).flatMap (vg k)=r++(o.ls.zip o.ats).flatMap (vg k)/\c'+(((o.ls.zip o.ats).drop j).map vk).sum=c+((o.ls.zip o.ats).map vk).sum/\a'.length<=7600+k*3200+j*16/\r'.length<=k*70000+j*350/\c'<=k*200+j/\aa af wO wx/\j<=o.ls.length/\g=o.ls.length-j)
       case atStart=>exact⟨0,c,a,r,rfl,rfl,rfl,rfl,by rw[HFU.o];rfl,rfl,rfl,by have:=HB.o;omega,by have:=HB.o;omega,by have:=HB.o;omega,aa.refl _ _,bt _,rfl⟩
       case round =>
        obtain⟨j,c',a',r',rfl,rfl,rfl,rfl,HA0,iy,KS,hal,hrl,hcl,hmd,hj,rfl⟩:=hrel;have HA:=ak HA0;have HR:=ak iy;have HC:=ak KS;clear HA0 iy KS;have hF:=HFR.o wr hmd;obtain⟨oL,cL,NX,vwL⟩:=hF.sl.view;subst NX;have f1:=hF.c1;by_cases hjl:j<o.ls.length
        ·have hja:j<o.ats.length:=by rw[HAL.o];exact hjl
         obtain⟨gL,csL,rfl,_⟩:=vwL (by omega);obtain⟨oA,cA,Ar,vwA⟩:=hF.sa.view;subst Ar;obtain⟨gA,csA,rfl,_⟩:=vwA (by omega);obtain⟨e0,e1,e2,e3,e4,e5,e6,e7,_⟩:=hF.sl.at8 rfl j hjl;have hjz:j<(o.ls.zip o.ats).length:=by simp only[List.length_zip];omega
         have hzj:(o.ls.zip o.ats).drop j=(o.ls[j],o.ats[j])::(o.ls.zip o.ats).drop (j+1):=by rw[List.drop_eq_getElem_cons hjz,List.getElem_zip]
         have aeV:ae (a'++Js nU mn fn o.lab (o.ls[j],o.ats[j])++((o.ls.zip o.ats).drop (j+1)).flatMap (Js nU mn fn o.lab)=a++Yp nU mn fn o):=by rw[ae,<-HA.o,hzj,ca,ao]
         have adl:ae (r'++vg k (o.ls[j],o.ats[j])++((o.ls.zip o.ats).drop (j+1)).flatMap (vg k)=r++(o.ls.zip o.ats).flatMap (vg k)):=by rw[ae,<-HR.o,hzj,ca,ao]
         have adm:ae (c'+vk (o.ls[j],o.ats[j])+(((o.ls.zip o.ats).drop (j+1)).map vk).sum=c+((o.ls.zip o.ats).map vk).sum):=by rw[ae,<-HC.o,hzj,b9,List.sum_cons];omega
         clear hzj hjz HA HR HC;have hfit:=HT.o.fit o.ls[j] (bj hjl);have hab:=HT.o.ab o.ats[j] (bj hja);simp only at hab;have HCA:ae (∀w',aa af wr w'->w'.cell? ⟨gA,j,none⟩=some (.int .i64 o.ats[j])):=by intro w' m;obtain⟨g,hg,hc⟩:=(hF.quiet m).sa.at rfl j hja;cases hg;rw[hc j hja,jf,List.getElem?_map,List.getElem?_eq_getElem hja];rfl
         have HJU:ae (∀w',aa af wr w'->Calls Tryz.prog 23 #[.pointer (some ⟨gF,k*8,none⟩),.int .i64 j] w' λe w2=>e=.returned (.int .i64 (Dw o.lab o.ls[j] o.ats[j]))/\aa af w' w2):=λw' m =>
          SQ w' gF (k*8) slots _ _ vB vP nm o.ls o.ats o.lab (hF.quiet m) j hjl hja (by omega) (by omega) hfit.word (by omega) (λh=>by have:=HT.o.jl o.ls[j] (bj hjl) h;simp only at this;omega)
         have HFQ:ae (∀w',aa af wr w'->YZ w' gF (k*8) slots (.slice (some ⟨gL,0,none⟩) o.ls.length cL) (.slice (some ⟨gA,0,none⟩) o.ats.length cA) vB vP nm o.ls o.ats o.lab):=λw' m=>hF.quiet m;have HCO:ae (∀w' (jm n:Int),Calls Tryz.prog 22 #[.agg o.ls[j].cells,.int .i64 jm,.int .u64 n] w' λe w2=>e=.returned (.string (T (uz o.ls[j] jm n)))/\aa af w' w2):=λw' jm n=>SI o.ls[j] hfit jm n w';generalize o.ls[j]=x at *;generalize o.ats[j]=mE at *;obtain⟨xw,x32,xd,xs,xj,xn,xl,xm⟩:=x;unfold bI.cells at HCO;simp only at *;have hxm:=hfit.name;simp only at hxm;clear hfit;obtain⟨so',wW⟩:∃o,o=T a':=⟨_,rfl⟩
         have WN:so'.size<=7600+k*3200+j*16:=by rw[wW,bZ];exact hal
         have Tp:=ak wW;rw[<-wW];obtain⟨sr',hsr⟩:∃o,o=T r':=⟨_,rfl⟩
         have aeW:sr'.size<=k*70000+j*350:=by rw[hsr,bZ];exact hrl
         have aax:=ak hsr;rw[<-hsr];have HB2:ae (a'.length<=7600+k*3200+j*16/\r'.length<=k*70000+j*350):=⟨hal,hrl⟩
         clear wW hsr hal hrl hF;go_upto_region 26 with fail;have hbx:=aq.new wr #[.string xw,.bool x32,.int .i64 xd,.int .i64 xs,.int .i64 xj,.int .u64 xn,.string xl,.string xm] 43;have Tn:aa af wr (wr.alloc (.cells #[.string xw,.bool x32,.int .i64 xd,.int .i64 xs,.int .i64 xj,.int .u64 xn,.string xl,.string xm] 43)):=(aa.refl _ _).alloc _;generalize wr.alloc (Obj.cells #[.string xw,.bool x32,.int .i64 xd,.int .i64 xs,.int .i64 xj,.int .u64 xn,.string xl,.string xm] 43)=W at *;obtain⟨i0,i1,i2,i3,i4,i5,i6,i7⟩:=hbx.eY;obtain⟨q1,hq1⟩:∃q1,q1=decide (nU=true/\xw=WIDE/\xm≠E0):=⟨_,rfl⟩
         have Vn:=ak hq1;clear hq1;obtain⟨q2,hq2⟩:∃q2,q2=decide (nU=true/\xw=CALL):=⟨_,rfl⟩
         have qI:=ak hq2;clear hq2;have Jl:ae (∀w',aa af W w'->Pr w' pb (.slice oM ms.length cM) (.slice (some ⟨gF,0,none⟩) fx.length cF) ms fx os):=λw' m=>HI.o.quiet (((Pt.o.trans hmd).trans Tn).trans m);go_cut [143] (λaeX wx=>aeX=.bool q1/\wx=W)
         case first =>
          cases nU with
          |false =>
           have HD:ae (q1=false):=by rw[ae,Vn.o];simp
           go_wp2_with fail;go_meet;exact⟨by rw[HD.o],rfl⟩
          |true=>exact absurd HIF.o (by decide)
         case rest =>
         obtain⟨rfl,rfl⟩:=hcut;go_upto_if 143 with fail;go_cut [16] (λs16 wx=>s16=.int .i64 (if q1 then ahH xm mn else 0)/\wx=wc)
         case first =>
          cases q1 with
          |false =>go_wp2_with fail;go_meet;exact⟨rfl,rfl⟩
          |true=>have h9:=Vn.o;rw[HIF.o]at h9;simp at h9
         case rest =>
         obtain⟨rfl,rfl⟩:=hcut;generalize hz1:(if q1 then ahH xm mn else 0)=z1 at *;have HZ1:=ak hz1;clear hz1;go_upto_region 28 with fail;go_cut [153] (λaeY wx=>aeY=.bool q2/\wx=wc)
         case first =>
          cases nU with
          |false =>
           have HD:ae (q2=false):=by rw[ae,qI.o];simp
           go_wp2_with fail;go_meet;exact⟨by rw[HD.o],rfl⟩
          |true=>exact absurd HIF.o (by decide)
         case rest =>
         obtain⟨rfl,rfl⟩:=hcut;go_upto_if 153 with fail;go_cut [16] (λs16 wx=>s16=.int .i64 (if q2 then ahH xm fn else z1)/\wx=wc)
         case first =>
          cases q2 with
          |false =>go_wp2_with fail;go_meet;exact⟨rfl,rfl⟩
          |true=>have h9:=qI.o;rw[HIF.o]at h9;simp at h9
         case rest =>
         obtain⟨rfl,rfl⟩:=hcut;generalize hz2:(if q2 then ahH xm fn else z1)=z2 at *;have HZ2:ae (z2=Wu nU mn fn ⟨xw,x32,xd,xs,xj,xn,xl,xm⟩):=by rw[ae,<-hz2,<-HZ1.o,Vn.o,qI.o,Wu];simp only[decide_eq_true_eq]
         clear hz2;obtain⟨jm,hjm⟩:∃jm,jm=Dw o.lab ⟨xw,x32,xd,xs,xj,xn,xl,xm⟩ mE:=⟨_,rfl⟩
         have HJM:=ak hjm;rw[<-hjm]at HJU;clear hjm;obtain⟨sc,hsc,ahn⟩:=fV (GP ⟨xw,x32,xd,xs,xj,xn,xl,xm⟩ jm (z2%18446744073709551616));have Ws:ae (∀w',Calls Tryz.prog 22 #[.agg #[.string xw,.bool x32,.int .i64 xd,.int .i64 xs,.int .i64 xj,.int .u64 xn,.string xl,.string xm],.int .i64 jm,.int .u64 (z2%18446744073709551616)] w' λe w2=>e=.returned (.string sc)/\aa af w' w2):=by intro w';rw[hsc.o];exact HCO.o w' jm _
         go_upto_region 30 with fail;obtain⟨g0,g1,g2,g3,g4,g5,g6,g7⟩:=Ext.eY (S:=af) hbx (λe=>e);have ne1:=Ext.ne af wc;have aeZ:ae (∀g:Ext af wc,Calls Tryz.prog 23 #[.pointer (some ⟨gF,k*8,none⟩),.int .i64 j] g.w λe w2=>e=.returned (.int .i64 jm)/\aa af g.w w2):=λg=>HJU.o _ (Tn.trans g.m);refine bD af (by kernel_rfl) (by kernel_rfl) ?_
         repeat(go_big_quiet_step (first |(go_at_call 23;exact Calls.dN (aeZ.o _)) |(go_at_call 22;exact Calls.dN (Ws.o _))))
         refine wpQuiet_nil ?_;rintro w2 ⟨⟨wx,m2⟩,hwx⟩;simp only at hwx;subst hwx;have adn:=hbx.ah m2 id;have M9:ae (aa af wO w2):=(hmd.trans Tn).trans m2;have MW:ae (aa af wr w2):=Tn.trans m2;have HQE:ae ((!xm.toList.isEmpty)=decide (xm≠E0)):=Jt xm;have HAU:ae (a'++uz ⟨xw,x32,xd,xs,xj,xn,xl,xm⟩ jm (z2%18446744073709551616)++((o.ls.zip o.ats).drop (j+1)).flatMap (Js nU mn fn o.lab)=a++Yp nU mn fn o):=by rw[ae,<-aeV.o,Js,HJM.o,HZ2.o]
         have HOU:ae (so'++sc=T (a'++uz ⟨xw,x32,xd,xs,xj,xn,xl,xm⟩ jm (z2%18446744073709551616))):=by rw[ae,<-jR,<-Tp.o,hsc.o]
         have ag8:=GP ⟨xw,x32,xd,xs,xj,xn,xl,xm⟩ jm (z2%18446744073709551616);generalize uz ⟨xw,x32,xd,xs,xj,xn,xl,xm⟩ jm (z2%18446744073709551616)=cl at *;clear hbx m2 i0 i1 i2 i3 i4 i5 i6 i7 e0 e1 e2 e3 e4 e5 e6 e7 f1 g0 g1 g2 g3 g4 g5 g6 g7;obtain⟨i0,i1,i2,i3,i4,i5,i6,i7⟩:=adn.eY;go_upto_if 169 with fail;generalize(!xm.toList.isEmpty)=q3 at *;cases q3 with
         |false =>
          have hz:¬xm≠E0:=by simpa using HQE.o.symm
          have HRU:ae (r'++((o.ls.zip o.ats).drop (j+1)).flatMap (vg k)=r++(o.ls.zip o.ats).flatMap (vg k)):=by rw[ae,<-adl.o,vg,iN9 hz,List.append_nil]
          have HCU:ae (c'+(((o.ls.zip o.ats).drop (j+1)).map vk).sum=c+((o.ls.zip o.ats).map vk).sum):=by rw[ae,<-adm.o,vk,iN9 hz];rfl
          clear hz;go_wp2_with fail;go_roundg (o.ls.length-(j+1))
          case measure=>omega
          case rel =>have hb:=HB2.o;refine⟨j+1,c',a'++cl,r',congrArg Value.string HOU.o,congrArg Value.string aax.o,rfl,by go_num,HAU.o,HRU.o,HCU.o,by rw[an];omega,by omega,by omega,M9.o,by omega,rfl⟩
         |true =>
          have hz:xm≠E0:=by simpa using HQE.o.symm
          have HRU:ae (r'++(b8 [(k:Int)]++b8 (dY mE)++dH xm)++((o.ls.zip o.ats).drop (j+1)).flatMap (vg k)=r++(o.ls.zip o.ats).flatMap (vg k)):=by rw[ae,<-adl.o,vg,iP9 hz]
          have HCU:ae (c'+1+(((o.ls.zip o.ats).drop (j+1)).map vk).sum=c+((o.ls.zip o.ats).map vk).sum):=by rw[ae,<-adm.o,vk,iP9 hz]
          clear hz;obtain⟨s1,hs1,aho⟩:=fV (l:=b8 [(k:Int)]) (k:=1) (by simp[b8]);obtain⟨s2,hs2,adk⟩:=fV (l:=b8 (dY mE)) (k:=2) (by simp[b8,dY]);obtain⟨s3,hs3,aeR⟩:=fV (l:=dH xm) (k:=301) (by rw[dS];omega);have HTW:ae (∀w',Calls Tryz.prog 20 #[.int .i64 mE] w' λe w2=>e=.returned (.string s2)/\aa af w' w2):=λw'=>by rw[hs2.o];exact DY mE w'
          have HNA:ae (∀w',Calls Tryz.prog 19 #[.string xm] w' λe w2=>e=.returned (.string s3)/\aa af w' w2):=λw'=>by rw[hs3.o];exact yt xm (by omega) w'
          have HX7:ae (∀w',aa af w2 w'->w'.cell? ⟨wr.heap.size,7,none⟩=some (.string xm)):=λw' m=>(adn.ah m id).cell 7;have ado:ae (∀w',aa af w2 w'->w'.cell? ⟨gF,k*8+2,none⟩=some (.slice (some ⟨gA,0,none⟩) o.ats.length cA)/\w'.cell? ⟨gA,j,none⟩=some (.int .i64 mE)):=λw' m=>⟨(HFQ.o w' (MW.o.trans m)).c2,HCA.o w' (MW.o.trans m)⟩
          go_wp2_with fail;refine mD [.inl (.string sr'),.inl (.int .i64 (k:Int)),.inl (.int .u8 (k:Int)),.inr (λu w'=>∃g,u=.slice (some ⟨g,0,none⟩) 1 1/\aq w' g #[.int .u8 (k:Int)] 5),.inl (.string s1),.inl (.string (sr'++s1)),.inl (.pointer (some ⟨gF,k*8,none⟩)),.inl (.pointer (some ⟨gF,k*8,none⟩)),.inl (.pointer (some ⟨gF,k*8+2,none⟩)),.inl (.slice (some ⟨gA,0,none⟩) o.ats.length cA),.inl (.int .i64 (j:Int)),.inl (.pointer (some ⟨gA,j,none⟩)),.inl (.int .i64 mE),.inl (.string s2),.inl (.string (sr'++s1++s2)),.inl (.pointer (some ⟨wr.heap.size,7,none⟩)),.inl (.string xm),.inl (.string s3),.inl (.string (sr'++s1++s2++s3)),.inl (.string (sr'++s1++s2++s3))] (λw'=>aa af w2 w') (aa af) (by kernel_rfl) (by kernel_rfl) (by kernel_rfl) ((aa.refl _ _).drew) ?_ (λ_ _ h1 h2=>h1.trans h2) (λ_=>aa.refl _ _) ?_
          ·exact oz (show tM _ _ from⟨λu w1 w2 m ⟨g,h1,h2⟩=>⟨g,h1,h2.ah m id⟩,trivial⟩)
          refine aM rfl (λw' hC _ K hK=>?_) ?_
          ·go_big_op;exact hK _ _ _ rfl (aa.refl _ _) rfl
          simp only[Act.put,sA9,sB9,sC9];refine aM rfl (λw' hC _ K hK=>?_) ?_
          ·go_big_op;exact hK _ _ _ rfl (aa.refl _ _) rfl
          simp only[Act.put,sA9,sB9,sC9];refine aM rfl (λw' hC _ K hK=>?_) ?_
          ·go_big_op;exact hK _ _ _ rfl (aa.refl _ _) rfl
          simp only[Act.put,sA9,sB9,sC9];refine CT rfl (λw' hC _ K hK=>?_) (λx=>?_)
          ·go_big_op;exact hK _ _ _ rfl ((aa.refl _ _).alloc _) ⟨_,rfl,aq.new _ _ _⟩
          simp only[Act.put,sA9,sB9,sC9];refine aM rfl (λw' hC hk K hK=>?_) ?_
          ·obtain⟨g,rfl,hg⟩:∃g,x=.slice (some ⟨g,0,none⟩) 1 1/\aq w' g #[.int .u8 (k:Int)] 5:=qW hk 3 (by decide);have hcv:=ve w' g [(k:Int)] (λx hx=>by simp at hx;subst hx;omega) hg;simp only[ar,ba]at hcv;rw[nT,<-hs1.o]at hcv;go_big_op;exact hK _ _ _ rfl (aa.refl _ _) rfl
          simp only[Act.put,sA9,sB9,sC9];refine aM rfl (λw' hC _ K hK=>?_) ?_
          ·go_big_op;exact hK _ _ _ rfl (aa.refl _ _) rfl
          simp only[Act.put,sA9,sB9,sC9];refine aM rfl (λw' hC _ K hK=>?_) ?_
          ·go_big_op;exact hK _ _ _ rfl (aa.refl _ _) rfl
          simp only[Act.put,sA9,sB9,sC9];refine aM rfl (λw' hC _ K hK=>?_) ?_
          ·go_big_op;exact hK _ _ _ rfl (aa.refl _ _) rfl
          simp only[Act.put,sA9,sB9,sC9];refine aM rfl (λw' hC _ K hK=>?_) ?_
          ·go_big_op;exact hK _ _ _ rfl (aa.refl _ _) rfl
          simp only[Act.put,sA9,sB9,sC9];refine aM rfl (λw' hC _ K hK=>?_) ?_
          ·have e1:=(ado.o w' hC).1;go_big_op;exact hK _ _ _ rfl (aa.refl _ _) rfl
          simp only[Act.put,sA9,sB9,sC9];refine aM rfl (λw' hC _ K hK=>?_) ?_
          ·go_big_op;exact hK _ _ _ rfl (aa.refl _ _) rfl
          simp only[Act.put,sA9,sB9,sC9];refine aM rfl (λw' hC _ K hK=>?_) ?_
          ·go_big_op;exact hK _ _ _ rfl (aa.refl _ _) rfl
          simp only[Act.put,sA9,sB9,sC9];refine aM rfl (λw' hC _ K hK=>?_) ?_
          ·have e1:=(ado.o w' hC).2;go_big_op;exact hK _ _ _ rfl (aa.refl _ _) rfl
          simp only[Act.put,sA9,sB9,sC9];refine aM rfl (λw' hC _ K hK=>?_) ?_
          ·go_big_op;refine(HTW.o _).mono ?_;rintro e w3 ⟨rfl,m3⟩;exact hK _ _ _ rfl m3 rfl
          simp only[Act.put,sA9,sB9,sC9];refine aM rfl (λw' hC _ K hK=>?_) ?_
          ·go_big_op;exact hK _ _ _ rfl (aa.refl _ _) rfl
          simp only[Act.put,sA9,sB9,sC9];refine aM rfl (λw' hC _ K hK=>?_) ?_
          ·go_big_op;exact hK _ _ _ rfl (aa.refl _ _) rfl
          simp only[Act.put,sA9,sB9,sC9];refine aM rfl (λw' hC _ K hK=>?_) ?_
          ·have e1:=HX7.o w' hC;go_big_op;exact hK _ _ _ rfl (aa.refl _ _) rfl
          simp only[Act.put,sA9,sB9,sC9];refine aM rfl (λw' hC _ K hK=>?_) ?_
          ·go_big_op;refine(HNA.o _).mono ?_;rintro e w3 ⟨rfl,m3⟩;exact hK _ _ _ rfl m3 rfl
          simp only[Act.put,sA9,sB9,sC9];refine aM rfl (λw' hC _ K hK=>?_) ?_
          ·go_big_op;exact hK _ _ _ rfl (aa.refl _ _) rfl
          simp only[Act.put,sA9,sB9,sC9];refine aM rfl (λw' hC _ K hK=>?_) ?_
          ·go_big_op;exact hK _ _ _ rfl (aa.refl _ _) rfl
          simp only[Act.put,sA9,sB9,sC9];refine CU (λw' hC _=>?_)
          try simp only[Exit.then]
          go_wp2_with fail;go_roundg (o.ls.length-(j+1))
          case measure=>omega
          case rel =>
           have hb:=HB2.o;refine⟨j+1,c'+1,a'++cl,r'++(b8 [(k:Int)]++b8 (dY mE)++dH xm),congrArg Value.string HOU.o,congrArg Value.string ?_,by go_num,by go_num,HAU.o,HRU.o,HCU.o,by rw[an];omega,?_,by omega,M9.o.trans hC,by omega,rfl⟩
           ·rw[<-jR,<-jR,<-jR,<-aax.o,<-hs1.o,<-hs2.o,<-hs3.o,ByteArray.append_assoc,ByteArray.append_assoc,ByteArray.append_assoc]
           ·simp only[an,dS,gQ,dY,ar,ba];omega
        ·obtain rfl:j=o.ls.length:=by omega
         have hz:(o.ls.zip o.ats).drop o.ls.length=[]:=bh (by simp;omega);have HA2:ae (a'=a++Yp nU mn fn o):=by have:=HA.o;rw[hz]at this;simpa [ae]using this
         have jI:ae (r'=r++(o.ls.zip o.ats).flatMap (vg k)):=by have:=HR.o;rw[hz]at this;simpa [ae]using this
         have HC2:ae (c'=c+((o.ls.zip o.ats).map vk).sum):=by have:=HC.o;rw[hz]at this;simpa [ae]using this
         clear hz HA HR HC;go_wp2_with fail;go_roundg (fx.length-(k+1))
         case measure=>omega
         case rel =>refine⟨k+1,c',a',r',rfl,rfl,rfl,by go_num,by rw[HA2.o];exact HDA.o,by rw[jI.o];exact HDR.o,by rw[HC2.o];exact HDC.o,by omega,by omega,by omega,Pt.o.trans hmd,by omega,rfl⟩
      ·obtain rfl:k=fx.length:=by omega
       have HA2:ae (a=l'++Cz nU mn fn os):=by
        have:=HA.o;rw[bh (by rw[Yl.o];omega)]at this
        simpa [ae,Cz]using this
       have jI:ae (r=aib 0 os):=by
        have:=HR.o;rw[bh (by rw[Yl.o];omega)]at this
        simpa [ae,aib]using this
       have HC2:ae (c=aic os):=by
        have:=HC.o;rw[bh (by rw[Yl.o];omega)]at this
        simpa [ae,aic]using this
       have HBY:ae (vw nU ms (fx.map (·.1)) os=a++(if nU then []else b8 (dY c)++r)):=by rw[ae,vw,HA2.o,ep.o,HC2.o,jI.o,HHD.o,VT.o,HFN.o];simp only[ao,List.length_map]
       have hca:c<=3200:=by omega
       obtain⟨so',wW⟩:∃o,o=T a:=⟨_,rfl⟩
       have WN:so'.size<=60000:=by rw[wW,bZ];omega
       have Tp:=ak wW;rw[<-wW];obtain⟨sr',hsr⟩:∃o,o=T r:=⟨_,rfl⟩
       have aeW:sr'.size<=2000000:=by rw[hsr,bZ];omega
       have aax:=ak hsr;rw[<-hsr];have adp:=ak hmd;clear wW hsr hI hal hrl hmd;cases nU with
       |true=>exact absurd HIF.o (by decide)
       |false =>
        obtain⟨s2,hs2,adk⟩:=fV (l:=b8 (dY c)) (k:=2) (by simp[b8,dY]);have HTW:ae (∀w',Calls Tryz.prog 20 #[.int .i64 c] w' λe w2=>e=.returned (.string s2)/\aa af w' w2):=λw'=>by rw[hs2.o];exact DY c w'
        go_wp2_with fail;refine(HTW.o _).mono ?_;rintro e w2 ⟨rfl,m2⟩;go_wp2_with fail;go_ret;refine⟨?_,adp.o.trans m2⟩;rw[HBY.o];simp only[Bool.false_eq_true,if_false];refine Qf ?_;rw[Tp.o,hs2.o,aax.o,jR,jR,ao]
structure eX where
 f:yY
 o:lS
 line:Int
 qC:List Int
def eX.new(name:tBA)(line:Int):eX:=⟨⟨name,0⟩,⟨[],[],[],⟨0,false⟩⟩,line,[]⟩
structure uB where
 ms:List bz:=[]
 fs:List eX:=[]
 sn:j9:={}
 slots:Nat:=0
def ahW(line:Int):List (aA×Nat)->j9->j9
 |[],s=>s
 |(n,most)::l,s=>ahW line l (s.wrong (!n.within 0 most||decide (n.v%18446744073709551616=0)) 3 line)
def kH(name:tBA)(ns:List aA):bz :=
 ⟨name,(((ns.getD 0 ⟨0,false⟩).v%18446744073709551616%256:Nat):Int),(((ns.getD 1 ⟨0,false⟩).v%18446744073709551616%256:Nat):Int),(((ns.getD 2 ⟨0,false⟩).v%18446744073709551616%256:Nat):Int)⟩
def kg(a:uB)(name:tBA)(ns:List aA)(line:Int):uB :=
 {a with
  sn:=((ahW line (ns.zip [8,16,8]) a.sn).wrong (decide (0<=ahH name (a.ms.map (·.name)))) 4 line).wrong (decide (8<=a.ms.length)) 1 line
  ms:=a.ms++[kH name ns]}
def rj(a:uB)(name:tBA)(line:Int):uB :=
 {a with
  sn:=(a.sn.wrong (decide (0<=ahH name (a.fs.map (λx=>x.f.name)))) 4 line).wrong (decide (16<=a.fs.length)) 1 line
  fs:=a.fs++[eX.new name line]}
def uC(fs:List eX)(g:eX->eX):List eX:=fs.dropLast++(fs.getLast?.map g).toList
def Bf(a:uB)(name:tBA)(line:Int):uB :=
 {a with
  sn:=a.sn.wrong (decide (0<=ahJ name ((a.fs.getLast?.map (λx=>x.o.lab)).getD []))) 4 line
  fs:=uC a.fs (λx=>{x with o:={x.o with lab:=x.o.lab++[(name,(x.f.slots:Int))]}})}
def CA(a:uB)(x:aj)(line:Int):uB :=
 {a with
  sn:=(x.ranged line a.sn).2.wrong (decide (200<a.slots+dL x.i.word)) 1 line
  slots:=a.slots+dL x.i.word
  fs:=uC a.fs (λy=>{y with f:={y.f with slots:=y.f.slots+dL x.i.word},o:={y.o with ls:=y.o.ls++[(x.ranged line a.sn).1.i],ats:=y.o.ats++[(y.f.slots:Int)]},qC:=y.qC++[line]})}
def jX(a:uB)(r:qN)(line:Int):Option uB :=
 if r.ok=false\/(a.fs=[]/\(r.x.kind=58\/r.x.kind=105))then none
 else if r.x.kind=109 then some (kg a r.x.name r.ns line)
 else if r.x.kind=102 then some (rj a r.x.name line)
 else if r.x.kind=58 then some (Bf a r.x.name line)
 else if r.x.kind=105 then some (CA a r.x line)
 else some a
def ahS(s:tBA):Nat->Nat->Nat
 |0,k=>k
 |f+1,k=>if iV s k=10\/s.size<=k then k else ahS s f (k+1)
def ahT(s:tBA):Nat->Nat->Nat->uB->uB ⊕ Nat
 |0,_,_,a=>.inl a
 |f+1,k,line,a =>
  if k<=s.size then
   match jX a (ahO (s.extract k (ahS s (s.size-k) k))) (line+1:Nat)with
   |none=>.inr (line+1)
   |some a'=>ahT s f (ahS s (s.size-k) k+1) (line+1) a'
  else .inl a
def l8(ms:List bz)(f:eX)(x:bI×Int)(s:j9):j9 :=
 let s1:=if aD x.1.word=106 then s.wrong (decide (ahJ x.1.label f.o.lab<0)||decide ((f.f.slots:Int)<=ahJ x.1.label f.o.lab)) 5 x.2 else s
 if x.1.word=WIDE/\x.1.name≠E0 then s1.wrong (decide (ahH x.1.name (ms.map (·.name))<0)) 5 x.2 else s1
def qy(ms:List bz)(f:eX)(s:j9):j9 :=
 (f.o.ls.zip f.qC).foldl (λs x=>l8 ms f x s) (s.wrong (match f.o.ls.getLast? with|none=>true|some i=>!jH i.word) 6 f.line)
def fB(ms:List bz)(fs:List eX)(s:j9):j9:=fs.foldl (λs f=>qy ms f s) s
def JB(s:tBA):uB ⊕ (Int×Int) :=
 if 4000<s.size then .inr (1,0)
 else match ahT s (s.size+1) 0 0 {}with
  |.inr line=>.inr (2,line)
  |.inl a=>if(fB a.ms a.fs a.sn).code≠0 then .inr ((fB a.ms a.fs a.sn).code,(fB a.ms a.fs a.sn).line)else .inl a
structure SX(w0:tW)(pb sb X Lb:Nat)(vM vF:Value)(ms:List bz)(x:aj)(ns:List aA)(s:j9)(w:tW):Prop where
 prog:aq w pb #[vM,vF] 36
 maps:Sl w 64 4 vM ms.length (ms.flatMap bz.cells)
 ln:aq w X x.cells 47
 lim:aq w Lb #[.int .u64 8,.int .u64 16,.int .u64 8] 41
 nums:Sl w 45 3 x.vl ns.length (ns.flatMap aA.dG)
 sn:Sn w sb s
 md:aa (Only sb) w0 w
section
variable {w0 w w' : World} {pb sb X Lb : Nat} {vM vF : Value} {ms : List bz} {x : aj} {ns : List aA} {s t : j9}
theorem SX.quiet(h:SX w0 pb sb X Lb vM vF ms x ns s w)(m:aa af w w'):SX w0 pb sb X Lb vM vF ms x ns s w' :=
 ⟨h.prog.ah m id,h.maps.ah m (λ_ _=>id),h.ln.ah m id,h.lim.ah m id,h.nums.ah m (λ_ _=>id),aq.ah h.sn m id,h.md.trans m.of_nil⟩
theorem SX.told(h:SX w0 pb sb X Lb vM vF ms x ns s w)(k:Sn w' sb t)(m:aa (Only sb) w w'):SX w0 pb sb X Lb vM vF ms x ns t w' :=
 ⟨h.prog.ah m (λe=>h.prog.apart h.sn (by decide) e),h.maps.ah m (λi hi e=>h.maps.az h.sn (by decide) (by rw[<-show i=sb from e];exact hi)),h.ln.ah m (λe=>h.ln.apart h.sn (by decide) e),h.lim.ah m (λe=>h.lim.apart h.sn (by decide) e),h.nums.ah m (λi hi e=>h.nums.az h.sn (by decide) (by rw[<-show i=sb from e];exact hi)),k,h.md.trans m⟩
end
theorem jw(w0:tW)(pb sb X Lb:Nat)(vM vF:Value)(ms:List bz)(x:aj)(ns:List aA)(s:j9)(is:Bool)(code line:Int)(w:tW)(h:SX w0 pb sb X Lb vM vF ms x ns s w):Calls Tryz.prog 13 #[.pointer (some ⟨sb,0,none⟩),.bool is,.int .i64 code,.int .i64 line] w λe w'=>e=.returned (.tuple #[])/\SX w0 pb sb X Lb vM vF ms x ns (s.wrong is code line) w' :=
 (fG sb s is code line w h.sn).mono (λ_ _ ⟨he,hs,hm⟩=>⟨he,h.told hs hm⟩)
theorem SX.num{w0 w:tW}{pb sb X Lb:Nat}{vM vF:Value}{ms:List bz}{x:aj}{ns:List aA}{s:j9}(h:SX w0 pb sb X Lb vM vF ms x ns s w)(hn:ns.length=3):∃g c,x.vl=.slice (some ⟨g,0,none⟩) 3 c/\3<=c/\∀w',aa af w w'->∀k (hk:k<3),w'.cell? ⟨g,k*3,none⟩=some (.int .u64 (((ns[k]'(by omega)).v%18446744073709551616:Nat):Int))/\w'.cell? ⟨g,k*3+1,none⟩=some (.bool (decide (18446744073709551616<=(ns[k]'(by omega)).v)))/\w'.cell? ⟨g,k*3+2,none⟩=some (.bool (ns[k]'(by omega)).minus):=by
 obtain⟨o,c,hv,hb⟩:=h.nums.view;obtain⟨g,cs,rfl,hb,ht,hc,_⟩:=hb (by omega);refine⟨g,c,by rw[hv,hn],by omega,λw' m k hk=>?_⟩;have hb':=hb.ah m id;have hf:∀y:aA,y.dG.length=3:=λ_=>rfl;refine⟨?_,?_,?_⟩
 ·rw[bA hb' ht (k*3) (by omega),show k*3=k*3+0 from rfl,flat_get aA.dG 3 hf ns k 0 (by omega) (by omega)];rfl
 ·rw[bA hb' ht (k*3+1) (by omega),flat_get aA.dG 3 hf ns k 1 (by omega) (by omega)];rfl
 ·rw[bA hb' ht (k*3+2) (by omega),flat_get aA.dG 3 hf ns k 2 (by omega) (by omega)];rfl
