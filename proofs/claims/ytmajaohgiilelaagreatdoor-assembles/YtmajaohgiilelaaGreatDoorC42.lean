import Derived.Test.YtmajaohgiilelaaGreatDoorC39
namespace Go.Proofs.YtmajaohgiilelaaGreatDoor
open Go.RowKit Tryz
open Nat renaming zero_le->an
set_option linter.all false
set_option maxRecDepth 100000
set_option maxHeartbeats 1000000
theorem ait(s:tBA)(w:tW):Calls prog 6 #[.string s] w λe w'=>ahY w s e w':=by
 by_cases hbig:4000<s.size
 ·have HF:ae (∀w',aa af w w'->ahY w s (.returned (.tuple #[.pointer none,.int .i64 1,.int .i64 0])) w'):=λw' m=>⟨m,by unfold JB;rw[iP9 hbig]⟩
  generalize ahY w s=RP at *;go_enter func6,ntmps6;go_wp2_with fail;go_ret3;exact HF.o _ (aa.refl _ _)
 ·have HFE:ae (∀w' n,aa af w w'->ahT s (s.size+1) 0 0 {}=.inr n->ahY w s (.returned (.tuple #[.pointer none,.int .i64 2,.int .i64 (n:Nat)])) w'):=λw' n m h=>⟨m,by unfold JB;rw[iN9 hbig,h]⟩
  have HFS:ae (∀w' a,aa af w w'->ahT s (s.size+1) 0 0 {}=.inl a->(fB a.ms a.fs a.sn).code≠0->ahY w s (.returned (.tuple #[.pointer none,.int .i64 (fB a.ms a.fs a.sn).code,.int .i64 (fB a.ms a.fs a.sn).line])) w'):=λw' a m h hc=>⟨m,by unfold JB;rw[iN9 hbig,h];simp only;rw[iP9 hc]⟩
  have HFO:ae (∀w' a,aa af w w'->ahT s (s.size+1) 0 0 {}=.inl a->(fB a.ms a.fs a.sn).code=0->∀(pb:Nat) (vM vF:Value) (xs:List (eX×dF)) (ms':List bz) (z':List ug),a.fs=xs.map (·.1)->ms'.Perm a.ms->ib (·.name) ms' ms'.length->z'.Perm (xs.map (λx:eX×dF=>(((x.1.f,x.2),x.1.o):ug)))->ib ug.nm z' z'.length->Pr w' pb vM vF ms' (z'.map (·.1)) (z'.map (·.2))->ahY w s (.returned (.tuple #[.pointer (some ⟨pb,0,none⟩),.int .i64 0,.int .i64 0])) w'):=λw' a m h hc pb vM vF xs ms' z' h1 h2 h3 h4 h5 h6=>⟨m,by
   unfold JB;rw[iN9 hbig,h];simp only;rw[iN9 (λe=>e hc)];exact⟨pb,vM,vF,xs,ms',z',rfl,h1,h2,h3,h4,h5,h6⟩⟩
  have Qn:ae (∀k e w',e<=s.size->Calls prog 10 #[.string (s.extract k e)] w' λe' w''=>jF w' (ahO (s.extract k e)) e' w''):=λk e w' he=>Pp (s.extract k e) w' (by rw[ByteArray.size_extract];omega) (λw=>aiA (s.extract k e) w (by rw[ByteArray.size_extract];omega));generalize ahY w s=RP at *
  have HW0:ae (SW w w.heap.size (w.heap.size+1) (.slice none 0 0) (.slice none 0 0) [] [] {} ((w.alloc (.cells #[.slice none 0 0,.slice none 0 0] 36)).alloc (.cells #[.int .i64 0,.int .i64 0] 39))):=by
   refine⟨(yI.new w w (aa.refl _ _)).quiet ((aa.refl _ _).alloc _),?_⟩;have:=aq.new (w.alloc (.cells #[.slice none 0 0,.slice none 0 0] 36)) #[.int .i64 0,.int .i64 0] 39;have e:(w.alloc (.cells #[.slice none 0 0,.slice none 0 0] 36)).heap.size=w.heap.size+1:=by simp
   rw[e]at this;exact this
  have gq:ae (aa af w ((w.alloc (.cells #[.slice none 0 0,.slice none 0 0] 36)).alloc (.cells #[.int .i64 0,.int .i64 0] 39))):=((aa.refl _ _).alloc _).alloc _;have Fe:ae (w.heap.size<=w.heap.size+1):=Nat.le_succ _;go_enter func6,ntmps6;go_upto_region 5 with fail;go_wp2_with fail;generalize(w.alloc (.cells #[.slice none 0 0,.slice none 0 0] 36)).alloc (.cells #[.int .i64 0,.int .i64 0] 39)=w1 at *;generalize hpb:w.heap.size=pb at *;generalize hsb:pb+1=sb at *;go_loopg [9,8,7] (s.size+1) (λq v9 v8 v7 wx=>∃(k n sl:Nat) (a:uB) (vM vF:Value) (ms:List bz) (xs:List (eX×dF)) (sn:j9),v9=.int .i64 k/\v8=.int .i64 n/\v7=.int .i64 sl/\n<=k/\k<=s.size+1/\SW w pb sb vM vF ms xs sn wx/\aa af w wx/\AS a ms xs sn sl n/\ahT s (s.size+1-n) k n a=ahT s (s.size+1) 0 0 {}/\q=s.size+1-k)
  case atStart=>exact⟨0,0,0,{},_,_,[],[],{},rfl,rfl,rfl,Nat.le_refl _,an _,HW0.o,gq.o,⟨rfl,rfl,rfl,rfl,an _,an _,an _,λx h=>(by cases h)⟩,rfl,rfl⟩
  case round =>
   obtain⟨k,n,sl,a,vM,vF,ms,xs,sn,rfl,rfl,rfl,hnk,hks,hS,hM,hA,hR,rfl⟩:=hrel;have HS:=ak hS;have HM:=ak hM;have HA:=ak hA;have HR:=ak hR;clear hS hM hA hR HW0 gq;obtain⟨oM,cM,Jv,_⟩:=HS.o.da.maps.view;obtain⟨oF,cF,uZ,_⟩:=HS.o.da.rows.view;subst Jv uZ;have Qr:=HA.o.bm;have hbf:=HA.o.bf;have hbs:=HA.o.bs;by_cases hk:k<=s.size
   ·obtain⟨E,hE⟩:∃E,E=ahS s (s.size-k) k:=⟨_,rfl⟩
    have HEL:=Ev s (s.size-k) k hk rfl;rw[<-hE]at HEL;have HE:=ak hE;clear hE;go_upto_block 2 with fail;go_cut [10] (λv wx=>v=.int .i64 E/\wx=wr)
    case first =>
     obtain⟨wO,hwO⟩:∃wO,wO=wr:=⟨_,rfl⟩
     have HWO:=ak hwO;subst hwO;go_wp2_with fail;go_loopg [10] (s.size-k) (λq v10 wx=>∃(j:Nat),v10=.int .i64 j/\k<=j/\j<=s.size/\ahS s (s.size-j) j=E/\wx=wO/\q=s.size-j)
     case atStart=>exact⟨k,rfl,Nat.le_refl _,hk,HE.o.symm,rfl,rfl⟩
     case round =>
      obtain⟨j,rfl,hkj,hjs,hj,rfl,rfl⟩:=hrel;have HJ:=ak hj;clear hj;by_cases hjl:j<s.size
      ·have HST:=JP s j hjl;by_cases h10:((s[j]'hjl).toNat:Int)=10
       ·have q10:(((s[j]'hjl).toNat:Int) != 10)=false:=by simp[h10]
        have HJE:ae (j=E):=by rw[ae,<-HJ.o,HST,iP9 h10]
        clear HST h10;go_wp2_with fail;go_meet;exact⟨by rw[HJE.o],rfl⟩
       ·have q10:(((s[j]'hjl).toNat:Int) != 10)=true:=by simpa using h10
        have HJE:ae (ahS s (s.size-(j+1)) (j+1)=E):=by rw[ae,<-HJ.o,HST,iN9 h10]
        clear HST h10;go_wp2_with fail;go_roundg (s.size-(j+1))
        case measure=>omega
        case rel=>exact⟨j+1,by go_num,by omega,by omega,HJE.o,rfl,rfl⟩
      ·obtain rfl:j=s.size:=by omega
       have HJE:ae (s.size=E):=by rw[ae,<-HJ.o,LQ]
       go_wp2_with fail;go_meet;exact⟨by rw[HJE.o],rfl⟩
    case rest =>
    obtain⟨rfl,hwc⟩:=hcut;subst hwc;have HPC:=Qn.o k E wc (by omega);have HLS:ae (ahT s (s.size+1-n) k n a=match jX a (ahO (s.extract k E)) (n+1:Nat)with|none=>.inr (n+1)|some a'=>ahT s (s.size+1-(n+1)) (E+1) (n+1) a'):=by have h1:=PX s k n a hk hnk;rw[<-HE.o]at h1;exact h1
    have Uk:=LV (s.extract k E);have QU:=ak Uk.1;have QR:ae ((ahO (s.extract k E)).x.i.word.size<=4000):=by rw[ae];have:=Uk.2;rw[ByteArray.size_extract]at this;omega
    clear Uk;generalize ahO (s.extract k E)=r at *;go_wp2_with fail;refine HPC.mono ?_;rintro e w2 ⟨vl,rfl,iB,hvl,m2⟩;have HS2:=ak (HS.o.quiet m2);have ep:=ak (HM.o.trans m2);have HNU:=ak iB;clear iB hvl m2 HPC HS HM;have HLM:ae (jX a r (n+1:Nat)=if r.ok=false\/(a.fs=[]/\(r.x.kind=58\/r.x.kind=105))then none else if r.x.kind=109 then some (kg a r.x.name r.ns (n+1:Nat))else if r.x.kind=102 then some (rj a r.x.name (n+1:Nat))else if r.x.kind=58 then some (Bf a r.x.name (n+1:Nat))else if r.x.kind=105 then some (CA a r.x (n+1:Nat))else some a):=rfl;have HB0:ae (aq (w2.alloc (.cells eB 47)) w2.heap.size eB 47):=aq.new w2 _ _;obtain⟨y,hy⟩:∃y:aj,y={r.x with vl:=vl}:=⟨_,rfl⟩
    have HY:=ak hy;rw[<-hy];obtain⟨cs,hcs⟩:∃cs,cs=y.cells:=⟨_,rfl⟩
    have gR:=ak hcs;have wY:ae (cs[1]?=some (.string r.x.name)):=by rw[ae,hcs,hy];rfl
    have TQ:ae (cs.size=19):=by rw[ae,hcs];rfl
    have yg:ae (cs.all (·.oneCell')=true):=by obtain⟨o,c,hv,_⟩:=HNU.o.view;rw[ae,hcs];exact aj.one y (by rw[hy];simp only;rw[hv];rfl)
    rw[<-hcs];clear hcs hy;go_upto_region 14 with(refine dI rfl 47 (.tmp 11) (.tmp 49) rfl w2.heap.size cs rfl rfl 47 _ HB0.o (by rw[TQ.o];kernel_rfl) (by rw[TQ.o];rfl) yg.o ?_;intro W3 hB3 zG)
    have jZ:=ak (HS2.o.quiet zG.fresh);have fw:=ak (ep.o.trans zG.fresh);have Dh:ae (Sl W3 45 3 vl r.ns.length (r.ns.flatMap aA.dG)):=HNU.o.ah zG.fresh (λ_ _=>id);have oK:=ak hB3;have CG:ae (pb<=w2.heap.size):=by have:=ep.o.size;rw[ae];omega
    clear hB3 zG HB0 HNU HS2 ep;generalize w2.heap.size=X at *;have x0:W3.cell? ⟨X,0,none⟩=some (.int .u8 r.x.kind):=by rw[oK.o.cell 0,gR.o,HY.o];rfl
    have x1:W3.cell? ⟨X,1,none⟩=some (.string r.x.name):=by rw[oK.o.cell 1];exact wY.o
    have p1:W3.cell? ⟨pb,1,none⟩=some (.slice oF xs.length cF):=jZ.o.da.prog.cell 1;obtain⟨qb,hqb⟩:∃qb:Bool,qb=decide (r.ok=false\/(a.fs=[]/\(r.x.kind=58\/r.x.kind=105))):=⟨_,rfl⟩
    have P7:=ak hqb;clear hqb;have abh:ae (a.fs=[]↔xs.length=0):=by rw[ae,HA.o.XG,List.map_eq_nil_iff,List.length_eq_zero_iff]
    go_upto_region 15 with fail;go_cut [72] (λv wx=>v=.bool qb/\wx=W3)
    case first =>
     generalize hro:r.ok=ok at *;generalize hkd:r.x.kind=kd at *;cases ok with
     |false =>
      have HQ:ae (qb=true):=by rw[ae,P7.o];exact decide_eq_true (.inl rfl)
      clear P7;go_wp2_with fail;go_meet;exact⟨by rw[HQ.o],rfl⟩
     |true =>
      by_cases hxl:xs.length=0
      ·have q0:((xs.length:Int)==0)=true:=by rw[hxl];rfl
       have hfs:=abh.o.2 hxl;by_cases uK:kd=58
       ·have q1:(kd==58)=true:=by simpa using uK
        have HQ:ae (qb=true):=by rw[ae,P7.o];exact decide_eq_true (.inr ⟨hfs,.inl uK⟩)
        clear P7 hfs;generalize xs.length=xl at *;go_wp2_with fail;go_meet;exact⟨by rw[HQ.o],rfl⟩
       ·have q1:(kd==58)=false:=by simpa using uK
        by_cases X9:kd=105
        ·have q2:(kd==105)=true:=by simpa using X9
         have HQ:ae (qb=true):=by rw[ae,P7.o];exact decide_eq_true (.inr ⟨hfs,.inr X9⟩)
         clear P7 hfs uK;generalize xs.length=xl at *;go_wp2_with fail;go_meet;exact⟨by rw[HQ.o],rfl⟩
        ·have q2:(kd==105)=false:=by simpa using X9
         have HQ:ae (qb=false):=by rw[ae,P7.o];exact decide_eq_false (λe=>e.elim (λe=>by cases e) (λe=>e.2.elim uK X9))
         clear P7 hfs uK X9;generalize xs.length=xl at *;go_wp2_with fail;go_meet;exact⟨by rw[HQ.o],rfl⟩
      ·have q0:((xs.length:Int)==0)=false:=by rw[beq_eq_false_iff_ne];omega
       have HQ:ae (qb=false):=by rw[ae,P7.o];exact decide_eq_false (λe=>e.elim (λe=>by cases e) (λe=>hxl (abh.o.1 e.1)))
       clear P7 hxl;go_wp2_with fail;go_meet;exact⟨by rw[HQ.o],rfl⟩
    case rest =>
    obtain⟨rfl,hwc⟩:=hcut;subst hwc;cases qb with
    |true =>
     have AQ:ae (ahT s (s.size+1) 0 0 {}=.inr (n+1)):=by have h1:=HLM.o;rw[iP9 (of_decide_eq_true P7.o.symm)]at h1;rw[ae,<-HR.o,HLS.o,h1]
     clear HLM P7 HLS HR;go_wp2_with fail;go_ret3;exact HFE.o _ _ fw.o AQ.o
    |false =>
     have HL2:ae (jX a r (n+1:Nat)=if r.x.kind=109 then some (kg a r.x.name r.ns (n+1:Nat))else if r.x.kind=102 then some (rj a r.x.name (n+1:Nat))else if r.x.kind=58 then some (Bf a r.x.name (n+1:Nat))else if r.x.kind=105 then some (CA a r.x (n+1:Nat))else some a):=by have h1:=HLM.o;rw[iN9 (of_decide_eq_false P7.o.symm)]at h1;exact h1
     have gU:ae (r.x.kind=58\/r.x.kind=105->0<xs.length):=λh=>by
      have h1:=of_decide_eq_false P7.o.symm;rcases Nat.eq_zero_or_pos xs.length with h2|h2
      ·exact absurd (.inr ⟨abh.o.2 h2,h⟩) h1
      ·exact h2
     have Mx:ae (∀a',jX a r (n+1:Nat)=some a'->ahT s (s.size+1-(n+1)) (E+1) (n+1) a'=ahT s (s.size+1) 0 0 {}):=λa' h=>by have h1:=HLS.o;rw[h]at h1;exact h1.symm.trans HR.o
     clear HLM P7 HLS HR abh;generalize hln:(n:Int)+1=ln at *;have x8:ae (ln=((n+1:Nat):Int)):=by rw[ae,<-hln];omega
     clear hln;rw[<-x8.o]at HL2 Mx;have hcase:(r.x.kind=109\/r.x.kind=102\/r.x.kind=58\/r.x.kind=105)\/(r.x.kind≠109/\r.x.kind≠102/\r.x.kind≠58/\r.x.kind≠105):=by omega
     rcases hcase with hx|hx
     ·have HXX:=ak hx;clear hx;go_upto_block 4 with fail;refine TT w wc pb sb X n sl cM cF oM oF a ms xs sn r y vl cs ln hpb Fe CG x8 (by omega) Qr hbf hbs HA HY jZ fw Dh oK gR wY TQ yg QU QR HL2 gU x0 x1 p1 HXX.o _ ?_;intro v7
      iterate 162 intro _
      intro w' hg;obtain⟨a',hle,sl',vM',Ns,ms',xs',sn',rfl,h1,h2,h3⟩:=hg;have HG1:=ak h1;have HG3:=ak h3;have HGL:=ak hle;clear h1 h3 hle
      try simp only[Exit.inBlock,Exit.then,if_true]
      refine ‹∀(a':Act) (w':tW),Handed _ _ a' w'->_› _ _ ?_;go_roundg (s.size+1-(E+1))
      case measure=>omega
      case rel=>exact⟨E+1,n+1,sl',a',_,_,ms',xs',sn',by go_num,by rw[x8.o],rfl,by omega,by omega,HG1.o,h2,HG3.o,Mx.o _ HGL.o,rfl⟩
     ·generalize hkd:r.x.kind=kd at *;have q1:(kd==109)=false:=by simpa using hx.1
      have q2:(kd==102)=false:=by simpa using hx.2.1
      have q3:(kd==58)=false:=by simpa using hx.2.2.1
      have q4:(kd==105)=false:=by simpa using hx.2.2.2
      have Dm:ae (jX a r ln=some a):=by rw[ae,HL2.o,iN9 hx.1,iN9 hx.2.1,iN9 hx.2.2.1,iN9 hx.2.2.2]
      have HA2:ae (AS a ms xs sn sl (n+1)):=AS.more HA.o (Nat.le_succ n);clear hx HL2;go_wp2_with fail;go_roundg (s.size+1-(E+1))
      case measure=>omega
      case rel=>exact⟨E+1,n+1,sl,a,_,_,ms,xs,sn,by go_num,by rw[x8.o],rfl,by omega,by omega,jZ.o,fw.o,HA2.o,Mx.o a Dm.o,rfl⟩
   ·have Dm:ae (ahT s (s.size+1) 0 0 {}=.inl a):=by rw[ae,<-HR.o];exact TN s k n a hk
    have Wf:=TJ w pb sb _ _ ms xs sn wr HS.o (by omega) (by omega) (λx hx=>by obtain⟨h1,_,h3,h4,_,h6⟩:=HA.o.ok x hx;exact⟨h1,by omega,by omega,h6⟩);have Gx:ae (fB ms (xs.map (·.1)) sn=fB a.ms a.fs a.sn):=by rw[ae,HA.o.ems,HA.o.XG,HA.o.esn]
    rw[Gx.o]at Wf;have acM:=λw' m=>HFS.o w' a m Dm.o;have acN:=λw' m=>HFO.o w' a m Dm.o;clear HR HFS HFO HFE Qn Dm;generalize fB a.ms a.fs a.sn=sf at *;go_wp2_with fail;refine Wf.mono ?_;rintro e w5 ⟨rfl,h5,m5⟩;have xZ:=ak h5;have mU:ae (aa af w w5):=HM.o.step m5 (λi hi e=>by have e':i=sb:=e;have:=Fe.o;omega);clear h5 m5 Wf HS HM;obtain⟨sc,sln⟩:=sf;dsimp only at *;have s0:w5.cell? ⟨sb,0,none⟩=some (.int .i64 sc):=aq.cell xZ.o.sn 0;by_cases hc0:sc=0
    ·subst hc0
     have HSO:ae (Calls prog 18 #[.pointer (some ⟨pb,0,none⟩)] w5 λe w'=>e=.returned (.tuple #[])/\∃(ms':List bz) (z':List ug),ms'.Perm ms/\ib (·.name) ms' ms'.length/\z'.Perm (xs.map (λx:eX×dF=>(((x.1.f,x.2),x.1.o):ug)))/\ib ug.nm z' z'.length/\Pr w' pb (.slice oM ms.length cM) (.slice oF xs.length cF) ms' (z'.map (·.1)) (z'.map (·.2))/\aa (λk=>(Value.slice oM ms.length cM).ownBlock=some k\/(Value.slice oF xs.length cF).ownBlock=some k) w5 w'):=by
      have Uz:=xZ.o.da;refine LM w5 pb _ _ ms (xs.map (λx:eX×dF=>(((x.1.f,x.2),x.1.o):ug))) ⟨Uz.prog,Uz.maps,?_,λi h1 h2=>?_⟩ (λx hx=>?_) (by omega) (by rw[List.length_map];omega)
      ·rw[List.map_map,List.length_map,List.flatMap_map];exact Uz.rows
      ·simp only[List.getElem_map];exact(Uz.each _ (List.getElem_mem (by simpa using h1))).ro
      ·obtain⟨y,hy,rfl⟩:=List.mem_map.1 hx;obtain⟨o,c,hv,_⟩:=(Uz.each y hy).sn.view;exact⟨o,_,c,hv⟩
     have HFI:ae (∀w' ms' z',aa (λk=>(Value.slice oM ms.length cM).ownBlock=some k\/(Value.slice oF xs.length cF).ownBlock=some k) w5 w'->ms'.Perm ms->ib (·.name) ms' ms'.length->z'.Perm (xs.map (λx:eX×dF=>(((x.1.f,x.2),x.1.o):ug)))->ib ug.nm z' z'.length->Pr w' pb (.slice oM ms.length cM) (.slice oF xs.length cF) ms' (z'.map (·.1)) (z'.map (·.2))->RP (.returned (.tuple #[.pointer (some ⟨pb,0,none⟩),.int .i64 0,.int .i64 0])) w'):=λw' ms' z' mW h1 h2 h3 h4 h5=>by
      refine acN w' (mU.o.step mW (λi hi e=>?_)) rfl pb _ _ xs ms' z' HA.o.XG (by rw[HA.o.ems];exact h1) h2 h3 h4 h5;rcases e with e|e
      ·have:=xZ.o.da.zY i e;omega
      ·have:=xZ.o.da.vG i e;omega
     clear acN acM;go_wp2_with fail;refine HSO.o.mono ?_;rintro e w6 ⟨rfl,ms',z',k1,k2,k3,k4,k5,k6⟩;have KZ:=HFI.o w6 ms' z' k6 k1 k2 k3 k4 k5;clear k1 k2 k3 k4 k5 k6;go_wp2_with fail;go_ret3;exact KZ
    ·have qc:(sc != 0)=true:=by simpa using hc0
     have KZ:ae (∀w',aa af w w'->RP (.returned (.tuple #[.pointer none,.int .i64 sc,.int .i64 sln])) w'):=λw' m=>acM w' m hc0;clear acN acM hc0;go_upto_region 42 with fail;have gV:ae (aa af w5 w5.drew):=(aa.refl _ _).drew;refine fI (by kernel_rfl) (by kernel_rfl) ?_;intro W hW;rw[<-hW]at gV;clear hW;have E5:=ak (mU.o.trans gV.o);have t0:W.cell? ⟨sb,0,none⟩=some (.int .i64 sc):=aq.cell (xZ.o.quiet gV.o).sn 0;have t1:W.cell? ⟨sb,1,none⟩=some (.int .i64 sln):=aq.cell (xZ.o.quiet gV.o).sn 1;clear s0
     repeat(go_big_quiet_step (fail))
     refine wpQuiet_nil ?_;go_wp2_with fail;go_ret3;exact KZ.o _ E5.o
