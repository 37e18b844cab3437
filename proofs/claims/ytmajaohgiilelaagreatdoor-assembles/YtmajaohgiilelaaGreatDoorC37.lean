import Derived.Test.YtmajaohgiilelaaGreatDoorC33
import Derived.Test.YtmajaohgiilelaaGreatDoorC30
namespace Go.Proofs.YtmajaohgiilelaaGreatDoor
open Go.RowKit Tryz
open List renaming drop_eq_getElem_cons->an,take_succ_cons->ao,drop_succ_cons->ar,take_zero->ba,drop_zero->bh,drop_eq_nil_of_le->bj,getElem_zip->bt,not_mem_nil->b9,getElem_mem->ca,mem_cons->cc,append_inj'->cd
open Nat renaming le_trans->cb,mod_lt->ch
set_option linter.all false
set_option maxRecDepth 100000
set_option maxHeartbeats 2000000
def yH(w:tW)(pb sb:Nat)(vM vF:Value)(ms:List bz)(x:aj)(ns:List aA)(line:Int)(s:j9)(e:Ending)(w':tW):Prop :=
 e=.returned (.tuple #[])/\∃v',aq w' pb #[v',vF] 36/\Sl w' 64 4 v' (ms.length+1) (ms.flatMap bz.cells++(kH x.name ns).cells)/\Sn w' sb (((ahW line (ns.zip [8,16,8]) s).wrong (decide (0<=ahH x.name (ms.map (·.name)))) 4 line).wrong (decide (8<=ms.length)) 1 line)/\aa (λk=>k=sb\/k=pb\/vM.ownBlock=some k) w w'/\(∀k,v'.ownBlock=some k->vM.ownBlock=some k\/w.heap.size<=k)
theorem PS(pb sb:Nat)(vM vF:Value)(ms:List bz)(x:aj)(ns:List aA)(line:Int)(s:j9)(w:tW)(hp:aq w pb #[vM,vF] 36)(hm:Sl w 64 4 vM ms.length (ms.flatMap bz.cells))(hnm:Sl w 45 3 x.vl ns.length (ns.flatMap aA.dG))(hns:ns.length=3)(hsn:Sn w sb s)(Kl:ms.length<=1000000):Calls Tryz.prog 11 #[.pointer (some ⟨pb,0,none⟩),.agg x.cells,.int .i64 line,.pointer (some ⟨sb,0,none⟩)] w λe w'=>yH w pb sb vM vF ms x ns line s e w':=by
 have Yo:ae (SX w pb sb w.heap.size (w.heap.size+1) vM vF ms x ns s ((w.alloc (.cells x.cells 47)).alloc (.cells #[.int .u64 8,.int .u64 16,.int .u64 8] 41))):=by
  have m:aa af w ((w.alloc (.cells x.cells 47)).alloc (.cells #[.int .u64 8,.int .u64 16,.int .u64 8] 41)):=((aa.refl _ _).alloc _).alloc _;refine⟨hp.ah m id,hm.ah m (λ_ _=>id),(aq.new w _ _).alloc _,?_,hnm.ah m (λ_ _=>id),aq.ah hsn m id,m.of_nil⟩;have:=aq.new (w.alloc (.cells x.cells 47)) #[.int .u64 8,.int .u64 16,.int .u64 8] 41
  simpa using this
 go_enter func11,ntmps11;go_upto_block 0 with fail;generalize(w.alloc (.cells x.cells 47)).alloc (.cells #[.int .u64 8,.int .u64 16,.int .u64 8] 41)=w1 at *;generalize w.heap.size+1=Lb at *;obtain⟨X,hX⟩:∃X,X=w.heap.size:=⟨_,rfl⟩
 rw[<-hX]at Yo;rw[<-hX];clear hX hp hm hnm hsn;go_cut [] (λwx=>SX w pb sb X Lb vM vF ms x ns (ahW line (ns.zip [8,16,8]) s) wx)
 case first =>
  go_wp2_with fail;go_loopg [9] 3 (λc v wx=>∃(k:Nat) (s1:j9),k<=3/\v=.int .i64 k/\SX w pb sb X Lb vM vF ms x ns s1 wx/\ahW line ((ns.zip [8,16,8]).drop k) s1=ahW line (ns.zip [8,16,8]) s/\c=3-k)
  case atStart=>exact⟨0,s,by omega,rfl,Yo.o,rfl,rfl⟩
  case round =>
   obtain⟨k,s1,hk,rfl,hS,hR,rfl⟩:=hrel;have HS:=ak hS;have HR:=ak hR;clear hS hR Yo;obtain rfl|rfl|rfl|rfl:k=0\/k=1\/k=2\/k=3:=by omega
   case inl =>
    have HKx:ae (ahW line ((ns.zip [8,16,8]).drop 0) s1=ahW line ((ns.zip [8,16,8]).drop 1) (s1.wrong (!(ns[0]'(by omega)).within 0 8||decide ((ns[0]'(by omega)).v%18446744073709551616=0)) 3 line)):=by rw[ae,an (by simp;omega)];simp only[ahW,bt];rfl
    have QB:=λw=>kP (ns[0]'(by omega)) 0 8 w (by decide) (by decide);obtain⟨g,cn,hvl,hcn,iB⟩:=HS.o.num hns;have JX:=λ(g':Ext af wr)=>iB g'.w g'.m 0 (by omega);have hq3:=iB wr (aa.refl _ _) 0 (by omega);generalize(ns[0]'(by omega))=nn at *;generalize hqi:nn.within 0 8=qi at *;generalize hvz:nn.v%18446744073709551616=vz at *;generalize decide (18446744073709551616<=nn.v)=bg at *;generalize nn.minus=mi at *;have Ab:=ak QB;have a2:∀g':Ext af wr,g'.w.cell? ⟨X,2,none⟩=some (.slice (some ⟨g,0,none⟩) 3 cn):=λg'=>by rw[<-hvl];exact g'.cell HS.o.ln id 2
    have al:∀g':Ext af wr,g'.w.cell? ⟨Lb,0,none⟩=some (.int .u64 8):=λg'=>g'.cell HS.o.lim id 0;have n0:∀g':Ext af wr,g'.w.cell? ⟨g,0,none⟩=some (.int .u64 (vz:Int)):=λg'=>(JX g').1;have n1:∀g':Ext af wr,g'.w.cell? ⟨g,1,none⟩=some (.bool bg):=λg'=>(JX g').2.1;have n2:∀g':Ext af wr,g'.w.cell? ⟨g,2,none⟩=some (.bool mi):=λg'=>(JX g').2.2;have ne1:=Ext.ne af wr;clear QB JX hqi hvz;go_upto_region 5 with fail;refine bD af (by kernel_rfl) (by kernel_rfl) ?_
    repeat(go_big_quiet_step (first |(go_at_call 36;exact Calls.dN (Ab.o _))))
    refine wpQuiet_nil ?_;rintro w2 ⟨⟨wx,m2⟩,hwx⟩;simp only at hwx;subst hwx;have HS2:=ak (HS.o.quiet m2);have b2:w2.cell? ⟨X,2,none⟩=some (.slice (some ⟨g,0,none⟩) 3 cn):=by rw[<-hvl];exact HS2.o.ln.cell 2
    have b3:w2.cell? ⟨g,0,none⟩=some (.int .u64 (vz:Int)):=n0 ⟨w2,m2⟩;clear a2 al n0 n1 n2 ne1 HS iB hq3 m2 Ab;obtain⟨qz,hqz⟩:∃qz:Bool,((vz:Int)==0)=qz:=⟨_,rfl⟩
    have HKy:ae (decide (vz=0)=qz):=by
     rw[ae,<-hqz];by_cases e:vz=0
     ·simp[e]
     ·rw[decide_eq_false e];symm;rw[beq_eq_false_iff_ne];omega
    have HSw:ae (∀w',SX w pb sb X Lb vM vF ms x ns (s1.wrong (!qi||qz) 3 line) w'->SX w pb sb X Lb vM vF ms x ns (s1.wrong (!qi||decide (vz=0)) 3 line) w'):=λw' h=>by rw[HKy.o];exact h
    clear HKy;cases qi with
    |true =>
     go_wp2_with fail;refine(jw w pb sb X Lb vM vF ms x ns s1 _ 3 line _ HS2.o).mono ?_;rintro e w3 ⟨rfl,h3⟩;have jZ:ae (SX w pb sb X Lb vM vF ms x ns (s1.wrong (!true||decide (vz=0)) 3 line) w3):=HSw.o _ h3;clear h3 HS2;go_wp2_with fail;go_roundg 2
     case measure=>omega
     case rel=>exact⟨1,_,by omega,by go_num,jZ.o,by rw[<-HKx.o];exact HR.o,rfl⟩
    |false =>
     go_wp2_with fail;refine(jw w pb sb X Lb vM vF ms x ns s1 _ 3 line _ HS2.o).mono ?_;rintro e w3 ⟨rfl,h3⟩;have jZ:ae (SX w pb sb X Lb vM vF ms x ns (s1.wrong (!false||decide (vz=0)) 3 line) w3):=HSw.o _ h3;clear h3 HS2;go_wp2_with fail;go_roundg 2
     case measure=>omega
     case rel=>exact⟨1,_,by omega,by go_num,jZ.o,by rw[<-HKx.o];exact HR.o,rfl⟩
   case inr.inl =>
    have HKx:ae (ahW line ((ns.zip [8,16,8]).drop 1) s1=ahW line ((ns.zip [8,16,8]).drop 2) (s1.wrong (!(ns[1]'(by omega)).within 0 16||decide ((ns[1]'(by omega)).v%18446744073709551616=0)) 3 line)):=by rw[ae,an (by simp;omega)];simp only[ahW,bt];rfl
    have QB:=λw=>kP (ns[1]'(by omega)) 0 16 w (by decide) (by decide);obtain⟨g,cn,hvl,hcn,iB⟩:=HS.o.num hns;have JX:=λ(g':Ext af wr)=>iB g'.w g'.m 1 (by omega);have hq3:=iB wr (aa.refl _ _) 1 (by omega);generalize(ns[1]'(by omega))=nn at *;generalize hqi:nn.within 0 16=qi at *;generalize hvz:nn.v%18446744073709551616=vz at *;generalize decide (18446744073709551616<=nn.v)=bg at *;generalize nn.minus=mi at *;have Ab:=ak QB;have a2:∀g':Ext af wr,g'.w.cell? ⟨X,2,none⟩=some (.slice (some ⟨g,0,none⟩) 3 cn):=λg'=>by rw[<-hvl];exact g'.cell HS.o.ln id 2
    have al:∀g':Ext af wr,g'.w.cell? ⟨Lb,1,none⟩=some (.int .u64 16):=λg'=>g'.cell HS.o.lim id 1;have n0:∀g':Ext af wr,g'.w.cell? ⟨g,3,none⟩=some (.int .u64 (vz:Int)):=λg'=>(JX g').1;have n1:∀g':Ext af wr,g'.w.cell? ⟨g,4,none⟩=some (.bool bg):=λg'=>(JX g').2.1;have n2:∀g':Ext af wr,g'.w.cell? ⟨g,5,none⟩=some (.bool mi):=λg'=>(JX g').2.2;have ne1:=Ext.ne af wr;clear QB JX hqi hvz;go_upto_region 5 with fail;refine bD af (by kernel_rfl) (by kernel_rfl) ?_
    repeat(go_big_quiet_step (first |(go_at_call 36;exact Calls.dN (Ab.o _))))
    refine wpQuiet_nil ?_;rintro w2 ⟨⟨wx,m2⟩,hwx⟩;simp only at hwx;subst hwx;have HS2:=ak (HS.o.quiet m2);have b2:w2.cell? ⟨X,2,none⟩=some (.slice (some ⟨g,0,none⟩) 3 cn):=by rw[<-hvl];exact HS2.o.ln.cell 2
    have b3:w2.cell? ⟨g,3,none⟩=some (.int .u64 (vz:Int)):=n0 ⟨w2,m2⟩;clear a2 al n0 n1 n2 ne1 HS iB hq3 m2 Ab;obtain⟨qz,hqz⟩:∃qz:Bool,((vz:Int)==0)=qz:=⟨_,rfl⟩
    have HKy:ae (decide (vz=0)=qz):=by
     rw[ae,<-hqz];by_cases e:vz=0
     ·simp[e]
     ·rw[decide_eq_false e];symm;rw[beq_eq_false_iff_ne];omega
    have HSw:ae (∀w',SX w pb sb X Lb vM vF ms x ns (s1.wrong (!qi||qz) 3 line) w'->SX w pb sb X Lb vM vF ms x ns (s1.wrong (!qi||decide (vz=0)) 3 line) w'):=λw' h=>by rw[HKy.o];exact h
    clear HKy;cases qi with
    |true =>
     go_wp2_with fail;refine(jw w pb sb X Lb vM vF ms x ns s1 _ 3 line _ HS2.o).mono ?_;rintro e w3 ⟨rfl,h3⟩;have jZ:ae (SX w pb sb X Lb vM vF ms x ns (s1.wrong (!true||decide (vz=0)) 3 line) w3):=HSw.o _ h3;clear h3 HS2;go_wp2_with fail;go_roundg 1
     case measure=>omega
     case rel=>exact⟨2,_,by omega,by go_num,jZ.o,by rw[<-HKx.o];exact HR.o,rfl⟩
    |false =>
     go_wp2_with fail;refine(jw w pb sb X Lb vM vF ms x ns s1 _ 3 line _ HS2.o).mono ?_;rintro e w3 ⟨rfl,h3⟩;have jZ:ae (SX w pb sb X Lb vM vF ms x ns (s1.wrong (!false||decide (vz=0)) 3 line) w3):=HSw.o _ h3;clear h3 HS2;go_wp2_with fail;go_roundg 1
     case measure=>omega
     case rel=>exact⟨2,_,by omega,by go_num,jZ.o,by rw[<-HKx.o];exact HR.o,rfl⟩
   case inr.inr.inl =>
    have HKx:ae (ahW line ((ns.zip [8,16,8]).drop 2) s1=ahW line ((ns.zip [8,16,8]).drop 3) (s1.wrong (!(ns[2]'(by omega)).within 0 8||decide ((ns[2]'(by omega)).v%18446744073709551616=0)) 3 line)):=by rw[ae,an (by simp;omega)];simp only[ahW,bt];rfl
    have QB:=λw=>kP (ns[2]'(by omega)) 0 8 w (by decide) (by decide);obtain⟨g,cn,hvl,hcn,iB⟩:=HS.o.num hns;have JX:=λ(g':Ext af wr)=>iB g'.w g'.m 2 (by omega);have hq3:=iB wr (aa.refl _ _) 2 (by omega);generalize(ns[2]'(by omega))=nn at *;generalize hqi:nn.within 0 8=qi at *;generalize hvz:nn.v%18446744073709551616=vz at *;generalize decide (18446744073709551616<=nn.v)=bg at *;generalize nn.minus=mi at *;have Ab:=ak QB;have a2:∀g':Ext af wr,g'.w.cell? ⟨X,2,none⟩=some (.slice (some ⟨g,0,none⟩) 3 cn):=λg'=>by rw[<-hvl];exact g'.cell HS.o.ln id 2
    have al:∀g':Ext af wr,g'.w.cell? ⟨Lb,2,none⟩=some (.int .u64 8):=λg'=>g'.cell HS.o.lim id 2;have n0:∀g':Ext af wr,g'.w.cell? ⟨g,6,none⟩=some (.int .u64 (vz:Int)):=λg'=>(JX g').1;have n1:∀g':Ext af wr,g'.w.cell? ⟨g,7,none⟩=some (.bool bg):=λg'=>(JX g').2.1;have n2:∀g':Ext af wr,g'.w.cell? ⟨g,8,none⟩=some (.bool mi):=λg'=>(JX g').2.2;have ne1:=Ext.ne af wr;clear QB JX hqi hvz;go_upto_region 5 with fail;refine bD af (by kernel_rfl) (by kernel_rfl) ?_
    repeat(go_big_quiet_step (first |(go_at_call 36;exact Calls.dN (Ab.o _))))
    refine wpQuiet_nil ?_;rintro w2 ⟨⟨wx,m2⟩,hwx⟩;simp only at hwx;subst hwx;have HS2:=ak (HS.o.quiet m2);have b2:w2.cell? ⟨X,2,none⟩=some (.slice (some ⟨g,0,none⟩) 3 cn):=by rw[<-hvl];exact HS2.o.ln.cell 2
    have b3:w2.cell? ⟨g,6,none⟩=some (.int .u64 (vz:Int)):=n0 ⟨w2,m2⟩;clear a2 al n0 n1 n2 ne1 HS iB hq3 m2 Ab;obtain⟨qz,hqz⟩:∃qz:Bool,((vz:Int)==0)=qz:=⟨_,rfl⟩
    have HKy:ae (decide (vz=0)=qz):=by
     rw[ae,<-hqz];by_cases e:vz=0
     ·simp[e]
     ·rw[decide_eq_false e];symm;rw[beq_eq_false_iff_ne];omega
    have HSw:ae (∀w',SX w pb sb X Lb vM vF ms x ns (s1.wrong (!qi||qz) 3 line) w'->SX w pb sb X Lb vM vF ms x ns (s1.wrong (!qi||decide (vz=0)) 3 line) w'):=λw' h=>by rw[HKy.o];exact h
    clear HKy;cases qi with
    |true =>
     go_wp2_with fail;refine(jw w pb sb X Lb vM vF ms x ns s1 _ 3 line _ HS2.o).mono ?_;rintro e w3 ⟨rfl,h3⟩;have jZ:ae (SX w pb sb X Lb vM vF ms x ns (s1.wrong (!true||decide (vz=0)) 3 line) w3):=HSw.o _ h3;clear h3 HS2;go_wp2_with fail;go_roundg 0
     case measure=>omega
     case rel=>exact⟨3,_,by omega,by go_num,jZ.o,by rw[<-HKx.o];exact HR.o,rfl⟩
    |false =>
     go_wp2_with fail;refine(jw w pb sb X Lb vM vF ms x ns s1 _ 3 line _ HS2.o).mono ?_;rintro e w3 ⟨rfl,h3⟩;have jZ:ae (SX w pb sb X Lb vM vF ms x ns (s1.wrong (!false||decide (vz=0)) 3 line) w3):=HSw.o _ h3;clear h3 HS2;go_wp2_with fail;go_roundg 0
     case measure=>omega
     case rel=>exact⟨3,_,by omega,by go_num,jZ.o,by rw[<-HKx.o];exact HR.o,rfl⟩
   case inr.inr.inr =>
    have HE:ae (ahW line (ns.zip [8,16,8]) s=s1):=by rw[ae,<-HR.o,bj (by simp;omega)];rfl
    go_wp2_with fail;go_meet;rw[HE.o];exact HS.o
 case rest =>
 have HS:=ak hcut;clear hcut Yo;generalize hss:ahW line (ns.zip [8,16,8]) s=s1 at *;have HSS:=ak hss;clear hss;obtain⟨oM,cM,Jv,_⟩:=HS.o.maps.view;subst Jv;have h0:wc.cell? ⟨pb,0,none⟩=some (.slice oM ms.length cM):=HS.o.prog.cell 0;have x1:wc.cell? ⟨X,1,none⟩=some (.string x.name):=HS.o.ln.cell 1;have HST:ae (Calls Tryz.prog 21 #[.pointer (some ⟨pb,0,none⟩),.string x.name] wc λe w'=>e=.returned (.int .i64 (ahH x.name (ms.map (·.name))))/\w'=wc):=Dc pb x.name ms _ wc h0 HS.o.maps Kl;generalize hpl:ahH x.name (ms.map (·.name))=pl at *;have xX:=ak hpl;clear hpl;go_wp2_with fail;refine HST.o.mono ?_;rintro e w2 ⟨rfl,hw2⟩;subst hw2;clear HST h0 x1;go_wp2_with fail;refine(jw w pb sb X Lb _ vF ms x ns s1 _ 4 line _ HS.o).mono ?_;rintro e w3 ⟨rfl,h3⟩;have jZ:=ak h3;clear h3 HS;have h0:w3.cell? ⟨pb,0,none⟩=some (.slice oM ms.length cM):=jZ.o.prog.cell 0;go_wp2_with fail;refine(jw w pb sb X Lb _ vF ms x ns _ _ 1 line _ jZ.o).mono ?_;rintro e w4 ⟨rfl,h4⟩
 have qu:ae (SX w pb sb X Lb (.slice oM ms.length cM) vF ms x ns ((s1.wrong (decide (0<=pl)) 4 line).wrong (decide (8<=ms.length)) 1 line) w4):=by
  have e:decide ((8:Int)<=(ms.length:Int))=decide (8<=ms.length):=by
   by_cases e:8<=ms.length
   ·rw[decide_eq_true e,decide_eq_true (by omega)]
   ·rw[decide_eq_false e,decide_eq_false (by omega)]
  rw[e]at h4;exact h4
 clear h4 jZ h0;obtain⟨g,cn,hvl,hcn,iB⟩:=qu.o.num hns;go_upto_region 10 with fail;have Wf:ae (∀e:Ext (λk=>(Value.slice oM ms.length cM).ownBlock=some k) w4,aq e.w pb #[.slice oM ms.length cM,vF] 36/\aq e.w X x.cells 47/\Sl e.w 45 3 x.vl ns.length (ns.flatMap aA.dG)):=λe=>⟨qu.o.prog.ah e.m (λh=>qu.o.maps.az qu.o.prog (by decide) h),qu.o.ln.ah e.m (λh=>qu.o.maps.az qu.o.ln (by decide) h),qu.o.nums.ah e.m (λk hk h=>qu.o.maps.apart qu.o.nums (by decide) h hk)⟩
 have gU:ae (∀e:Ext (λk=>(Value.slice oM ms.length cM).ownBlock=some k) w4,∀k (hk:k<3),e.w.cell? ⟨g,k*3,none⟩=some (.int .u64 (((ns[k]'(by omega)).v%18446744073709551616:Nat):Int))):=λe k hk=>by obtain⟨_,_,hs⟩:=Wf.o e;obtain⟨o',c',hv',hb'⟩:=hs.view;rw[hvl]at hv';injection hv' with e1 e2 e3;subst e1;obtain⟨g',cs',hg',hb',ht',_⟩:=hb' (by omega);injection hg' with hg';injection hg' with hg';subst hg';have hf:∀y:aA,y.dG.length=3:=λ_=>rfl;rw[bA hb' ht' (k*3) (by omega),show k*3=k*3+0 from rfl,flat_get aA.dG 3 hf ns k 0 (by omega) (by omega)];rfl
 have d0:∀e:Ext (λk=>(Value.slice oM ms.length cM).ownBlock=some k) w4,e.w.cell? ⟨pb,0,none⟩=some (.slice oM ms.length cM):=λe=>(Wf.o e).1.cell 0;have d1:∀e:Ext (λk=>(Value.slice oM ms.length cM).ownBlock=some k) w4,e.w.cell? ⟨X,1,none⟩=some (.string x.name):=λe=>(Wf.o e).2.1.cell 1;have d2:∀e:Ext (λk=>(Value.slice oM ms.length cM).ownBlock=some k) w4,e.w.cell? ⟨X,2,none⟩=some (.slice (some ⟨g,0,none⟩) 3 cn):=λe=>by rw[<-hvl];exact(Wf.o e).2.1.cell 2
 have v0:∀e:Ext (λk=>(Value.slice oM ms.length cM).ownBlock=some k) w4,e.w.cell? ⟨g,0,none⟩=some (.int .u64 (((ns[0]'(by omega)).v%18446744073709551616:Nat):Int)):=λe=>gU.o e 0 (by omega);have v1:∀e:Ext (λk=>(Value.slice oM ms.length cM).ownBlock=some k) w4,e.w.cell? ⟨g,3,none⟩=some (.int .u64 (((ns[1]'(by omega)).v%18446744073709551616:Nat):Int)):=λe=>gU.o e 1 (by omega);have v2:∀e:Ext (λk=>(Value.slice oM ms.length cM).ownBlock=some k) w4,e.w.cell? ⟨g,6,none⟩=some (.int .u64 (((ns[2]'(by omega)).v%18446744073709551616:Nat):Int)):=λe=>gU.o e 2 (by omega);have HMC:ae ((kH x.name ns).cells=[.string x.name,.int .i64 (((ns[0]'(by omega)).v%18446744073709551616%256:Nat):Int),.int .i64 (((ns[1]'(by omega)).v%18446744073709551616%256:Nat):Int),.int .i64 (((ns[2]'(by omega)).v%18446744073709551616%256:Nat):Int)]):=by rw[ae];unfold kH bz.cells;simp only[List.getD_eq_getElem?_getD,List.getElem?_eq_getElem (show 0<ns.length by omega),List.getElem?_eq_getElem (show 1<ns.length by omega),List.getElem?_eq_getElem (show 2<ns.length by omega),Option.getD_some]
 have l0:(ns[0]'(by omega)).v%18446744073709551616<18446744073709551616:=ch _ (by decide);have l1:(ns[1]'(by omega)).v%18446744073709551616<18446744073709551616:=ch _ (by decide);have l2:(ns[2]'(by omega)).v%18446744073709551616<18446744073709551616:=ch _ (by decide);generalize(ns[0]'(by omega)).v%18446744073709551616=u0 at *;generalize(ns[1]'(by omega)).v%18446744073709551616=u1 at *;generalize(ns[2]'(by omega)).v%18446744073709551616=u2 at *
 haveI:Nonempty (Ext (λk=>(Value.slice oM ms.length cM).ownBlock=some k) w4):=Ext.ne _ _
 obtain⟨iP,hiP,qH,hsP,vZ⟩:=info_parts Vf;clear iB;refine bR 31 [29,30] (λw'=>∃e:Ext (λk=>(Value.slice oM ms.length cM).ownBlock=some k) w4,w'=e.w) (by kernel_rfl) (by kernel_rfl) ⟨⟨_,(aa.refl _ _).drew⟩,rfl⟩ ?_;simp only[ao,ba,ar,bh]
 iterate 2 (refine aB rfl rfl rfl ?_;intro K hK;go_big_quiet_op;go_big_quiet_on)
 refine bq rfl rfl _ ⟨pb,0,none⟩ rfl rfl ?_;simp only[Act.put,sA9,sB9,sC9]
 iterate 26 (refine aB rfl rfl rfl ?_;intro K hK;go_big_quiet_op;go_big_quiet_on)
 refine aF rfl rfl ?_;intro K hK;refine jG 33 64 4 (.tmp 87) rfl #[.string x.name,.int .i64 ((u0:Int)%256),.int .i64 ((u1:Int)%256),.int .i64 ((u2:Int)%256)] rfl rfl iP _ underlying33 hiP qH hsP (by decide) (by decide) ?_;have M5:ae (aa af w4 (w4.drew.alloc (.cells #[.string x.name,.int .i64 ((u0:Int)%256),.int .i64 ((u1:Int)%256),.int .i64 ((u2:Int)%256)] 64))):=((aa.refl _ _).drew).alloc _;refine hK _ _ rfl ⟨⟨_,M5.o.of_nil⟩,rfl⟩ ?_;clear hK K
 try simp only[Act.put,sA9,sB9,sC9]
 refine aF rfl rfl ?_;intro K hK;refine cZ _ (.tmp 63) (.tmp 88) 33 rfl 64 iP (.agg #[.string E0,.int .i64 0,.int .i64 0,.int .i64 0]) 4 40 underlying33 hiP qH hsP vZ rfl (by decide) (.slice oM ms.length cM) ms.length (ms.flatMap bz.cells) rfl ((qu.o.quiet M5.o).maps) ⟨w4.drew.heap.size,0,none⟩ 1 1 (#[.string x.name,.int .i64 ((u0:Int)%256),.int .i64 ((u1:Int)%256),.int .i64 ((u2:Int)%256)]:tAV).toList rfl rfl (aT _ _ _ _ rfl) (by simp[Value.oneCell']) (by unfold maxLen;omega) (by omega) ?_;intro vA wA sA mA lA;obtain⟨oA,cA,Ar,_⟩:=sA.view;subst Ar;have MA:ae (aa (λk=>(Value.slice oM ms.length cM).ownBlock=some k) w4 wA):=(M5.o.of_nil).trans mA;refine hK _ _ rfl ⟨⟨_,MA.o⟩,rfl⟩ ?_;clear hK K;refine cu ?_;have JY:=(Wf.o ⟨_,MA.o⟩).1;have pA0:=JY.cell 0;have pAf:=JY.frozen;have mP:aa (Only pb) wA (wA.setCell ⟨pb,0,none⟩ (.slice oA (ms.length+1) cA)):=(aa.refl _ _).bP _ _;have hsn:=qu.o.sn
 have HFN:ae (yH w pb sb (.slice oM ms.length cM) vF ms x ns line s (.returned (.tuple #[])) (wA.setCell ⟨pb,0,none⟩ (.slice oA (ms.length+1) cA))):=by
  refine⟨rfl,_,JY.set 0 _,?_,?_,?_,λk hk=>?_⟩
  ·rw[HMC.o];have h2:=sA.ah mP (λk hk e=>sA.az JY (by decide) (hk.trans (congrArg some e)));exact h2
  ·have h1:Sn wA sb _:=aq.ah hsn MA.o (λe=>qu.o.maps.az hsn (by decide) e);have h2:=aq.ah h1 mP (λe=>(aq.apart JY h1 (by decide)) (show pb=sb from e.symm));rw[HSS.o,xX.o];exact h2
  ·exact((qu.o.md.mono (λ_ _ e=>.inl e)).trans (MA.o.mono (λ_ _ e=>.inr (.inr e)))).trans (mP.mono (λ_ _ e=>.inr (.inl e)))
  ·rcases lA k hk with e|e
   ·exact .inl e
   ·right;have:=qu.o.md.size;simp at e;omega
 clear sA mA lA JY hsn mP;go_wp2_with fail;refine bodyPost_ret (results_none rfl _ _ _) rfl ?_;exact HFN.o
structure FA(w:tW)(x:eX×dF):Prop where
 ro:NN w x.2.toMh x.1.o
 sn:Sl w 3 1 x.2.vN x.1.qC.length (jf x.1.qC)
 ln:x.2.ln=x.1.line
def dF.vals(h:dF):List Value:=[h.vL,h.vA,h.vB,h.vP,h.vN]
theorem FA.ah{w w':tW}{x:eX×dF}{S:Nat->Prop}(h:FA w x)(m:aa S w w')(hS:∀u∈x.2.vals,∀k,u.ownBlock=some k->¬S k):FA w' x :=
 ⟨⟨h.ro.sl.ah m (hS _ (by simp[dF.vals])),h.ro.sa.ah m (hS _ (by simp[dF.vals])),h.ro.sb.ah m (hS _ (by simp[dF.vals])),h.ro.sp.ah m (hS _ (by simp[dF.vals]))⟩,h.sn.ah m (hS _ (by simp[dF.vals])),h.ln⟩
theorem FA.lt{w:tW}{x:eX×dF}(h:FA w x):∀u∈x.2.vals,∀k,u.ownBlock=some k->k<w.heap.size:=λu hu k hk=>by
 simp only[dF.vals,cc,b9,or_false]at hu;rcases hu with rfl|rfl|rfl|rfl|rfl
 ·exact h.ro.sl.lt k hk
 ·exact h.ro.sa.lt k hk
 ·exact h.ro.sb.lt k hk
 ·exact h.ro.sp.lt k hk
 ·exact h.sn.lt k hk
theorem FA.az{w:tW}{x:eX×dF}(h:FA w x){b:Nat}{cs:tAV}{t:TypeId}(hb:aq w b cs t)(h1:43≠t)(h2:3≠t)(h3:9≠t):∀u∈x.2.vals,u.ownBlock≠some b:=λu hu=>by
 simp only[dF.vals,cc,b9,or_false]at hu;rcases hu with rfl|rfl|rfl|rfl|rfl
 ·exact h.ro.sl.az hb h1
 ·exact h.ro.sa.az hb h2
 ·exact h.ro.sb.az hb h3
 ·exact h.ro.sp.az hb h2
 ·exact h.sn.az hb h2
theorem FA.apart{w:tW}{x:eX×dF}(h:FA w x){t:TypeId}{size n:Nat}{v:Value}{xs:List Value}(hs:Sl w t size v n xs)(h1:43≠t)(h2:3≠t)(h3:9≠t):∀u∈x.2.vals,∀k,u.ownBlock=some k->v.ownBlock≠some k:=λu hu k hk=>by
 simp only[dF.vals,cc,b9,or_false]at hu;rcases hu with rfl|rfl|rfl|rfl|rfl
 ·exact h.ro.sl.apart hs h1 hk
 ·exact h.ro.sa.apart hs h2 hk
 ·exact h.ro.sb.apart hs h3 hk
 ·exact h.ro.sp.apart hs h2 hk
 ·exact h.sn.apart hs h2 hk
def ja(x:eX×dF):List Value:=jM (x.1.f,x.2)
theorem vU(x:eX×dF):(ja x).length=8:=rfl
def XD(h:dF):Prop:=(∀k,h.vA.ownBlock=some k->h.vP.ownBlock≠some k)/\(∀k,h.vA.ownBlock=some k->h.vN.ownBlock≠some k)/\(∀k,h.vP.ownBlock=some k->h.vN.ownBlock≠some k)
structure yI(w0:tW)(pb:Nat)(vM vF:Value)(ms:List bz)(xs:List (eX×dF))(w:tW):Prop where
 prog:aq w pb #[vM,vF] 36
 maps:Sl w 64 4 vM ms.length (ms.flatMap bz.cells)
 rows:Sl w 57 8 vF xs.length (xs.flatMap ja)
 each:∀x∈xs,FA w x
 lo:w0.heap.size<=pb
 zY:∀k,vM.ownBlock=some k->w0.heap.size<=k
 vG:∀k,vF.ownBlock=some k->w0.heap.size<=k
 CE:∀x∈xs,∀u∈x.2.vals,∀k,u.ownBlock=some k->w0.heap.size<=k
 bd:∀fr y,xs=fr++[y]->∃B,B<=w.heap.size/\(∀x∈fr,∀u∈x.2.vals,∀k,u.ownBlock=some k->k<B)/\(∀u∈y.2.vals,∀k,u.ownBlock=some k->B<=k)/\XD y.2
section
variable {w0 w w' : World} {pb sb : Nat} {vM vF v' : Value} {ms : List bz} {xs : List (eX × dF)}
theorem yI.ah{S:Nat->Prop}(h:yI w0 pb vM vF ms xs w)(m:aa S w w')(hp:¬S pb)(hm:∀k,vM.ownBlock=some k->¬S k)(hf:∀k,vF.ownBlock=some k->¬S k)(hx:∀x∈xs,∀u∈x.2.vals,∀k,u.ownBlock=some k->¬S k):yI w0 pb vM vF ms xs w' :=
 ⟨h.prog.ah m hp,h.maps.ah m hm,h.rows.ah m hf,λx e=>(h.each x e).ah m (hx x e),h.lo,h.zY,h.vG,h.CE,λfr y e=>by obtain⟨B,hB,h1⟩:=h.bd fr y e;exact⟨B,cb hB m.size,h1⟩⟩
theorem yI.quiet(h:yI w0 pb vM vF ms xs w)(m:aa af w w'):yI w0 pb vM vF ms xs w':=h.ah m id (λ_ _=>id) (λ_ _=>id) (λ_ _ _ _ _ _=>id)
theorem yI.other(h:yI w0 pb vM vF ms xs w){b:Nat}{cs:tAV}{t:TypeId}(hb:aq w b cs t)(h0:36≠t)(h1:43≠t)(h2:3≠t)(h3:9≠t)(h4:64≠t)(h5:57≠t)(m:aa (Only b) w w'):yI w0 pb vM vF ms xs w' :=
 h.ah m (λe=>h.prog.apart hb h0 e) (λk hk e=>h.maps.az hb h4 (hk.trans (congrArg some e))) (λk hk e=>h.rows.az hb h5 (hk.trans (congrArg some e))) (λx hx u hu k hk e=>(h.each x hx).az hb h1 h2 h3 u hu (hk.trans (congrArg some e)))
theorem yI.map(h:yI w0 pb vM vF ms xs w){cs:tAV}(hsn:aq w sb cs 39)(x:bz)(hb:aq w' pb #[v',vF] 36)(s:Sl w' 64 4 v' (ms.length+1) (ms.flatMap bz.cells++x.cells))(m:aa (λk=>k=sb\/k=pb\/vM.ownBlock=some k) w w')(l:∀k,v'.ownBlock=some k->vM.ownBlock=some k\/w.heap.size<=k)(hw:w0.heap.size<=w.heap.size):yI w0 pb v' vF (ms++[x]) xs w':=by
 have hX:∀x∈xs,∀u∈x.2.vals,∀k,u.ownBlock=some k->¬(k=sb\/k=pb\/vM.ownBlock=some k):=λx hx u hu k hk e=>by
  rcases e with e|e|e
  ·exact(h.each x hx).az hsn (by decide) (by decide) (by decide) u hu (hk.trans (congrArg some e))
  ·exact(h.each x hx).az h.prog (by decide) (by decide) (by decide) u hu (hk.trans (congrArg some e))
  ·exact(h.each x hx).apart h.maps (by decide) (by decide) (by decide) u hu k hk e
 have hF:∀k,vF.ownBlock=some k->¬(k=sb\/k=pb\/vM.ownBlock=some k):=λk hk e=>by
  rcases e with e|e|e
  ·exact h.rows.az hsn (by decide) (hk.trans (congrArg some e))
  ·exact h.rows.az h.prog (by decide) (hk.trans (congrArg some e))
  ·exact h.rows.apart h.maps (by decide) hk e
 refine⟨hb,by simpa using s,h.rows.ah m hF,λx e=>(h.each x e).ah m (hX x e),h.lo,λk hk=>?_,h.vG,h.CE,λfr y e=>by obtain⟨B,hB,h1⟩:=h.bd fr y e;exact⟨B,cb hB m.size,h1⟩⟩;rcases l k hk with e|e
 ·exact h.zY k e
 ·omega
theorem yI.func(h:yI w0 pb vM vF ms xs w)(nm:tBA)(line:Int)(s:Sl w' 57 8 v' (xs.length+1) (xs.flatMap ja++ja (eX.new nm line,⟨Mh.nil,line,.slice none 0 0⟩)))(m:aa (λk=>vF.ownBlock=some k) w w')(l:∀k,v'.ownBlock=some k->vF.ownBlock=some k\/w.heap.size<=k)(hw:w0.heap.size<=w.heap.size):yI w0 pb vM v' ms (xs++[(eX.new nm line,⟨Mh.nil,line,.slice none 0 0⟩)]) (w'.setCell ⟨pb,1,none⟩ v'):=by
 have hB:aq w' pb #[vM,vF] 36:=h.prog.ah m (λe=>h.rows.az h.prog (by decide) e);have mP:aa (Only pb) w' (w'.setCell ⟨pb,1,none⟩ v'):=(aa.refl _ _).bP _ _;have hP:∀{e:TypeId} {size n:Nat} {v:Value} {xs:List Value},Sl w' e size v n xs->e≠36->∀k,v.ownBlock=some k->¬Only pb k:=λs he k hk e=>s.az hB he (hk.trans (congrArg some e));have hmap:Sl w' 64 4 vM ms.length (ms.flatMap bz.cells):=h.maps.ah m (λk hk e=>h.maps.apart h.rows (by decide) hk e);have hX:∀x∈xs,FA (w'.setCell ⟨pb,1,none⟩ v') x:=λx hx=>by have h1:FA w' x:=(h.each x hx).ah m (λu hu k hk e=>(h.each x hx).apart h.rows (by decide) (by decide) (by decide) u hu k hk e);exact h1.ah mP (λu hu k hk e=>h1.az hB (by decide) (by decide) (by decide) u hu (hk.trans (congrArg some e)))
 have hnew:∀u∈dF.vals ⟨Mh.nil,line,.slice none 0 0⟩,∀k,u.ownBlock=some k->False:=λu hu k hk=>by simp only[dF.vals,Mh.nil,cc,b9,or_false,or_self]at hu;subst hu;cases hk
 refine⟨hB.set 1 v',hmap.ah mP (hP hmap (by decide)),?_,λx hx=>?_,h.lo,h.zY,λk hk=>?_,λx hx u hu k hk=>?_,λfr y e=>?_⟩
 ·have:=s.ah mP (hP s (by decide))
  simpa using this
 ·rcases List.mem_append.1 hx with hx|hx
  ·exact hX x hx
  ·rw[List.mem_singleton.1 hx];exact⟨⟨Sl.nil _ _ _,Sl.nil _ _ _,Sl.nil _ _ _,Sl.nil _ _ _⟩,Sl.nil _ _ _,rfl⟩
 ·rcases l k hk with e|e
  ·exact h.vG k e
  ·omega
 ·rcases List.mem_append.1 hx with hx|hx
  ·exact h.CE x hx u hu k hk
  ·rw[List.mem_singleton.1 hx]at hu;exact(hnew u hu k hk).elim
 ·obtain⟨e1,e2⟩:=cd e rfl;have e2:(eX.new nm line,(⟨Mh.nil,line,.slice none 0 0⟩:dF))=y:=by simpa using e2
  subst e1 e2;exact⟨w.heap.size,cb m.size mP.size,λx hx u hu k hk=>(h.each x hx).lt u hu k hk,λu hu k hk=>(hnew u hu k hk).elim,⟨λk hk=>(by cases hk),λk hk=>(by cases hk),λk hk=>(by cases hk)⟩⟩
theorem yI.last{fr:List (eX×dF)}{a a':eX}{hh wV:dF}{g c n cp:Nat}{u:Value}(hn:n=fr.length+1)(h:yI w0 pb vM (.slice (some ⟨g,0,none⟩) n cp) ms (fr++[(a,hh)]) w)(hc:c<8)(hrow:(ja (a,hh)).set c v'=ja (a',wV))(hu:u∈hh.vals\/∀k,u.ownBlock≠some k)(m:aa (λk=>u.ownBlock=some k) w w')(hlast:FA w' (a',wV))(Et:∀z∈wV.vals,z∈hh.vals\/(∀k,z.ownBlock=some k->u.ownBlock=some k\/w.heap.size<=k)) (hd:XD wV) (hw:w0.heap.size<=w.heap.size):yI w0 pb vM (.slice (some ⟨g,0,none⟩) n cp) ms (fr++[(a',wV)]) (w'.setCell ⟨g,fr.length*8+c,none⟩ v'):=by
 have hl:(a,hh)∈fr++[(a,hh)]:=by simp
 have jc:=h.each _ hl;obtain⟨B,hb0,hb1,hb2,_⟩:=h.bd fr (a,hh) rfl;have hown:(Value.slice (some ⟨g,0,none⟩) n cp).ownBlock=some g:=rfl;have hub:∀k,u.ownBlock=some k->u∈hh.vals:=λk hk=>hu.elim id (λh=>absurd hk (h k));have hp:¬u.ownBlock=some pb:=λe=>jc.az h.prog (by decide) (by decide) (by decide) u (hub _ e) e;have hB:aq w' pb #[vM,.slice (some ⟨g,0,none⟩) n cp] 36:=h.prog.ah m hp;have hmap:Sl w' 64 4 vM ms.length (ms.flatMap bz.cells):=h.maps.ah m (λk hk e=>jc.apart h.maps (by decide) (by decide) (by decide) u (hub _ e) k e hk);have hrows:Sl w' 57 8 (.slice (some ⟨g,0,none⟩) n cp) (fr++[(a,hh)]).length ((fr++[(a,hh)]).flatMap ja):=h.rows.ah m (λk hk e=>jc.apart h.rows (by decide) (by decide) (by decide) u (hub _ e) k e hk);have hfr:∀x∈fr,FA w' x:=λx hx=>(h.each x (by simp[hx])).ah m (λz hz k hk e=>by have h1:=hb1 x hx z hz k hk;have h2:=hb2 u (hub _ e) k e;omega);have mg:aa (Only g) w' (w'.setCell ⟨g,fr.length*8+c,none⟩ v'):=(aa.refl _ _).bP _ _;have hlen:(fr++[(a,hh)]).length=n:=by simp[hn]
 rw[hlen]at hrows;have hgX:∀x,FA w' x->FA (w'.setCell ⟨g,fr.length*8+c,none⟩ v') x:=λx hx=>hx.ah mg (λz hz k hk e=>hx.apart hrows (by decide) (by decide) (by decide) z hz k hk (by rw[hown];exact congrArg some (show g=k from e.symm)));refine⟨hB.ah mg (λe=>hrows.az hB (by decide) (by rw[hown];exact congrArg some (show g=pb from e.symm))),hmap.ah mg (λk hk e=>hmap.apart hrows (by decide) hk (by rw[hown];exact congrArg some (show g=k from e.symm))),?_,λx hx=>?_,h.lo,h.zY,h.vG,λx hx z hz k hk=>?_,λfr' y e=>?_⟩
 ·have h1:=hrows.setAt (fr.length*8+c) v' (by omega);have hk:fr.length<(fr++[(a,hh)]).length:=by simp
  rw[dO ja 8 vU (fr++[(a,hh)]) fr.length c hk hc v' (a',wV) (by simpa using hrow)]at h1;have e:(fr++[(a,hh)]).set fr.length (a',wV)=fr++[(a',wV)]:=by simp
  rw[e]at h1;have e2:(fr++[(a',wV)]).length=n:=by simp[hn]
  rw[e2];exact h1
 ·rcases List.mem_append.1 hx with hx|hx
  ·exact hgX x (hfr x hx)
  ·rw[List.mem_singleton.1 hx];exact hgX _ hlast
 ·rcases List.mem_append.1 hx with hx|hx
  ·exact h.CE x (by simp[hx]) z hz k hk
  ·rw[List.mem_singleton.1 hx]at hz;rcases Et z hz with h1|h1
   ·exact h.CE _ hl z h1 k hk
   ·rcases h1 k hk with e|e
    ·exact h.CE _ hl u (hub _ e) k e
    ·omega
 ·obtain⟨e1,e2⟩:=cd e rfl;have e2:(a',wV)=y:=by simpa using e2
  subst e1 e2;refine⟨B,cb hb0 (cb m.size mg.size),hb1,λz hz k hk=>?_,hd⟩;rcases Et z hz with h1|h1
  ·exact hb2 z h1 k hk
  ·rcases h1 k hk with e|e
   ·exact hb2 u (hub _ e) k e
   ·omega
theorem yI.new(w0 w:tW)(m:aa af w0 w):yI w0 w.heap.size (.slice none 0 0) (.slice none 0 0) [] [] (w.alloc (.cells #[.slice none 0 0,.slice none 0 0] 36)) :=
 ⟨aq.new w _ _,Sl.nil _ _ _,Sl.nil _ _ _,λx h=>(by cases h),m.size,λk h=>(by cases h),λk h=>(by cases h),λx h=>(by cases h),λfr y e=>by simp at e⟩
end
structure SW(w0:tW)(pb sb:Nat)(vM vF:Value)(ms:List bz)(xs:List (eX×dF))(s:j9)(w:tW):Prop where
 da:yI w0 pb vM vF ms xs w
 sn:Sn w sb s
section
variable {w0 w w' : World} {pb sb : Nat} {vM vF : Value} {ms : List bz} {xs : List (eX × dF)} {s t : j9}
theorem SW.quiet(h:SW w0 pb sb vM vF ms xs s w)(m:aa af w w'):SW w0 pb sb vM vF ms xs s w':=⟨h.da.quiet m,aq.ah h.sn m id⟩
theorem SW.told(h:SW w0 pb sb vM vF ms xs s w)(k:Sn w' sb t)(m:aa (Only sb) w w'):SW w0 pb sb vM vF ms xs t w' :=
 ⟨h.da.other h.sn (by decide) (by decide) (by decide) (by decide) (by decide) (by decide) m,k⟩
theorem yI.row{oF:Option Addr}{n cF:Nat}(h:yI w0 pb vM (.slice oF n cF) ms xs w)(hn:n=xs.length)(i:Nat)(hi:i<xs.length):∃g,oF=some ⟨g,0,none⟩/\∀w',aa af w w'->∀c,c<8->w'.cell? ⟨g,i*8+c,none⟩=(ja xs[i])[c]?:=by subst hn;obtain⟨o',c',hv,hb⟩:=h.rows.view;injection hv with e1 e2 e3;subst e1;obtain⟨g,cs,rfl,hb,ht,_⟩:=hb (by omega);refine⟨g,rfl,λw' m c hc=>?_⟩;rw[bA (hb.ah m id) ht _ (by omega)];exact flat_get ja 8 vU xs i c hi hc
theorem QP{w:tW}{v:Value}{ls:List bI}(h:Sl w 43 8 v ls.length (mK ls))(k:Nat)(hk:k<ls.length):∃g c,v=.slice (some ⟨g,0,none⟩) ls.length c/\∀w',aa af w w'->∀j (hj:j<(ls[k].cells).size),w'.cell? ⟨g,k*8+j,none⟩=some (ls[k].cells)[j]:=by obtain⟨o,c,hv,hb⟩:=h.view;obtain⟨g,cs,rfl,hb,ht,_⟩:=hb (by omega);refine⟨g,c,hv,λw' m j hj=>?_⟩;have hj':j<8:=hj;rw[bA (hb.ah m id) ht _ (by omega),mK,flat_get bI.dG 8 (λ_=>rfl) ls k j hk hj'];unfold bI.dG;simp[hj]
theorem aa6{w:tW}{v:Value}{ls:List Int}(h:Sl w 3 1 v ls.length (jf ls))(k:Nat)(hk:k<ls.length):∃g c,v=.slice (some ⟨g,0,none⟩) ls.length c/\∀w',aa af w w'->w'.cell? ⟨g,k,none⟩=some (.int .i64 ls[k]):=by obtain⟨o,c,hv,hb⟩:=h.view;obtain⟨g,cs,rfl,hb,ht,_⟩:=hb (by omega);refine⟨g,c,hv,λw' m=>?_⟩;rw[bA (hb.ah m id) ht _ (by omega),jf];simp[hk]
end
def PT(f:eX):Bool:=match f.o.ls.getLast? with|none=>true|some i=>!jH i.word
theorem SW.fG{w0:tW}{pb sb:Nat}{vM vF:Value}{ms:List bz}{xs:List (eX×dF)}{s:j9}(is:Bool)(code line:Int)(w:tW)(h:SW w0 pb sb vM vF ms xs s w):Calls Tryz.prog 13 #[.pointer (some ⟨sb,0,none⟩),.bool is,.int .i64 code,.int .i64 line] w λe w'=>e=.returned (.tuple #[])/\SW w0 pb sb vM vF ms xs (s.wrong is code line) w'/\aa (Only sb) w w' :=
 (Go.Proofs.YtmajaohgiilelaaGreatDoor.fG sb s is code line w h.sn).mono (λ_ _ ⟨he,hs,hm⟩=>⟨he,h.told hs hm,hm⟩)
def aio(a:Act):List Oper->Act
 |[]=>a
 |o::l=>aio (a.put o.dst undef) l
def QQ(ops:Array Oper)(a:Act):List Oper->Bool
 |[]=>true
 |o::l=>!Region.wanted o (yielded ops a.tmps)&&QQ ops (a.put o.dst undef) l
theorem Hg{P:Program}{ops:Array Oper}{C:tW->Prop}{es:List Nat}{Q:Act->tW->Prop}{rest:List Oper}{w:tW}:∀(sk:List Oper) (k:Nat) (a:Act),QQ ops a sk=true->ahN P ops C es Q (k+sk.length) rest (aio a sk) w->ahN P ops C es Q k (sk++rest) a w
 |[],k,a,_,h=>h
 |o::sk,k,a,hs,h=>by unfold QQ at hs;simp only[Bool.and_eq_true,Bool.not_eq_true']at hs;refine uW hs.1 (Hg sk (k+1) _ hs.2 ?_);rw[List.length_cons]at h;rw[show k+1+sk.length=k+(sk.length+1) by omega];exact h
theorem Eu{P:Program}{ops:Array Oper}{C:tW->Prop}{es:List Nat}{Q:Act->tW->Prop}{k:Nat}{o:Oper}{l:List Oper}{a:Act}{w:tW}(n:Nat)(hgd:o.guard=none)(hE:es.contains k=false)(x:Operand)(v:Value)(ho:o.op=.move x)(hv:a.eval x=v)(hn:(l.take n).length=n) (hs:QQ ops (a.put o.dst v) (l.take n)=true) (h:ahN P ops C es Q (k+1+n) (l.drop n) (aio (a.put o.dst v) (l.take n)) w):ahN P ops C es Q k (o::l) a w:=by
 unfold ahN;rw[iP9 (fC hgd _),hE];refine⟨v,λw _=>?_,?_⟩
 ·unfold fO;simp only[execOp,ho,hv];exact⟨rfl,rfl⟩
 ·have e:l=l.take n++l.drop n:=(List.take_append_drop n l).symm;rw[e];refine Hg _ _ _ hs ?_;rw[hn];exact h
theorem nX{P:Program}{o:Oper}{a:Act}{w:tW}{K:Act->tW->Prop}{Q:Exit->Act->tW->Prop}(ty:TypeId)(x:Operand)(ho:o.op=.load ty x)(g off:Nat) (hx:a.eval x=.pointer (some ⟨g,off,none⟩)) (cs:tAV) (d:TypeDesc) (hc:∀j (h:j<cs.size),w.cell? ⟨g,off+j,none⟩=some cs[j])(hu:P.underlying ty=some d) (hd:(match (generalizing:=false) d with|.struct _|.array _ _=>true|_=>false)=true) (hi:(P.info? ty).map (·.size)=some cs.size)(h:K (a.put o.dst (.agg cs)) w):o.wp P a w K Q:=by unfold Oper.wp execOp;simp only[ho,hx,Instr.loadAt,Instr.sureAddr,Sem.run_bind,Sem.run_pure,Result.andThen_ok,aia w g off ty cs d hc hu hd hi];exact h
theorem Gc(ls:List bI)(ns:List Int)(j:Nat)(h1:j<ls.length)(h2:j<ns.length):(ls.zip ns).drop j=(ls[j],ns[j])::(ls.zip ns).drop (j+1):=by rw[an (by simp;omega),bt]
theorem TJ(w0:tW)(pb sb:Nat)(vM vF:Value)(ms:List bz)(xs:List (eX×dF))(s:j9)(w:tW)(h:SW w0 pb sb vM vF ms xs s w)(hl:xs.length<=10000)(hms:ms.length<=1000000)(hx:∀x∈xs,x.1.qC.length=x.1.o.ls.length/\x.1.o.ls.length<=10000/\x.1.o.lab.length<=1000000/\∀i∈x.1.o.ls,i.word.size<=1000000):Calls Tryz.prog 17 #[.pointer (some ⟨pb,0,none⟩),.pointer (some ⟨sb,0,none⟩)] w λe w'=>e=.returned (.tuple #[])/\SW w0 pb sb vM vF ms xs (fB ms (xs.map (·.1)) s) w'/\aa (Only sb) w w':=by
 obtain⟨oF,cF,uZ,_⟩:=h.da.rows.view;subst uZ;obtain⟨oM,cM,Jv,_⟩:=h.da.maps.view;subst Jv;have Yo:=ak h;have HX:=ak hx;have adb:ae (∀w',SW w0 pb sb (.slice oM ms.length cM) (.slice oF xs.length cF) ms xs (fB ms (xs.map (·.1)) s) w'->aa (Only sb) w w'->((Ending.returned (.tuple #[])=.returned (.tuple #[]))/\SW w0 pb sb (.slice oM ms.length cM) (.slice oF xs.length cF) ms xs (fB ms (xs.map (·.1)) s) w'/\aa (Only sb) w w')):=λw' h1 h2=>⟨rfl,h1,h2⟩
 clear h hx;go_enter func17,ntmps17;go_upto_region 0 with fail;go_wp2_with fail;go_loopg [4] xs.length (λq v4 wx=>∃(k:Nat) (s1:j9),k<=xs.length/\v4=.int .i64 k/\SW w0 pb sb (.slice oM ms.length cM) (.slice oF xs.length cF) ms xs s1 wx/\aa (Only sb) w wx/\fB ms ((xs.map (·.1)).drop k) s1=fB ms (xs.map (·.1)) s/\q=xs.length-k)
 case atStart=>exact⟨0,s,Nat.zero_le _,rfl,Yo.o,aa.refl _ _,rfl,rfl⟩
 case round =>
  obtain⟨k,s1,hk,rfl,hS,hM,hR,rfl⟩:=hrel;have HS:=ak hS;have HM:=ak hM;have HR:=ak hR;clear hS hM hR Yo;have p1:wr.cell? ⟨pb,1,none⟩=some (.slice oF xs.length cF):=HS.o.da.prog.cell 1;by_cases hlt:k<xs.length
  ·obtain⟨g,rfl,hrow⟩:=HS.o.da.row rfl k hlt;have HFA:ae (FA wr xs[k]):=HS.o.da.each _ (ca hlt);obtain⟨hx1,hx2,hx3,hx4⟩:=HX.o _ (ca hlt);have YX:ae (∀s2,fB ms ((xs.map (·.1)).drop (k+1)) s2=fB ms ((xs.map (·.1)).drop (k+1)) s2):=λ_=>rfl;have Gi:ae (fB ms ((xs.map (·.1)).drop k) s1=fB ms ((xs.map (·.1)).drop (k+1)) (qy ms xs[k].1 s1)):=by rw[ae,an (by simpa using hlt)];simp only[List.getElem_map];rfl
   have HRW:ae (∀W s',SW w0 pb sb (.slice oM ms.length cM) (.slice (some ⟨g,0,none⟩) xs.length cF) ms xs s' W->(∀c,c<8->W.cell? ⟨g,k*8+c,none⟩=(ja xs[k])[c]?)/\FA W xs[k]):=λW s' hW=>by obtain⟨g',hg',hrow'⟩:=hW.da.row rfl k hlt;injection hg' with hg';injection hg' with hg';subst hg';exact⟨hrow' W (aa.refl _ _),hW.da.each _ (ca hlt)⟩
   clear hrow HFA YX HX;obtain⟨x,hxk⟩:∃x,xs[k]=x:=⟨_,rfl⟩
   rw[hxk]at HRW Gi hx1 hx2 hx3 hx4;clear hxk;obtain⟨⟨⟨fnm,TK⟩,⟨ls,ats,lab,CZ⟩,fln,qC⟩,⟨⟨vL,vA,vB,vP⟩,hln,vN⟩⟩:=x;dsimp only at hx1 hx2 hx3 hx4;obtain⟨hrw,hfa⟩:=HRW.o wr s1 HS.o;have ae1:hln=fln:=hfa.ln;subst ae1;have r1:wr.cell? ⟨g,k*8+1,none⟩=some vL:=hrw 1 (by omega);obtain⟨oL,cL,NX,_⟩:=hfa.ro.sl.view;dsimp only at NX;subst NX;have HSF:ae (qy ms ⟨⟨fnm,TK⟩,⟨ls,ats,lab,CZ⟩,hln,qC⟩ s1=(ls.zip qC).foldl (λs x=>l8 ms ⟨⟨fnm,TK⟩,⟨ls,ats,lab,CZ⟩,hln,qC⟩ x s) (s1.wrong (PT ⟨⟨fnm,TK⟩,⟨ls,ats,lab,CZ⟩,hln,qC⟩) 6 hln)):=rfl;have XE:ae (PT ⟨⟨fnm,TK⟩,⟨ls,ats,lab,CZ⟩,hln,qC⟩=match ls.getLast? with|none=>true|some i=>!jH i.word):=rfl;have Au:ae (∀W s',SW w0 pb sb (.slice oM ms.length cM) (.slice (some ⟨g,0,none⟩) xs.length cF) ms xs s' W->(W.cell? ⟨g,k*8+1,none⟩=some (.slice oL ls.length cL)/\W.cell? ⟨g,k*8+3,none⟩=some (.int .i64 TK)/\W.cell? ⟨g,k*8+4,none⟩=some vB/\W.cell? ⟨g,k*8+5,none⟩=some vP/\W.cell? ⟨g,k*8+6,none⟩=some (.int .i64 hln)/\W.cell? ⟨g,k*8+7,none⟩=some vN)/\Sl W 43 8 (.slice oL ls.length cL) ls.length (mK ls)/\Sl W 9 1 vB lab.length (Db (lab.map (·.1)))/\Sl W 3 1 vP lab.length (jf (lab.map (·.2)))/\Sl W 3 1 vN qC.length (jf qC)):=λW s' hW=>by obtain⟨h1,h2⟩:=HRW.o W s' hW;exact⟨⟨h1 1 (by omega),h1 3 (by omega),h1 4 (by omega),h1 5 (by omega),h1 6 (by omega),h1 7 (by omega)⟩,h2.ro.sl,h2.ro.sb,h2.ro.sp,h2.sn⟩
   clear hrw hfa HRW;generalize hfx:(⟨⟨fnm,TK⟩,⟨ls,ats,lab,CZ⟩,hln,qC⟩:eX)=fx at *;generalize PT fx=q0 at *;go_upto_region 5 with fail;go_cut [] (λwx=>SW w0 pb sb (.slice oM ms.length cM) (.slice (some ⟨g,0,none⟩) xs.length cF) ms xs (s1.wrong q0 6 hln) wx/\aa (Only sb) w wx)
   case first =>
    have d1:∀e:Ext af wr,e.w.cell? ⟨g,k*8+1,none⟩=some (.slice oL ls.length cL):=λe=>(Au.o e.w s1 (HS.o.quiet e.m)).1.1;have d6:∀e:Ext af wr,e.w.cell? ⟨g,k*8+6,none⟩=some (.int .i64 hln):=λe=>(Au.o e.w s1 (HS.o.quiet e.m)).1.2.2.2.2.1
    haveI:Nonempty (Ext af wr):=Ext.ne _ _
    by_cases hnl:ls.length=0
    ·have hl0:ls=[]:=List.length_eq_zero_iff.1 hnl;have HQ:ae (q0=true):=by rw[ae,XE.o,hl0];rfl
     have t0:((ls.length:Int)==0)=true:=by rw[hnl];rfl
     clear XE hl0;generalize hll:ls.length=ll at *;subst hnl;refine bR 19 [11,12] (λw'=>∃e:Ext af wr,w'=e.w) (by kernel_rfl) (by kernel_rfl) ⟨⟨_,(aa.refl _ _).drew⟩,rfl⟩ ?_;simp only[ao,ba,ar,bh]
     iterate 3 (refine aB rfl rfl rfl ?_;intro K hK;go_big_quiet_op;go_big_quiet_on)
     refine Eu 10 rfl rfl _ (.bool true) rfl rfl rfl (by kernel_rfl) ?_;simp only[ao,ba,ar,bh,aio,Act.put,sA9,sB9,sC9];refine jV rfl rfl _ _ _ _ rfl rfl ?_;simp only[Act.put,sA9,sB9,sC9]
     iterate 1 (refine aB rfl rfl rfl ?_;intro K hK;go_big_quiet_op;go_big_quiet_on)
     refine bq rfl rfl _ ⟨g,k*8,none⟩ rfl rfl ?_;simp only[Act.put,sA9,sB9,sC9]
     iterate 2 (refine aB rfl rfl rfl ?_;intro K hK;go_big_quiet_op;go_big_quiet_on)
     refine cu ?_;go_wp2_with fail;refine(SW.fG true 6 hln _ (HS.o.quiet ((aa.refl _ _).drew))).mono ?_;rintro e w3 ⟨rfl,h3,m3⟩;have jZ:=ak h3;have fw:=ak (HM.o.trans ((((aa.refl af wr).drew).of_nil).trans m3));clear h3 m3;go_wp2_with fail;go_meet;rw[HQ.o];exact⟨jZ.o,fw.o⟩
    ·have hlp:ls.length-1<ls.length:=by omega
     have HQ:ae (q0=!jH (ls[ls.length-1]'hlp).word):=by rw[ae,XE.o,List.getLast?_eq_getElem?,List.getElem?_eq_getElem hlp]
     have t0:((ls.length:Int)==0)=false:=by rw[beq_eq_false_iff_ne];omega
     have hi1:((ls.length:Int)-1)=((ls.length-1:Nat):Int):=by omega
     obtain⟨gL,cL',hv,hir⟩:=QP (Au.o wr s1 HS.o).2.1 (ls.length-1) hlp;injection hv with e1 e2 e3;subst e1 e3;clear e2;have HIR:=ak hir;have HEN:ae (∀W,Calls Tryz.prog 40 #[.agg (ls[ls.length-1]'hlp).cells] W λe w'=>e=.returned (.bool (jH (ls[ls.length-1]'hlp).word))/\aa af W w'):=λW=>Vc _ W;have HSZ:ae ((ls[ls.length-1]'hlp).cells.size=8):=rfl;clear hir XE;generalize jH (ls[ls.length-1]'hlp).word=qe at *;generalize(ls[ls.length-1]'hlp).cells=ic at *;clear hx4;generalize hl1:ls.length-1=n1 at *;refine bR 19 [11,12] (λw'=>∃e:Ext af wr,w'=e.w) (by kernel_rfl) (by kernel_rfl) ⟨⟨_,(aa.refl _ _).drew⟩,rfl⟩ ?_;simp only[ao,ba,ar,bh]
     iterate 4 (refine aB rfl rfl rfl ?_;intro K hK;go_big_quiet_op;go_big_quiet_on)
     refine eU rfl rfl rfl ?_;intro K hK;go_big_quiet_op;go_big_quiet_on;refine jU rfl rfl _ ⟨g,k*8,none⟩ rfl rfl ?_;simp only[Act.put,sA9,sB9,sC9]
     iterate 5 (refine eU rfl rfl rfl ?_;intro K hK;go_big_quiet_op;go_big_quiet_on)
     refine Du rfl rfl ?_;intro K hK;refine nX 43 (.tmp 41) rfl gL (n1*8) rfl ic _ (HIR.o _ ((aa.refl _ _).drew)) underlying43 rfl (by rw[HSZ.o];kernel_rfl) ?_;refine hK _ _ rfl ⟨⟨_,(aa.refl _ _).drew⟩,rfl⟩ ?_;clear hK K
     try simp only[Act.put,sA9,sB9,sC9]
     refine Du rfl rfl ?_;intro K hK;go_big_op;refine(HEN.o _).mono ?_;rintro e w4 ⟨rfl,m4⟩;have M4:ae (aa af wr w4):=((aa.refl _ _).drew).trans m4;refine hK _ _ rfl ⟨⟨_,M4.o⟩,rfl⟩ ?_;clear hK K m4
     try simp only[Act.put,sA9,sB9,sC9]
     iterate 1 (refine eU rfl rfl rfl ?_;intro K hK;go_big_quiet_op;go_big_quiet_on)
     refine jV rfl rfl _ _ _ _ rfl rfl ?_;simp only[Act.put,sA9,sB9,sC9]
     iterate 1 (refine aB rfl rfl rfl ?_;intro K hK;go_big_quiet_op;go_big_quiet_on)
     refine bq rfl rfl _ ⟨g,k*8,none⟩ rfl rfl ?_;simp only[Act.put,sA9,sB9,sC9]
     iterate 2 (refine aB rfl rfl rfl ?_;intro K hK;go_big_quiet_op;go_big_quiet_on)
     refine cu ?_;go_wp2_with fail;refine(SW.fG (!qe) 6 hln _ (HS.o.quiet M4.o)).mono ?_;rintro e w3 ⟨rfl,h3,m3⟩;have jZ:=ak h3;have fw:=ak (HM.o.trans (M4.o.of_nil.trans m3));clear h3 m3;go_wp2_with fail;go_meet;rw[HQ.o];exact⟨jZ.o,fw.o⟩
   case rest =>
   obtain⟨hS2,hM2⟩:=hcut;have HS2:=ak hS2;have ep:=ak hM2;have HFS:ae (fx.f.slots=TK/\fx.o.lab=lab):=by rw[ae,<-hfx];exact⟨rfl,rfl⟩
   clear hS2 hM2 HS HM p1 r1 XE hfx;go_wp2_with fail;go_loopg [7] ls.length (λq v7 wx=>∃(j:Nat) (s2:j9),j<=ls.length/\v7=.int .i64 j/\SW w0 pb sb (.slice oM ms.length cM) (.slice (some ⟨g,0,none⟩) xs.length cF) ms xs s2 wx/\aa (Only sb) w wx/\((ls.zip qC).drop j).foldl (λs x=>l8 ms fx x s) s2=qy ms fx s1/\q=ls.length-j)
   case atStart=>exact⟨0,_,Nat.zero_le _,rfl,HS2.o,ep.o,HSF.o.symm,rfl⟩
   case round =>
    obtain⟨j,s2,hj,rfl,hS,hM,hR2,rfl⟩:=hrel;have HS:=ak hS;have HM:=ak hM;have jI:=ak hR2;clear hS hM hR2 HS2 ep;by_cases hjl:j<ls.length
    ·have hjn:j<qC.length:=by omega
     have HZ:ae (((ls.zip qC).drop j).foldl (λs x=>l8 ms fx x s) s2=((ls.zip qC).drop (j+1)).foldl (λs x=>l8 ms fx x s) (l8 ms fx (ls[j],qC[j]) s2)):=by rw[ae,Gc ls qC j hjl hjn];rfl
     have r1:=(Au.o wr s2 HS.o).1.1;obtain⟨gL,cL',hv,hir⟩:=QP (Au.o wr s2 HS.o).2.1 j hjl;injection hv with e1 e2 e3;subst e1 e3;clear e2;have HIR:=hir wr (aa.refl _ _);have QR:(ls[j]).word.size<=1000000:=hx4 _ (ca hjl);clear hir;obtain⟨ii,hii⟩:∃ii,ls[j]=ii:=⟨_,rfl⟩
     rw[hii]at HZ HIR QR;clear hii;obtain⟨ll,hll⟩:∃ll,qC[j]=ll:=⟨_,rfl⟩
     have x8:ae (∀W s',SW w0 pb sb (.slice oM ms.length cM) (.slice (some ⟨g,0,none⟩) xs.length cF) ms xs s' W->∃gN cN,vN=.slice (some ⟨gN,0,none⟩) qC.length cN/\W.cell? ⟨gN,j,none⟩=some (.int .i64 ll)):=λW s' hW=>by obtain⟨gN,cN,h1,h2⟩:=aa6 (Au.o W s' hW).2.2.2.2 j hjn;exact⟨gN,cN,h1,by rw[<-hll];exact h2 W (aa.refl _ _)⟩
     rw[hll]at HZ;clear hll;have HSI:ae (l8 ms fx (ii,ll) s2=if ii.word=WIDE/\ii.name≠E0 then(if aD ii.word=106 then s2.wrong (decide (ahJ ii.label lab<0)||decide ((TK:Int)<=ahJ ii.label lab)) 5 ll else s2).wrong (decide (ahH ii.name (ms.map (·.name))<0)) 5 ll else(if aD ii.word=106 then s2.wrong (decide (ahJ ii.label lab<0)||decide ((TK:Int)<=ahJ ii.label lab)) 5 ll else s2)):=by rw[ae,<-HFS.o.1,<-HFS.o.2];rfl
     generalize l8 ms fx (ii,ll) s2=s9 at *;have HB0:ae (aq (wr.alloc (.cells (bI.cells {}) 43)) wr.heap.size (bI.cells {}) 43):=aq.new wr _ _;go_upto_region 10 with(first |(refine dR rfl 43 (.tmp 61) rfl gL (j*8) rfl ii.cells _ HIR underlying43 rfl (by kernel_rfl) ?_) |(refine dI rfl 43 (.tmp 8) (.tmp 62) rfl wr.heap.size ii.cells rfl rfl 43 _ HB0.o (by kernel_rfl) (by rfl) (by simp[bI.cells,Value.oneCell']) ?_;intro W3 hB3 zG))
     have jZ:=ak (HS.o.quiet zG.fresh);have fw:=ak (HM.o.trans zG.fresh.of_nil);have oK:=ak hB3;clear hB3 zG HB0 HIR HS HM r1;generalize wr.heap.size=X at *;have c0:W3.cell? ⟨X,0,none⟩=some (.string ii.word):=oK.o.cell 0;go_wp2_with fail;refine(eG ii.word W3 (by unfold maxLen;omega)).mono ?_;rintro e W4 ⟨rfl,m4⟩;have qu:=ak (jZ.o.quiet m4);have jJ:=ak (fw.o.trans m4.of_nil);have xE:=ak (oK.o.ah m4 id);clear m4 c0 jZ fw oK;generalize wW:aD ii.word=so at *;generalize hs3:(if so=106 then s2.wrong (decide (ahJ ii.label lab<0)||decide ((TK:Int)<=ahJ ii.label lab)) 5 ll else s2)=s3 at *;have XF:=ak hs3;clear hs3;go_upto_if 66 with fail;go_cut [] (λwx=>SW w0 pb sb (.slice oM ms.length cM) (.slice (some ⟨g,0,none⟩) xs.length cF) ms xs s3 wx/\aa (Only sb) w wx/\aq wx X ii.cells 43)
     case first =>
      by_cases CD:so=106
      ·have q1:(so==106)=true:=by simpa using CD
       have ER:ae (s2.wrong (decide (ahJ ii.label lab<0)||decide ((TK:Int)<=ahJ ii.label lab)) 5 ll=s3):=by have:=XF.o;rw[iP9 CD]at this;exact this
       have c6:W4.cell? ⟨X,6,none⟩=some (.string ii.label):=xE.o.cell 6;obtain⟨⟨_,r3,r4,r5,_,r7⟩,_,sB,sP,_⟩:=Au.o W4 s2 qu.o;obtain⟨gN,cN,hvN,hcN⟩:=x8.o W4 s2 qu.o;subst hvN;have HLA:=xM g (k*8) ii.label lab vB vP W4 r4 r5 sB sP hx3;clear XF sB sP CD r4 r5;generalize ahJ ii.label lab=lm at *;go_wp2_with fail;refine HLA.mono ?_;rintro e W5 ⟨rfl,hW5⟩;subst hW5;clear HLA c6;go_upto_region 12 with fail;have gV:ae (aa af W5 W5.drew):=(aa.refl _ _).drew;refine dz 18 (by kernel_rfl) (by kernel_rfl) ?_;intro W hW;rw[<-hW]at gV;clear hW;have uq:=ak (qu.o.quiet gV.o);have E5:=ak (jJ.o.trans gV.o.of_nil);have Mi:=ak (xE.o.ah gV.o id);have y3:=(Au.o W s2 uq.o).1.2.1;have y7:=(Au.o W s2 uq.o).1.2.2.2.2.2;have yN:W.cell? ⟨gN,j,none⟩=some (.int .i64 ll):=by obtain⟨gN',cN',h1,h2⟩:=x8.o W s2 uq.o;injection h1 with h1;injection h1 with h1;injection h1 with h1;subst h1;exact h2
       clear r3 r7 hcN qu jJ xE;simp only[ao,ba,ar,bh];by_cases hneg:lm<0
       ·have HW3:ae (s2.wrong true 5 ll=s3):=by have:=ER.o;rw[decide_eq_true hneg,Bool.true_or]at this;exact this
        clear ER
        repeat(go_big_quiet_step (fail))
        refine wpQuiet_nil ?_;clear y3 y7 yN;go_wp2_with fail;refine(SW.fG true 5 ll _ uq.o).mono ?_;rintro e W7 ⟨rfl,h7,m7⟩;have Sg:=ak h7;have Sd:=ak (E5.o.trans m7);have HX7:ae (aq W7 X ii.cells 43):=Mi.o.ah m7 (λe=>aq.apart Mi.o uq.o.sn (by decide) e);clear h7 m7;go_wp2_with fail;go_meet;rw[<-HW3.o];exact⟨Sg.o,Sd.o,HX7.o⟩
       ·have HW3:ae (s2.wrong (decide ((TK:Int)<=lm)) 5 ll=s3):=by have:=ER.o;rw[decide_eq_false hneg,Bool.false_or]at this;exact this
        have aha:decide (lm<0)=false:=decide_eq_false hneg;clear ER hneg
        repeat(go_big_quiet_step (fail))
        refine wpQuiet_nil ?_;clear y3 y7 yN;go_wp2_with fail;refine(SW.fG (decide ((TK:Int)<=lm)) 5 ll _ uq.o).mono ?_;rintro e W7 ⟨rfl,h7,m7⟩;have Sg:=ak h7;have Sd:=ak (E5.o.trans m7);have HX7:ae (aq W7 X ii.cells 43):=Mi.o.ah m7 (λe=>aq.apart Mi.o uq.o.sn (by decide) e);clear h7 m7;go_wp2_with fail;go_meet;rw[<-HW3.o];exact⟨Sg.o,Sd.o,HX7.o⟩
      ·have q1:(so==106)=false:=by simpa using CD
       have ER:ae (s2=s3):=by have:=XF.o;rw[iN9 CD]at this;exact this
       clear XF CD;go_wp2_with fail;go_meet;rw[<-ER.o];exact⟨qu.o,jJ.o,xE.o⟩
     case rest =>
     obtain⟨hS5,hM5,hX5⟩:=hcut;have xZ:=ak hS5;have mU:=ak hM5;have c0:wc.cell? ⟨X,0,none⟩=some (.string ii.word):=hX5.cell 0;have c7:wc.cell? ⟨X,7,none⟩=some (.string ii.name):=hX5.cell 7;have p0:wc.cell? ⟨pb,0,none⟩=some (.slice oM ms.length cM):=hS5.da.prog.cell 0;have adA:=hS5.da.maps;clear hS5 hM5 hX5 XF qu jJ xE;have TL:=ak HSI.o;clear HSI;have HST:=Dc pb ii.name ms _ wc p0 adA hms;have Mx:ae (∀s2',s2'=s9->∀W,SW w0 pb sb (.slice oM ms.length cM) (.slice (some ⟨g,0,none⟩) xs.length cF) ms xs s2' W->aa (Only sb) w W->((ls.zip qC).drop (j+1)).foldl (λs x=>l8 ms fx x s) s2'=qy ms fx s1):=λs2' h W _ _=>by rw[h,<-HZ.o];exact jI.o
     generalize ahH ii.name (ms.map (·.name))=pl at *;by_cases hW:ii.word=WIDE
     ·have qw:=dX hW;by_cases hN:ii.name=E0
      ·have YF:ae (s3=s9):=by rw[ae,TL.o,iN9 (λe=>e.2 hN)]
       have qn:(!ii.name.toList.isEmpty)=false:=by rw[Jt,hN];decide
       clear TL hW hN HST;go_wp2_with fail;go_roundg (ls.length-(j+1))
       case measure=>omega
       case rel=>exact⟨j+1,_,by omega,by go_num,xZ.o,mU.o,Mx.o _ YF.o _ xZ.o mU.o,rfl⟩
      ·have YF:ae (s3.wrong (decide (pl<0)) 5 ll=s9):=by rw[ae,TL.o,iP9 ⟨hW,hN⟩]
       have qn:(!ii.name.toList.isEmpty)=true:=by rw[Jt];exact decide_eq_true hN
       obtain⟨gN,cN,hvN,hcN⟩:=x8.o wc s3 xZ.o;subst hvN;have r7:=(Au.o wc s3 xZ.o).1.2.2.2.2.2;clear TL hW hN;go_wp2_with fail;refine HST.mono ?_;rintro e W6 ⟨rfl,hW6⟩;subst hW6;clear HST;go_wp2_with fail;refine(SW.fG (decide (pl<0)) 5 ll _ xZ.o).mono ?_;rintro e W7 ⟨rfl,h7,m7⟩;have Sg:=ak h7;have Sd:=ak (mU.o.trans m7);clear h7 m7;go_wp2_with fail;go_roundg (ls.length-(j+1))
       case measure=>omega
       case rel=>exact⟨j+1,_,by omega,by go_num,Sg.o,Sd.o,Mx.o _ YF.o _ Sg.o Sd.o,rfl⟩
     ·have YF:ae (s3=s9):=by rw[ae,TL.o,iN9 (λe=>hW e.1)]
      have qw:=dK (l:=[119,105,100,101]) hW;clear TL hW HST;go_wp2_with fail;go_roundg (ls.length-(j+1))
      case measure=>omega
      case rel=>exact⟨j+1,_,by omega,by go_num,xZ.o,mU.o,Mx.o _ YF.o _ xZ.o mU.o,rfl⟩
    ·have HE:ae (s2=qy ms fx s1):=by rw[ae,<-jI.o,bj (by simp;omega)];rfl
     go_wp2_with fail;go_roundg (xs.length-(k+1))
     case measure=>omega
     case rel=>exact⟨k+1,_,by omega,by go_num,HS.o,HM.o,by rw[HE.o,<-Gi.o];exact HR.o,rfl⟩
  ·have HE:ae (s1=fB ms (xs.map (·.1)) s):=by rw[ae,<-HR.o,bj (by simp;omega)];rfl
   go_wp2_with fail;go_end0;refine⟨rfl,?_,HM.o⟩;rw[<-HE.o];exact HS.o
