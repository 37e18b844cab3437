import Derived.Test.YtmajaohgiilelaaGreatDoorC37
import Derived.Test.YtmajaohgiilelaaGreatDoorC31
namespace Go.Proofs.YtmajaohgiilelaaGreatDoor
open Go.RowKit Tryz
open List renaming length_append->ao,getElem_mem->ba,not_mem_nil->bj,length_map->bt,mem_cons->b9,mem_or_eq_of_mem_set->ca,getElem_map->cb
open Nat renaming le_refl->an,le_trans->ar,zero_le->bh
set_option linter.all false
set_option maxRecDepth 1000000
set_option maxHeartbeats 2000000
abbrev ug:=(yY×dF)×lS
def ug.nm(z:ug):tBA:=z.1.1.name
structure PU(w0:tW)(pb:Nat)(vM:Value)(oF:Option Addr)(cF n:Nat)(ms:List bz)(z:List ug)(w:tW):Prop where
 prog:aq w pb #[vM,.slice oF n cF] 36
 maps:Sl w 64 4 vM ms.length (ms.flatMap bz.cells)
 rows:Sl w 57 8 (.slice oF n cF) n ((z.map (·.1)).flatMap jM)
 each:∀x∈z,NN w x.1.2.toMh x.2
 vn:∀x∈z,∃o n k,x.1.2.vN=.slice o n k
 len:z.length=n
 md:aa (λk=>Value.ownBlock (.slice oF n cF)=some k) w0 w
theorem PU.quiet{w0 w w':tW}{pb cF n:Nat}{oF:Option Addr}{vM:Value}{ms:List bz}{z:List ug}(h:PU w0 pb vM oF cF n ms z w)(m:aa af w w'):PU w0 pb vM oF cF n ms z w' :=
 ⟨h.prog.ah m id,h.maps.ah m (λ_ _=>id),h.rows.ah m (λ_ _=>id),λx hx=>(h.each x hx).quiet m,h.vn,h.len,h.md.trans (m.mono (λ_ _ e=>e.elim))⟩
theorem PU.at{w0 w:tW}{pb cF n:Nat}{oF:Option Addr}{vM:Value}{ms:List bz}{z:List ug}(h:PU w0 pb vM oF cF n ms z w)(k:Nat)(hk:k<z.length):∃g,oF=some ⟨g,0,none⟩/\∀j (hj:j<z.length) c,c<8->w.cell? ⟨g,j*8+c,none⟩=(jM z[j].1)[c]?:=by
 have hr:=h.rows;have hl:n=(z.map (·.1)).length:=by rw[bt];exact h.len.symm
 obtain⟨g,hg,hc⟩:=hr.atA hl rfl k (by simpa using hk);exact⟨g,hg,λj hj c hc'=>by rw[hc j (by simpa using hj) c hc',cb]⟩
theorem PU.frz{w0 w:tW}{pb cF n g:Nat}{vM:Value}{ms:List bz}{z:List ug}(h:PU w0 pb vM (some ⟨g,0,none⟩) cF n ms z w)(hn:0<n):∀j,w.frozen? ⟨g,j,none⟩=false:=h.rows.frz hn
def qj(w:tW)(g k:Nat)(r:yY)(v:dF):tW :=
 (((((((w.setCell ⟨g,k*8,none⟩ (.string r.name)).setCell ⟨g,k*8+1,none⟩ v.vL).setCell ⟨g,k*8+2,none⟩ v.vA).setCell ⟨g,k*8+3,none⟩ (.int .i64 r.slots)).setCell ⟨g,k*8+4,none⟩ v.vB).setCell ⟨g,k*8+5,none⟩ v.vP).setCell ⟨g,k*8+6,none⟩ (.int .i64 v.ln)).setCell ⟨g,k*8+7,none⟩ v.vN
theorem nY{S:Nat->Prop}{w0 w:tW}{g k:Nat}{r:yY}{v:dF}(h:aa S w0 w)(hg:S g\/w0.heap.size<=g):aa S w0 (qj w g k r v) :=
 (((((((h.set (a:=⟨g,k*8,none⟩) hg _).set (a:=⟨g,k*8+1,none⟩) hg _).set (a:=⟨g,k*8+2,none⟩) hg _).set (a:=⟨g,k*8+3,none⟩) hg _).set (a:=⟨g,k*8+4,none⟩) hg _).set (a:=⟨g,k*8+5,none⟩) hg _).set (a:=⟨g,k*8+6,none⟩) hg _).set (a:=⟨g,k*8+7,none⟩) hg _
theorem PU.put{w0 w:tW}{pb cF n g:Nat}{vM:Value}{ms:List bz}{z:List ug}(h:PU w0 pb vM (some ⟨g,0,none⟩) cF n ms z w)(k:Nat)(hk:k<z.length)(x:ug)(hx:NN w x.1.2.toMh x.2)(hv:∃o n k,x.1.2.vN=.slice o n k):PU w0 pb vM (some ⟨g,0,none⟩) cF n ms (z.set k x) (qj w g k x.1.1 x.1.2):=by
 have hl:=h.len;obtain⟨⟨r,v⟩,o⟩:=x;simp only at hx hv ⊢;have hf:∀y:yY×dF,(jM y).length=8:=Lr;have hk':k<(z.map (·.1)).length:=by simpa using hk
 have e1:=h.rows.setAt (k*8) (.string r.name) (by omega);have e2:=e1.setAt (k*8+1) v.vL (by omega);have e3:=e2.setAt (k*8+2) v.vA (by omega);have e4:=e3.setAt (k*8+3) (.int .i64 r.slots) (by omega);have e5:=e4.setAt (k*8+4) v.vB (by omega);have e6:=e5.setAt (k*8+5) v.vP (by omega);have e7:=e6.setAt (k*8+6) (.int .i64 v.ln) (by omega);have e8:=e7.setAt (k*8+7) v.vN (by omega);generalize hz:(z.map (·.1))[k]=y at *;obtain⟨ry,vy⟩:=y
 rw[show k*8=k*8+0 from rfl,dO jM 8 hf (z.map (·.1)) k 0 hk' (by omega) _ ({ry with name:=r.name},vy) (by rw[hz];rfl),
  dO jM 8 hf _ k 1 (by simpa using hk) (by omega) _ ({ry with name:=r.name},{vy with vL:=v.vL}) (by simp[jM]),
  dO jM 8 hf _ k 2 (by simpa using hk) (by omega) _ ({ry with name:=r.name},{vy with vL:=v.vL,vA:=v.vA}) (by simp[jM]),
  dO jM 8 hf _ k 3 (by simpa using hk) (by omega) _ (r,{vy with vL:=v.vL,vA:=v.vA}) (by simp[jM]),
  dO jM 8 hf _ k 4 (by simpa using hk) (by omega) _ (r,{vy with vL:=v.vL,vA:=v.vA,vB:=v.vB}) (by simp[jM]),
  dO jM 8 hf _ k 5 (by simpa using hk) (by omega) _ (r,{vy with vL:=v.vL,vA:=v.vA,vB:=v.vB,vP:=v.vP}) (by simp[jM]),
  dO jM 8 hf _ k 6 (by simpa using hk) (by omega) _ (r,{vy with vL:=v.vL,vA:=v.vA,vB:=v.vB,vP:=v.vP,ln:=v.ln}) (by simp[jM]),
  dO jM 8 hf _ k 7 (by simpa using hk) (by omega) _ (r,v) (by simp[jM])]at e8
 simp only[List.set_set]at e8;have hm:aa (Only g) w (qj w g k r v):=nY (aa.refl _ _) (.inl rfl)
 have sep:∀(u:Mh) (o:lS),NN w u o->NN (qj w g k r v) u o:=λu o f =>
  f.ah hm (λb hb e=>f.sl.apart h.rows (by decide) hb (by rw[show b=g from e];rfl)) (λb hb e=>f.sa.apart h.rows (by decide) hb (by rw[show b=g from e];rfl)) (λb hb e=>f.sb.apart h.rows (by decide) hb (by rw[show b=g from e];rfl)) (λb hb e=>f.sp.apart h.rows (by decide) hb (by rw[show b=g from e];rfl))
 refine⟨h.prog.ah hm (λe=>h.rows.az h.prog (by decide) (by rw[show pb=g from e];rfl)),h.maps.ah hm (λb hb e=>h.maps.apart h.rows (by decide) hb (by rw[show b=g from e];rfl)),?_,?_,?_,by rw[List.length_set];exact hl,nY h.md (.inl rfl)⟩
 ·rw[List.map_set];exact e8
 ·intro y hy;rcases ca hy with hy|rfl
  ·exact sep _ _ (h.each y hy)
  ·exact sep _ _ hx
 ·intro y hy;rcases ca hy with hy|rfl
  ·exact h.vn y hy
  ·exact hv
theorem LM(w:tW)(pb:Nat)(vM vF:Value)(ms:List bz)(z:List ug)(h:Pr w pb vM vF ms (z.map (·.1)) (z.map (·.2)))(hvn:∀x∈z,∃o n k,x.1.2.vN=.slice o n k)(hms:ms.length<=1000000)(hzl:z.length<=1000000):Calls Tryz.prog 18 #[.pointer (some ⟨pb,0,none⟩)] w λe w'=>e=.returned (.tuple #[])/\∃(ms':List bz) (z':List ug),ms'.Perm ms/\ib (·.name) ms' ms'.length/\z'.Perm z/\ib ug.nm z' z'.length /\ Pr w' pb vM vF ms' (z'.map (·.1)) (z'.map (·.2))/\aa (λk=>vM.ownBlock=some k\/vF.ownBlock=some k) w w':=by
 have HVN:=ak hvn;clear hvn;have h0:=h.prog;have sM:=h.maps;obtain⟨oM,cM,Jv,_⟩:=sM.view;obtain⟨oF,cF,uZ,_⟩:=h.rows.view;rw[bt]at uZ;subst Jv uZ;have hst:SS w pb oM cM (.slice oF z.length cF) ms.length ms w:=⟨h0,sM,rfl,aa.refl _ _⟩
 have HST:=ak hst;have HF0:ae (∀w',aa (λk=>Value.ownBlock (.slice oM ms.length cM)=some k) w w'->Sl w' 57 8 (.slice oF z.length cF) z.length ((z.map (·.1)).flatMap jM)/\∀x∈z,NN w' x.1.2.toMh x.2):=by intro w' m;have hr:=h.rows;rw[bt]at hr;refine⟨hr.ah m (λk hk e=>hr.apart sM (by decide) hk e),λx hx=>?_⟩;obtain⟨i,hi,rfl⟩:=List.getElem_of_mem hx;have f:=h.each i (by simpa using hi) (by simpa using hi);simp only[cb]at f;exact f.ah m (λk hk e=>f.sl.apart sM (by decide) hk e) (λk hk e=>f.sa.apart sM (by decide) hk e) (λk hk e=>f.sb.apart sM (by decide) hk e) (λk hk e=>f.sp.apart sM (by decide) hk e)
 have p0:w.cell? ⟨pb,0,none⟩=some (.slice oM ms.length cM):=h0.cell 0;clear hst h0 sM h;go_enter func18,ntmps18;go_wp2_with fail;go_loopg [2] (ms.length-1) (λg iv wx=>∃(i:Nat) (l:List bz),iv=.int .i64 i/\1<=i/\l.Perm ms/\ib (·.name) l i/\SS w pb oM cM (.slice oF z.length cF) ms.length l wx/\g=ms.length-i)
 case atStart=>exact⟨1,ms,rfl,an _,List.Perm.refl _,λp q _ _ (h1:p<q) (h2:q<1)=>absurd h1 (by omega),HST.o,rfl⟩
 case round =>
  obtain⟨i,l,rfl,hi1,hpm,hri,hS,rfl⟩:=hrel;clear p0;have p0:wr.cell? ⟨pb,0,none⟩=some (.slice oM ms.length cM):=hS.prog.cell 0;have HS:=ak hS;have Ct:=ak hpm;have HRI:=ak hri;clear hpm hri hS;by_cases hil:i<ms.length
  ·go_wp2_with fail;go_loopg [3] i (λg kv wx=>∃(k:Nat) (l:List bz),kv=.int .i64 k/\k<=i/\l.Perm ms/\yx (·.name) l i k/\SS w pb oM cM (.slice oF z.length cF) ms.length l wx/\g=k)
   case atStart=>exact⟨i,l,rfl,an _,Ct.o,yx.start _ HRI.o,HS.o,rfl⟩
   case round =>
    clear p0 HS Ct HRI;obtain⟨k,l,rfl,hki,hpm,hin,hS,hgk⟩:=hrel;have HGK:=ak hgk;clear hgk;have p0:wr.cell? ⟨pb,0,none⟩=some (.slice oM ms.length cM):=hS.prog.cell 0;have hll:l.length=ms.length:=hS.len;have Ff:=ak hll;have Ct:=ak hpm;have Ji:=ak hin;have HS:=ak hS;have hkl:k<l.length:=by omega
    obtain⟨gM,rfl,hc⟩:=hS.at k hkl;have HPG:ae (pb≠gM):=λe=>hS.maps.az hS.prog (by decide) (congrArg some e.symm);obtain⟨c0,c1,c2,c3⟩:=hc k hkl;clear hll hpm hin hS;by_cases hk0:0<k
    ·obtain⟨d0,d1,d2,d3⟩:=hc (k-1) (by omega);clear hc;have hkc:((k:Int)-1)=((k-1:Nat):Int):=by omega
     cases ht:jO l[k].name (l[k-1]'(by omega)).name with
     |true =>
      have ht':Op.bytesLess l[k].name.toList (l[k-1]'(by omega)).name.toList=true:=ht;clear ht;go_upto_region 4 with fail;go_quiet (fail);have Gd:ae (SS w pb (some ⟨gM,0,none⟩) cM (.slice oF z.length cF) ms.length l (wr.drewN nq)):=HS.o.quiet ((aa.refl _ _).drewN nq);generalize wr.drewN nq=W at *;obtain⟨_,he,hc⟩:=Gd.o.at k hkl;cases he;clear c0 c1 c2 c3 d0 d1 d2 d3 p0;have p0:W.cell? ⟨pb,0,none⟩=some (.slice (some ⟨gM,0,none⟩) ms.length cM):=Gd.o.prog.cell 0;obtain⟨c0,c1,c2,c3⟩:=hc k hkl;obtain⟨d0,d1,d2,d3⟩:=hc (k-1) (by omega);clear hc;generalize hx:l[k]=x at *;generalize hy:l[k-1]'(by omega)=y at *;obtain⟨xn,xk,xv,xe⟩:=x;obtain⟨yn,yk,yv,ye⟩:=y;simp only at c0 c1 c2 c3 d0 d1 d2 d3 ht';go_upto_region 7 with fail;have hS2:=Gd.o.quiet ((aa.refl _ _).alloc (.cells #[.string xn,.int .i64 xk,.int .i64 xv,.int .i64 xe] 64));have hbx:=aq.new W #[.string xn,.int .i64 xk,.int .i64 xv,.int .i64 xe] 64;have hWs:gM<W.heap.size:=Gd.o.maps.lt gM rfl;generalize W.alloc (.cells #[.string xn,.int .i64 xk,.int .i64 xv,.int .i64 xe] 64)=W2 at *;clear p0 c0 c1 c2 c3 d0 d1 d2 d3;have p0:W2.cell? ⟨pb,0,none⟩=some (.slice (some ⟨gM,0,none⟩) ms.length cM):=hS2.prog.cell 0;obtain⟨_,he,hc⟩:=hS2.at k hkl;cases he;obtain⟨c0,c1,c2,c3⟩:=hc k hkl;obtain⟨d0,d1,d2,d3⟩:=hc (k-1) (by omega);rw[hx]at c0 c1 c2 c3;rw[hy]at d0 d1 d2 d3;simp only at c0 c1 c2 c3 d0 d1 d2 d3;have fz:=hS2.frz (by omega);have HS2:=ak hS2;clear hc hS2;go_region
      try simp only[Exit.then]
      have hS3:=(HS2.o.put HPG.o k hkl ⟨yn,yk,yv,ye⟩).quiet ((aa.refl _ _).drew)
      have hb3:aq (((((W2.setCell ⟨gM,k*4,none⟩ (.string yn)).setCell ⟨gM,k*4+1,none⟩ (.int .i64 yk)).setCell ⟨gM,k*4+2,none⟩ (.int .i64 yv)).setCell ⟨gM,k*4+3,none⟩ (.int .i64 ye)).drew) W.heap.size #[.string xn,.int .i64 xk,.int .i64 xv,.int .i64 xe] 64 :=
       ((((hbx.setOther (a:=⟨gM,k*4,none⟩) (show gM≠W.heap.size by omega) _).setOther (a:=⟨gM,k*4+1,none⟩) (show gM≠W.heap.size by omega) _).setOther (a:=⟨gM,k*4+2,none⟩) (show gM≠W.heap.size by omega) _).setOther (a:=⟨gM,k*4+3,none⟩) (show gM≠W.heap.size by omega) _).drew
      simp only at hS3;generalize(((((W2.setCell ⟨gM,k*4,none⟩ (.string yn)).setCell ⟨gM,k*4+1,none⟩ (.int .i64 yk)).setCell ⟨gM,k*4+2,none⟩ (.int .i64 yv)).setCell ⟨gM,k*4+3,none⟩ (.int .i64 ye)).drew)=W3 at *;clear p0 c0 c1 c2 c3 d0 d1 d2 d3 fz hbx;have p0:W3.cell? ⟨pb,0,none⟩=some (.slice (some ⟨gM,0,none⟩) ms.length cM):=hS3.prog.cell 0;have fz:=hS3.frz (by omega);have b0:W3.cell? ⟨W.heap.size,0,none⟩=some (.string xn):=hb3.cell 0;have b1:W3.cell? ⟨W.heap.size,1,none⟩=some (.int .i64 xk):=hb3.cell 1;have b2:W3.cell? ⟨W.heap.size,2,none⟩=some (.int .i64 xv):=hb3.cell 2;have b3:W3.cell? ⟨W.heap.size,3,none⟩=some (.int .i64 xe):=hb3.cell 3;obtain⟨_,he,hc⟩:=hS3.at (k-1) (by simp;omega);cases he;obtain⟨d0,d1,d2,d3⟩:=hc (k-1) (by simp;omega);have jZ:=ak hS3;clear hc hS3;go_wp2_with fail;go_region;have hS4:=(jZ.o.put HPG.o (k-1) (by simp;omega) ⟨xn,xk,xv,xe⟩).quiet ((aa.refl _ _).drew);have qu:ae _:=hS4;clear hS4;have acs:ae (yx (·.name) (pF l k hkl (by omega)) i (k-1)):=Ji.o.step _ hkl (by omega) hk0 hki (by simp only[hx,hy];exact ht');have ae2:ae ((pF l k hkl (by omega)).Perm ms):=(D7 l k hkl (by omega) hk0).trans Ct.o
      try simp only[Exit.inBlock,Exit.then]
      go_wp2_with fail;go_roundg (k-1)
      case measure=>have:=HGK.o;omega
      case rel =>refine⟨k-1,pF l k hkl (by omega),by go_num,by omega,ae2.o,acs.o,?_,rfl⟩;rw[pF,hx,hy];exact qu.o
     |false =>
      have ht':Op.bytesLess l[k].name.toList (l[k-1]'(by omega)).name.toList=false:=ht;have PW:ae (ib (·.name) l (i+1)):=Ji.o.done _ hkl hk0 hki ht;clear ht;go_upto_region 4 with fail;go_quiet (fail)
      try simp only[Exit.then]
      have Gd:ae (SS w pb (some ⟨gM,0,none⟩) cM (.slice oF z.length cF) ms.length l (wr.drewN nq)):=HS.o.quiet ((aa.refl _ _).drewN nq);generalize wr.drewN nq=W at *;go_wp2_with fail;go_roundg (ms.length-(i+1))
      case measure=>omega
      case rel=>exact⟨i+1,l,by go_num,by omega,Ct.o,PW.o,Gd.o,rfl⟩
    ·obtain rfl:k=0:=by omega
     have PW:ae (ib (·.name) l (i+1)):=Ji.o.abq _;go_upto_region 4 with fail;go_quiet (fail)
     try simp only[Exit.then]
     have Gd:ae (SS w pb (some ⟨gM,0,none⟩) cM (.slice oF z.length cF) ms.length l (wr.drewN nq)):=HS.o.quiet ((aa.refl _ _).drewN nq);generalize wr.drewN nq=W at *;go_wp2_with fail;go_roundg (ms.length-(i+1))
     case measure=>omega
     case rel=>exact⟨i+1,l,by go_num,by omega,Ct.o,PW.o,Gd.o,rfl⟩
  ·have HRM:ae (ib (·.name) l l.length):=λp q hp hq h1 h2=>HRI.o p q hp hq h1 (by have:=HS.o.len;omega);have hF0:PU wr pb (.slice oM ms.length cM) oF cF z.length l z wr:=by have hS:=HS.o;obtain⟨hr,he⟩:=HF0.o wr hS.md;exact⟨hS.prog,by have:=hS.maps;exact this,hr,he,HVN.o,rfl,aa.refl _ _⟩
   have adB:=ak HS.o.md;have HF1:=ak hF0;have p1:wr.cell? ⟨pb,1,none⟩=some (.slice oF z.length cF):=hF0.prog.cell 1;clear hF0 HS HRI HF0 HST;go_wp2_with fail;clear p0;obtain⟨w1,hw1⟩:∃w1,w1=wr:=⟨_,rfl⟩
   rw[<-hw1]at HF1 adB;have HW1:=ak hw1;have HF2:ae (PU w1 pb (.slice oM ms.length cM) oF cF z.length l z wr):=by rw[ae,<-hw1];exact HF1.o
   clear hw1 HF1;go_loopg [5] (z.length-1) (λg iv wx=>∃(i:Nat) (y:List ug),iv=.int .i64 i/\1<=i/\y.Perm z/\ib ug.nm y i/\PU w1 pb (.slice oM ms.length cM) oF cF z.length l y wx/\g=z.length-i)
   case atStart=>exact⟨1,z,rfl,an _,List.Perm.refl _,λp q _ _ (h1:p<q) (h2:q<1)=>absurd h1 (by omega),HF2.o,rfl⟩
   case round =>
    clear HW1 HF2 p1 hi1 hil;obtain⟨i,y,rfl,hi1,hpm,hri,hS,rfl⟩:=hrel;have p1:wr.cell? ⟨pb,1,none⟩=some (.slice oF z.length cF):=hS.prog.cell 1;have HS:=ak hS;have Ur:=ak hpm;have HRI:=ak hri;clear hpm hri hS;by_cases hil:i<z.length
    ·go_wp2_with fail;go_loopg [6] i (λg kv wx=>∃(k:Nat) (y:List ug),kv=.int .i64 k/\k<=i/\y.Perm z/\yx ug.nm y i k/\PU w1 pb (.slice oM ms.length cM) oF cF z.length l y wx/\g=k)
     case atStart=>exact⟨i,y,rfl,an _,Ur.o,yx.start _ HRI.o,HS.o,rfl⟩
     case round =>
      clear p1 HS Ur HRI;obtain⟨k,y,rfl,hki,hpm,hin,hS,hgk⟩:=hrel;have HGK:=ak hgk;clear hgk;have p1:wr.cell? ⟨pb,1,none⟩=some (.slice oF z.length cF):=hS.prog.cell 1;have hll:y.length=z.length:=hS.len;have Ff:=ak hll;have Ur:=ak hpm;have Ji:=ak hin;have HS:=ak hS;have hkl:k<y.length:=by omega
      obtain⟨gF,rfl,hc⟩:=hS.at k hkl;have c0:wr.cell? ⟨gF,k*8,none⟩=some (.string y[k].1.1.name):=hc k hkl 0 (by omega);clear hll hpm hin hS;by_cases hk0:0<k
      ·have d0:wr.cell? ⟨gF,(k-1)*8,none⟩=some (.string (y[k-1]'(by omega)).1.1.name):=hc (k-1) (by omega) 0 (by omega);clear hc;have hkc:((k:Int)-1)=((k-1:Nat):Int):=by omega
       cases ht:jO (ug.nm y[k]) (ug.nm (y[k-1]'(by omega)))with
       |true =>
        have ht':Op.bytesLess y[k].1.1.name.toList (y[k-1]'(by omega)).1.1.name.toList=true:=ht;clear ht;go_upto_region 13 with fail;go_quiet (fail)
        try simp only[Exit.then]
        have Gd:ae (PU w1 pb (.slice oM ms.length cM) (some ⟨gF,0,none⟩) cF z.length l y (wr.drewN nq)):=HS.o.quiet ((aa.refl _ _).drewN nq);generalize wr.drewN nq=W at *;obtain⟨_,he,hc⟩:=Gd.o.at k hkl;cases he;clear c0 d0 p1;have hxe:NN W y[k].1.2.toMh y[k].2:=Gd.o.each _ (ba hkl);have hye:NN W (y[k-1]'(by omega)).1.2.toMh (y[k-1]'(by omega)).2:=Gd.o.each _ (ba _);have p1:W.cell? ⟨pb,1,none⟩=some (.slice (some ⟨gF,0,none⟩) z.length cF):=Gd.o.prog.cell 1;have hcx:=hc k hkl;have hcy:=hc (k-1) (by omega);have hxn:=Gd.o.vn _ (ba hkl);have hyn:=Gd.o.vn _ (ba (show k-1<y.length by omega));clear hc;generalize hx:y[k]=x at *;generalize hy:y[k-1]'(by omega)=x' at *;obtain⟨⟨⟨xn,xs⟩,⟨⟨x1,x2,x4,x5⟩,xl,x7⟩⟩,xo⟩:=x;obtain⟨⟨⟨yn,ys⟩,⟨⟨y1,y2,y4,y5⟩,yl,y7⟩⟩,yo⟩:=x';simp only at ht' hxe hye hxn hyn;obtain⟨o7,n7,k7,rfl⟩:=hxn;obtain⟨q7,m7,j7,rfl⟩:=hyn;have c0:W.cell? ⟨gF,k*8,none⟩=some (.string xn):=hcx 0 (by omega);have c1:W.cell? ⟨gF,k*8+1,none⟩=some x1:=hcx 1 (by omega);have c2:W.cell? ⟨gF,k*8+2,none⟩=some x2:=hcx 2 (by omega);have c3:W.cell? ⟨gF,k*8+3,none⟩=some (.int .i64 xs):=hcx 3 (by omega);have c4:W.cell? ⟨gF,k*8+4,none⟩=some x4:=hcx 4 (by omega);have c5:W.cell? ⟨gF,k*8+5,none⟩=some x5:=hcx 5 (by omega);have c6:W.cell? ⟨gF,k*8+6,none⟩=some (.int .i64 xl):=hcx 6 (by omega);have c7:W.cell? ⟨gF,k*8+7,none⟩=some (.slice o7 n7 k7):=hcx 7 (by omega);have CF:=ak hxe;have HYE:=ak hye;obtain⟨o1,k1,h1,_⟩:=hxe.sl.view;obtain⟨o2,k2,h2,_⟩:=hxe.sa.view;obtain⟨o4,k4,h4,_⟩:=hxe.sb.view;obtain⟨o5,k5,h5,_⟩:=hxe.sp.view;obtain⟨q1,j1,g1,_⟩:=hye.sl.view;obtain⟨q2,j2,g2,_⟩:=hye.sa.view;obtain⟨q4,j4,g4,_⟩:=hye.sb.view;obtain⟨q5,j5,g5,_⟩:=hye.sp.view;simp only at h1 h2 h4 h5 g1 g2 g4 g5;subst h1 h2 h4 h5 g1 g2 g4 g5;generalize xo.ls.length=n1 at *;generalize xo.ats.length=n2 at *;generalize xo.lab.length=n4 at *;generalize yo.ls.length=m1 at *;generalize yo.ats.length=m2 at *;generalize yo.lab.length=m4 at *;clear hcx hcy hxe hye;go_upto_region 16 with fail;have hS2:=Gd.o.quiet ((aa.refl _ _).alloc (.cells #[.string xn,.slice o1 n1 k1,.slice o2 n2 k2,.int .i64 xs,.slice o4 n4 k4,.slice o5 n4 k5,.int .i64 xl,.slice o7 n7 k7] 57));have hbx:=aq.new W #[.string xn,.slice o1 n1 k1,.slice o2 n2 k2,.int .i64 xs,.slice o4 n4 k4,.slice o5 n4 k5,.int .i64 xl,.slice o7 n7 k7] 57;have hWs:gF<W.heap.size:=Gd.o.rows.lt gF rfl;have TM:=CF.o.quiet ((aa.refl _ _).alloc (.cells #[.string xn,.slice o1 n1 k1,.slice o2 n2 k2,.int .i64 xs,.slice o4 n4 k4,.slice o5 n4 k5,.int .i64 xl,.slice o7 n7 k7] 57));have adC:=HYE.o.quiet ((aa.refl _ _).alloc (.cells #[.string xn,.slice o1 n1 k1,.slice o2 n2 k2,.int .i64 xs,.slice o4 n4 k4,.slice o5 n4 k5,.int .i64 xl,.slice o7 n7 k7] 57));generalize W.alloc (.cells #[.string xn,.slice o1 n1 k1,.slice o2 n2 k2,.int .i64 xs,.slice o4 n4 k4,.slice o5 n4 k5,.int .i64 xl,.slice o7 n7 k7] 57)=W2 at *;clear p1 c0 c1 c2 c3 c4 c5 c6 c7;have p1:W2.cell? ⟨pb,1,none⟩=some (.slice (some ⟨gF,0,none⟩) z.length cF):=hS2.prog.cell 1;have fz:=hS2.frz (by omega);obtain⟨_,he,hc⟩:=hS2.at k hkl;cases he;have hcx:=hc k hkl;have hcy:=hc (k-1) (by omega);rw[hx]at hcx;rw[hy]at hcy;have c0:W2.cell? ⟨gF,k*8,none⟩=some (.string xn):=hcx 0 (by omega);have c1:W2.cell? ⟨gF,k*8+1,none⟩=some (.slice o1 n1 k1):=hcx 1 (by omega);have c2:W2.cell? ⟨gF,k*8+2,none⟩=some (.slice o2 n2 k2):=hcx 2 (by omega);have c3:W2.cell? ⟨gF,k*8+3,none⟩=some (.int .i64 xs):=hcx 3 (by omega);have c4:W2.cell? ⟨gF,k*8+4,none⟩=some (.slice o4 n4 k4):=hcx 4 (by omega);have c5:W2.cell? ⟨gF,k*8+5,none⟩=some (.slice o5 n4 k5):=hcx 5 (by omega);have c6:W2.cell? ⟨gF,k*8+6,none⟩=some (.int .i64 xl):=hcx 6 (by omega);have c7:W2.cell? ⟨gF,k*8+7,none⟩=some (.slice o7 n7 k7):=hcx 7 (by omega);have d0:W2.cell? ⟨gF,(k-1)*8,none⟩=some (.string yn):=hcy 0 (by omega);have d1:W2.cell? ⟨gF,(k-1)*8+1,none⟩=some (.slice q1 m1 j1):=hcy 1 (by omega);have d2:W2.cell? ⟨gF,(k-1)*8+2,none⟩=some (.slice q2 m2 j2):=hcy 2 (by omega);have d3:W2.cell? ⟨gF,(k-1)*8+3,none⟩=some (.int .i64 ys):=hcy 3 (by omega);have d4:W2.cell? ⟨gF,(k-1)*8+4,none⟩=some (.slice q4 m4 j4):=hcy 4 (by omega);have d5:W2.cell? ⟨gF,(k-1)*8+5,none⟩=some (.slice q5 m4 j5):=hcy 5 (by omega);have d6:W2.cell? ⟨gF,(k-1)*8+6,none⟩=some (.int .i64 yl):=hcy 6 (by omega);have d7:W2.cell? ⟨gF,(k-1)*8+7,none⟩=some (.slice q7 m7 j7):=hcy 7 (by omega);have hS3:=(hS2.put k hkl ⟨⟨⟨yn,ys⟩,⟨⟨.slice q1 m1 j1,.slice q2 m2 j2,.slice q4 m4 j4,.slice q5 m4 j5⟩,yl,.slice q7 m7 j7⟩⟩,yo⟩ adC ⟨_,_,_,rfl⟩).quiet ((aa.refl _ _).drew);have hb3:aq (qj W2 gF k ⟨yn,ys⟩ ⟨⟨.slice q1 m1 j1,.slice q2 m2 j2,.slice q4 m4 j4,.slice q5 m4 j5⟩,yl,.slice q7 m7 j7⟩).drew W.heap.size #[.string xn,.slice o1 n1 k1,.slice o2 n2 k2,.int .i64 xs,.slice o4 n4 k4,.slice o5 n4 k5,.int .i64 xl,.slice o7 n7 k7] 57:=(hbx.ah (nY (S:=Only gF) (aa.refl _ _) (.inl rfl)) (λe=>absurd (show W.heap.size=gF from e) (by omega))).drew
        have adD:=TM.ah ((nY (S:=Only gF) (r:=⟨yn,ys⟩) (v:=⟨⟨.slice q1 m1 j1,.slice q2 m2 j2,.slice q4 m4 j4,.slice q5 m4 j5⟩,yl,.slice q7 m7 j7⟩) (k:=k) (aa.refl _ W2) (.inl rfl)).trans (((aa.refl af _).drew).mono (λ_ _ e=>e.elim)))
         (λb hb e=>TM.sl.apart hS2.rows (by decide) hb (by rw[show b=gF from e];rfl)) (λb hb e=>TM.sa.apart hS2.rows (by decide) hb (by rw[show b=gF from e];rfl)) (λb hb e=>TM.sb.apart hS2.rows (by decide) hb (by rw[show b=gF from e];rfl)) (λb hb e=>TM.sp.apart hS2.rows (by decide) hb (by rw[show b=gF from e];rfl))
        have jZ:=ak hS3;have HB3:=ak hb3;have acu:=ak adD;clear hc hcx hcy hS2 hS3 hb3 hbx TM adC adD;go_region
        try simp only[Exit.then]
        unfold qj at jZ HB3 acu;simp only at jZ HB3 acu;generalize((((((((W2.setCell ⟨gF,k*8,none⟩ (.string yn)).setCell ⟨gF,k*8+1,none⟩ (.slice q1 m1 j1)).setCell ⟨gF,k*8+2,none⟩ (.slice q2 m2 j2)).setCell ⟨gF,k*8+3,none⟩ (.int .i64 ys)).setCell ⟨gF,k*8+4,none⟩ (.slice q4 m4 j4)).setCell ⟨gF,k*8+5,none⟩ (.slice q5 m4 j5)).setCell ⟨gF,k*8+6,none⟩ (.int .i64 yl)).setCell ⟨gF,k*8+7,none⟩ (.slice q7 m7 j7)).drew=W3 at *;clear p1 fz c0 c1 c2 c3 c4 c5 c6 c7 d0 d1 d2 d3 d4 d5 d6 d7;have p1:W3.cell? ⟨pb,1,none⟩=some (.slice (some ⟨gF,0,none⟩) z.length cF):=jZ.o.prog.cell 1;have fz:=jZ.o.frz (by omega);obtain⟨b0,b1,b2,b3,b4,b5,b6,b7⟩:=HB3.o.eY;obtain⟨_,he,hc⟩:=jZ.o.at (k-1) (by simp;omega);cases he;have hcy:=hc (k-1) (by simp;omega);have hyk:(y.set k ⟨⟨⟨yn,ys⟩,⟨⟨.slice q1 m1 j1,.slice q2 m2 j2,.slice q4 m4 j4,.slice q5 m4 j5⟩,yl,.slice q7 m7 j7⟩⟩,yo⟩)[k-1]'(by simp;omega)=⟨⟨⟨yn,ys⟩,⟨⟨.slice q1 m1 j1,.slice q2 m2 j2,.slice q4 m4 j4,.slice q5 m4 j5⟩,yl,.slice q7 m7 j7⟩⟩,yo⟩:=by rw[List.getElem_set,iN9 (by omega)];exact hy
        rw[hyk]at hcy;have d0:W3.cell? ⟨gF,(k-1)*8,none⟩=some (.string yn):=hcy 0 (by omega);have d1:W3.cell? ⟨gF,(k-1)*8+1,none⟩=some (.slice q1 m1 j1):=hcy 1 (by omega);have d2:W3.cell? ⟨gF,(k-1)*8+2,none⟩=some (.slice q2 m2 j2):=hcy 2 (by omega);have d3:W3.cell? ⟨gF,(k-1)*8+3,none⟩=some (.int .i64 ys):=hcy 3 (by omega);have d4:W3.cell? ⟨gF,(k-1)*8+4,none⟩=some (.slice q4 m4 j4):=hcy 4 (by omega);have d5:W3.cell? ⟨gF,(k-1)*8+5,none⟩=some (.slice q5 m4 j5):=hcy 5 (by omega);have d6:W3.cell? ⟨gF,(k-1)*8+6,none⟩=some (.int .i64 yl):=hcy 6 (by omega);have d7:W3.cell? ⟨gF,(k-1)*8+7,none⟩=some (.slice q7 m7 j7):=hcy 7 (by omega);have qu:ae (PU w1 pb (.slice oM ms.length cM) (some ⟨gF,0,none⟩) cF z.length l (pF y k hkl (by omega)) (qj W3 gF (k-1) ⟨xn,xs⟩ ⟨⟨.slice o1 n1 k1,.slice o2 n2 k2,.slice o4 n4 k4,.slice o5 n4 k5⟩,xl,.slice o7 n7 k7⟩).drew):=by rw[ae,pF,hx,hy];exact(jZ.o.put (k-1) (by simp;omega) ⟨⟨⟨xn,xs⟩,⟨⟨.slice o1 n1 k1,.slice o2 n2 k2,.slice o4 n4 k4,.slice o5 n4 k5⟩,xl,.slice o7 n7 k7⟩⟩,xo⟩ acu.o ⟨_,_,_,rfl⟩).quiet ((aa.refl _ _).drew)
        have acs:ae (yx ug.nm (pF y k hkl (by omega)) i (k-1)):=Ji.o.step _ hkl (by omega) hk0 hki (by simp only[hx,hy];exact ht');have ae3:ae ((pF y k hkl (by omega)).Perm z):=(D7 y k hkl (by omega) hk0).trans Ur.o;clear hc hcy hyk;go_wp2_with fail;go_region;unfold qj at qu;simp only at qu;generalize((((((((W3.setCell ⟨gF,(k-1)*8,none⟩ (.string xn)).setCell ⟨gF,(k-1)*8+1,none⟩ (.slice o1 n1 k1)).setCell ⟨gF,(k-1)*8+2,none⟩ (.slice o2 n2 k2)).setCell ⟨gF,(k-1)*8+3,none⟩ (.int .i64 xs)).setCell ⟨gF,(k-1)*8+4,none⟩ (.slice o4 n4 k4)).setCell ⟨gF,(k-1)*8+5,none⟩ (.slice o5 n4 k5)).setCell ⟨gF,(k-1)*8+6,none⟩ (.int .i64 xl)).setCell ⟨gF,(k-1)*8+7,none⟩ (.slice o7 n7 k7)).drew=W4 at *
        try simp only[Exit.inBlock,Exit.then]
        go_wp2_with fail;go_roundg (k-1)
        case measure=>have:=HGK.o;omega
        case rel=>exact⟨k-1,_,by go_num,by omega,ae3.o,acs.o,qu.o,rfl⟩
       |false =>
        have ht':Op.bytesLess y[k].1.1.name.toList (y[k-1]'(by omega)).1.1.name.toList=false:=ht;have PW:ae (ib ug.nm y (i+1)):=Ji.o.done _ hkl hk0 hki ht;clear ht;go_upto_region 13 with fail;go_quiet (fail)
        try simp only[Exit.then]
        have Gd:ae (PU w1 pb (.slice oM ms.length cM) (some ⟨gF,0,none⟩) cF z.length l y (wr.drewN nq)):=HS.o.quiet ((aa.refl _ _).drewN nq);generalize wr.drewN nq=W at *;go_wp2_with fail;go_roundg (z.length-(i+1))
        case measure=>omega
        case rel=>exact⟨i+1,y,by go_num,by omega,Ur.o,PW.o,Gd.o,rfl⟩
      ·obtain rfl:k=0:=by omega
       have PW:ae (ib ug.nm y (i+1)):=Ji.o.abq _;go_upto_region 13 with fail;go_quiet (fail)
       try simp only[Exit.then]
       have Gd:ae (PU w1 pb (.slice oM ms.length cM) (some ⟨gF,0,none⟩) cF z.length l y (wr.drewN nq)):=HS.o.quiet ((aa.refl _ _).drewN nq);generalize wr.drewN nq=W at *;go_wp2_with fail;go_roundg (z.length-(i+1))
       case measure=>omega
       case rel=>exact⟨i+1,y,by go_num,by omega,Ur.o,PW.o,Gd.o,rfl⟩
    ·have HRZ:ae (ib ug.nm y y.length):=λp q hp hq h1 h2=>HRI.o p q hp hq h1 (by have:=HS.o.len;omega);go_wp2_with fail;go_end0;have hS:=HS.o;refine⟨rfl,l,y,Ct.o,HRM.o,Ur.o,HRZ.o,⟨hS.prog,hS.maps,?_,?_⟩,?_⟩
     ·rw[bt,hS.len];exact hS.rows
     ·intro j h1 h2;have hj:j<y.length:=by simpa using h1
      have:=hS.each y[j] (ba hj)
      simpa using this
     ·exact(adB.o.mono (λ_ _ e=>.inl e)).trans (hS.md.mono (λ_ _ e=>.inr e))
section
variable {w0 w w' : World} {pb sb : Nat} {vM v' : Value} {ms : List bz}
theorem yI.aiJ{S:Nat->Prop}{fr:List (eX×dF)}{a a':eX}{hh wV:dF}{g n cp:Nat}(h:yI w0 pb vM (.slice (some ⟨g,0,none⟩) n cp) ms (fr++[(a,hh)]) w)(m:aa S w w')(hS:∀k,S k->k=g\/∃u∈hh.vals,u.ownBlock=some k)(hrows:Sl w' 57 8 (.slice (some ⟨g,0,none⟩) n cp) (fr++[(a',wV)]).length ((fr++[(a',wV)]).flatMap ja)) (hlast:FA w' (a',wV))(Et:∀z∈wV.vals,z∈hh.vals\/(∀k,z.ownBlock=some k->(∃u∈hh.vals,u.ownBlock=some k)\/w.heap.size<=k)) (hd:XD wV) (hw:w0.heap.size<=w.heap.size):yI w0 pb vM (.slice (some ⟨g,0,none⟩) n cp) ms (fr++[(a',wV)]) w':=by
 have hl:(a,hh)∈fr++[(a,hh)]:=by simp
 have jc:=h.each _ hl;obtain⟨B,hb0,hb1,hb2,_⟩:=h.bd fr (a,hh) rfl;have hown:(Value.slice (some ⟨g,0,none⟩) n cp).ownBlock=some g:=rfl
 have hp:¬S pb:=λe=>by
  rcases hS pb e with e |⟨u,hu,e⟩
  ·exact h.rows.az h.prog (by decide) (by rw[hown,e])
  ·exact jc.az h.prog (by decide) (by decide) (by decide) u hu e
 have hm:∀k,vM.ownBlock=some k->¬S k:=λk hk e=>by
  rcases hS k e with e |⟨u,hu,e⟩
  ·exact h.maps.apart h.rows (by decide) hk (by rw[hown,e])
  ·exact jc.apart h.maps (by decide) (by decide) (by decide) u hu k e hk
 have hfr:∀x∈fr,FA w' x:=λx hx=>(h.each x (by simp[hx])).ah m (λz hz k hk e=>by
  rcases hS k e with e |⟨u,hu,e⟩
  ·exact(h.each x (by simp[hx])).apart h.rows (by decide) (by decide) (by decide) z hz k hk (by rw[hown,e])
  ·have h1:=hb1 x hx z hz k hk;have h2:=hb2 u hu k e;omega)
 refine⟨h.prog.ah m hp,h.maps.ah m hm,hrows,λx hx=>?_,h.lo,h.zY,h.vG,λx hx z hz k hk=>?_,λfr' y e=>?_⟩
 ·rcases List.mem_append.1 hx with hx|hx
  ·exact hfr x hx
  ·rw[List.mem_singleton.1 hx];exact hlast
 ·rcases List.mem_append.1 hx with hx|hx
  ·exact h.CE x (by simp[hx]) z hz k hk
  ·rw[List.mem_singleton.1 hx]at hz;rcases Et z hz with h1|h1
   ·exact h.CE _ hl z h1 k hk
   ·rcases h1 k hk with⟨u,hu,e⟩|e
    ·exact h.CE _ hl u hu k e
    ·omega
 ·obtain⟨e1,e2⟩:=List.append_inj' e rfl;have e2:(a',wV)=y:=by simpa using e2
  subst e1 e2;refine⟨B,ar hb0 m.size,hb1,λz hz k hk=>?_,hd⟩;rcases Et z hz with h1|h1
  ·exact hb2 z h1 k hk
  ·rcases h1 k hk with⟨u,hu,e⟩|e
   ·exact hb2 u hu k e
   ·omega
theorem yI.lab{fr:List (eX×dF)}{a:eX}{hh:dF}{g n cp:Nat}{w1 w2 w3:tW}{JO QS:Value}{nm:tBA}(hn:n=fr.length+1)(h:yI w0 pb vM (.slice (some ⟨g,0,none⟩) n cp) ms (fr++[(a,hh)]) w)(s1:Sl w1 9 1 JO (a.o.lab.length+1) (Db (a.o.lab.map (·.1))++[.string nm])) (m1:aa (λk=>hh.vB.ownBlock=some k) w w1) (l1:∀k,JO.ownBlock=some k->hh.vB.ownBlock=some k\/w.heap.size<=k)(m2:aa af (w1.setCell ⟨g,fr.length*8+4,none⟩ JO) w2)(s3:Sl w3 3 1 QS (a.o.lab.length+1) (jf (a.o.lab.map (·.2))++[.int .i64 (a.f.slots:Int)])) (m3:aa (λk=>hh.vP.ownBlock=some k) w2 w3) (l3:∀k,QS.ownBlock=some k->hh.vP.ownBlock=some k\/w2.heap.size<=k) (hw:w0.heap.size<=w.heap.size):yI w0 pb vM (.slice (some ⟨g,0,none⟩) n cp) ms (fr++[(({a with o:={a.o with lab:=a.o.lab++[(nm,(a.f.slots:Int))]}}:eX),({hh with vB:=JO,vP:=QS}:dF))]) (w3.setCell ⟨g,fr.length*8+5,none⟩ QS):=by
 have hl:(a,hh)∈fr++[(a,hh)]:=by simp
 have jc:=h.each _ hl;obtain⟨B,hb0,hb1,hb2,hD⟩:=h.bd fr (a,hh) rfl;have hown:(Value.slice (some ⟨g,0,none⟩) n cp).ownBlock=some g:=rfl;have hlen:(fr++[(a,hh)]).length=n:=by simp[hn]
 have mg1:aa (Only g) w1 (w1.setCell ⟨g,fr.length*8+4,none⟩ JO):=(aa.refl _ _).bP _ _;have mg3:aa (Only g) w3 (w3.setCell ⟨g,fr.length*8+5,none⟩ QS):=(aa.refl _ _).bP _ _;have r0:=h.rows;rw[hlen]at r0;have r1:Sl w1 57 8 (.slice (some ⟨g,0,none⟩) n cp) n ((fr++[(a,hh)]).flatMap ja):=r0.ah m1 (λk hk e=>jc.ro.sb.apart r0 (by decide) e hk);have r2:=(r1.setAt (fr.length*8+4) JO (by omega)).ah m2 (λ_ _=>id);have hk1:fr.length<(fr++[(a,hh)]).length:=by simp
 rw[dO ja 8 vU (fr++[(a,hh)]) fr.length 4 hk1 (by omega) JO (a,({hh with vB:=JO}:dF)) (by simp[ja,jM])]at r2;have e1:(fr++[(a,hh)]).set fr.length (a,({hh with vB:=JO}:dF))=fr++[(a,({hh with vB:=JO}:dF))]:=by simp
 rw[e1]at r2;have sp2:Sl w2 3 1 hh.vP a.o.lab.length (jf (a.o.lab.map (·.2))):=((jc.ro.sp.ah m1 (λk hk e=>jc.ro.sp.apart jc.ro.sb (by decide) hk e)).ah mg1 (λk hk e=>(jc.ro.sp.ah m1 (λk hk e=>jc.ro.sp.apart jc.ro.sb (by decide) hk e)).apart r1 (by decide) hk (by rw[hown];exact congrArg some (show g=k from e.symm)))).ah m2 (λ_ _=>id);have r3:Sl w3 57 8 (.slice (some ⟨g,0,none⟩) n cp) n ((fr++[(a,({hh with vB:=JO}:dF))]).flatMap ja):=r2.ah m3 (λk hk e=>sp2.apart r2 (by decide) e hk);have r4:=r3.setAt (fr.length*8+5) QS (by omega);have hk2:fr.length<(fr++[(a,({hh with vB:=JO}:dF))]).length:=by simp
 rw[dO ja 8 vU (fr++[(a,({hh with vB:=JO}:dF))]) fr.length 5 hk2 (by omega) QS (({a with o:={a.o with lab:=a.o.lab++[(nm,(a.f.slots:Int))]}}:eX),({hh with vB:=JO,vP:=QS}:dF)) (by simp[ja,jM])]at r4;have e2:(fr++[(a,({hh with vB:=JO}:dF))]).set fr.length (({a with o:={a.o with lab:=a.o.lab++[(nm,(a.f.slots:Int))]}}:eX),({hh with vB:=JO,vP:=QS}:dF))=fr++[(({a with o:={a.o with lab:=a.o.lab++[(nm,(a.f.slots:Int))]}}:eX),({hh with vB:=JO,vP:=QS}:dF))]:=by simp
 rw[e2]at r4;have keep:∀{t:TypeId} {size c:Nat} {u:Value} {xs:List Value},Sl w t size u c xs->(∀k,u.ownBlock=some k->¬hh.vB.ownBlock=some k)->(∀k,u.ownBlock=some k->¬hh.vP.ownBlock=some k)->t≠57->Sl (w3.setCell ⟨g,fr.length*8+5,none⟩ QS) t size u c xs:=λs hB hP ht=>by have k1:=s.ah m1 hB;have k2:=(k1.ah mg1 (λk hk e=>k1.apart r1 ht hk (by rw[hown];exact congrArg some (show g=k from e.symm)))).ah m2 (λ_ _=>id);have k3:=k2.ah m3 hP;exact k3.ah mg3 (λk hk e=>k3.apart r3 ht hk (by rw[hown];exact congrArg some (show g=k from e.symm)))
 have b2:=(s1.ah mg1 (λk hk e=>s1.apart r1 (by decide) hk (by rw[hown];exact congrArg some (show g=k from e.symm)))).ah m2 (λ_ _=>id);have b3:=b2.ah m3 (λk hk e=>b2.apart sp2 (by decide) hk e);have b4:=b3.ah mg3 (λk hk e=>b3.apart r3 (by decide) hk (by rw[hown];exact congrArg some (show g=k from e.symm)));have p4:=s3.ah mg3 (λk hk e=>s3.apart r3 (by decide) hk (by rw[hown];exact congrArg some (show g=k from e.symm)));have hsz:w.heap.size<=w2.heap.size:=ar m1.size (ar mg1.size m2.size)
 have ae4:aa (λk=>k=g\/∃u∈hh.vals,u.ownBlock=some k) w (w3.setCell ⟨g,fr.length*8+5,none⟩ QS) :=
  ((((m1.mono (λ_ _ e=>.inr ⟨hh.vB,by simp[dF.vals],e⟩)).trans (mg1.mono (λ_ _ e=>.inl e))).trans m2.of_nil).trans (m3.mono (λ_ _ e=>.inr ⟨hh.vP,by simp[dF.vals],e⟩))).trans (mg3.mono (λ_ _ e=>.inl e))
 refine h.aiJ ae4 (λk e=>e) ?_ ⟨⟨?_,?_,?_,?_⟩,?_,jc.ln⟩ (λz hz=>?_) ⟨λk hk e=>?_,λk hk e=>?_,λk hk e=>?_⟩ hw
 ·have e3:(fr++[(({a with o:={a.o with lab:=a.o.lab++[(nm,(a.f.slots:Int))]}}:eX),({hh with vB:=JO,vP:=QS}:dF))]).length=n:=by simp[hn]
  rw[e3];exact r4
 ·exact keep jc.ro.sl (λk hk e=>jc.ro.sl.apart jc.ro.sb (by decide) hk e) (λk hk e=>jc.ro.sl.apart jc.ro.sp (by decide) hk e) (by decide)
 ·exact keep jc.ro.sa (λk hk e=>jc.ro.sa.apart jc.ro.sb (by decide) hk e) (λk hk e=>hD.1 k hk e) (by decide)
 ·show Sl _ 9 1 JO (a.o.lab++[(nm,(a.f.slots:Int))]).length (Db ((a.o.lab++[(nm,(a.f.slots:Int))]).map (·.1)))
  have e:Db ((a.o.lab++[(nm,(a.f.slots:Int))]).map (·.1))=Db (a.o.lab.map (·.1))++[.string nm]:=by simp[Db]
  rw[e,ao];exact b4
 ·show Sl _ 3 1 QS (a.o.lab++[(nm,(a.f.slots:Int))]).length (jf ((a.o.lab++[(nm,(a.f.slots:Int))]).map (·.2)))
  have e:jf ((a.o.lab++[(nm,(a.f.slots:Int))]).map (·.2))=jf (a.o.lab.map (·.2))++[.int .i64 (a.f.slots:Int)]:=by simp[jf]
  rw[e,ao];exact p4
 ·exact keep jc.sn (λk hk e=>jc.sn.apart jc.ro.sb (by decide) hk e) (λk hk e=>hD.2.2 k e hk) (by decide)
 ·simp only[dF.vals,b9,bj,or_false]at hz;rcases hz with rfl|rfl|rfl|rfl|rfl
  ·exact .inl (by simp[dF.vals])
  ·exact .inl (by simp[dF.vals])
  ·exact .inr (λk hk=>(l1 k hk).elim (λe=>.inl ⟨hh.vB,by simp[dF.vals],e⟩) .inr)
  ·exact .inr (λk hk=>(l3 k hk).elim (λe=>.inl ⟨hh.vP,by simp[dF.vals],e⟩) (λe=>.inr (ar hsz e)))
  ·exact .inl (by simp[dF.vals])
 ·rcases l3 k e with e|e
  ·exact hD.1 k hk e
  ·have:=jc.ro.sa.lt k hk;omega
 ·exact hD.2.1 k hk e
 ·rcases l3 k hk with e2|e2
  ·exact hD.2.2 k e2 e
  ·have:=jc.sn.lt k e;omega
end
theorem JP(s:tBA)(k:Nat)(h:k<s.size):ahS s (s.size-k) k=if((s[k]'h).toNat:Int)=10 then k else ahS s (s.size-(k+1)) (k+1):=by
 obtain⟨g,hg⟩:∃g,s.size-k=g+1:=⟨s.size-k-1,by omega⟩
 rw[hg,ahS];have hb:iV s k=((s[k]'h).toNat:Int):=by unfold iV;rw[dif_pos h]
 rw[hb,show s.size-(k+1)=g by omega];by_cases h10:((s[k]'h).toNat:Int)=10
 ·rw[iP9 (.inl h10),iP9 h10]
 ·rw[iN9 (λe=>e.elim h10 (λe=>by omega)),iN9 h10]
theorem LQ(s:tBA):ahS s (s.size-s.size) s.size=s.size:=by rw[Nat.sub_self];rfl
theorem Ev(s:tBA):∀(f k:Nat),k<=s.size->f=s.size-k->k<=ahS s f k/\ahS s f k<=s.size
 |0,k,h,_=>⟨an _,h⟩
 |f+1,k,h,hf=>by
  rw[ahS];split
  ·exact⟨an _,h⟩
  ·rename_i hn
   have hk:¬s.size<=k:=λe=>hn (.inr e);obtain⟨h1,h2⟩:=Ev s f (k+1) (by omega) (by omega);exact⟨by omega,h2⟩
theorem DK.Ew(p:DK)(x:aj):(p.other x).2.kind=x.kind/\(p.other x).2.i.word=x.i.word:=by unfold DK.other;split<;>exact⟨rfl,rfl⟩
theorem DK.aa7(p:DK)(x:aj):(p.jump x).2.kind=x.kind/\(p.jump x).2.i.word=x.i.word:=by
 unfold DK.jump;split
 ·exact⟨rfl,rfl⟩
 ·split<;>exact⟨rfl,rfl⟩
theorem DK.Ci(p:DK)(x:aj):(p.brackets x).2.2.kind=x.kind/\(p.brackets x).2.2.i.word=x.i.word:=DK.aa7 _ _
theorem LU(s:tBA):(fM s).size<=s.size:=by
 unfold fM;split
 ·rw[ByteArray.size_extract];omega
 ·exact an _
theorem DK.acv(p:DK)(x:aj)(word:tBA):(p.ins x word).2.kind=x.kind/\(p.ins x word).2.i.word.size<=word.size:=by
 unfold DK.ins;split
 ·unfold DK.qt;split
  ·exact⟨rfl,LU word⟩
  ·obtain⟨h1,h2⟩:=DK.Ew (p.fF.2.take 44).2 {x.base word with i:={(x.base word).i with d:=p.fF.1}};exact⟨h1,by show((DK.other _ _).2.i.word).size<=_;rw[h2];exact LU word⟩
 split
 ·unfold DK.Fa;split
  ·exact⟨rfl,an _⟩
  ·obtain⟨h1,h2⟩:=DK.Ew (p.fF.2.take 44).2 {x.word word with i:={(x.word word).i with d:=p.fF.1}};exact⟨h1,by show((DK.other _ _).2.i.word).size<=_;rw[h2];exact an _⟩
 split
 ·obtain⟨h1,h2⟩:=DK.Ci (p.fF.2.take 44).2 {x.word word with i:={(x.word word).i with d:=p.fF.1}};exact⟨h1,by show((DK.brackets _ _).2.2.i.word).size<=_;rw[h2];exact an _⟩
 split
 ·obtain⟨h1,h2⟩:=DK.Ci p (x.word word);obtain⟨h3,h4⟩:=DK.Ew ((p.brackets (x.word word)).2.1.take 44).2 {(p.brackets (x.word word)).2.2 with i:={(p.brackets (x.word word)).2.2.i with d:=(p.brackets (x.word word)).1}};exact⟨h3.trans h1,by show((DK.other _ _).2.i.word).size<=_;rw[h4];show((DK.brackets _ _).2.2.i.word).size<=_;rw[h2];exact an _⟩
 split
 ·unfold DK.KL DK.wide;split
  ·exact⟨rfl,an _⟩
  ·exact⟨rfl,an _⟩
 split
 ·exact⟨rfl,an _⟩
 split
 ·exact⟨rfl,an _⟩
 split
 ·exact⟨rfl,an _⟩
 ·exact⟨rfl,an _⟩
theorem LV(t:tBA):((ahO t).x.kind=109->(ahO t).ns.length=3)/\(ahO t).x.i.word.size<=t.size:=by
 unfold ahO;cases hc:ahP t t.size 0 false []with
 |none=>exact⟨λh=>absurd h (by decide),bh _⟩
 |some ts =>
  cases ts with
  |nil=>exact⟨λh=>absurd h (by decide),bh _⟩
  |cons a ts =>
   have hsz:=Aa t _ _ _ _ _ hc (λx h=>(by cases h));show((jK (a::ts)).x.kind=109->(jK (a::ts)).ns.length=3)/\(jK (a::ts)).x.i.word.size<=t.size
   have hw:((DK.mk (a::ts) false).take 110).1.s.size<=t.size:=by
    unfold DK.take;split
    ·exact bh _
    ·split
     ·rename_i x r e _
      exact hsz x (by rw[show a::ts=x::r from e];simp)
     ·exact bh _
   unfold jK;simp only;split
   ·exact⟨λh=>absurd (show(58:Int)=109 from h) (by decide),bh _⟩
   split
   ·exact⟨λ_=>rfl,bh _⟩
   split
   ·exact⟨λh=>absurd (show(102:Int)=109 from h) (by decide),bh _⟩
   ·obtain⟨h1,h2⟩:=DK.acv ((DK.mk (a::ts) false).take 110).2 {kind:=105} ((DK.mk (a::ts) false).take 110).1.s;refine⟨λh=>?_,ar h2 hw⟩;rw[show((((DK.mk (a::ts) false).take 110).2.ins {kind:=105} ((DK.mk (a::ts) false).take 110).1.s).2.kind)=105 from h1]at h;exact absurd h (by decide)
structure AS(a:uB)(ms:List bz)(xs:List (eX×dF))(s:j9)(slots:Nat)(n:Nat):Prop where
 ems:a.ms=ms
 XG:a.fs=xs.map (·.1)
 esn:a.sn=s
 esl:a.slots=slots
 bm:ms.length<=n
 bf:xs.length<=n
 bs:slots<=2*n
 ok:∀x∈xs,x.1.qC.length=x.1.o.ls.length/\x.1.o.ats.length=x.1.o.ls.length/\x.1.o.ls.length<=n/\x.1.o.lab.length<=n/\x.1.f.slots<=2*n/\∀i∈x.1.o.ls,i.word.size<=1000000
theorem AS.more{a:uB}{ms:List bz}{xs:List (eX×dF)}{s:j9}{sl n n':Nat}(h:AS a ms xs s sl n)(hn:n<=n'):AS a ms xs s sl n' :=
 ⟨h.ems,h.XG,h.esn,h.esl,ar h.bm hn,ar h.bf hn,ar h.bs (by omega),λx hx=>by obtain⟨h1,h2,h3,h4,h5,h6⟩:=h.ok x hx;exact⟨h1,h2,by omega,by omega,by omega,h6⟩⟩
theorem Hl(l:List eX)(x:eX)(g:eX->eX):uC (l++[x]) g=l++[g x]:=by simp[uC]
theorem QT{xs:List (eX×dF)}(h:0<xs.length):∃fr y,xs=fr++[y]:=by
 rcases List.eq_nil_or_concat xs with e |⟨l,b,e⟩
 ·rw[e]at h;exact absurd h (by decide)
 ·exact⟨l,b,by rw[e,List.concat_eq_append]⟩
theorem SW.tH{w0 w:tW}{pb sb:Nat}{vM:Value}{ms:List bz}{xs fr:List (eX×dF)}{y:eX×dF}{s:j9}{oF:Option Addr}{cF:Nat}(h:SW w0 pb sb vM (.slice oF xs.length cF) ms xs s w)(hx:xs=fr++[y]):∃g,oF=some ⟨g,0,none⟩/\(∀c,c<8->w.cell? ⟨g,(xs.length-1)*8+c,none⟩=(ja y)[c]?)/\FA w y:=by
 have hl:xs.length=fr.length+1:=by rw[hx];simp
 obtain⟨g,hg,hrow⟩:=h.da.row rfl (xs.length-1) (by omega);refine⟨g,hg,λc hc=>?_,h.da.each y (by rw[hx];simp)⟩;rw[hrow w (aa.refl _ _) c hc];have e:xs[xs.length-1]'(by omega)=y:=by subst hx;simp
 rw[e]
theorem PX(s:tBA)(k n:Nat)(a:uB)(hk:k<=s.size)(hn:n<=k):ahT s (s.size+1-n) k n a=match jX a (ahO (s.extract k (ahS s (s.size-k) k))) (n+1:Nat)with
  |none=>.inr (n+1)
  |some a'=>ahT s (s.size+1-(n+1)) (ahS s (s.size-k) k+1) (n+1) a':=by
 obtain⟨g,hg⟩:∃g,s.size+1-n=g+1:=⟨s.size-n,by omega⟩
 rw[hg,ahT,iP9 hk,show s.size+1-(n+1)=g by omega];rfl
theorem TN(s:tBA)(k n:Nat)(a:uB)(hk:¬k<=s.size):ahT s (s.size+1-n) k n a=.inl a:=by
 cases hg:s.size+1-n with
 |zero=>rfl
 |succ g=>rw[ahT,iN9 hk]
def ahY(w:tW)(s:tBA)(e:Ending)(w':tW):Prop :=
 aa af w w'/\match JB s with
  |.inr (c,l)=>e=.returned (.tuple #[.pointer none,.int .i64 c,.int .i64 l])
  |.inl a=>∃(pb:Nat) (vM vF:Value) (xs:List (eX×dF)) (ms':List bz) (z':List ug),e=.returned (.tuple #[.pointer (some ⟨pb,0,none⟩),.int .i64 0,.int .i64 0])/\a.fs=xs.map (·.1)/\ms'.Perm a.ms/\ib (·.name) ms' ms'.length/\z'.Perm (xs.map (λx:eX×dF=>(((x.1.f,x.2),x.1.o):ug)))/\ib ug.nm z' z'.length/\Pr w' pb vM vF ms' (z'.map (·.1)) (z'.map (·.2))
theorem TP(x:aj)(v:Value)(ln:Int)(s:j9):({x with vl:=v}:aj).ranged ln s=({(x.ranged ln s).1 with vl:=v},(x.ranged ln s).2):=by obtain⟨kind,name,vl,i,n,j,hn,hj⟩:=x;cases hj<;>cases hn<;>rfl
theorem Cj(x:aj)(ln:Int)(s:j9):(x.ranged ln s).1.i.word=x.i.word:=by obtain⟨kind,name,vl,i,n,j,hn,hj⟩:=x;cases hj<;>cases hn<;>rfl
section
variable {w0 w w' : World} {pb sb g nx cp : Nat} {vM v' : Value} {ms : List bz} {fr : List (eX × dF)} {a : eX} {hh : dF} {s t : j9}
theorem SW.two{X:Nat}{cs:tAV}{vF:Value}{xs:List (eX×dF)}(h:SW w0 pb sb vM vF ms xs s w)(hx:aq w X cs 47)(k:Sn w' sb t)(m:aa (AB X sb) w w'):SW w0 pb sb vM vF ms xs t w':=by
 refine⟨h.da.ah m (λe=>?_) (λi hi e=>?_) (λi hi e=>?_) (λx hx' u hu i hi e=>?_),k⟩
 ·rcases e with e|e
  ·exact h.da.prog.apart hx (by decide) e
  ·exact h.da.prog.apart h.sn (by decide) e
 ·rcases e with e|e
  ·exact h.da.maps.az hx (by decide) (hi.trans (congrArg some e))
  ·exact h.da.maps.az h.sn (by decide) (hi.trans (congrArg some e))
 ·rcases e with e|e
  ·exact h.da.rows.az hx (by decide) (hi.trans (congrArg some e))
  ·exact h.da.rows.az h.sn (by decide) (hi.trans (congrArg some e))
 ·rcases e with e|e
  ·exact(h.da.each x hx').az hx (by decide) (by decide) (by decide) u hu (hi.trans (congrArg some e))
  ·exact(h.da.each x hx').az h.sn (by decide) (by decide) (by decide) u hu (hi.trans (congrArg some e))
theorem SW.acw{y:eX×dF}(hn:nx=fr.length+1)(h:SW w0 pb sb vM (.slice (some ⟨g,0,none⟩) nx cp) ms (fr++[y]) s w):(∃wZ,aq w g wZ 57/\∀c,c<8->wZ[fr.length*8+c]?=(ja y)[c]?)/\FA w y:=by
 obtain⟨o',c',hv,hb⟩:=h.da.rows.view;have hl:(fr++[y]).length=fr.length+1:=by simp
 injection hv with e1 e2 e3;subst e1;obtain⟨g',cs,hg,hb,ht,_⟩:=hb (by omega);injection hg with hg;injection hg with hg;subst hg;refine⟨⟨cs,hb,λc hc=>?_⟩,h.da.each y (by simp)⟩;have h1:=bA hb ht (fr.length*8+c) (by omega);rw[hb.cell]at h1;rw[h1,flat_get ja 8 vU (fr++[y]) fr.length c (by simp) hc];simp
theorem SW.last{a':eX}{wV:dF}{c:Nat}{u:Value}(hn:nx=fr.length+1)(h:SW w0 pb sb vM (.slice (some ⟨g,0,none⟩) nx cp) ms (fr++[(a,hh)]) s w)(hM:aa af w0 w)(hc:c<8)(hrow:(ja (a,hh)).set c v'=ja (a',wV))(hu:u∈hh.vals\/∀k,u.ownBlock≠some k)(m:aa (λk=>u.ownBlock=some k) w w')(hlast:FA w' (a',wV))(Et:∀z∈wV.vals,z∈hh.vals\/(∀k,z.ownBlock=some k->u.ownBlock=some k\/w.heap.size<=k)) (hd:XD wV):SW w0 pb sb vM (.slice (some ⟨g,0,none⟩) nx cp) ms (fr++[(a',wV)]) s (w'.setCell ⟨g,fr.length*8+c,none⟩ v')/\aa af w0 (w'.setCell ⟨g,fr.length*8+c,none⟩ v'):=by
 have hl:(a,hh)∈fr++[(a,hh)]:=by simp
 have jc:=h.da.each _ hl;have hub:∀k,u.ownBlock=some k->u∈hh.vals:=λk hk=>hu.elim id (λh=>absurd hk (h k));have hown:(Value.slice (some ⟨g,0,none⟩) nx cp).ownBlock=some g:=rfl;have hs1:Sn w' sb s:=aq.ah h.sn m (λe=>jc.az h.sn (by decide) (by decide) (by decide) u (hub _ e) e);have hr1:=h.da.rows.ah m (λk hk e=>jc.apart h.da.rows (by decide) (by decide) (by decide) u (hub _ e) k e hk);have mg:aa (Only g) w' (w'.setCell ⟨g,fr.length*8+c,none⟩ v'):=(aa.refl _ _).bP _ _;refine⟨⟨h.da.last hn hc hrow hu m hlast Et hd hM.size,aq.ah hs1 mg (λe=>hr1.az hs1 (by decide) (by rw[hown];exact congrArg some (show g=sb from e.symm)))⟩,?_⟩;refine(hM.step m (λi hi e=>?_)).step mg (λi hi e=>?_)
 ·have:=h.da.CE _ hl u (hub _ e) i e;omega
 ·have e':i=g:=e;have:=h.da.vG g hown;omega
theorem SW.aa8(h:SW w0 pb sb vM (.slice (some ⟨g,0,none⟩) nx cp) ms (fr++[(a,hh)]) s w):XD hh:=by obtain⟨B,_,_,_,hd⟩:=h.da.bd fr (a,hh) rfl;exact hd
theorem SW.acx{i:bI}(hn:nx=fr.length+1)(h:SW w0 pb sb vM (.slice (some ⟨g,0,none⟩) nx cp) ms (fr++[(a,hh)]) s w)(hM:aa af w0 w)(sl:Sl w' 43 8 v' (a.o.ls.length+1) (mK a.o.ls++i.cells.toList))(m:aa (λk=>hh.vL.ownBlock=some k) w w')(l:∀k,v'.ownBlock=some k->hh.vL.ownBlock=some k\/w.heap.size<=k):SW w0 pb sb vM (.slice (some ⟨g,0,none⟩) nx cp) ms (fr++[(({a with o:={a.o with ls:=a.o.ls++[i]}}:eX),({hh with vL:=v'}:dF))]) s (w'.setCell ⟨g,fr.length*8+1,none⟩ v')/\aa af w0 (w'.setCell ⟨g,fr.length*8+1,none⟩ v'):=by
 have jc:=h.da.each (a,hh) (by simp);have hd:=h.aa8;refine h.last hn hM (by omega) (by simp[ja,jM]) (u:=hh.vL) (.inl (by simp[dF.vals])) m ⟨⟨?_,jc.ro.sa.ah m (λk hk e=>jc.ro.sa.apart jc.ro.sl (by decide) hk e),jc.ro.sb.ah m (λk hk e=>jc.ro.sb.apart jc.ro.sl (by decide) hk e),jc.ro.sp.ah m (λk hk e=>jc.ro.sp.apart jc.ro.sl (by decide) hk e)⟩,jc.sn.ah m (λk hk e=>jc.sn.apart jc.ro.sl (by decide) hk e),jc.ln⟩ (λz hz=>?_) hd
 ·show Sl w' 43 8 v' (a.o.ls++[i]).length (mK (a.o.ls++[i]))
  have e:mK (a.o.ls++[i])=mK a.o.ls++i.cells.toList:=by simp[mK,bI.dG]
  rw[e,ao];exact sl
 ·simp only[dF.vals,b9,bj,or_false]at hz;rcases hz with rfl|rfl|rfl|rfl|rfl
  ·exact .inr l
  ·exact .inl (by simp[dF.vals])
  ·exact .inl (by simp[dF.vals])
  ·exact .inl (by simp[dF.vals])
  ·exact .inl (by simp[dF.vals])
theorem SW.acy{i:Int}(hn:nx=fr.length+1)(h:SW w0 pb sb vM (.slice (some ⟨g,0,none⟩) nx cp) ms (fr++[(a,hh)]) s w)(hM:aa af w0 w)(sl:Sl w' 3 1 v' (a.o.ats.length+1) (jf a.o.ats++[.int .i64 i]))(m:aa (λk=>hh.vA.ownBlock=some k) w w')(l:∀k,v'.ownBlock=some k->hh.vA.ownBlock=some k\/w.heap.size<=k):SW w0 pb sb vM (.slice (some ⟨g,0,none⟩) nx cp) ms (fr++[(({a with o:={a.o with ats:=a.o.ats++[i]}}:eX),({hh with vA:=v'}:dF))]) s (w'.setCell ⟨g,fr.length*8+2,none⟩ v')/\aa af w0 (w'.setCell ⟨g,fr.length*8+2,none⟩ v'):=by
 have jc:=h.da.each (a,hh) (by simp);have hd:=h.aa8;refine h.last hn hM (by omega) (by simp[ja,jM]) (u:=hh.vA) (.inl (by simp[dF.vals])) m ⟨⟨jc.ro.sl.ah m (λk hk e=>jc.ro.sl.apart jc.ro.sa (by decide) hk e),?_,jc.ro.sb.ah m (λk hk e=>jc.ro.sb.apart jc.ro.sa (by decide) hk e),jc.ro.sp.ah m (λk hk e=>hd.1 k e hk)⟩,jc.sn.ah m (λk hk e=>hd.2.1 k e hk),jc.ln⟩ (λz hz=>?_) ⟨λk hk e=>?_,λk hk e=>?_,hd.2.2⟩
 ·show Sl w' 3 1 v' (a.o.ats++[i]).length (jf (a.o.ats++[i]))
  have e:jf (a.o.ats++[i])=jf a.o.ats++[.int .i64 i]:=by simp[jf]
  rw[e,ao];exact sl
 ·simp only[dF.vals,b9,bj,or_false]at hz;rcases hz with rfl|rfl|rfl|rfl|rfl
  ·exact .inl (by simp[dF.vals])
  ·exact .inr l
  ·exact .inl (by simp[dF.vals])
  ·exact .inl (by simp[dF.vals])
  ·exact .inl (by simp[dF.vals])
 ·rcases l k hk with e2|e2
  ·exact hd.1 k e2 e
  ·have:=jc.ro.sp.lt k e;omega
 ·rcases l k hk with e2|e2
  ·exact hd.2.1 k e2 e
  ·have:=jc.sn.lt k e;omega
theorem SW.acz{i:Int}(hn:nx=fr.length+1)(h:SW w0 pb sb vM (.slice (some ⟨g,0,none⟩) nx cp) ms (fr++[(a,hh)]) s w)(hM:aa af w0 w)(sl:Sl w' 3 1 v' (a.qC.length+1) (jf a.qC++[.int .i64 i]))(m:aa (λk=>hh.vN.ownBlock=some k) w w')(l:∀k,v'.ownBlock=some k->hh.vN.ownBlock=some k\/w.heap.size<=k):SW w0 pb sb vM (.slice (some ⟨g,0,none⟩) nx cp) ms (fr++[(({a with qC:=a.qC++[i]}:eX),({hh with vN:=v'}:dF))]) s (w'.setCell ⟨g,fr.length*8+7,none⟩ v')/\aa af w0 (w'.setCell ⟨g,fr.length*8+7,none⟩ v'):=by
 have jc:=h.da.each (a,hh) (by simp);have hd:=h.aa8;refine h.last hn hM (by omega) (by simp[ja,jM]) (u:=hh.vN) (.inl (by simp[dF.vals])) m ⟨⟨jc.ro.sl.ah m (λk hk e=>jc.ro.sl.apart jc.sn (by decide) hk e),jc.ro.sa.ah m (λk hk e=>hd.2.1 k hk e),jc.ro.sb.ah m (λk hk e=>jc.ro.sb.apart jc.sn (by decide) hk e),jc.ro.sp.ah m (λk hk e=>hd.2.2 k hk e)⟩,?_,jc.ln⟩ (λz hz=>?_) ⟨hd.1,λk hk e=>?_,λk hk e=>?_⟩
 ·show Sl w' 3 1 v' (a.qC++[i]).length (jf (a.qC++[i]))
  have e:jf (a.qC++[i])=jf a.qC++[.int .i64 i]:=by simp[jf]
  rw[e,ao];exact sl
 ·simp only[dF.vals,b9,bj,or_false]at hz;rcases hz with rfl|rfl|rfl|rfl|rfl
  ·exact .inl (by simp[dF.vals])
  ·exact .inl (by simp[dF.vals])
  ·exact .inl (by simp[dF.vals])
  ·exact .inl (by simp[dF.vals])
  ·exact .inr l
 ·rcases l k e with e2|e2
  ·exact hd.2.1 k hk e2
  ·have:=jc.ro.sa.lt k hk;omega
 ·rcases l k e with e2|e2
  ·exact hd.2.2 k hk e2
  ·have:=jc.ro.sp.lt k hk;omega
theorem SW.slots(hn:nx=fr.length+1)(h:SW w0 pb sb vM (.slice (some ⟨g,0,none⟩) nx cp) ms (fr++[(a,hh)]) s w)(hM:aa af w0 w)(q:Nat):SW w0 pb sb vM (.slice (some ⟨g,0,none⟩) nx cp) ms (fr++[(({a with f:={a.f with slots:=q}}:eX),hh)]) s (w.setCell ⟨g,fr.length*8+3,none⟩ (.int .i64 (q:Nat)))/\aa af w0 (w.setCell ⟨g,fr.length*8+3,none⟩ (.int .i64 (q:Nat))):=by have jc:=h.da.each (a,hh) (by simp);exact h.last hn hM (by omega) (by simp[ja,jM]) (u:=.bool false) (.inr (λk e=>by cases e)) (aa.refl _ _) ⟨jc.ro,jc.sn,jc.ln⟩ (λz hz=>.inl hz) h.aa8
end
structure IW(w0:tW)(pb sb X g m cp:Nat)(vM:Value)(ms:List bz)(fr:List (eX×dF))(a:eX)(hh:dF)(s:j9)(x:aj)(w:tW):Prop where
 sw:SW w0 pb sb vM (.slice (some ⟨g,0,none⟩) (m+1) cp) ms (fr++[(a,hh)]) s w
 md:aa af w0 w
 ln:aq w X x.cells 47
 lo:w0.heap.size<=X
 fm:fr.length=m
section
variable {w0 w w' : World} {pb sb X g m cp : Nat} {vM v' : Value} {ms : List bz} {fr : List (eX × dF)} {a a' : eX} {hh wV : dF} {s t : j9} {x : aj}
theorem IW.quiet(h:IW w0 pb sb X g m cp vM ms fr a hh s x w)(k:aa af w w'):IW w0 pb sb X g m cp vM ms fr a hh s x w' :=
 ⟨h.sw.quiet k,h.md.trans k,h.ln.ah k id,h.lo,h.fm⟩
theorem IW.fa(h:IW w0 pb sb X g m cp vM ms fr a hh s x w):FA w (a,hh):=h.sw.da.each _ (by simp)
theorem IW.ext(h:IW w0 pb sb X g m cp vM ms fr a hh s x w){u:Value}(hu:u∈hh.vals)(e:Ext (λk=>u.ownBlock=some k) w):(∀c,c<8->e.w.cell? ⟨g,m*8+c,none⟩=(ja (a,hh))[c]?)/\(∃wZ,aq e.w g wZ 57)/\aq e.w X x.cells 47:=by obtain⟨⟨wZ,hb,hr⟩,hf⟩:=h.sw.acw (by rw[h.fm]);have hb2:=hb.ah e.m (λk=>hf.az hb (by decide) (by decide) (by decide) u hu k);refine⟨λc hc=>?_,⟨wZ,hb2⟩,h.ln.ah e.m (λk=>hf.az h.ln (by decide) (by decide) (by decide) u hu k)⟩;rw[hb2.cell,<-h.fm];exact hr c hc
theorem IW.row(h:IW w0 pb sb X g m cp vM ms fr a hh s x w):(∀c,c<8->w.cell? ⟨g,m*8+c,none⟩=(ja (a,hh))[c]?)/\(∃wZ,aq w g wZ 57):=by obtain⟨⟨wZ,hb,hr⟩,hf⟩:=h.sw.acw (by rw[h.fm]);exact⟨λc hc=>by rw[hb.cell,<-h.fm];exact hr c hc,wZ,hb⟩
theorem IW.ins(h:IW w0 pb sb X g m cp vM ms fr a hh s x w):∀j (hj:j<x.i.cells.size),w.cell? ⟨X,3+j,none⟩=some x.i.cells[j]:=by
 intro j hj;rw[h.ln.cell];have hj8:j<8:=hj
 match j,hj8,hj with
 |0,_,_=>rfl
 |1,_,_=>rfl
 |2,_,_=>rfl
 |3,_,_=>rfl
 |4,_,_=>rfl
 |5,_,_=>rfl
 |6,_,_=>rfl
 |7,_,_=>rfl
 |n+8,h,_=>exact absurd h (by omega)
theorem IW.line(h:IW w0 pb sb X g m cp vM ms fr a hh s x w){u:Value}{c:Nat}(hu:u∈hh.vals\/∀k,u.ownBlock≠some k)(k:aa (λk=>u.ownBlock=some k) w w'):aq (w'.setCell ⟨g,m*8+c,none⟩ v') X x.cells 47:=by obtain⟨⟨wZ,hb,_⟩,hf⟩:=h.sw.acw (by rw[h.fm]);have hub:∀j,u.ownBlock=some j->u∈hh.vals:=λj hj=>hu.elim id (λh=>absurd hj (h j));have h1:=h.ln.ah k (λe=>hf.az h.ln (by decide) (by decide) (by decide) u (hub _ e) e);have h2:=hb.ah k (λe=>hf.az hb (by decide) (by decide) (by decide) u (hub _ e) e);exact h1.ah ((aa.refl (Only g) _).bP _ _) (λe=>aq.apart h2 h1 (by decide) (show g=X from e.symm))
theorem IW.acx{i:bI}(h:IW w0 pb sb X g m cp vM ms fr a hh s x w)(sl:Sl w' 43 8 v' (a.o.ls.length+1) (mK a.o.ls++i.cells.toList))(k:aa (λk=>hh.vL.ownBlock=some k) w w')(l:∀k,v'.ownBlock=some k->hh.vL.ownBlock=some k\/w.heap.size<=k):IW w0 pb sb X g m cp vM ms fr ({a with o:={a.o with ls:=a.o.ls++[i]}}:eX) ({hh with vL:=v'}:dF) s x (w'.setCell ⟨g,m*8+1,none⟩ v'):=by have h1:=h.sw.acx (by rw[h.fm]) h.md sl k l;rw[h.fm]at h1;exact⟨h1.1,h1.2,h.line (.inl (by simp[dF.vals])) k,h.lo,h.fm⟩
theorem IW.acy{i:Int}(h:IW w0 pb sb X g m cp vM ms fr a hh s x w)(sl:Sl w' 3 1 v' (a.o.ats.length+1) (jf a.o.ats++[.int .i64 i]))(k:aa (λk=>hh.vA.ownBlock=some k) w w')(l:∀k,v'.ownBlock=some k->hh.vA.ownBlock=some k\/w.heap.size<=k):IW w0 pb sb X g m cp vM ms fr ({a with o:={a.o with ats:=a.o.ats++[i]}}:eX) ({hh with vA:=v'}:dF) s x (w'.setCell ⟨g,m*8+2,none⟩ v'):=by have h1:=h.sw.acy (by rw[h.fm]) h.md sl k l;rw[h.fm]at h1;exact⟨h1.1,h1.2,h.line (.inl (by simp[dF.vals])) k,h.lo,h.fm⟩
theorem IW.acz{i:Int}(h:IW w0 pb sb X g m cp vM ms fr a hh s x w)(sl:Sl w' 3 1 v' (a.qC.length+1) (jf a.qC++[.int .i64 i]))(k:aa (λk=>hh.vN.ownBlock=some k) w w')(l:∀k,v'.ownBlock=some k->hh.vN.ownBlock=some k\/w.heap.size<=k):IW w0 pb sb X g m cp vM ms fr ({a with qC:=a.qC++[i]}:eX) ({hh with vN:=v'}:dF) s x (w'.setCell ⟨g,m*8+7,none⟩ v'):=by have h1:=h.sw.acz (by rw[h.fm]) h.md sl k l;rw[h.fm]at h1;exact⟨h1.1,h1.2,h.line (.inl (by simp[dF.vals])) k,h.lo,h.fm⟩
theorem IW.slots(h:IW w0 pb sb X g m cp vM ms fr a hh s x w)(q:Nat):IW w0 pb sb X g m cp vM ms fr ({a with f:={a.f with slots:=q}}:eX) hh s x (w.setCell ⟨g,m*8+3,none⟩ (.int .i64 (q:Nat))):=by have h1:=h.sw.slots (by rw[h.fm]) h.md q;rw[h.fm]at h1;exact⟨h1.1,h1.2,h.line (u:=.bool false) (.inr (λk e=>by cases e)) (aa.refl _ _),h.lo,h.fm⟩
end
def ae5(f:Func):Code:=((f.body.bind (qx 17)).getD .skip)
def Ex(w:tW)(pb sb n:Nat)(a:uB)(r:qN)(ln:Int)(v7:Value)(wx:tW):Prop :=
 ∃a',jX a r ln=some a'/\∃(sl':Nat) (vM' Ns:Value) (ms':List bz) (xs':List (eX×dF)) (sn':j9),v7=.int .i64 sl'/\SW w pb sb vM' Ns ms' xs' sn' wx/\aa af w wx/\AS a' ms' xs' sn' sl' (n+1)
theorem Ex.of{w:tW}{pb sb n:Nat}{a a':uB}{r:qN}{ln:Int}{v7:Value}{wx:tW}(h:jX a r ln=some a')(h2:∃(sl':Nat) (vM' Ns:Value) (ms':List bz) (xs':List (eX×dF)) (sn':j9),v7=.int .i64 sl'/\SW w pb sb vM' Ns ms' xs' sn' wx/\aa af w wx/\AS a' ms' xs' sn' sl' (n+1)):Ex w pb sb n a r ln v7 wx:=⟨a',h,h2⟩
def Ey(K:qN->Prop):Prop:=∀(w wc:tW) (pb sb X n sl cM cF:Nat) (oM oF:Option Addr) (a:uB) (ms:List bz) (xs:List (eX×dF)) (sn:j9) (r:qN) (y:aj) (vl:Value) (cs:tAV) (ln:Int)
  (_:w.heap.size=pb) (_:ae (pb<=sb)) (_:ae (pb<=X)) (_:ae (ln=((n+1:Nat):Int))) (_:n<=4000) (_:ms.length<=n) (_:xs.length<=n) (_:sl<=2*n) (_:ae (AS a ms xs sn sl n)) (_:ae (y={r.x with vl:=vl})) (_:ae (SW w pb sb (.slice oM ms.length cM) (.slice oF xs.length cF) ms xs sn wc)) (_:ae (aa af w wc)) (_:ae (Sl wc 45 3 vl r.ns.length (r.ns.flatMap aA.dG))) (_:ae (aq wc X cs 47)) (_:ae (cs=y.cells)) (_:ae (cs[1]?=some (.string r.x.name))) (_:ae (cs.size=19)) (_:ae (cs.all (·.oneCell')=true)) (_:ae (r.x.kind=109->r.ns.length=3)) (_:ae (r.x.i.word.size<=4000)) (_:ae (jX a r ln=if r.x.kind=109 then some (kg a r.x.name r.ns ln)else if r.x.kind=102 then some (rj a r.x.name ln)else if r.x.kind=58 then some (Bf a r.x.name ln)else if r.x.kind=105 then some (CA a r.x ln)else some a)) (_:ae (r.x.kind=58\/r.x.kind=105->0<xs.length)) (_:wc.cell? ⟨X,0,none⟩=some (.int .u8 r.x.kind)) (_:wc.cell? ⟨X,1,none⟩=some (.string r.x.name)) (_:wc.cell? ⟨pb,1,none⟩=some (.slice oF xs.length cF)) (_:K r)
  {u0 u1 u2 u3 u4 u9 u10 u12 u13 u14 u15 u16 u17 u18 u19 u20 u21 u22 u23 u24 u25 u26 u27 u28 u29 u30 u31 u32 u33 u34 u35 u36 u37 u38 u39 u40 u41 u42 u43 u44 u45 u46 u47 u48 u49 u50 u51 u52 u53 u54 u55 u56 u57 u58 u59 u60 u61 u62 u63 u64 u65 u66 u67 u68 u69 u70 u71 u72 u73 u74 u76 u77 u78 u79 u80 u81 u82 u83 u84 u85 u86 u87 u88 u89 u90 u91 u92 u93 u94 u95 u96 u97 u98 u99 Od Oe Og Oh Oi u105 Oj Ol Om Oo Oq Ot Ou Ov Ow Ox Oy Oz OA u119 OB OC OD OE u124 OG OH u127 OI OJ OK u131 OM OO OP OQ OT OU u138 u139 OV OW OX OY OZ O0 O6 O7 O8 O9 Pb Pc u152 Pf u154 Pg Ph Pj Pm Pn Po ae6 u162 ae7 u164 ae8 ae9 afa afb afc afd afe aff afg afh afi afj afk afl afm afo afp afq afr aft afu afv afw afx afy afz afA afB u193 u194 afC u196 afD u198 afE afF u201 afG afH afI afJ u206 afK u208 afL u210 afM afN afO afP afQ afR afS afT afU afV afW afX afY afZ af0 af1 af2 af3 af4 af5 af6 af7 adE u234 adF u236 adG adH adI adJ adK adL adM adN adO adP adQ adR adS adT adU:Value} (Q:Exit->Act->tW->Prop)
  (_:∀(v7 UA Yt Qp Uy v75 v76 v77 v78 v79 v80 Yu v82 v83 v84 v85 v86 v87 Yv v89 Yw v91 Yx v93 Yy Yz YA YB YC YD Cu Fj Fl Fm Fp v105 Fq v107 Fs v109 Fu Fv Fw Fx Fy Fz FB v117 FC FD FE FH FI FJ v124 FK FM v127 FN FO v130 v131 FP FQ FR FT FU FV v138 v139 FW v141 FX v143 FY v145 v146 FZ v148 F3 F4 F5 v152 F6 v154 F7 F8 v157 F9 v159 v160 af8 v162 af9 v164 aga agb v167 v168 agc agd v171 age v173 agf v175 agh agi agj agk agl agm v182 v183 agn agp agq agr ags agt agu agv agw v193 v194 agx v196 agy v198 agz agA v201 agB v203 agC agD v206 agE v208 agF v210 agG v212 agH agI agJ agK agL v218 agM agN agO v222 agP agQ agR v226 v227 v228 v229 agS agT v232:Value) (w':tW),Ex w pb sb n a r ln v7 w'->Q .normal ⟨#[u0,u1,u2,u3,u4,.pointer (some ⟨pb,0,none⟩),.pointer (some ⟨sb,0,none⟩),v7,.int .i64 ln,u9,u10,.pointer (some ⟨X,0,none⟩),u12,UA,Yt,Qp,Uy,u17,u18,u19,u20,u21,u22,u23,u24,u25,u26,u27,u28,u29,u30,u31,u32,u33,u34,u35,u36,u37,u38,u39,u40,u41,u42,u43,u44,u45,u46,u47,u48,u49,u50,u51,u52,u53,u54,u55,u56,u57,u58,u59,u60,u61,u62,u63,u64,u65,u66,u67,u68,u69,u70,u71,u72,u73,u74,v75,v76,v77,v78,v79,v80,Yu,v82,v83,v84,v85,v86,v87,Yv,v89,Yw,v91,Yx,v93,Yy,Yz,YA,YB,YC,YD,Cu,Fj,Fl,Fm,Fp,v105,Fq,v107,Fs,v109,Fu,Fv,Fw,Fx,Fy,Fz,FB,v117,FC,FD,FE,FH,FI,FJ,v124,FK,FM,v127,FN,FO,v130,v131,FP,FQ,FR,FT,FU,FV,v138,v139,FW,v141,FX,v143,FY,v145,v146,FZ,v148,F3,F4,F5,v152,F6,v154,F7,F8,v157,F9,v159,v160,af8,v162,af9,v164,aga,agb,v167,v168,agc,agd,v171,age,v173,agf,v175,agh,agi,agj,agk,agl,agm,v182,v183,agn,agp,agq,agr,ags,agt,agu,agv,agw,v193,v194,agx,v196,agy,v198,agz,agA,v201,agB,v203,agC,agD,v206,agE,v208,agF,v210,agG,v212,agH,agI,agJ,agK,agL,v218,agM,agN,agO,v222,agP,agQ,agR,v226,v227,v228,v229,agS,agT,v232,adE,u234,adF,u236,adG,adH,adI,adJ,adK,adL,adM,adN,adO,adP,adQ,adR,adS,adT,adU],[]⟩ w'),
  Code.wp Tryz.prog (ae5 f6) Q ⟨#[u0,u1,u2,u3,u4,.pointer (some ⟨pb,0,none⟩),.pointer (some ⟨sb,0,none⟩),.int .i64 sl,.int .i64 ln,u9,u10,.pointer (some ⟨X,0,none⟩),u12,u13,u14,u15,u16,u17,u18,u19,u20,u21,u22,u23,u24,u25,u26,u27,u28,u29,u30,u31,u32,u33,u34,u35,u36,u37,u38,u39,u40,u41,u42,u43,u44,u45,u46,u47,u48,u49,u50,u51,u52,u53,u54,u55,u56,u57,u58,u59,u60,u61,u62,u63,u64,u65,u66,u67,u68,u69,u70,u71,u72,u73,u74,.int .u8 r.x.kind,u76,u77,u78,u79,u80,u81,u82,u83,u84,u85,u86,u87,u88,u89,u90,u91,u92,u93,u94,u95,u96,u97,u98,u99,Od,Oe,Og,Oh,Oi,u105,Oj,Ol,Om,Oo,Oq,Ot,Ou,Ov,Ow,Ox,Oy,Oz,OA,u119,OB,OC,OD,OE,u124,OG,OH,u127,OI,OJ,OK,u131,OM,OO,OP,OQ,OT,OU,u138,u139,OV,OW,OX,OY,OZ,O0,O6,O7,O8,O9,Pb,Pc,u152,Pf,u154,Pg,Ph,Pj,Pm,Pn,Po,ae6,u162,ae7,u164,ae8,ae9,afa,afb,afc,afd,afe,aff,afg,afh,afi,afj,afk,afl,afm,afo,afp,afq,afr,aft,afu,afv,afw,afx,afy,afz,afA,afB,u193,u194,afC,u196,afD,u198,afE,afF,u201,afG,afH,afI,afJ,u206,afK,u208,afL,u210,afM,afN,afO,afP,afQ,afR,afS,afT,afU,afV,afW,afX,afY,afZ,af0,af1,af2,af3,af4,af5,af6,af7,adE,u234,adF,u236,adG,adH,adI,adJ,adK,adL,adM,adN,adO,adP,adQ,adR,adS,adT,adU],[]⟩ wc
theorem XH:Ey (λr=>r.x.kind=109):=by
 intro w wc pb sb X n sl cM cF oM oF a ms xs sn r y vl cs ln hpb Fe CG x8 WO Qr hbf hbs HA HY jZ fw Dh oK gR wY TQ yg QU QR HL2 gU x0 x1 p1 hx0;replace hx0:r.x.kind=109:=hx0
 iterate 246 intro _
 intro Q hgo
 let HBP:Exit->Act->tW->Prop:=bodyPost Tryz.prog f6 (λ_ _=>True)
 conv=>arg 2;whnf
 have HKD:ae (0=0):=rfl;generalize hkd:r.x.kind=kd at *;have hx:=hx0;clear hx0;have q1:(kd==109)=true:=by simpa using hx
 have Dm:ae (jX a r ln=some (kg a r.x.name r.ns ln)):=by rw[ae,HL2.o,iP9 hx]
 have JX:=QU.o hx;have HSC:ae (Calls Tryz.prog 11 #[.pointer (some ⟨pb,0,none⟩),.agg cs,.int .i64 ln,.pointer (some ⟨sb,0,none⟩)] wc λe w'=>yH wc pb sb (.slice oM ms.length cM) (.slice oF xs.length cF) ms y r.ns ln sn e w'):=by rw[ae,gR.o];exact PS pb sb _ _ ms y r.ns ln sn wc jZ.o.da.prog jZ.o.da.maps (by rw[show y.vl=vl from by rw[HY.o]];exact Dh.o) JX jZ.o.sn (by omega)
 clear hx HL2;go_upto_region 19 with fail;go_wp2_with (refine wpList_load_row rfl 47 (.tmp 11) rfl X rfl 47 cs (0,0) _ oK.o underlying47 rfl (by rw[TQ.o];kernel_rfl) ?_);refine HSC.o.mono ?_;rintro e W5 ⟨rfl,v5,hb5,hs5,acA,hm5,hl5⟩;have hyn:y.name=r.x.name:=by rw[HY.o]
 rw[hyn]at hs5 acA;clear hyn;have HD5:ae (SW w pb sb v5 (.slice oF xs.length cF) (ms++[kH r.x.name r.ns]) xs (kg a r.x.name r.ns ln).sn W5):=by refine⟨jZ.o.da.map jZ.o.sn (kH r.x.name r.ns) hb5 hs5 hm5 hl5 fw.o.size,?_⟩;have e1:(kg a r.x.name r.ns ln).sn=((ahW ln (r.ns.zip [8,16,8]) a.sn).wrong (decide (0<=ahH r.x.name (a.ms.map (·.name)))) 4 ln).wrong (decide (8<=a.ms.length)) 1 ln:=rfl;rw[e1,HA.o.esn,HA.o.ems];exact acA
 have mU:ae (aa af w W5):=fw.o.step hm5 (λi hi e=>by
  rcases e with e|e|e
  ·have:=Fe.o;omega
  ·have:=jZ.o.da.lo;omega
  ·have:=jZ.o.da.zY i e;omega)
 have HA5:ae (AS (kg a r.x.name r.ns ln) (ms++[kH r.x.name r.ns]) xs (kg a r.x.name r.ns ln).sn sl (n+1)):=by
  have h1:=AS.more HA.o (Nat.le_succ n);refine⟨?_,h1.XG,rfl,h1.esl,?_,h1.bf,h1.bs,h1.ok⟩
  ·show a.ms++_=_;rw[HA.o.ems]
  ·rw[ao];have:=HA.o.bm;simp;omega
 clear hb5 hs5 acA hm5 hl5;go_wp2_with fail;exact Ex.of Dm.o ⟨_,_,_,_,_,_,rfl,HD5.o,mU.o,HA5.o⟩
