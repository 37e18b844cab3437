import Derived.Test.YthnphhgpfedeeaaGreatDoorCR25
namespace Go.Proofs.YthnphhgpfedeeaaGreatDoor
open Go.RowKit Tryz
open Bool renaming eq_iff_iff->b9
open List renaming getElem_mem->al,append_assoc->an,drop_length->ar,mem_or_eq_of_mem_set->bh,drop_eq_getElem_cons->bj,length_drop->bt,length_set->b5,length_append->ca,length_cons->cb,take_length->cj
open Nat renaming le_trans->ab,zero_le->ao,le_refl->ba
set_option linter.all false
set_option maxRecDepth 100000
set_option maxHeartbeats 2000000
def szP(n:bC):Int:=(n.dV 9223372036854775808).getD 0
theorem Kl(w:tW)(b:Nat)(o:dY)(hA:bY w b o)(d:Int)(s:Nat)(num high jump:Int)(label name:tBA)(slot target:Nat)(hs:slot<=30000)(ht:target<=30000)(ho:o.slots<=2):Calls prog 76 #[.agg #[.pointer (some ⟨b,0,none⟩),.int .u8 d,.int .u8 s,.int .i16 jump,.int .i32 num,.int .i32 high,.string label,.string name],.int .i64 slot,.int .i64 target] w λe w'=>e=.returned (.int .i16 ((target:Int)-slot-o.slots))/\aa ae w w':=by have hA1:=hA.ag (ax.alloc (.cells #[.pointer (some ⟨b,0,none⟩),.int .u8 d,.int .u8 s,.int .i16 jump,.int .i32 num,.int .i32 high,.string label,.string name] 138));obtain⟨p1,p2,p3,p4,p5,p6,p7,p8,p9,p10,p11,yD,_⟩:=hA1.ex;have o2:=yD.cell 2;have HM:af (aa ae w (w.alloc (.cells #[.pointer (some ⟨b,0,none⟩),.int .u8 d,.int .u8 s,.int .i16 jump,.int .i32 num,.int .i32 high,.string label,.string name] 138))):=aj;clear yD hA1 hA;generalize o.slots=os at *;go_enter func76,ntmps76;go_wp2_with fail;go_ret;exact⟨rfl,HM.o⟩
theorem Xz(n slot:Nat)(q:PR):(yG n slot q).2.rest.length<=q.rest.length:=by refine ab (tu _) ?_;refine ab (xC _) ?_;exact fP q
theorem Pr{w:tW}{g n c:Nat}{bs:List Nat}{l:List PI}(h:Sl w 138 8 (.slice (some ⟨g,0,none⟩) n c) n (eu bs l))(hn:n=l.length)(k:Nat)(hk:k<l.length)(nm:tLB):Sl (w.setCell ⟨g,k*8+7,none⟩ (.string (T nm))) 138 8 (.slice (some ⟨g,0,none⟩) n c) n (eu bs (l.set k {l[k]with name:=nm})):=by
 have:=h.setAt (k*8+7) (.string (T nm)) (by omega);unfold eu at *
 rwa [lJ (λx:PI=>(x.ins bs).dU) 8 (λ_=>rfl) l k 7 hk (by omega) (.string (T nm)) {l[k]with name:=nm} rfl]at this
theorem pG.name{w:tW}{lo:Nat}{bs:List Nat}{v:Value}{fs:List aS}{vs:List Value}(h:pG w lo bs v fs vs)(i:Nat)(hi:i<fs.length)(hv:i<vs.length){g n c:Nat}(he:vs[i]=.slice (some ⟨g,0,none⟩) n c)(k:Nat)(hk:k<fs[i].code.length)(nm:tLB):pG (w.setCell ⟨g,k*8+7,none⟩ (.string (T nm))) lo bs v (fs.set i ⟨fs[i].name,fs[i].code.set k {fs[i].code[k]with name:=nm}⟩) vs:=by
 have m:aa (Only g) w (w.setCell ⟨g,k*8+7,none⟩ (.string (T nm))):=ax.aY _ _;have hs:=h.cd i hi hv;have hg:vs[i].ownBlock=some g:=by rw[he];rfl
 have hnm:(fs.set i ⟨fs[i].name,fs[i].code.set k {fs[i].code[k]with name:=nm}⟩).map (·.name)=fs.map (·.name):=by
  rw[List.map_set]
  exact List.ext_getElem (by simp) (λj h1 h2=>by
   rw[List.getElem_set];split
   ·rename_i e;subst e;simp
   ·rfl)
 refine⟨by simp[h.len],?_,λj h1 h2=>?_,λf hf x hx=>?_,h.own,h.l8,h.ne⟩
 ·rw[hnm,b5];exact h.sl.ag m (λk' hk' e=>hs.apart h.sl (by decide) hg (hk'.trans (congrArg some e)))
 ·rw[b5]at h1;by_cases e:i=j
  ·subst e;simp only[List.getElem_set_self,b5];rw[he]at hs ⊢;have hn:n=fs[i].code.length:=by obtain⟨o,cp,e1,_⟩:=hs.view;cases e1;rfl
   subst hn;exact Pr hs rfl k hk nm
  ·rw[List.getElem_set_ne e];exact(h.cd j h1 h2).ag m (λk' hk' e'=>h.ne i j hv h2 e g hg (hk'.trans (congrArg some e')))
 ·rcases bh hf with h'|h'
  ·exact h.ok f h' x hx
  ·subst h';rcases bh hx with h''|h''
   ·exact h.ok fs[i] (al hi) x h''
   ·subst h'';have:=h.ok fs[i] (al hi) fs[i].code[k] (al hk);exact⟨this.k,this.d,this.s,this.j,this.n,this.h⟩
structure zL(w0:tW)(lo b:Nat)(bs:List Nat)(q:PR)(vF:Value)(fs:List aS)(vs:List Value)(w:tW):Prop where
 rd:dM w b q
 fn:pG w lo bs vF fs vs
 md:aa (λk=>k=b\/lo<=k) w0 w
theorem zL.read{w0 w w':tW}{lo b:Nat}{bs:List Nat}{q q':PR}{vF:Value}{fs:List aS}{vs:List Value}(h:zL w0 lo b bs q vF fs vs w)(hr:dM w' b q')(m:aa (Only b) w w'):zL w0 lo b bs q' vF fs vs w' :=
 ⟨hr,h.fn.read h.rd m,h.md.trans (m.mono (λ_ _ e=>.inl e))⟩
theorem zL.quiet{w0 w w':tW}{lo b:Nat}{bs:List Nat}{q:PR}{vF:Value}{fs:List aS}{vs:List Value}(h:zL w0 lo b bs q vF fs vs w)(m:aa ae w w'):zL w0 lo b bs q vF fs vs w' :=
 ⟨ak.ag h.rd m id,h.fn.quiet m,h.md.trans (m.of_nil)⟩
theorem zL.name{w0 w:tW}{lo b:Nat}{bs:List Nat}{q:PR}{vF:Value}{fs:List aS}{vs:List Value}(h:zL w0 lo b bs q vF fs vs w)(i:Nat)(hi:i<fs.length)(hv:i<vs.length){g n c:Nat}(he:vs[i]=.slice (some ⟨g,0,none⟩) n c)(k:Nat)(hk:k<fs[i].code.length)(nm:tLB):zL w0 lo b bs q vF (fs.set i ⟨fs[i].name,fs[i].code.set k {fs[i].code[k]with name:=nm}⟩) vs (w.setCell ⟨g,k*8+7,none⟩ (.string (T nm))) :=
 ⟨ak.setOther h.rd (λe=>(h.fn.cd i hi hv).au h.rd (by decide) (by rw[he];exact congrArg some e)) _,h.fn.name i hi hv he k hk nm,h.md.set (.inl (.inr (h.fn.l8 _ (al hv) g (by rw[he];rfl)))) _⟩
theorem Ext.same{S:Nat->Prop}{w:tW}(e:Ext S w){g:Nat}(hg:g<w.heap.size)(hS:¬S g)(i:Nat):e.w.cell? ⟨g,i,none⟩=w.cell? ⟨g,i,none⟩:=by simp[World.cell?,e.m.block g hg hS]
structure fZ(w0:tW)(lo b:Nat)(bs:List Nat)(vM vF:Value)(ms:List az)(pb:Nat)(q:PR)(fs:List aS)(vs:List Value)(w:tW):Prop where
 r:zL w0 lo b bs q vF fs vs w
 m:Sl w 100 4 vM ms.length (ms.flatMap az.cells)
 p:ak w pb #[vM,vF] 90
section
variable {w0 w w' : World} {lo b : Nat} {bs : List Nat} {vM vF : Value} {ms : List az} {pb : Nat} {q q' : PR} {fs : List aS} {vs : List Value}
theorem fZ.read(h:fZ w0 lo b bs vM vF ms pb q fs vs w)(hr:dM w' b q')(m:aa (Only b) w w'):fZ w0 lo b bs vM vF ms pb q' fs vs w' :=
 ⟨h.r.read hr m,h.m.ag m (λk hk e=>h.m.au h.r.rd (by decide) (hk.trans (congrArg some e))),h.p.ag m (λe=>by have h1:=h.p;have h2:=h.r.rd;unfold dM at h2;unfold ak at h1 h2;rw[show pb=b from e,h2]at h1;cases h1)⟩
theorem fZ.quiet(h:fZ w0 lo b bs vM vF ms pb q fs vs w)(m:aa ae w w'):fZ w0 lo b bs vM vF ms pb q fs vs w' :=
 ⟨h.r.quiet m,h.m.ag m (λ_ _=>id),h.p.ag m id⟩
theorem fZ.name(h:fZ w0 lo b bs vM vF ms pb q fs vs w)(i:Nat)(hi:i<fs.length)(hv:i<vs.length){g n c:Nat}(he:vs[i]=.slice (some ⟨g,0,none⟩) n c)(k:Nat)(hk:k<fs[i].code.length)(nm:tLB):fZ w0 lo b bs vM vF ms pb q (fs.set i ⟨fs[i].name,fs[i].code.set k {fs[i].code[k]with name:=nm}⟩) vs (w.setCell ⟨g,k*8+7,none⟩ (.string (T nm))):=by
 have hs:=h.r.fn.cd i hi hv;have hg:vs[i].ownBlock=some g:=by rw[he];rfl
 exact⟨h.r.name i hi hv he k hk nm,h.m.ag ((aa.refl (Only g) w).aY _ _) (λk' hk' e=>hs.apart h.m (by decide) hg (hk'.trans (congrArg some e))),ak.setOther h.p (λe=>hs.au h.p (by decide) (hg.trans (congrArg some e))) _⟩
theorem fZ.keep(h:fZ w0 lo b bs vM vF ms pb q fs vs w){fb:Nat}{cs:tAV}(hB:ak w fb cs 96)(m:aa (Only b) w w'):ak w' fb cs 96 :=
 hB.ag m (λe=>by have h2:=h.r.rd;unfold dM at h2;unfold ak at hB h2;rw[show fb=b from e,h2]at hB;cases hB)
theorem fZ.ab9(h:fZ w0 lo b bs vM vF ms pb q fs vs w){fb:Nat}{cs:tAV}(hB:ak w fb cs 96)(i:Nat)(hi:i<fs.length)(hv:i<vs.length){g n c:Nat}(he:vs[i]=.slice (some ⟨g,0,none⟩) n c)(j:Nat)(u:Value):ak (w.setCell ⟨g,j,none⟩ u) fb cs 96 :=
 ak.setOther hB (λe=>(h.r.fn.cd i hi hv).au hB (by decide) (by rw[he];exact congrArg some e)) _
end
theorem Ps(w:tW)(b:Nat)(q:PR)(hR:dM w b q)(hl:q.rest.length<=maxLen)(wT:tW)(tv:Value)(bs:List Nat)(hT:aH 0 wT tv bs aq)(mT:aa ae wT w)(hbT:wT.heap.size<=b)(lo:Nat)(hlo:wT.heap.size<=lo)(ms:List az) (hms:ms.length<=1000) (vM:Value) (hM:Sl w 100 4 vM ms.length (ms.flatMap az.cells)) (fs:List aS) (hfs:fs.length<=256) (hcl:∀f∈fs,f.code.length<=2000) (vF:Value) (vs:List Value) (hF:pG w lo bs vF fs vs):Calls prog 156 #[.pointer (some ⟨b,0,none⟩),.agg #[vM,vF]] w λe w'=>e=.returned (.tuple #[])/\zL w lo b bs (Dn ms fs q).2 vF (Dn ms fs q).1 vs w':=by
 obtain⟨oF,cF,rfl,_⟩:=hF.sl.view;obtain⟨oM,cM,rfl,_⟩:=hM.view;have VW:Dn ms fs q=((refsF ms [] fs ((iY q).1:Int) (iY q).2).1,aI (decide ((refsF ms [] fs ((iY q).1:Int) (iY q).2).2.1=0)) (refsF ms [] fs ((iY q).1:Int) (iY q).2).2.2):=rfl;have H2:af (∀w,dM w b q->Calls prog 170 #[.pointer (some ⟨b,0,none⟩)] w λe w'=>e=.returned (.int .i64 ((iY q).1:Nat))/\dM w' b (iY q).2/\aa (Only b) w w'):=λw h=>EU b q w h hl;have hl1:=ab (xC q) hl;have ht:=Tt q;rw[VW];clear VW;generalize iY q=r1 at *;obtain⟨lf,q1⟩:=r1;simp only at *;generalize hres:refsF ms [] fs (lf:Int) q1=res;have aav:=ai hres;clear hres
 have hB0:fZ w lo b bs (.slice oM ms.length cM) (.slice oF fs.length cF) ms w.heap.size q fs vs (w.alloc (.cells #[.slice oM ms.length cM,.slice oF fs.length cF] 90)) :=
  ⟨⟨ak.alloc hR _,hF.quiet aj,aj⟩,hM.ag ((aa.refl ae _).alloc _) (λ_ _=>id),ak.new _ _ _⟩
 have HB0:=ai hB0;have HT:=ai hT;have Cv:=ai mT;have HCl:=ai hcl;clear hT mT hB0 hM hF hR hcl;go_enter func156,ntmps156;go_wp2_with fail;refine(H2.o _ HB0.o.r.rd).mono ?_;rintro e w1 ⟨rfl,h1,m1⟩;have HB1:=ai (HB0.o.read h1 m1);clear h1 m1 HB0;have c1:w1.cell? ⟨w.heap.size,1,none⟩=some (.slice oF fs.length cF):=HB1.o.p.cell 1;go_upto_block 0 with fail;go_cut [4] (λleft wx=>∃(l:Int) (r:PR) (done:List aS),left=.int .i64 l/\-1000000<=l/\l<=1000000/\fZ w lo b bs (.slice oM ms.length cM) (.slice oF fs.length cF) ms w.heap.size r done vs wx/\res=(done,l,r))
 case first =>
  go_wp2_with fail;go_loopg [4,15] fs.length (λg left i wl=>∃(n:Nat) (l:Int) (r:PR) (done:List aS),i=.int .i64 n/\left=.int .i64 l/\n<=fs.length/\g=fs.length-n/\-(n*2000:Int)<=l/\l<=65536/\done.length=n/\fZ w lo b bs (.slice oM ms.length cM) (.slice oF fs.length cF) ms w.heap.size r (done++fs.drop n) vs wl/\refsF ms done (fs.drop n) l r=res/\r.rest.length<=maxLen)
  case atStart=>exact⟨0,lf,q1,[],rfl,rfl,ao _,rfl,by omega,by omega,rfl,HB1.o,aav.o,hl1⟩
  case round =>
   obtain⟨n,l,r,done,rfl,rfl,hn,rfl,hl0,hl2,hdn,hB,hE,hrl⟩:=hrel;have HB:=ai hB;have HE:=ai hE;clear hB hE HB1 c1 aav;by_cases hlt:n<fs.length
   ·obtain⟨f,hdr,hfx⟩:∃f,fs.drop n=f::fs.drop (n+1)/\f=fs[n]:=⟨_,bj hlt,rfl⟩
    have hfl:f.code.length<=2000:=by rw[hfx];exact HCl.o _ (al hlt)
    rw[hdr]at HB HE;subst hdn;have HDr:=ai hdr;clear hdr hfx;obtain⟨zu,bO⟩:=f;simp only at hfl;have Js:af (refsF ms (done++[⟨zu,(refsI ms done.length 0 bO l r []).1⟩]) (fs.drop (done.length+1)) (refsI ms done.length 0 bO l r []).2.1 (refsI ms done.length 0 bO l r []).2.2=res):=HE.o;clear HE;generalize hri:refsI ms done.length 0 bO l r []=ri at *;have HRi:=ai hri;clear hri;have XA:(done++⟨zu,bO⟩::fs.drop (done.length+1)).length=fs.length:=by simp;omega
    have hvl:done.length<vs.length:=by rw[HB.o.r.fn.len,XA];exact hlt
    have hgm:=λh'=>mX done (fs.drop (done.length+1)) (⟨zu,bO⟩:aS) h';have pF:=HB.o.r.fn.cd done.length (by rw[XA];exact hlt) hvl;rw[hgm]at pF;obtain⟨oC,cC,hvn,_⟩:=pF.view;have HVn:=ai hvn;have hsF:=HB.o.r.fn.sl;rw[XA]at hsF;obtain⟨oF',cF',eF,f5⟩:=hsF.view;cases eF;obtain⟨gF,csF,rfl,Pg,htF,_⟩:=f5 (by omega);have aaw:∀j,j<2->wr.cell? ⟨gF,done.length*2+j,none⟩=(mF (zu,.slice oC bO.length cC))[j]?:=λj hj=>by rw[Pg.cell,<-Array.getElem?_toList,<-List.getElem?_take_of_lt (show done.length*2+j<fs.length*2 by omega),htF,flat_get mF 2 (λ_=>rfl) _ done.length j (by simp;omega) hj,EW _ _ _ (by simp) hvl,hvn];simp
    have y0:wr.cell? ⟨gF,done.length*2,none⟩=some (.string (T zu)):=aaw 0 (by omega);have y1:wr.cell? ⟨gF,done.length*2+1,none⟩=some (.slice oC bO.length cC):=aaw 1 (by omega);have HBn:af (fZ w lo b bs (.slice oM ms.length cM) (.slice (some ⟨gF,0,none⟩) fs.length cF) ms w.heap.size r (done++⟨zu,bO⟩::fs.drop (done.length+1)) vs (wr.alloc (.cells #[.string (T zu),.slice oC bO.length cC] 96))):=HB.o.quiet aj;have HFb:af (ak (wr.alloc (.cells #[.string (T zu),.slice oC bO.length cC] 96)) wr.heap.size #[.string (T zu),.slice oC bO.length cC] 96):=ak.new _ _ _;have XB:af (∀a:List PI,(done++⟨zu,a⟩::fs.drop (done.length+1)).length=fs.length):=λa=>by simp;omega
    have HVl:=ai hvl;clear aaw Pg htF f5 hsF hvn pF hgm XA HB;obtain⟨wO,hwO⟩:∃wO,wO=wr:=⟨_,rfl⟩
    subst hwO;go_wp2_with fail;go_loopg [4,7,23] bO.length (λg left slot i wl=>∃(k sl:Nat) (l':Int) (r':PR) (acc:List PI),i=.int .i64 k/\slot=.int .i64 sl/\left=.int .i64 l'/\k<=bO.length/\g=bO.length-k/\sl<=2*k/\-(done.length*2000+k:Int)<=l'/\l'<=65536/\acc.length=k/\fZ w lo b bs (.slice oM ms.length cM) (.slice (some ⟨gF,0,none⟩) fs.length cF) ms w.heap.size r' (done++⟨zu,acc++bO.drop k⟩::fs.drop (done.length+1)) vs wl/\ak wl wO.heap.size #[.string (T zu),.slice oC bO.length cC] 96/\refsI ms done.length sl (bO.drop k) l' r' acc=ri/\r'.rest.length<=maxLen)
    case atStart=>exact⟨0,0,l,r,[],rfl,rfl,rfl,ao _,rfl,ao _,by omega,by omega,rfl,HBn.o,HFb.o,HRi.o,hrl⟩
    case round =>
     obtain⟨k,sl,l',r',acc,rfl,rfl,rfl,hk,rfl,hsl,hb1,hb2,hak,hB2,aca,acb,hrl2⟩:=hrel;have HB2:=ai hB2;have Tz:=ai aca;have TA:=ai acb;clear hB2 aca acb HBn HFb HRi;have z1:wr.cell? ⟨wO.heap.size,1,none⟩=some (.slice oC bO.length cC):=Tz.o.cell 1;by_cases hkl:k<bO.length
     ·obtain⟨x,hdx⟩:∃x,bO.drop k=x::bO.drop (k+1):=⟨_,bj hkl⟩
      rw[hdx]at HB2 TA;subst hak
      have pF:Sl wr 138 8 (.slice oC bO.length cC) bO.length (eu bs (acc++x::bO.drop (acc.length+1))):=by
       have:=HB2.o.r.fn.cd done.length (by rw[XB.o];exact hlt) hvl;rw[mX,HVn.o]at this;simp only[ca,cb,bt]at this
       rwa [show acc.length+(bO.length-(acc.length+1)+1)=bO.length by omega]at this
      have hxl:acc.length<(acc++x::bO.drop (acc.length+1)).length:=by simp
      obtain⟨g,rfl,hg,x0,x1,x2,x3,x4,x5,x6,x7⟩:=kZ pF (by simp;omega) rfl acc.length hxl;rw[mX]at x0 x1 x2 x3 x4 x5 x7;have hxo:eU x:=HB2.o.r.fn.ok ⟨zu,acc++x::bO.drop (acc.length+1)⟩ (by simp) x (by simp);have HMw:af (∀w',aa (λk=>k=b\/lo<=k) w w'->aa ae wT w'):=λw' m=>Cv.o.step m (λi hi e=>by rcases e with e|e<;>omega);have HTx:af (∀w',aa (λk=>k=b\/lo<=k) w w'->bY w' (bs[x.k]?.getD 0) x.o):=λw' m=>jI (HT.o.ag (HMw.o w' m)) x hxo.k;have hxs:=hxo.slots;have hB3:=λnm w' (h:fZ w lo b bs (.slice oM ms.length cM) (.slice (some ⟨gF,0,none⟩) fs.length cF) ms w.heap.size nm (done++⟨zu,acc++x::bO.drop (acc.length+1)⟩::fs.drop (done.length+1)) vs w')=>h;have HRf:af (x.aO=if x.s=1 then x.o.aO else 0):=rfl;generalize hbx:bs[x.k]?.getD 0=bx at *;have Bd:af (∀w' nm,aa (λk=>k=b\/lo<=k) w w'->Calls prog 84 #[.agg #[.pointer (some ⟨bx,0,none⟩),.int .u8 x.d,.int .u8 x.s,.int .i16 x.jump,.int .i32 x.num,.int .i32 x.high,.string ByteArray.empty,.string (T nm)]] w' λe w''=>e=.returned (.int .i64 (x.aO:Nat))/\aa ae w' w''):=λw' nm m=>by rw[HRf.o];exact jJ w' bx x.o (HTx.o w' m) x.d x.s x.num x.high x.jump _ _
      have vJ:af (∀(r2:PR) (y:PI) (w':tW),fZ w lo b bs (.slice oM ms.length cM) (.slice (some ⟨gF,0,none⟩) fs.length cF) ms w.heap.size r2 (done++⟨zu,acc++y::bO.drop (acc.length+1)⟩::fs.drop (done.length+1)) vs w'->(w'.cell? ⟨g,acc.length*8,none⟩=some (.pointer (some ⟨bs[y.k]?.getD 0,0,none⟩))/\w'.cell? ⟨g,acc.length*8+1,none⟩=some (.int .u8 y.d)/\w'.cell? ⟨g,acc.length*8+2,none⟩=some (.int .u8 y.s)/\w'.cell? ⟨g,acc.length*8+3,none⟩=some (.int .i16 y.jump)/\w'.cell? ⟨g,acc.length*8+4,none⟩=some (.int .i32 y.num)/\w'.cell? ⟨g,acc.length*8+5,none⟩=some (.int .i32 y.high)/\w'.cell? ⟨g,acc.length*8+6,none⟩=some (.string ByteArray.empty)/\w'.cell? ⟨g,acc.length*8+7,none⟩=some (.string (T y.name)))/\w'.frozen? ⟨g,acc.length*8+7,none⟩=false):=λr2 y w' hb=>by
       have pF:Sl w' 138 8 (.slice (some ⟨g,0,none⟩) bO.length cC) bO.length (eu bs (acc++y::bO.drop (acc.length+1))):=by
        have:=hb.r.fn.cd done.length (by rw[XB.o];exact hlt) hvl;rw[mX,HVn.o]at this;simp only[ca,cb,bt]at this
        rwa [show acc.length+(bO.length-(acc.length+1)+1)=bO.length by omega]at this
       obtain⟨g',e',hg,x0,x1,x2,x3,x4,x5,x6,x7⟩:=kZ pF (by simp;omega) rfl acc.length (by simp);cases e';rw[mX]at x0 x1 x2 x3 x4 x5 x7;obtain⟨cs,hbk,_⟩:=pF.blk;exact⟨⟨x0,x1,x2,x3,x4,x5,x6,x7⟩,hbk.frozen _⟩
      clear pF hxl hB3 hdx;have HXo:=ai hxo;clear hxo;by_cases hr0:x.aO=0
      ·have Pv:af (refsI ms done.length (sl+x.o.slots) (bO.drop (acc.length+1)) l' r' (acc++[x])=ri):=by have:=TA.o;rw[refsI,iN9 (by simpa using hr0)]at this;exact this
       have h00:((x.aO:Nat):Int)=0:=by omega
       go_wp2_with fail;refine(Bd.o _ _ HB2.o.r.md).mono ?_;rintro e w3 ⟨rfl,m3⟩;have HB3:af _:=HB2.o.quiet m3;obtain⟨⟨p0,_,_,_,_,_,_,_⟩,_⟩:=vJ.o _ _ _ HB3.o;rw[hbx]at p0;obtain⟨p2,_,_,_⟩:=(HTx.o _ HB3.o.r.md).cells;have XC:=ai (Tz.o.ag m3 id);clear m3 HB2 Tz x0 x1 x2 x3 x4 x5 x6 x7 z1;generalize x.o.slots=os at *;go_wp2_with fail;go_roundg (bO.length-(acc.length+1))
       case measure=>omega
       case rel=>exact⟨acc.length+1,sl+os,l',r',acc++[x],by go_num,by go_num,rfl,by omega,rfl,by omega,by omega,by omega,by simp,by have:=HB3.o;rwa [an],XC.o,Pv.o,hrl2⟩
      ·have h00:¬((x.aO:Nat):Int)=0:=by omega
       have Pv:af (refsI ms done.length (sl+x.o.slots) (bO.drop (acc.length+1)) (l'-1) (aI (decide (x.aO≠2)||iq ms (yG done.length sl r').1) (aI (decide (x.num=0)) (yG done.length sl r').2)) (acc++[{x with name:=(yG done.length sl r').1}])=ri):=by have:=TA.o;rw[refsI,iP9 (by simpa using hr0)]at this;exact this
       have NN:af (∀w,dM w b r'->Calls prog 264 #[.pointer (some ⟨b,0,none⟩),.int .i64 done.length,.int .i64 sl] w λe w'=>e=.returned (.string (T (yG done.length sl r').1))/\dM w' b (yG done.length sl r').2/\aa (Only b) w w'):=λw h=>Xx b r' done.length sl w h hrl2;have hrl3:=ab (Xz done.length sl r') hrl2;generalize yG done.length sl r'=rp at *;obtain⟨nm,r3⟩:=rp;simp only at Pv NN hrl3;go_wp2_with fail;refine(Bd.o _ _ HB2.o.r.md).mono ?_;rintro e w3 ⟨rfl,m3⟩;have HB3:af _:=HB2.o.quiet m3;have XC:=ai (Tz.o.ag m3 id);clear m3 HB2 Tz x0 x1 x2 x3 x4 x5 x6 x7 z1;go_wp2_with fail;refine(NN.o _ HB3.o.r.rd).mono ?_;rintro e w4 ⟨rfl,h4,m4⟩;have gq:=ai (HB3.o.read h4 m4);have acd:af (ak w4 wO.heap.size #[.string (T zu),.slice (some ⟨g,0,none⟩) bO.length cC] 96):=HB3.o.keep XC.o m4;clear m4 h4 HB3 XC;obtain⟨⟨_,_,_,_,_,_,_,p7⟩,fr7⟩:=vJ.o _ _ _ gq.o;have HFi:af (done.length<(done++⟨zu,acc++x::bO.drop (acc.length+1)⟩::fs.drop (done.length+1)).length):=by rw[af,XB.o];exact hlt
       have O9:=gq.o.name done.length HFi.o hvl HVn.o acc.length (by rw[mX];simp) nm;have iT:af (fZ w lo b bs (.slice oM ms.length cM) (.slice (some ⟨gF,0,none⟩) fs.length cF) ms w.heap.size r3 (done++⟨zu,acc++{x with name:=nm}::bO.drop (acc.length+1)⟩::fs.drop (done.length+1)) vs (w4.setCell ⟨g,acc.length*8+7,none⟩ (.string (T nm)))):=by simp only[mX,set_mid]at O9;simp only[an,List.cons_append,List.nil_append]at O9;exact O9
       have ace:af (ak (w4.setCell ⟨g,acc.length*8+7,none⟩ (.string (T nm))) wO.heap.size #[.string (T zu),.slice (some ⟨g,0,none⟩) bO.length cC] 96):=gq.o.ab9 acd.o done.length HFi.o hvl HVn.o _ _;clear O9;obtain⟨⟨p0,p1,p2,p3,p4,p5,p6,p7'⟩,_⟩:=vJ.o _ _ _ iT.o;simp only at p0 p1 p2 p3 p4 p5 p7';rw[hbx]at p0;have hdn:decide (x.num=0)=(x.num==0):=by rw[b9];simp
       go_wp2_with fail;refine(bI b _ _ _ iT.o.r.rd).mono ?_;rintro e w6 ⟨rfl,h6,m6⟩;rw[<-hdn]at h6;have uM:=ai (iT.o.read h6 m6);have aax:af (ak w6 wO.heap.size #[.string (T zu),.slice (some ⟨g,0,none⟩) bO.length cC] 96):=iT.o.keep ace.o m6;clear h6 m6 iT ace p0 p1 p2 p3 p4 p5 p6 p7 p7' fr7 acd gq;obtain⟨⟨p0,p1,p2,p3,p4,p5,p6,p7⟩,_⟩:=vJ.o _ _ _ uM.o;simp only at p0 p1 p2 p3 p4 p5 p7;rw[hbx]at p0;have ab3:af (x.num=x.num):=rfl;have acf:(aI (decide (x.num=0)) r3).rest.length<=maxLen:=hrl3;generalize aI (decide (x.num=0)) r3=r4 at *;have hps:w6.cell? ⟨w.heap.size,0,none⟩=some (.slice oM ms.length cM):=uM.o.p.cell 0;go_wp2_with fail;obtain⟨hgb,ZJ⟩:g≠b/\g<w6.heap.size:=by have:=uM.o.r.fn.cd done.length (by rw[XB.o];exact hlt) hvl;rw[HVn.o]at this;exact⟨λe=>this.au uM.o.r.rd (by decide) (congrArg some e),this.lt g rfl⟩
       have hpb:w.heap.size≠b:=λe=>by have h1:=uM.o.p;have h2:=uM.o.r.rd;unfold dM at h2;unfold ak at h1 h2;rw[e,h2]at h1;cases h1
       have E0:∀e:Ext (Only b) w6,e.w.cell? ⟨g,acc.length*8,none⟩=some (.pointer (some ⟨bx,0,none⟩)):=λe=>(e.same ZJ hgb _).trans p0;have E1:∀e:Ext (Only b) w6,e.w.cell? ⟨g,acc.length*8+1,none⟩=some (.int .u8 x.d):=λe=>(e.same ZJ hgb _).trans p1;have E2:∀e:Ext (Only b) w6,e.w.cell? ⟨g,acc.length*8+2,none⟩=some (.int .u8 x.s):=λe=>(e.same ZJ hgb _).trans p2;have E3:∀e:Ext (Only b) w6,e.w.cell? ⟨g,acc.length*8+3,none⟩=some (.int .i16 x.jump):=λe=>(e.same ZJ hgb _).trans p3;have E4:∀e:Ext (Only b) w6,e.w.cell? ⟨g,acc.length*8+4,none⟩=some (.int .i32 x.num):=λe=>(e.same ZJ hgb _).trans p4;have E5:∀e:Ext (Only b) w6,e.w.cell? ⟨g,acc.length*8+5,none⟩=some (.int .i32 x.high):=λe=>(e.same ZJ hgb _).trans p5;have E6:∀e:Ext (Only b) w6,e.w.cell? ⟨g,acc.length*8+6,none⟩=some (.string ByteArray.empty):=λe=>(e.same ZJ hgb _).trans p6;have E7:∀e:Ext (Only b) w6,e.w.cell? ⟨g,acc.length*8+7,none⟩=some (.string (T nm)):=λe=>(e.same ZJ hgb _).trans p7;have Ep:∀e:Ext (Only b) w6,e.w.cell? ⟨w.heap.size,0,none⟩=some (.slice oM ms.length cM):=λe=>(e.same uM.o.p.lt hpb _).trans hps;have ne2:=Ext.ne (Only b) w6;have HOs:af (∀w',aa (λk=>k=b\/lo<=k) w w'->w'.cell? ⟨bx,2,none⟩=some (.int .i64 x.o.slots)):=λw' m=>(HTx.o w' m).cells.1;have Tu:af (fZ w lo b bs (.slice oM ms.length cM) (.slice (some ⟨gF,0,none⟩) fs.length cF) ms w.heap.size r4 (done++⟨zu,acc++{x with name:=nm}::bO.drop (acc.length+1)⟩::fs.drop (done.length+1)) vs w6.drew):=uM.o.quiet aJ;have XD:af (ak w6.drew wO.heap.size #[.string (T zu),.slice (some ⟨g,0,none⟩) bO.length cC] 96):=aax.o.ag (aa.refl ae _).drew id;clear p0 p1 p2 p3 p4 p5 p6 p7 hps HTx hpb
       have V4:af (∀w',fZ w lo b bs (.slice oM ms.length cM) (.slice (some ⟨gF,0,none⟩) fs.length cF) ms w.heap.size (aI (decide (x.aO≠2)||iq ms nm) r4) (done++⟨zu,acc++{x with name:=nm}::bO.drop (acc.length+1)⟩::fs.drop (done.length+1)) vs w'->w'.cell? ⟨g,acc.length*8,none⟩=some (.pointer (some ⟨bx,0,none⟩))):=λw' hb=>by
        have:=(vJ.o _ _ _ hb).1.1;simp only at this
        rwa [hbx]at this
       clear HRf;generalize x.aO=rf at *;generalize x.o.slots=os at *;generalize hmb:iq ms nm=mb at *;have HMb:=ai hmb;clear hmb;by_cases hr2:rf=2
       ·subst hr2;have ae1:af _:=Pv.o;simp only[Int.cast_ofNat_Int]at Bd;refine bE [4,6,13,15] (λw'=>∃e:Ext (Only b) w6,w'=e.w) (by kernel_rfl) (by kernel_rfl) (by kernel_rfl) ⟨⟨_,aJ⟩,rfl⟩ ?_
        iterate 2 (refine aA rfl rfl rfl ?_;intro K hK;go_big_quiet_op;go_big_quiet_on)
        refine bV rfl rfl _ ⟨g,acc.length*8,none⟩ rfl rfl ?_;simp only[Act.put,sA9,sB9,sC9]
        iterate 1 (refine aA rfl rfl rfl ?_;intro K hK;go_big_quiet_op;go_big_quiet_on)
        refine aF rfl rfl ?_;intro K hK;go_big_op;refine(Bd.o _ _ Tu.o.r.md).mono ?_;rintro e w7 ⟨rfl,m7⟩;have TB:=ai (Tu.o.quiet m7);have aay:=ai (XD.o.ag m7 id);have X7:af (aa (Only b) w6 w7):=aJ.trans m7.of_nil;refine hK _ _ rfl ⟨⟨_,X7.o⟩,rfl⟩ ?_;clear hK K m7
        iterate 1 (refine aA rfl rfl rfl ?_;intro K hK;go_big_quiet_op;go_big_quiet_on)
        refine aF rfl rfl ?_;intro K hK;go_big_op;refine hK _ _ rfl ⟨⟨_,X7.o⟩,rfl⟩ ?_;clear hK K
        iterate 3 (refine nR rfl rfl rfl ?_;intro K hK;go_big_quiet_op;go_big_quiet_on)
        refine ny rfl rfl _ ⟨g,acc.length*8,none⟩ rfl rfl ?_;simp only[Act.put,sA9,sB9,sC9]
        iterate 2 (refine nR rfl rfl rfl ?_;intro K hK;go_big_quiet_op;go_big_quiet_on)
        refine zY rfl rfl ?_;intro K hK;go_big_op;refine(Kg _ ms hms _ TB.o.m nm).mono ?_;rintro e w8 ⟨rfl,m8⟩;rw[HMb.o];have Kh:=ai (TB.o.quiet m8);have aef:=ai (aay.o.ag m8 id);have X8:=ai (X7.o.trans m8.of_nil);have TC:af ((decide (2≠2)||mb)=mb):=by simp[af]
        refine hK _ _ rfl ⟨⟨_,X8.o⟩,rfl⟩ ?_;clear hK K m8;refine wE rfl rfl _ _ _ _ rfl rfl ?_;simp only[Act.put,sA9,sB9,sC9,Bool.false_eq_true,if_false];refine aF rfl rfl ?_;intro K hK;go_big_op;refine(bI b _ _ _ Kh.o.r.rd).mono ?_;rintro e w9 ⟨rfl,h9,m9⟩;have Wd:af (fZ w lo b bs (.slice oM ms.length cM) (.slice (some ⟨gF,0,none⟩) fs.length cF) ms w.heap.size (aI (decide (2≠2)||mb) r4) (done++⟨zu,acc++{x with name:=nm}::bO.drop (acc.length+1)⟩::fs.drop (done.length+1)) vs w9):=by rw[af,TC.o];exact Kh.o.read h9 m9
        have aaz:af (ak w9 wO.heap.size #[.string (T zu),.slice (some ⟨g,0,none⟩) bO.length cC] 96):=Kh.o.keep aef.o m9;refine hK _ _ rfl ⟨⟨_,X8.o.trans m9⟩,rfl⟩ ?_;clear hK K m9 h9;refine bX ?_;simp only[Exit.then];have hC0:=V4.o _ Wd.o;have hC2:=HOs.o _ Wd.o.r.md;clear V4 HOs Bd E0 E1 E2 E3 E4 E5 E6 E7 Ep vJ Tu XD uM aax;go_wp2_with fail;go_roundg (bO.length-(acc.length+1))
        case measure=>omega
        case rel=>exact⟨acc.length+1,sl+os,l'-1,aI (decide (2≠2)||mb) r4,acc++[{x with name:=nm}],by go_num,by go_num,by go_num,by omega,rfl,by omega,by omega,by omega,by simp,by have:=Wd.o;rwa [an],aaz.o,Pv.o,acf⟩
       ·have hr3:((rf:Int)==2)=false:=by simp;omega
        have hr4:((rf:Int) != 2)=true:=by simp;omega
        refine bE [4,6,13,15] (λw'=>∃e:Ext (Only b) w6,w'=e.w) (by kernel_rfl) (by kernel_rfl) (by kernel_rfl) ⟨⟨_,aJ⟩,rfl⟩ ?_
        iterate 2 (refine aA rfl rfl rfl ?_;intro K hK;go_big_quiet_op;go_big_quiet_on)
        refine bV rfl rfl _ ⟨g,acc.length*8,none⟩ rfl rfl ?_;simp only[Act.put,sA9,sB9,sC9]
        iterate 1 (refine aA rfl rfl rfl ?_;intro K hK;go_big_quiet_op;go_big_quiet_on)
        refine aF rfl rfl ?_;intro K hK;go_big_op;refine(Bd.o _ _ Tu.o.r.md).mono ?_;rintro e w7 ⟨rfl,m7⟩;have TB:=ai (Tu.o.quiet m7);have aay:=ai (XD.o.ag m7 id);have X7:af (aa (Only b) w6 w7):=aJ.trans m7.of_nil;refine hK _ _ rfl ⟨⟨_,X7.o⟩,rfl⟩ ?_;clear hK K m7
        iterate 1 (refine aA rfl rfl rfl ?_;intro K hK;go_big_quiet_op;go_big_quiet_on)
        refine aF rfl rfl ?_;intro K hK;go_big_op;refine hK _ _ rfl ⟨⟨_,X7.o⟩,rfl⟩ ?_;clear hK K
        iterate 7 (refine F7 rfl ?_;simp only[Act.put,sA9,sB9,sC9])
        refine wE rfl rfl _ _ _ _ rfl rfl ?_;simp only[Act.put,sA9,sB9,sC9,if_true];refine aF rfl rfl ?_;intro K hK;have TC:af ((decide (rf≠2)||mb)=true):=by simp[af,hr2]
        go_big_op;refine(bI b _ _ _ TB.o.r.rd).mono ?_;rintro e w9 ⟨rfl,h9,m9⟩;have Wd:af (fZ w lo b bs (.slice oM ms.length cM) (.slice (some ⟨gF,0,none⟩) fs.length cF) ms w.heap.size (aI (decide (rf≠2)||mb) r4) (done++⟨zu,acc++{x with name:=nm}::bO.drop (acc.length+1)⟩::fs.drop (done.length+1)) vs w9):=by rw[af,TC.o];exact TB.o.read h9 m9
        have aaz:af (ak w9 wO.heap.size #[.string (T zu),.slice (some ⟨g,0,none⟩) bO.length cC] 96):=TB.o.keep aay.o m9;refine hK _ _ rfl ⟨⟨_,X7.o.trans m9⟩,rfl⟩ ?_;clear hK K m9 h9;refine bX ?_;simp only[Exit.then];have hC0:=V4.o _ Wd.o;have hC2:=HOs.o _ Wd.o.r.md;clear V4 HOs Bd E0 E1 E2 E3 E4 E5 E6 E7 Ep vJ Tu XD uM aax;go_wp2_with fail;go_roundg (bO.length-(acc.length+1))
        case measure=>omega
        case rel=>exact⟨acc.length+1,sl+os,l'-1,aI (decide (rf≠2)||mb) r4,acc++[{x with name:=nm}],by go_num,by go_num,by go_num,by omega,rfl,by omega,by omega,by omega,by simp,by have:=Wd.o;rwa [an],aaz.o,Pv.o,acf⟩
     ·obtain rfl:k=bO.length:=by omega
      have Km:af (ri=(acc,l',r')):=by rw[af,<-TA.o,ar];rfl
      have HB3:af (fZ w lo b bs (.slice oM ms.length cM) (.slice (some ⟨gF,0,none⟩) fs.length cF) ms w.heap.size r' ((done++[⟨zu,acc⟩])++fs.drop (done.length+1)) vs wr):=by have:=HB2.o;rw[ar,List.append_nil]at this;rw[af,an];exact this
      rw[Km.o]at Js;simp only at Js;clear Km TA HB2;go_wp2_with fail;go_roundg (fs.length-(done.length+1))
      case measure=>omega
      case rel=>exact⟨done.length+1,l',r',done++[⟨zu,acc⟩],by go_num,rfl,by omega,rfl,by omega,by omega,by simp,HB3.o,Js.o,hrl2⟩
   ·obtain rfl:n=fs.length:=by omega
    have HE2:af (res=(done,l,r)):=by rw[af,<-HE.o,ar];rfl
    have HB2:af (fZ w lo b bs (.slice oM ms.length cM) (.slice oF fs.length cF) ms w.heap.size r done vs wr):=by have:=HB.o;rwa [ar,List.append_nil]at this
    go_wp2_with fail;go_meet;exact⟨l,r,done,rfl,by omega,by omega,HB2.o,HE2.o⟩
 case rest =>
 obtain⟨l,r,done,rfl,hl3,hl4,hB,rfl⟩:=hcut;have HB:af _:=hB;clear hB HB1 c1 aav;have hd:decide (l=0)=(l==0):=by rw[b9];simp
 go_wp2_with fail;refine(bI b _ _ _ HB.o.r.rd).mono ?_;rintro e w4 ⟨rfl,h4,m4⟩;have gq:af _:=HB.o.read h4 m4;clear h4 m4;go_wp2_with fail;go_end0;exact⟨rfl,gq.o.r⟩
theorem yO:∀(k:Nat) (q:PR) (last:tLB) (acc:List az),(mapsP k q last acc).1.length=acc.length+k
 |0,_,_,_=>rfl
 |k+1,q,last,acc=>by rw[mapsP,yO k];simp;omega
theorem Be:∀(k:Nat) (q:PR) (last:tLB) (all:Nat) (acc:List fH),(headsP k q last all acc).1.length=acc.length+k
 |0,_,_,_,_=>rfl
 |k+1,q,last,all,acc=>by rw[headsP,Be k];simp;omega
theorem Bf:∀(k:Nat) (q:PR) (last:tLB) (all:Nat) (acc:List fH),all=GV acc->(headsP k q last all acc).2.1=GV (headsP k q last all acc).1
 |0,_,_,_,_,h=>h
 |k+1,q,last,all,acc,h=>by rw[headsP];exact Bf k _ _ _ _ (by rw[h];simp[GV])
theorem Bg:∀(k:Nat) (q:PR) (last:tLB) (all:Nat) (acc:List fH),(headsP k q last all acc).2.2.rest.length<=q.rest.length
 |0,_,_,_,_=>ba _
 |k+1,q,last,all,acc=>by
  rw[headsP];refine ab (Bg k _ _ _ _) ?_;show(iY (dA q).2).2.rest.length<=_
  exact ab (xC _) (tu _)
theorem Dw(sl:tLB):∀(f p:Nat) (acc:List PI) (st:List Bool) (l:List PI) (st':List Bool),codeL sl (sl.length/8) f p acc st=some (l,st')->acc.length<=p->p<=sl.length/8->l.length<=sl.length/8
 |0,p,acc,st,l,st',h,_,_=>by cases h
 |f+1,p,acc,st,l,st',h,ha,hp=>by
  rw[codeL]at h;split at h
  ·rename_i hlt
   split at h
   ·cases h
   ·rename_i x hx
    have h1:=GS _ _ hx;have h2:=(L6 _ _ hx).slots;rw[bt]at h1;exact Dw sl f _ _ _ l st' h (by simp;omega) (by omega)
  ·cases h;omega
theorem Pw(sl:tLB)(q:PR):(codeP sl q).1.length<=sl.length/8:=by
 unfold codeP;split
 ·simp
 ·rename_i l st h
  exact Dw sl _ 0 [] _ l st h (ba _) (ao _)
theorem Kn(sl:tLB)(q:PR):(codeP sl q).2.rest=q.rest:=by unfold codeP;split<;>rfl
theorem Bh:∀(hs:List fH) (r:PR) (acc:List aS) (B:Nat),(∀h∈hs,h.slots<=B)->(∀f∈acc,f.code.length<=B)->(codesP hs r acc).1.length=acc.length+hs.length/\(∀f∈(codesP hs r acc).1,f.code.length<=B)/\(codesP hs r acc).2.rest.length<=r.rest.length
 |[],r,acc,B,_,ha=>⟨rfl,ha,ba _⟩
 |h::hs,r,acc,B,hh,ha=>by
  rw[codesP];have h1:=Pw (bU (h.slots*8) r).1 (bU (h.slots*8) r).2;have h2:=L7 (h.slots*8) r;have h3:=hh h (by simp)
  obtain⟨e1,e2,e3⟩:=Bh hs (codeP (bU (h.slots*8) r).1 (bU (h.slots*8) r).2).2 (acc++[⟨h.name,(codeP (bU (h.slots*8) r).1 (bU (h.slots*8) r).2).1⟩]) B (λx hx=>hh x (List.mem_cons_of_mem _ hx)) (λf hf=>by
   rcases List.mem_append.1 hf with h'|h'
   ·exact ha f h'
   ·rw[List.mem_singleton.1 h'];show(codeP (bU (h.slots*8) r).1 (bU (h.slots*8) r).2).1.length<=B
    omega)
  refine⟨by rw[e1];simp;omega,e2,ab e3 ?_⟩;rw[Kn];exact take_len _ _
theorem Bi(q:PR):(jH q).1.length<=256/\(∀f∈(jH q).1,f.code.length<=2000)/\(jH q).2.rest.length<=q.rest.length:=by
 have h1:=yN q;have hl:=fP q;have hfp:jH q=if(aI (decide ((headsP (oneP q).1 (aI (decide ((oneP q).1<=16)) (oneP q).2) [] 0 []).2.1<=200)) (headsP (oneP q).1 (aI (decide ((oneP q).1<=16)) (oneP q).2) [] 0 []).2.2).bad then([],aI (decide ((headsP (oneP q).1 (aI (decide ((oneP q).1<=16)) (oneP q).2) [] 0 []).2.1<=200)) (headsP (oneP q).1 (aI (decide ((oneP q).1<=16)) (oneP q).2) [] 0 []).2.2)else codesP (headsP (oneP q).1 (aI (decide ((oneP q).1<=16)) (oneP q).2) [] 0 []).1 (aI (decide ((headsP (oneP q).1 (aI (decide ((oneP q).1<=16)) (oneP q).2) [] 0 []).2.1<=200)) (headsP (oneP q).1 (aI (decide ((oneP q).1<=16)) (oneP q).2) [] 0 []).2.2) []:=rfl;rw[hfp];have e1:=Be (oneP q).1 (aI (decide ((oneP q).1<=16)) (oneP q).2) [] 0 [];have e2:=Bf (oneP q).1 (aI (decide ((oneP q).1<=16)) (oneP q).2) [] 0 [] rfl;have e3:(headsP (oneP q).1 (aI (decide ((oneP q).1<=16)) (oneP q).2) [] 0 []).2.2.rest.length<=q.rest.length:=ab (Bg _ _ _ _ _) hl;generalize headsP (oneP q).1 (aI (decide ((oneP q).1<=16)) (oneP q).2) [] 0 []=hd at *;split
 ·exact⟨by simp,λf hf=>(by cases hf),e3⟩
 ·rename_i hb
  have ht:hd.2.1<=200:=by simp[aI]at hb;omega
  obtain⟨k1,k2,k3⟩:=Bh hd.1 (aI (decide (hd.2.1<=200)) hd.2.2) [] 200 (λh hm=>by have:=GW _ h hm;omega) (λf hf=>(by cases hf));simp only[List.length_nil]at e1 k1;exact⟨by omega,λf hf=>ab (k2 f hf) (by omega),ab k3 e3⟩
def mZ(w:tW)(bs:List Nat)(d:List az×List aS×PR)(e:Ending)(w':tW):Prop :=
 ∃vM vF vs,e=.returned (.tuple #[.agg #[vM,vF],.bool (!d.2.2.bad)])/\aa ae w w'/\(∃o n c o' n' c',vM=.slice o n c/\vF=.slice o' n' c') /\
  (d.2.2.bad=false->Sl w' 100 4 vM d.1.length (d.1.flatMap az.cells)/\pG w' w.heap.size bs vF d.2.1 vs)
structure zM(w:tW)(q:PR)(w':tW):Prop where
 rd:dM w' (w.heap.size+1) q
 rs:ak w' w.heap.size #[.slice none 0 0,.slice none 0 0] 90
 md:aa ae w w'
theorem zM.read{w w' w'':tW}{q q':PR}(h:zM w q w')(hr:dM w'' (w.heap.size+1) q')(m:aa (Only (w.heap.size+1)) w' w''):zM w q' w'' :=
 ⟨hr,h.rs.ag m (show ¬w.heap.size=w.heap.size+1 by omega),h.md.step m (λi hi e=>by have:i=w.heap.size+1:=e;omega)⟩
theorem CK{s:tLB}{a1:tLB}{q1 q2:PR}{n3:Nat}{q3 q4:PR}{ms:List az}{q5:PR}{fs:List aS}{q6:PR}{gs:List aS}{q7:PR}(h1:bU 4 ⟨s,false⟩=(a1,q1))(h2:aI (a1==[83,80,79,76]) q1=q2)(h3:oneP q2=(n3,q3))(h4:aI (decide (n3=1)) q3=q4)(h5:mapsP (oneP q4).1 (aI (decide ((oneP q4).1<=8)) (oneP q4).2) [] []=(ms,q5))(h6:jH q5=(fs,q6))(h7:Dn ms fs q6=(gs,q7)):fq s=(ms,gs,aI (q7.rest==[]) q7):=by unfold fq;simp only[h1,h2,h3,h4,h5,h6,h7]
theorem pG.lower{w:tW}{lo lo':Nat}{bs:List Nat}{v:Value}{fs:List aS}{vs:List Value}(h:pG w lo bs v fs vs)(hl:lo'<=lo):pG w lo' bs v fs vs :=
 ⟨h.len,h.sl,h.cd,h.ok,λk hk=>ab hl (h.own k hk),λu hu k hk=>ab hl (h.l8 u hu k hk),h.ne⟩
theorem Ko(w:tW)(wT:tW)(tv:Value)(bs:List Nat)(hT:aH 0 wT tv bs aq)(mT:aa ae wT w)(s:tLB)(hs:s.length<=maxLen):Calls prog 61 #[tv,.int .i64 1,.string (T s),.func (.func 156) #[] #[]] w λe w'=>mZ w bs (fq s) e w':=by
 obtain⟨oT,cT,hv,_⟩:=hT.sl.view;subst hv;have HT:=ai hT;have Cv:=ai mT;clear hT mT;have hTw:=Cv.o.size;obtain⟨a1,q1,h1⟩:∃a q,bU 4 ⟨s,false⟩=(a,q):=⟨_,_,rfl⟩
 obtain⟨q2,h2⟩:∃q2,aI (a1==[83,80,79,76]) q1=q2:=⟨_,rfl⟩
 obtain⟨n3,q3,h3⟩:∃a q,oneP q2=(a,q):=⟨_,_,rfl⟩
 obtain⟨q4,h4⟩:∃q,aI (decide (n3=1)) q3=q:=⟨_,rfl⟩
 obtain⟨ms,q5,h5⟩:∃a q,mapsP (oneP q4).1 (aI (decide ((oneP q4).1<=8)) (oneP q4).2) [] []=(a,q):=⟨_,_,rfl⟩
 obtain⟨fs,q6,h6⟩:∃a q,jH q5=(a,q):=⟨_,_,rfl⟩
 obtain⟨gs,q7,h7⟩:∃a q,Dn ms fs q6=(a,q):=⟨_,_,rfl⟩
 rw[CK h1 h2 h3 h4 h5 h6 h7];have l1:q1.rest.length<=maxLen:=by have:=take_len 4 ⟨s,false⟩;rw[h1]at this;exact ab this hs
 have l2:q2.rest.length<=maxLen:=by rw[<-h2];exact l1
 have l3:q3.rest.length<=maxLen:=by have:=fP q2;rw[h3]at this;exact ab this l2
 have l4:q4.rest.length<=maxLen:=by rw[<-h4];exact l3
 have l5:q5.rest.length<=maxLen:=by have:=yJ (oneP q4).1 (aI (decide ((oneP q4).1<=8)) (oneP q4).2) [] [];rw[h5]at this;exact ab this (ab (fP q4) l4)
 have m5:ms.length<=1000:=by have:=yO (oneP q4).1 (aI (decide ((oneP q4).1<=8)) (oneP q4).2) [] [];rw[h5]at this;have:=yN q4;simp at *;omega
 obtain⟨f6,c6,l6⟩:=Bi q5;rw[h6]at f6 c6 l6;simp only at f6 c6 l6;have l6':=ab l6 l5;have C1:af (∀w b,dM w b ⟨s,false⟩->Calls prog 97 #[.pointer (some ⟨b,0,none⟩),.int .i64 4] w λe w'=>e=.returned (.string (T a1))/\dM w' b q1/\aa (Only b) w w'):=λw b h=>by have:=oq b ⟨s,false⟩ 4 w h hs (by decide);rw[h1]at this;exact this
 have C2:af (∀w b,dM w b q1->Calls prog 96 #[.pointer (some ⟨b,0,none⟩),.bool (a1==[83,80,79,76])] w λe w'=>e=.returned (.tuple #[])/\dM w' b q2/\aa (Only b) w w'):=λw b h=>by have:=bI b q1 (a1==[83,80,79,76]) w h;rw[h2]at this;exact this
 have C3:af (∀w b,dM w b q2->Calls prog 98 #[.pointer (some ⟨b,0,none⟩)] w λe w'=>e=.returned (.int .i64 n3)/\dM w' b q3/\aa (Only b) w w'):=λw b h=>by have:=kY b q2 w h l2;rw[h3]at this;exact this
 have C4:af (∀w b,dM w b q3->Calls prog 96 #[.pointer (some ⟨b,0,none⟩),.bool ((n3:Int)==1)] w λe w'=>e=.returned (.tuple #[])/\dM w' b q4/\aa (Only b) w w'):=λw b h=>by
  have:=bI b q3 (decide (n3=1)) w h;rw[h4]at this
  rwa [show((n3:Int)==1)=decide (n3=1) by rw[b9];simp;omega]
 have C5:af (∀w b,dM w b q4->Calls prog 99 #[.pointer (some ⟨b,0,none⟩)] w λe w'=>AZ w b q5 ms e w'):=λw b h=>by have:=Dq b q4 w h l4;rw[h5]at this;exact this
 have C6:af (∀w b,dM w b q5->aa ae wT w->wT.heap.size<=b->Calls prog 100 #[.pointer (some ⟨b,0,none⟩),.slice oT bs.length cT] w λe w'=>yL w b bs q6 fs e w'):=λw b h m hb=>by have:=Dv w b q5 h l5 wT _ bs HT.o m hb;rw[h6]at this;exact this
 have C7:af (∀w b lo vM vF vs,dM w b q6->aa ae wT w->wT.heap.size<=b->wT.heap.size<=lo->Sl w 100 4 vM ms.length (ms.flatMap az.cells)->pG w lo bs vF fs vs->Calls prog 156 #[.pointer (some ⟨b,0,none⟩),.agg #[vM,vF]] w λe w'=>e=.returned (.tuple #[])/\zL w lo b bs q7 vF gs vs w'):=λw b lo vM vF vs h m hb hlo hM hF=>by have:=Ps w b q6 h l6' wT _ bs HT.o m hb lo hlo ms m5 vM hM fs f6 c6 vF vs hF;rw[h7]at this;exact this
 clear h1 h2 h3 h4 h5 h6 h7 l1 l2 l3 l4 l5 l6 l6' m5 f6 c6 HT
 have D0:af (zM w ⟨s,false⟩ ((w.alloc (.cells #[.slice none 0 0,.slice none 0 0] 90)).alloc (.cells #[.string (T s),.bool false] 194))) :=
  ⟨by have:=ak.new (w.alloc (.cells #[.slice none 0 0,.slice none 0 0] 90)) #[.string (T s),.bool false] 194;simpa [dM]using this,(ak.new _ _ _).alloc _,aj.alloc _⟩
 have hcmp:((T a1).toList==[83,80,79,76])=(a1==[83,80,79,76]):=by simp[T]
 have hb:wT.heap.size<=w.heap.size+1:=by omega
 go_enter func61,ntmps61;go_wp2_with fail;refine(C1.o _ _ D0.o.rd).mono ?_;rintro e w1 ⟨rfl,h1,m1⟩;have D1:=ai (D0.o.read h1 m1);clear D0 h1 m1;go_wp2_with fail;refine(C2.o _ _ D1.o.rd).mono ?_;rintro e w2 ⟨rfl,h2,m2⟩;have D2:=ai (D1.o.read h2 m2);clear D1 h2 m2;go_wp2_with fail;refine(C3.o _ _ D2.o.rd).mono ?_;rintro e w3 ⟨rfl,h3,m3⟩;have D3:=ai (D2.o.read h3 m3);clear D2 h3 m3;go_wp2_with fail;refine(C4.o _ _ D3.o.rd).mono ?_;rintro e w4 ⟨rfl,h4,m4⟩;have D4:=ai (D3.o.read h4 m4);clear D3 h4 m4;go_wp2_with fail;refine(C5.o _ _ D4.o.rd).mono ?_;rintro e w5 ⟨vM,rfl,hM⟩;obtain⟨oM,cM,rfl,_⟩:=hM.sl.view;have D5:=ai (D4.o.read hM.rd hM.md);have iC:=ai hM.sl;have ZK:=ai hM.sl.lt;clear D4 hM;have TD:af (zM w q5 (w5.alloc (.cells #[.slice oM ms.length cM,.slice none 0 0] 90))):=⟨ak.alloc D5.o.rd _,D5.o.rs.alloc _,D5.o.md.alloc _⟩
 have HPb:af (ak (w5.alloc (.cells #[.slice oM ms.length cM,.slice none 0 0] 90)) w5.heap.size #[.slice oM ms.length cM,.slice none 0 0] 90):=ak.new _ _ _;have Kq:af (Sl (w5.alloc (.cells #[.slice oM ms.length cM,.slice none 0 0] 90)) 100 4 (.slice oM ms.length cM) ms.length (ms.flatMap az.cells)):=iC.o.ag ((aa.refl ae _).alloc _) (λ_ _=>id);have h5s:w.heap.size+1<w5.heap.size:=D5.o.rd.lt;clear D5 iC;go_wp2_with fail;refine(C6.o _ _ TD.o.rd (Cv.o.trans TD.o.md) hb).mono ?_;rintro e w6 ⟨vF,vs,rfl,h6,hF,m6⟩;obtain⟨oF,cF,rfl,_⟩:=hF.sl.view;have D6:af (zM w q6 w6):=TD.o.read h6 m6;have Bj:af (ak w6 w5.heap.size #[.slice oM ms.length cM,.slice none 0 0] 90):=HPb.o.ag m6 (show ¬w5.heap.size=w.heap.size+1 by omega);have sW:af (Sl w6 100 4 (.slice oM ms.length cM) ms.length (ms.flatMap az.cells)):=Kq.o.ag m6 (λk hk e=>Kq.o.au TD.o.rd (by decide) (hk.trans (congrArg some e)));have XE:af (pG w6 (w5.heap.size+1) bs (.slice oF fs.length cF) fs vs):=by have h':=hF;simp at h';exact h'
 clear h6 hF m6 TD HPb Kq;have y1:w6.cell? ⟨w5.heap.size,1,none⟩=some (.slice none 0 0):=Bj.o.cell 1;have f1:=Bj.o.frozen 1;have EY:af (ak (w6.setCell ⟨w5.heap.size,1,none⟩ (.slice oF fs.length cF)) w5.heap.size #[.slice oM ms.length cM,.slice oF fs.length cF] 90):=Bj.o.set 1 _;have D7:af (zM w q6 (w6.setCell ⟨w5.heap.size,1,none⟩ (.slice oF fs.length cF))):=⟨ak.setOther D6.o.rd (show w5.heap.size≠w.heap.size+1 by omega) _,ak.setOther D6.o.rs (show w5.heap.size≠w.heap.size by omega) _,D6.o.md.set (.inr (show w.heap.size<=w5.heap.size by omega)) _⟩
 have xG:af (Sl (w6.setCell ⟨w5.heap.size,1,none⟩ (.slice oF fs.length cF)) 100 4 (.slice oM ms.length cM) ms.length (ms.flatMap az.cells)):=sW.o.ag ((aa.refl (Only w5.heap.size) w6).aY _ _) (λk hk e=>sW.o.au Bj.o (by decide) (hk.trans (congrArg some e)));have HF7:af (pG (w6.setCell ⟨w5.heap.size,1,none⟩ (.slice oF fs.length cF)) (w5.heap.size+1) bs (.slice oF fs.length cF) fs vs):=XE.o.ag ((aa.refl (Only w5.heap.size) w6).aY _ _) (λk hk e=>by have:=XE.o.own k hk;have:k=w5.heap.size:=e;omega) (λu hu k hk e=>by have:=XE.o.l8 u hu k hk;have:k=w5.heap.size:=e;omega);have z0:(w6.setCell ⟨w5.heap.size,1,none⟩ (.slice oF fs.length cF)).cell? ⟨w5.heap.size,0,none⟩=some (.slice oM ms.length cM):=EY.o.cell 0;have z1:(w6.setCell ⟨w5.heap.size,1,none⟩ (.slice oF fs.length cF)).cell? ⟨w5.heap.size,1,none⟩=some (.slice oF fs.length cF):=EY.o.cell 1;clear Bj sW XE D6;go_wp2_with fail;refine(C7.o _ _ (w5.heap.size+1) _ _ vs D7.o.rd (Cv.o.trans D7.o.md) hb (by omega) xG.o HF7.o).mono ?_;rintro e w8 ⟨rfl,hR⟩;have D8:af (zM w q7 w8):=⟨hR.rd,D7.o.rs.ag hR.md (λe=>by rcases e with e|e<;>omega),D7.o.md.step hR.md (λi hi e=>by rcases e with e|e<;>omega)⟩
 have TE:af (ak w8 w5.heap.size #[.slice oM ms.length cM,.slice oF fs.length cF] 90):=EY.o.ag hR.md (λe=>by rcases e with e|e<;>omega)
 have FV:af (Sl w8 100 4 (.slice oM ms.length cM) ms.length (ms.flatMap az.cells)):=xG.o.ag hR.md (λk hk e=>by
  rcases e with e|e
  ·exact xG.o.au D7.o.rd (by decide) (hk.trans (congrArg some e))
  ·have:=ZK.o k hk;omega)
 have HF8:=ai hR.fn;clear hR D7 EY xG HF7 z0 z1 y1 f1;obtain⟨r7,b7⟩:=q7;have x0:w8.cell? ⟨w.heap.size+1,0,none⟩=some (.string (T r7)):=D8.o.rd.cell 0;go_wp2_with fail;refine(bI _ _ _ _ D8.o.rd).mono ?_;rintro e w9 ⟨rfl,h9,m9⟩;simp only;rw[show(T r7).toList=r7 by simp[T]]at h9;have D9:=ai (D8.o.read h9 m9);have TF:af (ak w9 w5.heap.size #[.slice oM ms.length cM,.slice oF fs.length cF] 90):=TE.o.ag m9 (show ¬w5.heap.size=w.heap.size+1 by omega);have HM9:af (Sl w9 100 4 (.slice oM ms.length cM) ms.length (ms.flatMap az.cells)):=FV.o.ag m9 (λk hk e=>FV.o.au D8.o.rd (by decide) (hk.trans (congrArg some e)));have HF9:=ai (HF8.o.read D8.o.rd m9);clear h9 m9 D8 TE FV HF8 x0;have HQ:af (∃q8,aI r7.isEmpty ⟨r7,b7⟩=q8):=⟨_,rfl⟩
 obtain⟨⟨r8,b8⟩,hq8⟩:=HQ.o;rw[hq8]at D9;have HQ8:=ai hq8;clear hq8 HQ;have x1:w9.cell? ⟨w.heap.size+1,1,none⟩=some (.bool b8):=D9.o.rd.cell 1;have g0:w9.cell? ⟨w.heap.size,0,none⟩=some (.slice none 0 0):=D9.o.rs.cell 0;have g1:w9.cell? ⟨w.heap.size,1,none⟩=some (.slice none 0 0):=D9.o.rs.cell 1;have fg:=D9.o.rs.frozen;cases b8 with
 |true =>go_wp2_with fail;refine bodyPost_ret (aw results61 _ _ w.heap.size 90 _ (0,0) _ _ rfl rfl ((D9.o.rs.set 0 _).set 1 _) underlying90 rfl (by kernel_rfl)) rfl ?_;rw[HQ8.o];exact⟨_,_,[],rfl,(D9.o.md.set (.inr (ba _)) _).set (.inr (ba _)) _,⟨_,_,_,_,_,_,rfl,rfl⟩,λh=>(by cases h)⟩
 |false =>have z0:w9.cell? ⟨w5.heap.size,0,none⟩=some (.slice oM ms.length cM):=TF.o.cell 0;have z1:w9.cell? ⟨w5.heap.size,1,none⟩=some (.slice oF fs.length cF):=TF.o.cell 1;have HB:af (ak ((w9.setCell ⟨w.heap.size,0,none⟩ (.slice oM ms.length cM)).setCell ⟨w.heap.size,1,none⟩ (.slice oF fs.length cF)) w.heap.size #[.slice oM ms.length cM,.slice oF fs.length cF] 90):=(D9.o.rs.set 0 _).set 1 _;have eZ:af (aa (Only w.heap.size) w9 ((w9.setCell ⟨w.heap.size,0,none⟩ (.slice oM ms.length cM)).setCell ⟨w.heap.size,1,none⟩ (.slice oF fs.length cF))):=(ax.aY _ _).aY _ _;go_wp2_with fail;refine bodyPost_ret (aw results61 _ _ w.heap.size 90 _ (0,0) _ _ rfl rfl HB.o underlying90 rfl (by kernel_rfl)) rfl ?_;rw[HQ8.o];exact⟨_,_,vs,rfl,D9.o.md.step eZ.o (λi hi e=>by have:i=w.heap.size:=e;omega),⟨_,_,_,_,_,_,rfl,rfl⟩,λ_=>⟨HM9.o.ag eZ.o (λk hk e=>HM9.o.au D9.o.rs (by decide) (hk.trans (congrArg some e))),((HF9.o.ag eZ.o (λk hk e=>by have:=HF9.o.own k hk;have:k=w.heap.size:=e;omega) (λu hu k hk e=>by have:=HF9.o.l8 u hu k hk;have:k=w.heap.size:=e;omega)).lower (by omega))⟩⟩
theorem Kr(w:tW)(wT:tW)(tv:Value)(bs:List Nat)(hT:aH 0 wT tv bs aq)(mT:aa ae wT w)(s:tLB)(hs:s.length<=maxLen):Calls prog 78 #[tv,.string (T s)] w λe w'=>mZ w bs (fq s) e w':=by
 have HD:af (∀w',aa ae w w'->Calls prog 61 #[tv,.int .i64 1,.string (T s),.func (.func 156) #[] #[]] w' λe w''=>mZ w' bs (fq s) e w''):=λw' m=>Ko w' wT tv bs hT (mT.trans m) s hs;clear hT mT;generalize fq s=d at *;have hB:ak (w.alloc (.cells #[.slice none 0 0,.slice none 0 0] 90)) w.heap.size #[.slice none 0 0,.slice none 0 0] 90:=ak.new _ _ _;have HB:=ai hB;clear hB;go_enter func78,ntmps78;go_wp2_with fail;refine(HD.o _ aj).mono ?_;rintro e w1 ⟨vM,vF,vs,rfl,m1,⟨oM,nM,cM,oF,nF,cF,rfl,rfl⟩,hgood⟩;have hB1:=HB.o.ag m1 id;have HB1:=ai hB1;have g0:w1.cell? ⟨w.heap.size,0,none⟩=some (.slice none 0 0):=hB1.cell 0;have g1:w1.cell? ⟨w.heap.size,1,none⟩=some (.slice none 0 0):=hB1.cell 1;have fg:=hB1.frozen;have dh:af (aa ae w w1):=aj.trans m1;have HG:af _:=hgood;clear m1 hB1 hgood;have eZ:af (aa (Only w.heap.size) w1 ((w1.setCell ⟨w.heap.size,0,none⟩ (.slice oM nM cM)).setCell ⟨w.heap.size,1,none⟩ (.slice oF nF cF))):=(ax.aY _ _).aY _ _;have Pm:af (ak ((w1.setCell ⟨w.heap.size,0,none⟩ (.slice oM nM cM)).setCell ⟨w.heap.size,1,none⟩ (.slice oF nF cF)) w.heap.size #[.slice oM nM cM,.slice oF nF cF] 90):=(HB1.o.set 0 _).set 1 _;go_wp2_with fail;refine bodyPost_ret (aw results78 _ _ w.heap.size 90 _ (0,0) _ (.bool (!d.2.2.bad)) rfl rfl Pm.o underlying90 rfl (by kernel_rfl)) rfl ?_;refine⟨.slice oM nM cM,.slice oF nF cF,vs,rfl,dh.o.step eZ.o (λi hi e=>by have:i=w.heap.size:=e;omega),⟨_,_,_,_,_,_,rfl,rfl⟩,λhb=>?_⟩;obtain⟨hM,hF⟩:=HG.o hb;have hws:(w.alloc (.cells #[.slice none 0 0,.slice none 0 0] 90)).heap.size=w.heap.size+1:=by simp
 rw[hws]at hF;exact⟨hM.ag eZ.o (λk hk e=>hM.au HB1.o (by decide) (hk.trans (congrArg some e))),(hF.ag eZ.o (λk hk e=>by have:=hF.own k hk;have:k=w.heap.size:=e;omega) (λu hu k hk e=>by have:=hF.l8 u hu k hk;have:k=w.heap.size:=e;omega)).lower (by omega)⟩
theorem Bk(w:tW)(tv:Value)(bs:List Nat)(hO:aH 0 w tv bs aq)(code:List PI)(hok:∀x∈code,eU x)(hl:code.length<=10000)(vC:Value)(hC:Sl w 138 8 vC code.length (eu bs code))(nm:tBA):Calls prog 69 #[.agg #[.string nm,vC]] w λe w'=>e=.returned (.int .i64 (aM code))/\aa ae w w':=by
 obtain⟨oC,cC,rfl,_⟩:=hC.view;have HO:af (aH 0 w tv bs aq):=hO;have HC:af (Sl w 138 8 (.slice oC code.length cC) code.length (eu bs code)):=hC;have Cu:af (∀x∈code,eU x):=hok;have GR:af (∀k,eH code k<=20000):=λk=>by have:=zR code Cu.o k;omega
 clear hO hC hok;have hM0:aa ae w (w.alloc (.cells #[.string nm,.slice oC code.length cC] 96)):=aj;have eX:af (aa ae w (w.alloc (.cells #[.string nm,.slice oC code.length cC] 96))):=hM0;clear hM0;go_enter func69,ntmps69;go_wp2_with fail;go_loopw [3,9] (λsv i wl=>∃k:Nat,k<=code.length/\i=.int .i64 k/\sv=.int .i64 (eH code k)/\aa ae w wl) (λ_ i _=>code.length-(intOf i).toNat)
 case atStart=>exact⟨0,ao _,rfl,rfl,eX.o⟩
 case round =>
  obtain⟨k,hk,rfl,rfl,hM⟩:=hrel;have HM:af (aa ae w wr):=hM;clear hM eX;by_cases hlt:k<code.length
  ·have NL:af (eH code (k+1)=eH code k+code[k].o.slots):=uf code k hlt;obtain⟨g,rfl,hg,q0,q1,q2,q3,q4,q5,q6,q7⟩:=kZ (HC.o.ag HM.o (λ_ _=>id)) rfl rfl k hlt;have hx:=Cu.o code[k] (al hlt);have hA:=jI (HO.o.ag HM.o) code[k] hx.k;have hsum:=GR.o k;have hsl:=hx.slots;clear hx;generalize code[k].o=o at *;generalize code[k].jump=jmp at *;generalize code[k].d=xd at *;generalize code[k].s=xs at *;generalize code[k].num=xn at *;generalize code[k].high=xh at *;generalize code[k].name=xm at *;generalize bs[code[k].k]?.getD 0=b at *;have hA1:=hA.ag (ax.alloc (.cells #[.pointer (some ⟨b,0,none⟩),.int .u8 xd,.int .u8 xs,.int .i16 jmp,.int .i32 xn,.int .i32 xh,.string ByteArray.empty,.string (T xm)] 138));obtain⟨y2,_,_,_⟩:=hA1.cells;clear hA hA1;generalize eH code k=sk at *;generalize o.slots=os at *;go_wp2_with fail;go_roundw
   case rel=>exact⟨k+1,by omega,by go_num,by rw[NL.o];go_num,HM.o.alloc _⟩
   case measure=>simp[intOf];omega
  ·obtain rfl:k=code.length:=by omega
   have HF:af (eH code code.length=aM code):=by rw[af,eH,cj];rfl
   rw[HF.o];go_wp2_with fail;go_ret;exact⟨rfl,HM.o⟩
def PI.TG(bs:List Nat)(x:PI)(lab:tBA):di:={x.ins bs with label:=lab}
def nG(bs:List Nat)(l:List (PI×tBA)):List Value:=l.flatMap (λx=>(x.1.TG bs x.2).dU)
def gX(w:tW)(v:Value)(bs:List Nat)(code:List PI):Prop:=∃bB:List tBA,bB.length=code.length/\Sl w 138 8 v code.length (nG bs (code.zip bB))
theorem gX.ag{w w':tW}{v:Value}{bs:List Nat}{code:List PI}{S:Nat->Prop}(h:gX w v bs code)(m:aa S w w')(hS:∀k,v.ownBlock=some k->¬S k):gX w' v bs code:=by obtain⟨bB,h1,h2⟩:=h;exact⟨bB,h1,h2.ag m hS⟩
theorem gX.view{w:tW}{v:Value}{bs:List Nat}{code:List PI}(h:gX w v bs code):∃o cap,v=.slice o code.length cap/\True:=by obtain⟨bB,_,h2⟩:=h;obtain⟨o,cap,hv,_⟩:=h2.view;exact⟨o,cap,hv,trivial⟩
theorem Bl{w:tW}{bs:List Nat}{l:List PI}{v:Value}{n:Nat}(h:gX w v bs l)(hn:n=l.length){o:Option Addr}{c:Nat}(hv:v=.slice o n c)(k:Nat)(hk:k<l.length):∃g lab,o=some ⟨g,0,none⟩/\g<w.heap.size/\w.cell? ⟨g,k*8,none⟩=some (.pointer (some ⟨bs[l[k].k]?.getD 0,0,none⟩))/\w.cell? ⟨g,k*8+1,none⟩=some (.int .u8 l[k].d)/\w.cell? ⟨g,k*8+2,none⟩=some (.int .u8 l[k].s) /\ w.cell? ⟨g,k*8+3,none⟩=some (.int .i16 l[k].jump)/\w.cell? ⟨g,k*8+4,none⟩=some (.int .i32 l[k].num)/\w.cell? ⟨g,k*8+5,none⟩=some (.int .i32 l[k].high)/\w.cell? ⟨g,k*8+6,none⟩=some (.string lab)/\w.cell? ⟨g,k*8+7,none⟩=some (.string (T l[k].name)):=by
 obtain⟨bB,h1,h0⟩:=h;subst hn;obtain⟨o',c',hv',h2⟩:=h0.view;rw[hv]at hv';cases hv';obtain⟨g,cs,rfl,hb,ht,_⟩:=h2 (by omega);have hz:k<(l.zip bB).length:=by rw[List.length_zip,h1];omega
 have hkl:k<bB.length:=by omega
 have e:(l.zip bB)[k]=(l[k],bB[k]):=List.getElem_zip;have hc:∀j,j<8->w.cell? ⟨g,k*8+j,none⟩=((l[k].TG bs bB[k]).dU)[j]?:=λj hj=>by rw[aW hb ht _ (by omega),nG,flat_get (λx:PI×tBA=>(x.1.TG bs x.2).dU) 8 (λ_=>rfl) (l.zip bB) k j hz hj,e]
 exact⟨g,bB[k],rfl,hb.lt,hc 0 (by omega),hc 1 (by omega),hc 2 (by omega),hc 3 (by omega),hc 4 (by omega),hc 5 (by omega),hc 6 (by omega),hc 7 (by omega)⟩
theorem Ha(w:tW)(tv:Value)(bs:List Nat)(hO:aH 0 w tv bs aq)(code:List PI)(hok:∀x∈code,eU x)(hl:code.length<=10000)(vC:Value)(hC:gX w vC bs code)(nm:tBA):Calls prog 69 #[.agg #[.string nm,vC]] w λe w'=>e=.returned (.int .i64 (aM code))/\aa ae w w':=by
 obtain⟨oC,cC,rfl,_⟩:=hC.view;have HO:=ai hO;have HC:=ai hC;have Cu:=ai hok;have GR:af (∀k,eH code k<=20000):=λk=>by have:=zR code Cu.o k;omega
 clear hO hC hok;have hM0:aa ae w (w.alloc (.cells #[.string nm,.slice oC code.length cC] 96)):=aj;have eX:=ai hM0;clear hM0;go_enter func69,ntmps69;go_wp2_with fail;go_loopw [3,9] (λsv i wl=>∃k:Nat,k<=code.length/\i=.int .i64 k/\sv=.int .i64 (eH code k)/\aa ae w wl) (λ_ i _=>code.length-(intOf i).toNat)
 case atStart=>exact⟨0,ao _,rfl,rfl,eX.o⟩
 case round =>
  obtain⟨k,hk,rfl,rfl,hM⟩:=hrel;have HM:=ai hM;clear hM eX;by_cases hlt:k<code.length
  ·have NL:af (eH code (k+1)=eH code k+code[k].o.slots):=uf code k hlt;obtain⟨g,lab,rfl,hg,q0,q1,q2,q3,q4,q5,q6,q7⟩:=Bl (HC.o.ag HM.o (λ_ _=>id)) rfl rfl k hlt;have hx:=Cu.o code[k] (al hlt);have hA:=jI (HO.o.ag HM.o) code[k] hx.k;have hsum:=GR.o k;have hsl:=hx.slots;clear hx;generalize code[k].o=o at *;generalize code[k].jump=jmp at *;generalize code[k].d=xd at *;generalize code[k].s=xs at *;generalize code[k].num=xn at *;generalize code[k].high=xh at *;generalize code[k].name=xm at *;generalize bs[code[k].k]?.getD 0=b at *;have hA1:=hA.ag (ax.alloc (.cells #[.pointer (some ⟨b,0,none⟩),.int .u8 xd,.int .u8 xs,.int .i16 jmp,.int .i32 xn,.int .i32 xh,.string lab,.string (T xm)] 138));obtain⟨y2,_,_,_⟩:=hA1.cells;clear hA hA1;generalize eH code k=sk at *;generalize o.slots=os at *;go_wp2_with fail;go_roundw
   case rel=>exact⟨k+1,by omega,by go_num,by rw[NL.o];go_num,HM.o.alloc _⟩
   case measure=>simp[intOf];omega
  ·obtain rfl:k=code.length:=by omega
   have HF:af (eH code code.length=aM code):=by rw[af,eH,cj];rfl
   rw[HF.o];go_wp2_with fail;go_ret;exact⟨rfl,HM.o⟩
