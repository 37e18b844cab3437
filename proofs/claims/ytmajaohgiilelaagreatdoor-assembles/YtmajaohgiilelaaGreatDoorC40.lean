import Derived.Test.YtmajaohgiilelaaGreatDoorC36
namespace Go.Proofs.YtmajaohgiilelaaGreatDoor
open Go.RowKit Tryz
open Bool renaming and_eq_true->b9
open Int renaming toNat_of_nonneg->ca
open List renaming getElem_mem->an,take_of_length_le->ar,mem_or_eq_of_mem_set->bh,length_append->bj,take_zero->bt,take_succ_cons->cb,drop_succ_cons->cc,zipWith->cd,drop_zero->cj
open Nat renaming le_refl->ao,zero_le->ba,le_trans->ch
set_option linter.all false
set_option maxRecDepth 100000
set_option maxHeartbeats 4000000
theorem uh(ls:List bV):∀k,k<=ls.length->∀f∈(ai (ls.take k)).fs,∀p∈f.aP,p.2<=2*k
 |0,_=>by rw[bt];exact λf hf=>(by cases hf)
 |k+1,h=>by
  have ih:=uh ls k (by omega);have hs:=(jW ls k (by omega)).1;rw[gy ls k (by omega)];generalize ai (ls.take k)=o at *;generalize ls[k]=x;have h3:∀f∈o.fs,∀p∈f.aP,p.2<=2*(k+1):=λf hf p hp=>by have:=ih f hf p hp;omega
  have hlast:∀p∈o.last.aP,p.2<=2*(k+1):=by
   by_cases e:o.fs=[]
   ·unfold OL.last;rw[e];exact λp hp=>(by cases hp)
   ·exact h3 _ (KT e)
  have hsl:=tF hs;unfold bG;split
  ·exact h3
  split
  ·intro f hf;rcases List.mem_append.1 hf with h5|h5
   ·exact h3 f h5
   ·have:f={}:=by simpa using h5
    subst this;exact λp hp=>(by cases hp)
  split
  ·intro f hf;rcases bh hf with h5|rfl
   ·exact h3 f h5
   ·unfold pR.label;split
    ·exact hlast
    ·intro p hp;rcases List.mem_append.1 hp with h6|h6
     ·exact hlast p h6
     ·rw[List.mem_singleton.1 h6];show o.last.slots<=_;omega
  split
  ·intro f hf;rcases bh hf with h5|rfl
   ·exact h3 f h5
   ·exact hlast
  ·exact h3
theorem LY{l:List (tLB×Nat)}{n:Nat}(h:∀p∈l,p.2<=n)(y:tLB):(dC l y).getD 0<=n:=by
 unfold dC;cases hf:l.find? (λp=>p.1==y)with
 |none=>exact ba _
 |some p=>exact h p (List.mem_of_find?_eq_some hf)
def C4(w:tW)(tv:Value)(bs:List Nat)(b:BS)(e:Ending)(w':tW):Prop :=
 ∃vM vF ms fs vs,e=.returned (.agg #[vM,vF])/\xq w' tv bs vM vF ms fs vs/\ms.Perm b.ms/\ms.Pairwise (λx y=>jO (T y.name) (T x.name)=false)/\fs.Perm b.fs/\fs.Pairwise (λx y=>jO (T y.name) (T x.name)=false)/\aa af w w'
theorem TU(wT wL wO w:tW)(tv vL:Value)(bs:List Nat)(ls:List bV)(bm:Nat)(vO:Value)(lb:List Nat)(hO:aR 0 wT tv bs ax)(m:aa af wT w)(hL:ed wL vL bs ls w)(hA:dQ wO bm vO lb (ai ls) w)(hin:InF ls)(hk4:∀x∈ls,x.kind=4->x.x.k<ax.length)(hnl:ls.length<=10000)(hsz:∀x∈ls,x.kind=1->(0<=uF (x.ns.getD 0 ay)/\uF (x.ns.getD 0 ay)<256)/\(0<=uF (x.ns.getD 1 ay)/\uF (x.ns.getD 1 ay)<256)/\(0<=uF (x.ns.getD 2 ay)/\uF (x.ns.getD 2 ay)<256)):Calls prog 29 #[vL,.agg #[.map (some bm),vO]] w λe w'=>C4 w tv bs (aK (ai ls) ls) e w':=by
 have HRP:ae (∀e w',(∃vM vF ms fs vs,e=.returned (.agg #[vM,vF])/\xq w' tv bs vM vF ms fs vs/\ms.Perm (aK (ai ls) ls).ms/\ms.Pairwise (λx y=>jO (T y.name) (T x.name)=false)/\fs.Perm (aK (ai ls) ls).fs/\fs.Pairwise (λx y=>jO (T y.name) (T x.name)=false)/\aa af w w')->C4 w tv bs (aK (ai ls) ls) e w'):=λe w' h=>h
 have Fb:ae (∀w',aa af w w'->∀x∈ls,x.kind=4->dM w' (bs[x.x.k]?.getD 0) x.x.o):=λw' m' x hx h4=>by
  have h1:=hk4 x hx h4;have h2:x.x.k<bs.length:=by rw[hO.len];exact h1
  have:=(hO.ah (m.trans m')).at' x.x.k h2 h1;rw[List.getElem?_eq_getElem h2];unfold bH.o;rw[List.getElem?_eq_getElem h1];exact this
 have HOI:ae (∀w',aa af w w'->aR 0 w' tv bs ax):=λw' m'=>hO.ah (m.trans m');have x8:=ak hL;have HOA:=ak hA;have Yh:ae (∀k,k<=ls.length->(aK (ai ls) (ls.take k)).fs.length=(ai (ls.take k)).fs.length/\(aK (ai ls) (ls.take k)).slot<=2*k/\(aK (ai ls) (ls.take k)).ms.length<=k/\(aK (ai ls) (ls.take k)).fs.length<=k/\(∀f∈(aK (ai ls) (ls.take k)).fs,f.code.length<=k)):=wC (ai ls) ls;have HST:ae (∀k (h:k<ls.length),aK (ai ls) (ls.take (k+1))=eW (ai ls) (aK (ai ls) (ls.take k)) ls[k]):=tU (ai ls) ls;have Jg:ae (∀k,¬k<ls.length->aK (ai ls) (ls.take k)=aK (ai ls) ls):=λk h=>by rw[ar (by omega)]
 have Ji:ae (∀k (h:k<ls.length),ls[k].kind=4->0<(aK (ai ls) (ls.take k)).fs.length):=λk h h4=>by rw[(wC (ai ls) ls k (by omega)).1];exact List.length_pos_iff.2 (hin k h (.inr h4))
 have HMO:ae (∀x∈ls,x.kind=1->∀w,Calls prog 55 #[.agg (x.cells bs)] w λe w'=>e=.returned (.agg #[.string (T (pT x).name),.int .u8 ((pT x).key:Nat),.int .u8 ((pT x).value:Nat),.int .u8 ((pT x).entries:Nat)])/\aa af w w'):=λx hx h1 w=>by
  obtain⟨s0,s1,s2⟩:=hsz x hx h1;have hc:x.cells bs=gx x.kind (T x.name) (x.ns.getD 0 ay) (x.ns.getD 1 ay) (x.ns.getD 2 ay):=by unfold bV.cells;rw[iN9 (by omega)]
  rw[hc];refine(SK x.kind (T x.name) _ _ _ w s0 s1 s2).mono ?_;rintro e w' ⟨rfl,m'⟩;refine⟨?_,m'⟩;unfold pT;simp only[ca s0.1,ca s1.1,ca s2.1]
 obtain⟨oL,cL,NX,_⟩:=hL.sl.view;subst NX;obtain⟨oO,cO,hvO,_⟩:=hA.sl.view;have hOL:(ai ls).fs.length<=10000:=by have:=(jW ls ls.length (ao _)).2;rw[ar (ao _)]at this;omega
 subst hvO;clear hO m hL hin hk4 hsz hA;generalize C4 w tv bs (aK (ai ls) ls)=RP at *
 have HW0:ae (GU w (w.heap.size+1) w.heap.size (w.heap.size+1+1) bm (.slice oO (ai ls).fs.length cO) bs (.slice none 0 0) (.slice none 0 0) {} [] (((w.alloc (.cells #[.map (some bm),.slice oO (ai ls).fs.length cO] 77)).alloc (.cells #[.slice none 0 0,.slice none 0 0] 85)).alloc (.cells #[.slice none 0 0,.slice none 0 0] 85))):=by
  have m1:aa af w ((w.alloc (.cells #[.map (some bm),.slice oO (ai ls).fs.length cO] 77)).alloc (.cells #[.slice none 0 0,.slice none 0 0] 85)):=((aa.refl _ _).alloc _).alloc _;have h1:=pU.new w bs _ m1;have hs:((w.alloc (.cells #[.map (some bm),.slice oO (ai ls).fs.length cO] 77)).alloc (.cells #[.slice none 0 0,.slice none 0 0] 85)).heap.size=w.heap.size+1+1:=by simp
  rw[hs]at h1;have h2:=aq.new (w.alloc (.cells #[.map (some bm),.slice oO (ai ls).fs.length cO] 77)) #[.slice none 0 0,.slice none 0 0] 85;have hs2:(w.alloc (.cells #[.map (some bm),.slice oO (ai ls).fs.length cO] 77)).heap.size=w.heap.size+1:=by simp
  rw[hs2]at h2;exact⟨h1,h2.alloc _,((aq.new w _ _).alloc _).alloc _,by omega⟩
 go_enter func29,ntmps29;go_upto_region 2 with fail;go_wp2_with fail;generalize((w.alloc (.cells #[.map (some bm),.slice oO (ai ls).fs.length cO] 77)).alloc (.cells #[.slice none 0 0,.slice none 0 0] 85)).alloc (.cells #[.slice none 0 0,.slice none 0 0] 85)=w1 at *;generalize hA0:w.heap.size=A at *;generalize hR0:A+1=R at *;generalize hP0:R+1=P at *;go_loopg [13,6] ls.length (λq UA v6 wx=>∃(k:Nat) (vM vF:Value) (vs:List Value),k<=ls.length/\UA=.int .i64 k/\v6=.int .i64 (aK (ai ls) (ls.take k)).slot/\GU w R A P bm (.slice oO (ai ls).fs.length cO) bs vM vF (aK (ai ls) (ls.take k)) vs wx/\q=ls.length-k)
 case atStart=>exact⟨0,_,_,[],ba _,rfl,rfl,HW0.o,rfl⟩
 case round =>
  obtain⟨k,vM,vF,vs,hk,rfl,rfl,hB,rfl⟩:=hrel;have HB:=ak hB;clear hB HW0;obtain⟨hb1,hb2,hb3,hb4,hb5⟩:=Yh.o k hk;obtain⟨oM,cM,Jv,_⟩:=HB.o.bd.maps.view;obtain⟨oF,cF,uZ,_⟩:=HB.o.bd.rows.view;subst Jv uZ;by_cases hlt:k<ls.length
  ·obtain⟨g,cL',hv,hcl,hrow⟩:=x8.o.row k hlt;injection hv with hv1 hv2 hv3;subst hv1;have HRW:=hrow wr HB.o.bd.md;have HS:=ak (HST.o k hlt);have HI:=ak (Ji.o k hlt);have HO4:ae (∀w',aa af w w'->ls[k].kind=4->dM w' (bs[ls[k].x.k]?.getD 0) ls[k].x.o):=λw' m'=>Fb.o w' m' ls[k] (an hlt);have iG:ae (ls[k].kind=1->∀w,Calls prog 55 #[.agg (ls[k].cells bs)] w λe w'=>e=.returned (.agg #[.string (T (pT ls[k]).name),.int .u8 ((pT ls[k]).key:Nat),.int .u8 ((pT ls[k]).value:Nat),.int .u8 ((pT ls[k]).entries:Nat)])/\aa af w w'):=HMO.o ls[k] (an hlt);have HFL:ae ((aK (ai ls) (ls.take k)).fs.length<=(ai ls).fs.length):=by rw[ae,hb1];exact tI ls k
   have HTG:ae (∀n,n<(ai ls).fs.length->∀y,(dC ((ai ls).fs.getD n {}).aP y).getD 0<=20000):=λn hn y=>by
    have h1:=uh ls ls.length (ao _);rw[ar (ao _)]at h1;rw[List.getD_eq_getElem?_getD,List.getElem?_eq_getElem hn];have:=LY (h1 _ (an hn)) y;show(dC (ai ls).fs[n].aP y).getD 0<=20000
    omega
   have HOR:ae (∀n,n<(ai ls).fs.length->∃gO,oO=some ⟨gO,0,none⟩/\(ai ls).fs.length<=cO/\∀W,aa af w W->W.cell? ⟨gO,n*3+2,none⟩=some (.map (some (lb[n]?.getD 0)))/\jo W (lb[n]?.getD 0) ((ai ls).fs.getD n {}).aP):=λn hn=>by obtain⟨gO,h1,_,h3,h4⟩:=HOA.o.abV n hn;refine⟨gO,h1,h3,λW mW=>⟨h4 W mW 2 (by show 2<3;decide),?_⟩⟩;rw[List.getD_eq_getElem?_getD,List.getElem?_eq_getElem hn];exact MapOf.ah (HOA.o.aP n hn) mW id
   clear hrow HST Ji Fb hv3 Jg HMO Yh hb1;generalize aK (ai ls) (ls.take k)=b at *;generalize ls[k]=x at *;generalize(ai ls).fs.length=nO at *;have gR:ae ((x.cells bs).size=20):=iE bs x;have KS:ae ((x.cells bs)[0]?=some (.int .i64 x.kind)):=tC bs x;have yg:ae ((x.cells bs).all (·.oneCell')=true):=cells_one bs x;have Nt:ae (x.kind≠4->(x.cells bs)[1]?=some (.string (T x.name))):=py bs x;have HB2:ae (aq (wr.alloc (.cells (gx 0 ⟨#[]⟩ ay ay ay) 119)) wr.heap.size (gx 0 ⟨#[]⟩ ay ay ay) 119):=aq.new wr _ _;have HC4:ae (x.kind=4->x.cells bs=ES 4 ⟨#[]⟩ ay ay ay (.pointer (some ⟨bs[x.x.k]?.getD 0,0,none⟩)) x.x.r.d x.x.r.s x.x.r.jump x.x.r.num x.x.r.high (T x.x.r.label) (T x.x.r.name) x.x.fits):=λh=>by unfold bV.cells;rw[iP9 h]
   generalize x.cells bs=cs at *;go_upto_region 6 with(first |(refine dR rfl 119 (.tmp 15) rfl g (k*20) rfl cs _ HRW underlying119 rfl (by rw[gR.o];kernel_rfl) ?_) |(refine dI rfl 119 (.tmp 8) (.tmp 16) rfl wr.heap.size cs rfl rfl 119 _ HB2.o (by rw[gR.o];kernel_rfl) (by rw[gR.o];rfl) yg.o ?_;intro W3 hB3 zG))
   have HB3:=ak (HB.o.quiet zG.fresh);have c0:W3.cell? ⟨wr.heap.size,0,none⟩=some (.int .i64 x.kind):=(hB3.cell 0).trans KS.o;have p0:W3.cell? ⟨P,0,none⟩=some (.slice oM b.ms.length cM):=HB3.o.bd.blk.cell 0;have p1:W3.cell? ⟨P,1,none⟩=some (.slice oF b.fs.length cF):=HB3.o.bd.blk.cell 1;have CS:=ak hB3;clear HB HB2 HRW zG hB3;generalize wr.heap.size=B at *;have hcase:x.kind=1\/x.kind=2\/x.kind=4\/(x.kind≠1/\x.kind≠2/\x.kind≠4):=by omega
   rcases hcase with hx|hx|hx|hx
   ·have q1:((x.kind:Int)==1)=true:=by rw[hx];rfl
    have HMC:=iG.o hx;have HBS:ae (∀W vA wA,aa af W3 W->Sl wA 141 4 vA (b.ms.length+1) (b.ms.flatMap dD.cells++dD.cells (pT x))->aa (λk=>(Value.slice oM b.ms.length cM).ownBlock=some k) W wA->(∀k,vA.ownBlock=some k->(Value.slice oM b.ms.length cM).ownBlock=some k\/W.heap.size<=k)->(∃oA cA,vA=.slice oA (b.ms.length+1) cA)/\aq wA P #[.slice oM b.ms.length cM,.slice oF b.fs.length cF] 85/\GU w R A P bm (.slice oO nO cO) bs vA (.slice oF b.fs.length cF) (eW (ai ls) b x) vs (wA.setCell ⟨P,0,none⟩ vA)):=λW vA wA mW sA mA lA=>by obtain⟨oA,cA,Ar,_⟩:=sA.view;exact⟨⟨oA,cA,Ar⟩,(HB3.o.quiet mW).bd.aav mA,(HB3.o.quiet mW).map (ai ls) hx sA mA lA⟩
    have HMW:ae (∀W,aa af W3 W->Sl W 141 4 (.slice oM b.ms.length cM) b.ms.length (b.ms.flatMap dD.cells)):=λW mW=>(HB3.o.quiet mW).bd.maps;have HBE:ae (∀e:Ext (λk=>(Value.slice oM b.ms.length cM).ownBlock=some k) W3,aq e.w P #[.slice oM b.ms.length cM,.slice oF b.fs.length cF] 85/\aq e.w B cs 119):=λe=>⟨HB3.o.bd.aav e.m,CS.o.ah e.m (λh=>HB3.o.bd.maps.az CS.o (by decide) h)⟩
    have JU:ae (aK (ai ls) (ls.take (k+1))=eW (ai ls) b x/\(eW (ai ls) b x).slot=b.slot):=⟨HS.o,by unfold eW;rw[iP9 hx]⟩
    obtain⟨iP,hiP,qH,hsP,vZ⟩:=info_parts Sv;clear hx HS HI HO4 iG HC4 Nt HB3;generalize pT x=pm at *;generalize eW (ai ls) b x=b' at *;go_upto_region 9 with fail
    haveI:Nonempty (Ext (λk=>(Value.slice oM b.ms.length cM).ownBlock=some k) W3):=Ext.ne _ _
    have d0:∀e:Ext (λk=>(Value.slice oM b.ms.length cM).ownBlock=some k) W3,e.w.cell? ⟨P,0,none⟩=some (.slice oM b.ms.length cM):=λe=>(HBE.o e).1.cell 0;have HLD:=ak CS.o.drew;refine bR 6 [2,3,4,5] (λw'=>∃e:Ext (λk=>(Value.slice oM b.ms.length cM).ownBlock=some k) W3,w'=e.w) (by kernel_rfl) (by kernel_rfl) ⟨⟨_,(aa.refl _ _).drew⟩,rfl⟩ ?_;simp only[cb,bt,cc,cj]
    iterate 2 (refine aB rfl rfl rfl ?_;intro K hK;go_big_quiet_op;go_big_quiet_on)
    refine aF rfl rfl ?_;intro K hK;refine wp_load_row 119 (.tmp 8) rfl B rfl 119 cs (0,0) _ HLD.o underlying119 rfl (by rw[gR.o];kernel_rfl) ?_;refine hK _ _ rfl ⟨⟨_,(aa.refl _ _).drew⟩,rfl⟩ ?_;clear hK K
    try simp only[Act.put,sA9,sB9,sC9]
    refine aF rfl rfl ?_;intro K hK;go_big_op;refine(HMC _).mono ?_;rintro e w4 ⟨rfl,m4⟩;have M4:ae (aa af W3 w4):=((aa.refl _ _).drew).trans m4;refine hK _ _ rfl ⟨⟨_,M4.o.of_nil⟩,rfl⟩ ?_;clear hK K m4
    try simp only[Act.put,sA9,sB9,sC9]
    refine aF rfl rfl ?_;intro K hK;refine jG 82 141 4 (.tmp 28) rfl #[.string (T pm.name),.int .u8 (pm.key:Nat),.int .u8 (pm.value:Nat),.int .u8 (pm.entries:Nat)] rfl rfl iP _ underlying82 hiP qH hsP (by decide) (by decide) ?_;have M5:ae (aa af W3 (w4.alloc (.cells #[.string (T pm.name),.int .u8 (pm.key:Nat),.int .u8 (pm.value:Nat),.int .u8 (pm.entries:Nat)] 141))):=M4.o.alloc _;refine hK _ _ rfl ⟨⟨_,M5.o.of_nil⟩,rfl⟩ ?_;clear hK K
    try simp only[Act.put,sA9,sB9,sC9]
    refine aF rfl rfl ?_;intro K hK;refine cZ _ (.tmp 26) (.tmp 29) 82 rfl 141 iP (.agg #[.string E0,.int .u8 0,.int .u8 0,.int .u8 0]) 4 24 underlying82 hiP qH hsP vZ rfl (by decide) (.slice oM b.ms.length cM) b.ms.length (b.ms.flatMap dD.cells) rfl (HMW.o _ M5.o) ⟨w4.heap.size,0,none⟩ 1 1 (#[.string (T pm.name),.int .u8 (pm.key:Nat),.int .u8 (pm.value:Nat),.int .u8 (pm.entries:Nat)]:tAV).toList rfl rfl (aT _ _ _ _ rfl) (by simp[Value.oneCell']) (by unfold maxLen;omega) (by omega) ?_;intro vA wA sA mA lA;obtain⟨⟨oA,cA,Ar⟩,JY,Qs⟩:=HBS.o _ vA wA M5.o sA mA lA;subst Ar;have MA:ae (aa (λk=>(Value.slice oM b.ms.length cM).ownBlock=some k) W3 wA):=(M5.o.of_nil).trans mA;refine hK _ _ rfl ⟨⟨_,MA.o⟩,rfl⟩ ?_;clear hK K;refine cu ?_;have pA0:=JY.cell 0;have pAf:=JY.frozen;have HWA:=ak Qs;clear sA mA lA JY Qs;go_wp2_with fail;go_roundg (ls.length-(k+1))
    case measure=>omega
    case rel=>exact⟨k+1,_,_,vs,by omega,by go_num,by rw[JU.o.1,JU.o.2],by rw[JU.o.1];exact HWA.o,rfl⟩
   ·have q1:((x.kind:Int)==1)=false:=by rw[hx];rfl
    have q2:((x.kind:Int)==2)=true:=by rw[hx];rfl
    have c1:W3.cell? ⟨B,1,none⟩=some (.string (T x.name)):=(CS.o.cell 1).trans (Nt.o (by omega));have HBS:ae (∀W vA wA,aa af W3 W->Sl wA 145 2 vA (b.fs.length+1) (((b.fs.map (·.name)).zip vs).flatMap GJ++GJ (x.name,.slice none 0 0))->aa (λk=>(Value.slice oF b.fs.length cF).ownBlock=some k) W wA->(∀k,vA.ownBlock=some k->(Value.slice oF b.fs.length cF).ownBlock=some k\/W.heap.size<=k)->(∃oA cA,vA=.slice oA (b.fs.length+1) cA)/\aq wA P #[.slice oM b.ms.length cM,.slice oF b.fs.length cF] 85/\GU w R A P bm (.slice oO nO cO) bs (.slice oM b.ms.length cM) vA (eW (ai ls) b x) (vs++[.slice none 0 0]) (wA.setCell ⟨P,1,none⟩ vA)):=λW vA wA mW sA mA lA=>by obtain⟨oA,cA,Ar,_⟩:=sA.view;have hq:=HB3.o.quiet mW;exact⟨⟨oA,cA,Ar⟩,hq.bd.blk.ah mA (λe=>hq.bd.rows.az hq.bd.blk (by decide) e),hq.func (ai ls) hx sA mA lA⟩
    have HMW:ae (∀W,aa af W3 W->Sl W 145 2 (.slice oF b.fs.length cF) b.fs.length (((b.fs.map (·.name)).zip vs).flatMap GJ)):=λW mW=>(HB3.o.quiet mW).bd.rows;have JU:ae (aK (ai ls) (ls.take (k+1))=eW (ai ls) b x/\(eW (ai ls) b x).slot=0):=⟨HS.o,by unfold eW;rw[iN9 (by omega),iP9 hx]⟩
    obtain⟨iP,hiP,qH,hsP,vZ⟩:=info_parts NC;clear hx HS HI HO4 iG HC4 Nt HB3;generalize eW (ai ls) b x=b' at *;generalize x.name=nm at *;have M5:ae (aa af W3 (W3.alloc (.cells #[.string (T nm),.slice none 0 0] 145))):=(aa.refl _ _).alloc _;go_wp2_with (first |(refine wpList_plain rfl λ_ hK=>jG 83 145 2 (.tmp 38) rfl #[.string (T nm),.slice none 0 0] rfl rfl iP _ underlying83 hiP qH hsP (by decide) (by decide) (hK _ _ ?_);clear hK) |(at_builtin;(refine aJ _ rfl (.tmp 35) (.tmp 39) 83 rfl 145 iP (.agg #[.string E0,.slice none 0 0]) 2 40 underlying83 hiP qH hsP vZ rfl (by decide) (.slice oF b.fs.length cF) b.fs.length (((b.fs.map (·.name)).zip vs).flatMap GJ) rfl (HMW.o _ M5.o) ⟨W3.heap.size,0,none⟩ 1 1 (#[.string (T nm),.slice none 0 0]:tAV).toList rfl rfl (aT _ _ _ _ rfl) (by simp[Value.oneCell']) (by unfold maxLen;omega) (by omega) ?_;intro vA wA sA mA lA;obtain⟨⟨oA,cA,Ar⟩,JY,Qs⟩:=HBS.o _ vA wA M5.o sA mA lA;subst Ar;have pA1:=JY.cell 1;have pAf:=JY.frozen;have HWA:ae (GU w R A P bm (.slice oO nO cO) bs (.slice oM b.ms.length cM) (.slice oA (b.fs.length+1) cA) b' (vs++[.slice none 0 0]) (wA.setCell ⟨P,1,none⟩ (.slice oA (b.fs.length+1) cA))):=Qs;clear sA mA lA JY Qs)));go_roundg (ls.length-(k+1))
    case measure=>omega
    case rel=>exact⟨k+1,_,_,_,by omega,by go_num,by rw[JU.o.1,JU.o.2];rfl,by rw[JU.o.1];exact HWA.o,rfl⟩
   ·have q1:((x.kind:Int)==1)=false:=by rw[hx];rfl
    have q2:((x.kind:Int)==2)=false:=by rw[hx];rfl
    have q4:((x.kind:Int)==4)=true:=by rw[hx];rfl
    have hpos:=HI.o hx;have hi:((b.fs.length:Int)-1)=((b.fs.length-1:Nat):Int):=by omega
    have acG:ae (b.fs.length-1<nO):=by have:=HFL.o;rw[ae];omega
    obtain⟨gO,hoO,hcO,hOR⟩:=HOR.o (b.fs.length-1) acG.o;subst hoO;have ahs:=HTG.o (b.fs.length-1) acG.o x.x.r.label;have HJM:ae (zX (ai ls) (b.fs.length-1) b.slot x.x=if x.x.o.jumps then(((dC ((ai ls).fs.getD (b.fs.length-1) {}).aP x.x.r.label).getD 0:Nat):Int)-b.slot-x.x.o.slots else x.x.r.jump):=rfl;have JU:ae (aK (ai ls) (ls.take (k+1))=eW (ai ls) b x/\(eW (ai ls) b x).slot=b.slot+x.x.o.slots):=⟨HS.o,by unfold eW;rw[iN9 (by omega),iN9 (by omega),iP9 hx]⟩
    have Pt:=ak HB3.o.bd.md
    have HIC:ae (∀j (h:j<(#[.pointer (some ⟨bs[x.x.k]?.getD 0,0,none⟩),.int .u8 x.x.r.d,.int .u8 x.x.r.s,.int .i16 x.x.r.jump,.int .i32 x.x.r.num,.int .i32 x.x.r.high,.string (T x.x.r.label),.string (T x.x.r.name)]:tAV).size),W3.cell? ⟨B,11+j,none⟩=some (#[.pointer (some ⟨bs[x.x.k]?.getD 0,0,none⟩),.int .u8 x.x.r.d,.int .u8 x.x.r.s,.int .i16 x.x.r.jump,.int .i32 x.x.r.num,.int .i32 x.x.r.high,.string (T x.x.r.label),.string (T x.x.r.name)]:tAV)[j]):=λj hj=>by
     rw[CS.o.cell,HC4.o hx]
     match j,hj with
     |0,_=>rfl
     |1,_=>rfl
     |2,_=>rfl
     |3,_=>rfl
     |4,_=>rfl
     |5,_=>rfl
     |6,_=>rfl
     |7,_=>rfl
    have Ye:ae (∀w',aa af w w'->dM w' (bs[x.x.k]?.getD 0) x.x.o):=λw' m'=>HO4.o w' m' hx;have J3:ae (b.fs.length-1<b.fs.length/\b.fs.length-1<vs.length):=⟨by omega,by rw[HB3.o.bd.len];omega⟩
    have ad2:=ak x.x.yh;have HZ2:ae (aq (W3.alloc (.cells Z8 117)) W3.heap.size Z8 117):=aq.new W3 _ _;clear HI HO4 iG HC4 Nt HS HOR HTG;go_upto_region 15 with(first |(refine dR rfl 117 (.tmp 44) rfl B 11 rfl #[.pointer (some ⟨bs[x.x.k]?.getD 0,0,none⟩),.int .u8 x.x.r.d,.int .u8 x.x.r.s,.int .i16 x.x.r.jump,.int .i32 x.x.r.num,.int .i32 x.x.r.high,.string (T x.x.r.label),.string (T x.x.r.name)] _ HIC.o underlying117 rfl (by kernel_rfl) ?_) |(refine dI rfl 117 (.tmp 10) (.tmp 45) rfl W3.heap.size _ rfl rfl 117 _ HZ2.o (by kernel_rfl) (by rfl) (by simp[Value.oneCell']) ?_;intro W4 hB4 hm4))
    have HNI:ae (∀u∈vs,∀k,u.ownBlock=some k->k≠W3.heap.size):=λu hu k hk e=>by obtain⟨code,hc⟩:=HB3.o.bd.uy hu;have:=hc.lt k hk;omega
    have HI4:=ak hB4;have jJ:=ak hm4.fresh;have HBS:ae (∀W vA wA u aP,aa af W3 W->vs[b.fs.length-1]'(J3.o.2)=u->∀gF cF',oF=some ⟨gF,0,none⟩->cF'=cF->aP.length=(b.fs[b.fs.length-1]'(J3.o.1)).code.length->Sl wA 117 8 vA ((b.fs[b.fs.length-1]'(J3.o.1)).code.length+1) (vD bs ((b.fs[b.fs.length-1]'(J3.o.1)).code.zip aP)++[.pointer (some ⟨bs[x.x.k]?.getD 0,0,none⟩),.int .u8 x.x.r.d,.int .u8 x.x.r.s,.int .i16 (zX (ai ls) (b.fs.length-1) b.slot x.x),.int .i32 x.x.r.num,.int .i32 x.x.r.high,.string (T x.x.r.label),.string (T x.x.r.name)])->aa (λk=>u.ownBlock=some k) W wA->(∀k,vA.ownBlock=some k->u.ownBlock=some k\/W.heap.size<=k)->(∃oA cA,vA=.slice oA ((b.fs[b.fs.length-1]'(J3.o.1)).code.length+1) cA)/\GU w R A P bm (.slice (some ⟨gO,0,none⟩) nO cO) bs (.slice oM b.ms.length cM) (.slice oF b.fs.length cF) (eW (ai ls) b x) (vs.set (b.fs.length-1) vA) (wA.setCell ⟨gF,(b.fs.length-1)*2+1,none⟩ vA)):=λW vA wA u aP mW hu gF cF' hoF hcF hlb sA mA lA=>by obtain⟨oA,cA,Ar,_⟩:=sA.view;have hq:=HB3.o.quiet mW;subst hoF;exact⟨⟨oA,cA,Ar⟩,hq.instr (ai ls) hx rfl J3.o.1 J3.o.2 rfl hu hlb (lab:=T x.x.r.label) sA mA lA⟩
    obtain⟨z1,z2,z3,z4,z5,z6,z7,z8,z9,z10,z11,AR,_⟩:=(Ye.o W4 (Pt.o.trans jJ.o)).ex;have o3:=AR.cell 3;have i0:=HI4.o.cell 0;clear AR HZ2 HIC hB4 hm4 hx;generalize hjj:zX (ai ls) (b.fs.length-1) b.slot x.x=jj at *;clear hjj;generalize eW (ai ls) b x=b' at *;generalize hI:W3.heap.size=I at *;have HIL:ae (W3.heap.size<=I):=Nat.le_of_eq hI;clear hI;go_upto_if 50 with fail;go_cut [] (λwx=>aa af W3 wx/\aq wx I #[.pointer (some ⟨bs[x.x.k]?.getD 0,0,none⟩),.int .u8 x.x.r.d,.int .u8 x.x.r.s,.int .i16 jj,.int .i32 x.x.r.num,.int .i32 x.x.r.high,.string (T x.x.r.label),.string (T x.x.r.name)] 117)
    case first =>
     have acH:ae (∀W,aa af W4 W->x.x.o.jumps=true->Calls prog 56 #[.agg #[.pointer (some ⟨bs[x.x.k]?.getD 0,0,none⟩),.int .u8 x.x.r.d,.int .u8 x.x.r.s,.int .i16 x.x.r.jump,.int .i32 x.x.r.num,.int .i32 x.x.r.high,.string (T x.x.r.label),.string (T x.x.r.name)],.int .i64 b.slot,.int .i64 ((dC ((ai ls).fs.getD (b.fs.length-1) {}).aP x.x.r.label).getD 0:Nat)] W λe w'=>e=.returned (.int .i16 jj)/\aa af W w'):=λW mW hj=>by refine(NQ W _ x.x.o (Ye.o W (Pt.o.trans (jJ.o.trans mW))) x.x.r.d x.x.r.s x.x.r.num x.x.r.high x.x.r.jump (T x.x.r.label) (T x.x.r.name) b.slot _ (by omega) (by omega) ad2.o).mono ?_;rintro e w' ⟨rfl,m'⟩;have hjm:=HJM.o;rw[iP9 hj]at hjm;exact⟨by rw[hjm],m'⟩
     generalize hjb:x.x.o.jumps=jb at *;cases jb with
     |false =>
      have HJ3:ae (jj=x.x.r.jump):=by have:=HJM.o;rw[ae];simpa using this
      clear acH HJM;go_wp2_with fail;go_meet;rw[HJ3.o];exact⟨jJ.o,HI4.o⟩
     |true =>
      go_upto_region 16 with fail;have gV:ae (aa af W4 W4.drew):=(aa.refl _ _).drew;refine dz 11 (by kernel_rfl) (by kernel_rfl) ?_;intro W hW;rw[<-hW]at gV;clear hW;have ET:=ak (HI4.o.ah gV.o id);have j0:=ET.o.cell 0;have j1:=ET.o.cell 1;have j2:=ET.o.cell 2;have j3:=ET.o.cell 3;have j4:=ET.o.cell 4;have j5:=ET.o.cell 5;have j6:=ET.o.cell 6;have j7:=ET.o.cell 7;have a1:W.cell? ⟨A,1,none⟩=some (.slice (some ⟨gO,0,none⟩) nO cO):=(HB3.o.quiet (jJ.o.trans gV.o)).all.cell 1;obtain⟨oc,hlb⟩:=hOR W (Pt.o.trans (jJ.o.trans gV.o));have hlk:=hlb.ada x.x.r.label;have HJT:=acH.o W gV.o rfl;have um:=acG.o;clear hlb HJM acH;generalize(dC ((ai ls).fs.getD (b.fs.length-1) {}).aP x.x.r.label).getD 0=tg at *;simp only[cb,bt,cc,cj]
      repeat(go_big_quiet_step (fail))
      refine wpQuiet_nil ?_;go_wp2_with fail;refine HJT.mono ?_;rintro e w6 ⟨rfl,m6⟩;have hI6:=ET.o.ah m6 id;have k3:=hI6.cell 3;have kf:=hI6.frozen;have HI7:ae (aq (w6.setCell ⟨I,3,none⟩ (.int .i16 jj)) I #[.pointer (some ⟨bs[x.x.k]?.getD 0,0,none⟩),.int .u8 x.x.r.d,.int .u8 x.x.r.s,.int .i16 jj,.int .i32 x.x.r.num,.int .i32 x.x.r.high,.string (T x.x.r.label),.string (T x.x.r.name)] 117):=hI6.set 3 _;have Sd:ae (aa af W3 (w6.setCell ⟨I,3,none⟩ (.int .i16 jj))):=(jJ.o.trans (gV.o.trans m6)).step ((aa.refl (Only I) _).bP 3 _) (λi hi e=>by have e':i=I:=e;have:=HIL.o;omega);clear m6 hI6 j0 j1 j2 j3 j4 j5 j6 j7 a1 oc hlk HJT;go_wp2_with fail;go_meet;exact⟨Sd.o,HI7.o⟩
    case rest =>
    obtain⟨hM7,hI7⟩:=hcut;have Sd:=ak hM7;have HI7:=ak hI7;have Uu:=ak (HB3.o.quiet hM7);clear hM7 hI7 o3 i0 HI4 jJ p0 p1 c0;obtain⟨oF',cF',ag0,QV⟩:=Uu.o.bd.rows.view;injection ag0 with e1 e2 e3;subst e1 e3;obtain⟨gF,wZ,rfl,QV,htF,hcF,_⟩:=QV (by omega);have HVF:ae (∀W,aq W gF wZ 145->W.cell? ⟨gF,(b.fs.length-1)*2+1,none⟩=some (vs[b.fs.length-1]'(J3.o.2))):=λW hW=>by rw[bA hW htF _ (by omega),flat_get GJ 2 (λ_=>rfl) _ (b.fs.length-1) 1 (by have:=J3.o;simp;omega) (by omega),Wh _ _ _ (by simpa using J3.o.1) J3.o.2];rfl
    obtain⟨aP,hl1,hl2⟩:=Uu.o.bd.code _ J3.o.1 J3.o.2;have HCL:=ak hl1;have aht:=hb5 _ (an J3.o.1);have HVN:ae (vs[b.fs.length-1]'(J3.o.2)∈vs):=an _;obtain⟨oC,cC,hvC,_⟩:=hl2.view;have ag1:=HBS.o;clear HBS;generalize(b.fs[b.fs.length-1]'(J3.o.1)).code=code at *;generalize(vs[b.fs.length-1]'(J3.o.2))=vC at *;subst hvC;have HBW:ae (∀e:Ext (λk=>(Value.slice oC code.length cC).ownBlock=some k) wc,aq e.w P #[.slice oM b.ms.length cM,.slice (some ⟨gF,0,none⟩) b.fs.length cF] 85/\aq e.w gF wZ 145/\aq e.w I #[.pointer (some ⟨bs[x.x.k]?.getD 0,0,none⟩),.int .u8 x.x.r.d,.int .u8 x.x.r.s,.int .i16 jj,.int .i32 x.x.r.num,.int .i32 x.x.r.high,.string (T x.x.r.label),.string (T x.x.r.name)] 117):=λe=>⟨Uu.o.bd.blk.ah e.m (λh=>hl2.az Uu.o.bd.blk (by decide) h),QV.ah e.m (λh=>hl2.az QV (by decide) h),HI7.o.ah e.m (λh=>HNI.o _ HVN.o I h rfl)⟩
    have HSW:ae (∀W,aa af wc W->Sl W 117 8 (.slice oC code.length cC) code.length (vD bs (code.zip aP))):=λW mW=>hl2.ah mW (λ_ _=>id);have HNG:ae (I≠gF):=HI7.o.apart QV (by decide);obtain⟨iP,hiP,qH,hsP,vZ⟩:=info_parts NB;clear hl1 hl2 QV htF;go_upto_region 17 with fail
    haveI:Nonempty (Ext (λk=>(Value.slice oC code.length cC).ownBlock=some k) wc):=Ext.ne _ _
    have d1:∀e:Ext (λk=>(Value.slice oC code.length cC).ownBlock=some k) wc,e.w.cell? ⟨P,1,none⟩=some (.slice (some ⟨gF,0,none⟩) b.fs.length cF):=λe=>(HBW.o e).1.cell 1;have d2:∀e:Ext (λk=>(Value.slice oC code.length cC).ownBlock=some k) wc,e.w.cell? ⟨gF,(b.fs.length-1)*2+1,none⟩=some (.slice oC code.length cC):=λe=>HVF.o _ (HBW.o e).2.1;have HID:=ak HI7.o.drew;have hn1:b.fs.length-1<b.fs.length:=J3.o.1;refine bR 12 [9,10,11] (λw'=>∃e:Ext (λk=>(Value.slice oC code.length cC).ownBlock=some k) wc,w'=e.w) (by kernel_rfl) (by kernel_rfl) ⟨⟨_,(aa.refl _ _).drew⟩,rfl⟩ ?_;simp only[cb,bt,cc,cj]
    iterate 9 (refine aB rfl rfl rfl ?_;intro K hK;go_big_quiet_op;go_big_quiet_on)
    refine aF rfl rfl ?_;intro K hK;refine wp_load_row 117 (.tmp 10) rfl I rfl 117 _ (0,0) _ HID.o underlying117 rfl (by kernel_rfl) ?_;refine hK _ _ rfl ⟨⟨_,(aa.refl _ _).drew⟩,rfl⟩ ?_;clear hK K
    try simp only[Act.put,sA9,sB9,sC9]
    refine aF rfl rfl ?_;intro K hK;refine jG 143 117 8 (.tmp 73) rfl #[.pointer (some ⟨bs[x.x.k]?.getD 0,0,none⟩),.int .u8 x.x.r.d,.int .u8 x.x.r.s,.int .i16 jj,.int .i32 x.x.r.num,.int .i32 x.x.r.high,.string (T x.x.r.label),.string (T x.x.r.name)] rfl rfl iP _ underlying143 hiP qH hsP (by decide) (by decide) ?_;have M5:ae (aa af wc (wc.drew.alloc (.cells #[.pointer (some ⟨bs[x.x.k]?.getD 0,0,none⟩),.int .u8 x.x.r.d,.int .u8 x.x.r.s,.int .i16 jj,.int .i32 x.x.r.num,.int .i32 x.x.r.high,.string (T x.x.r.label),.string (T x.x.r.name)] 117))):=((aa.refl _ _).drew).alloc _;refine hK _ _ rfl ⟨⟨_,M5.o.of_nil⟩,rfl⟩ ?_;clear hK K
    try simp only[Act.put,sA9,sB9,sC9]
    refine aF rfl rfl ?_;intro K hK;refine cZ _ (.tmp 72) (.tmp 74) 143 rfl 117 iP (.agg Z8) 8 56 underlying143 hiP qH hsP vZ rfl (by decide) (.slice oC code.length cC) code.length (vD bs (code.zip aP)) rfl (HSW.o _ M5.o) ⟨wc.drew.heap.size,0,none⟩ 1 1 (#[.pointer (some ⟨bs[x.x.k]?.getD 0,0,none⟩),.int .u8 x.x.r.d,.int .u8 x.x.r.s,.int .i16 jj,.int .i32 x.x.r.num,.int .i32 x.x.r.high,.string (T x.x.r.label),.string (T x.x.r.name)]:tAV).toList rfl rfl (aT _ _ _ _ rfl) (by simp[Value.oneCell']) (by unfold maxLen;omega) (by omega) ?_;intro vA wA sA mA lA;obtain⟨⟨oA,cA,Ar⟩,Qs⟩:=ag1 _ vA wA _ aP (Sd.o.trans M5.o) rfl gF cF rfl rfl HCL.o sA mA lA;subst Ar;have MA:ae (aa (λk=>(Value.slice oC code.length cC).ownBlock=some k) wc wA):=(M5.o.of_nil).trans mA;refine hK _ _ rfl ⟨⟨_,MA.o⟩,rfl⟩ ?_;clear hK K;refine cu ?_;obtain⟨_,hgA,hIA⟩:=HBW.o ⟨_,MA.o⟩;have gA1:=HVF.o _ hgA;have gAf:=hgA.frozen;have HWA:=ak Qs;have hI9:aq (wA.setCell ⟨gF,(b.fs.length-1)*2+1,none⟩ (.slice oA (code.length+1) cA)) I _ 117:=hIA.ah ((aa.refl (Only gF) _).bP _ _) (λe=>HNG.o e);have i9:=hI9.cell 0;obtain⟨z1,z2,z3,z4,z5,z6,z7,z8,z9,z10,z11,ad3,_⟩:=(Ye.o _ HWA.o.bd.md).ex;have o9:=ad3.cell 2;have hs2:=ad2.o;clear sA mA lA Qs hgA hIA hI9 ad3;go_wp2_with fail;go_roundg (ls.length-(k+1))
    case measure=>omega
    case rel=>exact⟨k+1,_,_,_,by omega,by go_num,by rw[JU.o.1,JU.o.2];go_num,by rw[JU.o.1];exact HWA.o,rfl⟩
   ·have q1:((x.kind:Int)==1)=false:=by rw[beq_eq_false_iff_ne];omega
    have q2:((x.kind:Int)==2)=false:=by rw[beq_eq_false_iff_ne];omega
    have q4:((x.kind:Int)==4)=false:=by rw[beq_eq_false_iff_ne];omega
    have HE:ae (eW (ai ls) b x=b):=by rw[ae,eW,iN9 hx.1,iN9 hx.2.1,iN9 hx.2.2]
    clear hx;go_wp2_with fail;go_roundg (ls.length-(k+1))
    case measure=>omega
    case rel=>exact⟨k+1,_,_,vs,by omega,by go_num,by rw[HS.o,HE.o],by rw[HS.o,HE.o];exact HB3.o,rfl⟩
  ·have hend:=Jg.o k hlt;rw[hend]at HB
   have ad4:ae (∀(W:tW) (ms':List dD) (rs':List iJ),rs'.Perm (cd Jz (aK (ai ls) ls).fs vs)->ms'.Perm (aK (ai ls) ls).ms->ms'.Pairwise (λx y=>jO (T y.name) (T x.name)=false)->rs'.Pairwise (λx y=>jO (T y.f.name) (T x.f.name)=false)->Sl W 141 4 (.slice oM (aK (ai ls) ls).ms.length cM) ms'.length (ms'.flatMap dD.cells)->Sl W 145 2 (.slice oF (aK (ai ls) ls).fs.length cF) rs'.length (rs'.flatMap iJ.cells)->aa (λk=>(Value.slice oM (aK (ai ls) ls).ms.length cM).ownBlock=some k\/(Value.slice oF (aK (ai ls) ls).fs.length cF).ownBlock=some k) wr W->aq W P #[.slice oM (aK (ai ls) ls).ms.length cM,.slice oF (aK (ai ls) ls).fs.length cF] 85/\aq W R #[.slice none 0 0,.slice none 0 0] 85/\∀W',aa (Only R) W W'->RP (.returned (.agg #[.slice oM (aK (ai ls) ls).ms.length cM,.slice oF (aK (ai ls) ls).fs.length cF])) W'):=λW ms' rs' hp hpm hw1 hw2 sM sF mW=>by
    have hbd:=HB.o.bd;have hB:aq W P #[.slice oM (aK (ai ls) ls).ms.length cM,.slice oF (aK (ai ls) ls).fs.length cF] 85:=hbd.blk.ah mW (λh=>h.elim (λh=>hbd.maps.az hbd.blk (by decide) h) (λh=>hbd.rows.az hbd.blk (by decide) h));have hR:aq W R #[.slice none 0 0,.slice none 0 0] 85:=HB.o.res.ah mW (λh=>h.elim (λh=>hbd.maps.az HB.o.res (by decide) h) (λh=>hbd.rows.az HB.o.res (by decide) h));refine⟨hB,hR,λW' mR=>?_⟩;have mW':aa (λk=>(Value.slice oM (aK (ai ls) ls).ms.length cM).ownBlock=some k\/(Value.slice oF (aK (ai ls) ls).fs.length cF).ownBlock=some k\/k=R) wr W':=(mW.mono (λ_ _ h=>h.elim .inl (λh=>.inr (.inl h)))).trans (mR.mono (λ_ _ h=>.inr (.inr h)))
    have hmd:aa af w W':=hbd.md.step mW' (λi hi h=>by
     rcases h with h|h|h
     ·have:=hbd.zY i h;omega
     ·have:=hbd.vG i h;omega
     ·omega)
    have sM':=sM.ah mR (λk hk e=>sM.az hR (by decide) (hk.trans (congrArg some e)));have sF':=sF.ah mR (λk hk e=>sF.az hR (by decide) (hk.trans (congrArg some e)));obtain⟨hP,hpf⟩:=HB.o.sorted hp sM' sF' mW' (HOI.o W' hmd);exact HRP.o _ W' ⟨_,_,ms',rs'.map (·.f),_,rfl,hP,hpm,hw1,hpf,List.pairwise_map.2 hw2,hmd⟩
   have HSO:ae (Calls prog 57 #[.agg #[.slice oM (aK (ai ls) ls).ms.length cM,.slice oF (aK (ai ls) ls).fs.length cF]] wr λr w'=>r=.returned (.tuple #[])/\∃(ms':List dD) (rs':List iJ),ms'.Perm (aK (ai ls) ls).ms/\ms'.Pairwise (λx y=>jO (T y.name) (T x.name)=false)/\rs'.Perm (cd Jz (aK (ai ls) ls).fs vs)/\rs'.Pairwise (λx y=>jO (T y.f.name) (T x.f.name)=false)/\Sl w' 141 4 (.slice oM (aK (ai ls) ls).ms.length cM) ms'.length (ms'.flatMap dD.cells)/\Sl w' 145 2 (.slice oF (aK (ai ls) ls).fs.length cF) rs'.length (rs'.flatMap iJ.cells)/\aa (λb=>(Value.slice oM (aK (ai ls) ls).ms.length cM).ownBlock=some b\/(Value.slice oF (aK (ai ls) ls).fs.length cF).ownBlock=some b) wr w'):=by
    obtain⟨h1,h2,h3⟩:=yA _ vs HB.o.bd.len HB.o.bd.slices;have hl:(cd Jz (aK (ai ls) ls).fs vs).length=(aK (ai ls) ls).fs.length:=by rw[List.length_zipWith,HB.o.bd.len];simp
    rw[hend]at hb3 hb4;refine Ti wr _ _ _ (cd Jz (aK (ai ls) ls).fs vs) (by omega) (by omega) HB.o.bd.maps ?_;rw[h1,hl];exact HB.o.bd.rows
   have p0:wr.cell? ⟨P,0,none⟩=some (.slice oM (aK (ai ls) ls).ms.length cM):=HB.o.bd.blk.cell 0;have p1:wr.cell? ⟨P,1,none⟩=some (.slice oF (aK (ai ls) ls).fs.length cF):=HB.o.bd.blk.cell 1;rw[hend];clear hend HB Yh HST Jg Ji Fb HMO x8 HOA hb1 hb2 hb3 hb4 hb5 HOI HRP;generalize aK (ai ls) ls=b at *;go_wp2_with fail;refine HSO.o.mono ?_;rintro e w5 ⟨rfl,ms',rs',hp1,hp2,hp3,CQ,hs1,hs2,hm5⟩;obtain⟨hB5,hR5,hfin⟩:=ad4.o w5 ms' rs' hp3 hp1 hp2 CQ hs1 hs2 hm5;have HFI:=ak hfin;have b0:=hB5.cell 0;have b1:=hB5.cell 1;have r0:=hR5.cell 0;have r1:=hR5.cell 1;have rf:=hR5.frozen;have HR6:ae (aq ((w5.setCell ⟨R,0,none⟩ (.slice oM b.ms.length cM)).setCell ⟨R,1,none⟩ (.slice oF b.fs.length cF)) R #[.slice oM b.ms.length cM,.slice oF b.fs.length cF] 85):=(hR5.set 0 _).set 1 _;have E5:ae (aa (Only R) w5 ((w5.setCell ⟨R,0,none⟩ (.slice oM b.ms.length cM)).setCell ⟨R,1,none⟩ (.slice oF b.fs.length cF))):=((aa.refl _ _).bP _ _).bP _ _;clear hp1 hp2 hp3 CQ hs1 hs2 hm5 hfin ad4 HSO hB5 hR5;go_wp2_with fail;exact bodyPost_ret (results_cell_row results29 _ _ R 85 #[.slice oM b.ms.length cM,.slice oF b.fs.length cF] (0,0) _ rfl HR6.o underlying85 rfl (by kernel_rfl)) rfl (HFI.o _ E5.o)
def YG(x:bV):Prop:=∃t,Ch x (ahO (T t))
theorem Br:∀(ts:List tLB) (kM:Bool) (n:Nat) (acc ls:List bV),ahL ts kM n acc=.inl ls->(∀x∈acc,YG x)->∀x∈ls,YG x
 |[],_,_,acc,ls,h,ha=>by rw[ahL]at h;injection h with h;subst h;exact ha
 |t::ts,kM,n,acc,ls,h,ha=>by
  rw[ahL]at h;cases hl:bY t with
  |none=>rw[hl]at h;cases h
  |some x =>
   rw[hl]at h;dsimp only at h;split at h
   ·cases h
   ·refine Br ts _ _ _ ls h (λy hy=>?_);rcases List.mem_append.1 hy with hy|hy
    ·exact ha y hy
    ·rw[List.mem_singleton.1 hy];exact⟨t,(yG t).1 x hl⟩
theorem Ez{n:tLB}(h:ahI n=true):n.length<=16:=by unfold ahI at h;simp only[b9,decide_eq_true_eq]at h;exact h.1.1
theorem YG.name{x:bV}(h:YG x)(hk:x.kind=1\/x.kind=2\/x.kind=3):ahI x.name=true:=by
 obtain⟨t,h⟩:=h;rcases h.kd with h|h|h|h|h
 ·omega
 ·exact h.2.2.2.2.2
 ·exact h.2.2.2
 ·exact h.2.2.2
 ·omega
theorem YG.ins{x:bV}(h:YG x)(hk:x.kind=4):∃y,mh x.x y:=by
 obtain⟨t,h⟩:=h;rcases h.kd with h|h|h|h|h
 ·omega
 ·omega
 ·omega
 ·omega
 ·exact⟨_,h.2⟩
theorem Hq:∀(fs gs:List qd),dU (fs++gs)=dU fs+dU gs
 |[],gs=>by simp[dU]
 |f::fs,gs=>by rw[List.cons_append,dU,dU,Hq fs gs];omega
theorem Hr:∀(fs:List qd) (i:Nat) (h:i<fs.length) (g:qd),dU (fs.set i g)+fs[i].code.length=dU fs+g.code.length
 |f::fs,0,_,g=>by rw[List.set_cons_zero,dU,dU];simp;omega
 |f::fs,i+1,h,g=>by rw[List.set_cons_succ,dU,dU,List.getElem_cons_succ];have:=Hr fs i (by simpa using h) g;omega
theorem PZ{fs gs:List qd}(h:fs.Perm gs):dU fs=dU gs:=by
 induction h with
 |nil=>rfl
 |cons x _ ih=>rw[dU,dU,ih]
 |swap x y l=>rw[dU,dU,dU,dU];omega
 |trans _ _ h1 h2=>rw[h1,h2]
theorem Ck(x:bH)(h:x.k<88):1<=x.o.slots:=by
 have:∀k,k<88->1<=(ax[k]?.getD bU).slots:=by decide +kernel
 exact this x.k h
structure YH(k:WK)(b:BS):Prop where
 m:b.ms.length=k.maps.length
 m8:k.maps.length<=8
 f:b.fs.length=k.funcs.length
 f16:k.funcs.length<=16
 tot:dU b.fs<=k.slots
 sl:b.slot<=k.slots
 TV:k.slots<=200
 pm:∀x∈b.ms,x.name.length<=16/\x.key<=16/\x.value<=16/\x.entries<=16
 fn:∀f∈b.fs,f.name.length<=16/\∀x∈f.code,NA x/\x.name.length<=16
theorem pJ{a:aA}{most:Int}(h:u7 a most=true):1<=uF a/\uF a<=most:=by unfold u7 at h;simp only[b9,decide_eq_true_eq]at h;exact⟨h.1.2,h.2⟩
theorem TW{o:OL}{k:WK}{x:bV}(h:kC o k x=0):x.x.fits=true/\(x.x.o.jumps&&!fK (o.fs.getD (k.funcs.length-1) {}) x.x.r.label)=false/\(decide ((if x.x.r.s=1 then x.x.o.aX else 0)=2)&&decide (o.maps.count x.x.r.name=0))=false/\k.slots+x.x.o.slots<=200:=by
 unfold kC at h;by_cases h1:x.x.fits=false
 ·rw[iP9 h1]at h;cases h
 rw[iN9 h1]at h;by_cases h2:(x.x.o.jumps&&!fK (o.fs.getD (k.funcs.length-1) {}) x.x.r.label)=true
 ·rw[iP9 h2]at h;cases h
 rw[iN9 h2]at h;by_cases h3:(decide ((if x.x.r.s=1 then x.x.o.aX else 0)=2)&&decide (o.maps.count x.x.r.name=0))=true
 ·rw[iP9 h3]at h;cases h
 rw[iN9 h3]at h;by_cases h4:200<k.slots+x.x.o.slots
 ·rw[iP9 h4]at h;cases h
 exact⟨by simpa using h1,by simpa using h2,by simpa using h3,by omega⟩
theorem YH.step{o:OL}{k:WK}{b:BS}{x:bV}(h:YH k b)(hx:YG x)(h0:bQ o k x=0)(hlab:∀n y,(dC (o.fs.getD n {}).aP y).getD 0<=20000)(hne:x.kind=4->0<b.fs.length):YH (dV k x) (eW o b x):=by
 unfold bQ at h0;unfold dV eW;by_cases k1:x.kind=1
 ·rw[iP9 k1]at h0 ⊢;rw[iP9 k1];unfold kN at h0;split at h0
  ·cases h0
  rename_i hs
  split at h0
  ·cases h0
  split at h0
  ·cases h0
  have hs':cK (x.ns.getD 0 ay) (x.ns.getD 1 ay) (x.ns.getD 2 ay)=true:=by simpa using hs
  unfold cK at hs';simp only[b9]at hs';have s0:=pJ hs'.1.1;have s1:=pJ hs'.1.2;have s2:=pJ hs'.2;refine⟨by simp[pE,h.m],by simp[pE];omega,h.f,h.f16,h.tot,h.sl,h.TV,λy hy=>?_,h.fn⟩;rcases List.mem_append.1 hy with hy|hy
  ·exact h.pm y hy
  ·rw[List.mem_singleton.1 hy];unfold pT;exact⟨Ez (hx.name (.inl k1)),by simp only;omega,by simp only;omega,by simp only;omega⟩
 rw[iN9 k1]at h0 ⊢;rw[iN9 k1];by_cases k2:x.kind=2
 ·rw[iP9 k2]at h0 ⊢;rw[iP9 k2];unfold kz at h0;split at h0
  ·cases h0
  split at h0
  ·cases h0
  refine⟨h.m,h.m8,by simp[gZ,h.f],by simp[gZ];omega,?_,ba _,h.TV,h.pm,λy hy=>?_⟩
  ·show dU (b.fs++[⟨x.name,[]⟩])<=k.slots
   rw[Hq];have:=h.tot
   simpa [dU]using this
  ·rcases List.mem_append.1 hy with hy|hy
   ·exact h.fn y hy
   ·rw[List.mem_singleton.1 hy];exact⟨Ez (hx.name (.inr (.inl k2))),λz hz=>(by cases hz)⟩
 rw[iN9 k2]at h0 ⊢;rw[iN9 k2];by_cases k3:x.kind=3
 ·rw[iP9 k3]at h0 ⊢;rw[iN9 (by omega)];exact⟨h.m,h.m8,h.f,h.f16,h.tot,h.sl,h.TV,h.pm,h.fn⟩
 rw[iN9 k3]at h0 ⊢;by_cases k4:x.kind=4
 ·rw[iP9 k4]at h0 ⊢;rw[iP9 k4];obtain⟨y,hI⟩:=hx.ins k4;obtain⟨hfit,_,_,ad5⟩:=TW h0;have hp:=hne k4;have hlt:b.fs.length-1<b.fs.length:=by omega
  have hl:b.last=b.fs[b.fs.length-1]:=by unfold BS.last;rw[List.getD_eq_getElem?_getD,List.getElem?_eq_getElem hlt];rfl
  have hs1:=Ck x.x hI.k;have hs2:=x.x.yh;refine⟨h.m,h.m8,(by show(b.fs.set _ _).length=k.funcs.length;rw[List.length_set];exact h.f),h.f16,?_,?_,?_,h.pm,λg hg=>?_⟩
  ·show dU (b.fs.set _ _)<=k.slots+x.x.o.slots
   have:=Hr b.fs _ hlt ⟨b.last.name,b.last.code++[Be o (b.fs.length-1) b.slot x.x]⟩;rw[hl]at this ⊢;simp only[bj,List.length_singleton]at this;have:=h.tot;omega
  ·have:=h.sl;show b.slot+x.x.o.slots<=k.slots+x.x.o.slots
   omega
  ·show k.slots+x.x.o.slots<=200
   omega
  ·rcases bh hg with hg|rfl
   ·exact h.fn g hg
   ·have hL:=h.fn _ (an hlt);rw[hl];refine⟨hL.1,λz hz=>?_⟩;rcases List.mem_append.1 hz with hz|hz
    ·exact hL.2 z hz
    ·rw[List.mem_singleton.1 hz]
     have hnm:x.x.r.name.length<=16:=by
      rcases hI.nm with e|e
      ·rw[e];exact ba _
      ·exact Ez e
     refine⟨⟨hI.k,ch hI.db (by decide),ch hI.sb (by decide),?_,hI.nb,hI.hb⟩,hnm⟩;show -32768<=zX o (b.fs.length-1) b.slot x.x/\zX o (b.fs.length-1) b.slot x.x<=32767
     unfold zX;have hb:=hlab (b.fs.length-1) x.x.r.label;have:=h.sl;have:=h.TV;split
     ·omega
     ·exact hI.jr hfit
 ·rw[iN9 k4,iN9 k4];exact h
theorem YH.new:YH {} {}:=⟨rfl,ba _,rfl,ba _,ao _,ao _,ba _,λx h=>(by cases h),λf h=>(by cases h)⟩
def kQ(ls:List bV):WK:=ls.foldl dV {}
theorem Bt(ls:List bV)(k:Nat)(h:k<ls.length):kQ (ls.take (k+1))=dV (kQ (ls.take k)) ls[k]:=by unfold kQ;rw[List.take_succ_eq_append_getElem h,List.foldl_append];rfl
theorem ui(o:OL):∀(ls:List bV) (k:WK) (n:Nat),(ahM o ls k n).1=0->∀i (h:i<ls.length),bQ o ((ls.take i).foldl dV k) ls[i]=0
 |x::ls,k,n,h,i,hi=>by
  rw[ahM]at h;split at h
  ·rename_i h0
   cases i with
   |zero=>exact h0
   |succ i=>exact ui o ls (dV k x) (n+1) h i (by simpa using hi)
  ·rename_i h0;exact absurd h h0
theorem EA{ls:List bV}(hl:∀x∈ls,YG x)(hin:InF ls)(hn:ls.length<=10000)(h0:(ahM (ai ls) ls {} 0).1=0):∀i,i<=ls.length->YH (kQ (ls.take i)) (aK (ai ls) (ls.take i))
 |0,_=>by rw[bt];exact YH.new
 |i+1,h=>by
  have ih:=EA hl hin hn h0 i (by omega);rw[Bt ls i (by omega),tU (ai ls) ls i (by omega)];refine ih.step (hl _ (an _)) (ui _ ls {} 0 h0 i (by omega)) (λn y=>?_) (λh4=>?_)
  ·have h1:=uh ls ls.length (ao _);rw[ar (ao _)]at h1;refine LY (λp hp=>?_) y;rw[List.getD_eq_getElem?_getD]at hp;cases hq:(ai ls).fs[n]? with
   |none=>rw[hq]at hp;cases hp
   |some f =>rw[hq]at hp;have:=h1 f (List.mem_of_getElem? hq) p hp;omega
  ·rw[(wC (ai ls) ls i (by omega)).1];exact List.length_pos_iff.2 (hin i (by omega) (.inr h4))
theorem TY{ls:List bV}(h0:(ahM (ai ls) ls {} 0).1=0):∀x∈ls,x.kind=1->(0<=uF (x.ns.getD 0 ay)/\uF (x.ns.getD 0 ay)<256)/\(0<=uF (x.ns.getD 1 ay)/\uF (x.ns.getD 1 ay)<256)/\(0<=uF (x.ns.getD 2 ay)/\uF (x.ns.getD 2 ay)<256):=λx hx h1=>by
 obtain⟨i,hi,rfl⟩:=List.getElem_of_mem hx;have h:=ui _ ls {} 0 h0 i hi;unfold bQ at h;rw[iP9 h1]at h;unfold kN at h;split at h
 ·cases h
 rename_i hs
 have hs':cK (ls[i].ns.getD 0 ay) (ls[i].ns.getD 1 ay) (ls[i].ns.getD 2 ay)=true:=by simpa using hs
 unfold cK at hs';simp only[b9]at hs';have s0:=pJ hs'.1.1;have s1:=pJ hs'.1.2;have s2:=pJ hs'.2;omega
theorem P4(x:PI):(nj x).length<=16:=by
 unfold nj uA;split
 ·simp[gQ,bS]
 ·simp[gQ,bS]
theorem Ht:∀(fs:List qd) (f:qd),f∈fs->f.code.length<=dU fs
 |g::fs,f,h=>by
  rw[dU];rcases List.mem_cons.1 h with rfl|h
  ·omega
  ·have:=Ht fs f h;omega
theorem QW(l:tLB):(T l).size=l.length:=rfl
theorem YH.enc{k:WK}{b:BS}(h:YH k b){ms:List dD}{fs:List qd}(hm:ms.Perm b.ms)(hf:fs.Perm b.fs):EOk ms fs/\(∀f∈fs,∀x∈f.code,x.name.length<=255)/\dU fs<=200/\(xg 1 ms fs).length<=300000/\ms.length<=8/\fs.length<=16:=by
 have Kl:ms.length<=8:=by rw[hm.length_eq,h.m];exact h.m8
 have hfl:fs.length<=16:=by rw[hf.length_eq,h.f];exact h.f16
 have hpl:dU fs<=200:=by rw[PZ hf];exact ch h.tot h.TV
 have hpm:∀x∈ms,_:=λx hx=>h.pm x (hm.mem_iff.1 hx);have hfn:∀f∈fs,_:=λf hx=>h.fn f (hf.mem_iff.1 hx);have hcl:∀f∈fs,f.code.length<=200:=λf hx=>ch (Ht fs f hx) hpl;refine⟨⟨by omega,by omega,λm hx=>?_,λf hx=>?_⟩,λf hx x hxx=>?_,hpl,?_,Kl,hfl⟩
 ·have:=hpm m hx;omega
 ·have:=hfn f hx;exact⟨by omega,hcl f hx,λx hxx=>(this.2 x hxx).1⟩
 ·have:=((hfn f hx).2 x hxx).2;omega
 ·have e1:(ms.flatMap nC).length<=ms.length*20:=zW nC 20 ms (λm hx=>by have:=(hpm m hx).1;unfold nC;rw[bj,dS,gQ,QW];simp;omega);have e2:(fs.flatMap jL).length<=fs.length*19:=zW jL 19 fs (λf hx=>by have:=(hfn f hx).1;unfold jL;rw[bj,dS,gQ,QW];simp[dY];omega);have e3:(fs.flatMap kE).length<=fs.length*3200:=zW kE 3200 fs (λf hx=>by have:=hcl f hx;unfold kE;have:=zW nj 16 f.code (λx _=>P4 x);omega);unfold xg;simp only[bj,gQ,List.length_cons,List.length_nil];omega
def Ge(ms:List dD)(fs:List qd):tLB:=xg 1 ms fs++b8 (dY (ah8 fs))++ah7 0 fs
def qB(l:tLB)(s:tBA)(c n:Nat):Prop :=
 if 4000<l.length then s=⟨#[]⟩/\c=1/\n=0
 else match ahL (ahK l) false 0 []with
  |.inr k=>s=⟨#[]⟩/\c=2/\n=k
  |.inl ls=>if(ahM (ai ls) ls {} 0).1=0 then(c=0/\n=0/\∃ms fs,ms.Perm (aK (ai ls) ls).ms/\ms.Pairwise (λx y=>jO (T y.name) (T x.name)=false)/\fs.Perm (aK (ai ls) ls).fs/\fs.Pairwise (λx y=>jO (T y.name) (T x.name)=false)/\s=T (Ge ms fs))
   else s=⟨#[]⟩/\c=(ahM (ai ls) ls {} 0).1/\n=(ahM (ai ls) ls {} 0).2
theorem Hu:∀(ts:List tLB) (kM:Bool) (n:Nat) (acc:List bV) (k:Nat),ahL ts kM n acc=.inr k->0<k
 |[],_,_,_,k,h=>by rw[ahL]at h;cases h
 |t::ts,kM,n,acc,k,h=>by
  rw[ahL]at h;cases hl:bY t with
  |none=>rw[hl]at h;injection h with h;omega
  |some x =>
   rw[hl]at h;dsimp only at h;split at h
   ·injection h with h;omega
   ·exact Hu ts _ _ _ k h
theorem qB.ok{l:tLB}{ls:List bV}{ms:List dD}{fs:List qd}(hb:¬4000<l.length)(hp:ahL (ahK l) false 0 []=.inl ls)(h0:(ahM (ai ls) ls {} 0).1=0)(h1:ms.Perm (aK (ai ls) ls).ms)(h2:ms.Pairwise (λx y=>jO (T y.name) (T x.name)=false))(h3:fs.Perm (aK (ai ls) ls).fs)(h4:fs.Pairwise (λx y=>jO (T y.name) (T x.name)=false)):qB l (T (Ge ms fs)) 0 0:=by
 unfold qB;rw[iN9 hb,hp];show if(ahM (ai ls) ls {} 0).1=0 then _ else _
 rw[iP9 h0];exact⟨rfl,rfl,ms,fs,h1,h2,h3,h4,rfl⟩
theorem qB.no{l:tLB}{ls:List bV}(hb:¬4000<l.length)(hp:ahL (ahK l) false 0 []=.inl ls)(h0:¬(ahM (ai ls) ls {} 0).1=0):qB l ⟨#[]⟩ (ahM (ai ls) ls {} 0).1 (ahM (ai ls) ls {} 0).2:=by
 unfold qB;rw[iN9 hb,hp];show if(ahM (ai ls) ls {} 0).1=0 then _ else _
 rw[iN9 h0];exact⟨rfl,rfl,rfl⟩
def lH(w:tW)(l:tLB)(e:Ending)(w':tW):Prop:=∃s c n,e=.returned (.tuple #[.string s,.int .i64 (c:Nat),.int .i64 (n:Nat)])/\qB l s c n/\aa af w w'
theorem aba(w:tW)(l:tLB)(hW:E4 w)(hE:Env w)(hM:lV w):Calls prog 9 #[.string (T l)] w λe w'=>lH w l e w':=by
 have Nq:ae (Calls prog 25 #[] w λe w'=>∃v bs,e=.returned v/\aR 0 w' v bs ax/\aa af w w'):=RL w hW;have hsz:(T l).size=l.length:=rfl;by_cases hbig:4000<l.length
 ·have HF:ae (∀w',aa af w w'->lH w l (.returned (.tuple #[.string ⟨#[]⟩,.int .i64 1,.int .i64 0])) w'):=λw' m=>⟨⟨#[]⟩,1,0,rfl,by unfold qB;rw[iP9 hbig];exact⟨rfl,rfl,rfl⟩,m⟩
  clear Nq;generalize T l=t at *;generalize lH w l=RP at *;go_enter func9,ntmps9;go_wp2_with fail;go_ret3;exact HF.o _ (aa.refl _ _)
 ·have Jl:ae (∀w' v bs,aR 0 w' v bs ax->aa af w w'->Calls prog 24 #[v,.string (T l)] w' λe w''=>DM w' bs (ahL (ahK l) false 0 []) e w''):=λw' v bs h m=>aip w' w' v bs l h (aa.refl _ _) (hE.ah m) (hM.ah m) (by omega);cases hp:ahL (ahK l) false 0 []with
  |inr k =>
   have HF:ae (∀w',aa af w w'->lH w l (.returned (.tuple #[.string ⟨#[]⟩,.int .i64 2,.int .i64 (k:Nat)])) w'):=λw' m=>⟨⟨#[]⟩,2,k,rfl,by unfold qB;rw[iN9 hbig,hp];exact⟨rfl,rfl,rfl⟩,m⟩
   rw[hp]at Jl;have hk:=Hu _ _ _ _ _ hp;clear hp;generalize ahK l=ll at *;generalize T l=t at *;generalize lH w l=RP at *;go_enter func9,ntmps9;go_wp2_with fail;refine Nq.o.mono ?_;rintro e w2 ⟨v,bs,rfl,hO2,m2⟩;have eT:=Jl.o w2 v bs hO2 m2;have ep:=ak m2;clear hO2 m2 Jl Nq;go_wp2_with fail;refine eT.mono ?_;rintro e w3 ⟨rfl,m3⟩;have fw:=ak (ep.o.trans m3);clear m3 eT ep;go_wp2_with fail;go_ret3;exact HF.o _ fw.o
  |inl ls =>
   obtain⟨hin,hk4,hnl⟩:=GK hp;have hlk:∀x∈ls,YG x:=Br _ _ _ _ _ hp (λx h=>(by cases h));have HOU:ae (∀wT w' v vL bs,aR 0 wT v bs ax->aa af wT w'->ed wT vL bs ls w'->Calls prog 26 #[vL] w' λe w''=>zK w' (ai ls) e w''):=λwT w' v vL bs hO m hL=>KW wT wT w' v vL bs ls hO m hL hin hk4 (by omega);have HFI:ae (∀wT wO w' v vL vF bm lb bs,aR 0 wT v bs ax->aa af wT w'->ed wT vL bs ls w'->dQ wO bm vF lb (ai ls) w'->Calls prog 27 #[vL,.agg #[.map (some bm),vF]] w' λe w''=>wz w' (ahM (ai ls) ls {} 0) e w''):=λwT wO w' v vL vF bm lb bs hO m hL hA=>SB wT wT wO w' v vL vF bm lb bs ls hO m hL hA hin hk4 (by omega);rw[hp]at Jl;by_cases h0:(ahM (ai ls) ls {} 0).1=0
   ·have AR:=EA hlk hin (by omega) h0 ls.length (ao _);rw[List.take_length]at AR;have HBU:ae (∀wT wO w' v vL vF bm lb bs,aR 0 wT v bs ax->aa af wT w'->ed wT vL bs ls w'->dQ wO bm vF lb (ai ls) w'->Calls prog 29 #[vL,.agg #[.map (some bm),vF]] w' λe w''=>C4 w' v bs (aK (ai ls) ls) e w''):=λwT wO w' v vL vF bm lb bs hO m hL hA=>TU wT wT wO w' v vL bs ls bm vF lb hO m hL hA hin hk4 (by omega) (TY h0);have HEN:ae (∀w' v bs vM vF ms fs vs,xq w' v bs vM vF ms fs vs->ms.Perm (aK (ai ls) ls).ms->fs.Perm (aK (ai ls) ls).fs->Calls prog 28 #[.agg #[vM,vF]] w' λe w''=>e=.returned (.string (T (Ge ms fs)))/\aa af w' w''):=λw' v bs vM vF ms fs vs hP hm hf=>by obtain⟨h1,h2,h3,h4,_⟩:=AR.enc hm hf;exact Lh w' v bs vM vF ms fs vs hP h1 h2 (by omega) h4
    have HF:ae (∀w' ms fs,ms.Perm (aK (ai ls) ls).ms->ms.Pairwise (λx y=>jO (T y.name) (T x.name)=false)->fs.Perm (aK (ai ls) ls).fs->fs.Pairwise (λx y=>jO (T y.name) (T x.name)=false)->aa af w w'->lH w l (.returned (.tuple #[.string (T (Ge ms fs)),.int .i64 0,.int .i64 0])) w'):=λw' ms fs h1 h2 h3 h4 m=>⟨_,0,0,rfl,qB.ok hbig hp h0 h1 h2 h3 h4,m⟩
    clear hp hin hk4 hlk AR;generalize ahK l=ll at *;generalize T l=t at *;generalize lH w l=RP at *;generalize ahM (ai ls) ls {} 0=fp at *;generalize aK (ai ls) ls=bb at *;obtain⟨f1,f2⟩:=fp;dsimp only at *;go_enter func9,ntmps9;go_wp2_with fail;refine Nq.o.mono ?_;rintro e w2 ⟨v,bs,rfl,hO2,m2⟩;have eT:=Jl.o w2 v bs hO2 m2;have qM:=ak hO2;have ep:=ak m2;clear hO2 m2 Jl Nq;go_wp2_with fail;refine eT.mono ?_;rintro e w3 ⟨vL,rfl,hL3⟩;have xC:=ak hL3;clear hL3 eT;have Wk:=HOU.o w2 w3 v vL bs qM.o xC.o.md xC.o;obtain⟨oL,cL,NX,_⟩:=xC.o.sl.view;subst NX;go_wp2_with fail;refine Wk.mono ?_;rintro e w4 ⟨bm,vF,lb,rfl,hA4⟩;have Cw:=ak hA4;clear hA4 Wk;obtain⟨oF,cF,uZ,_⟩:=Cw.o.sl.view;subst uZ;have qG:ae (aq (w4.alloc (.cells #[.map (some bm),.slice oF (ai ls).fs.length cF] 77)) w4.heap.size #[.map (some bm),.slice oF (ai ls).fs.length cF] 77):=aq.new w4 _ _;have mU:ae (aa af w4 (w4.alloc (.cells #[.map (some bm),.slice oF (ai ls).fs.length cF] 77))):=(aa.refl _ _).alloc _;generalize hol:ai ls=ol at *;go_upto_region 7 with fail;generalize w4.alloc (.cells #[.map (some bm),.slice oF ol.fs.length cF] 77)=w5 at *;generalize w4.heap.size=X at *;have HL5:ae (ed w2 (.slice oL ls.length cL) bs ls w5):=(xC.o.quiet Cw.o.md).quiet mU.o;have HA5:=ak (Cw.o.quiet mU.o);have x0:w5.cell? ⟨X,0,none⟩=some (.map (some bm)):=qG.o.cell 0;have x1:w5.cell? ⟨X,1,none⟩=some (.slice oF ol.fs.length cF):=qG.o.cell 1;have Yn:=HFI.o w2 w3 w5 v (.slice oL ls.length cL) (.slice oF ol.fs.length cF) bm lb bs qM.o HL5.o.md HL5.o HA5.o;go_wp2_with fail;refine Yn.mono ?_;rintro e w6 ⟨rfl,m6⟩;have HL6:=ak (HL5.o.quiet m6);have HA6:=ak (HA5.o.quiet m6);have hB6:=qG.o.ah m6 id;have y0:w6.cell? ⟨X,0,none⟩=some (.map (some bm)):=hB6.cell 0;have y1:w6.cell? ⟨X,1,none⟩=some (.slice oF ol.fs.length cF):=hB6.cell 1;clear m6 hB6 x0 x1 Yn;have HC6:=HBU.o w2 w3 w6 v (.slice oL ls.length cL) (.slice oF ol.fs.length cF) bm lb bs qM.o HL6.o.md HL6.o HA6.o;subst h0;go_wp2_with fail;refine HC6.mono ?_;rintro e w7 ⟨vM,vF,ms,fs,vs,rfl,hP7,p1,p2,p3,p4,m7⟩;have HC7:=HEN.o w7 v bs vM vF ms fs vs hP7 p1 p3;have HFF:ae (∀w',aa af w7 w'->RP (.returned (.tuple #[.string (T (Ge ms fs)),.int .i64 0,.int .i64 0])) w'):=λw' m'=>HF.o w' ms fs p1 p2 p3 p4 (ep.o.trans (HL6.o.md.trans (m7.trans m')));clear hP7 p1 p2 p3 p4 m7 HC6;go_wp2_with fail;refine HC7.mono ?_;rintro e w8 ⟨rfl,m8⟩;have HM8:=ak m8;clear m8;go_wp2_with fail;go_ret3;exact HFF.o _ HM8.o
   ·have HF:ae (∀w',aa af w w'->lH w l (.returned (.tuple #[.string ⟨#[]⟩,.int .i64 ((ahM (ai ls) ls {} 0).1:Nat),.int .i64 ((ahM (ai ls) ls {} 0).2:Nat)])) w'):=λw' m=>⟨_,_,_,rfl,qB.no hbig hp h0,m⟩
    clear hp hin hk4 hlk;generalize ahK l=ll at *;generalize T l=t at *;generalize lH w l=RP at *;generalize ahM (ai ls) ls {} 0=fp at *;obtain⟨f1,f2⟩:=fp;dsimp only at *;go_enter func9,ntmps9;go_wp2_with fail;refine Nq.o.mono ?_;rintro e w2 ⟨v,bs,rfl,hO2,m2⟩;have eT:=Jl.o w2 v bs hO2 m2;have qM:=ak hO2;have ep:=ak m2;clear hO2 m2 Jl Nq;go_wp2_with fail;refine eT.mono ?_;rintro e w3 ⟨vL,rfl,hL3⟩;have xC:=ak hL3;clear hL3 eT;have Wk:=HOU.o w2 w3 v vL bs qM.o xC.o.md xC.o;obtain⟨oL,cL,NX,_⟩:=xC.o.sl.view;subst NX;go_wp2_with fail;refine Wk.mono ?_;rintro e w4 ⟨bm,vF,lb,rfl,hA4⟩;have Cw:=ak hA4;clear hA4 Wk;obtain⟨oF,cF,uZ,_⟩:=Cw.o.sl.view;subst uZ;have qG:ae (aq (w4.alloc (.cells #[.map (some bm),.slice oF (ai ls).fs.length cF] 77)) w4.heap.size #[.map (some bm),.slice oF (ai ls).fs.length cF] 77):=aq.new w4 _ _;have mU:ae (aa af w4 (w4.alloc (.cells #[.map (some bm),.slice oF (ai ls).fs.length cF] 77))):=(aa.refl _ _).alloc _;generalize hol:ai ls=ol at *;go_upto_region 7 with fail;generalize w4.alloc (.cells #[.map (some bm),.slice oF ol.fs.length cF] 77)=w5 at *;generalize w4.heap.size=X at *;have HL5:ae (ed w2 (.slice oL ls.length cL) bs ls w5):=(xC.o.quiet Cw.o.md).quiet mU.o;have HA5:=ak (Cw.o.quiet mU.o);have x0:w5.cell? ⟨X,0,none⟩=some (.map (some bm)):=qG.o.cell 0;have x1:w5.cell? ⟨X,1,none⟩=some (.slice oF ol.fs.length cF):=qG.o.cell 1;have Yn:=HFI.o w2 w3 w5 v (.slice oL ls.length cL) (.slice oF ol.fs.length cF) bm lb bs qM.o HL5.o.md HL5.o HA5.o;go_wp2_with fail;refine Yn.mono ?_;rintro e w6 ⟨rfl,m6⟩;have HL6:=ak (HL5.o.quiet m6);have HA6:=ak (HA5.o.quiet m6);have hB6:=qG.o.ah m6 id;have y0:w6.cell? ⟨X,0,none⟩=some (.map (some bm)):=hB6.cell 0;have y1:w6.cell? ⟨X,1,none⟩=some (.slice oF ol.fs.length cF):=hB6.cell 1;clear m6 hB6 x0 x1 Yn
    have hf0:((f1:Int) != 0)=true:=by
     have:¬(f1:Int)=0:=by omega
     simpa using this
    go_wp2_with fail;go_ret3;exact HF.o _ (ep.o.trans HL6.o.md)
