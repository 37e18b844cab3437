import Derived.Test.YtmajaohgiilelaaGreatDoorC21
namespace Go.Proofs.YtmajaohgiilelaaGreatDoor
open Go.RowKit Tryz
open Bool renaming and_assoc->an,false_eq_true->bj
open List renaming take_succ_cons->ba,drop_succ_cons->bh,take_zero->bt,count_cons_self->ca,count_le_length->cb,drop_zero->cc,foldl_append->cj,all->cr,getElem_mem->cw
open Nat renaming le_succ_of_le->ao,le_trans->ar,le_refl->b9,zero_le->cd
open Option renaming bind_eq_some_iff->ch,getD_some->cx
set_option linter.all false
set_option maxRecDepth 100000
set_option maxHeartbeats 4000000
section
variable (o : eQ) (x : iw)
theorem Nu(hc:o.call=false)(hp:o.parts=lJ):o.needs x=(decide (x.d<10)&&decide (x.s<=10)&&decide (x.jump=0)&&decide (x.num=0)):=by
 have hf:dZ lJ=3:=by decide
 unfold eQ.needs;rw[hc,hp,hf];simp[lJ,PK.right,dA,an]
theorem Nv(hc:o.call=false)(hp:o.parts=lK):o.needs x=(decide (x.d<10)&&decide (x.s=0)&&decide (x.jump=0)):=by
 have hf:dZ lK=9:=by decide
 unfold eQ.needs;rw[hc,hp,hf];simp[lK,PK.right,dA,an]
theorem Wg(hc:o.call=false)(hp:o.parts=[.result]):o.needs x=(decide (x.d<10)&&decide (x.s=0)&&decide (x.jump=0)&&decide (x.num=0)):=by
 have hf:dZ [.result]=1:=by decide
 simp only[eQ.needs,hc,hp,hf,bj,if_false,cr,PK.right,dA];simp[an]
theorem aai(hc:o.call=false)(hp:o.parts=[.label]):o.needs x=(decide (x.d=0)&&decide (x.s=0)&&decide (x.num=0)):=by
 have hf:dZ [.label]=4:=by decide
 simp only[eQ.needs,hc,hp,hf,bj,if_false,cr,PK.right,dA];simp[an]
theorem Nw(hc:o.call=false)(hp:o.parts=oH):o.needs x=(decide (x.d<=10)&&decide (x.s<=10)&&decide (x.num=0)):=by
 have hf:dZ oH=7:=by decide
 unfold eQ.needs;rw[hc,hp,hf];simp[oH,PK.right,dA,an]
theorem Nx(hc:o.call=false)(hp:o.parts=oI):o.needs x=(decide (x.d<=10)&&decide (x.s=0)):=by
 have hf:dZ oI=13:=by decide
 unfold eQ.needs;rw[hc,hp,hf];simp[oI,PK.right,dA]
theorem Ny(hc:o.call=false)(hp:o.parts=lQ):o.needs x=(decide (x.d<10)&&decide (x.s<=10)&&decide (x.num=0)):=by
 have hf:dZ lQ=7:=by decide
 unfold eQ.needs;rw[hc,hp,hf];simp[lQ,PK.right,dA,an]
theorem KX(hc:o.call=false)(hp:o.parts=jC):o.needs x=(decide (x.d<=10)&&decide (x.s<=10)&&decide (x.num=0)):=by
 have hf:dZ jC=7:=by decide
 unfold eQ.needs;rw[hc,hp,hf];simp[jC,PK.right,dA,an]
theorem Jm(hc:o.call=false)(hp:o.parts=gX):o.needs x=(decide (x.d<=10)&&decide (x.s=0)):=by
 have hf:dZ gX=13:=by decide
 unfold eQ.needs;rw[hc,hp,hf];simp[gX,PK.right,dA]
theorem GG(hc:o.call=false)(hp:o.parts=[.result,.comma,.wide]):o.needs x=(decide (x.d<10)&&(decide (x.s=0)||(decide (x.s=1)&&decide (x.high=0)))&&decide (x.jump=0)):=by
 have hf:dZ [.result,.comma,.wide]=11:=by decide
 simp only[eQ.needs,hc,hp,hf,bj,if_false,cr,PK.right,dA];simp[an]
theorem Su(hc:o.call=false)(hp:o.parts=[]):o.needs x=(decide (x.d=0)&&decide (x.s=0)&&decide (x.jump=0)&&decide (x.num=0)):=by
 have hf:dZ []=0:=by decide
 simp only[eQ.needs,hc,hp,hf,bj,if_false,cr,dA];simp[an]
end
theorem GH(o:eQ)(x:iw)(hc:o.call=true):o.needs x=(decide (x.d=0)&&decide (x.jump=0)&&(decide (x.s=1)||(decide (x.s=0)&&decide (1<=x.num)&&decide (x.num<5)))):=by simp only[eQ.needs,hc,if_true,dA];simp[an]

theorem Sv:(prog.info? 141).map (λi=>(i.zero,i.size,i.bytes))=some (some (.agg #[.string E0,.int .u8 0,.int .u8 0,.int .u8 0]),4,24):=by kernel_rfl
theorem KY:∀o∈ax,o.slots=1\/o.slots=2:=by decide +kernel
abbrev Z8:tAV:=#[.pointer none,.int .u8 0,.int .u8 0,.int .i16 0,.int .i32 0,.int .i32 0,.string ⟨#[]⟩,.string ⟨#[]⟩]
theorem dM.cells{w:tW}{b:Nat}{o:eQ}(h:dM w b o):w.cell? ⟨b,2,none⟩=some (.int .i64 o.slots)/\w.cell? ⟨b,3,none⟩=some (.bool o.jumps)/\w.cell? ⟨b,4,none⟩=some (.bool o.ends)/\w.cell? ⟨b,5,none⟩=some (.int .i64 o.aX):=by obtain⟨o1,n1,c1,f6,c6,k7,c7,k8,c8,f9,c9,hb,_⟩:=h.ex;exact⟨hb.cell 2,hb.cell 3,hb.cell 4,hb.cell 5⟩
theorem Nz{w:tW}{v:Value}{bs:List Nat}(hO:aR 0 w v bs ax)(x:PI)(hk:x.k<88):dM w (bs[x.k]?.getD 0) x.o:=by
 have hkt:x.k<ax.length:=by rw[rO];exact hk
 have hkb:x.k<bs.length:=by rw[hO.len];exact hkt
 have h:=hO.at' x.k hkb hkt;have e1:bs[x.k]?.getD 0=bs[x.k]:=by simp[hkb]
 have e2:x.o=ax[x.k]:=by simp[PI.o,hkt]
 rw[e1,e2];exact h
structure NA(x:PI):Prop where
 k:x.k<88
 d:x.d<=15
 s:x.s<=15
 j:-32768<=x.jump/\x.jump<=32767
 n:-2147483648<=x.num/\x.num<=2147483647
 h:-2147483648<=x.high/\x.high<=2147483647
theorem NA.slots{x:PI}(h:NA x):x.o.slots=1\/x.o.slots=2:=by
 have hkt:x.k<ax.length:=by rw[rO];exact h.k
 have e2:x.o=ax[x.k]:=by simp[PI.o,hkt]
 rw[e2];exact KY _ (cw hkt)
def Cy(l:List PI)(k:Nat):Nat:=((l.take k).map (·.o.slots)).sum
theorem Sw(l:List PI)(k:Nat)(h:k<l.length):Cy l (k+1)=Cy l k+l[k].o.slots:=by unfold Cy;rw[List.take_succ_eq_append_getElem h,List.map_append,List.sum_append];simp
theorem aaj(l:List PI)(hl:∀x∈l,NA x):∀k,Cy l k<=2*l.length:=by
 have h:∀l:List PI,(∀x∈l,NA x)->(l.map (·.o.slots)).sum<=2*l.length:=by
  intro l;induction l with
  |nil=>intro _;simp
  |cons x l ih =>intro hl;have h1:=(hl x (by simp)).slots;have h2:=ih (λy hy=>hl y (List.mem_cons_of_mem _ hy));simp only[List.map_cons,List.sum_cons,List.length_cons];omega
 intro k;have h1:=h (l.take k) (λx hx=>hl x (List.mem_of_mem_take hx));have h2:(l.take k).length<=l.length:=by simp;omega
 unfold Cy;omega
theorem NB:(prog.info? 117).map (λi=>(i.zero,i.size,i.bytes))=some (some (.agg Z8),8,56):=by kernel_rfl
theorem NC:(prog.info? 145).map (λi=>(i.zero,i.size,i.bytes))=some (some (.agg #[.string E0,.slice none 0 0]),2,40):=by kernel_rfl
def GJ(x:tLB×Value):List Value:=[.string (T x.1),x.2]
theorem Wh(ns:List tLB)(vs:List Value)(k:Nat)(h:k<ns.length)(h':k<vs.length):(ns.zip vs)[k]'(by simp;omega)=(ns[k],vs[k]):=by simp
theorem DQ(w:tW)(b:Nat)(o:eQ)(hA:dM w b o)(d:Int)(s:Nat)(num high jump:Int)(label name:tBA):Calls prog 113 #[.agg #[.pointer (some ⟨b,0,none⟩),.int .u8 d,.int .u8 s,.int .i16 jump,.int .i32 num,.int .i32 high,.string label,.string name]] w λe w'=>e=.returned (.int .i64 ((if s=1 then o.aX else 0:Nat):Int))/\aa af w w':=by
 have hA1:=(hA.ah ((aa.refl _ _).alloc (.cells #[.pointer (some ⟨b,0,none⟩),.int .u8 d,.int .u8 s,.int .i16 jump,.int .i32 num,.int .i32 high,.string label,.string name] 117))).cells;obtain⟨_,_,_,z5⟩:=hA1;generalize o.aX=rf at *;by_cases h1:s=1
 ·subst h1;simp only[Int.cast_ofNat_Int]at *;go_enter func113,ntmps113;go_wp2_with fail;go_ret;exact⟨rfl,((aa.refl _ _).alloc _)⟩
 ·have h2:¬((s:Int)=1):=by omega
  go_enter func113,ntmps113;go_wp2_with fail;go_ret;exact⟨rfl,((aa.refl _ _).alloc _)⟩
theorem fI{P:Program}{id:Nat}{Q:Exit->Act->tW->Prop}{a:Act}{w:tW}{l:List Oper}(hm:P.follows .mixedOrders=true)(hB:Region.lexB .any l.toArray=true)(h:∀W,W=w.drew->wpQuiet P l.toArray (λw'=>w'=W) (λa'=>Q .normal a' W) l a):(Code.region id l.toArray true).wp P Q a w :=
 wp_region_still_lit hm hB (kU _ _ (h _ rfl))
structure WK where
 maps:List tLB:=[]
 funcs:List tLB:=[]
 labels:List tLB:=[]
 slots:Nat:=0
def fK(f:pR)(x:tLB):Bool:=(dC f.aP x).isSome&&decide ((dC f.aP x).getD 0<f.slots)
def kN(k:WK)(x:bV):Nat:=if cK (x.ns.getD 0 ay) (x.ns.getD 1 ay) (x.ns.getD 2 ay)=false then 3 else if 0<k.maps.count x.name then 4 else if 8<k.maps.length+1 then 1 else 0
def pE(k:WK)(x:bV):WK:={k with maps:=x.name::k.maps}
def kz(o:OL)(k:WK)(x:bV):Nat:=if 0<k.funcs.count x.name then 4 else if 16<k.funcs.length+1 then 1 else if(o.fs.getD k.funcs.length {}).ends=false then 6 else 0
def gZ(k:WK)(x:bV):WK:={k with funcs:=x.name::k.funcs,labels:=[]}
def qP(k:WK)(x:bV):Nat:=if 0<k.labels.count x.name then 4 else 0
def qQ(k:WK)(x:bV):WK:={k with labels:=x.name::k.labels}
def kC(o:OL)(k:WK)(x:bV):Nat :=
 if x.x.fits=false then 3
 else if(x.x.o.jumps&&!fK (o.fs.getD (k.funcs.length-1) {}) x.x.r.label)=true then 5
 else if(decide ((if x.x.r.s=1 then x.x.o.aX else 0)=2)&&decide (o.maps.count x.x.r.name=0))=true then 5
 else if 200<k.slots+x.x.o.slots then 1 else 0
def iM(k:WK)(x:bV):WK:={k with slots:=k.slots+x.x.o.slots}
def bQ(o:OL)(k:WK)(x:bV):Nat:=if x.kind=1 then kN k x else if x.kind=2 then kz o k x else if x.kind=3 then qP k x else if x.kind=4 then kC o k x else 0
def dV(k:WK)(x:bV):WK:=if x.kind=1 then pE k x else if x.kind=2 then gZ k x else if x.kind=3 then qQ k x else if x.kind=4 then iM k x else k
structure gJ(w0:tW)(b bm:Nat)(vF:Value)(bM bF:Nat)(vL:Value)(k:WK)(w:tW):Prop where
 blk:aq w b #[.map (some bm),vF,.map (some bM),.map (some bF),vL,.int .i64 ((k.funcs.length:Int)-1),.int .i64 k.slots] 136
 ms:eD w bM k.maps
 fs:eD w bF k.funcs
 vl:∃q,vL=.map q
 ls:k.funcs≠[]->∃bL,vL=.map (some bL)/\eD w bL k.labels/\bL≠bM/\bL≠bF/\w0.heap.size<=bL
 ne:bM≠bF
 lo:w0.heap.size<=b/\w0.heap.size<=bM/\w0.heap.size<=bF
 md:aa af w0 w
section
variable {w0 w w' : World} {b bm bM bF : Nat} {vF vL : Value} {k : WK}
theorem gJ.quiet(h:gJ w0 b bm vF bM bF vL k w)(m:aa af w w'):gJ w0 b bm vF bM bF vL k w' :=
 ⟨h.blk.ah m id,h.ms.ah m id,h.fs.ah m id,h.vl,λhn=>by obtain⟨bL,h1,h2,h3⟩:=h.ls hn;exact⟨bL,h1,h2.ah m id,h3⟩,h.ne,h.lo,h.md.trans m⟩
theorem gJ.map{x:bV}(h:gJ w0 b bm vF bM bF vL k w)(hc:eD w' bM (x.name::k.maps))(m:aa (λi=>i=bM) w w'):gJ w0 b bm vF bM bF vL (pE k x) w' :=
 ⟨h.blk.ah m (λe=>h.ms.az h.blk e),hc,h.fs.ah m (λe=>h.ne e.symm),h.vl,λhn=>by obtain⟨bL,h1,h2,h3,h4⟩:=h.ls hn;exact⟨bL,h1,h2.ah m (λe=>h3 e),h3,h4⟩,h.ne,h.lo,h.md.step m (λi hi e=>by have:=h.lo.2.1;have e':i=bM:=e;omega)⟩
theorem gJ.lab{x:bV}{bL:Nat}(h:gJ w0 b bm vF bM bF (.map (some bL)) k w)(hn:k.funcs≠[])(hc:eD w' bL (x.name::k.labels))(m:aa (λi=>i=bL) w w'):gJ w0 b bm vF bM bF (.map (some bL)) (qQ k x) w':=by obtain⟨bL',h1,h2,h3,h4,h5⟩:=h.ls hn;injection h1 with h1;injection h1 with h1;subst h1;exact⟨h.blk.ah m (λe=>h2.az h.blk e),h.ms.ah m (λe=>h3 e.symm),h.fs.ah m (λe=>h4 e.symm),h.vl,λ_=>⟨_,rfl,hc,h3,h4,h5⟩,h.ne,h.lo,h.md.step m (λi hi e=>by have e':i=bL:=e;omega)⟩
theorem gJ.code{x:bV}{n:Int}(h:gJ w0 b bm vF bM bF vL k w)(hn:n=(k.slots:Int)+x.x.o.slots):gJ w0 b bm vF bM bF vL (iM k x) (w.setCell ⟨b,6,none⟩ (.int .i64 n)):=by
 have m:aa (Only b) w (w.setCell ⟨b,6,none⟩ (.int .i64 n)):=(aa.refl _ _).bP _ _;refine⟨?_,h.ms.ah m (λe=>h.ms.az h.blk (show _=b from e).symm),h.fs.ah m (λe=>h.fs.az h.blk (show _=b from e).symm),h.vl,λhn=>?_,h.ne,h.lo,h.md.step m (λi hi e=>by have e':i=b:=e;have:=h.lo.1;omega)⟩
 ·subst hn;exact h.blk.set 6 _
 ·obtain⟨bL,h1,h2,h3⟩:=h.ls hn;exact⟨bL,h1,h2.ah m (λe=>h2.az h.blk (show _=b from e).symm),h3⟩
theorem gJ.func{x:bV}{n:Int}(h:gJ w0 b bm vF bM bF vL k w)(hc:eD w' bF (x.name::k.funcs))(m:aa (λi=>i=bF) w w')(hn:n=k.funcs.length):gJ w0 b bm vF bM bF (.map (some w'.heap.size)) (gZ k x) (((w'.alloc (.map #[] 0)).setCell ⟨b,4,none⟩ (.map (some w'.heap.size))).setCell ⟨b,5,none⟩ (.int .i64 n)):=by
 have hb':=h.blk.ah m (λe=>h.fs.az h.blk e);have hM':eD w' bM k.maps:=h.ms.ah m (λe=>h.ne e);have m1:aa af w' (w'.alloc (.map #[] 0)):=(aa.refl _ _).alloc _;have m2:aa (Only b) (w'.alloc (.map #[] 0)) (((w'.alloc (.map #[] 0)).setCell ⟨b,4,none⟩ (.map (some w'.heap.size))).setCell ⟨b,5,none⟩ (.int .i64 n)):=((aa.refl _ _).bP _ _).bP _ _;have hb1:=hb'.ah m1 id;have hs:w.heap.size<=w'.heap.size:=m.size;have h0:=h.md.size;have hMl:=hM'.lt;have hFl:=hc.lt;refine⟨?_,(hM'.ah m1 id).ah m2 (λe=>(hM'.ah m1 id).az hb1 (show _=b from e).symm),(hc.ah m1 id).ah m2 (λe=>(hc.ah m1 id).az hb1 (show _=b from e).symm),⟨_,rfl⟩,λ_=>⟨_,rfl,?_,by omega,by omega,by omega⟩,h.ne,h.lo,((h.md.step m (λi hi e=>by have e':i=bF:=e;have:=h.lo.2.2;omega)).trans m1).step m2 (λi hi e=>by have e':i=b:=e;have:=h.lo.1;omega)⟩
 ·have:=(hb1.set 4 (.map (some w'.heap.size))).set 5 (.int .i64 n);have e:((gZ k x).funcs.length:Int)-1=n:=by rw[hn];simp[gZ]
  rw[e];exact this
 ·have hl:=eD.new w';exact hl.ah m2 (λe=>hl.az hb1 (show _=b from e).symm)
end
theorem Wi(w0 w:tW)(b bm bM bF:Nat)(vF vL:Value)(k:WK)(bs:List Nat)(x:bV)(h:gJ w0 b bm vF bM bF vL k w)(hv:∃o n c,vF=.slice o n c)(hx:x.kind=1)(hl:k.maps.length<=1000001)(hnd:k.maps.Nodup):Calls prog 110 #[.pointer (some ⟨b,0,none⟩),.agg (x.cells bs)] w λe w'=>e=.returned (.int .i64 (kN k x))/\gJ w0 b bm vF bM bF vL (pE k x) w':=by
 have HFT:ae (∀w',Calls prog 212 #[.agg (x.cells bs)] w' λe w''=>e=.returned (.bool (cK (x.ns.getD 0 ay) (x.ns.getD 1 ay) (x.ns.getD 2 ay)))/\aa af w' w''):=λw'=>by rw[bV.cells,iN9 (by omega)];exact aah _ _ _ _ _ w'
 have HF:ae (kN k x=if cK (x.ns.getD 0 ay) (x.ns.getD 1 ay) (x.ns.getD 2 ay)=false then 3 else if 0<k.maps.count x.name then 4 else if 8<k.maps.length+1 then 1 else 0):=rfl;have gR:ae ((x.cells bs).size=20):=iE bs x;have yg:ae ((x.cells bs).all (·.oneCell')=true):=cells_one bs x;have Nt:ae ((x.cells bs)[1]?=some (.string (T x.name))):=py bs x (by omega)
 have Yf:ae (∀W,eD W bM (x.name::k.maps)->0<k.maps.count x.name\/(Builtin.len_ #[74] 3 #[.map (some bM)]).run prog W=.ok (.int .i64 ((k.maps.length+1:Nat):Int)) W):=λW hW=>by
  by_cases e:0<k.maps.count x.name
  ·exact .inl e
  ·exact .inr (hW.size (List.nodup_cons.2 ⟨λhm=>e (List.count_pos_iff.2 hm),hnd⟩))
 have HLK:ae (∀W,eD W bM (x.name::k.maps)->(Instr.lookup 74 (.map (some bM)) (.string (T x.name)) false).run prog W=.ok (.int .i64 ((k.maps.count x.name+1:Nat):Int)) W):=λW hW=>by
  have:=hW.look x.name
  rwa [ca]at this
 have hcn:k.maps.count x.name<=1000001:=ar cb hl;have Ym:=ak h;obtain⟨vo,vn,vc,rfl⟩:=hv;obtain⟨vq,rfl⟩:=h.vl;clear h hx hnd;generalize kN k x=r at *;generalize cK (x.ns.getD 0 ay) (x.ns.getD 1 ay) (x.ns.getD 2 ay)=sf at *;generalize x.cells bs=cs at *;have Qt:ae (aa af w (w.alloc (.cells cs 119))):=(aa.refl _ _).alloc _;have Uv:ae (aq (w.alloc (.cells cs 119)) w.heap.size cs 119):=aq.new w _ _;have HW1:=ak (Ym.o.quiet Qt.o);go_enter func110,ntmps110;go_upto_region 1 with fail;generalize w.alloc (.cells cs 119)=w1 at *;generalize w.heap.size=B at *;have gV:ae (aa af w1 w1.drew):=(aa.refl _ _).drew;refine dz 8 (by kernel_rfl) (by kernel_rfl) ?_;intro W hW;rw[<-hW]at gV;clear hW;have HW2:=ak (HW1.o.quiet gV.o);have HB2:=ak (Uv.o.ah gV.o id);have c1:W.cell? ⟨B,1,none⟩=some (.string (T x.name)):=(HB2.o.cell 1).trans Nt.o;have b2:W.cell? ⟨b,2,none⟩=some (.map (some bM)):=HW2.o.blk.cell 2;have hlk:=HW2.o.ms.look x.name;obtain⟨w5,J7,Sr,m5⟩:=HW2.o.ms.put x.name;have sZ:ae (gJ w0 b bm (.slice vo vn vc) bM bF (.map vq) (pE k x) w5):=HW2.o.map Sr m5;have qG:ae (aq w5 B cs 119):=HB2.o.ah m5 (λe=>HW2.o.ms.az HB2.o e);have Yn:=ak Sr;clear Sr m5 Ym HW1 Uv Qt;generalize k.maps.count x.name=cn at *;simp only[ba,bt,bh,cc]
 repeat(go_big_quiet_step (fail))
 refine wpQuiet_nil ?_;clear hlk c1 b2 HW2 HB2 gV;go_wp2_with (refine wpList_load_row rfl 119 (.tmp 3) rfl B rfl 119 cs (0,0) _ qG.o underlying119 rfl (by rw[gR.o];kernel_rfl) ?_);refine(HFT.o _).mono ?_;rintro e w6 ⟨rfl,m6⟩;have ow:=ak (sZ.o.quiet m6);have Qu:=ak (qG.o.ah m6 id);clear m6 sZ qG Yn J7;cases sf with
 |false =>
  have HR:ae (r=3):=by rw[ae,HF.o,iP9 rfl]
  go_wp2_with fail;go_ret;exact⟨aV (by rw[HR.o];rfl),ow.o⟩
 |true =>
  go_upto_region 4 with fail;have gV:ae (aa af w6 w6.drew):=(aa.refl _ _).drew;refine fI (by kernel_rfl) (by kernel_rfl) ?_;intro W7 hW7;rw[<-hW7]at gV;clear hW7;have uJ:=ak (ow.o.quiet gV.o);have c1:W7.cell? ⟨B,1,none⟩=some (.string (T x.name)):=((Qu.o.ah gV.o id).cell 1).trans Nt.o;have b2:W7.cell? ⟨b,2,none⟩=some (.map (some bM)):=uJ.o.blk.cell 2;have hlk:=HLK.o W7 uJ.o.ms;have Dm:=Yf.o W7 uJ.o.ms;clear gV ow Qu;by_cases h0:0<cn
  ·have HR:ae (r=4):=by rw[ae,HF.o,iN9 (by decide),iP9 h0]
   have hq:((1:Int)<((cn+1:Nat):Int)):=by omega
   repeat(go_big_quiet_step (fail))
   refine wpQuiet_nil ?_;go_wp2_with fail;go_ret;exact⟨aV (by rw[HR.o];rfl),uJ.o⟩
  ·have hc0:cn=0:=by omega
   subst hc0;have hle:=Dm.resolve_left h0;have HR:ae (r=if 8<k.maps.length+1 then 1 else 0):=by rw[ae,HF.o,iN9 (by decide),iN9 h0]
   clear Dm;generalize k.maps.length=ml at *;by_cases h8:8<ml+1
   ·have jI:ae (r=1):=by rw[ae,HR.o,iP9 h8]
    have hq:(8:Int)<((ml+1:Nat):Int):=by omega
    repeat(go_big_quiet_step (fail))
    refine wpQuiet_nil ?_;go_wp2_with fail;go_ret;exact⟨aV (by rw[jI.o];rfl),uJ.o⟩
   ·have jI:ae (r=0):=by rw[ae,HR.o,iN9 h8]
    have hq:¬(8:Int)<((ml+1:Nat):Int):=by omega
    repeat(go_big_quiet_step (fail))
    refine wpQuiet_nil ?_;go_wp2_with fail;go_ret;exact⟨aV (by rw[jI.o];rfl),uJ.o⟩
theorem dQ.abV{w0 w:tW}{bm:Nat}{oF:Option Addr}{nF cF:Nat}{lb:List Nat}{o:OL}(h:dQ w0 bm (.slice oF nF cF) lb o w)(i:Nat)(hi:i<o.fs.length):∃g,oF=some ⟨g,0,none⟩/\nF=o.fs.length/\o.fs.length<=cF/\∀w',aa af w w'->∀j (hj:j<(lL (lb[i]?.getD 0) o.fs[i]).toArray.size),w'.cell? ⟨g,i*3+j,none⟩=some (lL (lb[i]?.getD 0) o.fs[i]).toArray[j]:=by
 obtain⟨o',c',hv,hb⟩:=h.sl.view;injection hv with e1 e2 e3;subst e1 e3;obtain⟨g,cs,rfl,hb,ht,hc,_⟩:=hb (by omega);refine⟨g,rfl,e2,hc,λw' m j hj=>?_⟩;have hz:i<(lb.zip o.fs).length:=by rw[List.length_zip,h.len];omega
 have hj':j<3:=hj;have hlb:i<lb.length:=by rw[h.len];exact hi
 rw[bA (hb.ah m id) ht (i*3+j) (by omega),jq,flat_get (λx:Nat×pR=>lL x.1 x.2) 3 (λ_=>rfl) (lb.zip o.fs) i j hz hj'];rw[List.getElem_zip,List.getElem?_eq_getElem hlb];simp only[cx,List.getElem_toArray];rw[List.getElem?_eq_getElem]
theorem Sy(wO w0 w:tW)(b bm bM bF:Nat)(vF vL:Value)(lb:List Nat)(o:OL)(k:WK)(bs:List Nat)(x:bV)(hO:dQ wO bm vF lb o w0)(h:gJ w0 b bm vF bM bF vL k w)(hx:x.kind=2)(hl:k.funcs.length<o.fs.length)(hl2:o.fs.length<=1000001)(hnd:k.funcs.Nodup):Calls prog 111 #[.pointer (some ⟨b,0,none⟩),.agg (x.cells bs)] w λe w'=>e=.returned (.int .i64 (kz o k x))/\∃vL',gJ w0 b bm vF bM bF vL' (gZ k x) w':=by
 have HF:ae (kz o k x=if 0<k.funcs.count x.name then 4 else if 16<k.funcs.length+1 then 1 else if(o.fs.getD k.funcs.length {}).ends=false then 6 else 0):=rfl;have HGD:ae (o.fs.getD k.funcs.length {}=o.fs[k.funcs.length]):=by rw[ae,List.getD_eq_getElem?_getD,List.getElem?_eq_getElem hl];rfl
 have gR:ae ((x.cells bs).size=20):=iE bs x;have yg:ae ((x.cells bs).all (·.oneCell')=true):=cells_one bs x;have Nt:ae ((x.cells bs)[1]?=some (.string (T x.name))):=py bs x (by omega)
 have Yf:ae (∀W,eD W bF (x.name::k.funcs)->0<k.funcs.count x.name\/(Builtin.len_ #[74] 3 #[.map (some bF)]).run prog W=.ok (.int .i64 ((k.funcs.length+1:Nat):Int)) W):=λW hW=>by
  by_cases e:0<k.funcs.count x.name
  ·exact .inl e
  ·exact .inr (hW.size (List.nodup_cons.2 ⟨λhm=>e (List.count_pos_iff.2 hm),hnd⟩))
 have HLK:ae (∀W,eD W bF (x.name::k.funcs)->(Instr.lookup 74 (.map (some bF)) (.string (T x.name)) false).run prog W=.ok (.int .i64 ((k.funcs.count x.name+1:Nat):Int)) W):=λW hW=>by
  have:=hW.look x.name
  rwa [ca]at this
 have hcn:k.funcs.count x.name<=1000001:=ar cb (by omega);have Ym:=ak h;obtain⟨vo,vc,uZ,_⟩:=hO.sl.view;subst uZ;obtain⟨g,rfl,_,hvc,hrow⟩:=hO.abV _ hl;obtain⟨vq,rfl⟩:=h.vl;have HE:ae (∀W,aa af w0 W->W.cell? ⟨g,k.funcs.length*3+1,none⟩=some (.bool (o.fs.getD k.funcs.length {}).ends)):=λW m=>by rw[HGD.o];exact hrow W m 1 (by show 1<3;decide)
 have x8:ae (((gZ k x).funcs.length:Int)-1=(k.funcs.length:Int)):=by rw[ae];simp[gZ]
 clear h hx hnd hO hrow HGD;generalize kz o k x=r at *;generalize(o.fs.getD k.funcs.length {}).ends=en at *;generalize o.fs.length=nF at *;generalize x.cells bs=cs at *;have Qt:ae (aa af w (w.alloc (.cells cs 119))):=(aa.refl _ _).alloc _;have Uv:ae (aq (w.alloc (.cells cs 119)) w.heap.size cs 119):=aq.new w _ _;have HW1:=ak (Ym.o.quiet Qt.o);go_enter func111,ntmps111;go_upto_region 1 with fail;generalize w.alloc (.cells cs 119)=w1 at *;generalize w.heap.size=B at *;have gV:ae (aa af w1 w1.drew):=(aa.refl _ _).drew;refine dz 8 (by kernel_rfl) (by kernel_rfl) ?_;intro W hW;rw[<-hW]at gV;clear hW;have HW2:=ak (HW1.o.quiet gV.o);have HB2:=ak (Uv.o.ah gV.o id);have c1:W.cell? ⟨B,1,none⟩=some (.string (T x.name)):=(HB2.o.cell 1).trans Nt.o;have b3:W.cell? ⟨b,3,none⟩=some (.map (some bF)):=HW2.o.blk.cell 3;have hlk:=HW2.o.fs.look x.name;obtain⟨w5,J7,Sr,m5⟩:=HW2.o.fs.put x.name;have HW8:ae (gJ w0 b bm (.slice (some ⟨g,0,none⟩) nF vc) bM bF (.map (some w5.heap.size)) (gZ k x) (((w5.alloc (.map #[] 0)).setCell ⟨b,4,none⟩ (.map (some w5.heap.size))).setCell ⟨b,5,none⟩ (.int .i64 k.funcs.length))):=HW2.o.func Sr m5 rfl;have hb5:=HW2.o.blk.ah m5 (λe=>HW2.o.fs.az HW2.o.blk e);have qG:ae (aq w5 B cs 119):=HB2.o.ah m5 (λe=>HW2.o.fs.az HB2.o e);have hbA:=hb5.alloc (.map #[] 0);have hbS:=hbA.set 4 (.map (some w5.heap.size));have e4:=hbA.cell 4;have e5:=hbA.cell 5;have ef:=hbA.frozen;have e5':=hbS.cell 5;have ef':=hbS.frozen;have Ql:ae (B≠b):=λe=>qG.o.apart hb5 (by decide) e;have HB8:ae (aq (((w5.alloc (.map #[] 0)).setCell ⟨b,4,none⟩ (.map (some w5.heap.size))).setCell ⟨b,5,none⟩ (.int .i64 k.funcs.length)) B cs 119):=((qG.o.alloc _).setOther (a:=⟨b,4,none⟩) Ql.o.symm _).setOther (a:=⟨b,5,none⟩) Ql.o.symm _;have hmm:=@run_makeMap prog;have hi5:(k.funcs.length:Int)-1+1=k.funcs.length:=by omega
 clear Sr m5 Ym HW1 Uv Qt hb5 hbA hbS;generalize hcn':k.funcs.count x.name=cn at *;generalize hfl:k.funcs.length=fl at *;simp only[ba,bt,bh,cc]
 repeat(go_big_quiet_step (fail))
 refine wpQuiet_nil ?_;clear hlk c1 b3 HW2 HB2 gV;go_upto_region 4 with fail;generalize((w5.alloc (.map #[] 0)).setCell ⟨b,4,none⟩ (.map (some w5.heap.size))).setCell ⟨b,5,none⟩ (.int .i64 (fl:Int))=w8 at *;generalize w5.heap.size=bL at *;have gV:ae (aa af w8 w8.drew):=(aa.refl _ _).drew;refine fI (by kernel_rfl) (by kernel_rfl) ?_;intro W7 hW7;rw[<-hW7]at gV;clear hW7;have uJ:=ak (HW8.o.quiet gV.o);have c1:W7.cell? ⟨B,1,none⟩=some (.string (T x.name)):=((HB8.o.ah gV.o id).cell 1).trans Nt.o;have b2:W7.cell? ⟨b,3,none⟩=some (.map (some bF)):=uJ.o.blk.cell 3;have hlk:=HLK.o W7 uJ.o.fs;have Dm:=Yf.o W7 uJ.o.fs;clear gV HW8 HB8 J7 e4 e5 ef e5' ef';by_cases h0:0<cn
 ·have HR:ae (r=4):=by rw[ae,HF.o,iP9 h0]
  have hq:((1:Int)<((cn+1:Nat):Int)):=by omega
  repeat(go_big_quiet_step (fail))
  refine wpQuiet_nil ?_;go_wp2_with fail;go_ret;exact⟨aV (by rw[HR.o];rfl),_,uJ.o⟩
 ·have hc0:cn=0:=by omega
  subst hc0;have hle:=Dm.resolve_left h0;have HR:ae (r=if 16<fl+1 then 1 else if en=false then 6 else 0):=by rw[ae,HF.o,iN9 h0]
  clear Dm;by_cases h8:16<fl+1
  ·have jI:ae (r=1):=by rw[ae,HR.o,iP9 h8]
   have hq:(16:Int)<((fl+1:Nat):Int):=by omega
   repeat(go_big_quiet_step (fail))
   refine wpQuiet_nil ?_;go_wp2_with fail;go_ret;exact⟨aV (by rw[jI.o];rfl),_,uJ.o⟩
  ·have jI:ae (r=if en=false then 6 else 0):=by rw[ae,HR.o,iN9 h8]
   have hq:¬(16:Int)<((fl+1:Nat):Int):=by omega
   repeat(go_big_quiet_step (fail))
   refine wpQuiet_nil ?_;go_upto_region 8 with fail;have gV:ae (aa af W7 W7.drew):=(aa.refl _ _).drew;refine fI (by kernel_rfl) (by kernel_rfl) ?_;intro W9 hW9;rw[<-hW9]at gV;clear hW9;have HW9:=ak (uJ.o.quiet gV.o);have f1:W9.cell? ⟨b,1,none⟩=some (.slice (some ⟨g,0,none⟩) nF vc):=HW9.o.blk.cell 1;have f5:W9.cell? ⟨b,5,none⟩=some (.int .i64 fl):=by have:=HW9.o.blk.cell 5;rw[x8.o]at this;exact this
   have fe:=HE.o W9 HW9.o.md;clear gV uJ c1 b2 hlk hle;cases en with
   |false =>
    have EP:ae (r=6):=by rw[ae,jI.o,iP9 rfl]
    repeat(go_big_quiet_step (fail))
    refine wpQuiet_nil ?_;go_wp2_with fail;go_ret;exact⟨aV (by rw[EP.o];rfl),_,HW9.o⟩
   |true =>
    have EP:ae (r=0):=by rw[ae,jI.o,iN9 (by decide)]
    repeat(go_big_quiet_step (fail))
    refine wpQuiet_nil ?_;go_wp2_with fail;go_ret;exact⟨aV (by rw[EP.o];rfl),_,HW9.o⟩
theorem Wj(wO w0 w:tW)(b bm bM bF:Nat)(vF vL:Value)(lb:List Nat)(o:OL)(k:WK)(y:tLB)(hO:dQ wO bm vF lb o w0)(h:gJ w0 b bm vF bM bF vL k w)(hne:k.funcs≠[])(hl:k.funcs.length<=o.fs.length)(hl2:o.fs.length<=1000001):Calls prog 213 #[.pointer (some ⟨b,0,none⟩),.string (T y)] w λe w'=>e=.returned (.bool (fK (o.fs.getD (k.funcs.length-1) {}) y))/\aa af w w':=by
 have hp:0<k.funcs.length:=List.length_pos_iff.2 hne;obtain⟨n,hn⟩:∃n,n=k.funcs.length-1:=⟨_,rfl⟩
 have hnl:n<o.fs.length:=by omega
 have hgd:o.fs.getD n {}=o.fs[n]:=by rw[List.getD_eq_getElem?_getD,List.getElem?_eq_getElem hnl];rfl
 obtain⟨vo,vc,uZ,_⟩:=hO.sl.view;subst uZ;obtain⟨g,rfl,_,hvc,hrow⟩:=hO.abV _ hnl;have CS:ae (∀W,aa af w0 W->jo W (lb[n]?.getD 0) o.fs[n].aP):=λW m=>MapOf.ah (hO.aP n hnl) m id;have HR:ae (∀W,aa af w0 W->W.cell? ⟨g,n*3,none⟩=some (.int .i64 o.fs[n].slots)/\W.cell? ⟨g,n*3+1,none⟩=some (.bool o.fs[n].ends)/\W.cell? ⟨g,n*3+2,none⟩=some (.map (some (lb[n]?.getD 0)))):=λW m=>⟨hrow W m 0 (by show 0<3;decide),hrow W m 1 (by show 1<3;decide),hrow W m 2 (by show 2<3;decide)⟩
 have HF:ae (fK (o.fs.getD (k.funcs.length-1) {}) y=((dC o.fs[n].aP y).isSome&&decide ((dC o.fs[n].aP y).getD 0<o.fs[n].slots))):=by rw[ae,<-hn,hgd];rfl
 have HB:ae (∀W,aa af w W->W.cell? ⟨b,1,none⟩=some (.slice (some ⟨g,0,none⟩) o.fs.length vc)/\W.cell? ⟨b,5,none⟩=some (.int .i64 (n:Int))):=λW m=>by
  have hb:=(h.quiet m).blk;refine⟨hb.cell 1,?_⟩;rw[hb.cell 5];have:((k.funcs.length:Int)-1)=(n:Int):=by omega
  rw[this];rfl
 have HMW:=ak h.md;clear hrow hO h hn hgd;generalize fK (o.fs.getD (k.funcs.length-1) {}) y=r at *;generalize o.fs[n]=f at *;obtain⟨sl,en,las⟩:=f;dsimp only at *;generalize lb[n]?.getD 0=bl at *;generalize o.fs.length=nF at *;have f1:∀e:Ext af w,e.w.cell? ⟨b,1,none⟩=some (.slice (some ⟨g,0,none⟩) nF vc):=λe=>(HB.o e.w e.m).1;have f5:∀e:Ext af w,e.w.cell? ⟨b,5,none⟩=some (.int .i64 (n:Int)):=λe=>(HB.o e.w e.m).2;have g0:∀e:Ext af w,e.w.cell? ⟨g,n*3,none⟩=some (.int .i64 sl):=λe=>(HR.o e.w (HMW.o.trans e.m)).1;have g1:∀e:Ext af w,e.w.cell? ⟨g,n*3+1,none⟩=some (.bool en):=λe=>(HR.o e.w (HMW.o.trans e.m)).2.1;have g2:∀e:Ext af w,e.w.cell? ⟨g,n*3+2,none⟩=some (.map (some bl)):=λe=>(HR.o e.w (HMW.o.trans e.m)).2.2
 haveI:Nonempty (Ext af w):=Ext.ne _ _
 go_enter func213,ntmps213;go_upto_region 1 with fail;refine aZ [11,12] (λw'=>∃e:Ext af w,w'=e.w) (by kernel_rfl) (by kernel_rfl) (by kernel_rfl) ⟨⟨_,(aa.refl _ _).drew⟩,rfl⟩ ?_
 iterate 1 (refine aB rfl rfl rfl ?_;intro K hK;go_big_quiet_op;go_big_quiet_on)
 refine bq rfl rfl _ ⟨b,0,none⟩ rfl rfl ?_;simp only[Act.put,sA9,sB9,sC9]
 iterate 4 (refine aB rfl rfl rfl ?_;intro K hK;go_big_quiet_op;go_big_quiet_on)
 refine bq rfl rfl _ ⟨b,0,none⟩ rfl rfl ?_;simp only[Act.put,sA9,sB9,sC9]
 iterate 4 (refine aB rfl rfl rfl ?_;intro K hK;go_big_quiet_op;go_big_quiet_on)
 refine aF rfl rfl ?_;intro K hK;go_big_op;refine hK _ _ rfl ⟨⟨_,((aa.refl _ _).drew).alloc _⟩,rfl⟩ ?_;clear hK K;refine aF rfl rfl ?_;intro K hK;have hz:aq ((w.alloc (.cells #[.int .i64 0,.bool false,.map none] 124)).drew) w.heap.size #[.int .i64 0,.bool false,.map none] 124:=(aq.new w _ _).drew;have z0:=hz.cell 0;have z1:=hz.cell 1;have z2:=hz.cell 2;have zf:=hz.frozen;have HZ3:ae (aq ((w.alloc (.cells #[.int .i64 sl,.bool en,.map (some bl)] 124)).drew) w.heap.size #[.int .i64 sl,.bool en,.map (some bl)] 124):=(aq.new w _ _).drew;have fw:ae (aa af w ((w.alloc (.cells #[.int .i64 sl,.bool en,.map (some bl)] 124)).drew)):=((aa.refl af w).alloc _).drew;go_big_op;refine hK _ _ rfl ⟨⟨_,fw.o⟩,rfl⟩ ?_;clear hK K hz z0 z1 z2 zf;refine cu ?_;simp only[Exit.then];generalize(w.alloc (.cells #[.int .i64 sl,.bool en,.map (some bl)] 124)).drew=w3 at *;generalize w.heap.size=C at *;have c0:w3.cell? ⟨C,0,none⟩=some (.int .i64 sl):=HZ3.o.cell 0;have c2:w3.cell? ⟨C,2,none⟩=some (.map (some bl)):=HZ3.o.cell 2;have hlk:=(CS.o w3 (HMW.o.trans fw.o)).look y;clear f1 f5 g0 g1 g2;generalize dC las y=lo at *;cases lo with
 |none =>
  have jI:ae (r=false):=by rw[ae,HF.o];rfl
  simp only[Option.getD_none,Option.isSome_none]at hlk;go_wp2_with fail;go_ret;exact⟨by rw[jI.o];rfl,fw.o⟩
 |some q =>
  simp only[cx,Option.isSome_some]at hlk;have jI:ae (r=decide (q<sl)):=by rw[ae,HF.o];rfl
  go_wp2_with fail;go_ret;exact⟨by rw[jI.o];rfl,fw.o⟩
theorem abW(bs:List Nat)(x:bV)(h:x.kind=4):x.cells bs=ES 4 ⟨#[]⟩ ay ay ay (.pointer (some ⟨bs[x.x.k]?.getD 0,0,none⟩)) x.x.r.d x.x.r.s x.x.r.jump x.x.r.num x.x.r.high (T x.x.r.label) (T x.x.r.name) x.x.fits:=by unfold bV.cells;rw[iP9 h]
theorem Sz(wO w0 w:tW)(b bm bM bF:Nat)(vF vL:Value)(lb:List Nat)(o:OL)(k:WK)(bs:List Nat)(x:bV)(hO:dQ wO bm vF lb o w0)(h:gJ w0 b bm vF bM bF vL k w)(hx:x.kind=4)(hA:∀W,aa af w0 W->dM W (bs[x.x.k]?.getD 0) x.x.o)(hne:k.funcs≠[])(hl:k.funcs.length<=o.fs.length)(hl2:o.fs.length<=1000001)(hs:k.slots<=2000002):Calls prog 112 #[.pointer (some ⟨b,0,none⟩),.agg (x.cells bs)] w λe w'=>e=.returned (.int .i64 (kC o k x))/\gJ w0 b bm vF bM bF vL (iM k x) w':=by
 have HF:ae (kC o k x=if x.x.fits=false then 3
  else if(x.x.o.jumps&&!fK (o.fs.getD (k.funcs.length-1) {}) x.x.r.label)=true then 5
  else if(decide ((if x.x.r.s=1 then x.x.o.aX else 0)=2)&&decide (o.maps.count x.x.r.name=0))=true then 5
  else if 200<k.slots+x.x.o.slots then 1 else 0):=rfl
 have HHL:ae (∀w',gJ w0 b bm vF bM bF vL (iM k x) w'->Calls prog 213 #[.pointer (some ⟨b,0,none⟩),.string (T x.x.r.label)] w' λe w''=>e=.returned (.bool (fK (o.fs.getD (k.funcs.length-1) {}) x.x.r.label))/\aa af w' w''):=λw' h'=>Wj wO w0 w' b bm bM bF vF vL lb o (iM k x) x.x.r.label hO h' hne hl hl2;have Au:ae (∀w',aa af w0 w'->Calls prog 113 #[.agg #[.pointer (some ⟨bs[x.x.k]?.getD 0,0,none⟩),.int .u8 x.x.r.d,.int .u8 x.x.r.s,.int .i16 x.x.r.jump,.int .i32 x.x.r.num,.int .i32 x.x.r.high,.string (T x.x.r.label),.string (T x.x.r.name)]] w' λe w''=>e=.returned (.int .i64 ((if x.x.r.s=1 then x.x.o.aX else 0:Nat):Int))/\aa af w' w''):=λw' m=>DQ w' _ x.x.o (hA w' m) _ _ _ _ _ _ _;have HLK:ae (∀w',aa af w0 w'->(Instr.lookup 74 (.map (some bm)) (.string (T x.x.r.name)) false).run prog w'=.ok (.int .i64 (o.maps.count x.x.r.name:Nat)) w'):=λw' m=>(hO.quiet m).maps.look x.x.r.name;have hs2:=x.x.yh;have HOA:=ak hA;have Ym:=ak h;have HST:ae (∀W,gJ w0 b bm vF bM bF vL k W->gJ w0 b bm vF bM bF vL (iM k x) (W.setCell ⟨b,6,none⟩ (.int .i64 ((k.slots:Int)+x.x.o.slots)))):=λW hW=>hW.code rfl;have uq:ae (((iM k x).slots:Int)=(k.slots:Int)+x.x.o.slots):=by rw[ae];simp[iM]
 obtain⟨vo,vc,uZ,_⟩:=hO.sl.view;subst uZ;obtain⟨vq,rfl⟩:=h.vl;rw[abW bs x hx];unfold ES ay;dsimp only;clear h hx hO hA;generalize kC o k x=r at *;generalize fK (o.fs.getD (k.funcs.length-1) {}) x.x.r.label=hb at *;generalize bs[x.x.k]?.getD 0=bo at *;generalize o.maps.count x.x.r.name=mc at *;generalize T x.x.r.label=lab at *;generalize T x.x.r.name=nam at *;generalize hcs:(#[.int .i64 ((4:Nat):Int),.string ⟨#[]⟩,.bool false,.int .u64 ((0%18446744073709551616:Nat):Int),.bool (decide (18446744073709551616<=0)),.bool false,.int .u64 ((0%18446744073709551616:Nat):Int),.bool (decide (18446744073709551616<=0)),.bool false,.int .u64 ((0%18446744073709551616:Nat):Int),.bool (decide (18446744073709551616<=0)),.pointer (some ⟨bo,0,none⟩),.int .u8 x.x.r.d,.int .u8 x.x.r.s,.int .i16 x.x.r.jump,.int .i32 x.x.r.num,.int .i32 x.x.r.high,.string lab,.string nam,.bool x.x.fits]:tAV)=cs at *;have gR:=ak hcs.symm;clear hcs;have Qt:ae (aa af w (w.alloc (.cells cs 119))):=(aa.refl _ _).alloc _;have Uv:ae (aq (w.alloc (.cells cs 119)) w.heap.size cs 119):=aq.new w _ _;have HW1:=ak (Ym.o.quiet Qt.o);go_enter func112,ntmps112;go_upto_region 1 with fail;generalize w.alloc (.cells cs 119)=w1 at *;generalize w.heap.size=B at *;have gV:ae (aa af w1 w1.drew):=(aa.refl _ _).drew;refine dz 13 (by kernel_rfl) (by kernel_rfl) ?_;intro W hW;rw[<-hW]at gV;clear hW;have HW2:=ak (HW1.o.quiet gV.o);have HB2:=ak (Uv.o.ah gV.o id);obtain⟨p1,p2,p3,p4,p5,p6,p7,p8,p9,p10,p11,AR,_⟩:=(HOA.o W HW2.o.md).ex;have c11:W.cell? ⟨B,11,none⟩=some (.pointer (some ⟨bo,0,none⟩)):=(HB2.o.cell 11).trans (by rw[gR.o];rfl);have b6:W.cell? ⟨b,6,none⟩=some (.int .i64 k.slots):=HW2.o.blk.cell 6;have o2:=AR.cell 2;have bf:=HW2.o.blk.frozen;have Ql:ae (B≠b):=λe=>HB2.o.apart HW2.o.blk (by decide) e;have HOb:ae (bo≠b):=λe=>AR.apart HW2.o.blk (by decide) e;have sZ:=HST.o W HW2.o;have qG:ae (aq (W.setCell ⟨b,6,none⟩ (.int .i64 ((k.slots:Int)+x.x.o.slots))) B cs 119):=HB2.o.setOther (a:=⟨b,6,none⟩) Ql.o.symm _;have sZ:=ak sZ;clear AR HW1 Uv Qt Ym HST;generalize x.x.o.slots=os at *;generalize k.slots=ks at *;simp only[ba,bt,bh,cc]
 repeat(go_big_quiet_step (fail))
 refine wpQuiet_nil ?_;go_upto_region 2 with fail;generalize W.setCell ⟨b,6,none⟩ (.int .i64 ((ks:Int)+os))=w5 at *;clear c11 b6 o2 bf HW2 HB2 gV;have HBC:ae (∀W,aq W B cs 119->W.cell? ⟨B,11,none⟩=some (.pointer (some ⟨bo,0,none⟩))/\W.cell? ⟨B,17,none⟩=some (.string lab)/\W.cell? ⟨B,19,none⟩=some (.bool x.x.fits)):=λW hb=>⟨(hb.cell 11).trans (by rw[gR.o];rfl),(hb.cell 17).trans (by rw[gR.o];rfl),(hb.cell 19).trans (by rw[gR.o];rfl)⟩
 have Uw:ae (∀W,aq W B cs 119->W.cell? ⟨B,12,none⟩=some (.int .u8 x.x.r.d)/\W.cell? ⟨B,13,none⟩=some (.int .u8 x.x.r.s)/\W.cell? ⟨B,14,none⟩=some (.int .i16 x.x.r.jump)/\W.cell? ⟨B,15,none⟩=some (.int .i32 x.x.r.num)/\W.cell? ⟨B,16,none⟩=some (.int .i32 x.x.r.high)/\W.cell? ⟨B,18,none⟩=some (.string nam)):=λW hb=>⟨(hb.cell 12).trans (by rw[gR.o];rfl),(hb.cell 13).trans (by rw[gR.o];rfl),(hb.cell 14).trans (by rw[gR.o];rfl),(hb.cell 15).trans (by rw[gR.o];rfl),(hb.cell 16).trans (by rw[gR.o];rfl),(hb.cell 18).trans (by rw[gR.o];rfl)⟩
 have HOJ:ae (∀W,aa af w0 W->W.cell? ⟨bo,3,none⟩=some (.bool x.x.o.jumps)):=λW m=>by obtain⟨p1,p2,p3,p4,p5,p6,p7,p8,p9,p10,p11,AR,_⟩:=(HOA.o W m).ex;exact AR.cell 3
 clear HOA gR;generalize aeG:(if x.x.r.s=1 then x.x.o.aX else 0)=rf at *;generalize x.x.o.jumps=oj at *;generalize x.x.r.d=xd at *;generalize x.x.r.s=xs at *;generalize x.x.r.jump=xj at *;generalize x.x.r.num=xn at *;generalize x.x.r.high=xh at *;generalize x.x.fits=xf at *;clear aeG;obtain⟨c11,c17,c19⟩:=HBC.o w5 qG.o;have o3:=HOJ.o w5 sZ.o.md;cases xf with
 |false =>
  have HR:ae (r=3):=by rw[ae,HF.o,iP9 rfl]
  go_wp2_with fail;go_ret;exact⟨aV (by rw[HR.o];rfl),sZ.o⟩
 |true =>
  have HF2:ae (r=if(oj&&!hb)=true then 5 else if(decide (rf=2)&&decide (mc=0))=true then 5 else if 200<ks+os then 1 else 0):=by rw[ae,HF.o,iN9 (by decide)]
  cases oj with
  |true =>
   go_wp2_with fail;refine(HHL.o _ sZ.o).mono ?_;rintro e w6 ⟨rfl,m6⟩;have ow:=ak (sZ.o.quiet m6);have Qu:=ak (qG.o.ah m6 id);clear m6 sZ qG;cases hb with
   |false =>
    have HR:ae (r=5):=by rw[ae,HF2.o,iP9 (by decide)]
    go_wp2_with fail;go_ret;exact⟨aV (by rw[HR.o];rfl),ow.o⟩
   |true =>
    have HF3:ae (r=if(decide (rf=2)&&decide (mc=0))=true then 5 else if 200<ks+os then 1 else 0):=by rw[ae,HF2.o,iN9 (by decide)]
    go_upto_region 6 with fail;have VM:=ow.o;have hb6:=Qu.o;have d11:∀e:Ext af w6,e.w.cell? ⟨B,11,none⟩=some (.pointer (some ⟨bo,0,none⟩)):=λe=>(HBC.o e.w (Qu.o.ah e.m id)).1;have d17:∀e:Ext af w6,e.w.cell? ⟨B,17,none⟩=some (.string lab):=λe=>(HBC.o e.w (Qu.o.ah e.m id)).2.1;have d12:∀e:Ext af w6,e.w.cell? ⟨B,12,none⟩=some (.int .u8 xd):=λe=>(Uw.o e.w (Qu.o.ah e.m id)).1;have d13:∀e:Ext af w6,e.w.cell? ⟨B,13,none⟩=some (.int .u8 xs):=λe=>(Uw.o e.w (Qu.o.ah e.m id)).2.1;have d14:∀e:Ext af w6,e.w.cell? ⟨B,14,none⟩=some (.int .i16 xj):=λe=>(Uw.o e.w (Qu.o.ah e.m id)).2.2.1;have d15:∀e:Ext af w6,e.w.cell? ⟨B,15,none⟩=some (.int .i32 xn):=λe=>(Uw.o e.w (Qu.o.ah e.m id)).2.2.2.1;have d16:∀e:Ext af w6,e.w.cell? ⟨B,16,none⟩=some (.int .i32 xh):=λe=>(Uw.o e.w (Qu.o.ah e.m id)).2.2.2.2.1;have d18:∀e:Ext af w6,e.w.cell? ⟨B,18,none⟩=some (.string nam):=λe=>(Uw.o e.w (Qu.o.ah e.m id)).2.2.2.2.2;have dm:∀e:Ext af w6,e.w.cell? ⟨b,0,none⟩=some (.map (some bm)):=λe=>(ow.o.quiet e.m).blk.cell 0;have dl:∀e:Ext af w6,(Instr.lookup 74 (.map (some bm)) (.string nam) false).run prog e.w=.ok (.int .i64 (mc:Nat)) e.w:=λe=>HLK.o e.w (ow.o.md.trans e.m);have KZ:ae (∀e:Ext af w6,Calls prog 113 #[.agg #[.pointer (some ⟨bo,0,none⟩),.int .u8 xd,.int .u8 xs,.int .i16 xj,.int .i32 xn,.int .i32 xh,.string lab,.string nam]] e.w λe' w''=>e'=.returned (.int .i64 (rf:Nat))/\aa af e.w w''):=λe=>Au.o e.w (ow.o.md.trans e.m);clear VM hb6 c11 c17 c19 o3;have ne1:=Ext.ne af w6;refine bD af (by kernel_rfl) (by kernel_rfl) ?_
    have SA:ae (∀w2,aa af w6 w2->gJ w0 b bm (.slice vo o.fs.length vc) bM bF (.map vq) (iM k x) w2/\w2.cell? ⟨b,6,none⟩=some (.int .i64 ((ks:Int)+os))):=λw2 m=>⟨ow.o.quiet m,by
     have:=(ow.o.quiet m).blk.cell 6;rw[uq.o]at this;exact this⟩
    by_cases h2:rf=2
    ·subst h2;by_cases h0:mc=0
     ·subst h0;have HR:ae (r=5):=by rw[ae,HF3.o,iP9 (by decide)]
      repeat(go_big_quiet_step (first |(go_at_call 113;exact Calls.dN (KZ.o _))))
      refine wpQuiet_nil ?_;rintro w2 ⟨e2,K0⟩;have m2:aa af w6 w2:=by rw[K0];exact e2.m
      clear K0 e2;obtain⟨hW2,b6⟩:=SA.o w2 m2;have HW2:=ak hW2;clear hW2 m2 SA;go_wp2_with fail;go_ret;exact⟨aV (by rw[HR.o];rfl),HW2.o⟩
     ·have hq0:((mc:Int)==0)=false:=by simp;omega
      have HR:ae (r=if 200<ks+os then 1 else 0):=by rw[ae,HF3.o,iN9 (by simp;omega)]
      repeat(go_big_quiet_step (first |(go_at_call 113;exact Calls.dN (KZ.o _))))
      refine wpQuiet_nil ?_;rintro w2 ⟨e2,K0⟩;have m2:aa af w6 w2:=by rw[K0];exact e2.m
      clear K0 e2;obtain⟨hW2,b6⟩:=SA.o w2 m2;have HW2:=ak hW2;clear hW2 m2 SA;by_cases h3:200<ks+os
      ·have jI:ae (r=1):=by rw[ae,HR.o,iP9 h3]
       have h3':(200:Int)<(ks:Int)+os:=by omega
       go_wp2_with fail;go_ret;exact⟨aV (by rw[jI.o];rfl),HW2.o⟩
      ·have jI:ae (r=0):=by rw[ae,HR.o,iN9 h3]
       have h3':¬(200:Int)<(ks:Int)+os:=by omega
       go_wp2_with fail;go_ret;exact⟨aV (by rw[jI.o];rfl),HW2.o⟩
    ·have hq2:((rf:Int)==2)=false:=by simp;omega
     have HR:ae (r=if 200<ks+os then 1 else 0):=by rw[ae,HF3.o,iN9 (by simp;omega)]
     repeat(go_big_quiet_step (first |(go_at_call 113;exact Calls.dN (KZ.o _))))
     refine wpQuiet_nil ?_;rintro w2 ⟨e2,K0⟩;have m2:aa af w6 w2:=by rw[K0];exact e2.m
     clear K0 e2;obtain⟨hW2,b6⟩:=SA.o w2 m2;have HW2:=ak hW2;clear hW2 m2 SA;by_cases h3:200<ks+os
     ·have jI:ae (r=1):=by rw[ae,HR.o,iP9 h3]
      have h3':(200:Int)<(ks:Int)+os:=by omega
      go_wp2_with fail;go_ret;exact⟨aV (by rw[jI.o];rfl),HW2.o⟩
     ·have jI:ae (r=0):=by rw[ae,HR.o,iN9 h3]
      have h3':¬(200:Int)<(ks:Int)+os:=by omega
      go_wp2_with fail;go_ret;exact⟨aV (by rw[jI.o];rfl),HW2.o⟩
  |false =>
   have HF3:ae (r=if(decide (rf=2)&&decide (mc=0))=true then 5 else if 200<ks+os then 1 else 0):=by rw[ae,HF2.o,iN9 (by simp)]
   go_upto_region 6 with fail;have VM:=sZ.o;have hb6:=qG.o;have d11:∀e:Ext af w5,e.w.cell? ⟨B,11,none⟩=some (.pointer (some ⟨bo,0,none⟩)):=λe=>(HBC.o e.w (qG.o.ah e.m id)).1;have d17:∀e:Ext af w5,e.w.cell? ⟨B,17,none⟩=some (.string lab):=λe=>(HBC.o e.w (qG.o.ah e.m id)).2.1;have d12:∀e:Ext af w5,e.w.cell? ⟨B,12,none⟩=some (.int .u8 xd):=λe=>(Uw.o e.w (qG.o.ah e.m id)).1;have d13:∀e:Ext af w5,e.w.cell? ⟨B,13,none⟩=some (.int .u8 xs):=λe=>(Uw.o e.w (qG.o.ah e.m id)).2.1;have d14:∀e:Ext af w5,e.w.cell? ⟨B,14,none⟩=some (.int .i16 xj):=λe=>(Uw.o e.w (qG.o.ah e.m id)).2.2.1;have d15:∀e:Ext af w5,e.w.cell? ⟨B,15,none⟩=some (.int .i32 xn):=λe=>(Uw.o e.w (qG.o.ah e.m id)).2.2.2.1;have d16:∀e:Ext af w5,e.w.cell? ⟨B,16,none⟩=some (.int .i32 xh):=λe=>(Uw.o e.w (qG.o.ah e.m id)).2.2.2.2.1;have d18:∀e:Ext af w5,e.w.cell? ⟨B,18,none⟩=some (.string nam):=λe=>(Uw.o e.w (qG.o.ah e.m id)).2.2.2.2.2;have dm:∀e:Ext af w5,e.w.cell? ⟨b,0,none⟩=some (.map (some bm)):=λe=>(sZ.o.quiet e.m).blk.cell 0;have dl:∀e:Ext af w5,(Instr.lookup 74 (.map (some bm)) (.string nam) false).run prog e.w=.ok (.int .i64 (mc:Nat)) e.w:=λe=>HLK.o e.w (sZ.o.md.trans e.m);have KZ:ae (∀e:Ext af w5,Calls prog 113 #[.agg #[.pointer (some ⟨bo,0,none⟩),.int .u8 xd,.int .u8 xs,.int .i16 xj,.int .i32 xn,.int .i32 xh,.string lab,.string nam]] e.w λe' w''=>e'=.returned (.int .i64 (rf:Nat))/\aa af e.w w''):=λe=>Au.o e.w (sZ.o.md.trans e.m);clear VM hb6 c11 c17 c19 o3;have ne1:=Ext.ne af w5;refine bD af (by kernel_rfl) (by kernel_rfl) ?_
   have SA:ae (∀w2,aa af w5 w2->gJ w0 b bm (.slice vo o.fs.length vc) bM bF (.map vq) (iM k x) w2/\w2.cell? ⟨b,6,none⟩=some (.int .i64 ((ks:Int)+os))):=λw2 m=>⟨sZ.o.quiet m,by
    have:=(sZ.o.quiet m).blk.cell 6;rw[uq.o]at this;exact this⟩
   by_cases h2:rf=2
   ·subst h2;by_cases h0:mc=0
    ·subst h0;have HR:ae (r=5):=by rw[ae,HF3.o,iP9 (by decide)]
     repeat(go_big_quiet_step (first |(go_at_call 113;exact Calls.dN (KZ.o _))))
     refine wpQuiet_nil ?_;rintro w2 ⟨e2,K0⟩;have m2:aa af w5 w2:=by rw[K0];exact e2.m
     clear K0 e2;obtain⟨hW2,b6⟩:=SA.o w2 m2;have HW2:=ak hW2;clear hW2 m2 SA;go_wp2_with fail;go_ret;exact⟨aV (by rw[HR.o];rfl),HW2.o⟩
    ·have hq0:((mc:Int)==0)=false:=by simp;omega
     have HR:ae (r=if 200<ks+os then 1 else 0):=by rw[ae,HF3.o,iN9 (by simp;omega)]
     repeat(go_big_quiet_step (first |(go_at_call 113;exact Calls.dN (KZ.o _))))
     refine wpQuiet_nil ?_;rintro w2 ⟨e2,K0⟩;have m2:aa af w5 w2:=by rw[K0];exact e2.m
     clear K0 e2;obtain⟨hW2,b6⟩:=SA.o w2 m2;have HW2:=ak hW2;clear hW2 m2 SA;by_cases h3:200<ks+os
     ·have jI:ae (r=1):=by rw[ae,HR.o,iP9 h3]
      have h3':(200:Int)<(ks:Int)+os:=by omega
      go_wp2_with fail;go_ret;exact⟨aV (by rw[jI.o];rfl),HW2.o⟩
     ·have jI:ae (r=0):=by rw[ae,HR.o,iN9 h3]
      have h3':¬(200:Int)<(ks:Int)+os:=by omega
      go_wp2_with fail;go_ret;exact⟨aV (by rw[jI.o];rfl),HW2.o⟩
   ·have hq2:((rf:Int)==2)=false:=by simp;omega
    have HR:ae (r=if 200<ks+os then 1 else 0):=by rw[ae,HF3.o,iN9 (by simp;omega)]
    repeat(go_big_quiet_step (first |(go_at_call 113;exact Calls.dN (KZ.o _))))
    refine wpQuiet_nil ?_;rintro w2 ⟨e2,K0⟩;have m2:aa af w5 w2:=by rw[K0];exact e2.m
    clear K0 e2;obtain⟨hW2,b6⟩:=SA.o w2 m2;have HW2:=ak hW2;clear hW2 m2 SA;by_cases h3:200<ks+os
    ·have jI:ae (r=1):=by rw[ae,HR.o,iP9 h3]
     have h3':(200:Int)<(ks:Int)+os:=by omega
     go_wp2_with fail;go_ret;exact⟨aV (by rw[jI.o];rfl),HW2.o⟩
    ·have jI:ae (r=0):=by rw[ae,HR.o,iN9 h3]
     have h3':¬(200:Int)<(ks:Int)+os:=by omega
     go_wp2_with fail;go_ret;exact⟨aV (by rw[jI.o];rfl),HW2.o⟩
def mC(w0:tW)(b bm bM bF:Nat)(vF:Value)(k:WK)(r:Nat)(e:Ending)(w':tW):Prop:=e=.returned (.int .i64 r)/\∃vL,gJ w0 b bm vF bM bF vL k w'
theorem aak(wO w0 w:tW)(b bm bM bF:Nat)(vF vL:Value)(lb:List Nat)(o:OL)(k:WK)(bs:List Nat)(x:bV)(hO:dQ wO bm vF lb o w0)(h:gJ w0 b bm vF bM bF vL k w)(hA:x.kind=4->∀W,aa af w0 W->dM W (bs[x.x.k]?.getD 0) x.x.o)(hM:k.maps.Nodup) (hFn:k.funcs.Nodup) (Ux:x.kind=3\/x.kind=4->k.funcs≠[]) (h2:x.kind=2->k.funcs.length<o.fs.length) (hl:k.funcs.length<=o.fs.length) (hl2:o.fs.length<=1000001) (hs:k.slots<=2000002) (hm:k.maps.length<=1000001) (hlb:k.labels.length<=1000001):Calls prog 52 #[.pointer (some ⟨b,0,none⟩),.agg (x.cells bs)] w λe w'=>mC w0 b bm bM bF vF (dV k x) (bQ o k x) e w':=by
 obtain⟨vo,vc,uZ,_⟩:=hO.sl.view;have yg:ae (x.kind=1->∀w',gJ w0 b bm vF bM bF vL k w'->Calls prog 110 #[.pointer (some ⟨b,0,none⟩),.agg (x.cells bs)] w' λe w''=>mC w0 b bm bM bF vF (dV k x) (bQ o k x) e w''):=λhx w' h'=>(Wi w0 w' b bm bM bF vF vL k bs x h' ⟨_,_,_,uZ⟩ hx hm hM).mono λe w'' hp=>⟨by rw[bQ,iP9 hx];exact hp.1,vL,by rw[dV,iP9 hx];exact hp.2⟩
 have HC2:ae (x.kind=2->∀w',gJ w0 b bm vF bM bF vL k w'->Calls prog 111 #[.pointer (some ⟨b,0,none⟩),.agg (x.cells bs)] w' λe w''=>mC w0 b bm bM bF vF (dV k x) (bQ o k x) e w''):=λhx w' h'=>(Sy wO w0 w' b bm bM bF vF vL lb o k bs x hO h' hx (h2 hx) hl2 hFn).mono λe w'' hp=>⟨by rw[bQ,iN9 (by omega),iP9 hx];exact hp.1,by rw[dV,iN9 (by omega),iP9 hx];exact hp.2⟩
 have HC4:ae (x.kind=4->∀w',gJ w0 b bm vF bM bF vL k w'->Calls prog 112 #[.pointer (some ⟨b,0,none⟩),.agg (x.cells bs)] w' λe w''=>mC w0 b bm bM bF vF (dV k x) (bQ o k x) e w''):=λhx w' h'=>(Sz wO w0 w' b bm bM bF vF vL lb o k bs x hO h' hx (hA hx) (Ux (.inr hx)) hl hl2 hs).mono λe w'' hp=>⟨by rw[bQ,iN9 (by omega),iN9 (by omega),iN9 (by omega),iP9 hx];exact hp.1,vL,by rw[dV,iN9 (by omega),iN9 (by omega),iN9 (by omega),iP9 hx];exact hp.2⟩
 have Wk:ae (x.kind=3->∀e w',e=.returned (.int .i64 (qP k x))->gJ w0 b bm vF bM bF vL (qQ k x) w'->mC w0 b bm bM bF vF (dV k x) (bQ o k x) e w'):=λhx e w' h1 h2=>⟨by rw[bQ,iN9 (by omega),iN9 (by omega),iP9 hx];exact h1,vL,by rw[dV,iN9 (by omega),iN9 (by omega),iP9 hx];exact h2⟩
 have KS:ae (x.kind≠1/\x.kind≠2/\x.kind≠3/\x.kind≠4->∀e w',e=.returned (.int .i64 0)->gJ w0 b bm vF bM bF vL k w'->mC w0 b bm bM bF vF (dV k x) (bQ o k x) e w'):=λhx e w' h1 h2=>⟨by rw[bQ,iN9 hx.1,iN9 hx.2.1,iN9 hx.2.2.1,iN9 hx.2.2.2];exact h1,vL,by rw[dV,iN9 hx.1,iN9 hx.2.1,iN9 hx.2.2.1,iN9 hx.2.2.2];exact h2⟩
 have Ff:ae (x.kind=3->∃bL,vL=.map (some bL)/\∀W,gJ w0 b bm vF bM bF vL k W->eD W bL k.labels/\∀W',eD W' bL (x.name::k.labels)->aa (λi=>i=bL) W W'->gJ w0 b bm vF bM bF vL (qQ k x) W'):=λhx=>by obtain⟨bL,h1,_⟩:=h.ls (Ux (.inl hx));subst h1;refine⟨bL,rfl,λW hW=>⟨?_,λW' hc m=>hW.lab (Ux (.inl hx)) hc m⟩⟩;obtain⟨bL',h1,h2,_⟩:=hW.ls (Ux (.inl hx));injection h1 with h1;injection h1 with h1;subst h1;exact h2
 have gR:ae ((x.cells bs).size=20):=iE bs x;have HK0:ae ((x.cells bs)[0]?=some (.int .i64 x.kind)):=tC bs x;have Nt:ae (x.kind≠4->(x.cells bs)[1]?=some (.string (T x.name))):=py bs x;have HO1:ae ((x.cells bs).all (·.oneCell')=true):=cells_one bs x;have HLF:ae (qP k x=if 0<k.labels.count x.name then 4 else 0):=rfl;have hcn:k.labels.count x.name<=1000001:=ar cb hlb;have Ym:=ak h;subst uZ;obtain⟨vq,rfl⟩:=h.vl;clear h hO hA hM hFn Ux h2;have KZ:ae (∀e w',mC w0 b bm bM bF (.slice vo o.fs.length vc) (dV k x) (bQ o k x) e w'->∃n:Nat,e=.returned (.int .i64 n)):=λe w' hp=>⟨_,hp.1⟩
 generalize mC w0 b bm bM bF (.slice vo o.fs.length vc) (dV k x) (bQ o k x)=RP at *;generalize qP k x=lf at *;generalize x.cells bs=cs at *;have Qt:ae (aa af w (w.alloc (.cells cs 119))):=(aa.refl _ _).alloc _;have HB1:ae (aq (w.alloc (.cells cs 119)) w.heap.size cs 119):=aq.new w _ _;have HW1:=ak (Ym.o.quiet Qt.o);go_enter func52,ntmps52;go_upto_region 1 with fail;generalize w.alloc (.cells cs 119)=w1 at *;generalize w.heap.size=B at *;have c0:w1.cell? ⟨B,0,none⟩=some (.int .i64 x.kind):=(HB1.o.cell 0).trans HK0.o;have hcase:x.kind=1\/x.kind=2\/x.kind=3\/x.kind=4\/(x.kind≠1/\x.kind≠2/\x.kind≠3/\x.kind≠4):=by omega
 rcases hcase with hx|hx|hx|hx|hx
 ·have q1:((x.kind:Int)==1)=true:=by rw[hx];rfl
  have HC:=yg.o hx;clear hx;go_wp2_with (refine wpList_load_row rfl 119 (.tmp 3) rfl B rfl 119 cs (0,0) _ HB1.o underlying119 rfl (by rw[gR.o];kernel_rfl) ?_);refine(HC _ HW1.o).mono ?_;intro e w2 hp;obtain⟨n,rfl⟩:=KZ.o e w2 hp;have HP:=ak hp;clear hp;go_wp2_with fail;exact HP.o
 ·have q1:((x.kind:Int)==1)=false:=by rw[hx];rfl
  have q2:((x.kind:Int)==2)=true:=by rw[hx];rfl
  have HC:=HC2.o hx;clear hx;go_wp2_with (refine wpList_load_row rfl 119 (.tmp 3) rfl B rfl 119 cs (0,0) _ HB1.o underlying119 rfl (by rw[gR.o];kernel_rfl) ?_);refine(HC _ HW1.o).mono ?_;intro e w2 hp;obtain⟨n,rfl⟩:=KZ.o e w2 hp;have HP:=ak hp;clear hp;go_wp2_with fail;exact HP.o
 ·have q1:((x.kind:Int)==1)=false:=by rw[hx];rfl
  have q2:((x.kind:Int)==2)=false:=by rw[hx];rfl
  have q3:((x.kind:Int)==3)=true:=by rw[hx];rfl
  have HC:=ak (Wk.o hx);obtain⟨bL,hbL,hLL⟩:=Ff.o hx;injection hbL with hbL;subst hbL;have HL:=ak hLL;have HN:=ak (Nt.o (by omega));clear hx hLL;go_upto_region 7 with fail;have gV:ae (aa af w1 w1.drew):=(aa.refl _ _).drew;refine dz 8 (by kernel_rfl) (by kernel_rfl) ?_;intro W hW;rw[<-hW]at gV;clear hW c0;have HW2:=ak (HW1.o.quiet gV.o);have HB2:=ak (HB1.o.ah gV.o id);have c1:W.cell? ⟨B,1,none⟩=some (.string (T x.name)):=(HB2.o.cell 1).trans HN.o;have b4:W.cell? ⟨b,4,none⟩=some (.map (some bL)):=HW2.o.blk.cell 4;obtain⟨hcL,hst⟩:=HL.o W HW2.o;have hlk:=hcL.look x.name;obtain⟨w5,J7,Sr,m5⟩:=hcL.put x.name;have sZ:ae (gJ w0 b bm (.slice vo o.fs.length vc) bM bF (.map (some bL)) (qQ k x) w5):=hst w5 Sr m5;have qG:ae (aq w5 B cs 119):=HB2.o.ah m5 (λe=>hcL.az HB2.o e);have Yn:=ak Sr;have HLC:ae ((x.name::k.labels).count x.name=k.labels.count x.name+1):=ca ..;clear Sr m5 hst hcL;generalize k.labels.count x.name=cn at *;simp only[ba,bt,bh,cc]
  repeat(go_big_quiet_step (fail))
  refine wpQuiet_nil ?_;clear hlk c1 b4 HW2 HB2 gV;go_upto_region 8 with fail;have gV:ae (aa af w5 w5.drew):=(aa.refl _ _).drew;refine fI (by kernel_rfl) (by kernel_rfl) ?_;intro W7 hW7;rw[<-hW7]at gV;clear hW7 J7;have uJ:=ak (sZ.o.quiet gV.o);have c1:W7.cell? ⟨B,1,none⟩=some (.string (T x.name)):=((qG.o.ah gV.o id).cell 1).trans HN.o;have b4:W7.cell? ⟨b,4,none⟩=some (.map (some bL)):=uJ.o.blk.cell 4;have hlk:=(Yn.o.ah gV.o id).look x.name;rw[HLC.o]at hlk;clear gV sZ qG Yn;by_cases h0:0<cn
  ·have HR:ae (lf=4):=by rw[ae,HLF.o,iP9 h0]
   have hq:((1:Int)<((cn+1:Nat):Int)):=by omega
   repeat(go_big_quiet_step (fail))
   refine wpQuiet_nil ?_;go_wp2_with fail;exact HC.o _ _ (aV (by rw[HR.o];rfl)) uJ.o
  ·have hc0:cn=0:=by omega
   subst hc0;have HR:ae (lf=0):=by rw[ae,HLF.o,iN9 h0]
   repeat(go_big_quiet_step (fail))
   refine wpQuiet_nil ?_;go_wp2_with fail;exact HC.o _ _ (aV (by rw[HR.o];rfl)) uJ.o
 ·have q1:((x.kind:Int)==1)=false:=by rw[hx];rfl
  have q2:((x.kind:Int)==2)=false:=by rw[hx];rfl
  have q3:((x.kind:Int)==3)=false:=by rw[hx];rfl
  have q4:((x.kind:Int)==4)=true:=by rw[hx];rfl
  have HC:=HC4.o hx;clear hx;go_wp2_with (refine wpList_load_row rfl 119 (.tmp 3) rfl B rfl 119 cs (0,0) _ HB1.o underlying119 rfl (by rw[gR.o];kernel_rfl) ?_);refine(HC _ HW1.o).mono ?_;intro e w2 hp;obtain⟨n,rfl⟩:=KZ.o e w2 hp;have HP:=ak hp;clear hp;go_wp2_with fail;exact HP.o
 ·have q1:((x.kind:Int)==1)=false:=by simp;omega
  have q2:((x.kind:Int)==2)=false:=by simp;omega
  have q3:((x.kind:Int)==3)=false:=by simp;omega
  have q4:((x.kind:Int)==4)=false:=by simp;omega
  have HC:=ak (KS.o hx);clear hx;go_wp2_with fail;exact HC.o _ _ rfl HW1.o
def ahM(o:OL):List bV->WK->Nat->Nat×Nat
 |[],_,_=>(0,0)
 |x::ls,k,n=>if bQ o k x=0 then ahM o ls (dV k x) (n+1)else(bQ o k x,n+1)
theorem K3(o:OL)(ls:List bV)(i:Nat)(h:i<ls.length)(k:WK)(n:Nat):ahM o (ls.drop i) k n=if bQ o k ls[i]=0 then ahM o (ls.drop (i+1)) (dV k ls[i]) (n+1)else(bQ o k ls[i],n+1):=by rw[List.drop_eq_getElem_cons h];rfl
structure Fg(ls:List bV)(i:Nat)(k:WK):Prop where
 m:k.maps.Nodup
 f:k.funcs.Nodup
 n:k.funcs.length=(ai (ls.take i)).fs.length
 s:k.slots<=2*i
 ml:k.maps.length<=i
 ll:k.labels.length<=i
theorem lW(o:OL)(f:pR):(o.dx f).fs.length=o.fs.length:=by simp[OL.dx]
theorem Fg.step{ls:List bV}{i:Nat}{k:WK}(h:Fg ls i k)(o:OL)(hi:i<ls.length)(hz:bQ o k ls[i]=0):Fg ls (i+1) (dV k ls[i]):=by
 obtain⟨h1,h2,h3,h4,h5,h6⟩:=h;have hs:=gy ls i hi;generalize ls[i]=x at *;unfold bQ at hz;unfold dV;by_cases k1:x.kind=1
 ·rw[iP9 k1]at hz ⊢;unfold kN at hz;split at hz
  ·cases hz
  split at hz
  ·cases hz
  rename_i _ hc
  refine⟨List.nodup_cons.2 ⟨λhm=>hc (List.count_pos_iff.2 hm),h1⟩,h2,?_,ar h4 (by omega),by simpa [pE]using h5,ao h6⟩;rw[hs,bG,iP9 k1];exact h3
 rw[iN9 k1]at hz ⊢;by_cases k2:x.kind=2
 ·rw[iP9 k2]at hz ⊢;unfold kz at hz;split at hz
  ·cases hz
  rename_i hc
  refine⟨h1,List.nodup_cons.2 ⟨λhm=>hc (List.count_pos_iff.2 hm),h2⟩,?_,ar h4 (by omega),ao h5,cd _⟩;rw[hs,bG,iN9 k1,iP9 k2];simp[gZ,h3]
 rw[iN9 k2]at hz ⊢;by_cases k3:x.kind=3
 ·rw[iP9 k3]at hz ⊢;refine⟨h1,h2,?_,ar h4 (by omega),ao h5,by simpa [qQ]using h6⟩;rw[hs,bG,iN9 k1,iN9 k2,iP9 k3,lW];exact h3
 rw[iN9 k3]at hz ⊢;by_cases k4:x.kind=4
 ·rw[iP9 k4]at hz ⊢;have:=x.x.yh;refine⟨h1,h2,?_,by show k.slots+x.x.o.slots<=_;omega,ao h5,ao h6⟩;rw[hs,bG,iN9 k1,iN9 k2,iN9 k3,iP9 k4,lW];exact h3
 ·rw[iN9 k4]at hz ⊢;refine⟨h1,h2,?_,ar h4 (by omega),ao h5,ao h6⟩;rw[hs,bG,iN9 k1,iN9 k2,iN9 k3,iN9 k4];exact h3
theorem BN(o:OL)(x:bV):o.fs.length<=(bG o x).fs.length:=by
 unfold bG;split
 ·exact b9 _
 split
 ·simp
 split
 ·rw[lW];exact b9 _
 split
 ·rw[lW];exact b9 _
 ·exact b9 _
theorem K4:∀(ls:List bV) (o:OL),o.fs.length<=(ls.foldl bG o).fs.length
 |[],_=>b9 _
 |x::ls,o=>ar (BN o x) (K4 ls (bG o x))
theorem tI(ls:List bV)(i:Nat):(ai (ls.take i)).fs.length<=(ai ls).fs.length:=by
 have h:=K4 (ls.drop i) (ai (ls.take i));have e:(ls.drop i).foldl bG (ai (ls.take i))=ai ls:=by unfold ai;rw[<-cj,List.take_append_drop]
 rwa [e]at h
theorem K5(ls:List bV)(i:Nat)(hi:i<ls.length)(h2:ls[i].kind=2):(ai (ls.take i)).fs.length<(ai ls).fs.length:=by have h:=tI ls (i+1);rw[gy ls i hi,bG,iN9 (by omega),iP9 h2]at h;simp at h;omega
def wz(w:tW)(p:Nat×Nat)(e:Ending)(w':tW):Prop:=e=.returned (.tuple #[.int .i64 p.1,.int .i64 p.2])/\aa af w w'
theorem ND(ls:List bV):(ai ls).fs.length<=ls.length:=by
 have:=(jW ls ls.length (b9 _)).2
 rwa [List.take_length]at this
theorem SB(wT wL wO w:tW)(v vL vF:Value)(bm:Nat)(lb bs:List Nat)(ls:List bV)(hT:aR 0 wT v bs ax)(m:aa af wT w)(hL:ed wL vL bs ls w)(hO:dQ wO bm vF lb (ai ls) w)(hin:InF ls)(hk4:∀x∈ls,x.kind=4->x.x.k<ax.length)(hnl:ls.length<=1000001):Calls prog 27 #[vL,.agg #[.map (some bm),vF]] w λe w'=>wz w (ahM (ai ls) ls {} 0) e w':=by
 have Fb:ae (∀w',aa af w w'->∀x∈ls,x.kind=4->dM w' (bs[x.x.k]?.getD 0) x.x.o):=λw' m' x hx h4=>by
  have h1:=hk4 x hx h4;have h2:x.x.k<bs.length:=by rw[hT.len];exact h1
  have:=(hT.ah (m.trans m')).at' x.x.k h2 h1;rw[List.getElem?_eq_getElem h2];unfold bH.o;rw[List.getElem?_eq_getElem h1];exact this
 have x8:=ak hL;have hol:=ar (ND ls) hnl
 have HFL:ae (∀i (hi:i<ls.length) (b bM bF:Nat) (vl:Value) (k:WK) (w':tW),Fg ls i k->gJ w b bm vF bM bF vl k w'->Calls prog 52 #[.pointer (some ⟨b,0,none⟩),.agg (ls[i].cells bs)] w' λe w''=>mC w b bm bM bF vF (dV k ls[i]) (bQ (ai ls) k ls[i]) e w''):=λi hi b bM bF vl k w' hk hw=>by
  have hm:=tI ls i;refine aak wO w w' b bm bM bF vF vl lb (ai ls) k bs ls[i] hO hw (λh4 W hW=>Fb.o W hW _ (cw hi) h4) hk.m hk.f (λUx=>?_) (λh2=>?_) (by rw[hk.n];exact hm) hol ?_ ?_ ?_
  ·have:=hin i hi Ux;intro e;have hn:=hk.n;rw[e]at hn;exact this (List.length_eq_zero_iff.1 hn.symm)
  ·rw[hk.n];exact K5 ls i hi h2
  ·have:=hk.s;omega
  ·have:=hk.ml;omega
  ·have:=hk.ll;omega
 have HDR:ae (∀i (h:i<ls.length) k n,ahM (ai ls) (ls.drop i) k n=if bQ (ai ls) k ls[i]=0 then ahM (ai ls) (ls.drop (i+1)) (dV k ls[i]) (n+1)else(bQ (ai ls) k ls[i],n+1)):=λi h k n=>K3 _ ls i h k n;have Uk:ae (∀e w',e=.returned (.tuple #[.int .i64 (ahM (ai ls) ls {} 0).1,.int .i64 (ahM (ai ls) ls {} 0).2])->aa af w w'->wz w (ahM (ai ls) ls {} 0) e w'):=λe w' h1 h2=>⟨h1,h2⟩
 obtain⟨oL,cL,rfl,_⟩:=hL.sl.view;obtain⟨oF,cF,uZ,_⟩:=hO.sl.view;have Yd:ae (Fg ls 0 {}):=⟨List.nodup_nil,List.nodup_nil,by rw[bt];rfl,cd _,cd _,cd _⟩
 have HST:ae (∀i k (hi:i<ls.length),Fg ls i k->bQ (ai ls) k ls[i]=0->Fg ls (i+1) (dV k ls[i])):=λi k hi h hz=>h.step (ai ls) hi hz;have hmm:=@run_makeMap prog;generalize wz w (ahM (ai ls) ls {} 0)=RP at *;have Jl:ae (ahM (ai ls) (ls.drop 0) {} 0=ahM (ai ls) ls {} 0):=rfl;generalize ahM (ai ls) ls {} 0=pr at *;clear hT m hL hO hin hk4;subst uZ;generalize ai ls=o at *
 have HW0:ae (gJ w (w.heap.size+1+1+1) bm (.slice oF o.fs.length cF) (w.heap.size+1) (w.heap.size+1+1) (.map none) {} ((((w.alloc (.cells #[.map (some bm),.slice oF o.fs.length cF] 77)).alloc (.map #[] 0)).alloc (.map #[] 0)).alloc (.cells #[.map (some bm),.slice oF o.fs.length cF,.map (some (w.heap.size+1)),.map (some (w.heap.size+1+1)),.map none,.int .i64 (-1),.int .i64 0] 136))):=by
  have e1:(w.alloc (.cells #[.map (some bm),.slice oF o.fs.length cF] 77)).heap.size=w.heap.size+1:=by simp
  have e2:((w.alloc (.cells #[.map (some bm),.slice oF o.fs.length cF] 77)).alloc (.map #[] 0)).heap.size=w.heap.size+1+1:=by simp
  have e3:(((w.alloc (.cells #[.map (some bm),.slice oF o.fs.length cF] 77)).alloc (.map #[] 0)).alloc (.map #[] 0)).heap.size=w.heap.size+1+1+1:=by simp
  have m1:=eD.new (w.alloc (.cells #[.map (some bm),.slice oF o.fs.length cF] 77));have m2:=eD.new ((w.alloc (.cells #[.map (some bm),.slice oF o.fs.length cF] 77)).alloc (.map #[] 0));rw[e1]at m1;rw[e2]at m2;have hb:=aq.new (((w.alloc (.cells #[.map (some bm),.slice oF o.fs.length cF] 77)).alloc (.map #[] 0)).alloc (.map #[] 0)) #[.map (some bm),.slice oF o.fs.length cF,.map (some (w.heap.size+1)),.map (some (w.heap.size+1+1)),.map none,.int .i64 (-1),.int .i64 0] 136;rw[e3]at hb;refine⟨hb,(m1.ah ((aa.refl af _).alloc _) id).ah ((aa.refl af _).alloc _) id,m2.ah ((aa.refl af _).alloc _) id,⟨_,rfl⟩,λh=>absurd rfl h,by omega,by omega,((((aa.refl _ _).alloc _).alloc _).alloc _).alloc _⟩
 go_enter func27,ntmps27;go_upto_region 1 with fail;go_wp2_with fail;generalize((((w.alloc (.cells #[.map (some bm),.slice oF o.fs.length cF] 77)).alloc (.map #[] 0)).alloc (.map #[] 0)).alloc (.cells #[.map (some bm),.slice oF o.fs.length cF,.map (some (w.heap.size+1)),.map (some (w.heap.size+1+1)),.map none,.int .i64 (-1),.int .i64 0] 136))=w4 at *;generalize w.heap.size+1+1+1=b at *;generalize w.heap.size+1+1=bF at *;generalize w.heap.size+1=bM at *;go_loopg [16] ls.length (λq Uy wx=>∃(i:Nat) (k:WK) (vl:Value),i<=ls.length/\Uy=.int .i64 i/\gJ w b bm (.slice oF o.fs.length cF) bM bF vl k wx/\Fg ls i k/\ahM o (ls.drop i) k i=pr/\q=ls.length-i)
 case atStart=>exact⟨0,_,_,cd _,rfl,HW0.o,Yd.o,Jl.o,rfl⟩
 case round =>
  obtain⟨i,k,vl,hi,rfl,hA,hok,hpr,rfl⟩:=hrel;have HA:=ak hA;have HK:=ak hok;have HP:=ak hpr;clear hA hok hpr HW0 Yd Jl;by_cases hlt:i<ls.length
  ·obtain⟨g,cL',hv,hcl,hrow⟩:=x8.o.row i hlt;injection hv with hv1 hv2 hv3;subst hv1;have HRW:=hrow wr HA.o.md;have HD:ae (pr=if bQ o k ls[i]=0 then ahM o (ls.drop (i+1)) (dV k ls[i]) (i+1)else(bQ o k ls[i],i+1)):=by rw[ae,<-HP.o];exact HDR.o i hlt k i
   have HS:ae (bQ o k ls[i]=0->Fg ls (i+1) (dV k ls[i])):=λhz=>HST.o i k hlt HK.o hz;have HF:ae (∀w',gJ w b bm (.slice oF o.fs.length cF) bM bF vl k w'->Calls prog 52 #[.pointer (some ⟨b,0,none⟩),.agg (ls[i].cells bs)] w' λe w''=>mC w b bm bM bF (.slice oF o.fs.length cF) (dV k ls[i]) (bQ o k ls[i]) e w''):=λw' hw=>HFL.o i hlt b bM bF vl k w' HK.o hw;clear hrow hv3 HFL Fb HDR HST HP HK;generalize bQ o k ls[i]=r at *;generalize dV k ls[i]=k' at *;generalize ls[i]=x at *;have gR:ae ((x.cells bs).size=20):=iE bs x;have yg:ae ((x.cells bs).all (·.oneCell')=true):=cells_one bs x;have HB2:ae (aq (wr.alloc (.cells (gx 0 ⟨#[]⟩ ay ay ay) 119)) wr.heap.size (gx 0 ⟨#[]⟩ ay ay ay) 119):=aq.new wr _ _;generalize x.cells bs=cs at *;go_upto_region 5 with(first |(refine dR rfl 119 (.tmp 19) rfl g (i*20) rfl cs _ HRW underlying119 rfl (by rw[gR.o];kernel_rfl) ?_) |(refine dI rfl 119 (.tmp 8) (.tmp 20) rfl wr.heap.size cs rfl rfl 119 _ HB2.o (by rw[gR.o];kernel_rfl) (by rw[gR.o];rfl) yg.o ?_;intro W3 hB3 zG))
   have kT:=ak (HA.o.quiet zG.fresh);have HB3:=ak hB3;clear HA HB2 HRW zG hB3;generalize wr.heap.size=B at *;go_wp2_with (refine wpList_load_row rfl 119 (.tmp 8) rfl B rfl 119 cs (0,0) _ HB3.o underlying119 rfl (by rw[gR.o];kernel_rfl) ?_);refine(HF.o _ kT.o).mono ?_;rintro e w5 ⟨rfl,vl',hw5⟩;have sZ:=ak hw5;clear hw5 kT HF HB3;by_cases hr:r=0
   ·have HS2:=ak (HS.o hr);clear HS;subst hr;have eT:ae (ahM o (ls.drop (i+1)) k' (i+1)=pr):=by rw[ae,HD.o,iP9 rfl]
    go_wp2_with fail;go_roundg (ls.length-(i+1))
    case measure=>omega
    case rel=>exact⟨i+1,k',vl',by omega,by go_num,sZ.o,HS2.o,eT.o,rfl⟩
   ·have eT:ae (pr=(r,i+1)):=by rw[ae,HD.o,iN9 hr]
    have hq:((r:Int)==0)=false:=by simp;omega
    have HE:ae (((i+1:Nat):Int)=(i:Int)+1):=by rw[ae];omega
    go_wp2_with fail;refine Uk.o _ _ ?_ sZ.o.md;rw[eT.o];dsimp only;rw[HE.o];rfl
  ·have eT:ae (pr=(0,0)):=by rw[ae,<-HP.o,List.drop_eq_nil_of_le (by omega)];rfl
   go_wp2_with fail;refine Uk.o _ _ ?_ HA.o.md;rw[eT.o];rfl
theorem BO(w l:tLB):∀(os:List eQ) (k:Nat) (p:bH),ahR w l k os=some p->p.k<k+os.length
 |[],k,p,h=>by simp[ahR]at h
 |o::os,k,p,h=>by
  rw[ahR]at h;have ih:=BO w l os (k+1) p;split at h
  ·split at h
   ·have:=ih h;simp;omega
   ·split at h
    ·injection h with h;subst h;simp
    ·have:=ih h;simp;omega
  ·have:=ih h;simp;omega
theorem NF{l:tLB}{x:bV}(h:fH l=some x):x.kind=1:=by
 unfold fH at h;split at h
 ·simp only[ch]at h;obtain⟨a,_,b,_,c,_,h⟩:=h;split at h
  ·injection h with h;subst h;rfl
  ·cases h
 ·cases h
theorem Wl{t:tLB}{x:bV}(h:bY t=some x)(h4:x.kind=4):x.x.k<ax.length:=by
 unfold bY at h;simp only[ch]at h;obtain⟨l,_,h⟩:=h;split at h
 ·injection h with h;subst h;cases h4
 split at h
 ·split at h
  ·injection h with h;subst h;cases h4
  ·cases h
 split at h
 ·have:=NF h;omega
 split at h
 ·split at h
  ·injection h with h;subst h;cases h4
  ·cases h
 ·rw[Option.map_eq_some_iff]at h;obtain⟨p,hp,rfl⟩:=h;have:=BO _ _ ax 0 p hp
  simpa using this
structure K6(kM:Bool)(ls:List bV):Prop where
 row:∀x∈ls,x.kind=4->x.x.k<ax.length
 inf:InF ls
 fn:kM=true->(ai ls).fs≠[]
theorem K7(ls:List bV)(x:bV):ai (ls++[x])=bG (ai ls) x:=by unfold ai;rw[cj];rfl
theorem adh(o:OL)(x:bV)(h:o.fs≠[]\/x.kind=2):(bG o x).fs≠[]:=by
 rcases h with h|h
 ·have:=BN o x;intro e;rw[e]at this;have h0:o.fs.length=0:=Nat.le_zero.1 this;exact h (List.length_eq_zero_iff.1 h0)
 ·rw[bG,iN9 (by omega),iP9 h];simp
theorem K6.app{kM:Bool}{ls:List bV}{x:bV}(h:K6 kM ls)(hx:x.kind=4->x.x.k<ax.length)(hn:¬((kM||x.kind==2)=false/\(x.kind=3\/x.kind=4))):K6 (kM||x.kind==2) (ls++[x]):=by
 refine⟨λy hy h4=>?_,λk hk Ux=>?_,λhf=>?_⟩
 ·rcases List.mem_append.1 hy with h1|h1
  ·exact h.row y h1 h4
  ·have:y=x:=by simpa using h1
   subst this;exact hx h4
 ·rcases Nat.lt_or_ge k ls.length with e|e
  ·rw[List.getElem_append_left e]at Ux;rw[List.take_append_of_le_length (by omega)];exact h.inf k e Ux
  ·have hk':k=ls.length:=by simp at hk;omega
   subst hk';have ex:(ls++[x])[ls.length]'hk=x:=by simp
   rw[ex]at Ux;rw[List.take_left']
   ·apply h.fn;cases kM with
    |true=>rfl
    |false =>exfalso;refine hn ⟨?_,Ux⟩;simp;omega
   ·rfl
 ·rw[K7];refine adh _ _ ?_;cases kM with
  |true=>exact .inl (h.fn rfl)
  |false=>exact .inr (by simpa using hf)
theorem K8:∀(ts:List tLB) (kM:Bool) (n:Nat) (acc ls:List bV),ahL ts kM n acc=.inl ls->K6 kM acc->∃f,K6 f ls
 |[],kM,n,acc,ls,h,hk=>by rw[ahL]at h;injection h with h;subst h;exact⟨kM,hk⟩
 |t::ts,kM,n,acc,ls,h,hk=>by
  rw[ahL]at h;cases hl:bY t with
  |none=>rw[hl]at h;cases h
  |some x =>
   rw[hl]at h;simp only at h;split at h
   ·cases h
   ·rename_i hn
    exact K8 ts _ _ _ ls h (hk.app (Wl hl) hn)
theorem BP:∀(ts:List tLB) (kM:Bool) (n:Nat) (acc ls:List bV),ahL ts kM n acc=.inl ls->ls.length=acc.length+ts.length
 |[],kM,n,acc,ls,h=>by rw[ahL]at h;injection h with h;subst h;simp
 |t::ts,kM,n,acc,ls,h=>by
  rw[ahL]at h;cases hl:bY t with
  |none=>rw[hl]at h;cases h
  |some x =>
   rw[hl]at h;simp only at h;split at h
   ·cases h
   ·have:=BP ts _ _ _ ls h;simp at this ⊢;omega
theorem GK{l:tLB}{ls:List bV}(h:ahL (ahK l) false 0 []=.inl ls):InF ls/\(∀x∈ls,x.kind=4->x.x.k<ax.length)/\ls.length<=l.length+1:=by obtain⟨f,hf⟩:=K8 _ _ _ _ _ h ⟨λx hx=>(by cases hx),λk hk=>absurd hk (Nat.not_lt_zero _),λe=>by cases e⟩;refine⟨hf.inf,hf.row,?_⟩;have h1:=BP _ _ _ _ _ h;have h2:=GA l;simp at h1;omega
theorem ym(n:aA)(w:tW)(hn:0<=(n.aO 9223372036854775808).getD 0/\(n.aO 9223372036854775808).getD 0<256):Calls prog 118 #[n.dP] w λe w'=>e=.returned (.int .u8 ((n.aO 9223372036854775808).getD 0))/\aa af w w':=by have HS:ae (∀w,Calls prog 215 #[n.dP,.int .i64 64] w λe w'=>e=.returned (.tuple #[.int .i64 ((n.aO 9223372036854775808).getD 0),.bool (n.aO 9223372036854775808).isSome])/\aa af w w'):=nN n;generalize(n.aO 9223372036854775808).isSome=sm at *;generalize(n.aO 9223372036854775808).getD 0=sg at *;unfold aA.dP at *;generalize decide (18446744073709551616<=n.v)=ng at *;generalize((n.v%18446744073709551616:Nat):Int)=nv at *;generalize n.minus=nm at *;obtain⟨h0,h1⟩:=hn;have HM:ae (aa af w (w.alloc (.cells #[.bool nm,.int .u64 nv,.bool ng] 112))):=(aa.refl _ _).alloc _;go_enter func118,ntmps118;go_wp2_with fail;refine(HS.o _).mono ?_;rintro e w2 ⟨rfl,m2⟩;have ep:=ak (HM.o.trans m2);clear m2 HM;go_wp2_with fail;go_ret;exact⟨rfl,ep.o⟩
