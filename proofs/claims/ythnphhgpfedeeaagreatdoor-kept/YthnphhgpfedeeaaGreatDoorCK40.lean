import Derived.Test.YthnphhgpfedeeaaGreatDoorCK37
namespace Go.Proofs.YthnphhgpfedeeaaGreatDoor
open Go.RowKit Go.Sort Tryz
open Go.RowKit
open Int renaming toNat_of_nonneg->cq
open Lib renaming compareBytes->ab
open List renaming getElem_mem->al,mem_or_eq_of_mem_set->ao,getElem_append_left->ar,zipWith->ba,getElem_set->bh,take_zero->bt,zipWith_cons_cons->b5,take_of_length_le->b9,length_zipWith->cj,take_succ_cons->cw,drop_succ_cons->cx,length_set->cD,cons_lt_cons_iff->cG,drop_zero->cH,map_cons->cI,getElem_of_mem->cJ,flatMap_append->cN,ext_getElem->cY,length->eJ
open Nat renaming le_refl->bj,zero_le->cy,le_trans->cP,lt_of_lt_of_le->cW
open Option renaming map_some->de,some->eK,none->eL
open Bool renaming false->fj
open Ending renaming returned->fW
open Obj renaming cells->fL
open Value renaming string->eR,agg->fY,slice->eS,func->fN,tuple->jl,map->kq
open _root_.Go renaming Calls->fS,Value->fa,bodyPost_ret->kx,results_none->xF,TypeId->ju,info_parts->oY,wp_load_row->Ek,maxLen->jz
set_option linter.all false
set_option maxRecDepth 100000
set_option maxHeartbeats 4000000
theorem Og:∀a b:tLB,decide (ab a b<0)=decide (a<b)
 |[],[]=>by simp[ab,List.lt_irrefl]
 |[],b::bs=>by simp[ab]
 |a::as',[]=>by simp[ab]
 |a::as',b::bs=>by
  unfold ab;by_cases h:a<b
  ·rw[iP9 h];simp[cG,h]
  ·rw[iN9 h];by_cases h2:b<a
   ·rw[iP9 h2];have h3:¬a=b:=λe=>by subst e;exact h h2
    simp[cG,h,h3]
   ·rw[iN9 h2];have h3:a=b:=by apply UInt8.toNat_inj.1;have h4:¬a.toNat<b.toNat:=λe=>h (UInt8.lt_iff_toNat_lt.2 e);have h5:¬b.toNat<a.toNat:=λe=>h2 (UInt8.lt_iff_toNat_lt.2 e);omega
    subst h3;rw[Og as' bs];simp
section
variable {α : Type} (nm : α -> List UInt8)
def cfN(x y:α):Int:=ab (nm x) (nm y)
theorem ltN(x y:α):ltOf (cfN nm) x y=jA (T (nm x)) (T (nm y)):=by
 unfold ltOf cfN;rw[Og,Hg];have e:∀l:tLB,(T l).toList=l:=λl=>by rw[ByteArray.toList_eq];simp[T]
 rw[e,e]
theorem adW:SWO (ltOf (cfN nm)) where
 irrefl x:=by rw[ltN];exact DI _
 trans x y z h1 h2:=by rw[ltN]at *;exact AL h1 h2
 ntrans x y z h1 h2:=by rw[ltN]at *;exact Rz h2 h1
end
theorem Hl(w:tW)(a b:tLB):fS prog 153 #[eR (T a),eR (T b)] w λe w'=>e=fW (vI (ab a b))/\w'=w:=by
 have h:=Any.strings_Compare lc (T a) (T b) w;have e:∀l:tLB,(T l).data.toList=l:=λl=>by simp[T]
 rw[e,e]at h;exact h
theorem J7(w:tW):fS prog 261 #[vU 0] w λe w'=>e=fW (vI 0)/\w'=w:=by have h:=Any.bits_Len Tryz.lb 0 w (by omega) (by omega);refine h.mono ?_;rintro e w' ⟨rfl,rfl⟩;exact⟨rfl,rfl⟩
theorem RA(w:tW)(a b:tLB)(x1 x2 x3 y1 y2 y3:Int):fS prog 152 #[fY #[eR (T a),vB x1,vB x2,vB x3],fY #[eR (T b),vB y1,vB y2,vB y3]] w λe w'=>e=fW (vI (ab a b))/\∃q os',w'=grow (w.drewN q) os':=by have hcon:=λW=>Hl W a b;generalize ab a b=r at *;generalize T a=ta at *;generalize T b=tb at *;go_in;go_wp2_with fail;refine(hcon _).mono ?_;rintro e w' ⟨rfl,rfl⟩;go_wp2_with fail;go_ret;exact⟨rfl,0,_,by rw[alloc_eq_grow,alloc_eq_grow,grow_grow];rfl⟩
theorem RB(w:tW)(a b:tLB)(o1 o2:Option Addr)(n1 c1 n2 c2:Nat):fS prog 155 #[fY #[eR (T a),eS o1 n1 c1],fY #[eR (T b),eS o2 n2 c2]] w λe w'=>e=fW (vI (ab a b))/\∃q os',w'=grow (w.drewN q) os':=by have hcon:=λW=>Hl W a b;generalize ab a b=r at *;generalize T a=ta at *;generalize T b=tb at *;go_in;go_wp2_with fail;refine(hcon _).mono ?_;rintro e w' ⟨rfl,rfl⟩;go_wp2_with fail;go_ret;exact⟨rfl,0,_,by rw[alloc_eq_grow,alloc_eq_grow,grow_grow];rfl⟩
structure dN where
 f:bz
 o:Option Addr
 n:Nat
 c:Nat
def dN.v(x:dN):fa:=eS x.o x.n x.c
def dN.cells(x:dN):tLV:=[eR (T x.f.name),eS x.o x.n x.c]
theorem MF(w:tW)(v:fa)(l:List aB)(g cap:Nat)(hv:v=eS (eK ⟨g,0,eL⟩) (eJ l) cap)(hl:eJ l<=1000000)(hs:Sl w 100 4 v (eJ l) (l.flatMap aB.cells)):fS prog 151 #[v,fN (.func 152) #[] #[]] w λr w'=>r=fW (jl #[])/\∃l':List aB,l'.Perm l/\l'.Pairwise (λx y=>jA (T y.name) (T x.name)=fj)/\Sl w' 100 4 v (eJ l') (l'.flatMap aB.cells)/\aa (λb=>v.ownBlock=eK b) w w':=by
 have eg:∀args w,(callFunc 152 args).run prog w=.ok (.enter 152 args) w:=enters_of func152 (by kernel_rfl) rfl;have inh:Inhabited aB:=⟨⟨[],0,0,0⟩⟩
 have h:=Oe soM 4 isAgg100 sizeOf100 aB.cells (λ_=>rfl) (λx v hv=>by simp[aB.cells]at hv;rcases hv with rfl|rfl|rfl|rfl<;>rfl) (cfN aB.name) (adW _) 152 eg (λw x y=>RA w x.name y.name _ _ _ _ _ _) w 100 v l g cap hv hl hs;refine h.mono ?_;rintro r w' ⟨rfl,l',hp,hq,hs',hm⟩;exact⟨rfl,l',hp,hq.imp (fun{x y} e=>by rw[<-ltN aB.name];exact e),hs',hm⟩
theorem MG(w:tW)(v:fa)(l:List dN)(g cap:Nat)(hv:v=eS (eK ⟨g,0,eL⟩) (eJ l) cap)(hl:eJ l<=1000000)(hs:Sl w 96 2 v (eJ l) (l.flatMap dN.cells)):fS prog 154 #[v,fN (.func 155) #[] #[]] w λr w'=>r=fW (jl #[])/\∃l':List dN,l'.Perm l/\l'.Pairwise (λx y=>jA (T y.f.name) (T x.f.name)=fj)/\Sl w' 96 2 v (eJ l') (l'.flatMap dN.cells)/\aa (λb=>v.ownBlock=eK b) w w':=by
 have eg:∀args w,(callFunc 155 args).run prog w=.ok (.enter 155 args) w:=enters_of func155 (by kernel_rfl) rfl;have inh:Inhabited dN:=⟨⟨⟨[],[]⟩,eL,0,0⟩⟩
 have h:=Oe soF 2 isAgg96 sizeOf96 dN.cells (λ_=>rfl) (λx v hv=>by simp[dN.cells]at hv;rcases hv with rfl|rfl<;>rfl) (cfN (λx:dN=>x.f.name)) (adW _) 155 eg (λw x y=>RB w x.f.name y.f.name _ _ _ _ _ _) w 96 v l g cap hv hl hs;refine h.mono ?_;rintro r w' ⟨rfl,l',hp,hq,hs',hm⟩;exact⟨rfl,l',hp,hq.imp (fun{x y} e=>by rw[<-ltN (λx:dN=>x.f.name)];exact e),hs',hm⟩
theorem V6(w:tW)(f:fa)(hf:f=fN (.func 152) #[] #[]):fS prog 303 #[vN,vI 0,vI 0,f] w λe w'=>e=fW (jl #[])/\aa af w w':=by
 subst hf;go_in;go_wp2_with fail;go_loopg [8] 1 (λg iv wx=>iv=vI 1/\aa af w wx/\g=1)
 case atStart=>exact⟨rfl,ax,rfl⟩
 case round =>obtain⟨rfl,HM,rfl⟩:=hrel;go_wp2_with fail;go_end0;exact⟨rfl,HM⟩
theorem V7(w:tW)(f:fa)(hf:f=fN (.func 152) #[] #[]):fS prog 260 #[vN,vI 0,vI 0,vI 0,f] w λe w'=>e=fW (jl #[])/\aa af w w':=by
 subst hf;go_in;go_wp2_with fail;go_loopg [1,2,3] 1 (λg a b c wx=>a=vI 0/\b=vI 0/\c=vI 0/\aa af w wx/\g=1)
 case atStart=>exact⟨rfl,rfl,rfl,ax,rfl⟩
 case round =>obtain⟨rfl,rfl,rfl,HM,rfl⟩:=hrel;go_wp2_with fail;refine(V6 _ _ rfl).mono ?_;rintro e w2 ⟨rfl,m2⟩;go_wp2_with fail;refine kx (xF rfl _ _ _) rfl ?_;exact⟨rfl,HM.trans m2⟩
theorem RC(w:tW):fS prog 151 #[vN,fN (.func 152) #[] #[]] w λe w'=>e=fW (jl #[])/\aa af w w':=by go_in;go_wp2_with fail;refine(J7 _).mono ?_;rintro e w1 ⟨rfl,rfl⟩;go_wp2_with fail;refine(V7 _ _ rfl).mono ?_;rintro e w2 ⟨rfl,m2⟩;go_wp2_with fail;go_end0;exact⟨rfl,m2⟩
theorem V8(w:tW)(f:fa)(hf:f=fN (.func 155) #[] #[]):fS prog 314 #[vN,vI 0,vI 0,f] w λe w'=>e=fW (jl #[])/\aa af w w':=by
 subst hf;go_in;go_wp2_with fail;go_loopg [8] 1 (λg iv wx=>iv=vI 1/\aa af w wx/\g=1)
 case atStart=>exact⟨rfl,ax,rfl⟩
 case round =>obtain⟨rfl,HM,rfl⟩:=hrel;go_wp2_with fail;go_end0;exact⟨rfl,HM⟩
theorem V9(w:tW)(f:fa)(hf:f=fN (.func 155) #[] #[]):fS prog 263 #[vN,vI 0,vI 0,vI 0,f] w λe w'=>e=fW (jl #[])/\aa af w w':=by
 subst hf;go_in;go_wp2_with fail;go_loopg [1,2,3] 1 (λg a b c wx=>a=vI 0/\b=vI 0/\c=vI 0/\aa af w wx/\g=1)
 case atStart=>exact⟨rfl,rfl,rfl,ax,rfl⟩
 case round =>obtain⟨rfl,rfl,rfl,HM,rfl⟩:=hrel;go_wp2_with fail;refine(V8 _ _ rfl).mono ?_;rintro e w2 ⟨rfl,m2⟩;go_wp2_with fail;refine kx (xF rfl _ _ _) rfl ?_;exact⟨rfl,HM.trans m2⟩
theorem RD(w:tW):fS prog 154 #[vN,fN (.func 155) #[] #[]] w λe w'=>e=fW (jl #[])/\aa af w w':=by go_in;go_wp2_with fail;refine(J7 _).mono ?_;rintro e w1 ⟨rfl,rfl⟩;go_wp2_with fail;refine(V9 _ _ rfl).mono ?_;rintro e w2 ⟨rfl,m2⟩;go_wp2_with fail;go_end0;exact⟨rfl,m2⟩
theorem RF(w:tW)(v:fa)(l:List aB)(hl:eJ l<=1000000)(hs:Sl w 100 4 v (eJ l) (l.flatMap aB.cells)):fS prog 151 #[v,fN (.func 152) #[] #[]] w λr w'=>r=fW (jl #[])/\∃l':List aB,l'.Perm l/\l'.Pairwise (λx y=>jA (T y.name) (T x.name)=fj)/\Sl w' 100 4 v (eJ l') (l'.flatMap aB.cells)/\aa (λb=>v.ownBlock=eK b) w w':=by
 rcases hs.2 with⟨h',hn⟩ |⟨g,cap,cs,h',_⟩
 case inr=>exact MF w v l g cap h' hl hs
 case inl =>have e:=List.length_eq_zero_iff.1 (by omega);subst e;rw[h'];refine(RC w).mono ?_;rintro r w' ⟨rfl,m⟩;exact⟨rfl,[],List.Perm.refl _,List.Pairwise.nil,Sl.nil _ _ _,m.os,m.tape,m.output,m.size,λb hb _=>m.block b hb id⟩
theorem RG(w:tW)(v:fa)(l:List dN)(hl:eJ l<=1000000)(hs:Sl w 96 2 v (eJ l) (l.flatMap dN.cells)):fS prog 154 #[v,fN (.func 155) #[] #[]] w λr w'=>r=fW (jl #[])/\∃l':List dN,l'.Perm l/\l'.Pairwise (λx y=>jA (T y.f.name) (T x.f.name)=fj)/\Sl w' 96 2 v (eJ l') (l'.flatMap dN.cells)/\aa (λb=>v.ownBlock=eK b) w w':=by
 rcases hs.2 with⟨h',hn⟩ |⟨g,cap,cs,h',_⟩
 case inr=>exact MG w v l g cap h' hl hs
 case inl =>have e:=List.length_eq_zero_iff.1 (by omega);subst e;rw[h'];refine(RD w).mono ?_;rintro r w' ⟨rfl,m⟩;exact⟨rfl,[],List.Perm.refl _,List.Pairwise.nil,Sl.nil _ _ _,m.os,m.tape,m.output,m.size,λb hb _=>m.block b hb id⟩
theorem FQ(w:tW)(vM vF:fa)(ms:List aB)(rs:List dN)(Pk:eJ ms<=1000000)(hrl:eJ rs<=1000000)(hM:Sl w 100 4 vM (eJ ms) (ms.flatMap aB.cells))(hF:Sl w 96 2 vF (eJ rs) (rs.flatMap dN.cells)):fS prog 77 #[fY #[vM,vF]] w λr w'=>r=fW (jl #[])/\∃(ms':List aB) (rs':List dN),ms'.Perm ms/\ms'.Pairwise (λx y=>jA (T y.name) (T x.name)=fj)/\rs'.Perm rs/\rs'.Pairwise (λx y=>jA (T y.f.name) (T x.f.name)=fj) /\ Sl w' 100 4 vM (eJ ms') (ms'.flatMap aB.cells)/\Sl w' 96 2 vF (eJ rs') (rs'.flatMap dN.cells)/\aa (λb=>vM.ownBlock=eK b\/vF.ownBlock=eK b) w w':=by
 obtain⟨oM,cM,wE,_⟩:=hM.view;obtain⟨oF,cF,kC,_⟩:=hF.view;have m0:aa af w (w.alloc (fL #[vM,vF] 90)):=aw;have hb0:=au.new w #[vM,vF] 90;have H1:=aq (RF _ vM ms Pk (hM.ai m0 (λ_ _=>id)));have H2:ah (∀w',aa (λb=>vM.ownBlock=eK b) (w.alloc (fL #[vM,vF] 90)) w'->au w' w.heap.size #[vM,vF] 90/\fS prog 154 #[vF,fN (.func 155) #[] #[]] w' λr w''=>r=fW (jl #[])/\∃l':List dN,l'.Perm rs/\l'.Pairwise (λx y=>jA (T y.f.name) (T x.f.name)=fj)/\Sl w'' 96 2 vF (eJ l') (l'.flatMap dN.cells)/\aa (λb=>vF.ownBlock=eK b) w' w''):=λw' m=>by refine⟨hb0.ai m ((hM.ai m0 (λ_ _=>id)).aA hb0 (by decide)),RG _ vF rs hrl ((hF.ai m0 (λ_ _=>id)).ai m (λk hk e=>?_))⟩;exact hM.apart hF (by decide) e hk
 have H3:=aq (λw' w'' (ms':List aB) (h:Sl w' 100 4 vM (eJ ms') (ms'.flatMap aB.cells)) (m:aa (λb=>vF.ownBlock=some b) w' w'')=>h.ai m (λk hk e=>hM.apart hF (by decide) hk e));have eW:=aq m0;subst wE kC;clear hM hF hb0 m0;go_in;go_wp2_with fail;refine H1.o.mono ?_;rintro e w1 ⟨rfl,ms',p1,q1,s1,m1⟩;have hb1:=(H2.o w1 m1).1.cell 1;have z1:w1.cell? ⟨w.heap.size,1,eL⟩=eK (eS oF (eJ rs) cF):=hb1;have HC:=aq ((H2.o w1 m1).2);have um:ah (ms'.Perm ms/\ms'.Pairwise (λx y=>jA (T y.name) (T x.name)=fj)/\Sl w1 100 4 (eS oM (eJ ms) cM) (eJ ms') (ms'.flatMap aB.cells)/\aa (λb=>(Value.slice oM (eJ ms) cM).ownBlock=eK b) (w.alloc (fL #[eS oM (eJ ms) cM,eS oF (eJ rs) cF] 90)) w1):=⟨p1,q1,s1,m1⟩
 clear hb1 p1 q1 s1 m1 H1 H2;go_wp2_with fail;refine HC.o.mono ?_;rintro e w2 ⟨rfl,rs',p2,q2,s2,m2⟩;have lU:ah (rs'.Perm rs/\rs'.Pairwise (λx y=>jA (T y.f.name) (T x.f.name)=fj)/\Sl w2 96 2 (eS oF (eJ rs) cF) (eJ rs') (rs'.flatMap dN.cells)/\aa (λb=>(Value.slice oF (eJ rs) cF).ownBlock=eK b) w1 w2):=⟨p2,q2,s2,m2⟩
 clear p2 q2 s2 m2 HC z1;go_wp2_with fail;go_end0;obtain⟨p1,q1,s1,m1⟩:=um.o;obtain⟨p2,q2,s2,m2⟩:=lU.o;refine⟨rfl,ms',rs',p1,q1,p2,q2,H3.o _ _ _ s1 m2,s2,?_⟩;have hm:=eW.o;exact⟨m2.os.trans (m1.os.trans hm.os),m2.tape.trans (m1.tape.trans hm.tape),m2.output.trans (m1.output.trans hm.output),cP hm.size (cP m1.size m2.size),λk hk hn=>by rw[m2.block k (cW hk (cP hm.size m1.size)) (λe=>hn (.inr e)),m1.block k (cW hk hm.size) (λe=>hn (.inl e)),hm.block k hk id]⟩
structure BS where
 ms:List aB:=[]
 fs:List bz:=[]
 slot:Nat:=0
def yt(x:fE):aB:=⟨x.name,(tL (x.ns.getD 0 aF)).toNat,(tL (x.ns.getD 1 aF)).toNat,(tL (x.ns.getD 2 aF)).toNat⟩
def fD.pi(x:fD)(j:Int):PI:=⟨x.k,x.r.d,x.r.s,j,x.r.num,x.r.high,x.r.name⟩
def Oh(o:OL)(last slot:Nat)(x:fD):Int:=if x.o.jumps then(((gK (o.fs.getD last {}).bX x.r.label).getD 0:Nat):Int)-slot-x.o.slots else x.r.jump
def abY(o:OL)(last slot:Nat)(x:fD):PI:=x.pi (Oh o last slot x)
def BS.last(b:BS):bz:=b.fs.getD (eJ b.fs-1) ⟨[],[]⟩
def fP(o:OL)(b:BS)(x:fE):BS :=
 if x.kind=1 then{b with ms:=b.ms++[yt x]}
 else if x.kind=2 then{b with fs:=b.fs++[⟨x.name,[]⟩],slot:=0}
 else if x.kind=4 then{b with fs:=b.fs.set (eJ b.fs-1) ⟨b.last.name,b.last.code++[abY o (eJ b.fs-1) b.slot x.x]⟩,slot:=b.slot+x.x.o.slots}
 else b
def aR(o:OL)(ls:List fE):BS:=ls.foldl (fP o) {}
theorem DL(o:OL)(ls:List fE)(k:Nat)(h:k<eJ ls):aR o (ls.take (k+1))=fP o (aR o (ls.take k)) ls[k]:=by unfold aR;rw[List.take_succ_eq_append_getElem h,List.foldl_append];rfl
theorem AO(o:OL)(ls:List fE):∀k,k<=eJ ls->eJ (aR o (ls.take k)).fs=eJ (aj (ls.take k)).fs/\(aR o (ls.take k)).slot<=2*k/\(aR o (ls.take k)).ms.length<=k/\(aR o (ls.take k)).fs.length<=k/\(∀f∈(aR o (ls.take k)).fs,eJ f.code<=k)
 |0,_=>by rw[bt];exact⟨rfl,bj _,bj _,bj _,λf hf=>(by cases hf)⟩
 |k+1,h=>by
  obtain⟨h1,h2,h3,h4,h5⟩:=AO o ls k (by omega);rw[gW ls k (by omega),DL o ls k (by omega)];generalize aj (ls.take k)=ol at *;generalize aR o (ls.take k)=b at *;generalize ls[k]=x;have h6:∀f∈b.fs,eJ f.code<=k+1:=λf hf=>by have:=h5 f hf;omega
  unfold cu fP;by_cases k1:x.kind=1
  ·rw[iP9 k1,iP9 k1];exact⟨h1,by simp only;omega,by simp;omega,by simp only;omega,h6⟩
  rw[iN9 k1,iN9 k1];by_cases k2:x.kind=2
  ·rw[iP9 k2,iP9 k2];refine⟨by simp[h1],cy _,by simp only;omega,by simp;omega,λf hf=>?_⟩;rcases List.mem_append.1 hf with hf|hf
   ·exact h6 f hf
   ·rw[List.mem_singleton.1 hf];exact cy _
  rw[iN9 k2,iN9 k2];by_cases k3:x.kind=3
  ·rw[iP9 k3,iN9 (by omega)];exact⟨by rw[kH];exact h1,by omega,by omega,by omega,h6⟩
  rw[iN9 k3];by_cases k4:x.kind=4
  ·rw[iP9 k4,iP9 k4];have:=x.x.Aj;refine⟨by rw[kH];simpa using h1,by simp only;omega,by simp only;omega,by simp;omega,λf hf=>?_⟩;rcases ao hf with hf|rfl
   ·exact h6 f hf
   ·simp only[List.length_append,List.length_singleton]
    have:eJ b.last.code<=k:=by
     unfold BS.last;cases hq:b.fs[eJ b.fs-1]? with
     |none =>rw[List.getD_eq_getElem?_getD,hq];exact cy _
     |some f =>rw[List.getD_eq_getElem?_getD,hq];exact h5 f (List.mem_of_getElem? hq)
    omega
  ·rw[iN9 k4,iN9 k4];exact⟨h1,by omega,by omega,by omega,h6⟩
structure nX(w0:tW)(P:Nat)(bs:tLN)(vM vF:fa)(ms:List aB)(fs:List bz)(vs:tLV)(w:tW):Prop where
 blk:au w P #[vM,vF] 90
 maps:Sl w 100 4 vM (eJ ms) (ms.flatMap aB.cells)
 len:eJ vs=eJ fs
 rows:Sl w 96 2 vF (eJ fs) (((fs.map (·.name)).zip vs).flatMap nW)
 code:∀i (_:i<eJ fs) (_:i<eJ vs),iD w vs[i] bs fs[i].code
 lo:w0.heap.size<=P
 pF:∀k,vM.ownBlock=eK k->w0.heap.size<=k
 pG:∀k,vF.ownBlock=eK k->w0.heap.size<=k
 ma:∀u∈vs,∀k,u.ownBlock=eK k->w0.heap.size<=k
 ne:∀i j (_:i<eJ vs) (_:j<eJ vs),i≠j->∀k,vs[i].ownBlock=eK k->vs[j].ownBlock≠eK k
 md:aa af w0 w
section
variable {w0 w w' : World} {P : Nat} {bs : List Nat} {vM vF v' : fa} {ms : List aB} {fs : List bz} {vs : List fa}
theorem iD.aA{v:fa}{code:List PI}{k:Nat}{cs:tAV}{e':ju}(h:iD w v bs code)(hb:au w k cs e')(he:138≠e'):v.ownBlock≠eK k:=by obtain⟨_,_,h2⟩:=h;exact h2.aA hb he
theorem iD.apart{v:fa}{code:List PI}{k n' size':Nat}{e':ju}{xs':tLV}(h:iD w v bs code)(h':Sl w e' size' v' n' xs')(he:138≠e')(hk:v.ownBlock=eK k):v'.ownBlock≠eK k:=by obtain⟨_,_,h2⟩:=h;exact h2.apart h' he hk
theorem iD.lt{v:fa}{code:List PI}(h:iD w v bs code)(k:Nat)(hk:v.ownBlock=eK k):k<w.heap.size:=by obtain⟨_,_,h2⟩:=h;exact h2.lt k hk
theorem nX.quiet(h:nX w0 P bs vM vF ms fs vs w)(m:aa af w w'):nX w0 P bs vM vF ms fs vs w' :=
 ⟨h.blk.ai m id,h.maps.ai m (λ_ _=>id),h.len,h.rows.ai m (λ_ _=>id),λi a b=>(h.code i a b).ai m (λ_ _=>id),h.lo,h.pF,h.pG,h.ma,h.ne,h.md.trans m⟩
theorem nX.abk{u:fa}(h:nX w0 P bs vM vF ms fs vs w)(hu:u∈vs):∃code,iD w u bs code:=by obtain⟨i,hi,rfl⟩:=cJ hu;exact⟨_,h.code i (by rw[<-h.len];exact hi) hi⟩
theorem nX.aai(h:nX w0 P bs vM vF ms fs vs w)(m:aa (λk=>vM.ownBlock=eK k) w w'):au w' P #[vM,vF] 90 :=
 h.blk.ai m (λe=>h.maps.aA h.blk (by decide) e)
theorem nX.map(h:nX w0 P bs vM vF ms fs vs w)(x:aB)(s:Sl w' 100 4 v' (eJ ms+1) (ms.flatMap aB.cells++aB.cells x))(m:aa (λk=>vM.ownBlock=eK k) w w')(l:∀k,v'.ownBlock=eK k->vM.ownBlock=eK k\/w.heap.size<=k):nX w0 P bs v' vF (ms++[x]) fs vs (w'.setCell ⟨P,0,eL⟩ v'):=by
 have hB:=h.aai m;have mP:aa (Only P) w' (w'.setCell ⟨P,0,eL⟩ v'):=ax.bA _ _;have hP:∀{e:ju} {size n:Nat} {v:fa} {xs:tLV},Sl w' e size v n xs->e≠90->∀k,v.ownBlock=eK k->¬Only P k:=λs he k hk e=>s.aA hB he (hk.trans (congrArg eK e));have hrow:=h.rows.ai m (λk hk e=>h.rows.apart h.maps (by decide) hk e);have hcode:=λi a b=>(h.code i a b).ai m (λk hk e=>(h.code i a b).apart h.maps (by decide) hk e);refine⟨hB.set 0 v',?_,h.len,hrow.ai mP (hP hrow (by decide)),λi a b=>(hcode i a b).ai mP (λk hk e=>(hcode i a b).aA hB (by decide) (hk.trans (congrArg eK e))),h.lo,λk hk=>?_,h.pG,h.ma,h.ne,?_⟩
 ·have:=s.ai mP (hP s (by decide))
  simpa using this
 ·rcases l k hk with e|e
  ·exact h.pF k e
  ·have:=h.md.size;omega
 ·refine(h.md.step m (λi hi e=>by have:=h.pF i e;omega)).step mP (λi hi e=>?_);have e':i=P:=e;have:=h.lo;omega
theorem nX.func(h:nX w0 P bs vM vF ms fs vs w)(nm:tLB)(s:Sl w' 96 2 v' (eJ fs+1) (((fs.map (·.name)).zip vs).flatMap nW++nW (nm,vN)))(m:aa (λk=>vF.ownBlock=eK k) w w')(l:∀k,v'.ownBlock=eK k->vF.ownBlock=eK k\/w.heap.size<=k):nX w0 P bs vM v' ms (fs++[⟨nm,[]⟩]) (vs++[vN]) (w'.setCell ⟨P,1,eL⟩ v'):=by
 have hB:=h.blk.ai m (λe=>h.rows.aA h.blk (by decide) e);have mP:aa (Only P) w' (w'.setCell ⟨P,1,eL⟩ v'):=ax.bA _ _;have hP:∀{e:ju} {size n:Nat} {v:fa} {xs:tLV},Sl w' e size v n xs->e≠90->∀k,v.ownBlock=eK k->¬Only P k:=λs he k hk e=>s.aA hB he (hk.trans (congrArg eK e));have hmap:=h.maps.ai m (λk hk e=>h.maps.apart h.rows (by decide) hk e);have hcode:=λi a b=>(h.code i a b).ai m (λk hk e=>(h.code i a b).apart h.rows (by decide) hk e);refine⟨hB.set 1 v',hmap.ai mP (hP hmap (by decide)),by simp[h.len],?_,λi a b=>?_,h.lo,h.pF,λk hk=>?_,λu hu k hk=>?_,λi j hi hj hij k hk=>?_,?_⟩
 ·have:=s.ai mP (hP s (by decide));have e:((fs++[(⟨nm,[]⟩:bz)]).map (·.name)).zip (vs++[Value.slice eL 0 0])=((fs.map (·.name)).zip vs)++[(nm,Value.slice eL 0 0)]:=by rw[List.map_append,List.zip_append (by simp[h.len])];rfl
  rw[e,cN]
  simpa using this
 ·by_cases hi:i<eJ fs
  ·have hi':i<eJ vs:=by rw[h.len];exact hi
   simp only[ar hi,ar hi'];exact(hcode i hi hi').ai mP (λk hk e=>(hcode i hi hi').aA hB (by decide) (hk.trans (congrArg eK e)))
  ·have e1:i=eJ fs:=by simp at a;omega
   have e2:i=eJ vs:=by rw[h.len];exact e1
   have e3:(fs++[(⟨nm,[]⟩:bz)])[i]=⟨nm,[]⟩:=by subst e1;simp
   have e4:(vs++[Value.slice eL 0 0])[i]=vN:=by subst e2;simp
   rw[e3,e4];exact⟨[],rfl,Sl.nil _ _ _⟩
 ·rcases l k hk with e|e
  ·exact h.pG k e
  ·have:=h.md.size;omega
 ·rcases List.mem_append.1 hu with hu|hu
  ·exact h.ma u hu k hk
  ·rw[List.mem_singleton.1 hu]at hk;cases hk
 ·by_cases hi':i<eJ vs
  ·rw[ar hi']at hk;by_cases hj':j<eJ vs
   ·rw[ar hj'];exact h.ne i j hi' hj' hij k hk
   ·have e2:j=eJ vs:=by simp at hj;omega
    have e4:(vs++[Value.slice eL 0 0])[j]=vN:=by subst e2;simp
    rw[e4];intro e;cases e
  ·have e2:i=eJ vs:=by simp at hi;omega
   have e4:(vs++[Value.slice eL 0 0])[i]=vN:=by subst e2;simp
   rw[e4]at hk;cases hk
 ·refine(h.md.step m (λi hi e=>by have:=h.pG i e;omega)).step mP (λi hi e=>?_);have e':i=P:=e;have:=h.lo;omega
theorem nX.instr{g c k:Nat}{u:fa}{x:PI}{lab:tBA}(hk:k<eJ fs)(Bu:k<eJ vs){nf:Nat}(hnf:nf=eJ fs)(h:nX w0 P bs vM (eS (eK ⟨g,0,eL⟩) nf c) ms fs vs w)(hu:vs[k]=u){bX:List tBA} (hl1:eJ bX=eJ fs[k].code) (s:Sl w' 138 8 v' (eJ fs[k].code+1) (py bs (fs[k].code.zip bX)++(x.VD bs lab).eQ)) (m:aa (λk=>u.ownBlock=eK k) w w') (l:∀k,v'.ownBlock=eK k->u.ownBlock=eK k\/w.heap.size<=k):nX w0 P bs vM (eS (eK ⟨g,0,eL⟩) nf c) ms (fs.set k ⟨fs[k].name,fs[k].code++[x]⟩) (vs.set k v') (w'.setCell ⟨g,k*2+1,eL⟩ v'):=by
 subst hnf hu;have hown:(Value.slice (eK ⟨g,0,eL⟩) (eJ fs) c).ownBlock=eK g:=rfl;have hck:=h.code k hk Bu;have hB:=h.blk.ai m (λe=>hck.aA h.blk (by decide) e);have hmap:=h.maps.ai m (λk' hk' e=>hck.apart h.maps (by decide) e hk');have hrow:=h.rows.ai m (λk' hk' e=>hck.apart h.rows (by decide) e hk');have hcode:=λi a b hik=>(h.code i a b).ai m (λk' hk' e=>h.ne i k b Bu hik k' hk' e)
 have hnew:iD w' v' bs (fs[k].code++[x]):=by
  refine⟨bX++[lab],by simp[hl1],?_⟩;have e:(fs[k].code++[x]).zip (bX++[lab])=fs[k].code.zip bX++[(x,lab)]:=by rw[List.zip_append hl1.symm];rfl
  rw[e];have:=s;unfold py at *;rw[cN]
  simpa using this
 have mg:aa (Only g) w' (w'.setCell ⟨g,k*2+1,eL⟩ v'):=ax.bA _ _;have hgI:∀{v:fa} {code:List PI},iD w' v bs code->∀k',v.ownBlock=eK k'->¬Only g k':=λhc k' hk' e=>hc.apart hrow (by decide) hk' (by rw[hown];exact congrArg eK (show g=k' from e.symm));have hkz:k<eJ ((fs.map (·.name)).zip vs):=by simp;omega
 have hnm:(fs.set k ⟨fs[k].name,fs[k].code++[x]⟩).map (·.name)=fs.map (·.name):=by
  rw[List.map_set]
  exact cY (by simp) (λi h1 h2=>by
   rw[bh];split
   ·rename_i e;subst e;simp
   ·rfl)
 refine⟨hB.ai mg (λe=>hrow.aA hB (by decide) (by rw[hown];exact congrArg eK (show g=P from e.symm))),hmap.ai mg (λk' hk' e=>hmap.apart hrow (by decide) hk' (by rw[hown];exact congrArg eK (show g=k' from e.symm))),by simp[h.len],?_,λi a b=>?_,h.lo,h.pF,h.pG,λu hu k' hk'=>?_,λi j hi hj hij k' hk'=>?_,?_⟩
 ·have:=hrow.setAt (k*2+1) v' (by omega);rw[iO nW 2 (λ_=>rfl) _ k 1 hkz (by omega) v' (fs[k].name,v') (by rw[GU _ _ k (by simpa using hk) Bu];simp[nW])]at this;rw[hnm,cD]
  have e:((fs.map (·.name)).zip vs).set k (fs[k].name,v')=(fs.map (·.name)).zip (vs.set k v'):=by
   refine cY (by simp) (λi h1 h2=>?_);rw[bh];split
   ·rename_i e;subst e;simp
   ·rename_i e
    simp[e]
  rw[e]at this;exact this
 ·rw[cD]at a b;by_cases e:k=i
  ·subst e;simp only[bh,if_true];exact hnew.ai mg (hgI hnew)
  ·simp only[e,if_false,bh];exact(hcode i a b (Ne.symm e)).ai mg (hgI (hcode i a b (Ne.symm e)))
 ·rcases ao hu with h'|h'
  ·exact h.ma u h' k' hk'
  ·subst h';rcases l k' hk' with e|e
   ·exact h.ma _ (al Bu) k' e
   ·have:=h.md.size;omega
 ·rw[cD]at hi hj;rw[bh]at hk' ⊢
  have hnn:∀i' (_:i'<eJ vs),k≠i'->∀k',vs[i'].ownBlock=eK k'->v'.ownBlock≠eK k':=λi' hi' hik k' hk' e=>by
   rcases l k' e with e2|e2
   ·exact h.ne i' k hi' Bu (Ne.symm hik) k' hk' e2
   ·have:=(h.code i' (by rw[<-h.len];exact hi') hi').lt k' hk';omega
  by_cases e:k=i
  ·subst e;rw[iP9 rfl]at hk';rw[iN9 hij];intro e2;exact hnn j hj hij k' e2 hk'
  ·rw[iN9 e]at hk';by_cases e2:k=j
   ·subst e2;rw[iP9 rfl];exact hnn i hi e k' hk'
   ·rw[iN9 e2];exact h.ne i j hi hj hij k' hk'
 ·refine(h.md.step m (λi hi e=>by have:=h.ma _ (al Bu) i e;omega)).step mg (λi hi e=>?_);have e':i=g:=e;have:=h.pG g hown;omega
theorem nX.new(w0:tW)(bs:tLN)(w:tW)(m:aa af w0 w):nX w0 w.heap.size bs (vN) (vN) [] [] [] (w.alloc (fL #[vN,vN] 90)) :=
 ⟨au.new w _ _,Sl.nil _ _ _,rfl,Sl.nil _ _ _,λi h=>absurd h (Nat.not_lt_zero _),m.size,λk h=>(by cases h),λk h=>(by cases h),λu h=>(by cases h),λi j h=>absurd h (Nat.not_lt_zero _),m.alloc _⟩
end
theorem rW{P:Program}{o:Oper}{a:Act}{w:tW}{K:Act->tW->Prop}{Q:Exit->Act->tW->Prop}(t e:ju)(n:Nat)(x:Operand)(ho:o.op=.buildSlice t 1 #[(0,x)])(cs:tAV)(hx:a.eval x=fY cs)(hn:cs.size=n)(i:TypeInfo)(z:fa)(hu:P.underlying t=eK (.slice e)) (hi:P.info? e=eK i) (hz:i.zero=eK z) (hs:i.size=n) (h0:0<n) (h1:n<=1000)(h:K (a.put o.dst (eS (eK ⟨w.heap.size,0,eL⟩) 1 1)) (w.alloc (fL cs e))):o.wp P a w K Q:=by refine wp_buildSlice t e 1 _ ho cs i z hu hi hz (by rw[hs];omega) (by rw[hs];omega) ?_ h;rw[hs];simp only[List.map_toArray,cI,List.map_nil,hx];exact Fy n _ _ hn (by simp)
structure FR(w0:tW)(R A P bm:Nat)(vO:fa)(bs:tLN)(vM vF:fa)(b:BS)(vs:tLV)(w:tW):Prop where
 bd:nX w0 P bs vM vF b.ms b.fs vs w
 res:au w R #[vN,vN] 90
 all:au w A #[kq (eK bm),vO] 108
 ne:R≠P
section
variable {w0 w w' : World} {R A P bm : Nat} {vO vM vF v' : fa} {bs : List Nat} {b : BS} {vs : List fa}
theorem FR.quiet(h:FR w0 R A P bm vO bs vM vF b vs w)(m:aa af w w'):FR w0 R A P bm vO bs vM vF b vs w':=⟨h.bd.quiet m,h.res.ai m id,h.all.ai m id,h.ne⟩
theorem FR.map{x:fE}(o:OL)(hx:x.kind=1)(h:FR w0 R A P bm vO bs vM vF b vs w)(s:Sl w' 100 4 v' (eJ b.ms+1) (b.ms.flatMap aB.cells++aB.cells (yt x)))(m:aa (λk=>vM.ownBlock=eK k) w w')(l:∀k,v'.ownBlock=eK k->vM.ownBlock=eK k\/w.heap.size<=k):FR w0 R A P bm vO bs v' vF (fP o b x) vs (w'.setCell ⟨P,0,eL⟩ v'):=by
 have mP:aa (Only P) w' (w'.setCell ⟨P,0,eL⟩ v'):=ax.bA _ _;have hB:=h.bd.aai m;have hr:=h.res.ai m (λe=>h.bd.maps.aA h.res (by decide) e);have ha:=h.all.ai m (λe=>h.bd.maps.aA h.all (by decide) e);have e:fP o b x={b with ms:=b.ms++[yt x]}:=by unfold fP;rw[iP9 hx]
 rw[e];exact⟨h.bd.map (yt x) s m l,hr.ai mP (λe=>h.ne e),ha.ai mP (λe=>ha.apart hB (by decide) e),h.ne⟩
theorem FR.func{x:fE}(o:OL)(hx:x.kind=2)(h:FR w0 R A P bm vO bs vM vF b vs w)(s:Sl w' 96 2 v' (eJ b.fs+1) (((b.fs.map (·.name)).zip vs).flatMap nW++nW (x.name,vN)))(m:aa (λk=>vF.ownBlock=eK k) w w')(l:∀k,v'.ownBlock=eK k->vF.ownBlock=eK k\/w.heap.size<=k):FR w0 R A P bm vO bs vM v' (fP o b x) (vs++[vN]) (w'.setCell ⟨P,1,eL⟩ v'):=by
 have mP:aa (Only P) w' (w'.setCell ⟨P,1,eL⟩ v'):=ax.bA _ _;have hB:=h.bd.blk.ai m (λe=>h.bd.rows.aA h.bd.blk (by decide) e);have hr:=h.res.ai m (λe=>h.bd.rows.aA h.res (by decide) e);have ha:=h.all.ai m (λe=>h.bd.rows.aA h.all (by decide) e);have e:fP o b x={b with fs:=b.fs++[⟨x.name,[]⟩],slot:=0}:=by unfold fP;rw[iN9 (by omega),iP9 hx]
 rw[e];exact⟨h.bd.func x.name s m l,hr.ai mP (λe=>h.ne e),ha.ai mP (λe=>ha.apart hB (by decide) e),h.ne⟩
theorem FR.instr{x:fE}(o:OL)(hx:x.kind=4){g c n:Nat}{u:fa}{lab:tBA}(hn:n=eJ b.fs-1)(hk:n<eJ b.fs)(Bu:n<eJ vs){nf:Nat}(hnf:nf=eJ b.fs)(h:FR w0 R A P bm vO bs vM (eS (eK ⟨g,0,eL⟩) nf c) b vs w)(hu:vs[n]=u){bX:List tBA} (hl1:eJ bX=eJ b.fs[n].code) (s:Sl w' 138 8 v' (eJ b.fs[n].code+1) (py bs (b.fs[n].code.zip bX)++((abY o n b.slot x.x).VD bs lab).eQ)) (m:aa (λk=>u.ownBlock=eK k) w w') (l:∀k,v'.ownBlock=eK k->u.ownBlock=eK k\/w.heap.size<=k):FR w0 R A P bm vO bs vM (eS (eK ⟨g,0,eL⟩) nf c) (fP o b x) (vs.set n v') (w'.setCell ⟨g,n*2+1,eL⟩ v'):=by
 have hI:=h.bd.instr hk Bu hnf hu hl1 s m l;have hcode:=h.bd.code n hk Bu;rw[hu]at hcode;have mg:aa (Only g) w' (w'.setCell ⟨g,n*2+1,eL⟩ v'):=ax.bA _ _;have hr:=h.res.ai m (λe=>hcode.aA h.res (by decide) e);have ha:=h.all.ai m (λe=>hcode.aA h.all (by decide) e);have hrow:=h.bd.rows.ai m (λk' hk' e=>hcode.apart h.bd.rows (by decide) e hk')
 have e:fP o b x={b with fs:=b.fs.set n ⟨b.fs[n].name,b.fs[n].code++[abY o n b.slot x.x]⟩,slot:=b.slot+x.x.o.slots}:=by
  unfold fP;rw[iN9 (by omega),iN9 (by omega),iP9 hx];have hl:b.last=b.fs[n]:=by unfold BS.last;rw[<-hn,List.getD_eq_getElem?_getD,List.getElem?_eq_getElem hk];rfl
  rw[hl,<-hn]
 rw[e];exact⟨hI,hr.ai mg (λe=>hrow.aA hr (by decide) (congrArg eK (show g=R from e.symm))),ha.ai mg (λe=>hrow.aA ha (by decide) (congrArg eK (show g=A from e.symm))),h.ne⟩
end
def Hm(f:bz):fa->dN
 |eS o n c=>⟨f,o,n,c⟩
 |_=>⟨f,eL,0,0⟩
theorem yu:∀(fs:List bz) (vs:tLV),eJ vs=eJ fs->(∀u∈vs,∃o n c,u=eS o n c)->(ba Hm fs vs).flatMap dN.cells=((fs.map (·.name)).zip vs).flatMap nW/\(ba Hm fs vs).map (·.f)=fs/\(ba Hm fs vs).map dN.v=vs
 |[],[],_,_=>⟨rfl,rfl,rfl⟩
 |f::fs,v::vs,h,hs=>by
  obtain⟨h1,h2,h3⟩:=yu fs vs (by simpa using h) (λu hu=>hs u (by simp[hu]));obtain⟨o,n,c,rfl⟩:=hs v (by simp);refine⟨?_,?_,?_⟩
  ·rw[b5,List.flatMap_cons,h1];rfl
  ·rw[b5,cI,h2];rfl
  ·rw[b5,cI,h3];rfl
 |[],_::_,h,_=>by simp at h
 |_::_,[],h,_=>by simp at h
theorem nX.slices{w0 w:tW}{P:Nat}{bs:tLN}{vM vF:fa}{ms:List aB}{fs:List bz}{vs:tLV}(h:nX w0 P bs vM vF ms fs vs w):∀u∈vs,∃o n c,u=eS o n c:=λu hu=>by
 obtain⟨code,hc⟩:=h.abk hu;obtain⟨o,c,hv,_⟩:=hc.view;exact⟨o,_,c,hv⟩
theorem FR.sorted{w0 w w':tW}{R A P bm:Nat}{vO vM vF:fa}{bs:tLN}{b:BS}{vs:tLV}(h:FR w0 R A P bm vO bs vM vF b vs w){tv:fa}{ms':List aB}{rs':List dN}(hp:rs'.Perm (ba Hm b.fs vs))(sM:Sl w' 100 4 vM (eJ ms') (ms'.flatMap aB.cells))(sF:Sl w' 96 2 vF (eJ rs') (rs'.flatMap dN.cells))(m:aa (λk=>vM.ownBlock=eK k\/vF.ownBlock=eK k\/k=R) w w')(hO:aM 0 w' tv bs az):sZ w' tv bs vM vF ms' (rs'.map (·.f)) (rs'.map dN.v)/\(rs'.map (·.f)).Perm b.fs:=by
 obtain⟨h1,h2,h3⟩:=yu b.fs vs h.bd.len h.bd.slices;refine⟨⟨sM,by simp,?_,λi hi hi'=>?_,hO⟩,?_⟩
 ·have e:(((rs'.map (·.f)).map (·.name)).zip (rs'.map dN.v)).flatMap nW=rs'.flatMap dN.cells:=by rw[List.map_map,List.zip_map',List.flatMap_map];rfl
  rw[e,List.length_map];exact sF
 ·have hi2:i<eJ rs':=by simpa using hi
  have hm:=hp.mem_iff.1 (al hi2);obtain⟨j,hj,e⟩:=cJ hm;have hjf:j<eJ b.fs:=by rw[cj]at hj;omega
  have hjv:j<eJ vs:=by rw[cj]at hj;omega
  have e1:rs'[i].f=b.fs[j]:=by have:=congrArg (λl:List bz=>l[j]?) h2;simp only[List.getElem?_map,List.getElem?_eq_getElem hj,List.getElem?_eq_getElem hjf,de,Option.some.injEq]at this;rw[<-e];exact this
  have e2:rs'[i].v=vs[j]:=by have:=congrArg (λl:tLV=>l[j]?) h3;simp only[List.getElem?_map,List.getElem?_eq_getElem hj,List.getElem?_eq_getElem hjv,de,Option.some.injEq]at this;rw[<-e];exact this
  simp only[List.getElem_map];rw[e1,e2];have hc:=h.bd.code j hjf hjv;refine hc.ai m (λk hk hS=>?_);rcases hS with hS|hS|hS
  ·exact hc.apart h.bd.maps (by decide) hk hS
  ·exact hc.apart h.bd.rows (by decide) hk hS
  ·exact hc.aA h.res (by decide) (hk.trans (congrArg eK hS))
 ·have:=hp.map (·.f);rw[h2]at this;exact this
theorem zF(ls:List fE):∀k,k<=eJ ls->∀f∈(aj (ls.take k)).fs,∀p∈f.bX,p.2<=2*k
 |0,_=>by rw[bt];exact λf hf=>(by cases hf)
 |k+1,h=>by
  have ih:=zF ls k (by omega);have hs:=(jt ls k (by omega)).1;rw[gW ls k (by omega)];generalize aj (ls.take k)=o at *;generalize ls[k]=x;have h3:∀f∈o.fs,∀p∈f.bX,p.2<=2*(k+1):=λf hf p hp=>by have:=ih f hf p hp;omega
  have hlast:∀p∈o.last.bX,p.2<=2*(k+1):=by
   by_cases e:o.fs=[]
   ·unfold OL.last;rw[e];exact λp hp=>(by cases hp)
   ·exact h3 _ (Jl e)
  have hsl:=rF hs;unfold cu;split
  ·exact h3
  split
  ·intro f hf;rcases List.mem_append.1 hf with h5|h5
   ·exact h3 f h5
   ·have:f={}:=by simpa using h5
    subst this;exact λp hp=>(by cases hp)
  split
  ·intro f hf;rcases ao hf with h5|rfl
   ·exact h3 f h5
   ·unfold tK.label;split
    ·exact hlast
    ·intro p hp;rcases List.mem_append.1 hp with h6|h6
     ·exact hlast p h6
     ·rw[List.mem_singleton.1 h6];show o.last.slots<=_;omega
  split
  ·intro f hf;rcases ao hf with h5|rfl
   ·exact h3 f h5
   ·exact hlast
  ·exact h3
theorem Wd{l:List (tLB×Nat)}{n:Nat}(h:∀p∈l,p.2<=n)(y:tLB):(gK l y).getD 0<=n:=by
 unfold gK;cases hf:l.find? (λp=>p.1==y)with
 |none=>exact cy _
 |some p=>exact h p (List.mem_of_find?_eq_some hf)
def Ck(w:tW)(tv:fa)(bs:tLN)(b:BS)(e:Ending)(w':tW):Prop :=
 ∃vM vF ms fs vs,e=fW (fY #[vM,vF])/\sZ w' tv bs vM vF ms fs vs/\ms.Perm b.ms/\ms.Pairwise (λx y=>jA (T y.name) (T x.name)=fj)/\fs.Perm b.fs/\fs.Pairwise (λx y=>jA (T y.name) (T x.name)=fj)/\aa af w w'
theorem RH(wT wL wO w:tW)(tv vL:fa)(bs:tLN)(ls:List fE)(bm:Nat)(vO:fa)(lb:tLN)(hO:aM 0 wT tv bs az)(m:aa af wT w)(hL:gJ wL vL bs ls w)(hA:dZ wO bm vO lb (aj ls) w)(hin:InF ls)(hk4:∀x∈ls,x.kind=4->x.x.k<eJ az)(hnl:eJ ls<=10000)(hsz:∀x∈ls,x.kind=1->(0<=tL (x.ns.getD 0 aF)/\tL (x.ns.getD 0 aF)<256)/\(0<=tL (x.ns.getD 1 aF)/\tL (x.ns.getD 1 aF)<256)/\(0<=tL (x.ns.getD 2 aF)/\tL (x.ns.getD 2 aF)<256)):fS prog 45 #[vL,fY #[kq (eK bm),vO]] w λe w'=>Ck w tv bs (aR (aj ls) ls) e w':=by
 have PH:ah (∀e w',(∃vM vF ms fs vs,e=fW (fY #[vM,vF])/\sZ w' tv bs vM vF ms fs vs/\ms.Perm (aR (aj ls) ls).ms/\ms.Pairwise (λx y=>jA (T y.name) (T x.name)=fj)/\fs.Perm (aR (aj ls) ls).fs/\fs.Pairwise (λx y=>jA (T y.name) (T x.name)=fj)/\aa af w w')->Ck w tv bs (aR (aj ls) ls) e w'):=λe w' h=>h
 have BU:ah (∀w',aa af w w'->∀x∈ls,x.kind=4->dO w' (bs[x.x.k]?.getD 0) x.x.o):=λw' m' x hx h4=>by
  have h1:=hk4 x hx h4;have h2:x.x.k<eJ bs:=by rw[hO.len];exact h1
  have:=(hO.ai (m.trans m')).at' x.x.k h2 h1;rw[List.getElem?_eq_getElem h2];unfold fD.o;rw[List.getElem?_eq_getElem h1];exact this
 have HOI:=aq (λw' (m':aa af w w')=>hO.ai (m.trans m'));have LK:=aq hL;have ZE:=aq hA;have Yx:=aq (AO (aj ls) ls);have HST:=aq (DL (aj ls) ls);have nu:ah (∀k,¬k<eJ ls->aR (aj ls) (ls.take k)=aR (aj ls) ls):=λk h=>by rw[b9 (by omega)]
 have NU:ah (∀k (h:k<eJ ls),ls[k].kind=4->0<eJ (aR (aj ls) (ls.take k)).fs):=λk h h4=>by rw[(AO (aj ls) ls k (by omega)).1];exact List.length_pos_iff.2 (hin k h (.inr h4))
 have HMO:ah (∀x∈ls,x.kind=1->∀w,fS prog 75 #[fY (x.cells bs)] w λe w'=>e=fW (fY #[eR (T (yt x).name),vB ((yt x).key:Nat),vB ((yt x).value:Nat),vB ((yt x).entries:Nat)])/\aa af w w'):=λx hx h1 w=>by
  obtain⟨s0,s1,s2⟩:=hsz x hx h1;have hc:x.cells bs=iA x.kind (T x.name) (x.ns.getD 0 aF) (x.ns.getD 1 aF) (x.ns.getD 2 aF):=by unfold fE.cells;rw[iN9 (by omega)]
  rw[hc];refine(Q7 x.kind (T x.name) _ _ _ w s0 s1 s2).mono ?_;rintro e w' ⟨rfl,m'⟩;refine⟨?_,m'⟩;unfold yt;simp only[cq s0.1,cq s1.1,cq s2.1]
 obtain⟨oL,cL,MH,_⟩:=hL.sl.view;subst MH;obtain⟨oO,cO,hvO,_⟩:=hA.sl.view;have hOL:eJ (aj ls).fs<=10000:=by have:=(jt ls (eJ ls) (bj _)).2;rw[b9 (bj _)]at this;omega
 subst hvO;clear hO m hL hin hk4 hsz hA;generalize Ck w tv bs (aR (aj ls) ls)=RP at *
 have HW0:ah (FR w (w.heap.size+1) w.heap.size (w.heap.size+1+1) bm (eS oO (eJ (aj ls).fs) cO) bs (vN) (vN) {} [] (((w.alloc (fL #[kq (eK bm),eS oO (eJ (aj ls).fs) cO] 108)).alloc (fL #[vN,vN] 90)).alloc (fL #[vN,vN] 90))):=by
  have m1:aa af w ((w.alloc (fL #[kq (eK bm),eS oO (eJ (aj ls).fs) cO] 108)).alloc (fL #[vN,vN] 90)):=aw.alloc _;have h1:=nX.new w bs _ m1;have hs:((w.alloc (fL #[kq (eK bm),eS oO (eJ (aj ls).fs) cO] 108)).alloc (fL #[vN,vN] 90)).heap.size=w.heap.size+1+1:=by simp
  rw[hs]at h1;have h2:=au.new (w.alloc (fL #[kq (eK bm),eS oO (eJ (aj ls).fs) cO] 108)) #[vN,vN] 90;have hs2:(w.alloc (fL #[kq (eK bm),eS oO (eJ (aj ls).fs) cO] 108)).heap.size=w.heap.size+1:=by simp
  rw[hs2]at h2;exact⟨h1,h2.alloc _,((au.new w _ _).alloc _).alloc _,by omega⟩
 go_in;go_upto_region 2 with fail;go_wp2_with fail;generalize((w.alloc (fL #[kq (eK bm),eS oO (eJ (aj ls).fs) cO] 108)).alloc (fL #[vN,vN] 90)).alloc (fL #[vN,vN] 90)=w1 at *;generalize hA0:w.heap.size=A at *;generalize hR0:A+1=R at *;generalize hP0:R+1=P at *;go_loopg [13,6] (eJ ls) (λq v13 v6 wx=>∃(k:Nat) (vM vF:fa) (vs:tLV),k<=eJ ls/\v13=vI k/\v6=vI (aR (aj ls) (ls.take k)).slot/\FR w R A P bm (eS oO (eJ (aj ls).fs) cO) bs vM vF (aR (aj ls) (ls.take k)) vs wx/\q=eJ ls-k)
 case atStart=>exact⟨0,_,_,[],cy _,rfl,rfl,HW0.o,rfl⟩
 case round =>
  obtain⟨k,vM,vF,vs,hk,rfl,rfl,hB,rfl⟩:=hrel;have HB:=aq hB;clear hB HW0;obtain⟨hb1,hb2,hb3,hb4,hb5⟩:=Yx.o k hk;obtain⟨oM,cM,wE,_⟩:=HB.o.bd.maps.view;obtain⟨oF,cF,kC,_⟩:=HB.o.bd.rows.view;subst wE kC;by_cases hlt:k<eJ ls
  ·obtain⟨g,cL',hv,hcl,hrow⟩:=LK.o.row k hlt;injection hv with hv1 hv2 hv3;subst hv1;have HRW:=hrow wr HB.o.bd.md;have HS:=aq (HST.o k hlt);have HI:=aq (NU.o k hlt);have HO4:=aq (λw' m'=>BU.o w' m' ls[k] (al hlt));have bU:=aq (HMO.o ls[k] (al hlt));have Q5:ah (eJ (aR (aj ls) (ls.take k)).fs<=eJ (aj ls).fs):=by rw[ah,hb1];exact rU ls k
   have HTG:ah (∀n,n<eJ (aj ls).fs->∀y,(gK ((aj ls).fs.getD n {}).bX y).getD 0<=20000):=λn hn y=>by
    have h1:=zF ls (eJ ls) (bj _);rw[b9 (bj _)]at h1;rw[List.getD_eq_getElem?_getD,List.getElem?_eq_getElem hn];have:=Wd (h1 _ (al hn)) y;show(gK (aj ls).fs[n].bX y).getD 0<=20000
    omega
   have HOR:ah (∀n,n<eJ (aj ls).fs->∃gO,oO=eK ⟨gO,0,eL⟩/\(aj ls).fs.length<=cO/\∀W,aa af w W->W.cell? ⟨gO,n*3+2,eL⟩=eK (kq (eK (lb[n]?.getD 0)))/\iW W (lb[n]?.getD 0) ((aj ls).fs.getD n {}).bX):=λn hn=>by obtain⟨gO,h1,_,h3,h4⟩:=ZE.o.jM n hn;refine⟨gO,h1,h3,λW mW=>⟨h4 W mW 2 (by show 2<3;decide),?_⟩⟩;rw[List.getD_eq_getElem?_getD,List.getElem?_eq_getElem hn];exact MapOf.ai (ZE.o.bX n hn) mW id
   clear hrow HST NU BU hv3 nu HMO Yx hb1;generalize aR (aj ls) (ls.take k)=b at *;generalize ls[k]=x at *;generalize(aj ls).fs.length=nO at *;have jI:=aq (gV bs x);have NV:=aq (rE bs x);have Bk:=aq (cells_one bs x);have Iz:=aq (nD bs x);have HB2:=aq (au.new wr (iA 0 ⟨#[]⟩ aF aF aF) 160);have HC4:ah (x.kind=4->x.cells bs=Jh 4 ⟨#[]⟩ aF aF aF (vP (bs[x.x.k]?.getD 0)) x.x.r.d x.x.r.s x.x.r.jump x.x.r.num x.x.r.high (T x.x.r.label) (T x.x.r.name) x.x.fits):=λh=>by unfold fE.cells;rw[iP9 h]
   generalize x.cells bs=cs at *;go_upto_region 6 with(first |(refine eH rfl 160 (.tmp 15) rfl g (k*20) rfl cs _ HRW underlying160 rfl (by rw[jI.o];kernel_rfl) ?_) |(refine gx rfl 160 (.tmp 8) (.tmp 16) rfl wr.heap.size cs rfl rfl 160 _ HB2.o (by rw[jI.o];kernel_rfl) (by rw[jI.o];rfl) Bk.o ?_;intro W3 hB3 yK))
   have HB3:=aq (HB.o.quiet yK.fresh);have c0:=(hB3.cell 0).trans NV.o;have p0:=HB3.o.bd.blk.c0;have p1:=HB3.o.bd.blk.c1;have QU:=aq hB3;clear HB HB2 HRW yK hB3;generalize wr.heap.size=B at *;have hcase:x.kind=1\/x.kind=2\/x.kind=4\/(x.kind≠1/\x.kind≠2/\x.kind≠4):=by omega
   rcases hcase with hx|hx|hx|hx
   ·have q1:((x.kind:Int)==1)=true:=by rw[hx];rfl
    have Oi:=bU.o hx;have Ho:ah (∀W vA wA,aa af W3 W->Sl wA 100 4 vA (eJ b.ms+1) (b.ms.flatMap aB.cells++aB.cells (yt x))->aa (λk=>(Value.slice oM (eJ b.ms) cM).ownBlock=eK k) W wA->(∀k,vA.ownBlock=eK k->(Value.slice oM (eJ b.ms) cM).ownBlock=eK k\/W.heap.size<=k)->(∃oA cA,vA=eS oA (eJ b.ms+1) cA)/\au wA P #[eS oM (eJ b.ms) cM,eS oF (eJ b.fs) cF] 90/\FR w R A P bm (eS oO nO cO) bs vA (eS oF (eJ b.fs) cF) (fP (aj ls) b x) vs (wA.setCell ⟨P,0,eL⟩ vA)):=λW vA wA mW sA mA lA=>by obtain⟨oA,cA,BV,_⟩:=sA.view;exact⟨⟨oA,cA,BV⟩,(HB3.o.quiet mW).bd.aai mA,(HB3.o.quiet mW).map (aj ls) hx sA mA lA⟩
    have JB:=aq (λW (mW:aa af W3 W)=>(HB3.o.quiet mW).bd.maps);have We:ah (∀e:Ext (λk=>(Value.slice oM (eJ b.ms) cM).ownBlock=eK k) W3,au e.w P #[eS oM (eJ b.ms) cM,eS oF (eJ b.fs) cF] 90/\au e.w B cs 160):=λe=>⟨HB3.o.bd.aai e.m,QU.o.ai e.m (λh=>HB3.o.bd.maps.aA QU.o (by decide) h)⟩
    have Bl:ah (aR (aj ls) (ls.take (k+1))=fP (aj ls) b x/\(fP (aj ls) b x).slot=b.slot):=⟨HS.o,by unfold fP;rw[iP9 hx]⟩
    obtain⟨iP,hiP,sP,hsP,xz⟩:=oY Av;clear hx HS HI HO4 bU HC4 Iz HB3;generalize yt x=pm at *;generalize fP (aj ls) b x=b' at *;go_upto_region 9 with fail
    haveI:Nonempty (Ext (λk=>(Value.slice oM (eJ b.ms) cM).ownBlock=eK k) W3):=Ext.ne _ _
    have d0:=λ(e:Ext (λk=>(Value.slice oM (eJ b.ms) cM).ownBlock=some k) W3)=>(We.o e).1.c0;have HLD:=aq QU.o.drew;refine bY 6 [2,3,4,5] (λw'=>∃e:Ext (λk=>(Value.slice oM (eJ b.ms) cM).ownBlock=eK k) W3,w'=e.w) (by kernel_rfl) (by kernel_rfl) ⟨⟨_,aN⟩,rfl⟩ ?_;simp only[cw,bt,cx,cH]
    iterate 2 (refine aG rfl rfl rfl ?_;intro K hK;go_big_quiet_op;go_big_quiet_on)
    refine aH rfl rfl ?_;intro K hK;refine Ek 160 (.tmp 8) rfl B rfl 160 cs (0,0) _ HLD.o underlying160 rfl (by rw[jI.o];kernel_rfl) ?_;refine hK _ _ rfl ⟨⟨_,aN⟩,rfl⟩ ?_;clear hK K
    try simp only[Act.put,sA9,sB9,sC9]
    refine aH rfl rfl ?_;intro K hK;go_big_op;refine(Oi _).mono ?_;rintro e w4 ⟨rfl,m4⟩;have M4:=aq (aN.trans m4);refine hK _ _ rfl ⟨⟨_,M4.o.of_nil⟩,rfl⟩ ?_;clear hK K m4
    try simp only[Act.put,sA9,sB9,sC9]
    refine aH rfl rfl ?_;intro K hK;refine rW 87 100 4 (.tmp 28) rfl #[eR (T pm.name),vB (pm.key:Nat),vB (pm.value:Nat),vB (pm.entries:Nat)] rfl rfl iP _ underlying87 hiP sP hsP (by decide) (by decide) ?_;have M5:=aq (M4.o.alloc (fL #[eR (T pm.name),vB (pm.key:Nat),vB (pm.value:Nat),vB (pm.entries:Nat)] 100));refine hK _ _ rfl ⟨⟨_,M5.o.of_nil⟩,rfl⟩ ?_;clear hK K
    try simp only[Act.put,sA9,sB9,sC9]
    refine aH rfl rfl ?_;intro K hK;refine fq _ (.tmp 26) (.tmp 29) 87 rfl 100 iP (fY #[eR E0,vB 0,vB 0,vB 0]) 4 24 underlying87 hiP sP hsP xz rfl (by decide) (eS oM (eJ b.ms) cM) (eJ b.ms) (b.ms.flatMap aB.cells) rfl (JB.o _ M5.o) ⟨w4.heap.size,0,eL⟩ 1 1 (#[eR (T pm.name),vB (pm.key:Nat),vB (pm.value:Nat),vB (pm.entries:Nat)]:tAV).toList rfl rfl (bH _ _ _ _ rfl) (by simp[Value.oneCell']) (by unfold jz;omega) (by omega) ?_;intro vA wA sA mA lA;obtain⟨⟨oA,cA,BV⟩,MI,Jp⟩:=Ho.o _ vA wA M5.o sA mA lA;subst BV;have MA:=aq ((M5.o.of_nil).trans mA);refine hK _ _ rfl ⟨⟨_,MA.o⟩,rfl⟩ ?_;clear hK K;refine bZ ?_;have pA0:=MI.cell 0;have pAf:=MI.frozen;have YC:=aq Jp;clear sA mA lA MI Jp;go_wp2_with fail;go_roundg (eJ ls-(k+1))
    case measure=>omega
    case rel=>exact⟨k+1,_,_,vs,by omega,by go_num,by rw[Bl.o.1,Bl.o.2],by rw[Bl.o.1];exact YC.o,rfl⟩
   ·have q1:((x.kind:Int)==1)=fj:=by rw[hx];rfl
    have q2:((x.kind:Int)==2)=true:=by rw[hx];rfl
    have c1:=(QU.o.cell 1).trans (Iz.o (by omega));have Ho:ah (∀W vA wA,aa af W3 W->Sl wA 96 2 vA (eJ b.fs+1) (((b.fs.map (·.name)).zip vs).flatMap nW++nW (x.name,vN))->aa (λk=>(Value.slice oF (eJ b.fs) cF).ownBlock=eK k) W wA->(∀k,vA.ownBlock=eK k->(Value.slice oF (eJ b.fs) cF).ownBlock=eK k\/W.heap.size<=k)->(∃oA cA,vA=eS oA (eJ b.fs+1) cA)/\au wA P #[eS oM (eJ b.ms) cM,eS oF (eJ b.fs) cF] 90/\FR w R A P bm (eS oO nO cO) bs (eS oM (eJ b.ms) cM) vA (fP (aj ls) b x) (vs++[vN]) (wA.setCell ⟨P,1,eL⟩ vA)):=λW vA wA mW sA mA lA=>by obtain⟨oA,cA,BV,_⟩:=sA.view;have hq:=HB3.o.quiet mW;exact⟨⟨oA,cA,BV⟩,hq.bd.blk.ai mA (λe=>hq.bd.rows.aA hq.bd.blk (by decide) e),hq.func (aj ls) hx sA mA lA⟩
    have JB:=aq (λW (mW:aa af W3 W)=>(HB3.o.quiet mW).bd.rows);have Bl:ah (aR (aj ls) (ls.take (k+1))=fP (aj ls) b x/\(fP (aj ls) b x).slot=0):=⟨HS.o,by unfold fP;rw[iN9 (by omega),iP9 hx]⟩
    obtain⟨iP,hiP,sP,hsP,xz⟩:=oY yj;clear hx HS HI HO4 bU HC4 Iz HB3;generalize fP (aj ls) b x=b' at *;generalize x.name=nm at *;have M5:ah (aa af W3 (W3.alloc (fL #[eR (T nm),vN] 96))):=aw;go_wp2_with (first |(refine wpList_plain rfl λ_ hK=>rW 88 96 2 (.tmp 38) rfl #[eR (T nm),vN] rfl rfl iP _ underlying88 hiP sP hsP (by decide) (by decide) (hK _ _ ?_);clear hK) |(at_builtin;(refine aQ _ rfl (.tmp 35) (.tmp 39) 88 rfl 96 iP (fY #[eR E0,vN]) 2 40 underlying88 hiP sP hsP xz rfl (by decide) (eS oF (eJ b.fs) cF) (eJ b.fs) (((b.fs.map (·.name)).zip vs).flatMap nW) rfl (JB.o _ M5.o) ⟨W3.heap.size,0,eL⟩ 1 1 (#[eR (T nm),vN]:tAV).toList rfl rfl (bH _ _ _ _ rfl) (by simp[Value.oneCell']) (by unfold jz;omega) (by omega) ?_;intro vA wA sA mA lA;obtain⟨⟨oA,cA,BV⟩,MI,Jp⟩:=Ho.o _ vA wA M5.o sA mA lA;subst BV;have pA1:=MI.cell 1;have pAf:=MI.frozen;have YC:=aq Jp;clear sA mA lA MI Jp)));go_roundg (eJ ls-(k+1))
    case measure=>omega
    case rel=>exact⟨k+1,_,_,_,by omega,by go_num,by rw[Bl.o.1,Bl.o.2];rfl,by rw[Bl.o.1];exact YC.o,rfl⟩
   ·have q1:((x.kind:Int)==1)=fj:=by rw[hx];rfl
    have q2:((x.kind:Int)==2)=fj:=by rw[hx];rfl
    have q4:((x.kind:Int)==4)=true:=by rw[hx];rfl
    have hpos:=HI.o hx;have hi:((eJ b.fs:Int)-1)=((eJ b.fs-1:Nat):Int):=by omega
    have abZ:ah (eJ b.fs-1<nO):=by have:=Q5.o;rw[ah];omega
    obtain⟨gO,hoO,hcO,hOR⟩:=HOR.o (eJ b.fs-1) abZ.o;subst hoO;have agz:=HTG.o (eJ b.fs-1) abZ.o x.x.r.label;have HJM:ah (Oh (aj ls) (eJ b.fs-1) b.slot x.x=if x.x.o.jumps then(((gK ((aj ls).fs.getD (eJ b.fs-1) {}).bX x.x.r.label).getD 0:Nat):Int)-b.slot-x.x.o.slots else x.x.r.jump):=rfl;have Bl:ah (aR (aj ls) (ls.take (k+1))=fP (aj ls) b x/\(fP (aj ls) b x).slot=b.slot+x.x.o.slots):=⟨HS.o,by unfold fP;rw[iN9 (by omega),iN9 (by omega),iP9 hx]⟩
    have ab0:=aq HB3.o.bd.md
    have HIC:ah (∀j (h:j<(#[vP (bs[x.x.k]?.getD 0),vB x.x.r.d,vB x.x.r.s,.int .i16 x.x.r.jump,vJ x.x.r.num,vJ x.x.r.high,eR (T x.x.r.label),eR (T x.x.r.name)]:tAV).size),W3.cell? ⟨B,11+j,eL⟩=eK (#[vP (bs[x.x.k]?.getD 0),vB x.x.r.d,vB x.x.r.s,.int .i16 x.x.r.jump,vJ x.x.r.num,vJ x.x.r.high,eR (T x.x.r.label),eR (T x.x.r.name)]:tAV)[j]):=λj hj=>by
     rw[QU.o.cell,HC4.o hx]
     match j,hj with
     |0,_=>rfl
     |1,_=>rfl
     |2,_=>rfl
     |3,_=>rfl
     |4,_=>rfl
     |5,_=>rfl
     |6,_=>rfl
     |7,_=>rfl
    have Yo:=aq (λw' m'=>HO4.o w' m' hx);have BB:ah (eJ b.fs-1<eJ b.fs/\b.fs.length-1<eJ vs):=⟨by omega,by rw[HB3.o.bd.len];omega⟩
    have adX:=aq x.x.Aj;have HZ2:=aq (au.new W3 Z8 138);clear HI HO4 bU HC4 Iz HS HOR HTG;go_upto_region 15 with(first |(refine eH rfl 138 (.tmp 44) rfl B 11 rfl #[vP (bs[x.x.k]?.getD 0),vB x.x.r.d,vB x.x.r.s,.int .i16 x.x.r.jump,vJ x.x.r.num,vJ x.x.r.high,eR (T x.x.r.label),eR (T x.x.r.name)] _ HIC.o underlying138 rfl (by kernel_rfl) ?_) |(refine gx rfl 138 (.tmp 10) (.tmp 45) rfl W3.heap.size _ rfl rfl 138 _ HZ2.o (by kernel_rfl) (by rfl) (by simp[Value.oneCell']) ?_;intro W4 hB4 Ur))
    have HNI:ah (∀u∈vs,∀k,u.ownBlock=eK k->k≠W3.heap.size):=λu hu k hk e=>by obtain⟨code,hc⟩:=HB3.o.bd.abk hu;have:=hc.lt k hk;omega
    have HI4:=aq hB4;have gG:=aq Ur.fresh;have Ho:ah (∀W vA wA u bX,aa af W3 W->vs[eJ b.fs-1]'(BB.o.2)=u->∀gF cF',oF=eK ⟨gF,0,eL⟩->cF'=cF->eJ bX=(b.fs[eJ b.fs-1]'(BB.o.1)).code.length->Sl wA 138 8 vA ((b.fs[eJ b.fs-1]'(BB.o.1)).code.length+1) (py bs ((b.fs[eJ b.fs-1]'(BB.o.1)).code.zip bX)++[vP (bs[x.x.k]?.getD 0),vB x.x.r.d,vB x.x.r.s,.int .i16 (Oh (aj ls) (eJ b.fs-1) b.slot x.x),vJ x.x.r.num,vJ x.x.r.high,eR (T x.x.r.label),eR (T x.x.r.name)])->aa (λk=>u.ownBlock=eK k) W wA->(∀k,vA.ownBlock=eK k->u.ownBlock=eK k\/W.heap.size<=k)->(∃oA cA,vA=eS oA ((b.fs[eJ b.fs-1]'(BB.o.1)).code.length+1) cA)/\FR w R A P bm (eS (eK ⟨gO,0,eL⟩) nO cO) bs (eS oM (eJ b.ms) cM) (eS oF (eJ b.fs) cF) (fP (aj ls) b x) (vs.set (eJ b.fs-1) vA) (wA.setCell ⟨gF,(eJ b.fs-1)*2+1,eL⟩ vA)):=λW vA wA u bX mW hu gF cF' hoF hcF hlb sA mA lA=>by obtain⟨oA,cA,BV,_⟩:=sA.view;have hq:=HB3.o.quiet mW;subst hoF;exact⟨⟨oA,cA,BV⟩,hq.instr (aj ls) hx rfl BB.o.1 BB.o.2 rfl hu hlb (lab:=T x.x.r.label) sA mA lA⟩
    obtain⟨z1,z2,z3,z4,z5,z6,z7,z8,z9,z10,z11,CU,_⟩:=(Yo.o W4 (ab0.o.trans gG.o)).ex;have o3:=CU.cell 3;have i0:=HI4.o.cell 0;clear CU HZ2 HIC hB4 Ur hx;generalize hjj:Oh (aj ls) (eJ b.fs-1) b.slot x.x=jj at *;clear hjj;generalize fP (aj ls) b x=b' at *;generalize hI:W3.heap.size=I at *;have HIL:=aq (Nat.le_of_eq hI);clear hI;go_upto_if 50 with fail;go_cut [] (λwx=>aa af W3 wx/\au wx I #[vP (bs[x.x.k]?.getD 0),vB x.x.r.d,vB x.x.r.s,.int .i16 jj,vJ x.x.r.num,vJ x.x.r.high,eR (T x.x.r.label),eR (T x.x.r.name)] 138)
    case first =>
     have ab1:ah (∀W,aa af W4 W->x.x.o.jumps=true->fS prog 76 #[fY #[vP (bs[x.x.k]?.getD 0),vB x.x.r.d,vB x.x.r.s,.int .i16 x.x.r.jump,vJ x.x.r.num,vJ x.x.r.high,eR (T x.x.r.label),eR (T x.x.r.name)],vI b.slot,vI ((gK ((aj ls).fs.getD (eJ b.fs-1) {}).bX x.x.r.label).getD 0:Nat)] W λe w'=>e=fW (.int .i16 jj)/\aa af W w'):=λW mW hj=>by refine(Mh W _ x.x.o (Yo.o W (ab0.o.trans (gG.o.trans mW))) x.x.r.d x.x.r.s x.x.r.num x.x.r.high x.x.r.jump (T x.x.r.label) (T x.x.r.name) b.slot _ (by omega) (by omega) adX.o).mono ?_;rintro e w' ⟨rfl,m'⟩;have hjm:=HJM.o;rw[iP9 hj]at hjm;exact⟨by rw[hjm],m'⟩
     generalize hjb:x.x.o.jumps=jb at *;cases jb with
     |false =>
      have HJ3:ah (jj=x.x.r.jump):=by have:=HJM.o;rw[ah];simpa using this
      clear ab1 HJM;go_wp2_with fail;go_meet;rw[HJ3.o];exact⟨gG.o,HI4.o⟩
     |true =>
      go_upto_region 16 with fail;have fK:ah (aa af W4 W4.drew):=aN;refine bK 11 (by kernel_rfl) (by kernel_rfl) ?_;intro W hW;rw[<-hW]at fK;clear hW;have K3:=aq (HI4.o.ai fK.o id);have j0:=K3.o.cell 0;have j1:=K3.o.cell 1;have j2:=K3.o.cell 2;have j3:=K3.o.cell 3;have j4:=K3.o.cell 4;have j5:=K3.o.cell 5;have j6:=K3.o.cell 6;have j7:=K3.o.cell 7;have a1:=(HB3.o.quiet (gG.o.trans fK.o)).all.c1;obtain⟨oc,hlb⟩:=hOR W (ab0.o.trans (gG.o.trans fK.o));have hlk:=hlb.adv x.x.r.label;have HJT:=ab1.o W fK.o rfl;have Cr:=abZ.o;clear hlb HJM ab1;generalize(gK ((aj ls).fs.getD (eJ b.fs-1) {}).bX x.x.r.label).getD 0=tg at *;simp only[cw,bt,cx,cH]
      repeat(go_big_quiet_step (fail))
      refine wpQuiet_nil ?_;go_wp2_with fail;refine HJT.mono ?_;rintro e w6 ⟨rfl,m6⟩;have hI6:=K3.o.ai m6 id;have k3:=hI6.cell 3;have kf:=hI6.frozen;have HI7:ah (au (w6.setCell ⟨I,3,eL⟩ (.int .i16 jj)) I #[vP (bs[x.x.k]?.getD 0),vB x.x.r.d,vB x.x.r.s,.int .i16 jj,vJ x.x.r.num,vJ x.x.r.high,eR (T x.x.r.label),eR (T x.x.r.name)] 138):=hI6.set 3 _;have zw:ah (aa af W3 (w6.setCell ⟨I,3,eL⟩ (.int .i16 jj))):=(gG.o.trans (fK.o.trans m6)).step ((aa.refl (Only I) _).bA 3 _) (λi hi e=>by have e':i=I:=e;have:=HIL.o;omega);clear m6 hI6 j0 j1 j2 j3 j4 j5 j6 j7 a1 oc hlk HJT;go_wp2_with fail;go_meet;exact⟨zw.o,HI7.o⟩
    case rest =>
    obtain⟨hM7,hI7⟩:=hcut;have zw:=aq hM7;have HI7:=aq hI7;have BQ:=aq (HB3.o.quiet hM7);clear hM7 hI7 o3 i0 HI4 gG p0 p1 c0;obtain⟨oF',cF',afL,QZ⟩:=BQ.o.bd.rows.view;injection afL with e1 e2 e3;subst e1 e3;obtain⟨gF,csF,rfl,QZ,htF,hcF,_⟩:=QZ (by omega);have HVF:ah (∀W,au W gF csF 96->W.cell? ⟨gF,(eJ b.fs-1)*2+1,eL⟩=eK (vs[eJ b.fs-1]'(BB.o.2))):=λW hW=>by rw[aV hW htF _ (by omega),flat_get nW 2 (λ_=>rfl) _ (eJ b.fs-1) 1 (by have:=BB.o;simp;omega) (by omega),GU _ _ _ (by simpa using BB.o.1) BB.o.2];rfl
    obtain⟨bX,hl1,hl2⟩:=BQ.o.bd.code _ BB.o.1 BB.o.2;have EU:=aq hl1;have agA:=hb5 _ (al BB.o.1);have Wf:ah (vs[eJ b.fs-1]'(BB.o.2)∈vs):=al _;obtain⟨oC,cC,hvC,_⟩:=hl2.view;have afM:=Ho.o;clear Ho;generalize(b.fs[eJ b.fs-1]'(BB.o.1)).code=code at *;generalize(vs[eJ b.fs-1]'(BB.o.2))=vC at *;subst hvC;have FH:ah (∀e:Ext (λk=>(Value.slice oC (eJ code) cC).ownBlock=eK k) wc,au e.w P #[eS oM (eJ b.ms) cM,eS (eK ⟨gF,0,eL⟩) (eJ b.fs) cF] 90/\au e.w gF csF 96/\au e.w I #[vP (bs[x.x.k]?.getD 0),vB x.x.r.d,vB x.x.r.s,.int .i16 jj,vJ x.x.r.num,vJ x.x.r.high,eR (T x.x.r.label),eR (T x.x.r.name)] 138):=λe=>⟨BQ.o.bd.blk.ai e.m (λh=>hl2.aA BQ.o.bd.blk (by decide) h),QZ.ai e.m (λh=>hl2.aA QZ (by decide) h),HI7.o.ai e.m (λh=>HNI.o _ Wf.o I h rfl)⟩
    have Tz:=aq (λW (mW:aa af wc W)=>hl2.ai mW (λ_ _=>id));have HNG:=aq (HI7.o.apart QZ (by decide));obtain⟨iP,hiP,sP,hsP,xz⟩:=oY yg;clear hl1 hl2 QZ htF;go_upto_region 17 with fail
    haveI:Nonempty (Ext (λk=>(Value.slice oC (eJ code) cC).ownBlock=eK k) wc):=Ext.ne _ _
    have d1:=λ(e:Ext (λk=>(Value.slice oC (eJ code) cC).ownBlock=some k) wc)=>(FH.o e).1.c1;have d2:=λe=>HVF.o _ (FH.o e).2.1;have HID:=aq HI7.o.drew;have hn1:=BB.o.1;refine bY 12 [9,10,11] (λw'=>∃e:Ext (λk=>(Value.slice oC (eJ code) cC).ownBlock=eK k) wc,w'=e.w) (by kernel_rfl) (by kernel_rfl) ⟨⟨_,aN⟩,rfl⟩ ?_;simp only[cw,bt,cx,cH]
    iterate 9 (refine aG rfl rfl rfl ?_;intro K hK;go_big_quiet_op;go_big_quiet_on)
    refine aH rfl rfl ?_;intro K hK;refine Ek 138 (.tmp 10) rfl I rfl 138 _ (0,0) _ HID.o underlying138 rfl (by kernel_rfl) ?_;refine hK _ _ rfl ⟨⟨_,aN⟩,rfl⟩ ?_;clear hK K
    try simp only[Act.put,sA9,sB9,sC9]
    refine aH rfl rfl ?_;intro K hK;refine rW 73 138 8 (.tmp 73) rfl #[vP (bs[x.x.k]?.getD 0),vB x.x.r.d,vB x.x.r.s,.int .i16 jj,vJ x.x.r.num,vJ x.x.r.high,eR (T x.x.r.label),eR (T x.x.r.name)] rfl rfl iP _ underlying73 hiP sP hsP (by decide) (by decide) ?_;have M5:ah (aa af wc (wc.drew.alloc (fL #[vP (bs[x.x.k]?.getD 0),vB x.x.r.d,vB x.x.r.s,.int .i16 jj,vJ x.x.r.num,vJ x.x.r.high,eR (T x.x.r.label),eR (T x.x.r.name)] 138))):=aN.alloc _;refine hK _ _ rfl ⟨⟨_,M5.o.of_nil⟩,rfl⟩ ?_;clear hK K
    try simp only[Act.put,sA9,sB9,sC9]
    refine aH rfl rfl ?_;intro K hK;refine fq _ (.tmp 72) (.tmp 74) 73 rfl 138 iP (fY Z8) 8 56 underlying73 hiP sP hsP xz rfl (by decide) (eS oC (eJ code) cC) (eJ code) (py bs (code.zip bX)) rfl (Tz.o _ M5.o) ⟨wc.drew.heap.size,0,eL⟩ 1 1 (#[vP (bs[x.x.k]?.getD 0),vB x.x.r.d,vB x.x.r.s,.int .i16 jj,vJ x.x.r.num,vJ x.x.r.high,eR (T x.x.r.label),eR (T x.x.r.name)]:tAV).toList rfl rfl (bH _ _ _ _ rfl) (by simp[Value.oneCell']) (by unfold jz;omega) (by omega) ?_;intro vA wA sA mA lA;obtain⟨⟨oA,cA,BV⟩,Jp⟩:=afM _ vA wA _ bX (zw.o.trans M5.o) rfl gF cF rfl rfl EU.o sA mA lA;subst BV;have MA:=aq ((M5.o.of_nil).trans mA);refine hK _ _ rfl ⟨⟨_,MA.o⟩,rfl⟩ ?_;clear hK K;refine bZ ?_;obtain⟨_,hgA,hIA⟩:=FH.o ⟨_,MA.o⟩;have gA1:=HVF.o _ hgA;have gAf:=hgA.frozen;have YC:=aq Jp;have hI9:au (wA.setCell ⟨gF,(eJ b.fs-1)*2+1,eL⟩ (eS oA (eJ code+1) cA)) I _ 138:=hIA.ai ((aa.refl (Only gF) _).bA _ _) (λe=>HNG.o e);have i9:=hI9.cell 0;obtain⟨z1,z2,z3,z4,z5,z6,z7,z8,z9,z10,z11,adY,_⟩:=(Yo.o _ YC.o.bd.md).ex;have o9:=adY.cell 2;have hs2:=adX.o;clear sA mA lA Jp hgA hIA hI9 adY;go_wp2_with fail;go_roundg (eJ ls-(k+1))
    case measure=>omega
    case rel=>exact⟨k+1,_,_,_,by omega,by go_num,by rw[Bl.o.1,Bl.o.2];go_num,by rw[Bl.o.1];exact YC.o,rfl⟩
   ·have q1:((x.kind:Int)==1)=fj:=by rw[beq_eq_false_iff_ne];omega
    have q2:((x.kind:Int)==2)=fj:=by rw[beq_eq_false_iff_ne];omega
    have q4:((x.kind:Int)==4)=fj:=by rw[beq_eq_false_iff_ne];omega
    have HE:ah (fP (aj ls) b x=b):=by rw[ah,fP,iN9 hx.1,iN9 hx.2.1,iN9 hx.2.2]
    clear hx;go_wp2_with fail;go_roundg (eJ ls-(k+1))
    case measure=>omega
    case rel=>exact⟨k+1,_,_,vs,by omega,by go_num,by rw[HS.o,HE.o],by rw[HS.o,HE.o];exact HB3.o,rfl⟩
  ·have hend:=nu.o k hlt;rw[hend]at HB
   have AJ:ah (∀(W:tW) (ms':List aB) (rs':List dN),rs'.Perm (ba Hm (aR (aj ls) ls).fs vs)->ms'.Perm (aR (aj ls) ls).ms->ms'.Pairwise (λx y=>jA (T y.name) (T x.name)=fj)->rs'.Pairwise (λx y=>jA (T y.f.name) (T x.f.name)=fj)->Sl W 100 4 (eS oM (eJ (aR (aj ls) ls).ms) cM) (eJ ms') (ms'.flatMap aB.cells)->Sl W 96 2 (eS oF (eJ (aR (aj ls) ls).fs) cF) (eJ rs') (rs'.flatMap dN.cells)->aa (λk=>(Value.slice oM (eJ (aR (aj ls) ls).ms) cM).ownBlock=eK k\/(Value.slice oF (eJ (aR (aj ls) ls).fs) cF).ownBlock=eK k) wr W->au W P #[eS oM (eJ (aR (aj ls) ls).ms) cM,eS oF (eJ (aR (aj ls) ls).fs) cF] 90/\au W R #[vN,vN] 90/\∀W',aa (Only R) W W'->RP (fW (fY #[eS oM (eJ (aR (aj ls) ls).ms) cM,eS oF (eJ (aR (aj ls) ls).fs) cF])) W'):=λW ms' rs' hp hpm hw1 hw2 sM sF mW=>by
    have hbd:=HB.o.bd;have hB:=hbd.blk.ai mW (λh=>h.elim (λh=>hbd.maps.aA hbd.blk (by decide) h) (λh=>hbd.rows.aA hbd.blk (by decide) h));have hR:=HB.o.res.ai mW (λh=>h.elim (λh=>hbd.maps.aA HB.o.res (by decide) h) (λh=>hbd.rows.aA HB.o.res (by decide) h));refine⟨hB,hR,λW' mR=>?_⟩;have mW':aa (λk=>(Value.slice oM (eJ (aR (aj ls) ls).ms) cM).ownBlock=eK k\/(Value.slice oF (eJ (aR (aj ls) ls).fs) cF).ownBlock=eK k\/k=R) wr W':=(mW.mono (λ_ _ h=>h.elim .inl (λh=>.inr (.inl h)))).trans (mR.mono (λ_ _ h=>.inr (.inr h)))
    have hmd:=hbd.md.step mW' (λi hi h=>by
     rcases h with h|h|h
     ·have:=hbd.pF i h;omega
     ·have:=hbd.pG i h;omega
     ·omega)
    have sM':=sM.ai mR (λk hk e=>sM.aA hR (by decide) (hk.trans (congrArg eK e)));have sF':=sF.ai mR (λk hk e=>sF.aA hR (by decide) (hk.trans (congrArg eK e)));obtain⟨hP,hpf⟩:=HB.o.sorted hp sM' sF' mW' (HOI.o W' hmd);exact PH.o _ W' ⟨_,_,ms',rs'.map (·.f),_,rfl,hP,hpm,hw1,hpf,List.pairwise_map.2 hw2,hmd⟩
   have HSO:ah (fS prog 77 #[fY #[eS oM (eJ (aR (aj ls) ls).ms) cM,eS oF (eJ (aR (aj ls) ls).fs) cF]] wr λr w'=>r=fW (jl #[])/\∃(ms':List aB) (rs':List dN),ms'.Perm (aR (aj ls) ls).ms/\ms'.Pairwise (λx y=>jA (T y.name) (T x.name)=fj)/\rs'.Perm (ba Hm (aR (aj ls) ls).fs vs)/\rs'.Pairwise (λx y=>jA (T y.f.name) (T x.f.name)=fj)/\Sl w' 100 4 (eS oM (eJ (aR (aj ls) ls).ms) cM) (eJ ms') (ms'.flatMap aB.cells)/\Sl w' 96 2 (eS oF (eJ (aR (aj ls) ls).fs) cF) (eJ rs') (rs'.flatMap dN.cells)/\aa (λb=>(Value.slice oM (eJ (aR (aj ls) ls).ms) cM).ownBlock=eK b\/(Value.slice oF (eJ (aR (aj ls) ls).fs) cF).ownBlock=eK b) wr w'):=by
    obtain⟨h1,h2,h3⟩:=yu _ vs HB.o.bd.len HB.o.bd.slices;have hl:eJ (ba Hm (aR (aj ls) ls).fs vs)=eJ (aR (aj ls) ls).fs:=by rw[cj,HB.o.bd.len];simp
    rw[hend]at hb3 hb4;refine FQ wr _ _ _ (ba Hm (aR (aj ls) ls).fs vs) (by omega) (by omega) HB.o.bd.maps ?_;rw[h1,hl];exact HB.o.bd.rows
   have p0:=HB.o.bd.blk.c0;have p1:=HB.o.bd.blk.c1;rw[hend];clear hend HB Yx HST nu NU BU HMO LK ZE hb1 hb2 hb3 hb4 hb5 HOI PH;generalize aR (aj ls) ls=b at *;go_wp2_with fail;refine HSO.o.mono ?_;rintro e w5 ⟨rfl,ms',rs',hp1,hp2,hp3,Cf,hs1,hs2,hm5⟩;obtain⟨QX,hR5,hfin⟩:=AJ.o w5 ms' rs' hp3 hp1 hp2 Cf hs1 hs2 hm5;have HFI:=aq hfin;have b0:=QX.cell 0;have b1:=QX.cell 1;have r0:=hR5.cell 0;have r1:=hR5.cell 1;have rf:=hR5.frozen;have NT:ah (au ((w5.setCell ⟨R,0,eL⟩ (eS oM (eJ b.ms) cM)).setCell ⟨R,1,eL⟩ (eS oF (eJ b.fs) cF)) R #[eS oM (eJ b.ms) cM,eS oF (eJ b.fs) cF] 90):=(hR5.set 0 _).set 1 _;have xW:ah (aa (Only R) w5 ((w5.setCell ⟨R,0,eL⟩ (eS oM (eJ b.ms) cM)).setCell ⟨R,1,eL⟩ (eS oF (eJ b.fs) cF))):=(ax.bA _ _).bA _ _;clear hp1 hp2 hp3 Cf hs1 hs2 hm5 hfin AJ HSO QX hR5;go_wp2_with fail;exact kx (results_cell_row results45 _ _ R 90 #[eS oM (eJ b.ms) cM,eS oF (eJ b.fs) cF] (0,0) _ rfl NT.o underlying90 rfl (by kernel_rfl)) rfl (HFI.o _ xW.o)
