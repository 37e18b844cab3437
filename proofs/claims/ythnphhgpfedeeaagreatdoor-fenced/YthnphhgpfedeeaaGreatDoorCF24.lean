import Derived.Test.YthnphhgpfedeeaaGreatDoorCF23
namespace Go.Proofs.YthnphhgpfedeeaaGreatDoor
open Go.RowKit Tryz
open Bool renaming false_and->al,false_eq_true->an
open List renaming getElem_mem->ab
open Nat renaming le_refl->ao
set_option linter.all false
set_option maxRecDepth 100000
set_option maxHeartbeats 2000000
theorem Ti(x:di)(op:Value)(p:PK):PK.right {x with op:=op} p=PK.right x p:=rfl
theorem Tj(o:dY)(x:di)(op:Value):o.needs {x with op:=op}=o.needs x:=by unfold dY.needs;have:(PK.right {x with op:=op})=PK.right x:=funext (Ti x op);rw[this];rfl
theorem GP(o:dY)(x:PI)(bs:List Nat):o.needs (x.ins bs)=o.needs (x.ins []):=Tj o (x.ins []) _
def ZE(cs:tAV):Prop:=∃(p:Option Addr) (d s j n h:Int) (l m:tBA),cs=#[.pointer p,.int .u8 d,.int .u8 s,.int .i16 j,.int .i32 n,.int .i32 h,.string l,.string m]
def lZ(w:tW)(bs:List Nat)(l:tLB)(e:Ending)(w':tW):Prop:=∃cs,e=.returned (.tuple #[.agg cs,.bool (jf l).isSome])/\(∀x,jf l=some x->cs=(x.ins bs).cells)/\ZE cs/\aa ae w w'
theorem agf(l:tLB)(h:l.length<8):jf l=none:=by unfold jf;rw[iP9 h]
theorem A7(l:tLB)(h:¬l.length<8)(hc:kX (at' l 0)=none):jf l=none:=by unfold jf;rw[iN9 h,hc]
theorem A8(l:tLB)(h:¬l.length<8)(k:Nat)(hc:kX (at' l 0)=some k)(hs:l.length<(aq[k]?.getD iK).slots*8):jf l=none:=by unfold jf;rw[iN9 h,hc];simp only;rw[iP9 hs]
theorem Kc:∀o∈aq,o.code<256:=by decide +kernel
theorem zm:∀o∈aq,o.slots=1\/o.slots=2:=by decide +kernel
theorem Dt(c k:Nat)(h:kX c=some k):k<88:=by have:=List.findIdx?_eq_some_iff_getElem.1 h;have h2:=this.1;rw[dZ]at h2;exact h2
theorem ab2(a:Nat)(ha:a<256):bits .and .u8 (a:Int) 15=((a%16:Nat):Int):=by have h:=(bits_nat .u8 8 (by decide) (λn h0 h1=>by rw[IntKind.wrap_u8];omega) a 15 ha (by decide)).1;have e:a &&& 15=a%16:=Nat.and_two_pow_sub_one_eq_mod a 4;rw[e]at h;exact h
theorem Ke(a b:Nat)(ha:a<256)(hb:b<256):IntKind.i16.wrap ((a:Int)+(b:Int)*256)=ep (a+256*b):=by unfold ep IntKind.wrap;simp[IntKind.bits,IntKind.signed];split<;>omega
theorem CG(w:tW)(m:Nat)(a:Addr)(v:Value):(w.drewN m).setCell a v=(w.setCell a v).drewN m:=rfl
theorem Kf(w:tW)(g:Nat)(hg:g=w.heap.size){t:TypeId}{z0 z1 z2 z3 z4 z5 z6 z7 a0 a1 a2 a3 a4 a5 a6 a7:Value}:(((((((((w.alloc (.cells #[z0,z1,z2,z3,z4,z5,z6,z7] t)).setCell ⟨g,0,none⟩ a0).setCell ⟨g,1,none⟩ a1).setCell ⟨g,2,none⟩ a2).setCell ⟨g,3,none⟩ a3).setCell ⟨g,4,none⟩ a4).setCell ⟨g,5,none⟩ a5).setCell ⟨g,6,none⟩ a6).setCell ⟨g,7,none⟩ a7)=w.alloc (.cells #[a0,a1,a2,a3,a4,a5,a6,a7] t):=by subst hg;simp[go_sem]
abbrev Z8:tAV:=#[.pointer none,.int .u8 0,.int .u8 0,.int .i16 0,.int .i32 0,.int .i32 0,.string ⟨#[]⟩,.string ⟨#[]⟩]
theorem lZ.no{w w':tW}{bs:List Nat}{l:tLB}{cs:tAV}(h:jf l=none)(m:aa ae w w')(h8:ZE cs):lZ w bs l (.returned (.tuple #[.agg cs,.bool false])) w' :=
 ⟨cs,by rw[h];rfl,λx hx=>(by rw[h]at hx;cases hx),h8,m⟩
theorem A9(l:tLB)(h:¬l.length<8)(k:Nat)(hc:kX (at' l 0)=some k)(hs:¬l.length<(aq[k]?.getD iK).slots*8):jf l = if 1<(aq[k]?.getD iK).slots/\(l.drop 8).take 4≠[0,0,0,0]then none else if(aq[k]?.getD iK).needs (PI.ins [] ⟨k,at' l 1%16,at' l 1/16,ep (at' l 2+256*at' l 3),bA (l.drop 4),if 1<(aq[k]?.getD iK).slots then bA (l.drop 12)else 0,[]⟩)then some ⟨k,at' l 1%16,at' l 1/16,ep (at' l 2+256*at' l 3),bA (l.drop 4),if 1<(aq[k]?.getD iK).slots then bA (l.drop 12)else 0,[]⟩else none:=by unfold jf;rw[iN9 h,hc];simp only;rw[iN9 hs]
theorem GQ(l:tLB)(bs:List Nat)(k:Nat)(h:Int)(hh:-2147483648<=h/\h<=2147483647):di.Fit (PI.ins bs ⟨k,at' l 1%16,at' l 1/16,ep (at' l 2+256*at' l 3),bA (l.drop 4),h,[]⟩):=by have h1:=uL l 1;have h2:=uL l 2;have h3:=uL l 3;have hj:=GL (at' l 2+256*at' l 3) (by omega);have hn:=xB (l.drop 4);exact⟨by simp only[PI.ins];omega,by simp only[PI.ins];omega,hj.1,hj.2,hn.1,hn.2,hh.1,hh.2,by simp[PI.ins],by show(T []).size<=300;decide⟩
theorem Tk(w:tW)(v:Value)(bs:List Nat)(hO:aH 0 w v bs aq)(l:tLB)(hl:l.length<=maxLen):Calls prog 266 #[v,.string (T l)] w λe w'=>lZ w bs l e w':=by
 have hs:(T l).size=l.length:=bG l;have hl':=hl;unfold maxLen at hl;by_cases h8:l.length<8
 ·have HF:af (jf l=none):=agf l h8;go_enter func266,ntmps266;go_wp2_with fail;exact bodyPost_ret (aw results266 _ _ w.heap.size 138 _ (0,0) _ _ rfl rfl (ak.new _ _ _) underlying138 rfl (by kernel_rfl)) rfl (lZ.no HF.o aj ⟨_,_,_,_,_,_,_,_,rfl⟩)
 have p0:0<(T l).size:=by omega
 have p1:1<(T l).size:=by omega
 have p2:2<(T l).size:=by omega
 have p3:3<(T l).size:=by omega
 have e0:=zk (T l) 0 p0;have e1:=zk (T l) 1 p1;have e2:=zk (T l) 2 p2;have e3:=zk (T l) 3 p3;rw[show BL (T l)=l from rfl]at e0 e1 e2 e3;have hBy:af (∀W,aH 0 W v bs aq->Calls prog 322 #[v,.int .u8 ((T l)[0].toNat:Nat)] W λe w'=>e=.returned (codeV bs (kX (at' l 0)))/\w'=W):=λW h=>by rw[e0];exact Ka W v bs aq _ h (by rw[dZ];decide) Kc
 have i1:(1:Int)<(l.length:Int):=by omega
 have i2:(2:Int)<(l.length:Int):=by omega
 have i3:(3:Int)<(l.length:Int):=by omega
 have ZF:af (aH 0 (w.alloc (.cells Z8 138)) v bs aq):=hO.ag aj;have hZ:=ak.new w Z8 138;obtain⟨o0,cap,hv,_⟩:=hO.sl.view;subst hv;cases hc:kX (at' l 0)with
 |none =>have HF:af (jf l=none):=A7 l h8 hc;rw[hc]at hBy;go_enter func266,ntmps266;go_wp2_with fail;refine(hBy.o _ ZF.o).mono ?_;rintro e w1 ⟨rfl,rfl⟩;simp only[codeV];go_wp2_with fail;exact bodyPost_ret (aw results266 _ _ w.heap.size 138 _ (0,0) _ _ rfl rfl (ak.new _ _ _) underlying138 rfl (by kernel_rfl)) rfl (lZ.no HF.o aj ⟨_,_,_,_,_,_,_,_,rfl⟩)
 |some k =>
  rw[hc]at hBy;have ad4:=Dt _ _ hc;have hkt:k<aq.length:=by rw[dZ];exact ad4
  have hkb:k<bs.length:=by rw[hO.len];exact hkt
  have HG:af (aq[k]?.getD iK=aq[k]):=by simp[af,hkt]
  have zP:af (bs[k]?.getD 0=bs[k]):=by simp[af,hkb]
  have hsl:=zm aq[k] (ab hkt);have hAt:=hO.at' k hkb hkt;have hAt1:=hAt.ag (ax.alloc (.cells Z8 138));obtain⟨o1,n1,c1,f6,c6,k7,c7,k8,c8,f9,c9,hblk,EO⟩:=hAt.ex;have hb1:=hblk.ag ((aa.refl ae w).alloc (.cells Z8 138)) id;have z2:(w.alloc (.cells Z8 138)).cell? ⟨bs[k],2,none⟩=some (.int .i64 aq[k].slots):=hb1.cell 2;have Xp:=ai EO;have HB:=ai hblk;clear hblk EO hb1 hAt hAt1;by_cases hless:l.length<aq[k].slots*8
  ·have HF:af (jf l=none):=A8 l h8 k hc (by rw[HG.o];exact hless);generalize aq[k].slots=sn at *;have hq:((l.length:Int)<(sn:Int)*8):=by omega
   go_enter func266,ntmps266;go_wp2_with fail;refine(hBy.o _ ZF.o).mono ?_;rintro e w1 ⟨rfl,rfl⟩;simp only[codeV,zP.o,fF];go_wp2_with fail;exact bodyPost_ret (aw results266 _ _ w.heap.size 138 _ (0,0) _ _ rfl rfl (ak.new _ _ _) underlying138 rfl (by kernel_rfl)) rfl (lZ.no HF.o aj ⟨_,_,_,_,_,_,_,_,rfl⟩)
  have HM:=A9 l h8 k hc (by rw[HG.o];exact hless);rw[HG.o]at HM;have ZG:af _:=HM;clear HM;have l1:=((T l)[1]).toNat_lt;have l2:=((T l)[2]).toNat_lt;have l3:=((T l)[3]).toNat_lt;have hand:=ab2 (T l)[1].toNat l1;have w2':IntKind.u16.wrap ((T l)[2].toNat:Int)=(T l)[2].toNat:=by rw[IntKind.wrap_u16];omega
  have w3':IntKind.u16.wrap ((T l)[3].toNat:Int)=(T l)[3].toNat:=by rw[IntKind.wrap_u16];omega
  have v3':IntKind.u16.wrap ((((T l)[3]).toNat:Int)*256)=((T l)[3].toNat:Int)*256:=by rw[IntKind.wrap_u16];omega
  have o16:=ab1 (T l)[2].toNat (T l)[3].toNat l2 l3;have s16:=Ke (T l)[2].toNat (T l)[3].toNat l2 l3;have x4:(T l).extract 4 l.length=T (l.drop 4):=by have:=lT l 4;rw[hs]at this;exact this
  have ab3:af (∀W,Calls prog 323 #[.string (T (l.drop 4))] W λe w'=>e=.returned (.int .i32 (bA (l.drop 4)))/\∃n,w'=W.drewN n):=λW=>Dr (T (l.drop 4)) W (by rw[bG];simp;omega) (by rw[bG];simp;unfold maxLen;omega);have hq:¬((l.length:Int)<(aq[k].slots:Int)*8):=by omega
  have i4:(4:Int)<=(l.length:Int):=by omega
  go_enter func266,ntmps266;go_wp2_with fail;refine(hBy.o _ ZF.o).mono ?_;rintro e w1 ⟨rfl,rfl⟩;simp only[codeV,zP.o,fF];go_upto_region 6 with fail;go_cut [7] (λp wx=>∃g,p=.pointer (some ⟨g,0,none⟩)/\w.heap.size<g/\ak wx g #[.pointer (some ⟨bs[k],0,none⟩),.int .u8 (((T l)[1].toNat:Int)%16),.int .u8 (((T l)[1].toNat:Int)/16),.int .i16 0,.int .i32 (bA (l.drop 4)),.int .i32 0,.string ⟨#[]⟩,.string ⟨#[]⟩] 138/\aa ae (w.alloc (.cells Z8 138)) wx)
  case first =>
   have aeX:af (∀args w,(callFunc 323 args).run prog w=.ok (.enter 323 args) w):=enters_of func323 (by kernel_rfl) rfl
   have hZ3:ak ((w.alloc (.cells Z8 138)).alloc (.cells #[.pointer (some ⟨bs[k],0,none⟩),.int .u8 (((T l)[1].toNat:Int)%16),.int .u8 (((T l)[1].toNat:Int)/16),.int .i16 0,.int .i32 (bA (l.drop 4)),.int .i32 0,.string ⟨#[]⟩,.string ⟨#[]⟩] 138)) (w.heap.size+1) #[.pointer (some ⟨bs[k],0,none⟩),.int .u8 (((T l)[1].toNat:Int)%16),.int .u8 (((T l)[1].toNat:Int)/16),.int .i16 0,.int .i32 (bA (l.drop 4)),.int .i32 0,.string ⟨#[]⟩,.string ⟨#[]⟩] 138:=by
    have:=ak.new (w.alloc (.cells Z8 138)) #[.pointer (some ⟨bs[k],0,none⟩),.int .u8 (((T l)[1].toNat:Int)%16),.int .u8 (((T l)[1].toNat:Int)/16),.int .i16 0,.int .i32 (bA (l.drop 4)),.int .i32 0,.string ⟨#[]⟩,.string ⟨#[]⟩] 138
    simpa using this
   have hM3:aa ae (w.alloc (.cells Z8 138)) ((w.alloc (.cells Z8 138)).alloc (.cells #[.pointer (some ⟨bs[k],0,none⟩),.int .u8 (((T l)[1].toNat:Int)%16),.int .u8 (((T l)[1].toNat:Int)/16),.int .i16 0,.int .i32 (bA (l.drop 4)),.int .i32 0,.string ⟨#[]⟩,.string ⟨#[]⟩] 138)):=aj
   refine jl [.inl (.pointer (some ⟨bs[k],0,none⟩)),.inl (.string (T l)),.inl (.int .u8 (T l)[1].toNat),.inl (.int .u8 (((T l)[1].toNat:Int)%16)),.inl (.string (T l)),.inl (.int .u8 (T l)[1].toNat),.inl (.int .u8 (((T l)[1].toNat:Int)/16)),.inl (.string (T l)),.inl (.string (T (l.drop 4))),.inl (.int .i32 (bA (l.drop 4))),.inl (.agg #[.pointer (some ⟨bs[k],0,none⟩),.int .u8 (((T l)[1].toNat:Int)%16),.int .u8 (((T l)[1].toNat:Int)/16),.int .i16 0,.int .i32 (bA (l.drop 4)),.int .i32 0,.string ⟨#[]⟩,.string ⟨#[]⟩]),.inr (λL u _=>L 11=true/\u=.pointer (some ⟨w.heap.size+1,0,none⟩)),.inl undef]
    (λL w'=>∃m,w'=(if L 12 then(w.alloc (.cells Z8 138)).alloc (.cells #[.pointer (some ⟨bs[k],0,none⟩),.int .u8 (((T l)[1].toNat:Int)%16),.int .u8 (((T l)[1].toNat:Int)/16),.int .i16 0,.int .i32 (bA (l.drop 4)),.int .i32 0,.string ⟨#[]⟩,.string ⟨#[]⟩] 138)else if L 11 then(w.alloc (.cells Z8 138)).alloc (.cells Z8 138)else w.alloc (.cells Z8 138)).drewN m)
    (λi w1 w2=>(i≠11->i≠12->∃m,w2=w1.drewN m)/\(i=11->∃m,w2=((w.alloc (.cells Z8 138)).alloc (.cells Z8 138)).drewN m)/\(i=12->∃m,w2=((w.alloc (.cells Z8 138)).alloc (.cells #[.pointer (some ⟨bs[k],0,none⟩),.int .u8 (((T l)[1].toNat:Int)%16),.int .u8 (((T l)[1].toNat:Int)/16),.int .i16 0,.int .i32 (bA (l.drop 4)),.int .i32 0,.string ⟨#[]⟩,.string ⟨#[]⟩] 138)).drewN m))
    (by kernel_rfl) (by kernel_rfl) (by kernel_rfl) ⟨1,rfl⟩ ?_ ?_ (.inl (by kernel_rfl)) ?_
   ·intro jj s hs i L v w1 w2 hn hj n hr;refine jD (N:=λ_ _ _=>True) (show pR _ _ _ 0 _ from ?_) jj s hs i L v w1 w2 hn (by rw[Nat.zero_add];exact hj) trivial hr;exact⟨λi L u w1 w2 hn hk n h=>⟨by simp[gK,h.1],h.2⟩,trivial⟩
   ·rintro i L w1 w2 hn ⟨m,rfl⟩ ⟨n1,n2,n3⟩;by_cases e1:i=11
    ·subst e1;obtain⟨m',rfl⟩:=n2 rfl;have:=hn.2 12 _ rfl (by decide);exact⟨m',by simp[gK,this]⟩
    by_cases e2:i=12
    ·subst e2;obtain⟨m',rfl⟩:=n3 rfl;exact⟨m',by simp[gK]⟩
    obtain⟨m',rfl⟩:=n1 e1 e2;exact⟨m+m',by simp only[gK,iN9 (Ne.symm e1),iN9 (Ne.symm e2)];exact World.drewN_drewN ..⟩
   iterate 9 (refine bS rfl (λL w' hN hC _ K hK=>?_) ?_;(· go_big_op;exact hK _ _ _ rfl ⟨λ_ _=>⟨0,rfl⟩,(λh=>by cases h),(λh=>by cases h)⟩ rfl);simp only[Act.put,sA9,sB9,sC9])
   refine bS rfl (λL w' hN hC _ K hK=>?_) ?_
   ·go_big_op;refine(ab3.o _).mono ?_;rintro e w3 ⟨rfl,n3,rfl⟩;exact hK _ _ _ rfl ⟨λ_ _=>⟨n3,rfl⟩,(λh=>by cases h),(λh=>by cases h)⟩ rfl
   simp only[Act.put,sA9,sB9,sC9];refine bS rfl (λL w' hN hC _ K hK=>?_) ?_
   ·go_big_op;exact hK _ _ _ rfl ⟨λ_ _=>⟨0,rfl⟩,(λh=>by cases h),(λh=>by cases h)⟩ rfl
   simp only[Act.put,sA9,sB9,sC9];refine lK rfl (λL w' hN hC _ K hK=>?_) (λx=>?_)
   ·obtain⟨m,rfl⟩:=hC;have h1:=hN.1;have h2:=hN.2 12 _ rfl (by decide);simp only[h1,h2,an,if_false]at *;go_big_op;exact hK _ _ _ rfl ⟨λh=>absurd rfl h,(λ_=>⟨m,rfl⟩),(λh=>by cases h)⟩ ⟨by simp[gK],rfl⟩
   simp only[Act.put,sA9,sB9,sC9];refine bS rfl (λL w' hN hC hk K hK=>?_) ?_
   ·obtain⟨h1,rfl⟩:L 11=true/\x=.pointer (some ⟨w.heap.size+1,0,none⟩):=lL hk 11 (by decide);obtain⟨m,rfl⟩:=hC;have h2:=hN.1;simp only[h1,h2,an,if_false,if_true]at *;go_big_op;exact hK _ _ _ rfl ⟨λ_ h=>absurd rfl h,(λh=>by cases h),λ_=>⟨m,by simp only[CG];rw[Kf (w.alloc (.cells Z8 138)) _ (by simp)]⟩⟩ rfl
   refine wI (λL w' hL hC hA=>?_);obtain⟨_,rfl⟩:L 11=true/\x=.pointer (some ⟨w.heap.size+1,0,none⟩):=wJ hA 11;obtain⟨m,rfl⟩:=hC;simp only[hL 12 (by decide),if_true,Act.put];clear hA hL;go_wp2_with fail;go_meet;exact⟨w.heap.size+1,rfl,by omega,hZ3.drewN m,hM3.drewN m⟩
  case rest =>
  obtain⟨g,rfl,hgl,hBg,hMg⟩:=hcut;have hOg:ak wc bs[k] _ 146:=(HB.o.alloc _).ag hMg id;have hZg:ak wc w.heap.size Z8 138:=hZ.ag hMg id;have hne:bs[k]≠g:=by intro e;unfold ak at hOg hBg;rw[e,hBg]at hOg;cases hOg
  have aeY:=hsl;have HMw:af (aa ae w wc):=aj.trans hMg;have y2:wc.cell? ⟨bs[k],2,none⟩=some (.int .i64 aq[k].slots):=hOg.cell 2;have HOg:=ai hOg;have HZg:=ai hZg;have HBg:=ai hBg;have HMg:af _:=hMg;have g3:=hBg.cell 3;have fg3:=hBg.frozen 3;simp at g3;clear hZg hBg hMg hOg z2;go_upto_region 7 with fail;have ne1:=Ext.ne (Only g) wc;refine bE [10] (λw'=>∃e:Ext (Only g) wc,w'=e.w) (by kernel_rfl) (by kernel_rfl) (by kernel_rfl) ⟨⟨_,aJ⟩,rfl⟩ ?_
  iterate 10 (refine aA rfl rfl rfl ?_;intro K hK;go_big_quiet_op;go_big_quiet_on)
  refine aF rfl rfl ?_;intro K hK;go_big_op;refine hK _ _ rfl ⟨⟨_,aJ.aY 3 _⟩,rfl⟩ ?_;clear hK K;refine bX ?_;simp only[Exit.then];have Du:af (ak (wc.setCell ⟨g,3,none⟩ (.int .i16 (ep ((T l)[2].toNat+256*(T l)[3].toNat)))).drew g #[.pointer (some ⟨bs[k],0,none⟩),.int .u8 (((T l)[1].toNat:Int)%16),.int .u8 (((T l)[1].toNat:Int)/16),.int .i16 (ep ((T l)[2].toNat+256*(T l)[3].toNat)),.int .i32 (bA (l.drop 4)),.int .i32 (0),.string ⟨#[]⟩,.string ⟨#[]⟩] 138):=(HBg.o.set 3 _).drew;have HOW:af (ak (wc.setCell ⟨g,3,none⟩ (.int .i16 (ep ((T l)[2].toNat+256*(T l)[3].toNat)))).drew bs[k] #[.int .u8 aq[k].code,.slice o1 n1 c1,.int .i64 aq[k].slots,.bool aq[k].jumps,.bool aq[k].ends,.int .i64 aq[k].aO,.func f6 #[] c6,.func (.func k7) #[] c7,.func (.func k8) #[] c8,.func f9 #[] c9] 146):=(HOg.o.setOther (a:=⟨g,3,none⟩) (λe=>hne e.symm) _).drew;have HZW:af (ak (wc.setCell ⟨g,3,none⟩ (.int .i16 (ep ((T l)[2].toNat+256*(T l)[3].toNat)))).drew w.heap.size Z8 138):=(HZg.o.setOther (a:=⟨g,3,none⟩) (show g≠w.heap.size by omega) _).drew;have Pc:af (aa ae w (wc.setCell ⟨g,3,none⟩ (.int .i16 (ep ((T l)[2].toNat+256*(T l)[3].toNat)))).drew):=(HMw.o.set (a:=⟨g,3,none⟩) (.inr (show w.heap.size<=g by omega)) _).drew;have Jn:af (g≠w.heap.size):=by show g≠w.heap.size;omega
  have VV:af (bs[k]≠w.heap.size):=by intro e;have:=HB.o.lt;omega
  generalize(wc.setCell ⟨g,3,none⟩ (.int .i16 (ep ((T l)[2].toNat+256*(T l)[3].toNat)))).drew=W at *;clear HBg HOg HZg HMg HMw ne1 g3 fg3 y2;have y2:W.cell? ⟨bs[k],2,none⟩=some (.int .i64 aq[k].slots):=HOW.o.cell 2;rcases hsl with h1|h1
  ·rw[h1]at y2;have Rq:af _:=ZG.o;rw[h1]at Rq;simp only[show ¬(1<1) by decide,false_and,if_false]at Rq;go_upto_region 13 with fail;have HX:af ((PI.ins bs ⟨k,at' l 1%16,at' l 1/16,ep (at' l 2+256*at' l 3),bA (l.drop 4),0,[]⟩).cells=#[.pointer (some ⟨bs[k],0,none⟩),.int .u8 (((T l)[1].toNat:Int)%16),.int .u8 (((T l)[1].toNat:Int)/16),.int .i16 (ep ((T l)[2].toNat+256*(T l)[3].toNat)),.int .i32 (bA (l.drop 4)),.int .i32 (0),.string ⟨#[]⟩,.string ⟨#[]⟩]):=by rw[af,e1,e2,e3];simp only[di.cells,PI.ins,zP.o];rfl
   have aaq:af (di.Fit (PI.ins bs ⟨k,at' l 1%16,at' l 1/16,ep (at' l 2+256*at' l 3),bA (l.drop 4),0,[]⟩)):=GQ l bs k _ (by decide);have Tm:af (∀W,aa ae w W->Calls prog k8 (#[.agg #[.pointer (some ⟨bs[k],0,none⟩),.int .u8 (((T l)[1].toNat:Int)%16),.int .u8 (((T l)[1].toNat:Int)/16),.int .i16 (ep ((T l)[2].toNat+256*(T l)[3].toNat)),.int .i32 (bA (l.drop 4)),.int .i32 (0),.string ⟨#[]⟩,.string ⟨#[]⟩]]++c8) W λe w''=>e=.returned (.bool (aq[k].needs (PI.ins [] ⟨k,at' l 1%16,at' l 1/16,ep (at' l 2+256*at' l 3),bA (l.drop 4),0,[]⟩)))/\aa ae W w''):=λW m=>by have h:=Xp.o.nd W _ m.kp aaq.o;rw[HX.o,GP]at h;exact h
   have HFin:=ai Rq.o;generalize aq[k].needs (PI.ins [] ⟨k,at' l 1%16,at' l 1/16,ep (at' l 2+256*at' l 3),bA (l.drop 4),0,[]⟩)=nb at *;have hen:=Xp.o.e8;unfold pE at hen;obtain⟨d0,d1,d2,d3,d4,d5,d6,d7⟩:=Ext.iV Du.o (S:=Only w.heap.size) (λe=>Jn.o e);have d8:∀e:Ext (Only w.heap.size) W,e.w.cell? ⟨bs[k],8,none⟩=some (.func (.func k8) #[] c8):=λe=>e.cell HOW.o (λe=>VV.o e) 8;have ne2:=Ext.ne (Only w.heap.size) W;refine bE [6,7] (λw'=>∃e:Ext (Only w.heap.size) W,w'=e.w) (by kernel_rfl) (by kernel_rfl) (by kernel_rfl) ⟨⟨_,aJ⟩,rfl⟩ ?_
   iterate 2 (refine aA rfl rfl rfl ?_;intro K hK;go_big_quiet_op;go_big_quiet_on)
   refine bV rfl rfl _ ⟨bs[k],0,none⟩ rfl rfl ?_;simp only[Act.put,sA9,sB9,sC9]
   iterate 3 (refine aA rfl rfl rfl ?_;intro K hK;go_big_quiet_op;go_big_quiet_on)
   refine aF rfl rfl ?_;intro K hK;go_big_op;refine(Tm.o _ (Pc.o.trans aJ)).mono ?_;rintro e w8 ⟨rfl,m8⟩;have Xq:=(HZW.o.drew).ag m8 id;have HZ8:=ai Xq;have M8:af (aa ae w w8):=(Pc.o.trans aJ).trans m8;refine hK _ _ rfl ⟨⟨_,aJ.trans (m8.mono (λ_ _ h=>h.elim))⟩,rfl⟩ ?_;have X8:af (aa (Only w.heap.size) W w8):=aJ.trans (m8.mono (λ_ _ h=>h.elim));clear hK K m8;obtain⟨t0,t1,t2,t3,t4,t5,t6,t7⟩:=Xq.iV;have ft:=Xq.frozen;clear Xq;refine aF rfl rfl ?_;intro K hK;go_big_op;refine hK _ _ rfl ⟨⟨_,X8.o.rH (.inl rfl) _ _ _ _ _ _ _ _⟩,rfl⟩ ?_;clear hK K
   iterate 1 (refine aA rfl rfl rfl ?_;intro K hK;go_big_quiet_op;go_big_quiet_on)
   refine bX ?_;simp only[Exit.then];go_wp2_with fail;refine bodyPost_ret (aw results266 _ _ w.heap.size 138 _ (0,0) _ _ rfl rfl (HZ8.o.rH _ _ _ _ _ _ _ _) underlying138 rfl (by kernel_rfl)) rfl ⟨#[.pointer (some ⟨bs[k],0,none⟩),.int .u8 (((T l)[1].toNat:Int)%16),.int .u8 (((T l)[1].toNat:Int)/16),.int .i16 (ep ((T l)[2].toNat+256*(T l)[3].toNat)),.int .i32 (bA (l.drop 4)),.int .i32 (0),.string ⟨#[]⟩,.string ⟨#[]⟩],?_,?_,⟨_,_,_,_,_,_,_,_,rfl⟩,M8.o.rH (.inr (ao _)) _ _ _ _ _ _ _ _⟩
   ·rw[HFin.o];cases nb<;>rfl
   ·intro x hx;rw[HFin.o]at hx;cases nb with
    |false=>cases hx
    |true=>cases hx;exact HX.o.symm
  ·rw[h1]at y2;have Rq:af _:=ZG.o;rw[h1]at Rq;have aeZ:16<=l.length:=by rw[h1]at hless;omega
   have i8:(8:Int)<=(l.length:Int):=by omega
   have x8:(T l).extract 8 l.length=T (l.drop 8):=by have:=lT l 8;rw[hs]at this;exact this
   have s8:(T (l.drop 8)).size=l.length-8:=by rw[bG];simp
   have x9:(T (l.drop 8)).extract 0 4=T ((l.drop 8).take 4):=yq _ _;have x12:(T (l.drop 8)).extract 4 (T (l.drop 8)).size=T (l.drop 12):=by rw[lT,List.drop_drop]
   have i9:(4:Int)<=((l.length-8:Nat):Int):=by omega
   have i10:4<=l.length-8:=by omega
   by_cases hz:(l.drop 8).take 4=[0,0,0,0]
   ·simp only[show 1<2 by decide,hz,true_and,ne_eq,not_true_eq_false,if_false,if_true]at Rq;have q9:=yn (a:=T ((l.drop 8).take 4)) (l:=[0,0,0,0]) (by rw[hz]);generalize T ((l.drop 8).take 4)=t4 at *;have ad5:af (∀W,Calls prog 323 #[.string (T (l.drop 12))] W λe w'=>e=.returned (.int .i32 (bA (l.drop 12)))/\∃n,w'=W.drewN n):=λW=>Dr (T (l.drop 12)) W (by rw[bG];simp;omega) (by rw[bG];simp;unfold maxLen;omega);rw[s8]at x12;have g5:=Du.o.cell 5;have fg5:=Du.o.frozen 5;simp at g5;go_wp2_with fail;refine(ad5.o _).mono ?_;rintro e w3 ⟨rfl,n3,rfl⟩;have ad6:af (ak ((W.drewN n3).setCell ⟨g,5,none⟩ (.int .i32 (bA (l.drop 12)))) g #[.pointer (some ⟨bs[k],0,none⟩),.int .u8 (((T l)[1].toNat:Int)%16),.int .u8 (((T l)[1].toNat:Int)/16),.int .i16 (ep ((T l)[2].toNat+256*(T l)[3].toNat)),.int .i32 (bA (l.drop 4)),.int .i32 (bA (l.drop 12)),.string ⟨#[]⟩,.string ⟨#[]⟩] 138):=(Du.o.drewN n3).set 5 _;have ad7:af (ak ((W.drewN n3).setCell ⟨g,5,none⟩ (.int .i32 (bA (l.drop 12)))) bs[k] #[.int .u8 aq[k].code,.slice o1 n1 c1,.int .i64 aq[k].slots,.bool aq[k].jumps,.bool aq[k].ends,.int .i64 aq[k].aO,.func f6 #[] c6,.func (.func k7) #[] c7,.func (.func k8) #[] c8,.func f9 #[] c9] 146):=(HOW.o.drewN n3).setOther (a:=⟨g,5,none⟩) (λe=>hne e.symm) _;have ad8:af (ak ((W.drewN n3).setCell ⟨g,5,none⟩ (.int .i32 (bA (l.drop 12)))) w.heap.size Z8 138):=(HZW.o.drewN n3).setOther (a:=⟨g,5,none⟩) Jn.o _;have ab4:af (aa ae w ((W.drewN n3).setCell ⟨g,5,none⟩ (.int .i32 (bA (l.drop 12))))):=(Pc.o.drewN n3).set (a:=⟨g,5,none⟩) (.inr (show w.heap.size<=g by omega)) _;go_upto_region 13 with fail;clear g5 fg5 y2;generalize((W.drewN n3).setCell ⟨g,5,none⟩ (.int .i32 (bA (l.drop 12))))=W2 at *;have HX:af ((PI.ins bs ⟨k,at' l 1%16,at' l 1/16,ep (at' l 2+256*at' l 3),bA (l.drop 4),bA (l.drop 12),[]⟩).cells=#[.pointer (some ⟨bs[k],0,none⟩),.int .u8 (((T l)[1].toNat:Int)%16),.int .u8 (((T l)[1].toNat:Int)/16),.int .i16 (ep ((T l)[2].toNat+256*(T l)[3].toNat)),.int .i32 (bA (l.drop 4)),.int .i32 (bA (l.drop 12)),.string ⟨#[]⟩,.string ⟨#[]⟩]):=by rw[af,e1,e2,e3];simp only[di.cells,PI.ins,zP.o];rfl
    have aaq:af (di.Fit (PI.ins bs ⟨k,at' l 1%16,at' l 1/16,ep (at' l 2+256*at' l 3),bA (l.drop 4),bA (l.drop 12),[]⟩)):=GQ l bs k _ (xB _);have Tm:af (∀W,aa ae w W->Calls prog k8 (#[.agg #[.pointer (some ⟨bs[k],0,none⟩),.int .u8 (((T l)[1].toNat:Int)%16),.int .u8 (((T l)[1].toNat:Int)/16),.int .i16 (ep ((T l)[2].toNat+256*(T l)[3].toNat)),.int .i32 (bA (l.drop 4)),.int .i32 (bA (l.drop 12)),.string ⟨#[]⟩,.string ⟨#[]⟩]]++c8) W λe w''=>e=.returned (.bool (aq[k].needs (PI.ins [] ⟨k,at' l 1%16,at' l 1/16,ep (at' l 2+256*at' l 3),bA (l.drop 4),bA (l.drop 12),[]⟩)))/\aa ae W w''):=λW m=>by have h:=Xp.o.nd W _ m.kp aaq.o;rw[HX.o,GP]at h;exact h
    have HFin:=ai Rq.o;generalize aq[k].needs (PI.ins [] ⟨k,at' l 1%16,at' l 1/16,ep (at' l 2+256*at' l 3),bA (l.drop 4),bA (l.drop 12),[]⟩)=nb at *;have hen:=Xp.o.e8;unfold pE at hen;obtain⟨d0,d1,d2,d3,d4,d5,d6,d7⟩:=Ext.iV ad6.o (S:=Only w.heap.size) (λe=>Jn.o e);have d8:∀e:Ext (Only w.heap.size) W2,e.w.cell? ⟨bs[k],8,none⟩=some (.func (.func k8) #[] c8):=λe=>e.cell ad7.o (λe=>VV.o e) 8;have ne2:=Ext.ne (Only w.heap.size) W2;refine bE [6,7] (λw'=>∃e:Ext (Only w.heap.size) W2,w'=e.w) (by kernel_rfl) (by kernel_rfl) (by kernel_rfl) ⟨⟨_,aJ⟩,rfl⟩ ?_
    iterate 2 (refine aA rfl rfl rfl ?_;intro K hK;go_big_quiet_op;go_big_quiet_on)
    refine bV rfl rfl _ ⟨bs[k],0,none⟩ rfl rfl ?_;simp only[Act.put,sA9,sB9,sC9]
    iterate 3 (refine aA rfl rfl rfl ?_;intro K hK;go_big_quiet_op;go_big_quiet_on)
    refine aF rfl rfl ?_;intro K hK;go_big_op;refine(Tm.o _ (ab4.o.trans aJ)).mono ?_;rintro e w8 ⟨rfl,m8⟩;have Xq:=(ad8.o.drew).ag m8 id;have HZ8:=ai Xq;have M8:af (aa ae w w8):=(ab4.o.trans aJ).trans m8;refine hK _ _ rfl ⟨⟨_,aJ.trans (m8.mono (λ_ _ h=>h.elim))⟩,rfl⟩ ?_;have X8:af (aa (Only w.heap.size) W2 w8):=aJ.trans (m8.mono (λ_ _ h=>h.elim));clear hK K m8;obtain⟨t0,t1,t2,t3,t4,t5,t6,t7⟩:=Xq.iV;have ft:=Xq.frozen;clear Xq;refine aF rfl rfl ?_;intro K hK;go_big_op;refine hK _ _ rfl ⟨⟨_,X8.o.rH (.inl rfl) _ _ _ _ _ _ _ _⟩,rfl⟩ ?_;clear hK K
    iterate 1 (refine aA rfl rfl rfl ?_;intro K hK;go_big_quiet_op;go_big_quiet_on)
    refine bX ?_;simp only[Exit.then];go_wp2_with fail;refine bodyPost_ret (aw results266 _ _ w.heap.size 138 _ (0,0) _ _ rfl rfl (HZ8.o.rH _ _ _ _ _ _ _ _) underlying138 rfl (by kernel_rfl)) rfl ⟨#[.pointer (some ⟨bs[k],0,none⟩),.int .u8 (((T l)[1].toNat:Int)%16),.int .u8 (((T l)[1].toNat:Int)/16),.int .i16 (ep ((T l)[2].toNat+256*(T l)[3].toNat)),.int .i32 (bA (l.drop 4)),.int .i32 (bA (l.drop 12)),.string ⟨#[]⟩,.string ⟨#[]⟩],?_,?_,⟨_,_,_,_,_,_,_,_,rfl⟩,M8.o.rH (.inr (ao _)) _ _ _ _ _ _ _ _⟩
    ·rw[HFin.o];cases nb<;>rfl
    ·intro x hx;rw[HFin.o]at hx;cases nb with
     |false=>cases hx
     |true=>cases hx;exact HX.o.symm
   ·simp only[show 1<2 by decide,hz,true_and,ne_eq,not_false_eq_true,if_true]at Rq;have q9:=rD (a:=T ((l.drop 8).take 4)) (l:=[0,0,0,0]) (λe=>hz (congrArg BL e));generalize T ((l.drop 8).take 4)=t4 at *;rw[s8]at x12;obtain⟨t0,t1,t2,t3,t4',t5,t6,t7⟩:=HZW.o.iV;have ft:=HZW.o.frozen;go_wp2_with fail;exact bodyPost_ret (aw results266 _ _ w.heap.size 138 _ (0,0) _ _ rfl rfl (HZW.o.rH _ _ _ _ _ _ _ _) underlying138 rfl (by kernel_rfl)) rfl (lZ.no Rq.o (Pc.o.rH (.inr (ao _)) _ _ _ _ _ _ _ _) ⟨_,_,_,_,_,_,_,_,rfl⟩)
theorem bY.cells{w:tW}{b:Nat}{o:dY}(h:bY w b o):w.cell? ⟨b,2,none⟩=some (.int .i64 o.slots)/\w.cell? ⟨b,3,none⟩=some (.bool o.jumps)/\w.cell? ⟨b,4,none⟩=some (.bool o.ends)/\w.cell? ⟨b,5,none⟩=some (.int .i64 o.aO):=by obtain⟨o1,n1,c1,f6,c6,k7,c7,k8,c8,f9,c9,hb,_⟩:=h.ex;exact⟨hb.cell 2,hb.cell 3,hb.cell 4,hb.cell 5⟩
theorem ajV(w:tW)(b n:Nat)(hz:∀w',aa ae w w'->w'.cell? ⟨b,2,none⟩=some (.int .i64 n))(d s num high jump:Int)(label name:tBA)(slot:Nat)(hs:slot<=1000000)(ho:n<=10)(hj:-32768<=jump/\jump<=32767):Calls prog 216 #[.agg #[.pointer (some ⟨b,0,none⟩),.int .u8 d,.int .u8 s,.int .i16 jump,.int .i32 num,.int .i32 high,.string label,.string name],.int .i64 slot] w λe w'=>e=.returned (.int .i64 ((slot:Int)+n+jump))/\aa ae w w':=by have z2:=hz _ (ax.alloc (.cells #[.pointer (some ⟨b,0,none⟩),.int .u8 d,.int .u8 s,.int .i16 jump,.int .i32 num,.int .i32 high,.string label,.string name] 138));clear hz;go_enter func216,ntmps216;go_wp2_with fail;go_quiet (fail);go_wp2_with fail;go_ret;exact⟨rfl,aj.drewN _⟩
theorem Ba(w:tW)(b:Nat)(o:dY)(hA:bY w b o)(d s num high jump:Int)(label name:tBA)(slot:Nat)(hs:slot<=1000000)(ho:o.slots<=10)(hj:-32768<=jump/\jump<=32767):Calls prog 216 #[.agg #[.pointer (some ⟨b,0,none⟩),.int .u8 d,.int .u8 s,.int .i16 jump,.int .i32 num,.int .i32 high,.string label,.string name],.int .i64 slot] w λe w'=>e=.returned (.int .i64 ((slot:Int)+o.slots+jump))/\aa ae w w' :=
 ajV w b o.slots (λ_ m=>(hA.ag m).cells.1) d s num high jump label name slot hs ho hj
def xe(bs:List Nat)(l:List PI):List Value:=l.flatMap (λx=>(x.ins bs).dU)
theorem jI{w:tW}{v:Value}{bs:List Nat}(hO:aH 0 w v bs aq)(x:PI)(hk:x.k<88):bY w (bs[x.k]?.getD 0) x.o:=by
 have hkt:x.k<aq.length:=by rw[dZ];exact hk
 have hkb:x.k<bs.length:=by rw[hO.len];exact hkt
 have h:=hO.at' x.k hkb hkt;have e1:bs[x.k]?.getD 0=bs[x.k]:=by simp[hkb]
 have e2:x.o=aq[x.k]:=by simp[PI.o,hkt]
 rw[e1,e2];exact h
theorem kZ{w:tW}{bs:List Nat}{l:List PI}{v:Value}{n:Nat}(h:Sl w 138 8 v n (xe bs l))(hn:n=l.length){o:Option Addr}{c:Nat}(hv:v=.slice o n c)(k:Nat)(hk:k<l.length):∃g,o=some ⟨g,0,none⟩/\g<w.heap.size/\w.cell? ⟨g,k*8,none⟩=some (.pointer (some ⟨bs[l[k].k]?.getD 0,0,none⟩))/\w.cell? ⟨g,k*8+1,none⟩=some (.int .u8 l[k].d)/\w.cell? ⟨g,k*8+2,none⟩=some (.int .u8 l[k].s) /\ w.cell? ⟨g,k*8+3,none⟩=some (.int .i16 l[k].jump)/\w.cell? ⟨g,k*8+4,none⟩=some (.int .i32 l[k].num)/\w.cell? ⟨g,k*8+5,none⟩=some (.int .i32 l[k].high)/\w.cell? ⟨g,k*8+6,none⟩=some (.string ByteArray.empty)/\w.cell? ⟨g,k*8+7,none⟩=some (.string (T l[k].name)):=by
 obtain⟨o',c',hv',h2⟩:=h.view;rw[hv]at hv';cases hv';obtain⟨g,cs,rfl,hb,ht,_⟩:=h2 (by omega);refine⟨g,rfl,hb.lt,?_,?_,?_,?_,?_,?_,?_,?_⟩
 all_goals rw[aW hb ht _ (by omega)]
 ·exact(flat_get (λx:PI=>(x.ins bs).dU) 8 (λ_=>rfl) l k 0 hk (by omega)).trans rfl
 ·exact(flat_get (λx:PI=>(x.ins bs).dU) 8 (λ_=>rfl) l k 1 hk (by omega)).trans rfl
 ·exact(flat_get (λx:PI=>(x.ins bs).dU) 8 (λ_=>rfl) l k 2 hk (by omega)).trans rfl
 ·exact(flat_get (λx:PI=>(x.ins bs).dU) 8 (λ_=>rfl) l k 3 hk (by omega)).trans rfl
 ·exact(flat_get (λx:PI=>(x.ins bs).dU) 8 (λ_=>rfl) l k 4 hk (by omega)).trans rfl
 ·exact(flat_get (λx:PI=>(x.ins bs).dU) 8 (λ_=>rfl) l k 5 hk (by omega)).trans rfl
 ·exact(flat_get (λx:PI=>(x.ins bs).dU) 8 (λ_=>rfl) l k 6 hk (by omega)).trans rfl
 ·exact(flat_get (λx:PI=>(x.ins bs).dU) 8 (λ_=>rfl) l k 7 hk (by omega)).trans rfl
structure eU(x:PI):Prop where
 k:x.k<88
 d:x.d<=15
 s:x.s<=15
 j:-32768<=x.jump/\x.jump<=32767
 n:-2147483648<=x.num/\x.num<=2147483647
 h:-2147483648<=x.high/\x.high<=2147483647
theorem eU.slots{x:PI}(h:eU x):x.o.slots=1\/x.o.slots=2:=by
 have hkt:x.k<aq.length:=by rw[dZ];exact h.k
 have e2:x.o=aq[x.k]:=by simp[PI.o,hkt]
 rw[e2];exact zm _ (ab hkt)
def eH(l:List PI)(k:Nat):Nat:=((l.take k).map (·.o.slots)).sum
theorem uf(l:List PI)(k:Nat)(h:k<l.length):eH l (k+1)=eH l k+l[k].o.slots:=by unfold eH;rw[List.take_succ_eq_append_getElem h,List.map_append,List.sum_append];simp
theorem zR(l:List PI)(hl:∀x∈l,eU x):∀k,eH l k<=2*l.length:=by
 have h:∀l:List PI,(∀x∈l,eU x)->(l.map (·.o.slots)).sum<=2*l.length:=by
  intro l;induction l with
  |nil=>intro _;simp
  |cons x l ih =>intro hl;have h1:=(hl x (by simp)).slots;have h2:=ih (λy hy=>hl y (List.mem_cons_of_mem _ hy));simp only[List.map_cons,List.sum_cons,List.length_cons];omega
 intro k;have h1:=h (l.take k) (λx hx=>hl x (List.mem_of_mem_take hx));have h2:(l.take k).length<=l.length:=by simp;omega
 unfold eH;omega
def Bb(l:List Bool):List Value:=l.map Value.bool
theorem Tn(w:tW)(tv:Value)(bs:List Nat)(hO:aH 0 w tv bs aq)(code:List PI)(hok:∀x∈code,eU x)(hl:code.length<=10000)(vC:Value)(hC:Sl w 138 8 vC code.length (xe bs code))(st:List Bool)(hst:st.length<=10000)(vS:Value)(hS:Sl w 4 1 vS st.length (Bb st)):Calls prog 267 #[vC,vS] w λe w'=>e=.returned (.bool (leadP st 0 code))/\aa ae w w':=by
 obtain⟨oC,cC,rfl,_⟩:=hC.view;obtain⟨oS,cS,rfl,_⟩:=hS.view;have HO:=ai hO;have HC:=ai hC;have HS:=ai hS;have Cu:=ai hok;have GR:af (∀k,eH code k<=20000):=λk=>by have:=zR code Cu.o k;omega
 clear hO hC hS hok;go_enter func267,ntmps267;go_wp2_with fail;go_loopw [5,11] (λsv i wl=>∃k:Nat,k<=code.length/\i=.int .i64 k/\sv=.int .i64 (eH code k)/\leadP st (eH code k) (code.drop k)=leadP st 0 code/\aa ae w wl) (λ_ i _=>code.length-(intOf i).toNat)
 case atStart=>exact⟨0,Nat.zero_le _,rfl,rfl,rfl,ax⟩
 case round =>
  obtain⟨k,hk,rfl,rfl,hn,hM⟩:=hrel;have HN:af _:=hn;have HM:=ai hM;clear hn hM;by_cases hlt:k<code.length
  ·have HD:af (leadP st (eH code k) (code.drop k)=((if code[k].o.jumps then decide (0<=code[k].target (eH code k))&&(st[(code[k].target (eH code k)).toNat]?.getD false)else true)&&leadP st (eH code k+code[k].o.slots) (code.drop (k+1)))):=by rw[af,List.drop_eq_getElem_cons hlt];rfl
   have NL:af (eH code (k+1)=eH code k+code[k].o.slots):=uf code k hlt;obtain⟨g,rfl,hg,q0,q1,q2,q3,q4,q5,q6,q7⟩:=kZ (HC.o.ag HM.o (λ_ _=>id)) rfl rfl k hlt;have hx:=Cu.o code[k] (ab hlt);have hA:=jI (HO.o.ag HM.o) code[k] hx.k;have hsum:=GR.o k;have hsl:=hx.slots;have hj:=hx.j;have ht:code[k].target (eH code k)=(eH code k:Int)+code[k].o.slots+code[k].jump:=rfl;rw[ht]at HD;clear hx ht;generalize code[k].o=o at *;generalize code[k].jump=jmp at *;generalize code[k].d=xd at *;generalize code[k].s=xs at *;generalize code[k].num=xn at *;generalize code[k].high=xh at *;generalize code[k].name=xm at *;generalize bs[code[k].k]?.getD 0=b at *;have hA1:=hA.ag (ax.alloc (.cells #[.pointer (some ⟨b,0,none⟩),.int .u8 xd,.int .u8 xs,.int .i16 jmp,.int .i32 xn,.int .i32 xh,.string ByteArray.empty,.string (T xm)] 138));obtain⟨y2,y3,_,_⟩:=hA1.cells;have HA1:=ai hA1;have dh:af (aa ae w (wr.alloc (.cells #[.pointer (some ⟨b,0,none⟩),.int .u8 xd,.int .u8 xs,.int .i16 jmp,.int .i32 xn,.int .i32 xh,.string ByteArray.empty,.string (T xm)] 138))):=HM.o.alloc _;clear hA hA1;generalize eH code k=sk at *;have HTg:af (Calls prog 216 #[.agg #[.pointer (some ⟨b,0,none⟩),.int .u8 xd,.int .u8 xs,.int .i16 jmp,.int .i32 xn,.int .i32 xh,.string ByteArray.empty,.string (T xm)],.int .i64 sk] (wr.alloc (.cells #[.pointer (some ⟨b,0,none⟩),.int .u8 xd,.int .u8 xs,.int .i16 jmp,.int .i32 xn,.int .i32 xh,.string ByteArray.empty,.string (T xm)] 138)) λe w'=>e=.returned (.int .i64 ((sk:Int)+o.slots+jmp))/\aa ae (wr.alloc (.cells #[.pointer (some ⟨b,0,none⟩),.int .u8 xd,.int .u8 xs,.int .i16 jmp,.int .i32 xn,.int .i32 xh,.string ByteArray.empty,.string (T xm)] 138)) w'):=Ba _ b o HA1.o xd xs xn xh jmp _ _ sk (by omega) (by omega) hj;have hBk:ak (wr.alloc (.cells #[.pointer (some ⟨b,0,none⟩),.int .u8 xd,.int .u8 xs,.int .i16 jmp,.int .i32 xn,.int .i32 xh,.string ByteArray.empty,.string (T xm)] 138)) wr.heap.size #[.pointer (some ⟨b,0,none⟩),.int .u8 xd,.int .u8 xs,.int .i16 jmp,.int .i32 xn,.int .i32 xh,.string ByteArray.empty,.string (T xm)] 138:=ak.new _ _ _;have zP:=ai hBk;clear hBk;generalize hjs:o.jumps=oj at *;cases oj with
   |false =>
    have HNx:af (leadP st (sk+o.slots) (code.drop (k+1))=leadP st 0 code):=by
     have:=HD.o;rw[HN.o]at this;rw[af]
     simpa using this.symm
    generalize o.slots=os at *;go_wp2_with fail;go_roundw
    case rel=>exact⟨k+1,by omega,by go_num,by rw[NL.o];go_num,by rw[NL.o];exact HNx.o,dh.o⟩
    case measure=>simp[intOf];omega
   |true =>
    have HD2:af (leadP st 0 code=((decide (0<=(sk:Int)+o.slots+jmp)&&(st[((sk:Int)+o.slots+jmp).toNat]?.getD false))&&leadP st (sk+o.slots) (code.drop (k+1)))):=by
     have:=HD.o;rw[HN.o]at this;rw[af]
     simpa using this
    clear HD;go_wp2_with fail;refine HTg.o.mono ?_;rintro e w3 ⟨rfl,m3⟩;have dw:=ai (dh.o.trans m3);have hB3:=zP.o.ag m3 id;have hA3:=HA1.o.ag m3;obtain⟨v2,_,_,_⟩:=hA3.cells;have v0:w3.cell? ⟨wr.heap.size,0,none⟩=some (.pointer (some ⟨b,0,none⟩)):=hB3.cell 0;clear hB3 hA3 m3 HTg HA1;generalize o.slots=os at *;by_cases hneg:(sk:Int)+os+jmp<0
    ·have HF:af (leadP st 0 code=false):=by rw[af,HD2.o,decide_eq_false (by omega),al,al]
     generalize(sk:Int)+os+jmp=tt at *;go_wp2_with fail;go_ret;exact⟨by rw[HF.o];rfl,dw.o⟩
    ·obtain⟨t,ht⟩:∃t:Nat,(sk:Int)+os+jmp=t:=⟨((sk:Int)+os+jmp).toNat,by omega⟩
     rw[ht]at HD2 hneg ⊢;simp only[show decide ((0:Int)<=(t:Int))=true by simp,Bool.true_and,Int.toNat_natCast]at HD2;by_cases hlt2:t<st.length
     ·obtain⟨gS,rfl,csS⟩:=(HS.o.ag dw.o (λ_ _=>id)).at rfl t hlt2;have cS':=csS t hlt2;have e1:(Bb st)[t]?=some (.bool st[t]):=by simp[Bb,hlt2]
      rw[e1]at cS';have e2:st[t]?.getD false=st[t]:=by simp[hlt2]
      rw[e2]at HD2;clear csS e1 e2;generalize st[t]=sb at *;cases sb with
      |false =>
       have HF:af (leadP st 0 code=false):=by rw[af,HD2.o,al]
       go_wp2_with fail;go_ret;exact⟨by rw[HF.o];rfl,dw.o⟩
      |true =>
       have HNx:af (leadP st (sk+os) (code.drop (k+1))=leadP st 0 code):=by rw[af,HD2.o,Bool.true_and]
       go_wp2_with fail;go_roundw
       case rel=>exact⟨k+1,by omega,by go_num,by rw[NL.o];go_num,by rw[NL.o];exact HNx.o,dw.o⟩
       case measure=>simp[intOf];omega
     ·have HF:af (leadP st 0 code=false):=by rw[af,HD2.o,List.getElem?_eq_none (by omega)];rfl
      have hge:¬((t:Int)<(st.length:Int)):=by omega
      go_wp2_with fail;go_ret;exact⟨by rw[HF.o];rfl,dw.o⟩
  ·obtain rfl:k=code.length:=by omega
   have HF:af (leadP st 0 code=true):=by rw[af,<-HN.o,List.drop_length];rfl
   go_wp2_with fail;go_ret;exact⟨by rw[HF.o];rfl,HM.o⟩
