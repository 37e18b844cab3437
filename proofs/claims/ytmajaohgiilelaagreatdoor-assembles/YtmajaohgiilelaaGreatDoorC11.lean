import Derived.Test.YtmajaohgiilelaaGreatDoorC10
import Derived.Laws.EntriesVeiled
namespace Go.Proofs.YtmajaohgiilelaaGreatDoor
open Go.RowKit Tryz
open List renaming getElem_mem->an,length_map->ao,take_of_length_le->ba,dropWhile_cons->bh,all_eq_true->bj
open Nat renaming zero_le->ar
set_option linter.all false
set_option maxRecDepth 100000
set_option maxHeartbeats 2000000
def bE.Km(r:bE)(l:tLB)(n:aA):bE:={r with jump:=(n.aO 32768).getD 0,far:=r.far||(n.aO 32768).isNone,rest:=l}
theorem Rm{r:bE}(h:aH 45 r.rest=true):r.off=(aU (aC (aL 45 r.rest)).1).map (λv=>r.Km (aC (aL 45 r.rest)).2 ⟨v,true⟩):=by unfold bE.off bE.Km;rw[iP9 h]
theorem om{c:UInt8}{l:tLB}(h:aH c l=false):aL c l=aw l:=by unfold aL;rw[iN9 (by simp[h])]
theorem Di(l:tLB):aw (aw l)=aw l:=by
 unfold aw;induction l with
 |nil=>rfl
 |cons c r ih =>
  rw[bh];split
  ·exact ih
  ·rename_i h;rw[bh,iN9 h]
theorem nP(c:UInt8)(l:tLB):aH c (aw l)=aH c l/\aL c (aw l)=aL c l:=by unfold aL aH;rw[Di];exact⟨rfl,rfl⟩
theorem UZ{r:bE}(h:aH 45 r.rest=false)(hp:aH 43 r.rest=true):r.off=(aU (aC (aL 43 r.rest)).1).map (λv=>r.Km (aC (aL 43 r.rest)).2 ⟨v,false⟩):=by unfold bE.off bE.Km;rw[iN9 (by simp[h]),iP9 hp]
theorem U0{r:bE}(h:aH 45 r.rest=false)(hp:aH 43 r.rest=false):r.off=some {r with rest:=aw r.rest}:=by unfold bE.off;rw[iN9 (by simp[h]),iN9 (by simp[hp])]
theorem U1(b:Nat)(op:Value)(r:bE)(w:tW)(h:aq w b (r.cells op) 209)(hl:r.rest.length<=1000000)(hm:aH 45 r.rest=true):Calls prog 197 #[.pointer (some ⟨b,0,none⟩)] w λe w'=>bK w b op r.off e w':=by
 have vY:ae (Calls prog 74 #[.pointer (some ⟨b,1,none⟩),.int .u8 45] w λe w'=>e=.returned (.bool true)/\aN w b 1 (r.cells op) 209 (aL 45 r.rest) w'):=by have:=jh b 1 _ _ r.rest 45 w (nu h) hl;rw[hm]at this;exact this
 have Kl:=rR 45 r.rest
 have uI:ae (∀e w',e=.returned (.bool (aU (aC (aL 45 r.rest)).1).isSome)->aa (Only b) w w'->aq w' b ((r.Km (aC (aL 45 r.rest)).2 ⟨(aU (aC (aL 45 r.rest)).1).getD 0,true⟩).cells op) 209->bK w b op r.off e w'):=λe w' he hmd hbk=>by
  rw[Rm hm];cases hn:aU (aC (aL 45 r.rest)).1 with
  |some v=>rw[hn]at he hbk;exact⟨by rw[he];rfl,hmd,λr' hr'=>by cases hr';exact hbk⟩
  |none=>rw[hn]at he;exact⟨by rw[he];rfl,hmd,λr' hr'=>by cases hr'⟩
 generalize bK w b op r.off=RP at *;generalize aL 45 r.rest=l0 at *;have Kk:ae (∀w',aq w' b ({r with rest:=l0}.cells op) 209->Calls prog 229 #[.pointer (some ⟨b,1,none⟩)] w' λe w''=>e=.returned (.tuple #[(aA.mk ((aU (aC l0).1).getD 0) false).dP,.bool (aU (aC l0).1).isSome])/\aN w' b 1 ({r with rest:=l0}.cells op) 209 (aC l0).2 w''):=λw' h'=>xP b 1 _ _ l0 w' (nu (r:={r with rest:=l0}) h') (by omega);generalize aC l0=wl at *;obtain⟨l1,l2⟩:=wl;dsimp only at *;generalize aU l1=nn at *;have hr:=oh ⟨nn.getD 0,true⟩ 32768 (by omega);have HS:ae (∀w',aq w' b ({r with rest:=l2}.cells op) 209->Calls prog 144 #[.pointer (some ⟨b,0,none⟩),(aA.mk (nn.getD 0) true).dP,.int .i64 16] w' λe w''=>e=.returned (.int .i64 (((aA.mk (nn.getD 0) true).aO 32768).getD 0))/\aq w'' b ((bE.EZ {r with rest:=l2} ((aA.mk (nn.getD 0) true).aO 32768)).cells op) 209/\aa (Only b) w' w''):=λw' h'=>uQ b op _ _ 16 32768 w' h' (yV _);have HNG:ae (∀w',Calls prog 246 #[(aA.mk (nn.getD 0) false).dP] w' λe w''=>e=.returned (aA.mk (nn.getD 0) true).dP/\aa af w' w''):=λw'=>BD ⟨_,false⟩ w';unfold bE.EZ bE.Km at *;generalize(aA.mk (nn.getD 0) true).aO 32768=sg at *;unfold aA.dP at *;dsimp only at *;generalize(((nn.getD 0)%18446744073709551616:Nat):Int)=u at *;generalize decide (18446744073709551616<=nn.getD 0)=bg at *;generalize hvv:sg.getD 0=vv at *;obtain⟨hr0,hr1⟩:=hr;clear h hl Kl;go_enter func197,ntmps197;go_wp2_with fail;refine vY.o.mono ?_;rintro e w1 ⟨rfl,hp1⟩;have HB1:=ak hp1.rd;have iG:=ak hp1.2;clear hp1 vY;go_wp2_with fail;refine(Kk.o _ HB1.o).mono ?_;rintro e w2 ⟨rfl,hp2⟩;have HB2:ae (∀cs,aq (w2.alloc (.cells cs 112)) b ({r with rest:=l2}.cells op) 209):=λcs=>hp2.rd.alloc _;have ep:ae (∀cs,aa (Only b) w (w2.alloc (.cells cs 112))):=λcs=>(iG.o.trans hp2.2).alloc _;have HWs:ae (w.heap.size<=w2.heap.size):=(iG.o.trans hp2.2).size;have hbl:b<w2.heap.size:=hp2.1.blk.lt;clear hp2 HB1 iG Kk;go_wp2_with fail;refine(HNG.o _).mono ?_;rintro e w3 ⟨rfl,m3⟩;have Dh:ae (aq w3 w2.heap.size #[.bool false,.int .u64 u,.bool bg] 112):=(aq.new w2 _ _).ah m3 id;have n0:w3.cell? ⟨w2.heap.size,0,none⟩=some (.bool false):=Dh.o.cell 0;have n1:w3.cell? ⟨w2.heap.size,1,none⟩=some (.int .u64 u):=Dh.o.cell 1;have n2:w3.cell? ⟨w2.heap.size,2,none⟩=some (.bool bg):=Dh.o.cell 2;have nf:=Dh.o.frozen;have HB3:ae (aq w3 b ({r with rest:=l2}.cells op) 209):=(HB2.o _).ah m3 id;have fw:ae (aa (Only b) w w3):=(ep.o _).trans m3.of_nil;clear m3 HB2 ep HNG;go_upto_region 7 with fail;generalize hW4:((w3.setCell ⟨w2.heap.size,0,none⟩ (.bool true)).setCell ⟨w2.heap.size,1,none⟩ (.int .u64 u)).setCell ⟨w2.heap.size,2,none⟩ (.bool bg)=W4 at *;have YT:ae (aq W4 w2.heap.size #[.bool true,.int .u64 u,.bool bg] 112):=by rw[<-hW4];exact((Dh.o.set 0 _).set 1 _).set 2 _
 have yL:ae (aq W4 b ({r with rest:=l2}.cells op) 209):=by
  rw[<-hW4]
  iterate 3 refine aq.setOther ?_ (by simp;omega) _
  exact HB3.o
 have jJ:ae (aa (Only b) w W4):=by
  rw[<-hW4]
  iterate 3 refine aa.set ?_ (.inr (by simpa using HWs.o)) _
  exact fw.o
 clear n0 n1 n2 nf Dh HB3 fw hW4;have n0:W4.cell? ⟨w2.heap.size,0,none⟩=some (.bool true):=YT.o.cell 0;have n1:W4.cell? ⟨w2.heap.size,1,none⟩=some (.int .u64 u):=YT.o.cell 1;have n2:W4.cell? ⟨w2.heap.size,2,none⟩=some (.bool bg):=YT.o.cell 2;go_wp2_with fail;refine(HS.o _ yL.o).mono ?_;rintro e w5 ⟨rfl,hb5,m5⟩;have qG:=ak hb5;have mU:=ak (jJ.o.trans m5);have z5:w5.cell? ⟨b,5,none⟩=some (.int .i16 r.jump):=hb5.cell 5;have zf:=hb5.frozen;clear hb5 m5 yL jJ YT n0 n1 n2 HS;go_wp2_with fail;exact uI.o _ _ rfl (mU.o.bP 5 _) (qG.o.set 5 _)
theorem U2(b:Nat)(op:Value)(r:bE)(w:tW)(h:aq w b (r.cells op) 209)(hl:r.rest.length<=1000000)(hm:aH 45 r.rest=false)(hp:aH 43 r.rest=true):Calls prog 197 #[.pointer (some ⟨b,0,none⟩)] w λe w'=>bK w b op r.off e w':=by
 have vY:ae (Calls prog 74 #[.pointer (some ⟨b,1,none⟩),.int .u8 45] w λe w'=>e=.returned (.bool false)/\aN w b 1 (r.cells op) 209 (aw r.rest) w'):=by have:=jh b 1 _ _ r.rest 45 w (nu h) hl;rw[hm,om hm]at this;exact this
 have U3:ae (∀w',aq w' b ({r with rest:=aw r.rest}.cells op) 209->Calls prog 74 #[.pointer (some ⟨b,1,none⟩),.int .u8 43] w' λe w''=>e=.returned (.bool true)/\aN w' b 1 ({r with rest:=aw r.rest}.cells op) 209 (aL 43 r.rest) w''):=λw' h'=>by have:=jh b 1 _ _ (aw r.rest) 43 w' (nu (r:={r with rest:=aw r.rest}) h') (by have:=iY r.rest;omega);rw[(nP 43 r.rest).1,(nP 43 r.rest).2,hp]at this;exact this
 have Kl:=rR 43 r.rest
 have uI:ae (∀e w',e=.returned (.bool (aU (aC (aL 43 r.rest)).1).isSome)->aa (Only b) w w'->aq w' b ((r.Km (aC (aL 43 r.rest)).2 ⟨(aU (aC (aL 43 r.rest)).1).getD 0,false⟩).cells op) 209->bK w b op r.off e w'):=λe w' he hmd hbk=>by
  rw[UZ hm hp];cases hn:aU (aC (aL 43 r.rest)).1 with
  |some v=>rw[hn]at he hbk;exact⟨by rw[he];rfl,hmd,λr' hr'=>by cases hr';exact hbk⟩
  |none=>rw[hn]at he;exact⟨by rw[he];rfl,hmd,λr' hr'=>by cases hr'⟩
 generalize bK w b op r.off=RP at *;generalize aL 43 r.rest=l0 at *;have Kk:ae (∀w',aq w' b ({r with rest:=l0}.cells op) 209->Calls prog 229 #[.pointer (some ⟨b,1,none⟩)] w' λe w''=>e=.returned (.tuple #[(aA.mk ((aU (aC l0).1).getD 0) false).dP,.bool (aU (aC l0).1).isSome])/\aN w' b 1 ({r with rest:=l0}.cells op) 209 (aC l0).2 w''):=λw' h'=>xP b 1 _ _ l0 w' (nu (r:={r with rest:=l0}) h') (by omega);generalize aC l0=wl at *;obtain⟨l1,l2⟩:=wl;dsimp only at *;generalize aU l1=nn at *;have hr:=oh ⟨nn.getD 0,false⟩ 32768 (by omega);have HS:ae (∀w',aq w' b ({r with rest:=l2}.cells op) 209->Calls prog 144 #[.pointer (some ⟨b,0,none⟩),(aA.mk (nn.getD 0) false).dP,.int .i64 16] w' λe w''=>e=.returned (.int .i64 (((aA.mk (nn.getD 0) false).aO 32768).getD 0))/\aq w'' b ((bE.EZ {r with rest:=l2} ((aA.mk (nn.getD 0) false).aO 32768)).cells op) 209/\aa (Only b) w' w''):=λw' h'=>uQ b op _ _ 16 32768 w' h' (yV _);have HNG:ae (∀w',Calls prog 246 #[(aA.mk (nn.getD 0) false).dP] w' λe w''=>e=.returned (aA.mk (nn.getD 0) true).dP/\aa af w' w''):=λw'=>BD ⟨_,false⟩ w';unfold bE.EZ bE.Km at *;generalize(aA.mk (nn.getD 0) false).aO 32768=sg at *;unfold aA.dP at *;dsimp only at *;generalize(((nn.getD 0)%18446744073709551616:Nat):Int)=u at *;generalize decide (18446744073709551616<=nn.getD 0)=bg at *;generalize hvv:sg.getD 0=vv at *;obtain⟨hr0,hr1⟩:=hr;clear h hl Kl;go_enter func197,ntmps197;go_wp2_with fail;refine vY.o.mono ?_;rintro e w0 ⟨rfl,hp0⟩;have HB0:=ak hp0.rd;have gq:=ak hp0.2;clear hp0 vY;go_wp2_with fail;refine(U3.o _ HB0.o).mono ?_;rintro e w1 ⟨rfl,hp1⟩;have HB1:=ak hp1.rd;have iG:=ak (gq.o.trans hp1.2);clear hp1 U3 HB0 gq;go_wp2_with fail;refine(Kk.o _ HB1.o).mono ?_;rintro e w2 ⟨rfl,hp2⟩;have HB2:ae (∀cs,aq (w2.alloc (.cells cs 112)) b ({r with rest:=l2}.cells op) 209):=λcs=>hp2.rd.alloc _;have ep:ae (∀cs,aa (Only b) w (w2.alloc (.cells cs 112))):=λcs=>(iG.o.trans hp2.2).alloc _;have HWs:ae (w.heap.size<=w2.heap.size):=(iG.o.trans hp2.2).size;have hbl:b<w2.heap.size:=hp2.1.blk.lt;clear hp2 HB1 iG Kk;go_upto_region 7 with fail;have YT:ae (aq (w2.alloc (.cells #[.bool false,.int .u64 u,.bool bg] 112)) w2.heap.size #[.bool false,.int .u64 u,.bool bg] 112):=aq.new w2 _ _;have yL:ae (aq (w2.alloc (.cells #[.bool false,.int .u64 u,.bool bg] 112)) b ({r with rest:=l2}.cells op) 209):=HB2.o _;have jJ:ae (aa (Only b) w (w2.alloc (.cells #[.bool false,.int .u64 u,.bool bg] 112))):=ep.o _;clear HB2 ep;generalize w2.alloc (.cells #[.bool false,.int .u64 u,.bool bg] 112)=W4 at *;have n0:W4.cell? ⟨w2.heap.size,0,none⟩=some (.bool false):=YT.o.cell 0;have n1:W4.cell? ⟨w2.heap.size,1,none⟩=some (.int .u64 u):=YT.o.cell 1;have n2:W4.cell? ⟨w2.heap.size,2,none⟩=some (.bool bg):=YT.o.cell 2;go_wp2_with fail;refine(HS.o _ yL.o).mono ?_;rintro e w5 ⟨rfl,hb5,m5⟩;have qG:=ak hb5;have mU:=ak (jJ.o.trans m5);have z5:w5.cell? ⟨b,5,none⟩=some (.int .i16 r.jump):=hb5.cell 5;have zf:=hb5.frozen;clear hb5 m5 yL jJ YT n0 n1 n2 HS;go_wp2_with fail;exact uI.o _ _ rfl (mU.o.bP 5 _) (qG.o.set 5 _)
theorem U4(b:Nat)(op:Value)(r:bE)(w:tW)(h:aq w b (r.cells op) 209)(hl:r.rest.length<=1000000)(hm:aH 45 r.rest=false)(hp:aH 43 r.rest=false):Calls prog 197 #[.pointer (some ⟨b,0,none⟩)] w λe w'=>bK w b op r.off e w':=by
 have vY:ae (Calls prog 74 #[.pointer (some ⟨b,1,none⟩),.int .u8 45] w λe w'=>e=.returned (.bool false)/\aN w b 1 (r.cells op) 209 (aw r.rest) w'):=by have:=jh b 1 _ _ r.rest 45 w (nu h) hl;rw[hm,om hm]at this;exact this
 have U3:ae (∀w',aq w' b ({r with rest:=aw r.rest}.cells op) 209->Calls prog 74 #[.pointer (some ⟨b,1,none⟩),.int .u8 43] w' λe w''=>e=.returned (.bool false)/\aN w' b 1 ({r with rest:=aw r.rest}.cells op) 209 (aw r.rest) w''):=λw' h'=>by have:=jh b 1 _ _ (aw r.rest) 43 w' (nu (r:={r with rest:=aw r.rest}) h') (by have:=iY r.rest;omega);rw[(nP 43 r.rest).1,(nP 43 r.rest).2,hp,om hp]at this;exact this
 have uI:ae (∀e w',e=.returned (.bool true)->aa (Only b) w w'->aq w' b ({r with rest:=aw r.rest}.cells op) 209->bK w b op r.off e w'):=λe w' he hmd hb=>by rw[U0 hm hp];exact⟨by rw[he];rfl,hmd,λr' hr'=>by cases hr';exact hb⟩
 generalize bK w b op r.off=RP at *;clear h hl;go_enter func197,ntmps197;go_wp2_with fail;refine vY.o.mono ?_;rintro e w0 ⟨rfl,hp0⟩;have HB0:=ak hp0.rd;have gq:=ak hp0.2;clear hp0 vY;go_wp2_with fail;refine(U3.o _ HB0.o).mono ?_;rintro e w1 ⟨rfl,hp1⟩;have HB1:=ak hp1.rd;have iG:=ak (gq.o.trans hp1.2);clear hp1 U3 HB0 gq;go_wp2_with fail;exact uI.o _ _ rfl iG.o HB1.o
theorem Rn(b:Nat)(op:Value)(r:bE)(w:tW)(h:aq w b (r.cells op) 209)(hl:r.rest.length<=1000000):Calls prog 197 #[.pointer (some ⟨b,0,none⟩)] w λe w'=>bK w b op r.off e w':=by
 cases hm:aH 45 r.rest with
 |true=>exact U1 b op r w h hl hm
 |false =>
  cases hp:aH 43 r.rest with
  |true=>exact U2 b op r w h hl hm hp
  |false=>exact U4 b op r w h hl hm hp
theorem U5{r:bE}(h:(aC r.rest).1=[109,97,112]):r.wide=if ahI (aC (aC r.rest).2).1 then some {r with s:=1,name:=(aC (aC r.rest).2).1,rest:=(aC (aC r.rest).2).2}else none:=by unfold bE.wide;rw[iP9 h]
theorem U6{r:bE}(h:(aC r.rest).1≠[109,97,112]):r.wide=(bJ r.rest).map (λx=>{r with num:=kR (x.1.bT.getD 0),high:=kR ((x.1.bT.getD 0)/4294967296),far:=r.far||x.1.bT.isNone,rest:=x.2}):=by unfold bE.wide;rw[iN9 h]
theorem Ro(b:Nat)(op:Value)(r:bE)(w:tW)(h:aq w b (r.cells op) 209)(hl:r.rest.length<=1000000)(hm:(aC r.rest).1=[109,97,112]):Calls prog 203 #[.pointer (some ⟨b,0,none⟩)] w λe w'=>bK w b op r.wide e w':=by
 have hwl:=kX r.rest;have hq:((T [109,97,112]).toList==[109,97,112])=true:=dX rfl;have HB0:ae (aq (w.alloc (.cells #[.string (T r.rest)] 155)) b (r.cells op) 209):=h.alloc _;have YU:ae (mX (w.alloc (.cells #[.string (T r.rest)] 155)) w.heap.size 0 #[.string (T r.rest)] 155 r.rest):=⟨aq.new w _ _,rfl⟩
 have HW:ae (Calls prog 73 #[.pointer (some ⟨w.heap.size,0,none⟩)] (w.alloc (.cells #[.string (T r.rest)] 155)) λe w'=>e=.returned (.string (T [109,97,112]))/\aN (w.alloc (.cells #[.string (T r.rest)] 155)) w.heap.size 0 #[.string (T r.rest)] 155 (aC r.rest).2 w'):=by have:=iL w.heap.size 0 _ _ r.rest _ YU.o hl;rw[hm]at this;exact this
 have HN:ae (∀w',mX w' w.heap.size 0 #[.string (T (aC r.rest).2)] 155 (aC r.rest).2->Calls prog 78 #[.pointer (some ⟨w.heap.size,0,none⟩)] w' λe w''=>e=.returned (.tuple #[.string (T (aC (aC r.rest).2).1),.bool (ahI (aC (aC r.rest).2).1)])/\aN w' w.heap.size 0 #[.string (T (aC r.rest).2)] 155 (aC (aC r.rest).2).2 w''):=λw' h'=>qF _ 0 _ _ _ w' h' (by omega)
 have uI:ae (∀e w',e=.returned (.bool (ahI (aC (aC r.rest).2).1))->aa (Only b) w w'->aq w' b ({r with s:=1,name:=(aC (aC r.rest).2).1,rest:=(aC (aC r.rest).2).2}.cells op) 209->bK w b op r.wide e w'):=λe w' he hmd hbk=>by
  rw[U5 hm];cases hn:ahI (aC (aC r.rest).2).1 with
  |true=>rw[hn]at he;exact⟨by rw[he];rfl,hmd,λr' hr'=>by cases hr';exact hbk⟩
  |false=>rw[hn]at he;exact⟨by rw[he];rfl,hmd,λr' hr'=>by cases hr'⟩
 generalize bK w b op r.wide=RP at *;generalize ahI (aC (aC r.rest).2).1=nb at *;generalize aC (aC r.rest).2=w2 at *;generalize aC r.rest=w1 at *;obtain⟨n2,l2⟩:=w2;obtain⟨n1,l1⟩:=w1;dsimp only at *;have c1:w.cell? ⟨b,1,none⟩=some (.string (T r.rest)):=h.cell 1;have hbl:=h.lt;have HWs:ae (aa (Only b) w (w.alloc (.cells #[.string (T r.rest)] 155))):=(aa.refl _ _).alloc _;clear h hwl hl;go_enter func203,ntmps203;go_wp2_with fail;refine HW.o.mono ?_;rintro e wa ⟨rfl,hp1⟩;have Gl:=ak hp1.1;have HB1:ae (aq wa b (r.cells op) 209):=HB0.o.ah hp1.2 (λe=>by have:b=w.heap.size:=e;omega);have iG:ae (aa (Only b) w wa):=HWs.o.step hp1.2 (λi hi e=>by have:i=w.heap.size:=e;omega);clear hp1 YU HB0 HWs HW;go_wp2_with fail;refine(HN.o _ Gl.o).mono ?_;rintro e wb ⟨rfl,hp2⟩;have HL2:=ak hp2.1;have HB2:ae (aq wb b (r.cells op) 209):=HB1.o.ah hp2.2 (λe=>by have:b=w.heap.size:=e;omega);have ep:ae (aa (Only b) w wb):=iG.o.step hp2.2 (λi hi e=>by have:i=w.heap.size:=e;omega);clear hp2 Gl HB1 iG HN;have x0:wb.cell? ⟨w.heap.size,0,none⟩=some (.string (T l2)):=HL2.o.cell;have z1:wb.cell? ⟨b,1,none⟩=some (.string (T r.rest)):=HB2.o.cell 1;have z4:wb.cell? ⟨b,4,none⟩=some (.int .u8 (r.s:Int)):=HB2.o.cell 4;have z9:wb.cell? ⟨b,9,none⟩=some (.string (T r.name)):=HB2.o.cell 9;have zf:=HB2.o.frozen;go_wp2_with fail;exact uI.o _ _ rfl (((ep.o.bP 1 _).bP 4 _).bP 9 _) (((HB2.o.set 1 _).set 4 _).set 9 _)
theorem YV(v:Nat):Go.RowKit.wrap32 ((v:Int)%4294967296)=kR v:=by unfold kR Go.RowKit.wrap32;omega
theorem U7(v:Nat):Go.RowKit.wrap32 ((v:Int)/4294967296)=kR (v/4294967296):=by unfold kR Go.RowKit.wrap32;omega
theorem Rp(b:Nat)(op:Value)(r:bE)(w:tW)(h:aq w b (r.cells op) 209)(hl:r.rest.length<=1000000)(hm:(aC r.rest).1≠[109,97,112]):Calls prog 203 #[.pointer (some ⟨b,0,none⟩)] w λe w'=>bK w b op r.wide e w':=by
 have hq:((T (aC r.rest).1).toList==[109,97,112])=false:=dK (λe=>hm (qo e));have HB0:ae (aq (w.alloc (.cells #[.string (T r.rest)] 155)) b (r.cells op) 209):=h.alloc _;have YU:ae (mX (w.alloc (.cells #[.string (T r.rest)] 155)) w.heap.size 0 #[.string (T r.rest)] 155 r.rest):=⟨aq.new w _ _,rfl⟩
 have HW:ae (Calls prog 73 #[.pointer (some ⟨w.heap.size,0,none⟩)] (w.alloc (.cells #[.string (T r.rest)] 155)) λe w'=>e=.returned (.string (T (aC r.rest).1))/\aN (w.alloc (.cells #[.string (T r.rest)] 155)) w.heap.size 0 #[.string (T r.rest)] 155 (aC r.rest).2 w'):=iL w.heap.size 0 _ _ r.rest _ YU.o hl;have vY:ae (∀w',aq w' b (r.cells op) 209->Calls prog 134 #[.pointer (some ⟨b,1,none⟩)] w' λe w''=>mq w' b 1 (r.cells op) 209 r.rest e w''):=λw' h'=>uP b 1 _ _ r.rest w' (nu h') hl
 have uI:ae (∀e w' n l',e=.returned (.bool (bJ r.rest).isSome)->aa (Only b) w w'->(∀x,bJ r.rest=some x->x=(n,l'))->aq w' b ({r with num:=kR (n.bT.getD 0),high:=kR ((n.bT.getD 0)/4294967296),far:=r.far||n.bT.isNone,rest:=l'}.cells op) 209->bK w b op r.wide e w'):=λe w' n l' he hmd hx hp=>by
  rw[U6 hm];cases hn:bJ r.rest with
  |some x =>have:=hx x hn;subst this;exact⟨by rw[he,hn];rfl,hmd,λr' hr'=>by cases hr';exact hp⟩
  |none=>exact⟨by rw[he,hn];rfl,hmd,λr' hr'=>by cases hr'⟩
 generalize bK w b op r.wide=RP at *;generalize aC r.rest=w1 at *;obtain⟨n1,l1⟩:=w1;dsimp only at *;have c1:w.cell? ⟨b,1,none⟩=some (.string (T r.rest)):=h.cell 1;have hbl:=h.lt;have HWs:ae (aa (Only b) w (w.alloc (.cells #[.string (T r.rest)] 155))):=(aa.refl _ _).alloc _;clear h hl;go_enter func203,ntmps203;go_wp2_with fail;refine HW.o.mono ?_;rintro e wa ⟨rfl,hp1⟩;have HB1:ae (aq wa b (r.cells op) 209):=HB0.o.ah hp1.2 (λe=>by have:b=w.heap.size:=e;omega);have iG:ae (aa (Only b) w wa):=HWs.o.step hp1.2 (λi hi e=>by have:i=w.heap.size:=e;omega);clear hp1 YU HB0 HWs HW;go_wp2_with fail;refine(vY.o _ HB1.o).mono ?_;intro e wb hn;obtain⟨n,l',rfl,hp2,hle,hx⟩:=hn;have abI:ae (∀e w',e=.returned (.bool (bJ r.rest).isSome)->aa (Only b) w w'->aq w' b ({r with num:=kR (n.bT.getD 0),high:=kR ((n.bT.getD 0)/4294967296),far:=r.far||n.bT.isNone,rest:=l'}.cells op) 209->RP e w'):=λe w' he hm=>uI.o e w' n l' he hm hx;have HB2:ae (∀cs,aq (wb.alloc (.cells cs 112)) b ({r with rest:=l'}.cells op) 209):=λcs=>hp2.rd.alloc _;have ep:ae (∀cs,aa (Only b) w (wb.alloc (.cells cs 112))):=λcs=>(iG.o.trans hp2.2).alloc _;have HS:ae (∀w',aq w' b ({r with rest:=l'}.cells op) 209->Calls prog 248 #[.pointer (some ⟨b,0,none⟩),n.dP] w' λe w''=>e=.returned (.int .u64 ((n.bT.getD 0:Nat):Int))/\aq w'' b ((bE.Rj {r with rest:=l'} n.bT).cells op) 209/\aa (Only b) w' w''):=λw' h'=>Rk b op _ n w' h'
 have hwd:n.bT.getD 0<18446744073709551616:=by
  unfold aA.bT;split
  ·simp
  ·split
   ·split
    ·simp;omega
    ·simp
   ·simp;omega
 clear hp2 hx hle uI vY HB1 iG;unfold bE.Rj at *;generalize n.bT=sg at *;generalize bJ r.rest=nl at *;unfold aA.dP at *;generalize((n.v%18446744073709551616:Nat):Int)=u at *;generalize decide (18446744073709551616<=n.v)=bg at *;generalize n.minus=mi at *;have HL:ae (Go.RowKit.wrap32 (((sg.getD 0:Nat):Int)%4294967296)=kR (sg.getD 0)):=YV _;have HH:ae (Go.RowKit.wrap32 (((sg.getD 0:Nat):Int)/4294967296)=kR ((sg.getD 0)/4294967296)):=U7 _;generalize hvv:sg.getD 0=vv at *;have hv1:(vv:Int)<18446744073709551616:=by omega
 go_wp2_with fail;refine(HS.o _ (HB2.o _)).mono ?_;rintro e wd ⟨rfl,hb5,m5⟩;have qG:=ak hb5;have mU:ae (aa (Only b) w wd):=(ep.o _).trans m5;have z6:wd.cell? ⟨b,6,none⟩=some (.int .i32 r.num):=hb5.cell 6;have z7:wd.cell? ⟨b,7,none⟩=some (.int .i32 r.high):=hb5.cell 7;have zf:=hb5.frozen;clear hb5 m5 HB2 ep HS;go_wp2_with fail;refine abI.o _ _ rfl ((mU.o.bP 6 _).bP 7 _) ?_;rw[HL.o,HH.o];exact(qG.o.set 6 _).set 7 _
theorem MF(b:Nat)(op:Value)(r:bE)(w:tW)(h:aq w b (r.cells op) 209)(hl:r.rest.length<=1000000):Calls prog 203 #[.pointer (some ⟨b,0,none⟩)] w λe w'=>bK w b op r.wide e w':=by
 by_cases hm:(aC r.rest).1=[109,97,112]
 ·exact Ro b op r w h hl hm
 ·exact Rp b op r w h hl hm
def Gn(w:tW)(k:Nat):Prop:=∃cs t fr,w.heap[k]?=some (.cells cs t fr)/\(t=134\/t=114\/t=209)
def Kp(w w':tW):Prop:=aa (Gn w) w w'
theorem aa.kp{w w':tW}(m:aa af w w'):Kp w w':=m.mono (λ_ _ h=>h.elim)
theorem Kp.trans{w w' w'':tW}(h:Kp w w')(k:Kp w' w''):Kp w w'' :=
 aa.step h k (λi hi ⟨cs,t,fr,hb,ht⟩=>by refine Classical.byContradiction λhn=>hn ?_;rw[h.block i hi hn]at hb;exact⟨cs,t,fr,hb,ht⟩)
theorem Kp.not{w:tW}{g:Nat}{cs:tAV}{t:TypeId}(h:aq w g cs t)(ht:t≠134/\t≠114/\t≠209):¬Gn w g:=by
 rintro⟨cs',t',fr,h',ht'⟩;rw[show w.heap[g]?=some (.cells cs t (0,0))from h]at h';cases h';rcases ht' with h|h|h
 ·exact ht.1 h
 ·exact ht.2.1 h
 ·exact ht.2.2 h
theorem aq.kp{w w':tW}{g:Nat}{cs:tAV}{t:TypeId}(h:aq w g cs t)(m:Kp w w')(ht:t≠134/\t≠114/\t≠209):aq w' g cs t:=h.ah m (Kp.not h ht)
theorem Sl.kp{w w':tW}{e:TypeId}{size:Nat}{v:Value}{n:Nat}{xs:List Value}(h:Sl w e size v n xs)(m:Kp w w')(he:e≠134/\e≠114/\e≠209):Sl w' e size v n xs:=by
 refine h.ah m λk hk hn=>?_;rcases h.2 with⟨rfl,rfl⟩ |⟨g,cap,cur,rfl,_,hg,_⟩
 ·cases hk
 ·cases hk;exact Kp.not (cs:=cur) hg he hn
theorem aa.MG{w w':tW}{v:Value}{n:Nat}{xs:List Value}(h:Sl w 114 1 v n xs)(m:aa (λk=>v.ownBlock=some k) w w'):Kp w w' :=
 m.mono λk _ hk=>by
  rcases h.2 with⟨rfl,rfl⟩ |⟨g,cap,cur,rfl,_,hg,_⟩
  ·cases hk
  ·cases hk;exact⟨_,_,_,hg,.inr (.inl rfl)⟩
theorem aa.aed{w w':tW}{b:Nat}{cs:tAV}(h:aq w b cs 209)(m:aa (Only b) w w'):Kp w w' :=
 m.mono λk _ hk=>by have:k=b:=hk;subst this;exact⟨_,_,_,h,.inr (.inr rfl)⟩
structure PV where
 f1:Fn
 c1:tAV
 k2:FuncId
 c2:tAV
 k3:FuncId
 c3:tAV
def PV.cells(v:PV)(n:Nat):List Value:=[.int .i64 n,.func v.f1 #[] v.c1,.func (.func v.k2) #[] v.c2,.func (.func v.k3) #[] v.c3]
def Ul(k:FuncId):Prop:=∀args w,(callFunc k args).run prog w=.ok (.enter k args) w
structure U8(w:tW)(rd:bE->Option bE)(f:Fn)(c:tAV):Prop where
 ex:∃k,f=.func k/\Ul k/\∀w' b op r,Kp w w'->(∀w'',aa (Only b) w' w''->Env w'')->aq w' b (bE.cells op r) 209->r.rest.length<=1000000->Calls prog k (#[.pointer (some ⟨b,0,none⟩)]++c) w' λe w''=>bK w' b op (rd r) e w''
theorem U8.kp{w w':tW}{rd:bE->Option bE}{f:Fn}{c:tAV}(h:U8 w rd f c)(m:Kp w w'):U8 w' rd f c:=by obtain⟨k,h1,h2,h3⟩:=h.ex;exact⟨k,h1,h2,λw2 b op r m2=>h3 w2 b op r (m.trans m2)⟩
structure PV.Ok(w:tW)(p:PK)(v:PV):Prop where
 wr:True
 ri:∀w' x,Kp w w'->x.Fit->Calls prog v.k3 (#[.agg x.cells]++v.c3) w' λe w''=>e=.returned (.bool (p.right x))/\aa af w' w''
 e2:Ul v.k2
 e3:Ul v.k3
 rd:U8 w p.read v.f1 v.c1
theorem PV.Ok.kp{w w':tW}{p:PK}{v:PV}(h:v.Ok w p)(m:Kp w w'):v.Ok w' p :=
 ⟨trivial,λw2 x m2=>h.ri w2 x (m.trans m2),h.e2,h.e3,h.rd.kp m⟩
def jT(w:tW)(p:PK)(e:Ending)(w':tW):Prop:=∃v:PV,e=.returned (.agg (v.cells p.fills).toArray)/\v.Ok w' p/\aa af w w'
theorem pW(w:tW):Calls prog 83 #[] w λe w'=>jT w .source e w':=by go_enter func83,ntmps83;go_wp2_with fail;refine bodyPost_ret (results_cell_row results83 _ _ w.heap.size 167 _ (0,0) _ rfl (aq.new _ _ _) underlying167 rfl (by kernel_rfl)) rfl ⟨⟨_,_,_,_,_,_⟩,rfl,?_,(aa.refl _ _).alloc _⟩;exact⟨trivial,λw' x _ hx=>by simpa using UN x hx w',enters_of func140 (by kernel_rfl) rfl,enters_of func142 (by kernel_rfl) rfl,⟨_,rfl,enters_of func138 (by kernel_rfl) rfl,λw' b op r _ hE h hl=>by simpa [PK.read]using Rh b op r w' h hl hE⟩⟩
theorem BF(w:tW):Calls prog 93 #[] w λe w'=>e=.returned (.agg #[.int .i64 1,.func (.func 175) #[] #[],.func (.func 176) #[] #[],.func (.func 177) #[] #[]])/\aa af w w':=by go_enter func93,ntmps93;go_wp2_with fail;exact bodyPost_ret (results_cell_row results93 _ _ w.heap.size 167 _ (0,0) _ rfl (aq.new _ _ _) underlying167 rfl (by kernel_rfl)) rfl ⟨rfl,(aa.refl _ _).alloc _⟩
theorem nQ(w:tW):Calls prog 93 #[] w λe w'=>jT w .operand e w' :=
 (BF w).mono λ_ _ h=>⟨⟨_,_,_,_,_,_⟩,h.1,⟨trivial,λw' x _ hx=>by simpa using UO x hx w',enters_of func176 (by kernel_rfl) rfl,enters_of func177 (by kernel_rfl) rfl,⟨_,rfl,enters_of func175 (by kernel_rfl) rfl,λw' b op r _ hE h hl=>by simpa [PK.read]using Gm b op r w' h hl hE⟩⟩,h.2⟩
theorem uR(w:tW):Calls prog 84 #[] w λe w'=>jT w .number e w':=by go_enter func84,ntmps84;go_wp2_with fail;refine bodyPost_ret (results_cell_row results84 _ _ w.heap.size 167 _ (0,0) _ rfl (aq.new _ _ _) underlying167 rfl (by kernel_rfl)) rfl ⟨⟨_,_,_,_,_,_⟩,rfl,?_,(aa.refl _ _).alloc _⟩;exact⟨trivial,λw' x _ hx=>by simpa [PK.right]using rP x w',enters_of func145 (by kernel_rfl) rfl,enters_of func147 (by kernel_rfl) rfl,⟨_,rfl,enters_of func143 (by kernel_rfl) rfl,λw' b op r _ hE h hl=>by simpa [PK.read]using Rl b op r w' h hl⟩⟩
theorem xQ(w:tW):Calls prog 94 #[] w λe w'=>jT w .label e w':=by go_enter func94,ntmps94;go_wp2_with fail;refine bodyPost_ret (results_cell_row results94 _ _ w.heap.size 167 _ (0,0) _ rfl (aq.new _ _ _) underlying167 rfl (by kernel_rfl)) rfl ⟨⟨_,_,_,_,_,_⟩,rfl,?_,(aa.refl _ _).alloc _⟩;exact⟨trivial,λw' x _ hx=>by simpa [PK.right]using rP x w',enters_of func179 (by kernel_rfl) rfl,enters_of func147 (by kernel_rfl) rfl,⟨_,rfl,enters_of func178 (by kernel_rfl) rfl,λw' b op r _ hE h hl=>by simpa [PK.read]using Ri b op r w' h hl⟩⟩
theorem uS(w:tW):Calls prog 99 #[] w λe w'=>jT w .offset e w':=by go_enter func99,ntmps99;go_wp2_with fail;refine bodyPost_ret (results_cell_row results99 _ _ w.heap.size 167 _ (0,0) _ rfl (aq.new _ _ _) underlying167 rfl (by kernel_rfl)) rfl ⟨⟨_,_,_,_,_,_⟩,rfl,?_,(aa.refl _ _).alloc _⟩;exact⟨trivial,λw' x _ hx=>by simpa [PK.right]using rP x w',enters_of func198 (by kernel_rfl) rfl,enters_of func147 (by kernel_rfl) rfl,⟨_,rfl,enters_of func197 (by kernel_rfl) rfl,λw' b op r _ hE h hl=>by simpa [PK.read]using Rn b op r w' h hl⟩⟩
theorem Rq(w:tW):Calls prog 103 #[] w λe w'=>jT w .wide e w':=by go_enter func103,ntmps103;go_wp2_with fail;refine bodyPost_ret (results_cell_row results103 _ _ w.heap.size 167 _ (0,0) _ rfl (aq.new _ _ _) underlying167 rfl (by kernel_rfl)) rfl ⟨⟨_,_,_,_,_,_⟩,rfl,?_,(aa.refl _ _).alloc _⟩;exact⟨trivial,λw' x _ hx=>by simpa using Q3 x hx w',enters_of func204 (by kernel_rfl) rfl,enters_of func205 (by kernel_rfl) rfl,⟨_,rfl,enters_of func203 (by kernel_rfl) rfl,λw' b op r _ hE h hl=>by simpa [PK.read]using MF b op r w' h hl⟩⟩
theorem mJ(w:tW):Calls prog 81 #[] w λe w'=>jT w .result e w':=by
 go_enter func81,ntmps81;go_wp2_with fail;refine(BF _).mono ?_;rintro e w1 ⟨rfl,m1⟩;have hz:aq (w1.alloc (.cells #[.int .i64 1,.func (.func 175) #[] #[],.func (.func 176) #[] #[],.func (.func 136) #[] #[]] 167)) w.heap.size #[.int .i64 0,.nilFunc,.nilFunc,.nilFunc] 167:=((aq.new w _ _).ah m1 id).alloc _;have z0:=hz.cell 0;have z1:=hz.cell 1;have z2:=hz.cell 2;have z3:=hz.cell 3;have f0:=hz.frozen 0;have f1':=hz.frozen 1;have f2:=hz.frozen 2;have f3:=hz.frozen 3;simp at z0 z1 z2 z3;go_wp2_with fail;refine bodyPost_ret (results_cell_row results81 _ _ w.heap.size 167 _ (0,0) _ rfl ((((hz.set 0 _).set 1 _).set 2 _).set 3 _) underlying167 rfl (by kernel_rfl)) rfl ⟨⟨_,_,_,_,_,_⟩,rfl,?_,?_⟩
 ·exact⟨trivial,λw' x _ hx=>by simpa using UQ x hx w',enters_of func176 (by kernel_rfl) rfl,enters_of func136 (by kernel_rfl) rfl,⟨_,rfl,enters_of func175 (by kernel_rfl) rfl,λw' b op r _ hE h hl=>by simpa [PK.read]using Gm b op r w' h hl hE⟩⟩
 ·iterate 4 refine aa.set ?_ (.inr (by simp)) _
  exact(((aa.refl _ _).alloc _).trans m1).alloc _
abbrev Qd(b g:Nat):tAV:=#[.int .i64 0,.func (.func 231) #[] #[.pointer (some ⟨b,0,none⟩)],.func (.func 232) #[] #[.pointer (some ⟨g,0,none⟩)],.func (.func 147) #[] #[]]
theorem Dj(w:tW)(b:Nat)(t:tBA):Calls prog 137 #[.int .u8 b,.string t] w λe w' => e=.returned (.agg (Qd w.heap.size (w.heap.size+1)))/\aq w' (w.heap.size+1) #[.string t] 9/\aq w' w.heap.size #[.int .u8 b] 5/\aa af w w':=by
 have hb3:aq (((w.alloc (.cells #[.int .u8 b] 5)).alloc (.cells #[.string t] 9)).alloc (.cells (Qd w.heap.size (w.heap.size+1)) 167)) (w.heap.size+1+1) (Qd w.heap.size (w.heap.size+1)) 167:=by
  have:=aq.new ((w.alloc (.cells #[.int .u8 b] 5)).alloc (.cells #[.string t] 9)) (Qd w.heap.size (w.heap.size+1)) 167
  simpa using this
 have hb:aq ((w.alloc (.cells #[.int .u8 b] 5)).alloc (.cells #[.string t] 9)) (w.heap.size+1) #[.string t] 9:=by
  have:=aq.new (w.alloc (.cells #[.int .u8 b] 5)) #[.string t] 9
  simpa using this
 go_enter func137,ntmps137;go_wp2_with fail;exact bodyPost_ret (results_cell_row results137 _ _ (w.heap.size+1+1) 167 _ (0,0) _ rfl hb3 underlying167 rfl (by kernel_rfl)) rfl ⟨rfl,hb.alloc _,((aq.new w _ _).alloc _).alloc _,(((aa.refl _ _).alloc _).alloc _).alloc _⟩
theorem Ij(w:tW)(b g:Nat)(t:tBA)(p:PK)(hw:∀x,T (p.write x)=t)(hr:∀x,p.right x=true)(hb:aq w g #[.string t] 9)(c:UInt8)(hc:∀r,p.read r=r.mark c)(hB:aq w b #[.int .u8 (c.toNat:Int)] 5):PV.Ok w p ⟨.func 231,#[.pointer (some ⟨b,0,none⟩)],232,#[.pointer (some ⟨g,0,none⟩)],147,#[]⟩:=by exact⟨trivial,λw' x _ hx=>by rw[hr];simpa using rP x w',enters_of func232 (by kernel_rfl) rfl,enters_of func147 (by kernel_rfl) rfl,⟨_,rfl,enters_of func231 (by kernel_rfl) rfl,λw' b' op r m _ h hl=>by rw[hc];exact ME b' b c op r w' h (hB.kp m (by decide)) hl⟩⟩
theorem gH(w:tW):Calls prog 82 #[] w λe w'=>jT w .comma e w':=by
 go_enter func82,ntmps82;go_wp2_with fail;refine(Dj _ 44 (T [44,32])).mono ?_;rintro e w1 ⟨rfl,hb1,hB1,m1⟩;have hz:aq w1 w.heap.size #[.int .i64 0,.nilFunc,.nilFunc,.nilFunc] 167:=(aq.new w _ _).ah m1 id;have z0:=hz.cell 0;have z1:=hz.cell 1;have z2:=hz.cell 2;have z3:=hz.cell 3;have f0:=hz.frozen 0;have f1:=hz.frozen 1;have f2:=hz.frozen 2;have f3:=hz.frozen 3;simp at z0 z1 z2 z3 hb1 hB1;go_wp2_with fail;refine bodyPost_ret (results_cell_row results82 _ _ w.heap.size 167 _ (0,0) _ rfl ((((hz.set 0 _).set 1 _).set 2 _).set 3 _) underlying167 rfl (by kernel_rfl)) rfl ⟨⟨_,_,_,_,_,_⟩,rfl,?_,?_⟩
 ·refine Ij _ _ _ (T [44,32]) .comma (λ_=>rfl) (λ_=>rfl) ?_ 44 (λ_=>rfl) ?_
  ·iterate 4 refine aq.setOther ?_ (by simp;omega) _
   exact hb1
  ·iterate 4 refine aq.setOther ?_ (by simp) _
   exact hB1
 ·iterate 4 refine aa.set ?_ (.inr (by simp)) _
  exact((aa.refl _ _).alloc _).trans m1
theorem xR(w:tW):Calls prog 98 #[] w λe w'=>jT w .opens e w':=by
 go_enter func98,ntmps98;go_wp2_with fail;refine(Dj _ 91 (T [91])).mono ?_;rintro e w1 ⟨rfl,hb1,hB1,m1⟩;have hz:aq w1 w.heap.size #[.int .i64 0,.nilFunc,.nilFunc,.nilFunc] 167:=(aq.new w _ _).ah m1 id;have z0:=hz.cell 0;have z1:=hz.cell 1;have z2:=hz.cell 2;have z3:=hz.cell 3;have f0:=hz.frozen 0;have f1:=hz.frozen 1;have f2:=hz.frozen 2;have f3:=hz.frozen 3;simp at z0 z1 z2 z3 hb1 hB1;go_wp2_with fail;refine bodyPost_ret (results_cell_row results98 _ _ w.heap.size 167 _ (0,0) _ rfl ((((hz.set 0 _).set 1 _).set 2 _).set 3 _) underlying167 rfl (by kernel_rfl)) rfl ⟨⟨_,_,_,_,_,_⟩,rfl,?_,?_⟩
 ·refine Ij _ _ _ (T [91]) .opens (λ_=>rfl) (λ_=>rfl) ?_ 91 (λ_=>rfl) ?_
  ·iterate 4 refine aq.setOther ?_ (by simp;omega) _
   exact hb1
  ·iterate 4 refine aq.setOther ?_ (by simp) _
   exact hB1
 ·iterate 4 refine aa.set ?_ (.inr (by simp)) _
  exact((aa.refl _ _).alloc _).trans m1
theorem Ay(w:tW):Calls prog 100 #[] w λe w'=>jT w .shut e w':=by
 go_enter func100,ntmps100;go_wp2_with fail;refine(Dj _ 93 (T [93])).mono ?_;rintro e w1 ⟨rfl,hb1,hB1,m1⟩;have hz:aq w1 w.heap.size #[.int .i64 0,.nilFunc,.nilFunc,.nilFunc] 167:=(aq.new w _ _).ah m1 id;have z0:=hz.cell 0;have z1:=hz.cell 1;have z2:=hz.cell 2;have z3:=hz.cell 3;have f0:=hz.frozen 0;have f1:=hz.frozen 1;have f2:=hz.frozen 2;have f3:=hz.frozen 3;simp at z0 z1 z2 z3 hb1 hB1;go_wp2_with fail;refine bodyPost_ret (results_cell_row results100 _ _ w.heap.size 167 _ (0,0) _ rfl ((((hz.set 0 _).set 1 _).set 2 _).set 3 _) underlying167 rfl (by kernel_rfl)) rfl ⟨⟨_,_,_,_,_,_⟩,rfl,?_,?_⟩
 ·refine Ij _ _ _ (T [93]) .shut (λ_=>rfl) (λ_=>rfl) ?_ 93 (λ_=>rfl) ?_
  ·iterate 4 refine aq.setOther ?_ (by simp;omega) _
   exact hb1
  ·iterate 4 refine aq.setOther ?_ (by simp) _
   exact hB1
 ·iterate 4 refine aa.set ?_ (.inr (by simp)) _
  exact((aa.refl _ _).alloc _).trans m1
structure PartsAt(w:tW)(v:Value)(ps:List PK):Prop where
 ex:∃pv:List (PK×PV),pv.map (·.1)=ps/\(∀x∈pv,x.2.Ok w x.1)/\Sl w 167 4 v pv.length (pv.flatMap (λx=>x.2.cells x.1.fills))
theorem PartsAt.kp{w w':tW}{v:Value}{ps:List PK}(h:PartsAt w v ps)(m:Kp w w'):PartsAt w' v ps:=by obtain⟨pv,h1,h2,h3⟩:=h.ex;exact⟨pv,h1,λx hx=>(h2 x hx).kp m,h3.kp m (by decide)⟩
theorem PartsAt.ah{w w':tW}{v:Value}{ps:List PK}(h:PartsAt w v ps)(m:aa af w w'):PartsAt w' v ps:=h.kp m.kp
theorem Dk{w:tW}{pv:List (PK×PV)}{v:Value}(h:Sl w 167 4 v pv.length (pv.flatMap (λx=>x.2.cells x.1.fills))){o:Option Addr}{c:Nat}(hv:v=.slice o pv.length c)(k:Nat)(hk:k<pv.length):∃g,o=some ⟨g,0,none⟩/\g<w.heap.size/\w.cell? ⟨g,k*4,none⟩=some (.int .i64 pv[k].1.fills)/\w.cell? ⟨g,k*4+1,none⟩=some (.func pv[k].2.f1 #[] pv[k].2.c1) /\ w.cell? ⟨g,k*4+2,none⟩=some (.func (.func pv[k].2.k2) #[] pv[k].2.c2)/\w.cell? ⟨g,k*4+3,none⟩=some (.func (.func pv[k].2.k3) #[] pv[k].2.c3):=by
 obtain⟨o',c',hv',h2⟩:=h.view;rw[hv]at hv';cases hv';obtain⟨g,cs,rfl,hb,ht,_⟩:=h2 (by omega);refine⟨g,rfl,hb.lt,?_,?_,?_,?_⟩
 all_goals rw[bA hb ht _ (by omega)]
 ·exact(flat_get (λx:PK×PV=>x.2.cells x.1.fills) 4 (λ_=>rfl) pv k 0 hk (by omega)).trans rfl
 ·exact(flat_get (λx:PK×PV=>x.2.cells x.1.fills) 4 (λ_=>rfl) pv k 1 hk (by omega)).trans rfl
 ·exact(flat_get (λx:PK×PV=>x.2.cells x.1.fills) 4 (λ_=>rfl) pv k 2 hk (by omega)).trans rfl
 ·exact(flat_get (λx:PK×PV=>x.2.cells x.1.fills) 4 (λ_=>rfl) pv k 3 hk (by omega)).trans rfl

theorem yX(f b:Nat)(hf:f<16)(hb:b<16):bits .and .i64 (f:Int) (b:Int)=((f &&& b:Nat):Int) :=
 (bits_nat .i64 4 (by decide) (λn h0 h1=>by rw[IntKind.wrap_i64];omega) f b (by omega) (by omega)).1
theorem U9(f b:Nat)(hf:f<16)(hb:b<16):bits .or .i64 (f:Int) (b:Int)=((f ||| b:Nat):Int) :=
 (bits_nat .i64 4 (by decide) (λn h0 h1=>by rw[IntKind.wrap_i64];omega) f b (by omega) (by omega)).2
theorem Dl(x:iw)(f:Nat)(hf:f<16)(w:tW):Calls prog 209 #[.agg x.cells,.int .i64 f] w λe w'=>e=.returned (.bool (dA x f))/\aa af w w':=by
 obtain⟨op,d,s,jump,num,high,label,name⟩:=x;unfold iw.cells at *;simp only at *;have a0:bits .and .i64 (f:Int) 1=((f%2:Nat):Int):=by rw[<-Nat.and_one_is_mod];exact yX f 1 hf (by omega)
 have a1:bits .and .i64 (f:Int) 2=((f &&& 2:Nat):Int):=yX f 2 hf (by omega);have a2:bits .and .i64 (f:Int) 4=((f &&& 4:Nat):Int):=yX f 4 hf (by omega);have a3:bits .and .i64 (f:Int) 8=((f &&& 8:Nat):Int):=yX f 8 hf (by omega);go_enter func209,ntmps209;go_wp2_with fail
 all_goals (go_ret;refine⟨?_,(aa.refl _ _).alloc _⟩)
 all_goals first
  |(simp[dA, *];done)
  |(simp[dA, *];rfl)
  |(have hz:f%2=0:=(by omega);simp[dA, *];done)
  |(have hz:f%2=0:=(by omega);simp[dA, *];rfl)
  |(have hz:f%2≠0:=(by omega);simp[dA, *];done)
  |(have hz:f%2≠0:=(by omega);simp[dA, *];rfl)
theorem Kn(p:PK):p.fills<16:=by unfold PK.fills;split<;>decide
theorem Gp(ps:List PK):dZ ps<16:=by
 have h:∀(l:List PK) (f:Nat),f<16->l.foldl (λf p=>f ||| p.fills) f<16:=by
  intro l;induction l with
  |nil=>intro f h;exact h
  |cons p l ih=>intro f h;exact ih _ (Nat.or_lt_two_pow (n:=4) h (Kn p))
 exact h ps 0 (by decide)
structure abm(w:tW)(X:tAV)(pv:List (PK×PV))(ri:Nat->Bool):Prop where
 call:∀k (hk:k<pv.length) w',aa af w w'->Calls prog pv[k].2.k3 (#[.agg X]++pv[k].2.c3) w' λe w''=>e=.returned (.bool (ri k))/\aa af w' w''
 en:∀k (hk:k<pv.length),Ul pv[k].2.k3
theorem acV(x:iw)(hx:x.Fit)(w:tW)(pv:List (PK×PV))(hok:∀y∈pv,y.2.Ok w y.1):abm w x.cells pv (λk=>if h:k<pv.length then PK.right x pv[k].1 else false) where
 call:=λk hk w' m=>by
  have:=(hok pv[k] (an hk)).ri w' x m.kp hx
  simpa only[dif_pos hk]using this
 en:=λk hk=>(hok pv[k] (an hk)).e3
theorem Va(op:Value)(d s:Nat)(jump num high:Int)(label name:tBA)(w:tW)(b1 b2 f:Nat)(hf:f<16)(o:Option Addr)(c:Nat)(pv:List (PK×PV))(hp:aq w b1 #[.slice o pv.length c] 169)(hf2:aq w b2 #[.int .i64 f] 165)(hS:Sl w 167 4 (.slice o pv.length c) pv.length (pv.flatMap (λx=>x.2.cells x.1.fills))) (hpl:pv.length<=10) (ri:Nat->Bool) (hL:abm w #[op,.int .u8 d,.int .u8 s,.int .i16 jump,.int .i32 num,.int .i32 high,.string label,.string name] pv ri):Calls prog 241 #[.agg #[op,.int .u8 d,.int .u8 s,.int .i16 jump,.int .i32 num,.int .i32 high,.string label,.string name],.pointer (some ⟨b1,0,none⟩),.pointer (some ⟨b2,0,none⟩)] w λe w' => e=.returned (.bool ((List.range pv.length).all ri&&dA ⟨op,d,s,jump,num,high,label,name⟩ f))/\aa af w w':=by
 have HL:=ak hL;clear hL;have HO:=Dl ⟨op,d,s,jump,num,high,label,name⟩ f hf;generalize dA ⟨op,d,s,jump,num,high,label,name⟩ f=ob at *;unfold iw.cells at HO;simp only at HO;have HO':ae _:=HO;clear HO;have m1:aa af w (w.alloc (.cells #[op,.int .u8 d,.int .u8 s,.int .i16 jump,.int .i32 num,.int .i32 high,.string label,.string name] 117)):=(aa.refl _ _).alloc _;have c1:=(hp.ah m1 id).cell 0;have HI:ae (aq (w.alloc (.cells #[op,.int .u8 d,.int .u8 s,.int .i16 jump,.int .i32 num,.int .i32 high,.string label,.string name] 117)) w.heap.size #[op,.int .u8 d,.int .u8 s,.int .i16 jump,.int .i32 num,.int .i32 high,.string label,.string name] 117):=aq.new ..;have iG:ae _:=m1;have HF:=ak hf2;have HS:=ak hS;simp at c1;clear m1 hf2 hS hp;go_enter func241,ntmps241;go_wp2_with fail;go_loopw [9] (λi wl=>∃k:Nat,k<=pv.length/\i=.int .i64 k/\aa af (w.alloc (.cells #[op,.int .u8 d,.int .u8 s,.int .i16 jump,.int .i32 num,.int .i32 high,.string label,.string name] 117)) wl/\(List.range k).all ri=true) (λi _=>pv.length-(intOf i).toNat)
 case atStart=>exact⟨0,ar _,rfl,aa.refl _ _,rfl⟩
 case round =>
  obtain⟨k,hk,rfl,m2,hr⟩:=hrel;have HR:=ak hr;have ep:=ak (iG.o.trans m2);have HI2:=ak (HI.o.ah m2 id);clear hr;by_cases hlt:k<pv.length
  ·have HC:ae (∀w',aa af w w'->Calls prog pv[k].2.k3 (#[.agg #[op,.int .u8 d,.int .u8 s,.int .i16 jump,.int .i32 num,.int .i32 high,.string label,.string name]]++pv[k].2.c3) w' λe w''=>e=.returned (.bool (ri k))/\aa af w' w''):=HL.o.call k hlt;have hen:=HL.o.en k hlt;obtain⟨g,rfl,hg,q0,q1,q2,q3⟩:=Dk (HS.o.ah ep.o (λ_ _=>id)) rfl k hlt;generalize pv[k]=y at *;obtain⟨pk,f1,c1',k2,c2,k3,c3⟩:=y;simp only at HC q0 q1 q2 q3 hen;unfold Ul at hen;have fw:ae (aa af w (wr.alloc (.cells #[.int .i64 pk.fills,.func f1 #[] c1',.func (.func k2) #[] c2,.func (.func k3) #[] c3] 167))):=ep.o.alloc _;have hI3:aq (wr.alloc (.cells #[.int .i64 pk.fills,.func f1 #[] c1',.func (.func k2) #[] c2,.func (.func k3) #[] c3] 167)) w.heap.size #[op,.int .u8 d,.int .u8 s,.int .i16 jump,.int .i32 num,.int .i32 high,.string label,.string name] 117:=HI2.o.alloc _;obtain⟨i0,i1,i2,i3,i4,i5,i6,i7⟩:=hI3.eY;clear hI3;have HMr:ae _:=m2;clear m2;go_wp2_with fail;refine(HC.o _ fw.o).mono ?_;rintro e w4 ⟨rfl,m4⟩;clear i0 i1 i2 i3 i4 i5 i6 i7;cases hri:ri k with
   |false =>
    have HA:ae ((List.range pv.length).all ri=false):=by rw[ae,List.all_eq_false];exact⟨k,List.mem_range.2 hlt,by simp[hri]⟩
    go_wp2_with fail;go_ret;rw[HA.o];exact⟨rfl,fw.o.trans m4⟩
   |true =>
    go_wp2_with fail;go_roundw
    case rel=>exact⟨k+1,by omega,by go_num,(HMr.o.alloc _).trans m4,by rw[List.range_succ,List.all_append,HR.o];simp[hri]⟩
    case measure=>simp[intOf];omega
  ·have hke:k=pv.length:=by omega
   subst hke;obtain⟨i0,i1,i2,i3,i4,i5,i6,i7⟩:=HI2.o.eY;have c2:=(HF.o.ah ep.o id).cell 0;simp at c2;go_wp2_with fail;refine(HO'.o _).mono ?_;rintro e w4 ⟨rfl,m4⟩;go_wp2_with fail;go_ret;rw[HR.o];exact⟨rfl,ep.o.trans m4⟩
theorem Rs(pv:List (PK×PV))(x:iw):(List.range pv.length).all (λk=>if h:k<pv.length then PK.right x pv[k].1 else false)=(pv.map (·.1)).all (PK.right x):=by
 rw[Bool.eq_iff_iff,bj,bj];constructor
 ·intro h p hp;obtain⟨y,hy,rfl⟩:=List.mem_map.1 hp;obtain⟨k,hk,rfl⟩:=List.getElem_of_mem hy;have:=h k (List.mem_range.2 hk)
  simpa only[dif_pos hk]using this
 ·intro h k hk;have hk':=List.mem_range.1 hk;simp only[dif_pos hk'];exact h _ (List.mem_map.2 ⟨pv[k],an hk',rfl⟩)
theorem Rt(x:iw)(hx:x.Fit)(w:tW)(b1 b2 f:Nat)(v:Value)(ps:List PK)(hf:f<16)(hp:aq w b1 #[v] 169)(hf2:aq w b2 #[.int .i64 f] 165)(hP:PartsAt w v ps)(hpl:ps.length<=10):Calls prog 241 #[.agg x.cells,.pointer (some ⟨b1,0,none⟩),.pointer (some ⟨b2,0,none⟩)] w λe w'=>e=.returned (.bool (ps.all (PK.right x)&&dA x f))/\aa af w w':=by obtain⟨pv,rfl,hok,hS⟩:=hP.ex;obtain⟨o,c,rfl,_⟩:=hS.view;rw[ao]at hpl;have h:=Va x.op x.d x.s x.jump x.num x.high x.label x.name w b1 b2 f hf o c pv hp hf2 hS hpl _ (acV x hx w pv hok);rw[Rs]at h;exact h
def xy(ps:List PK)(k:Nat):Nat:=dZ (ps.take k)
theorem MH(ps:List PK)(k:Nat)(h:k<ps.length):xy ps (k+1)=xy ps k ||| ps[k].fills:=by unfold xy dZ;rw[List.take_succ_eq_append_getElem h,List.foldl_append];rfl
theorem Vb(w:tW)(v:Value)(ps:List PK)(hP:PartsAt w v ps)(hpl:ps.length<=10):Calls prog 166 #[v] w λe w'=>e=.returned (.func (.func 241) #[] #[.pointer (some ⟨w.heap.size,0,none⟩),.pointer (some ⟨w.heap.size+1,0,none⟩)]) /\ aq w' w.heap.size #[v] 169/\aq w' (w.heap.size+1) #[.int .i64 (dZ ps)] 165/\aa af w w':=by
 obtain⟨pv,rfl,hok,hS⟩:=hP.ex;clear hok hP;obtain⟨o,c,rfl,_⟩:=hS.view;rw[ao]at hpl;have HE:ae (xy (pv.map (·.1)) pv.length=dZ (pv.map (·.1))):=by rw[ae,xy,ba (by simp)]
 have HSt:ae (∀k (h:k<pv.length),xy (pv.map (·.1)) (k+1)=xy (pv.map (·.1)) k ||| pv[k].1.fills):=λk h=>by
  have:=MH (pv.map (·.1)) k (by simpa using h)
  simpa using this
 have HLt:ae (∀k,xy (pv.map (·.1)) k<16):=λk=>Gp _;have H0:ae (xy (pv.map (·.1)) 0=0):=rfl;rw[<-HE.o];clear HE;generalize xy (pv.map (·.1))=F at *;have hb1:aq ((w.alloc (.cells #[.slice o pv.length c] 169)).alloc (.cells #[.int .i64 0] 165)) w.heap.size #[.slice o pv.length c] 169:=(aq.new w _ _).alloc _
 have hb2:aq ((w.alloc (.cells #[.slice o pv.length c] 169)).alloc (.cells #[.int .i64 0] 165)) (w.heap.size+1) #[.int .i64 0] 165:=by
  have:=aq.new (w.alloc (.cells #[.slice o pv.length c] 169)) #[.int .i64 0] 165
  simpa using this
 have HM:ae (aa af w ((w.alloc (.cells #[.slice o pv.length c] 169)).alloc (.cells #[.int .i64 0] 165))):=((aa.refl _ _).alloc _).alloc _;have HB1:=ak hb1;have HB2:=ak hb2;have HS:=ak hS;clear hS hb1 hb2;go_enter func166,ntmps166;go_wp2_with fail;go_loopw [8] (λi wl=>∃k:Nat,k<=pv.length/\i=.int .i64 k/\aa af w wl/\aq wl w.heap.size #[.slice o pv.length c] 169/\aq wl (w.heap.size+1) #[.int .i64 (F k)] 165) (λi _=>pv.length-(intOf i).toNat)
 case atStart=>exact⟨0,ar _,rfl,HM.o,HB1.o,by rw[H0.o];exact HB2.o⟩
 case round =>
  obtain⟨k,hk,rfl,m,h1,h2⟩:=hrel;by_cases hlt:k<pv.length
  ·obtain⟨g,rfl,hg,q0,q1,q2,q3⟩:=Dk (HS.o.ah m (λ_ _=>id)) rfl k hlt;have hst:=HSt.o k hlt;have hl:=HLt.o k;have hfl:=Kn pv[k].1;have ho:=U9 (F k) pv[k].1.fills hl hfl;rw[<-hst]at ho;have HK:=ak hst;clear hst;generalize pv[k]=y at *;obtain⟨pk,f1,c1,k2,c2,k3,c3⟩:=y;simp only at q0 q1 q2 q3 ho hfl;have h1':=h1.alloc (.cells #[.int .i64 pk.fills,.func f1 #[] c1,.func (.func k2) #[] c2,.func (.func k3) #[] c3] 167);have h2':=h2.alloc (.cells #[.int .i64 pk.fills,.func f1 #[] c1,.func (.func k2) #[] c2,.func (.func k3) #[] c3] 167);have z2:=h2'.cell 0;have zf:=h2'.frozen 0;simp at z2;have HA:=ak h1';have HB:=ak h2';have uk:=ak m;clear h1 h2 h1' h2' m HK;go_wp2_with fail;go_roundw
   case rel=>exact⟨k+1,by omega,by go_num,(uk.o.alloc _).set (.inr (by simp)) _,HA.o.setOther (by simp) _,HB.o.set 0 _⟩
   case measure=>simp[intOf];omega
  ·have hke:k=pv.length:=by omega
   subst hke;go_wp2_with fail;go_ret;exact⟨rfl,h1,h2,m⟩
theorem Sl.fresh{w:tW}{g n:Nat}{cs:tAV}{e:TypeId}(h:aq w g cs e)(hn:cs.size=n)(hm:n<=maxLen):Sl w e 1 (.slice (some ⟨g,0,none⟩) n n) n cs.toList:=by refine⟨by simp[hn],.inr ⟨g,n,cs,rfl,ar _,h,Nat.le_refl _,hm,by simp[hn],?_⟩⟩;rw[Nat.mul_one,<-hn];exact ba (by simp)
theorem Qe{l:tLB}{x:aA×tLB}(h:bJ l=some x):x.2.length<=l.length:=by
 have h1:=rR 45 l;have h2:=kX (aL 45 l);unfold bJ at h;split at h
 ·cases h
 ·obtain⟨v,_,rfl⟩:=Option.map_eq_some_iff.1 h;show(aC (aL 45 l)).2.length<=_
  omega
theorem YW(p:PK)(r r':bE)(h:p.read r=some r'):r'.rest.length<=r.rest.length:=by
 have hw:=kX r.rest
 have hm:∀c:UInt8,r.mark c=some r'->r'.rest.length<=r.rest.length:=λc h=>by
  unfold bE.mark at h;split at h
  ·cases h;exact rR c r.rest
  ·cases h
 have hd:r.pQ=some r'->r'.rest.length<=r.rest.length:=λh=>by unfold bE.pQ at h;obtain⟨v,_,rfl⟩:=Option.map_eq_some_iff.1 h;exact hw.2
 have hs:r.wS=some r'->r'.rest.length<=r.rest.length:=λh=>by unfold bE.wS at h;obtain⟨v,_,rfl⟩:=Option.map_eq_some_iff.1 h;exact hw.2
 have hn:r.number=some r'->r'.rest.length<=r.rest.length:=λh=>by unfold bE.number at h;obtain⟨v,hv,rfl⟩:=Option.map_eq_some_iff.1 h;exact Qe hv
 have hl:r.lab=some r'->r'.rest.length<=r.rest.length:=λh=>by
  unfold bE.lab at h;split at h
  ·cases h;exact hw.2
  ·cases h
 have ho:r.off=some r'->r'.rest.length<=r.rest.length:=λh=>by
  unfold bE.off at h;split at h
  ·obtain⟨v,hv,rfl⟩:=Option.map_eq_some_iff.1 h;have h1:=rR 45 r.rest;have h2:=kX (aL 45 r.rest);show(aC (aL 45 r.rest)).2.length<=_
   omega
  ·split at h
   ·obtain⟨v,hv,rfl⟩:=Option.map_eq_some_iff.1 h;have h1:=rR 43 r.rest;have h2:=kX (aL 43 r.rest);show(aC (aL 43 r.rest)).2.length<=_
    omega
   ·cases h;exact iY r.rest
 have hwd:r.wide=some r'->r'.rest.length<=r.rest.length:=λh=>by
  unfold bE.wide at h;split at h
  ·split at h
   ·cases h;have h2:=kX (aC r.rest).2;show(aC (aC r.rest).2).2.length<=_
    omega
   ·cases h
  ·obtain⟨v,hv,rfl⟩:=Option.map_eq_some_iff.1 h;exact Qe hv
 unfold PK.read at h;split at h
 ·exact hm _ h
 ·exact hm _ h
 ·exact hm _ h
 ·exact hd h
 ·exact hd h
 ·exact hs h
 ·exact hn h
 ·exact hl h
 ·exact ho h
 ·exact hwd h
 ·cases h
theorem Ko(ps:List PK)(k:Nat)(h:k<ps.length)(r:bE):ahQ (ps.drop k) r=(ps[k].read r).bind (ahQ (ps.drop (k+1))):=by rw[List.drop_eq_getElem_cons h,ahQ]
theorem Ru(b bp:Nat)(op:Value)(r:bE)(v:Value)(ps:List PK)(w:tW)(hb:aq w b (r.cells op) 209)(hp:aq w bp #[v] 169)(hP:PartsAt w v ps)(hpl:ps.length<=10)(hl:r.rest.length<=1000000)(hE:∀w',aa (Only b) w w'->Env w'):Calls prog 237 #[.pointer (some ⟨b,0,none⟩),.pointer (some ⟨bp,0,none⟩)] w λe w'=>bK w b op (ahQ ps r) e w':=by
 obtain⟨pv,rfl,hok,hS⟩:=hP.ex;obtain⟨o,c,rfl,_⟩:=hS.view;rw[ao]at hpl;have Yd:=ak hok;have HS:=ak hS;have HB:=ak hb;have HE:=ak hE;have c0:w.cell? ⟨bp,0,none⟩=some (.slice o pv.length c):=hp.cell 0;have gU:ae (∀k,(Value.slice o pv.length c).ownBlock=some k->k≠b):=λk hk e=>by subst e;exact hS.az hb (by decide) hk
 have HB0:=ak hb;clear hok hS hP hb hE hp;have uI:ae (∀e w',bK w b op (ahQ (pv.map (·.1)) r) e w'->bK w b op (ahQ (pv.map (·.1)) r) e w'):=λ_ _ h=>h;generalize hRP:bK w b op (ahQ (pv.map (·.1)) r)=RP at *;have HRP:=ak hRP;clear hRP uI;go_enter func237,ntmps237;go_wp2_with fail;go_loopg [8] pv.length (λq v wx=>∃(k:Nat) (rk:bE),k<=pv.length/\v=.int .i64 k/\aq wx b (rk.cells op) 209/\aa (Only b) w wx/\ahQ ((pv.map (·.1)).drop k) rk=ahQ (pv.map (·.1)) r/\rk.rest.length<=1000000/\q=pv.length-k)
 case atStart=>exact⟨0,r,ar _,rfl,HB.o,aa.refl _ _,rfl,hl,rfl⟩
 case round =>
  obtain⟨k,rk,hk,rfl,hbk,hmk,hrk,hlk,rfl⟩:=hrel;have qk:=ak hbk;have uk:=ak hmk;have wU:=ak hrk;clear hbk hmk hrk HB c0;by_cases hlt:k<pv.length
  ·have HRs:ae (ahQ (pv.map (·.1)) r=(pv[k].1.read rk).bind (ahQ ((pv.map (·.1)).drop (k+1)))):=by rw[ae,<-wU.o,Ko _ k (by simpa using hlt)];simp
   have HOx:=Yd.o pv[k] (an hlt);obtain⟨k1,hf1,hen,hrd⟩:=HOx.rd.ex;have HSk:=HS.o.ah uk.o (λi hi e=>gU.o i hi e);obtain⟨g,rfl,hg,q0,q1,q2,q3⟩:=Dk HSk rfl k hlt;rw[hf1]at q1;have YX:=ak hrd;have Dm:ae (∀r',pv[k].1.read rk=some r'->r'.rest.length<=rk.rest.length):=YW pv[k].1 rk;clear HOx hf1 hrd HSk wU;generalize pv[k]=y at *;obtain⟨pk,f1,c1,k2,c2,k3,c3⟩:=y;dsimp only at *;unfold Ul at hen;have HB3:ae (aq (wr.alloc (.cells #[.int .i64 pk.fills,.func (.func k1) #[] c1,.func (.func k2) #[] c2,.func (.func k3) #[] c3] 167)) b (rk.cells op) 209):=qk.o.alloc _;have fw:ae (aa (Only b) w (wr.alloc (.cells #[.int .i64 pk.fills,.func (.func k1) #[] c1,.func (.func k2) #[] c2,.func (.func k3) #[] c3] 167))):=uk.o.alloc _;go_wp2_with fail;refine(YX.o _ b op rk ?_ ?_ HB3.o hlk).mono ?_
   ·exact aa.aed HB0.o fw.o
   ·exact λw'' m=>HE.o _ (fw.o.trans m)
   intro e w4 hpo;obtain⟨rfl,hm4,hat⟩:=hpo;have jJ:=ak (fw.o.trans hm4);have HAT:=ak hat;clear hm4 hat HB3 fw YX qk uk q0 q1 q2 q3;cases hx:pk.read rk with
   |none =>
    have HX:ae (ahQ (pv.map (·.1)) r=none):=by rw[ae,HRs.o,hx];rfl
    go_wp2_with fail;rw[<-HRP.o];exact⟨by rw[HX.o];rfl,jJ.o,λr' hr'=>by rw[HX.o]at hr';cases hr'⟩
   |some r' =>
    have HX:ae (ahQ ((pv.map (·.1)).drop (k+1)) r'=ahQ (pv.map (·.1)) r):=by rw[ae,HRs.o,hx];rfl
    have hle:=Dm.o r' hx;have hB4:=HAT.o r' hx;go_wp2_with fail;go_roundg (pv.length-(k+1))
    case measure=>omega
    case rel=>exact⟨k+1,r',by omega,by go_num,hB4,jJ.o,HX.o,by omega,rfl⟩
  ·have hke:k=pv.length:=by omega
   subst hke;have HX:ae (ahQ (pv.map (·.1)) r=some rk):=by rw[ae,<-wU.o,List.drop_eq_nil_of_le (by simp)];rfl
   go_wp2_with fail;rw[<-HRP.o];exact⟨by rw[HX.o];rfl,uk.o,λr' hr'=>by rw[HX.o]at hr';cases hr';exact qk.o⟩
