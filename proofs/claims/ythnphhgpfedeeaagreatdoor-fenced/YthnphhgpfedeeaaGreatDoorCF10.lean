import Derived.Test.YthnphhgpfedeeaaGreatDoorCF09
namespace Go.Proofs.YthnphhgpfedeeaaGreatDoor
open Go.RowKit Tryz
open List renaming dropWhile_cons->ab
open Option renaming not_isSome->al
set_option linter.all false
set_option maxRecDepth 100000
set_option maxHeartbeats 2000000
def qP:tAV:=#[.bool false,.int .u64 0,.bool false]
theorem uW(b o:Nat)(cs:tAV)(t:TypeId)(l:tLB)(w:tW)(h:kT w b o cs t l)(hl:l.length<=1000000):Calls prog 272 #[.pointer (some ⟨b,o,none⟩)] w λe w'=>e=.returned (.tuple #[(bC.mk ((cK (aG l).1).getD 0) false).eQ,.bool (cK (aG l).1).isSome])/\aQ w b o cs t (aG l).2 w':=by
 have m0:aa ae w (w.alloc (.cells qP 157)):=aj;have HW:af (Calls prog 137 #[.pointer (some ⟨b,o,none⟩)] (w.alloc (.cells qP 157)) λe w'=>e=.returned (.string (T (aG l).1))/\aQ (w.alloc (.cells qP 157)) b o cs t (aG l).2 w'):=il b o cs t l _ (h.ag m0) hl;have hle:=kK l;have HR:af (∀w',Calls prog 325 #[.string (T (aG l).1)] w' λe w''=>e=.returned (.tuple #[(bC.mk ((cK (aG l).1).getD 0) false).eQ,.bool (cK (aG l).1).isSome])/\aa ae w' w''):=λw'=>Nu _ w' (by omega);have hbl:b<w.heap.size:=h.blk.lt;have HZ:af (ak (w.alloc (.cells qP 157)) w.heap.size qP 157):=ak.new w _ _;generalize cK (aG l).1=rx at *;generalize aG l=wl at *;obtain⟨w1,w2⟩:=wl;simp only at *;have eX:=ai m0;clear m0;unfold bC.eQ qP at *;dsimp only at *;generalize(((rx.getD 0)%18446744073709551616:Nat):Int)=u at *;generalize decide (18446744073709551616<=rx.getD 0)=bg at *;generalize hw0:w.alloc (.cells #[.bool false,.int .u64 0,.bool false] 157)=w0 at *;go_enter func272,ntmps272;go_wp2_with fail;refine HW.o.mono ?_;rintro e wa ⟨rfl,hp⟩;have HP:=ai hp;have HZ1:af (ak wa w.heap.size #[.bool false,.int .u64 0,.bool false] 157):=HZ.o.ag hp.2 (λe=>by have:w.heap.size=b:=e;omega);clear hp HW HZ;go_wp2_with fail;refine(HR.o _).mono ?_;rintro e wb ⟨rfl,m1⟩;have qQ:=ai (HP.o.quiet m1);have HZ2:=ai (HZ1.o.ag m1 id);clear HP HZ1 m1 HR;have z0:wb.cell? ⟨w.heap.size,0,none⟩=some (.bool false):=HZ2.o.cell 0;have z1:wb.cell? ⟨w.heap.size,1,none⟩=some (.int .u64 0):=HZ2.o.cell 1;have z2:wb.cell? ⟨w.heap.size,2,none⟩=some (.bool false):=HZ2.o.cell 2;have zf:=HZ2.o.frozen;go_wp2_with fail;refine bodyPost_ret (aw results272 _ _ w.heap.size 157 _ (0,0) _ _ rfl rfl (((HZ2.o.set 0 _).set 1 _).set 2 _) underlying157 rfl (by kernel_rfl)) rfl ⟨rfl,?_⟩;refine⟨⟨?_,qQ.o.1.at'⟩,?_⟩
 ·iterate 3 refine ak.setOther ?_ (by simp;omega) _
  exact qQ.o.1.blk
 ·iterate 3 refine aa.set ?_ (.inr (by simp)) _
  exact eX.o.of_nil.trans qQ.o.2
theorem Wt(l:tLB)(hh:(aP 45 l&&(aN 45 l).head?==some 32)=false):gz l=(cK (aG (aN 45 l)).1).map (λv=>(⟨v,aP 45 l⟩,(aG (aN 45 l)).2)):=by unfold gz;rw[iN9 (by simp[hh])]
theorem RQ(l:tLB):List.isPrefixOf [32] l=(l.head?==some 32):=by
 cases l with
 |nil=>rfl
 |cons c r =>
  show((32==c)&&true)=_
  rw[Bool.and_true,Bool.eq_iff_iff,beq_iff_eq,beq_iff_eq,List.head?_cons,Option.some.injEq];exact eq_comm
def pY(w:tW)(b o:Nat)(cs:tAV)(t:TypeId)(l:tLB)(e:Ending)(w':tW):Prop :=
 ∃n l',e=.returned (.tuple #[bC.eQ n,.bool (gz l).isSome])/\aQ w b o cs t l' w'/\l'.length<=l.length/\∀x,gz l=some x->x=(n,l')
theorem Gg(b o:Nat)(cs:tAV)(t:TypeId)(l:tLB)(w:tW)(h:kT w b o cs t l)(hl:l.length<=1000000):Calls prog 180 #[.pointer (some ⟨b,o,none⟩)] w λe w'=>pY w b o cs t l e w':=by
 have m0:aa ae w (w.alloc (.cells qP 157)):=aj;have JG:=pX 45 l;have hwl:=kK (aN 45 l);have HW:af (Calls prog 138 #[.pointer (some ⟨b,o,none⟩),.int .u8 45] (w.alloc (.cells qP 157)) λe w'=>e=.returned (.bool (aP 45 l))/\aQ (w.alloc (.cells qP 157)) b o cs t (aN 45 l) w'):=iG b o cs t l 45 _ (h.ag m0) hl;have FP:af (∀w',Calls prog 271 #[.string (T (aN 45 l)),.string (T [32])] w' λe w''=>e=.returned (.bool ((aN 45 l).head?==some 32))/\w''=w'):=λw'=>by rw[<-RQ];exact Gd (aN 45 l) [32] w'
 have HR:af (∀w',kT w' b o (cs.setIfInBounds o (.string (T (aN 45 l)))) t (aN 45 l)->Calls prog 272 #[.pointer (some ⟨b,o,none⟩)] w' λe w''=>e=.returned (.tuple #[(bC.mk ((cK (aG (aN 45 l)).1).getD 0) false).eQ,.bool (cK (aG (aN 45 l)).1).isSome])/\aQ w' b o (cs.setIfInBounds o (.string (T (aN 45 l)))) t (aG (aN 45 l)).2 w''):=λw' hw'=>uW b o _ t (aN 45 l) w' hw' (by omega);have hbl:b<w.heap.size:=h.blk.lt;have HZ:af (ak (w.alloc (.cells qP 157)) w.heap.size qP 157):=ak.new w _ _;have Zd:af ((aP 45 l&&(aN 45 l).head?==some 32)=true->gz l=none):=λhh=>by unfold gz;rw[iP9 hh]
 have HL2:af ((aP 45 l&&(aN 45 l).head?==some 32)=false->gz l=(cK (aG (aN 45 l)).1).map (λv=>(⟨v,aP 45 l⟩,(aG (aN 45 l)).2))):=Wt l;have Ze:af (∀e w',(∃n l',e=.returned (.tuple #[bC.eQ n,.bool (gz l).isSome])/\aQ w b o cs t l' w'/\l'.length<=l.length/\∀x,gz l=some x->x=(n,l'))->pY w b o cs t l e w'):=λ_ _ h=>h;generalize pY w b o cs t l=NP at *;generalize cK (aG (aN 45 l)).1=rx at *;generalize aG (aN 45 l)=wl at *;generalize aN 45 l=ml at *;generalize aP 45 l=hm at *;generalize gz l=nl at *;obtain⟨w1,w2⟩:=wl;simp only at *;have eX:=ai m0;clear m0;generalize hpq:(ml.head?==some 32)=hq at *;have HRG:af (∀n,bC.eQ n=.agg #[.bool n.minus,.int .u64 ((n.v%18446744073709551616:Nat):Int),.bool (decide (18446744073709551616<=n.v))]):=λ_=>rfl;unfold qP at *;generalize hw0:w.alloc (.cells #[.bool false,.int .u64 0,.bool false] 157)=w0 at *;go_enter func180,ntmps180;go_wp2_with fail;refine HW.o.mono ?_;rintro e wa ⟨rfl,hp⟩;have HP:=ai hp;have HZ1:af (ak wa w.heap.size #[.bool false,.int .u64 0,.bool false] 157):=HZ.o.ag hp.2 (λe=>by have:w.heap.size=b:=e;omega);clear hp HW HZ;have c0:=HP.o.1.cell;go_upto_region 2 with fail;go_cut [16] (λv wx=>v=.bool (hm&&hq)/\wx=wa)
 case first =>
  cases hm with
  |true =>go_wp2_with fail;refine(FP.o _).mono ?_;rintro e wb ⟨rfl,rfl⟩;go_wp2_with fail;go_meet;exact⟨by simp,rfl⟩
  |false =>go_wp2_with fail;go_meet;exact⟨by simp,rfl⟩
 case rest =>
 obtain⟨rfl,rfl⟩:=hcut;have z0:wc.cell? ⟨w.heap.size,0,none⟩=some (.bool false):=HZ1.o.cell 0;have z1:wc.cell? ⟨w.heap.size,1,none⟩=some (.int .u64 0):=HZ1.o.cell 1;have z2:wc.cell? ⟨w.heap.size,2,none⟩=some (.bool false):=HZ1.o.cell 2;have zf:=HZ1.o.frozen;clear FP c0;by_cases hh:(hm&&hq)=true
 ·have HN:=ai (Zd.o hh);rw[hh];go_wp2_with fail;refine bodyPost_ret (aw results180 _ _ w.heap.size 157 _ (0,0) _ _ rfl rfl (((HZ1.o.set 0 _).set 1 _).set 2 _) underlying157 rfl (by kernel_rfl)) rfl ?_;refine Ze.o _ _ ⟨⟨0,false⟩,ml,?_,⟨⟨?_,HP.o.1.at'⟩,?_⟩,JG,λx hx=>?_⟩
  ·rw[HN.o];rfl
  ·iterate 3 refine ak.setOther ?_ (by simp;omega) _
   exact HP.o.1.blk
  ·iterate 3 refine aa.set ?_ (.inr (by simp)) _
   exact eX.o.of_nil.trans HP.o.2
  ·rw[HN.o]at hx;cases hx
 ·have hh':(hm&&hq)=false:=by simpa using hh
  have HN:=ai (HL2.o hh');rw[hh'];clear hh hh' Zd HL2;have kE:=HR.o wc HP.o.1;rw[HRG.o]at kE;dsimp only at kE;generalize hu:(((rx.getD 0)%18446744073709551616:Nat):Int)=u at *;have Jp:af (∀v,rx=some v->rx.getD 0=v):=λv e=>by rw[e];rfl
  have HU:af (∀v,rx=some v->bC.eQ ⟨v,hm⟩=.agg #[.bool hm,.int .u64 u,.bool (decide (18446744073709551616<=rx.getD 0))]):=λv e=>by rw[<-hu,HRG.o,e];rfl
  have HU0:af (bC.eQ ⟨rx.getD 0,hm⟩=.agg #[.bool hm,.int .u64 u,.bool (decide (18446744073709551616<=rx.getD 0))]):=by rw[af,<-hu,HRG.o]
  clear hu HRG HU;generalize decide (18446744073709551616<=rx.getD 0)=bg at *;have xX:=ai kE;clear kE HR z0 z1 z2 zf;go_wp2_with fail;refine xX.o.mono ?_;rintro e wd ⟨rfl,hp⟩;have kD:af (aQ w0 b o cs t w2 wd):=HP.o.after hp;have HZ2:af (ak wd w.heap.size #[.bool false,.int .u64 0,.bool false] 157):=HZ1.o.ag hp.2 (λe=>by have:w.heap.size=b:=e;omega);clear hp HZ1 HP xX;have hlt:w.heap.size<wd.heap.size:=HZ2.o.lt;have z0:wd.cell? ⟨w.heap.size,0,none⟩=some (.bool false):=HZ2.o.cell 0;have z1:wd.cell? ⟨w.heap.size,1,none⟩=some (.int .u64 0):=HZ2.o.cell 1;have z2:wd.cell? ⟨w.heap.size,2,none⟩=some (.bool false):=HZ2.o.cell 2;have zf:=HZ2.o.frozen;go_wp2_with fail;refine bodyPost_ret (aw results180 _ _ w.heap.size 157 _ (0,0) _ _ rfl rfl ((((HZ2.o.set 0 _).set 1 _).set 2 _).alloc _) underlying157 rfl (by kernel_rfl)) rfl ?_;refine Ze.o _ _ ⟨⟨rx.getD 0,hm⟩,w2,?_,⟨⟨?_,kD.o.1.at'⟩,?_⟩,by omega,λx hx=>?_⟩
  ·rw[HU0.o,HN.o,Option.isSome_map];rfl
  ·refine ak.alloc ?_ _
   iterate 3 refine ak.setOther ?_ (by simp;omega) _
   exact kD.o.1.blk
  ·refine aa.alloc ?_ _
   iterate 3 refine aa.set ?_ (.inr (by simp)) _
   exact eX.o.of_nil.trans kD.o.2
  ·rw[HN.o]at hx;obtain⟨v,hv,rfl⟩:=Option.map_eq_some_iff.1 hx;rw[Jp.o v hv]
structure bz(w:tW)(b:Nat)(op:Value)(x:Option bD)(e:Ending)(w':tW):Prop where
 e:e=.returned (.bool x.isSome)
 md:aa (Only b) w w'
 at':∀r',x=some r'->ak w' b (r'.cells op) 269
theorem kM{w:tW}{b:Nat}{op:Value}{r:bD}(h:ak w b (r.cells op) 269):kT w b 1 (r.cells op) 269 r.rest:=⟨h,rfl⟩
theorem aQ.rd{w w':tW}{b:Nat}{op:Value}{r:bD}{l:tLB}(h:aQ w b 1 (r.cells op) 269 l w'):ak w' b ({r with rest:=l}.cells op) 269:=h.1.blk
theorem Nv{c:UInt8}{r:bD}(h:aP c r.rest=false):r.mark c=none:=by unfold bD.mark;rw[iN9 (by simp[h])]
theorem Nw{c:UInt8}{r:bD}(h:aP c r.rest=true):r.mark c=some {r with rest:=aN c r.rest}:=by unfold bD.mark;rw[iP9 h]
theorem JH(b g:Nat)(c:UInt8)(op:Value)(r:bD)(w:tW)(h:ak w b (r.cells op) 269)(hg:ak w g #[.int .u8 (c.toNat:Int)] 5)(hl:r.rest.length<=1000000):Calls prog 268 #[.pointer (some ⟨b,0,none⟩),.pointer (some ⟨g,0,none⟩)] w λe w'=>bz w b op (r.mark c) e w':=by
 have qV:af (∀w',ak w' b (r.cells op) 269->Calls prog 138 #[.pointer (some ⟨b,1,none⟩),.int .u8 (c.toNat:Int)] w' λe w''=>e=.returned (.bool (aP c r.rest))/\aQ w' b 1 (r.cells op) 269 (aN c r.rest) w''):=λw' h'=>iG b 1 _ _ r.rest c w' (kM h') hl
 have rQ:af (∀e w',e=.returned (.bool (aP c r.rest))->aQ w b 1 (r.cells op) 269 (aN c r.rest) w'->bz w b op (r.mark c) e w'):=λe w' he hp=>by
  cases hm:aP c r.rest with
  |true =>rw[Nw hm];exact⟨by rw[he,hm];rfl,hp.2,λr' hr'=>by cases hr';exact hp.rd⟩
  |false =>rw[Nv hm];exact⟨by rw[he,hm];rfl,hp.2,λr' hr'=>by cases hr'⟩
 generalize bz w b op (r.mark c)=RP at *;have HB:=ai h.drew;have g0:w.drew.cell? ⟨g,0,none⟩=some (.int .u8 (c.toNat:Int)):=hg.drew.cell 0;have nP:af (∀w',aQ w.drew b 1 (r.cells op) 269 (aN c r.rest) w'->aQ w b 1 (r.cells op) 269 (aN c r.rest) w'):=λw' hp=>⟨hp.1,aJ.trans hp.2⟩
 clear h hg;go_enter func268,ntmps268;go_wp2_with fail;refine bJ 4 (by kernel_rfl) (by kernel_rfl) ?_;intro W hW;rw[<-hW]at HB g0 nP;clear hW;simp only[List.take_succ_cons,List.take_zero,List.drop_succ_cons,List.drop_zero]
 repeat(go_big_quiet_step (fail))
 refine wpQuiet_nil ?_;go_wp2_with fail;refine(qV.o _ HB.o).mono ?_;rintro e w1 ⟨rfl,hp⟩;go_wp2_with fail;exact rQ.o _ _ rfl (nP.o _ hp)
theorem Wu(r:bD):r.rO=match aZ (aG r.rest).1 with|some n=>some {r with d:=n,rest:=(aG r.rest).2}|none=>none:=by unfold bD.rO;cases aZ (aG r.rest).1<;>rfl
theorem Wv(r:bD):r.wR=match aZ (aG r.rest).1 with|some n=>some {r with s:=n,rest:=(aG r.rest).2}|none=>none:=by unfold bD.wR;cases aZ (aG r.rest).1<;>rfl
theorem C9(b:Nat)(op:Value)(r:bD)(w:tW)(h:ak w b (r.cells op) 269)(hl:r.rest.length<=1000000)(hE:∀w',aa (Only b) w w'->Env w'):Calls prog 210 #[.pointer (some ⟨b,0,none⟩)] w λe w'=>bz w b op r.rO e w':=by
 have qV:af (Calls prog 175 #[.pointer (some ⟨b,1,none⟩)] w λe w'=>e=.returned (.tuple #[.int .u8 (((aZ (aG r.rest).1).getD 0:Nat):Int),.bool (aZ (aG r.rest).1).isSome])/\aQ w b 1 (r.cells op) 269 (aG r.rest).2 w'):=Ge b 1 _ _ r.rest w (kM h) hl hE
 have rQ:af (∀e w',e=.returned (.bool (aZ (aG r.rest).1).isSome)->aa (Only b) w w'->ak w' b ({r with rest:=(aG r.rest).2,d:=(aZ (aG r.rest).1).getD 0}.cells op) 269->bz w b op r.rO e w'):=λe w' he hm hp=>by
  rw[Wu];cases hx:aZ (aG r.rest).1 with
  |some n=>rw[hx]at he hp;exact⟨by rw[he];rfl,hm,λr' hr'=>by cases hr';exact hp⟩
  |none=>rw[hx]at he;exact⟨by rw[he];rfl,hm,λr' hr'=>by cases hr'⟩
 generalize bz w b op r.rO=RP at *;generalize aZ (aG r.rest).1=rx at *;go_enter func210,ntmps210;go_wp2_with fail;refine qV.o.mono ?_;rintro e w1 ⟨rfl,hp⟩;have hb1:=hp.rd;have z3:w1.cell? ⟨b,3,none⟩=some (.int .u8 (r.d:Int)):=hb1.cell 3;have zf:=hb1.frozen;go_wp2_with fail;exact rQ.o _ _ rfl (hp.2.aY 3 _) (hb1.set 3 _)
theorem Nx(b:Nat)(op:Value)(r:bD)(w:tW)(h:ak w b (r.cells op) 269)(hl:r.rest.length<=1000000)(hE:∀w',aa (Only b) w w'->Env w'):Calls prog 174 #[.pointer (some ⟨b,0,none⟩)] w λe w'=>bz w b op r.wR e w':=by
 have qV:af (Calls prog 175 #[.pointer (some ⟨b,1,none⟩)] w λe w'=>e=.returned (.tuple #[.int .u8 (((aZ (aG r.rest).1).getD 0:Nat):Int),.bool (aZ (aG r.rest).1).isSome])/\aQ w b 1 (r.cells op) 269 (aG r.rest).2 w'):=Ge b 1 _ _ r.rest w (kM h) hl hE
 have rQ:af (∀e w',e=.returned (.bool (aZ (aG r.rest).1).isSome)->aa (Only b) w w'->ak w' b ({r with rest:=(aG r.rest).2,s:=(aZ (aG r.rest).1).getD 0}.cells op) 269->bz w b op r.wR e w'):=λe w' he hm hp=>by
  rw[Wv];cases hx:aZ (aG r.rest).1 with
  |some n=>rw[hx]at he hp;exact⟨by rw[he];rfl,hm,λr' hr'=>by cases hr';exact hp⟩
  |none=>rw[hx]at he;exact⟨by rw[he];rfl,hm,λr' hr'=>by cases hr'⟩
 generalize bz w b op r.wR=RP at *;generalize aZ (aG r.rest).1=rx at *;go_enter func174,ntmps174;go_wp2_with fail;refine qV.o.mono ?_;rintro e w1 ⟨rfl,hp⟩;have hb1:=hp.rd;have z4:w1.cell? ⟨b,4,none⟩=some (.int .u8 (r.s:Int)):=hb1.cell 4;have zf:=hb1.frozen;go_wp2_with fail;exact rQ.o _ _ rfl (hp.2.aY 4 _) (hb1.set 4 _)
theorem RS{r:bD}(h:nameB (aG r.rest).1=false):r.lab=none:=by unfold bD.lab;rw[iN9 (by simp[h])]
theorem RT{r:bD}(h:nameB (aG r.rest).1=true):r.lab=some {r with label:=(aG r.rest).1,rest:=(aG r.rest).2}:=by unfold bD.lab;rw[iP9 h]
theorem Ny(b:Nat)(op:Value)(r:bD)(w:tW)(h:ak w b (r.cells op) 269)(hl:r.rest.length<=1000000):Calls prog 213 #[.pointer (some ⟨b,0,none⟩)] w λe w'=>bz w b op r.lab e w':=by
 have qV:af (Calls prog 142 #[.pointer (some ⟨b,1,none⟩)] w λe w'=>e=.returned (.tuple #[.string (T (aG r.rest).1),.bool (nameB (aG r.rest).1)])/\aQ w b 1 (r.cells op) 269 (aG r.rest).2 w'):=tY b 1 _ _ r.rest w (kM h) hl
 have rQ:af (∀e w',e=.returned (.bool (nameB (aG r.rest).1))->aa (Only b) w w'->ak w' b ({r with rest:=(aG r.rest).2,label:=(aG r.rest).1}.cells op) 269->bz w b op r.lab e w'):=λe w' he hm hp=>by
  cases hx:nameB (aG r.rest).1 with
  |true=>rw[RT hx];exact⟨by rw[he,hx];rfl,hm,λr' hr'=>by cases hr';exact hp⟩
  |false=>rw[RS hx];exact⟨by rw[he,hx];rfl,hm,λr' hr'=>by cases hr'⟩
 generalize bz w b op r.lab=RP at *;generalize nameB (aG r.rest).1=rx at *;go_enter func213,ntmps213;go_wp2_with fail;refine qV.o.mono ?_;rintro e w1 ⟨rfl,hp⟩;have hb1:=hp.rd;have z8:w1.cell? ⟨b,8,none⟩=some (.string (T r.label)):=hb1.cell 8;have zf:=hb1.frozen;go_wp2_with fail;exact rQ.o _ _ rfl (hp.2.aY 8 _) (hb1.set 8 _)
def bD.CA(r:bD)(o:Option Int):bD:={r with far:=r.far||o.isNone}
theorem rR(b:Nat)(op:Value)(r:bD)(n:bC)(bits:Int)(half:Nat)(w:tW)(h:ak w b (r.cells op) 269)(hS:∀w,Calls prog 259 #[n.eQ,.int .i64 bits] w λe w'=>e=.returned (.tuple #[.int .i64 ((n.dV half).getD 0),.bool (n.dV half).isSome])/\aa ae w w'):Calls prog 181 #[.pointer (some ⟨b,0,none⟩),n.eQ,.int .i64 bits] w λe w'=>e=.returned (.int .i64 ((n.dV half).getD 0))/\ak w' b ((r.CA (n.dV half)).cells op) 269/\aa (Only b) w w':=by
 have HS:=ai hS;have HF:af (∀w',ak w' b ({r with far:=r.far||!(n.dV half).isSome}.cells op) 269->ak w' b ((r.CA (n.dV half)).cells op) 269):=λw' h'=>by unfold bD.CA;rw[<-al];exact h'
 generalize(r.CA (n.dV half)).cells op=fc at *;unfold bC.eQ at *;generalize((n.v%18446744073709551616:Nat):Int)=u at *;generalize decide (18446744073709551616<=n.v)=bg at *;generalize n.dV half=sg at *;generalize n.minus=mi at *;clear hS;have h1:ak (w.alloc (.cells #[.bool mi,.int .u64 u,.bool bg] 157)) b (r.cells op) 269:=h.alloc _;have HB:=ai h1;have HM:af (aa (Only b) w (w.alloc (.cells #[.bool mi,.int .u64 u,.bool bg] 157))):=aj;clear h h1;go_enter func181,ntmps181;go_wp2_with fail;refine(HS.o _).mono ?_;rintro e w1 ⟨rfl,m1⟩;have HB1:=ai (HB.o.ag m1 id);have dh:=ai (HM.o.trans m1.of_nil);clear m1 HB HM HS;have z10:w1.cell? ⟨b,10,none⟩=some (.bool r.far):=HB1.o.cell 10;have zf:=HB1.o.frozen;generalize hfr:r.far=fr at *;cases fr with
 |true =>
  go_wp2_with fail;go_ret;refine⟨rfl,HF.o _ ?_,dh.o.aY 10 _⟩;have:=HB1.o.set 10 (.bool true);have e:(r.cells op).setIfInBounds 10 (.bool true)=({r with far:=true||!sg.isSome}).cells op:=by unfold bD.cells;rfl
  rw[e]at this;exact this
 |false =>
  go_wp2_with fail;go_ret;refine⟨rfl,HF.o _ ?_,dh.o.aY 10 _⟩;have:=HB1.o.set 10 (.bool sg.isNone);have e:(r.cells op).setIfInBounds 10 (.bool sg.isNone)=({r with far:=false||!sg.isSome}).cells op:=by unfold bD.cells;simp
  rw[e]at this;exact this
def bD.Nz(r:bD)(o:Option Nat):bD:={r with far:=r.far||o.isNone}
theorem NA(b:Nat)(op:Value)(r:bD)(n:bC)(w:tW)(h:ak w b (r.cells op) 269):Calls prog 287 #[.pointer (some ⟨b,0,none⟩),n.eQ] w λe w'=>e=.returned (.int .u64 ((n.dW.getD 0:Nat):Int))/\ak w' b ((r.Nz n.dW).cells op) 269/\aa (Only b) w w':=by
 have HS:af (∀w,Calls prog 328 #[n.eQ] w λe w'=>e=.returned (.tuple #[.int .u64 ((n.dW.getD 0:Nat):Int),.bool n.dW.isSome])/\aa ae w w'):=λw=>RO n w;have HF:af (∀w',ak w' b ({r with far:=r.far||!n.dW.isSome}.cells op) 269->ak w' b ((r.Nz n.dW).cells op) 269):=λw' h'=>by unfold bD.Nz;rw[<-al];exact h'
 generalize(r.Nz n.dW).cells op=fc at *;unfold bC.eQ at *;generalize((n.v%18446744073709551616:Nat):Int)=u at *;generalize decide (18446744073709551616<=n.v)=bg at *;generalize n.dW=sg at *;generalize n.minus=mi at *;have h1:ak (w.alloc (.cells #[.bool mi,.int .u64 u,.bool bg] 157)) b (r.cells op) 269:=h.alloc _;have HB:=ai h1;have HM:af (aa (Only b) w (w.alloc (.cells #[.bool mi,.int .u64 u,.bool bg] 157))):=aj;clear h h1;go_enter func287,ntmps287;go_wp2_with fail;refine(HS.o _).mono ?_;rintro e w1 ⟨rfl,m1⟩;have HB1:=ai (HB.o.ag m1 id);have dh:=ai (HM.o.trans m1.of_nil);clear m1 HB HM HS;have z10:w1.cell? ⟨b,10,none⟩=some (.bool r.far):=HB1.o.cell 10;have zf:=HB1.o.frozen;generalize hfr:r.far=fr at *;cases fr with
 |true =>
  go_wp2_with fail;go_ret;refine⟨rfl,HF.o _ ?_,dh.o.aY 10 _⟩;have:=HB1.o.set 10 (.bool true);have e:(r.cells op).setIfInBounds 10 (.bool true)=({r with far:=true||!sg.isSome}).cells op:=by unfold bD.cells;rfl
  rw[e]at this;exact this
 |false =>
  go_wp2_with fail;go_ret;refine⟨rfl,HF.o _ ?_,dh.o.aY 10 _⟩;have:=HB1.o.set 10 (.bool sg.isNone);have e:(r.cells op).setIfInBounds 10 (.bool sg.isNone)=({r with far:=false||!sg.isSome}).cells op:=by unfold bD.cells;simp
  rw[e]at this;exact this
theorem lF(n:bC)(half:Nat)(hh:1<=half):-(half:Int)<=(n.dV half).getD 0/\(n.dV half).getD 0<half:=by
 unfold bC.dV;split
 ·simp;omega
 ·split
  ·split
   ·simp;omega
   ·simp;omega
  ·split
   ·simp;omega
   ·simp;omega
theorem NB(b:Nat)(op:Value)(r:bD)(w:tW)(h:ak w b (r.cells op) 269)(hl:r.rest.length<=1000000):Calls prog 179 #[.pointer (some ⟨b,0,none⟩)] w λe w'=>bz w b op r.number e w':=by
 have qV:af (Calls prog 180 #[.pointer (some ⟨b,1,none⟩)] w λe w'=>pY w b 1 (r.cells op) 269 r.rest e w'):=Gg b 1 _ _ r.rest w (kM h) hl
 have rQ:af (∀e w' n l',e=.returned (.bool (gz r.rest).isSome)->aa (Only b) w w'->(∀x,gz r.rest=some x->x=(n,l'))->ak w' b ({r with rest:=l',num:=(n.dV 2147483648).getD 0,far:=r.far||(n.dV 2147483648).isNone}.cells op) 269->bz w b op r.number e w'):=λe w' n l' he hm hx hp=>by
  unfold bD.number;cases hn:gz r.rest with
  |some x =>have:=hx x hn;subst this;exact⟨by rw[he,hn];rfl,hm,λr' hr'=>by cases hr';exact hp⟩
  |none=>exact⟨by rw[he,hn];rfl,hm,λr' hr'=>by cases hr'⟩
 generalize bz w b op r.number=RP at *;have Ze:af (∀e w',pY w b 1 (r.cells op) 269 r.rest e w'->∃n l',e=.returned (.tuple #[bC.eQ n,.bool (gz r.rest).isSome])/\aQ w b 1 (r.cells op) 269 l' w'/\l'.length<=r.rest.length/\∀x,gz r.rest=some x->x=(n,l')):=λ_ _ h=>h;generalize pY w b 1 (r.cells op) 269 r.rest=NP at *;generalize gz r.rest=nl at *;go_enter func179,ntmps179;go_wp2_with fail;refine qV.o.mono ?_;intro e w1 hn;obtain⟨n,l',rfl,hp,hle,hx⟩:=Ze.o _ _ hn;have HX:=ai hx;clear hn hx qV Ze hle;have hr:=lF n 2147483648 (by omega);have HB1:af (∀cs,ak (w1.alloc (.cells cs 157)) b ({r with rest:=l'}.cells op) 269):=λcs=>hp.rd.alloc _;have dh:af (∀cs,aa (Only b) w (w1.alloc (.cells cs 157))):=λcs=>hp.2.alloc _;clear hp;have HS:af (∀w',ak w' b ({r with rest:=l'}.cells op) 269->Calls prog 181 #[.pointer (some ⟨b,0,none⟩),n.eQ,.int .i64 32] w' λe w''=>e=.returned (.int .i64 ((n.dV 2147483648).getD 0))/\ak w'' b ((bD.CA {r with rest:=l'} (n.dV 2147483648)).cells op) 269/\aa (Only b) w' w''):=λw' h'=>rR b op _ n 32 2147483648 w' h' (Es n);have aai:af (∀e w',e=.returned (.bool nl.isSome)->aa (Only b) w w'->ak w' b ({r with rest:=l',num:=(n.dV 2147483648).getD 0,far:=r.far||(n.dV 2147483648).isNone}.cells op) 269->RP e w'):=λe w' he hm=>rQ.o e w' n l' he hm HX.o;clear rQ HX;unfold bD.CA at *;generalize n.dV 2147483648=sg at *;unfold bC.eQ at *;generalize((n.v%18446744073709551616:Nat):Int)=u at *;generalize decide (18446744073709551616<=n.v)=bg at *;generalize n.minus=mi at *;generalize hvv:sg.getD 0=vv at *;obtain⟨hr0,hr1⟩:=hr;go_wp2_with fail;refine(HS.o _ (HB1.o _)).mono ?_;rintro e w2 ⟨rfl,hb2,m2⟩;have dD:af (aa (Only b) w w2):=(dh.o _).trans m2;have z6:w2.cell? ⟨b,6,none⟩=some (.int .i32 r.num):=hb2.cell 6;have zf:=hb2.frozen;have HB2:=ai hb2;clear hb2 m2 HB1 dh HS;go_wp2_with fail;exact aai.o _ _ rfl (dD.o.aY 6 _) (HB2.o.set 6 _)
def bD.Gh(r:bD)(l:tLB)(n:bC):bD:={r with jump:=(n.dV 32768).getD 0,far:=r.far||(n.dV 32768).isNone,rest:=l}
theorem NC{r:bD}(h:aP 45 r.rest=true):r.off=(cK (aG (aN 45 r.rest)).1).map (λv=>r.Gh (aG (aN 45 r.rest)).2 ⟨v,true⟩):=by unfold bD.off bD.Gh;rw[iP9 h]
theorem og{c:UInt8}{l:tLB}(h:aP c l=false):aN c l=ay l:=by unfold aN;rw[iN9 (by simp[h])]
theorem Ah(l:tLB):ay (ay l)=ay l:=by
 unfold ay;induction l with
 |nil=>rfl
 |cons c r ih =>
  rw[ab];split
  ·exact ih
  ·rename_i h;rw[ab,iN9 h]
theorem kU(c:UInt8)(l:tLB):aP c (ay l)=aP c l/\aN c (ay l)=aN c l:=by unfold aN aP;rw[Ah];exact⟨rfl,rfl⟩
theorem RU{r:bD}(h:aP 45 r.rest=false)(hp:aP 43 r.rest=true):r.off=(cK (aG (aN 43 r.rest)).1).map (λv=>r.Gh (aG (aN 43 r.rest)).2 ⟨v,false⟩):=by unfold bD.off bD.Gh;rw[iN9 (by simp[h]),iP9 hp]
theorem RV{r:bD}(h:aP 45 r.rest=false)(hp:aP 43 r.rest=false):r.off=some {r with rest:=ay r.rest}:=by unfold bD.off;rw[iN9 (by simp[h]),iN9 (by simp[hp])]
theorem RW(b:Nat)(op:Value)(r:bD)(w:tW)(h:ak w b (r.cells op) 269)(hl:r.rest.length<=1000000)(hm:aP 45 r.rest=true):Calls prog 231 #[.pointer (some ⟨b,0,none⟩)] w λe w'=>bz w b op r.off e w':=by
 have qV:af (Calls prog 138 #[.pointer (some ⟨b,1,none⟩),.int .u8 45] w λe w'=>e=.returned (.bool true)/\aQ w b 1 (r.cells op) 269 (aN 45 r.rest) w'):=by have:=iG b 1 _ _ r.rest 45 w (kM h) hl;rw[hm]at this;exact this
 have JG:=pX 45 r.rest
 have rQ:af (∀e w',e=.returned (.bool (cK (aG (aN 45 r.rest)).1).isSome)->aa (Only b) w w'->ak w' b ((r.Gh (aG (aN 45 r.rest)).2 ⟨(cK (aG (aN 45 r.rest)).1).getD 0,true⟩).cells op) 269->bz w b op r.off e w'):=λe w' he hmd hbk=>by
  rw[NC hm];cases hn:cK (aG (aN 45 r.rest)).1 with
  |some v=>rw[hn]at he hbk;exact⟨by rw[he];rfl,hmd,λr' hr'=>by cases hr';exact hbk⟩
  |none=>rw[hn]at he;exact⟨by rw[he];rfl,hmd,λr' hr'=>by cases hr'⟩
 generalize bz w b op r.off=RP at *;generalize aN 45 r.rest=l0 at *;have VO:af (∀w',ak w' b ({r with rest:=l0}.cells op) 269->Calls prog 272 #[.pointer (some ⟨b,1,none⟩)] w' λe w''=>e=.returned (.tuple #[(bC.mk ((cK (aG l0).1).getD 0) false).eQ,.bool (cK (aG l0).1).isSome])/\aQ w' b 1 ({r with rest:=l0}.cells op) 269 (aG l0).2 w''):=λw' h'=>uW b 1 _ _ l0 w' (kM (r:={r with rest:=l0}) h') (by omega);generalize aG l0=wl at *;obtain⟨l1,l2⟩:=wl;dsimp only at *;generalize cK l1=nn at *;have hr:=lF ⟨nn.getD 0,true⟩ 32768 (by omega);have HS:af (∀w',ak w' b ({r with rest:=l2}.cells op) 269->Calls prog 181 #[.pointer (some ⟨b,0,none⟩),(bC.mk (nn.getD 0) true).eQ,.int .i64 16] w' λe w''=>e=.returned (.int .i64 (((bC.mk (nn.getD 0) true).dV 32768).getD 0))/\ak w'' b ((bD.CA {r with rest:=l2} ((bC.mk (nn.getD 0) true).dV 32768)).cells op) 269/\aa (Only b) w' w''):=λw' h'=>rR b op _ _ 16 32768 w' h' (wS _);have HNG:af (∀w',Calls prog 285 #[(bC.mk (nn.getD 0) false).eQ] w' λe w''=>e=.returned (bC.mk (nn.getD 0) true).eQ/\aa ae w' w''):=λw'=>zg ⟨_,false⟩ w';unfold bD.CA bD.Gh at *;generalize(bC.mk (nn.getD 0) true).dV 32768=sg at *;unfold bC.eQ at *;dsimp only at *;generalize(((nn.getD 0)%18446744073709551616:Nat):Int)=u at *;generalize decide (18446744073709551616<=nn.getD 0)=bg at *;generalize hvv:sg.getD 0=vv at *;obtain⟨hr0,hr1⟩:=hr;clear h hl JG;go_enter func231,ntmps231;go_wp2_with fail;refine qV.o.mono ?_;rintro e w1 ⟨rfl,hp1⟩;have HB1:=ai hp1.rd;have dh:=ai hp1.2;clear hp1 qV;go_wp2_with fail;refine(VO.o _ HB1.o).mono ?_;rintro e w2 ⟨rfl,hp2⟩;have HB2:af (∀cs,ak (w2.alloc (.cells cs 157)) b ({r with rest:=l2}.cells op) 269):=λcs=>hp2.rd.alloc _;have dD:af (∀cs,aa (Only b) w (w2.alloc (.cells cs 157))):=λcs=>(dh.o.trans hp2.2).alloc _;have Zf:af (w.heap.size<=w2.heap.size):=(dh.o.trans hp2.2).size;have hbl:b<w2.heap.size:=hp2.1.blk.lt;clear hp2 HB1 dh VO;go_wp2_with fail;refine(HNG.o _).mono ?_;rintro e w3 ⟨rfl,m3⟩;have Jo:af (ak w3 w2.heap.size #[.bool false,.int .u64 u,.bool bg] 157):=(ak.new w2 _ _).ag m3 id;have n0:w3.cell? ⟨w2.heap.size,0,none⟩=some (.bool false):=Jo.o.cell 0;have n1:w3.cell? ⟨w2.heap.size,1,none⟩=some (.int .u64 u):=Jo.o.cell 1;have n2:w3.cell? ⟨w2.heap.size,2,none⟩=some (.bool bg):=Jo.o.cell 2;have nf:=Jo.o.frozen;have HB3:af (ak w3 b ({r with rest:=l2}.cells op) 269):=(HB2.o _).ag m3 id;have dw:af (aa (Only b) w w3):=(dD.o _).trans m3.of_nil;clear m3 HB2 dD HNG;go_upto_region 7 with fail;generalize hW4:((w3.setCell ⟨w2.heap.size,0,none⟩ (.bool true)).setCell ⟨w2.heap.size,1,none⟩ (.int .u64 u)).setCell ⟨w2.heap.size,2,none⟩ (.bool bg)=W4 at *;have Q9:af (ak W4 w2.heap.size #[.bool true,.int .u64 u,.bool bg] 157):=by rw[<-hW4];exact((Jo.o.set 0 _).set 1 _).set 2 _
 have gq:af (ak W4 b ({r with rest:=l2}.cells op) 269):=by
  rw[<-hW4]
  iterate 3 refine ak.setOther ?_ (by simp;omega) _
  exact HB3.o
 have fU:af (aa (Only b) w W4):=by
  rw[<-hW4]
  iterate 3 refine aa.set ?_ (.inr (by simpa using Zf.o)) _
  exact dw.o
 clear n0 n1 n2 nf Jo HB3 dw hW4;have n0:W4.cell? ⟨w2.heap.size,0,none⟩=some (.bool true):=Q9.o.cell 0;have n1:W4.cell? ⟨w2.heap.size,1,none⟩=some (.int .u64 u):=Q9.o.cell 1;have n2:W4.cell? ⟨w2.heap.size,2,none⟩=some (.bool bg):=Q9.o.cell 2;go_wp2_with fail;refine(HS.o _ gq.o).mono ?_;rintro e w5 ⟨rfl,hb5,m5⟩;have iT:=ai hb5;have iC:=ai (fU.o.trans m5);have z5:w5.cell? ⟨b,5,none⟩=some (.int .i16 r.jump):=hb5.cell 5;have zf:=hb5.frozen;clear hb5 m5 gq fU Q9 n0 n1 n2 HS;go_wp2_with fail;exact rQ.o _ _ rfl (iC.o.aY 5 _) (iT.o.set 5 _)
theorem RX(b:Nat)(op:Value)(r:bD)(w:tW)(h:ak w b (r.cells op) 269)(hl:r.rest.length<=1000000)(hm:aP 45 r.rest=false)(hp:aP 43 r.rest=true):Calls prog 231 #[.pointer (some ⟨b,0,none⟩)] w λe w'=>bz w b op r.off e w':=by
 have qV:af (Calls prog 138 #[.pointer (some ⟨b,1,none⟩),.int .u8 45] w λe w'=>e=.returned (.bool false)/\aQ w b 1 (r.cells op) 269 (ay r.rest) w'):=by have:=iG b 1 _ _ r.rest 45 w (kM h) hl;rw[hm,og hm]at this;exact this
 have RY:af (∀w',ak w' b ({r with rest:=ay r.rest}.cells op) 269->Calls prog 138 #[.pointer (some ⟨b,1,none⟩),.int .u8 43] w' λe w''=>e=.returned (.bool true)/\aQ w' b 1 ({r with rest:=ay r.rest}.cells op) 269 (aN 43 r.rest) w''):=λw' h'=>by have:=iG b 1 _ _ (ay r.rest) 43 w' (kM (r:={r with rest:=ay r.rest}) h') (by have:=iR r.rest;omega);rw[(kU 43 r.rest).1,(kU 43 r.rest).2,hp]at this;exact this
 have JG:=pX 43 r.rest
 have rQ:af (∀e w',e=.returned (.bool (cK (aG (aN 43 r.rest)).1).isSome)->aa (Only b) w w'->ak w' b ((r.Gh (aG (aN 43 r.rest)).2 ⟨(cK (aG (aN 43 r.rest)).1).getD 0,false⟩).cells op) 269->bz w b op r.off e w'):=λe w' he hmd hbk=>by
  rw[RU hm hp];cases hn:cK (aG (aN 43 r.rest)).1 with
  |some v=>rw[hn]at he hbk;exact⟨by rw[he];rfl,hmd,λr' hr'=>by cases hr';exact hbk⟩
  |none=>rw[hn]at he;exact⟨by rw[he];rfl,hmd,λr' hr'=>by cases hr'⟩
 generalize bz w b op r.off=RP at *;generalize aN 43 r.rest=l0 at *;have VO:af (∀w',ak w' b ({r with rest:=l0}.cells op) 269->Calls prog 272 #[.pointer (some ⟨b,1,none⟩)] w' λe w''=>e=.returned (.tuple #[(bC.mk ((cK (aG l0).1).getD 0) false).eQ,.bool (cK (aG l0).1).isSome])/\aQ w' b 1 ({r with rest:=l0}.cells op) 269 (aG l0).2 w''):=λw' h'=>uW b 1 _ _ l0 w' (kM (r:={r with rest:=l0}) h') (by omega);generalize aG l0=wl at *;obtain⟨l1,l2⟩:=wl;dsimp only at *;generalize cK l1=nn at *;have hr:=lF ⟨nn.getD 0,false⟩ 32768 (by omega);have HS:af (∀w',ak w' b ({r with rest:=l2}.cells op) 269->Calls prog 181 #[.pointer (some ⟨b,0,none⟩),(bC.mk (nn.getD 0) false).eQ,.int .i64 16] w' λe w''=>e=.returned (.int .i64 (((bC.mk (nn.getD 0) false).dV 32768).getD 0))/\ak w'' b ((bD.CA {r with rest:=l2} ((bC.mk (nn.getD 0) false).dV 32768)).cells op) 269/\aa (Only b) w' w''):=λw' h'=>rR b op _ _ 16 32768 w' h' (wS _);have HNG:af (∀w',Calls prog 285 #[(bC.mk (nn.getD 0) false).eQ] w' λe w''=>e=.returned (bC.mk (nn.getD 0) true).eQ/\aa ae w' w''):=λw'=>zg ⟨_,false⟩ w';unfold bD.CA bD.Gh at *;generalize(bC.mk (nn.getD 0) false).dV 32768=sg at *;unfold bC.eQ at *;dsimp only at *;generalize(((nn.getD 0)%18446744073709551616:Nat):Int)=u at *;generalize decide (18446744073709551616<=nn.getD 0)=bg at *;generalize hvv:sg.getD 0=vv at *;obtain⟨hr0,hr1⟩:=hr;clear h hl JG;go_enter func231,ntmps231;go_wp2_with fail;refine qV.o.mono ?_;rintro e w0 ⟨rfl,hp0⟩;have HB0:=ai hp0.rd;have eX:=ai hp0.2;clear hp0 qV;go_wp2_with fail;refine(RY.o _ HB0.o).mono ?_;rintro e w1 ⟨rfl,hp1⟩;have HB1:=ai hp1.rd;have dh:=ai (eX.o.trans hp1.2);clear hp1 RY HB0 eX;go_wp2_with fail;refine(VO.o _ HB1.o).mono ?_;rintro e w2 ⟨rfl,hp2⟩;have HB2:af (∀cs,ak (w2.alloc (.cells cs 157)) b ({r with rest:=l2}.cells op) 269):=λcs=>hp2.rd.alloc _;have dD:af (∀cs,aa (Only b) w (w2.alloc (.cells cs 157))):=λcs=>(dh.o.trans hp2.2).alloc _;have Zf:af (w.heap.size<=w2.heap.size):=(dh.o.trans hp2.2).size;have hbl:b<w2.heap.size:=hp2.1.blk.lt;clear hp2 HB1 dh VO;go_upto_region 7 with fail;have Q9:af (ak (w2.alloc (.cells #[.bool false,.int .u64 u,.bool bg] 157)) w2.heap.size #[.bool false,.int .u64 u,.bool bg] 157):=ak.new w2 _ _;have gq:af (ak (w2.alloc (.cells #[.bool false,.int .u64 u,.bool bg] 157)) b ({r with rest:=l2}.cells op) 269):=HB2.o _;have fU:af (aa (Only b) w (w2.alloc (.cells #[.bool false,.int .u64 u,.bool bg] 157))):=dD.o _;clear HB2 dD;generalize w2.alloc (.cells #[.bool false,.int .u64 u,.bool bg] 157)=W4 at *;have n0:W4.cell? ⟨w2.heap.size,0,none⟩=some (.bool false):=Q9.o.cell 0;have n1:W4.cell? ⟨w2.heap.size,1,none⟩=some (.int .u64 u):=Q9.o.cell 1;have n2:W4.cell? ⟨w2.heap.size,2,none⟩=some (.bool bg):=Q9.o.cell 2;go_wp2_with fail;refine(HS.o _ gq.o).mono ?_;rintro e w5 ⟨rfl,hb5,m5⟩;have iT:=ai hb5;have iC:=ai (fU.o.trans m5);have z5:w5.cell? ⟨b,5,none⟩=some (.int .i16 r.jump):=hb5.cell 5;have zf:=hb5.frozen;clear hb5 m5 gq fU Q9 n0 n1 n2 HS;go_wp2_with fail;exact rQ.o _ _ rfl (iC.o.aY 5 _) (iT.o.set 5 _)
theorem RZ(b:Nat)(op:Value)(r:bD)(w:tW)(h:ak w b (r.cells op) 269)(hl:r.rest.length<=1000000)(hm:aP 45 r.rest=false)(hp:aP 43 r.rest=false):Calls prog 231 #[.pointer (some ⟨b,0,none⟩)] w λe w'=>bz w b op r.off e w':=by
 have qV:af (Calls prog 138 #[.pointer (some ⟨b,1,none⟩),.int .u8 45] w λe w'=>e=.returned (.bool false)/\aQ w b 1 (r.cells op) 269 (ay r.rest) w'):=by have:=iG b 1 _ _ r.rest 45 w (kM h) hl;rw[hm,og hm]at this;exact this
 have RY:af (∀w',ak w' b ({r with rest:=ay r.rest}.cells op) 269->Calls prog 138 #[.pointer (some ⟨b,1,none⟩),.int .u8 43] w' λe w''=>e=.returned (.bool false)/\aQ w' b 1 ({r with rest:=ay r.rest}.cells op) 269 (ay r.rest) w''):=λw' h'=>by have:=iG b 1 _ _ (ay r.rest) 43 w' (kM (r:={r with rest:=ay r.rest}) h') (by have:=iR r.rest;omega);rw[(kU 43 r.rest).1,(kU 43 r.rest).2,hp,og hp]at this;exact this
 have rQ:af (∀e w',e=.returned (.bool true)->aa (Only b) w w'->ak w' b ({r with rest:=ay r.rest}.cells op) 269->bz w b op r.off e w'):=λe w' he hmd hb=>by rw[RV hm hp];exact⟨by rw[he];rfl,hmd,λr' hr'=>by cases hr';exact hb⟩
 generalize bz w b op r.off=RP at *;clear h hl;go_enter func231,ntmps231;go_wp2_with fail;refine qV.o.mono ?_;rintro e w0 ⟨rfl,hp0⟩;have HB0:=ai hp0.rd;have eX:=ai hp0.2;clear hp0 qV;go_wp2_with fail;refine(RY.o _ HB0.o).mono ?_;rintro e w1 ⟨rfl,hp1⟩;have HB1:=ai hp1.rd;have dh:=ai (eX.o.trans hp1.2);clear hp1 RY HB0 eX;go_wp2_with fail;exact rQ.o _ _ rfl dh.o HB1.o
theorem ND(b:Nat)(op:Value)(r:bD)(w:tW)(h:ak w b (r.cells op) 269)(hl:r.rest.length<=1000000):Calls prog 231 #[.pointer (some ⟨b,0,none⟩)] w λe w'=>bz w b op r.off e w':=by
 cases hm:aP 45 r.rest with
 |true=>exact RW b op r w h hl hm
 |false =>
  cases hp:aP 43 r.rest with
  |true=>exact RX b op r w h hl hm hp
  |false=>exact RZ b op r w h hl hm hp
theorem R3{r:bD}(h:(aG r.rest).1=[109,97,112]):r.wide=if nameB (aG (aG r.rest).2).1 then some {r with s:=1,name:=(aG (aG r.rest).2).1,rest:=(aG (aG r.rest).2).2}else none:=by unfold bD.wide;rw[iP9 h]
theorem R4{r:bD}(h:(aG r.rest).1≠[109,97,112]):r.wide=(gz r.rest).map (λx=>{r with num:=nY (x.1.dW.getD 0),high:=nY ((x.1.dW.getD 0)/4294967296),far:=r.far||x.1.dW.isNone,rest:=x.2}):=by unfold bD.wide;rw[iN9 h]
theorem NF(b:Nat)(op:Value)(r:bD)(w:tW)(h:ak w b (r.cells op) 269)(hl:r.rest.length<=1000000)(hm:(aG r.rest).1=[109,97,112]):Calls prog 237 #[.pointer (some ⟨b,0,none⟩)] w λe w'=>bz w b op r.wide e w':=by
 have hwl:=kK r.rest;have hq:((T [109,97,112]).toList==[109,97,112])=true:=yn rfl;have HB0:af (ak (w.alloc (.cells #[.string (T r.rest)] 229)) b (r.cells op) 269):=h.alloc _;have VQ:af (kT (w.alloc (.cells #[.string (T r.rest)] 229)) w.heap.size 0 #[.string (T r.rest)] 229 r.rest):=⟨ak.new w _ _,rfl⟩
 have HW:af (Calls prog 137 #[.pointer (some ⟨w.heap.size,0,none⟩)] (w.alloc (.cells #[.string (T r.rest)] 229)) λe w'=>e=.returned (.string (T [109,97,112]))/\aQ (w.alloc (.cells #[.string (T r.rest)] 229)) w.heap.size 0 #[.string (T r.rest)] 229 (aG r.rest).2 w'):=by have:=il w.heap.size 0 _ _ r.rest _ VQ.o hl;rw[hm]at this;exact this
 have HN:af (∀w',kT w' w.heap.size 0 #[.string (T (aG r.rest).2)] 229 (aG r.rest).2->Calls prog 142 #[.pointer (some ⟨w.heap.size,0,none⟩)] w' λe w''=>e=.returned (.tuple #[.string (T (aG (aG r.rest).2).1),.bool (nameB (aG (aG r.rest).2).1)])/\aQ w' w.heap.size 0 #[.string (T (aG r.rest).2)] 229 (aG (aG r.rest).2).2 w''):=λw' h'=>tY _ 0 _ _ _ w' h' (by omega)
 have rQ:af (∀e w',e=.returned (.bool (nameB (aG (aG r.rest).2).1))->aa (Only b) w w'->ak w' b ({r with s:=1,name:=(aG (aG r.rest).2).1,rest:=(aG (aG r.rest).2).2}.cells op) 269->bz w b op r.wide e w'):=λe w' he hmd hbk=>by
  rw[R3 hm];cases hn:nameB (aG (aG r.rest).2).1 with
  |true=>rw[hn]at he;exact⟨by rw[he];rfl,hmd,λr' hr'=>by cases hr';exact hbk⟩
  |false=>rw[hn]at he;exact⟨by rw[he];rfl,hmd,λr' hr'=>by cases hr'⟩
 generalize bz w b op r.wide=RP at *;generalize nameB (aG (aG r.rest).2).1=nb at *;generalize aG (aG r.rest).2=w2 at *;generalize aG r.rest=w1 at *;obtain⟨n2,l2⟩:=w2;obtain⟨n1,l1⟩:=w1;dsimp only at *;have c1:w.cell? ⟨b,1,none⟩=some (.string (T r.rest)):=h.cell 1;have hbl:=h.lt;have Zf:af (aa (Only b) w (w.alloc (.cells #[.string (T r.rest)] 229))):=aj;clear h hwl hl;go_enter func237,ntmps237;go_wp2_with fail;refine HW.o.mono ?_;rintro e wa ⟨rfl,hp1⟩;have Zd:=ai hp1.1;have HB1:af (ak wa b (r.cells op) 269):=HB0.o.ag hp1.2 (λe=>by have:b=w.heap.size:=e;omega);have dh:af (aa (Only b) w wa):=Zf.o.step hp1.2 (λi hi e=>by have:i=w.heap.size:=e;omega);clear hp1 VQ HB0 Zf HW;go_wp2_with fail;refine(HN.o _ Zd.o).mono ?_;rintro e wb ⟨rfl,hp2⟩;have HL2:=ai hp2.1;have HB2:af (ak wb b (r.cells op) 269):=HB1.o.ag hp2.2 (λe=>by have:b=w.heap.size:=e;omega);have dD:af (aa (Only b) w wb):=dh.o.step hp2.2 (λi hi e=>by have:i=w.heap.size:=e;omega);clear hp2 Zd HB1 dh HN;have x0:wb.cell? ⟨w.heap.size,0,none⟩=some (.string (T l2)):=HL2.o.cell;have z1:wb.cell? ⟨b,1,none⟩=some (.string (T r.rest)):=HB2.o.cell 1;have z4:wb.cell? ⟨b,4,none⟩=some (.int .u8 (r.s:Int)):=HB2.o.cell 4;have z9:wb.cell? ⟨b,9,none⟩=some (.string (T r.name)):=HB2.o.cell 9;have zf:=HB2.o.frozen;go_wp2_with fail;exact rQ.o _ _ rfl (((dD.o.aY 1 _).aY 4 _).aY 9 _) (((HB2.o.set 1 _).set 4 _).set 9 _)
theorem Ww(v:Nat):Go.RowKit.wrap32 ((v:Int)%4294967296)=nY v:=by unfold nY Go.RowKit.wrap32;omega
theorem R5(v:Nat):Go.RowKit.wrap32 ((v:Int)/4294967296)=nY (v/4294967296):=by unfold nY Go.RowKit.wrap32;omega
theorem NG(b:Nat)(op:Value)(r:bD)(w:tW)(h:ak w b (r.cells op) 269)(hl:r.rest.length<=1000000)(hm:(aG r.rest).1≠[109,97,112]):Calls prog 237 #[.pointer (some ⟨b,0,none⟩)] w λe w'=>bz w b op r.wide e w':=by
 have hq:((T (aG r.rest).1).toList==[109,97,112])=false:=rD (λe=>hm (nz e));have HB0:af (ak (w.alloc (.cells #[.string (T r.rest)] 229)) b (r.cells op) 269):=h.alloc _;have VQ:af (kT (w.alloc (.cells #[.string (T r.rest)] 229)) w.heap.size 0 #[.string (T r.rest)] 229 r.rest):=⟨ak.new w _ _,rfl⟩
 have HW:af (Calls prog 137 #[.pointer (some ⟨w.heap.size,0,none⟩)] (w.alloc (.cells #[.string (T r.rest)] 229)) λe w'=>e=.returned (.string (T (aG r.rest).1))/\aQ (w.alloc (.cells #[.string (T r.rest)] 229)) w.heap.size 0 #[.string (T r.rest)] 229 (aG r.rest).2 w'):=il w.heap.size 0 _ _ r.rest _ VQ.o hl;have qV:af (∀w',ak w' b (r.cells op) 269->Calls prog 180 #[.pointer (some ⟨b,1,none⟩)] w' λe w''=>pY w' b 1 (r.cells op) 269 r.rest e w''):=λw' h'=>Gg b 1 _ _ r.rest w' (kM h') hl
 have rQ:af (∀e w' n l',e=.returned (.bool (gz r.rest).isSome)->aa (Only b) w w'->(∀x,gz r.rest=some x->x=(n,l'))->ak w' b ({r with num:=nY (n.dW.getD 0),high:=nY ((n.dW.getD 0)/4294967296),far:=r.far||n.dW.isNone,rest:=l'}.cells op) 269->bz w b op r.wide e w'):=λe w' n l' he hmd hx hp=>by
  rw[R4 hm];cases hn:gz r.rest with
  |some x =>have:=hx x hn;subst this;exact⟨by rw[he,hn];rfl,hmd,λr' hr'=>by cases hr';exact hp⟩
  |none=>exact⟨by rw[he,hn];rfl,hmd,λr' hr'=>by cases hr'⟩
 generalize bz w b op r.wide=RP at *;generalize aG r.rest=w1 at *;obtain⟨n1,l1⟩:=w1;dsimp only at *;have c1:w.cell? ⟨b,1,none⟩=some (.string (T r.rest)):=h.cell 1;have hbl:=h.lt;have Zf:af (aa (Only b) w (w.alloc (.cells #[.string (T r.rest)] 229))):=aj;clear h hl;go_enter func237,ntmps237;go_wp2_with fail;refine HW.o.mono ?_;rintro e wa ⟨rfl,hp1⟩;have HB1:af (ak wa b (r.cells op) 269):=HB0.o.ag hp1.2 (λe=>by have:b=w.heap.size:=e;omega);have dh:af (aa (Only b) w wa):=Zf.o.step hp1.2 (λi hi e=>by have:i=w.heap.size:=e;omega);clear hp1 VQ HB0 Zf HW;go_wp2_with fail;refine(qV.o _ HB1.o).mono ?_;intro e wb hn;obtain⟨n,l',rfl,hp2,hle,hx⟩:=hn;have aai:af (∀e w',e=.returned (.bool (gz r.rest).isSome)->aa (Only b) w w'->ak w' b ({r with num:=nY (n.dW.getD 0),high:=nY ((n.dW.getD 0)/4294967296),far:=r.far||n.dW.isNone,rest:=l'}.cells op) 269->RP e w'):=λe w' he hm=>rQ.o e w' n l' he hm hx;have HB2:af (∀cs,ak (wb.alloc (.cells cs 157)) b ({r with rest:=l'}.cells op) 269):=λcs=>hp2.rd.alloc _;have dD:af (∀cs,aa (Only b) w (wb.alloc (.cells cs 157))):=λcs=>(dh.o.trans hp2.2).alloc _;have HS:af (∀w',ak w' b ({r with rest:=l'}.cells op) 269->Calls prog 287 #[.pointer (some ⟨b,0,none⟩),n.eQ] w' λe w''=>e=.returned (.int .u64 ((n.dW.getD 0:Nat):Int))/\ak w'' b ((bD.Nz {r with rest:=l'} n.dW).cells op) 269/\aa (Only b) w' w''):=λw' h'=>NA b op _ n w' h'
 have hwd:n.dW.getD 0<18446744073709551616:=by
  unfold bC.dW;split
  ·simp
  ·split
   ·split
    ·simp;omega
    ·simp
   ·simp;omega
 clear hp2 hx hle rQ qV HB1 dh;unfold bD.Nz at *;generalize n.dW=sg at *;generalize gz r.rest=nl at *;unfold bC.eQ at *;generalize((n.v%18446744073709551616:Nat):Int)=u at *;generalize decide (18446744073709551616<=n.v)=bg at *;generalize n.minus=mi at *;have HL:af (Go.RowKit.wrap32 (((sg.getD 0:Nat):Int)%4294967296)=nY (sg.getD 0)):=Ww _;have HH:af (Go.RowKit.wrap32 (((sg.getD 0:Nat):Int)/4294967296)=nY ((sg.getD 0)/4294967296)):=R5 _;generalize hvv:sg.getD 0=vv at *;have hv1:(vv:Int)<18446744073709551616:=by omega
 go_wp2_with fail;refine(HS.o _ (HB2.o _)).mono ?_;rintro e wd ⟨rfl,hb5,m5⟩;have iT:=ai hb5;have iC:af (aa (Only b) w wd):=(dD.o _).trans m5;have z6:wd.cell? ⟨b,6,none⟩=some (.int .i32 r.num):=hb5.cell 6;have z7:wd.cell? ⟨b,7,none⟩=some (.int .i32 r.high):=hb5.cell 7;have zf:=hb5.frozen;clear hb5 m5 HB2 dD HS;go_wp2_with fail;refine aai.o _ _ rfl ((iC.o.aY 6 _).aY 7 _) ?_;rw[HL.o,HH.o];exact(iT.o.set 6 _).set 7 _
theorem JI(b:Nat)(op:Value)(r:bD)(w:tW)(h:ak w b (r.cells op) 269)(hl:r.rest.length<=1000000):Calls prog 237 #[.pointer (some ⟨b,0,none⟩)] w λe w'=>bz w b op r.wide e w':=by
 by_cases hm:(aG r.rest).1=[109,97,112]
 ·exact NF b op r w h hl hm
 ·exact NG b op r w h hl hm
