import Derived.Test.YtmajaohgiilelaaGreatDoorC18
import Derived.Test.YtmajaohgiilelaaGreatDoorC19
import Derived.Great.BuildSlice
namespace Go.Proofs.YtmajaohgiilelaaGreatDoor
open Go.RowKit Tryz
open _root_.Array renaming all_eq_true_iff_forall_mem->an,length_toList->ao
open List renaming getElem_set->ar,takeWhile_cons->ba,getElem_mem->bh,ext_getElem->bj,length_singleton->bt,length_append->b9,append_assoc->ca,size_toArray->cb,getElem_map->cd,getElem_zip->ch,flatMap_def->cj
open Nat renaming le_refl->cc
open Option renaming map_some->cr
set_option linter.all false
set_option maxRecDepth 100000
set_option maxHeartbeats 4000000
theorem Sh(wT w:tW)(v:Value)(bs:List Nat)(t:tLB)(hO:aR 0 wT v bs ax)(m:aa af wT w)(hE:Env w)(hM:lV w)(ht:t.length<=1000000)(l:tLB)(hn:fP t=some l)(hs:aw l≠[])(hk:aH 58 (aC l).2=false)(hw:(aC l).1=[109,97,112]):Calls prog 46 #[v,.string (T t)] w λe w'=>aQ w bs (bY t) e w':=by
 have rH:ae (∀w',lV w'->Calls prog 71 #[.string (T t)] w' λe w''=>e=.returned (.tuple #[.agg #[.string (T ((fP t).getD []))],.bool (fP t).isSome])/\aa af w' w''):=λw' h=>wu t w' h ht;have HM:=ak hM;have HE:=ak hE;have iy:ae (aq (w.alloc (.cells (gx 0 ⟨#[]⟩ ay ay ay) 119)) w.heap.size (gx 0 ⟨#[]⟩ ay ay ay) 119):=aq.new w _ _;have gq:ae (aa af w (w.alloc (.cells (gx 0 ⟨#[]⟩ ay ay ay) 119))):=(aa.refl _ _).alloc _;have Ni:ae (bY t=fH (aw (aC l).2)):=by rw[ae,pq hn,iN9 hs,iN9 (by simp[hk]),iP9 hw]
 have HMP:ae (∀w',Calls prog 77 #[.agg #[.string (T (aw (aC l).2))]] w' λe w''=>aQ w' bs (fH (aw (aC l).2)) e w''):=λw'=>VS w' bs _ (by have:=iY (aC l).2;have:=kX l;have:=iW hn;omega);have CP:ae (∀I w',aq w' I #[.string (T l)] 155->Calls prog 72 #[.pointer (some ⟨I,0,none⟩)] w' λe w''=>e=.returned (.bool false)/\aN w' I 0 #[.string (T l)] 155 (aw l) w''):=λI w' h'=>by have:=kW I 0 _ _ l w' ⟨h',rfl⟩;rw[decide_eq_false hs]at this;exact this
 have hwl:=kX l;have VU:ae (∀I w',aq w' I #[.string (T (aw l))] 155->Calls prog 73 #[.pointer (some ⟨I,0,none⟩)] w' λe w''=>e=.returned (.string (T (aC l).1))/\aN w' I 0 #[.string (T (aw l))] 155 (aC l).2 w''):=λI w' h'=>by have:=iL I 0 _ _ (aw l) w' ⟨h',rfl⟩ (by have:=iY l;have:=iW hn;omega);rw[CR]at this;exact this
 have vY:ae (∀I w',aq w' I #[.string (T (aC l).2)] 155->Calls prog 74 #[.pointer (some ⟨I,0,none⟩),.int .u8 58] w' λe w''=>e=.returned (.bool false)/\aN w' I 0 #[.string (T (aC l).2)] 155 (aw (aC l).2) w''):=λI w' h'=>by have:=jh I 0 _ _ (aC l).2 58 w' ⟨h',rfl⟩ (by have:=iW hn;omega);rw[hk,om hk]at this;exact this
 have hq:((T (aC l).1).toList==[109,97,112])=true:=dX (by rw[hw]);have HPY:ae (∀e w' x,fH (aw (aC l).2)=some x->aa af w w'->e=.returned (.tuple #[.agg (x.cells bs),.bool true])->aQ w bs (bY t) e w'):=λe w' x h1 h2 h3=>aQ.yes (by rw[Ni.o,h1]) h2 h3;have Yi:ae (∀e w',fH (aw (aC l).2)=none->aa af w w'->(∃k nm a b c op d s j n h lb nn f,e=.returned (.tuple #[.agg (ES k nm a b c (.pointer op) d s j n h lb nn f),.bool false]))->aQ w bs (bY t) e w'):=λe w' h1 h2 h3=>aQ.no (by rw[Ni.o,h1]) h2 h3
 have HCX:ae (∀x,fH (aw (aC l).2)=some x->∃nm a b c,x.cells bs=gx 1 nm a b c):=λx hx=>by
  unfold fH at hx;split at hx
  ·obtain⟨a,_,hx⟩:=Option.bind_eq_some_iff.1 hx;obtain⟨b,_,hx⟩:=Option.bind_eq_some_iff.1 hx;obtain⟨c,_,hx⟩:=Option.bind_eq_some_iff.1 hx;split at hx
   ·cases hx;exact⟨_,_,_,_,rfl⟩
   ·cases hx
  ·cases hx
 clear Ni;have hnl:=iW hn;rw[hn]at rH;obtain⟨vo,vc,rfl,_⟩:=hO.sl.view;generalize aQ w bs (bY t)=LP at *;go_enter func46,ntmps46;go_wp2_with fail;refine(rH.o _ (HM.o.ah gq.o)).mono ?_;rintro e w1 ⟨rfl,m1⟩;generalize fH (aw (aC l).2)=mp at *;generalize aw (aC l).2=r2 at *;generalize aC l=wl at *;obtain⟨x,r1⟩:=wl;dsimp only at *;have HW1:ae (∀cs,Jh w w1.heap.size w.heap.size l (w1.alloc (.cells cs 155))\/True):=λ_=>.inr trivial
 have HW2:ae (Jh w w1.heap.size w.heap.size (l) (w1.alloc (.cells #[.string (T (l))] 155))) :=
  ⟨aq.new _ _ _,(iy.o.ah m1 id).alloc _,(gq.o.trans m1).alloc _,by
   have h1:=(gq.o.trans m1).size;have h2:=(iy.o.ah m1 id).lt;omega⟩
 have Zi:=ak (gq.o.trans m1);clear m1 rH iy gq HW1;generalize hI:w1.heap.size=I at *;generalize hR:w.heap.size=R at *;clear hw;go_wp2_with fail;refine(CP.o I _ HW2.o.yM).mono ?_;rintro e w2 ⟨rfl,hp2⟩;have HW3:=ak (HW2.o.read hp2);clear hp2 CP HW2;go_wp2_with fail;refine(VU.o I _ HW3.o.yM).mono ?_;rintro e w3 ⟨rfl,hp3⟩;have Nj:=ak (HW3.o.read hp3);clear hp3 VU HW3;go_wp2_with fail;refine(vY.o I _ Nj.o.yM).mono ?_;rintro e w4 ⟨rfl,CQ⟩;have sZ:=ak (Nj.o.read CQ);clear CQ vY Nj;have i0:w4.cell? ⟨I,0,none⟩=some (.string (T r2)):=sZ.o.yM.cell 0;go_wp2_with fail;refine(HMP.o _).mono ?_;intro e w5 hpo;obtain⟨m5,hpo⟩:=hpo;have ow:=ak (sZ.o.quiet m5);clear m5 sZ HMP;cases hmp:mp with
 |none =>rw[hmp]at hpo;obtain⟨k,nm,a,b,c,op,dd,ss,jj,nn,hh,lb,nm2,ff,rfl⟩:=hpo;go_wp2_with (refine wpList_store_row rfl 119 (.tmp 4) (.tmp 47) rfl R (ES k nm a b c (.pointer op) dd ss jj nn hh lb nm2 ff) rfl rfl 119 _ ow.o.res (by kernel_rfl) rfl (eF ..) ?_);refine bodyPost_ret (au results46 _ _ R 119 _ (0,0) _ _ rfl rfl ow.o.res.aI underlying119 rfl (by kernel_rfl)) rfl ?_;exact Yi.o _ _ hmp (ow.o.md.aI (.inr ow.o.lt.2.2)) ⟨k,nm,a,b,c,op,dd,ss,jj,nn,hh,lb,nm2,ff,rfl⟩
 |some y =>rw[hmp]at hpo;have he:e=.returned (.tuple #[.agg (y.cells bs),.bool true]):=hpo;obtain⟨nm,a,b,c,hy⟩:=HCX.o y hmp;have HY:=ak hy;rw[hy]at he;subst he;clear hpo hy;go_wp2_with (refine wpList_store_row rfl 119 (.tmp 4) (.tmp 47) rfl R (gx 1 nm a b c) rfl rfl 119 _ ow.o.res (by kernel_rfl) rfl (eF ..) ?_);refine bodyPost_ret (au results46 _ _ R 119 _ (0,0) _ _ rfl rfl ow.o.res.aI underlying119 rfl (by kernel_rfl)) rfl ?_;exact HPY.o _ _ y hmp (ow.o.md.aI (.inr ow.o.lt.2.2)) (by rw[HY.o];rfl)
theorem Si(wT w:tW)(v:Value)(bs:List Nat)(t:tLB)(hO:aR 0 wT v bs ax)(m:aa af wT w)(hE:Env w)(hM:lV w)(ht:t.length<=1000000)(l:tLB)(hn:fP t=some l)(hs:aw l≠[])(hk:aH 58 (aC l).2=false)(hw:(aC l).1=[102,117,110,99]):Calls prog 46 #[v,.string (T t)] w λe w'=>aQ w bs (bY t) e w':=by
 have rH:ae (∀w',lV w'->Calls prog 71 #[.string (T t)] w' λe w''=>e=.returned (.tuple #[.agg #[.string (T ((fP t).getD []))],.bool (fP t).isSome])/\aa af w' w''):=λw' h=>wu t w' h ht;have HM:=ak hM;have HE:=ak hE;have iy:ae (aq (w.alloc (.cells (gx 0 ⟨#[]⟩ ay ay ay) 119)) w.heap.size (gx 0 ⟨#[]⟩ ay ay ay) 119):=aq.new w _ _;have gq:ae (aa af w (w.alloc (.cells (gx 0 ⟨#[]⟩ ay ay ay) 119))):=(aa.refl _ _).alloc _;have Ni:ae (bY t=if ahI (aC (aw (aC l).2)).1=true/\aw (aC (aw (aC l).2)).2=[]then some {kind:=2,name:=(aC (aw (aC l).2)).1}else none):=by rw[ae,pq hn,iN9 hs,iN9 (by simp[hk]),iN9 (by rw[hw];decide),iP9 hw]
 have hl2:(aw (aC l).2).length<=1000000:=by have:=iY (aC l).2;have:=kX l;have:=iW hn;omega
 have HNA:ae (∀I w',aq w' I #[.string (T (aw (aC l).2))] 155->Calls prog 78 #[.pointer (some ⟨I,0,none⟩)] w' λe w''=>e=.returned (.tuple #[.string (T (aC (aw (aC l).2)).1),.bool (ahI (aC (aw (aC l).2)).1)])/\aN w' I 0 #[.string (T (aw (aC l).2))] 155 (aC (aw (aC l).2)).2 w''):=λI w' h'=>qF I 0 _ _ _ w' ⟨h',rfl⟩ hl2;have HD2:ae (∀I w',aq w' I #[.string (T (aC (aw (aC l).2)).2)] 155->Calls prog 72 #[.pointer (some ⟨I,0,none⟩)] w' λe w''=>e=.returned (.bool (decide (aw (aC (aw (aC l).2)).2=[])))/\aN w' I 0 #[.string (T (aC (aw (aC l).2)).2)] 155 (aw (aC (aw (aC l).2)).2) w''):=λI w' h'=>kW I 0 _ _ _ w' ⟨h',rfl⟩;have HPY:ae (∀e w',(ahI (aC (aw (aC l).2)).1=true/\aw (aC (aw (aC l).2)).2=[])->aa af w w'->e=.returned (.tuple #[.agg (gx 2 (T (aC (aw (aC l).2)).1) ay ay ay),.bool true])->aQ w bs (bY t) e w'):=λe w' h1 h2 h3=>aQ.yes (x:={kind:=2,name:=(aC (aw (aC l).2)).1}) (by rw[Ni.o,iP9 h1]) h2 h3;have Yi:ae (∀e w',¬(ahI (aC (aw (aC l).2)).1=true/\aw (aC (aw (aC l).2)).2=[])->aa af w w'->e=.returned (.tuple #[.agg (gx 2 (T (aC (aw (aC l).2)).1) ay ay ay),.bool false])->aQ w bs (bY t) e w'):=λe w' h1 h2 h3=>aQ.no (by rw[Ni.o,iN9 h1]) h2 ⟨2,_,_,_,_,none,0,0,0,0,0,_,_,false,h3⟩;have CP:ae (∀I w',aq w' I #[.string (T l)] 155->Calls prog 72 #[.pointer (some ⟨I,0,none⟩)] w' λe w''=>e=.returned (.bool false)/\aN w' I 0 #[.string (T l)] 155 (aw l) w''):=λI w' h'=>by have:=kW I 0 _ _ l w' ⟨h',rfl⟩;rw[decide_eq_false hs]at this;exact this
 have hwl:=kX l;have VU:ae (∀I w',aq w' I #[.string (T (aw l))] 155->Calls prog 73 #[.pointer (some ⟨I,0,none⟩)] w' λe w''=>e=.returned (.string (T (aC l).1))/\aN w' I 0 #[.string (T (aw l))] 155 (aC l).2 w''):=λI w' h'=>by have:=iL I 0 _ _ (aw l) w' ⟨h',rfl⟩ (by have:=iY l;have:=iW hn;omega);rw[CR]at this;exact this
 have vY:ae (∀I w',aq w' I #[.string (T (aC l).2)] 155->Calls prog 74 #[.pointer (some ⟨I,0,none⟩),.int .u8 58] w' λe w''=>e=.returned (.bool false)/\aN w' I 0 #[.string (T (aC l).2)] 155 (aw (aC l).2) w''):=λI w' h'=>by have:=jh I 0 _ _ (aC l).2 58 w' ⟨h',rfl⟩ (by have:=iW hn;omega);rw[hk,om hk]at this;exact this
 have hq:((T (aC l).1).toList==[109,97,112])=false:=dK (λe=>by rw[hw]at e;exact absurd (qo e) (by decide));have hq2:((T (aC l).1).toList==[102,117,110,99])=true:=dX (by rw[hw]);clear Ni;have hnl:=iW hn;rw[hn]at rH;obtain⟨vo,vc,rfl,_⟩:=hO.sl.view;generalize aQ w bs (bY t)=LP at *;go_enter func46,ntmps46;go_wp2_with fail;refine(rH.o _ (HM.o.ah gq.o)).mono ?_;rintro e w1 ⟨rfl,m1⟩;generalize hdd:decide (aw (aC (aw (aC l).2)).2=[])=dd at *;have KP:ae (aw (aC (aw (aC l).2)).2=[]↔dd=true):=by rw[ae,<-hdd];simp
 generalize aw (aC (aw (aC l).2)).2=r4 at *;generalize ahI (aC (aw (aC l).2)).1=nb at *;generalize aC (aw (aC l).2)=wl2 at *;obtain⟨nm,r3⟩:=wl2;generalize aw (aC l).2=r2 at *;generalize aC l=wl at *;obtain⟨x,r1⟩:=wl;dsimp only at *;have HW1:ae (∀cs,Jh w w1.heap.size w.heap.size l (w1.alloc (.cells cs 155))\/True):=λ_=>.inr trivial
 have HW2:ae (Jh w w1.heap.size w.heap.size (l) (w1.alloc (.cells #[.string (T (l))] 155))) :=
  ⟨aq.new _ _ _,(iy.o.ah m1 id).alloc _,(gq.o.trans m1).alloc _,by
   have h1:=(gq.o.trans m1).size;have h2:=(iy.o.ah m1 id).lt;omega⟩
 have Zi:=ak (gq.o.trans m1);clear m1 rH iy gq HW1;generalize hI:w1.heap.size=I at *;generalize hR:w.heap.size=R at *;clear hw hdd;go_wp2_with fail;refine(CP.o I _ HW2.o.yM).mono ?_;rintro e w2 ⟨rfl,hp2⟩;have HW3:=ak (HW2.o.read hp2);clear hp2 CP HW2;go_wp2_with fail;refine(VU.o I _ HW3.o.yM).mono ?_;rintro e w3 ⟨rfl,hp3⟩;have Nj:=ak (HW3.o.read hp3);clear hp3 VU HW3;go_wp2_with fail;refine(vY.o I _ Nj.o.yM).mono ?_;rintro e w4 ⟨rfl,CQ⟩;have sZ:=ak (Nj.o.read CQ);clear CQ vY Nj;go_wp2_with fail;refine(HNA.o I _ sZ.o.yM).mono ?_;rintro e w5 ⟨rfl,hp5⟩;have ow:=ak (sZ.o.read hp5);clear hp5 HNA sZ;cases nb with
 |false =>
  have HNN:ae (¬(false=true/\r4=[])):=λh=>by cases h.1
  go_wp2_with (refine wpList_store_row rfl 119 (.tmp 4) (.tmp 56) rfl R (gx 2 (T nm) ay ay ay) rfl rfl 119 _ ow.o.res (by kernel_rfl) rfl (eF ..) ?_);refine bodyPost_ret (au results46 _ _ R 119 _ (0,0) _ _ rfl rfl ow.o.res.aI underlying119 rfl (by kernel_rfl)) rfl ?_;exact Yi.o _ _ HNN.o (ow.o.md.aI (.inr ow.o.lt.2.2)) rfl
 |true =>
  go_wp2_with fail;refine(HD2.o I _ ow.o.yM).mono ?_;rintro e w6 ⟨rfl,hp6⟩;have uJ:=ak (ow.o.read hp6);clear hp6 HD2 ow;cases dd with
  |false =>
   have HNN:ae (¬(true=true/\r4=[])):=λh=>by have:=KP.o.1 h.2;cases this
   go_wp2_with (refine wpList_store_row rfl 119 (.tmp 4) (.tmp 56) rfl R (gx 2 (T nm) ay ay ay) rfl rfl 119 _ uJ.o.res (by kernel_rfl) rfl (eF ..) ?_);refine bodyPost_ret (au results46 _ _ R 119 _ (0,0) _ _ rfl rfl uJ.o.res.aI underlying119 rfl (by kernel_rfl)) rfl ?_;exact Yi.o _ _ HNN.o (uJ.o.md.aI (.inr uJ.o.lt.2.2)) rfl
  |true =>have HD3:ae (r4=[]):=KP.o.2 rfl;go_wp2_with (refine wpList_store_row rfl 119 (.tmp 4) (.tmp 56) rfl R (gx 2 (T nm) ay ay ay) rfl rfl 119 _ uJ.o.res (by kernel_rfl) rfl (eF ..) ?_);refine bodyPost_ret (au results46 _ _ R 119 _ (0,0) _ _ rfl rfl uJ.o.res.aI underlying119 rfl (by kernel_rfl)) rfl ?_;exact HPY.o _ _ ⟨by simp,HD3.o⟩ (uJ.o.md.aI (.inr uJ.o.lt.2.2)) rfl
theorem Sj(wT w:tW)(v:Value)(bs:List Nat)(t:tLB)(hO:aR 0 wT v bs ax)(m:aa af wT w)(hE:Env w)(hM:lV w)(ht:t.length<=1000000)(l:tLB)(hn:fP t=some l)(hs:aw l≠[])(hk:aH 58 (aC l).2=false)(hw1:(aC l).1≠[109,97,112])(hw2:(aC l).1≠[102,117,110,99]):Calls prog 46 #[v,.string (T t)] w λe w'=>aQ w bs (bY t) e w':=by
 have rH:ae (∀w',lV w'->Calls prog 71 #[.string (T t)] w' λe w''=>e=.returned (.tuple #[.agg #[.string (T ((fP t).getD []))],.bool (fP t).isSome])/\aa af w' w''):=λw' h=>wu t w' h ht;have HM:=ak hM;have HE:=ak hE;have iy:ae (aq (w.alloc (.cells (gx 0 ⟨#[]⟩ ay ay ay) 119)) w.heap.size (gx 0 ⟨#[]⟩ ay ay ay) 119):=aq.new w _ _;have gq:ae (aa af w (w.alloc (.cells (gx 0 ⟨#[]⟩ ay ay ay) 119))):=(aa.refl _ _).alloc _;have Ni:ae (bY t=(kL (aC l).1 (aw (aC l).2)).map λx=>{kind:=4,x:=x}):=by rw[ae,pq hn,iN9 hs,iN9 (by simp[hk]),iN9 hw1,iN9 hw2]
 have hl2:(aw (aC l).2).length<=1000000:=by have:=iY (aC l).2;have:=kX l;have:=iW hn;omega
 have YX:ae (∀w',aa af w w'->Calls prog 79 #[v,.string (T (aC l).1),.agg #[.string (T (aw (aC l).2))]] w' λe w''=>uV w' bs (kL (aC l).1 (aw (aC l).2)) e w''):=λw' m'=>ain wT w' v bs _ _ hO (m.trans m') (hE.ah m') hl2;have HPY:ae (∀e w' y,kL (aC l).1 (aw (aC l).2)=some y->aa af w w'->e=.returned (.tuple #[.agg (ES 4 ⟨#[]⟩ ay ay ay (.pointer (some ⟨bs[y.k]?.getD 0,0,none⟩)) y.r.d y.r.s y.r.jump y.r.num y.r.high (T y.r.label) (T y.r.name) y.fits),.bool true])->aQ w bs (bY t) e w'):=λe w' y h1 h2 h3=>aQ.yes (x:={kind:=4,x:=y}) (by rw[Ni.o,h1];rfl) h2 h3;have Yi:ae (∀e w',kL (aC l).1 (aw (aC l).2)=none->aa af w w'->e=.returned (.tuple #[.agg (ES 4 ⟨#[]⟩ ay ay ay (.pointer none) 0 0 0 0 0 ⟨#[]⟩ ⟨#[]⟩ false),.bool false])->aQ w bs (bY t) e w'):=λe w' h1 h2 h3=>aQ.no (by rw[Ni.o,h1];rfl) h2 ⟨4,_,_,_,_,none,0,0,0,0,0,_,_,false,h3⟩;have CP:ae (∀I w',aq w' I #[.string (T l)] 155->Calls prog 72 #[.pointer (some ⟨I,0,none⟩)] w' λe w''=>e=.returned (.bool false)/\aN w' I 0 #[.string (T l)] 155 (aw l) w''):=λI w' h'=>by have:=kW I 0 _ _ l w' ⟨h',rfl⟩;rw[decide_eq_false hs]at this;exact this
 have hwl:=kX l;have VU:ae (∀I w',aq w' I #[.string (T (aw l))] 155->Calls prog 73 #[.pointer (some ⟨I,0,none⟩)] w' λe w''=>e=.returned (.string (T (aC l).1))/\aN w' I 0 #[.string (T (aw l))] 155 (aC l).2 w''):=λI w' h'=>by have:=iL I 0 _ _ (aw l) w' ⟨h',rfl⟩ (by have:=iY l;have:=iW hn;omega);rw[CR]at this;exact this
 have vY:ae (∀I w',aq w' I #[.string (T (aC l).2)] 155->Calls prog 74 #[.pointer (some ⟨I,0,none⟩),.int .u8 58] w' λe w''=>e=.returned (.bool false)/\aN w' I 0 #[.string (T (aC l).2)] 155 (aw (aC l).2) w''):=λI w' h'=>by have:=jh I 0 _ _ (aC l).2 58 w' ⟨h',rfl⟩ (by have:=iW hn;omega);rw[hk,om hk]at this;exact this
 have hq:((T (aC l).1).toList==[109,97,112])=false:=dK (λe=>hw1 (qo e));have hq2:((T (aC l).1).toList==[102,117,110,99])=false:=dK (λe=>hw2 (qo e));clear Ni;have hnl:=iW hn;rw[hn]at rH;obtain⟨vo,vc,rfl,_⟩:=hO.sl.view;generalize aQ w bs (bY t)=LP at *;go_enter func46,ntmps46;go_wp2_with fail;refine(rH.o _ (HM.o.ah gq.o)).mono ?_;rintro e w1 ⟨rfl,m1⟩;generalize kL (aC l).1 (aw (aC l).2)=rp at *;generalize aw (aC l).2=r2 at *;generalize aC l=wl at *;obtain⟨x,r1⟩:=wl;dsimp only at *;have HW1:ae (∀cs,Jh w w1.heap.size w.heap.size l (w1.alloc (.cells cs 155))\/True):=λ_=>.inr trivial
 have HW2:ae (Jh w w1.heap.size w.heap.size (l) (w1.alloc (.cells #[.string (T (l))] 155))) :=
  ⟨aq.new _ _ _,(iy.o.ah m1 id).alloc _,(gq.o.trans m1).alloc _,by
   have h1:=(gq.o.trans m1).size;have h2:=(iy.o.ah m1 id).lt;omega⟩
 have Zi:=ak (gq.o.trans m1);clear m1 rH iy gq HW1;generalize hI:w1.heap.size=I at *;generalize hR:w.heap.size=R at *;clear hw1 hw2;go_wp2_with fail;refine(CP.o I _ HW2.o.yM).mono ?_;rintro e w2 ⟨rfl,hp2⟩;have HW3:=ak (HW2.o.read hp2);clear hp2 CP HW2;go_wp2_with fail;refine(VU.o I _ HW3.o.yM).mono ?_;rintro e w3 ⟨rfl,hp3⟩;have Nj:=ak (HW3.o.read hp3);clear hp3 VU HW3;go_wp2_with fail;refine(vY.o I _ Nj.o.yM).mono ?_;rintro e w4 ⟨rfl,CQ⟩;have sZ:=ak (Nj.o.read CQ);clear CQ vY Nj;have i0:w4.cell? ⟨I,0,none⟩=some (.string (T r2)):=sZ.o.yM.cell 0;go_wp2_with fail;refine(YX.o _ sZ.o.md).mono ?_;intro e w5 hpo;obtain⟨m5,he⟩:=hpo;have ow:ae (∀cs,Jh w I R r2 (w5.alloc (.cells cs 117))):=λcs=>sZ.o.quiet (m5.alloc _);clear m5 sZ YX i0;cases hrp:rp with
 |none =>rw[hrp]at he;dsimp only[zz]at he;subst he;go_wp2_with (refine wpList_store_row rfl 119 (.tmp 4) (.tmp 71) rfl R (ES 4 ⟨#[]⟩ ay ay ay (.pointer none) 0 0 0 0 0 ⟨#[]⟩ ⟨#[]⟩ false) rfl rfl 119 _ (ow.o _).res (by kernel_rfl) rfl (eF ..) ?_);refine bodyPost_ret (au results46 _ _ R 119 _ (0,0) _ _ rfl rfl (ow.o _).res.aI underlying119 rfl (by kernel_rfl)) rfl ?_;exact Yi.o _ _ hrp ((ow.o _).md.aI (.inr (ow.o #[]).lt.2.2)) rfl
 |some y =>rw[hrp]at he;dsimp only[bH.cells]at he;subst he;generalize hyf:y.fits=yf at *;generalize hyp:bs[y.k]?.getD 0=yb at *;go_wp2_with (refine wpList_store_row rfl 119 (.tmp 4) (.tmp 71) rfl R (ES 4 ⟨#[]⟩ ay ay ay (.pointer (some ⟨yb,0,none⟩)) y.r.d y.r.s y.r.jump y.r.num y.r.high (T y.r.label) (T y.r.name) yf) rfl rfl 119 _ (ow.o _).res (by kernel_rfl) rfl (eF ..) ?_);refine bodyPost_ret (au results46 _ _ R 119 _ (0,0) _ _ rfl rfl (ow.o _).res.aI underlying119 rfl (by kernel_rfl)) rfl ?_;exact HPY.o _ _ y hrp ((ow.o _).md.aI (.inr (ow.o #[]).lt.2.2)) (by rw[hyf,hyp];rfl)
theorem V7(wT w:tW)(v:Value)(bs:List Nat)(t:tLB)(hO:aR 0 wT v bs ax)(m:aa af wT w)(hE:Env w)(hM:lV w)(ht:t.length<=1000000):Calls prog 46 #[v,.string (T t)] w λe w'=>aQ w bs (bY t) e w':=by
 cases hn:fP t with
 |none=>exact R9 wT w v bs t hO m hE hM ht hn
 |some l =>
  by_cases hs:aw l=[]
  ·exact Sa wT w v bs t hO m hE hM ht l hn hs
  ·cases hk:aH 58 (aC l).2 with
   |true=>exact Sb wT w v bs t hO m hE hM ht l hn hs hk
   |false =>
    by_cases h1:(aC l).1=[109,97,112]
    ·exact Sh wT w v bs t hO m hE hM ht l hn hs hk h1
    ·by_cases h2:(aC l).1=[102,117,110,99]
     ·exact Si wT w v bs t hO m hE hM ht l hn hs hk h2
     ·exact Sj wT w v bs t hO m hE hM ht l hn hs hk h1 h2
def ahK:tLB->List tLB
 |[]=>[[]]
 |c::l=>if c=10 then []::ahK l else match ahK l with
  |[]=>[[c]]
  |h::t=>(c::h)::t
theorem AU:∀(l:tLB),(∀d∈l,d≠10)->ahK l=[l]
 |[],_=>rfl
 |c::l,h=>by rw[ahK,iN9 (h c (by simp)),AU l (λd hd=>h d (by simp[hd]))]
theorem x9:∀(l:tLB) (k:Nat),l.takeWhile (λd=>d != 10)=l.take k->k<l.length->ahK l=l.take k::ahK (l.drop (k+1))
 |[],k,_,hk=>absurd hk (Nat.not_lt_zero _)
 |c::l,0,h,_=>by
  by_cases e:c=10
  ·subst e;rw[ahK,iP9 rfl];rfl
  ·rw[ba,iP9 (by simpa using e)]at h;simp at h
 |c::l,k+1,h,hk=>by
  by_cases e:c=10
  ·subst e;rw[ba,iN9 (by simp)]at h;simp at h
  ·rw[ba,iP9 (by simpa using e)]at h;have ih:=x9 l k (by simpa using h) (by simpa using hk);rw[ahK,iN9 e,ih];rfl
theorem BM:∀(k:Nat) (s:tBA),Lib.countB s ⟨#[10]⟩=k->Lib.splitB ⟨#[10]⟩ 0 k s=(ahK (BL s)).map T
 |k,s,hc=>by
  rcases index_one (BL s) 10 with⟨h1,h2⟩ |⟨i,h1,h2,h3⟩
  ·have hi:Lib.indexB s ⟨#[10]⟩=-1:=h1;rw[Lib.splitB_miss _ _ _ _ hi,AU _ h2];rfl
  ·have hi:Lib.indexB s ⟨#[10]⟩=(i:Int):=h1;have hh:=Lib.countB_hit s ⟨#[10]⟩ i (by decide) hi;rw[hc]at hh
   have hb:BL (s.extract (i+(ByteArray.mk #[10]).size) s.size)=(BL s).drop (i+1):=by
    show(s.extract (i+1) s.size).data.toList=s.data.toList.drop (i+1)
    have:=Df (BL s) (i+1);rw[UG]at this;rw[this];simp[T,BL]
   have ht:s.extract 0 i=T ((BL s).take i):=by have:=MC (BL s) i;rw[UG]at this;exact this
   match k,hh with
   |0,hh=>omega
   |k+1,hh =>rw[Lib.splitB_hit _ _ _ _ i hi,BM k _ (by omega),hb,x9 _ i h2 h3,Nat.add_zero,ht];rfl
theorem Np(l:tLB)(w:tW)(hM:lV w)(hl:l.length<=1000000):Calls prog 45 #[.string (T l),.string ⟨#[10]⟩] w λe w'=>∃n,e=.returned (.slice (some ⟨w.heap.size,0,none⟩) (ahK l).length n)/\w'=w.alloc (.cells ((ahK l).map (λt=>Value.string (T t))).toArray 9):=by
 obtain⟨m,hm⟩:=hM;have h:=Any.strings_Split lsp (by kernel_rfl) (T l) ⟨#[10]⟩ m w (by rw[bZ];omega) hm (by decide);have e:=BM _ (T l) rfl;have hb:BL (T l)=l:=by simp[BL,T]
 rw[hb]at e;have hn:=Lib.splitB_all ⟨#[10]⟩ (by decide) 0 _ (T l) rfl;rw[e,List.length_map]at hn;refine h.mono (λe' w' ⟨h1,h2⟩=>⟨Lib.countB (T l) ⟨#[10]⟩+1,?_,?_⟩)
 ·rw[h1,hn]
 ·rw[h2,e,List.map_map];rfl
def ahL:List tLB->Bool->Nat->List bV->List bV ⊕ Nat
 |[],_,_,acc=>.inl acc
 |t::ts,kM,n,acc=>match bY t with
  |none=>.inr (n+1)
  |some x=>if(kM||x.kind==2)=false/\(x.kind=3\/x.kind=4)then .inr (n+1)else ahL ts (kM||x.kind==2) (n+1) (acc++[x])
theorem KR(ts:List tLB)(k:Nat)(hk:k<ts.length)(kM:Bool)(n:Nat)(acc:List bV):ahL (ts.drop k) kM n acc=match bY ts[k]with
  |none=>.inr (n+1)
  |some x=>if(kM||x.kind==2)=false/\(x.kind=3\/x.kind=4)then .inr (n+1)else ahL (ts.drop (k+1)) (kM||x.kind==2) (n+1) (acc++[x]):=by
 rw[List.drop_eq_getElem_cons hk,ahL]
structure ed(w0:tW)(v:Value)(bs:List Nat)(ls:List bV)(w:tW):Prop where
 sl:Sl w 119 20 v ls.length (ls.flatMap (λx=>(x.cells bs).toList))
 own:∀k,v.ownBlock=some k->w0.heap.size<=k
 md:aa af w0 w
theorem ed.quiet{w0 w w':tW}{v:Value}{bs:List Nat}{ls:List bV}(h:ed w0 v bs ls w)(m:aa af w w'):ed w0 v bs ls w':=⟨h.sl.ah m (λ_ _=>id),h.own,h.md.trans m⟩
theorem ed.nil(w:tW)(bs:List Nat):ed w (.slice none 0 0) bs [] w:=⟨Sl.nil _ _ _,(λk h=>by cases h),aa.refl _ _⟩
theorem ed.app{w0 w w':tW}{v v':Value}{bs:List Nat}{ls:List bV}{x:bV}(h:ed w0 v bs ls w)(s:Sl w' 119 20 v' (ls.length+1) (ls.flatMap (λx=>(x.cells bs).toList)++(x.cells bs).toList))(m:aa (λk=>v.ownBlock=some k) w w')(lv:∀k,v'.ownBlock=some k->v.ownBlock=some k\/w.heap.size<=k):ed w0 v' bs (ls++[x]) w':=by
 refine⟨by simpa using s,λk hk=>?_,h.md.step m (λi hi e=>by have:=h.own i e;omega)⟩;rcases lv k hk with e|e
 ·exact h.own k e
 ·have:=h.md.size;omega
theorem iE(bs:List Nat)(x:bV):(x.cells bs).size=20:=by unfold bV.cells;split<;>rfl
theorem cells_one(bs:List Nat)(x:bV):(x.cells bs).all (·.oneCell')=true:=by unfold bV.cells;split<;>exact eF ..
theorem tC(bs:List Nat)(x:bV):(x.cells bs)[0]?=some (.int .i64 x.kind):=by
 unfold bV.cells;split
 ·rename_i h;rw[h];rfl
 ·rfl
theorem DL:(prog.info? 119).map (λi=>(i.zero,i.size,i.bytes))=some (some (.agg (gx 0 ⟨#[]⟩ ay ay ay)),20,160):=by kernel_rfl
def DM(w:tW)(bs:List Nat)(r:List bV ⊕ Nat)(e:Ending)(w':tW):Prop:=match r with
 |.inr n=>e=.returned (.tuple #[.slice none 0 0,.int .i64 n])/\aa af w w'
 |.inl ls=>∃v,e=.returned (.tuple #[v,.int .i64 0])/\ed w v bs ls w'
theorem abU{t:tLB}{l:tLB}:t∈ahK l->t.length<=l.length:=by
 induction l generalizing t with
 |nil=>intro h;simp[ahK]at h;subst h;exact cc _
 |cons c l ih =>
  intro h;rw[ahK]at h;split at h
  ·rcases List.mem_cons.1 h with rfl|h
   ·simp
   ·have:=ih h;simp;omega
  ·cases hl:ahK l with
   |nil=>rw[hl]at h;simp at h;subst h;simp
   |cons a b =>
    rw[hl]at h;rcases List.mem_cons.1 h with rfl|h
    ·have:=ih (t:=a) (by rw[hl];simp);simp;omega
    ·have:=ih (t:=t) (by rw[hl];simp[h]);simp;omega
theorem GA(l:tLB):(ahK l).length<=l.length+1:=by
 induction l with
 |nil=>simp[ahK]
 |cons c l ih =>
  rw[ahK];split
  ·simp;omega
  ·cases hl:ahK l with
   |nil=>simp
   |cons a b=>rw[hl]at ih;simp at ih ⊢;omega
theorem DN:∀(l pre z:List Value),z.length=l.length->(l.zipIdx pre.length).foldl (λ(cs:tAV) x=>cs.setIfInBounds (0+x.2) x.1) (pre++z).toArray=(pre++l).toArray
 |[],pre,z,h=>by have:z=[]:=List.length_eq_zero_iff.1 h;subst this;rfl
 |a::l,pre,[],h=>by cases h
 |a::l,pre,b::z,h=>by
  rw[List.zipIdx_cons,List.foldl_cons];have e:((pre++b::z).toArray.setIfInBounds (0+pre.length) a)=((pre++[a])++z).toArray:=by rw[Nat.zero_add,List.setIfInBounds_toArray,List.set_append_right _ _ (cc _),Nat.sub_self,List.set_cons_zero,ca];rfl
  have ih:=DN l (pre++[a]) z (by simpa using h);rw[b9,bt]at ih;show(l.zipIdx (pre.length+1)).foldl _ ((pre++b::z).toArray.setIfInBounds (0+pre.length) a)=_
  rw[e,ih,ca];rfl
theorem V8(cs z:tAV)(hc:cs.size=20)(hz:z.size=20):Instr.fill (λi=>some (i*20,20)) z [(0,.agg cs)]=some cs:=by
 obtain⟨l⟩:=cs;obtain⟨m⟩:=z;simp only[cb]at hc hz;have h:=DN l [] m (by omega);have hcl:(Value.agg l.toArray).cells=l.toArray:=rfl;simp only[Instr.fill,hcl,cb,hc,hz];rw[iN9 (by decide)];simp only[List.nil_append,List.length_nil]at h
 simpa using h
theorem eV{ops:Array Oper}{rest:List Oper}{o:Oper}{a:Act}{w:tW}{Q:Exit->Act->tW->Prop}(hg:o.guard=none)(x:Operand)(ho:o.op=.buildSlice 69 1 #[(0,x)])(cs:tAV) (hx:a.eval x=.agg cs) (hc:cs.size=20)(h:wpList prog ops Q rest (a.put o.dst (.slice (some ⟨w.heap.size,0,none⟩) 1 1)) (w.alloc (.cells cs 119))):wpList prog ops Q (o::rest) a w:=by obtain⟨iP,hiP,qH,hsP,vZ⟩:=info_parts DL;refine wpList_buildSlice hg 69 119 1 _ ho cs iP _ underlying69 hiP qH (by rw[hsP];decide) (by rw[hsP];decide) ?_ h;rw[hsP];simp only[List.map_toArray,List.map_cons,List.map_nil,hx];exact V8 cs _ hc (by simp)
theorem dI{P:Program}{ops:Array Oper}{rest:List Oper}{o:Oper}{a:Act}{w:tW}{Q:Exit->Act->tW->Prop}(hgd:o.guard=none)(ty:TypeId)(x y:Operand)(ho:o.op=.store ty x y)(g:Nat) (cells:tAV) (hx:a.eval x=.pointer (some ⟨g,0,none⟩)) (hy:a.eval y=.agg cells)(t:TypeId) (old:tAV) (hg:aq w g old t) (hi:(P.info? ty).map (·.size)=some cells.size)(hold:old.size=cells.size) (h1:cells.all (·.oneCell')=true)(h:∀W,aq W g cells t->aa (Only g) w W->wpList P ops Q rest (a.put o.dst undef) W):wpList P ops Q (o::rest) a w :=
 wpList_store_row hgd ty x y ho g cells hx hy t old hg hi hold h1 (h _ (hg.setRow cells) (aa.setRow (S:=Only g) (aa.refl _ _) (.inl rfl) _))
theorem aa.fresh{w W:tW}{o:Obj}(m:aa (Only w.heap.size) (w.alloc o) W):aa af w W :=
 ((aa.refl af w).alloc o).step m (λi hi e=>by have:i=w.heap.size:=e;omega)
theorem aip(wT w:tW)(v:Value)(bs:List Nat)(l:tLB)(hO:aR 0 wT v bs ax)(m:aa af wT w)(hE:Env w)(hM:lV w)(hl:l.length<=1000000):Calls prog 24 #[v,.string (T l)] w λe w'=>DM w bs (ahL (ahK l) false 0 []) e w':=by
 have HSP:ae (Calls prog 45 #[.string (T l),.string ⟨#[10]⟩] w λe w'=>∃n,e=.returned (.slice (some ⟨w.heap.size,0,none⟩) (ahK l).length n)/\w'=w.alloc (.cells ((ahK l).map (λt=>Value.string (T t))).toArray 9)):=Np l w hM hl;have x8:ae (∀t w',t∈ahK l->aa af w w'->Calls prog 46 #[v,.string (T t)] w' λe w''=>aQ w' bs (bY t) e w''):=λt w' ht m'=>V7 wT w' v bs t hO (m.trans m') (hE.ah m') (hM.ah m') (by have:=abU ht;omega);have HNL:ae ((ahK l).length<=1000001):=by have:=GA l;rw[ae];omega
 have HPI:ae (∀e w' n,ahL (ahK l) false 0 []=.inr n->aa af w w'->e=.returned (.tuple #[.slice none 0 0,.int .i64 n])->DM w bs (ahL (ahK l) false 0 []) e w'):=λe w' n h1 h2 h3=>by rw[h1];exact⟨h3,h2⟩
 have uI:ae (∀e w' u ls,ahL (ahK l) false 0 []=.inl ls->ed w u bs ls w'->e=.returned (.tuple #[u,.int .i64 0])->DM w bs (ahL (ahK l) false 0 []) e w'):=λe w' u ls h1 h2 h3=>by rw[h1];exact⟨u,h3,h2⟩
 have HDR:ae (∀k (hk:k<(ahK l).length) kM n acc,ahL ((ahK l).drop k) kM n acc=match bY (ahK l)[k]with
  |none=>.inr (n+1)
  |some x=>if(kM||x.kind==2)=false/\(x.kind=3\/x.kind=4)then .inr (n+1)else ahL ((ahK l).drop (k+1)) (kM||x.kind==2) (n+1) (acc++[x])):=λk hk kM n acc=>KR _ k hk kM n acc
 obtain⟨iP,hiP,qH,hsP,vZ⟩:=info_parts DL;obtain⟨vo,vc,rfl,_⟩:=hO.sl.view;generalize DM w bs (ahL (ahK l) false 0 [])=PA at *;clear hO m hE hM;generalize ahK l=ts at *;have HP0:ae (∃pr,pr=ahL ts false 0 []):=⟨_,rfl⟩
 generalize hpr:ahL ts false 0 []=pr at *;have Jl:=ak hpr;clear hpr HP0;go_enter func24,ntmps24;go_wp2_with fail;refine HSP.o.mono ?_;rintro e w1 ⟨nc,rfl,hw1⟩;have Nq:ae (aq w1 w.heap.size (ts.map (λt=>Value.string (T t))).toArray 9):=by rw[hw1];exact aq.new w _ _
 have HA0:ae (ed w (.slice none 0 0) bs [] w1):=by rw[hw1];exact(ed.nil w bs).quiet ((aa.refl _ _).alloc _)
 have iG:=ak HA0.o.md;have BC:ae (w1.heap.size=w.heap.size+1):=by rw[ae,hw1];simp
 clear hw1 HSP;have hnl:=HNL.o;go_wp2_with fail;go_loopg [6,7,15] ts.length (λq v6 v7 Qp wx=>∃(k:Nat) (kM:Bool) (acc:List bV),k<=ts.length/\Qp=.int .i64 k/\v7=.bool kM/\ed w v6 bs acc wx/\aa af w1 wx/\ahL (ts.drop k) kM k acc=pr/\acc.length=k/\q=ts.length-k)
 case atStart=>exact⟨0,false,[],Nat.zero_le _,rfl,rfl,HA0.o,aa.refl _ _,Jl.o,rfl,rfl⟩
 case round =>
  obtain⟨k,kM,acc,hk,rfl,rfl,hA,hmk,hP,hak,rfl⟩:=hrel;have HA:=ak hA;have HP:=ak hP;have uk:=ak hmk;have HAK:=ak hak;clear hA hP hmk hak HA0 Jl;by_cases hlt:k<ts.length
  ·have t0:wr.cell? ⟨w.heap.size,k,none⟩=some (.string (T ts[k])):=by rw[(Nq.o.ah uk.o id).cell k];simp[hlt]
   have HD:ae (pr=match bY ts[k]with
    |none=>.inr (k+1)
    |some x=>if(kM||x.kind==2)=false/\(x.kind=3\/x.kind=4)then .inr (k+1)else ahL (ts.drop (k+1)) (kM||x.kind==2) (k+1) (acc++[x])):=by rw[ae,<-HP.o];exact HDR.o k hlt kM k acc
   have Gl:ae (Calls prog 46 #[.slice vo bs.length vc,.string (T ts[k])] wr λe w''=>aQ wr bs (bY ts[k]) e w''):=x8.o ts[k] wr (bh hlt) HA.o.md;clear HDR HP;generalize ts[k]=t at *;go_wp2_with fail;refine Gl.o.mono ?_;intro e w2 hpo;obtain⟨m2,hpo⟩:=hpo;have HA2:=ak (HA.o.quiet m2);have ep:=ak (uk.o.trans m2);clear m2 HA uk Gl t0;cases hlp:bY t with
   |none =>
    rw[hlp]at hpo;obtain⟨kd,nm,a,b,c,op,dd,ss,jj,nn,hh,lb,nm2,ff,rfl⟩:=hpo;have HE2:ae (pr=.inr (k+1)):=by rw[ae,HD.o,hlp]
    have HB2:ae (aq (w2.alloc (.cells (gx 0 ⟨#[]⟩ ay ay ay) 119)) w2.heap.size (gx 0 ⟨#[]⟩ ay ay ay) 119):=aq.new w2 _ _;have gR:ae ((ES kd nm a b c (.pointer op) dd ss jj nn hh lb nm2 ff).size=20):=rfl;have KS:ae ((ES kd nm a b c (.pointer op) dd ss jj nn hh lb nm2 ff)[0]?=some (.int .i64 kd)):=rfl;have yg:ae ((ES kd nm a b c (.pointer op) dd ss jj nn hh lb nm2 ff).all (·.oneCell')=true):=eF ..;generalize ES kd nm a b c (.pointer op) dd ss jj nn hh lb nm2 ff=cs at *;go_upto_region 7 with(refine dI rfl 119 (.tmp 10) (.tmp 24) rfl w2.heap.size (cs) rfl rfl 119 _ HB2.o (by rw[gR.o];kernel_rfl) (by rw[gR.o];rfl) (yg.o) ?_;intro W3 hB3 zG)
    have fw:ae (aa af w W3):=HA2.o.md.trans zG.fresh;have c0:W3.cell? ⟨w2.heap.size,0,none⟩=some (.int .i64 kd):=(hB3.cell 0).trans KS.o;obtain⟨q2,hq2⟩:∃q2:Bool,((kd:Int)==2)=q2:=⟨_,rfl⟩
    clear hB3 zG HB2;cases kM with
    |true =>go_wp2_with fail;exact HPI.o _ _ (k+1) HE2.o fw.o (by go_num)
    |false =>go_wp2_with fail;exact HPI.o _ _ (k+1) HE2.o fw.o (by go_num)
   |some x =>
    rw[hlp]at hpo;have he:e=.returned (.tuple #[.agg (x.cells bs),.bool true]):=hpo;subst he;clear hpo;have gR:ae ((x.cells bs).size=20):=iE bs x;have KS:ae ((x.cells bs)[0]?=some (.int .i64 x.kind)):=tC bs x;have yg:ae ((x.cells bs).all (·.oneCell')=true):=cells_one bs x;have HD2:ae (pr=if(kM||x.kind==2)=false/\(x.kind=3\/x.kind=4)then .inr (k+1)else ahL (ts.drop (k+1)) (kM||x.kind==2) (k+1) (acc++[x])):=by rw[ae,HD.o,hlp]
    have HB2:ae (aq (w2.alloc (.cells (gx 0 ⟨#[]⟩ ay ay ay) 119)) w2.heap.size (gx 0 ⟨#[]⟩ ay ay ay) 119):=aq.new w2 _ _;have Yk:ae (∀(wA wB:tW) (vB:Value),ed w u6 bs acc wA->Sl wB 119 20 vB (acc.length+1) (acc.flatMap (λx=>(x.cells bs).toList)++(x.cells bs).toList)->aa (λk=>u6.ownBlock=some k) wA wB->(∀k,vB.ownBlock=some k->u6.ownBlock=some k\/wA.heap.size<=k)->ed w vB bs (acc++[x]) wB):=λwA wB vB h=>h.app;clear HD hlp;generalize x.cells bs=cs at *;go_upto_region 7 with(refine dI rfl 119 (.tmp 10) (.tmp 24) rfl w2.heap.size (cs) rfl rfl 119 _ HB2.o (by rw[gR.o];kernel_rfl) (by rw[gR.o];rfl) (yg.o) ?_;intro W3 hB3 zG)
    have kT:=ak (HA2.o.quiet zG.fresh);have fw:=ak (ep.o.trans zG.fresh);have HB3:=ak hB3;have c0:W3.cell? ⟨w2.heap.size,0,none⟩=some (.int .i64 x.kind):=(hB3.cell 0).trans KS.o;clear hB3 zG HB2 HA2 ep;generalize hB:w2.heap.size=B at *;have hcase:x.kind=2\/x.kind=3\/x.kind=4\/(x.kind≠2/\x.kind≠3/\x.kind≠4):=by omega
    rcases hcase with hk|hk|hk|hk
    ·have hb2:(x.kind==2)=true:=by rw[hk];rfl
     have q2:((x.kind:Int)==2)=true:=by rw[hk];rfl
     have q3:((x.kind:Int)==3)=false:=by rw[hk];rfl
     have q4:((x.kind:Int)==4)=false:=by rw[hk];rfl
     cases kM with
     |true =>
      have HE2:ae (ahL (ts.drop (k+1)) true (k+1) (acc++[x])=pr):=by rw[ae,HD2.o,iN9 (by rw[hb2];rintro⟨h,_⟩;cases h),hb2];rfl
      clear HD2 hk;go_upto_region 10 with fail;obtain⟨o6,c6,h6,_⟩:=kT.o.sl.view;have hal:=HAK.o;have Cw:ae (∀os,ed w u6 bs acc (W3.alloc os)):=λos=>kT.o.quiet ((aa.refl _ _).alloc _);have jJ:ae (∀os,aa af w1 (W3.alloc os)):=λos=>fw.o.alloc _;subst h6;have V9:ae (∀u∈cs.toList,u.oneCell'=true):=λu hu=>by have:=yg.o;rw[an]at this;exact this u (by simpa using hu)
      go_wp2_with (first |(refine wpList_load_row rfl 119 (.tmp 10) rfl B rfl 119 cs (0,0) _ HB3.o underlying119 rfl (by rw[gR.o];kernel_rfl) ?_) |(refine eV rfl (.tmp 51) rfl cs rfl gR.o ?_) |(at_builtin;refine aJ _ rfl (.tmp 50) (.tmp 52) 69 rfl 119 iP (.agg (gx 0 ⟨#[]⟩ ay ay ay)) 20 160 underlying69 hiP qH hsP vZ rfl (by decide) (.slice o6 acc.length c6) acc.length (acc.flatMap (λx=>(x.cells bs).toList)) rfl (Cw.o _).sl ⟨W3.heap.size,0,none⟩ 1 1 cs.toList rfl (by rw[ao,gR.o]) (aT _ _ _ _ rfl) V9.o (by unfold maxLen;omega) (by omega) ?_;intro vA wA sA mA lA;have Sk:ae (ed w vA bs (acc++[x]) wA):=Yk.o _ _ _ (Cw.o _) sA mA lA;have sU:ae (aa af w1 wA):=(jJ.o _).step mA (λi hi e=>by have h1:=kT.o.own i e;have h2:=BC.o;have h3:i=w.heap.size:=(by omega);subst h3;exact kT.o.sl.az (Nq.o.ah fw.o id) (by decide) e);clear sA mA lA));go_roundg (ts.length-(k+1))
      case measure=>omega
      case rel=>exact⟨k+1,true,acc++[x],by omega,by go_num,rfl,Sk.o,sU.o,HE2.o,by simp[hal],rfl⟩
     |false =>
      have HE2:ae (ahL (ts.drop (k+1)) true (k+1) (acc++[x])=pr):=by rw[ae,HD2.o,iN9 (by rw[hb2];rintro⟨h,_⟩;cases h),hb2];rfl
      clear HD2 hk;go_upto_region 10 with fail;obtain⟨o6,c6,h6,_⟩:=kT.o.sl.view;have hal:=HAK.o;have Cw:ae (∀os,ed w u6 bs acc (W3.alloc os)):=λos=>kT.o.quiet ((aa.refl _ _).alloc _);have jJ:ae (∀os,aa af w1 (W3.alloc os)):=λos=>fw.o.alloc _;subst h6;have V9:ae (∀u∈cs.toList,u.oneCell'=true):=λu hu=>by have:=yg.o;rw[an]at this;exact this u (by simpa using hu)
      go_wp2_with (first |(refine wpList_load_row rfl 119 (.tmp 10) rfl B rfl 119 cs (0,0) _ HB3.o underlying119 rfl (by rw[gR.o];kernel_rfl) ?_) |(refine eV rfl (.tmp 51) rfl cs rfl gR.o ?_) |(at_builtin;refine aJ _ rfl (.tmp 50) (.tmp 52) 69 rfl 119 iP (.agg (gx 0 ⟨#[]⟩ ay ay ay)) 20 160 underlying69 hiP qH hsP vZ rfl (by decide) (.slice o6 acc.length c6) acc.length (acc.flatMap (λx=>(x.cells bs).toList)) rfl (Cw.o _).sl ⟨W3.heap.size,0,none⟩ 1 1 cs.toList rfl (by rw[ao,gR.o]) (aT _ _ _ _ rfl) V9.o (by unfold maxLen;omega) (by omega) ?_;intro vA wA sA mA lA;have Sk:ae (ed w vA bs (acc++[x]) wA):=Yk.o _ _ _ (Cw.o _) sA mA lA;have sU:ae (aa af w1 wA):=(jJ.o _).step mA (λi hi e=>by have h1:=kT.o.own i e;have h2:=BC.o;have h3:i=w.heap.size:=(by omega);subst h3;exact kT.o.sl.az (Nq.o.ah fw.o id) (by decide) e);clear sA mA lA));go_roundg (ts.length-(k+1))
      case measure=>omega
      case rel=>exact⟨k+1,true,acc++[x],by omega,by go_num,rfl,Sk.o,sU.o,HE2.o,by simp[hal],rfl⟩
    ·have hb2:(x.kind==2)=false:=by rw[hk];rfl
     have q2:((x.kind:Int)==2)=false:=by rw[hk];rfl
     have q3:((x.kind:Int)==3)=true:=by rw[hk];rfl
     have q4:((x.kind:Int)==4)=false:=by rw[hk];rfl
     cases kM with
     |true =>
      have HE2:ae (ahL (ts.drop (k+1)) true (k+1) (acc++[x])=pr):=by rw[ae,HD2.o,iN9 (by rw[hb2];rintro⟨h,_⟩;cases h),hb2];rfl
      clear HD2 hk;go_upto_region 10 with fail;obtain⟨o6,c6,h6,_⟩:=kT.o.sl.view;have hal:=HAK.o;have Cw:ae (∀os,ed w u6 bs acc (W3.alloc os)):=λos=>kT.o.quiet ((aa.refl _ _).alloc _);have jJ:ae (∀os,aa af w1 (W3.alloc os)):=λos=>fw.o.alloc _;subst h6;have V9:ae (∀u∈cs.toList,u.oneCell'=true):=λu hu=>by have:=yg.o;rw[an]at this;exact this u (by simpa using hu)
      go_wp2_with (first |(refine wpList_load_row rfl 119 (.tmp 10) rfl B rfl 119 cs (0,0) _ HB3.o underlying119 rfl (by rw[gR.o];kernel_rfl) ?_) |(refine eV rfl (.tmp 51) rfl cs rfl gR.o ?_) |(at_builtin;refine aJ _ rfl (.tmp 50) (.tmp 52) 69 rfl 119 iP (.agg (gx 0 ⟨#[]⟩ ay ay ay)) 20 160 underlying69 hiP qH hsP vZ rfl (by decide) (.slice o6 acc.length c6) acc.length (acc.flatMap (λx=>(x.cells bs).toList)) rfl (Cw.o _).sl ⟨W3.heap.size,0,none⟩ 1 1 cs.toList rfl (by rw[ao,gR.o]) (aT _ _ _ _ rfl) V9.o (by unfold maxLen;omega) (by omega) ?_;intro vA wA sA mA lA;have Sk:ae (ed w vA bs (acc++[x]) wA):=Yk.o _ _ _ (Cw.o _) sA mA lA;have sU:ae (aa af w1 wA):=(jJ.o _).step mA (λi hi e=>by have h1:=kT.o.own i e;have h2:=BC.o;have h3:i=w.heap.size:=(by omega);subst h3;exact kT.o.sl.az (Nq.o.ah fw.o id) (by decide) e);clear sA mA lA));go_roundg (ts.length-(k+1))
      case measure=>omega
      case rel=>exact⟨k+1,true,acc++[x],by omega,by go_num,rfl,Sk.o,sU.o,HE2.o,by simp[hal],rfl⟩
     |false =>
      have HE2:ae (pr=.inr (k+1)):=by rw[ae,HD2.o,iP9 (by rw[hb2];exact⟨rfl,.inl hk⟩)]
      clear HD2 hk;have HMw:=ak (iG.o.trans fw.o);go_wp2_with fail;exact HPI.o _ _ (k+1) HE2.o HMw.o (by go_num)
    ·have hb2:(x.kind==2)=false:=by rw[hk];rfl
     have q2:((x.kind:Int)==2)=false:=by rw[hk];rfl
     have q3:((x.kind:Int)==3)=false:=by rw[hk];rfl
     have q4:((x.kind:Int)==4)=true:=by rw[hk];rfl
     cases kM with
     |true =>
      have HE2:ae (ahL (ts.drop (k+1)) true (k+1) (acc++[x])=pr):=by rw[ae,HD2.o,iN9 (by rw[hb2];rintro⟨h,_⟩;cases h),hb2];rfl
      clear HD2 hk;go_upto_region 10 with fail;obtain⟨o6,c6,h6,_⟩:=kT.o.sl.view;have hal:=HAK.o;have Cw:ae (∀os,ed w u6 bs acc (W3.alloc os)):=λos=>kT.o.quiet ((aa.refl _ _).alloc _);have jJ:ae (∀os,aa af w1 (W3.alloc os)):=λos=>fw.o.alloc _;subst h6;have V9:ae (∀u∈cs.toList,u.oneCell'=true):=λu hu=>by have:=yg.o;rw[an]at this;exact this u (by simpa using hu)
      go_wp2_with (first |(refine wpList_load_row rfl 119 (.tmp 10) rfl B rfl 119 cs (0,0) _ HB3.o underlying119 rfl (by rw[gR.o];kernel_rfl) ?_) |(refine eV rfl (.tmp 51) rfl cs rfl gR.o ?_) |(at_builtin;refine aJ _ rfl (.tmp 50) (.tmp 52) 69 rfl 119 iP (.agg (gx 0 ⟨#[]⟩ ay ay ay)) 20 160 underlying69 hiP qH hsP vZ rfl (by decide) (.slice o6 acc.length c6) acc.length (acc.flatMap (λx=>(x.cells bs).toList)) rfl (Cw.o _).sl ⟨W3.heap.size,0,none⟩ 1 1 cs.toList rfl (by rw[ao,gR.o]) (aT _ _ _ _ rfl) V9.o (by unfold maxLen;omega) (by omega) ?_;intro vA wA sA mA lA;have Sk:ae (ed w vA bs (acc++[x]) wA):=Yk.o _ _ _ (Cw.o _) sA mA lA;have sU:ae (aa af w1 wA):=(jJ.o _).step mA (λi hi e=>by have h1:=kT.o.own i e;have h2:=BC.o;have h3:i=w.heap.size:=(by omega);subst h3;exact kT.o.sl.az (Nq.o.ah fw.o id) (by decide) e);clear sA mA lA));go_roundg (ts.length-(k+1))
      case measure=>omega
      case rel=>exact⟨k+1,true,acc++[x],by omega,by go_num,rfl,Sk.o,sU.o,HE2.o,by simp[hal],rfl⟩
     |false =>
      have HE2:ae (pr=.inr (k+1)):=by rw[ae,HD2.o,iP9 (by rw[hb2];exact⟨rfl,.inr hk⟩)]
      clear HD2 hk;have HMw:=ak (iG.o.trans fw.o);go_wp2_with fail;exact HPI.o _ _ (k+1) HE2.o HMw.o (by go_num)
    ·have hb2:(x.kind==2)=false:=by simpa using hk.1
     have q2:((x.kind:Int)==2)=false:=by simp;omega
     have q3:((x.kind:Int)==3)=false:=by simp;omega
     have q4:((x.kind:Int)==4)=false:=by simp;omega
     cases kM with
     |true =>
      have HE2:ae (ahL (ts.drop (k+1)) true (k+1) (acc++[x])=pr):=by rw[ae,HD2.o,iN9 (by rw[hb2];rintro⟨h,_⟩;cases h),hb2];rfl
      clear HD2 hk;go_upto_region 10 with fail;obtain⟨o6,c6,h6,_⟩:=kT.o.sl.view;have hal:=HAK.o;have Cw:ae (∀os,ed w u6 bs acc (W3.alloc os)):=λos=>kT.o.quiet ((aa.refl _ _).alloc _);have jJ:ae (∀os,aa af w1 (W3.alloc os)):=λos=>fw.o.alloc _;subst h6;have V9:ae (∀u∈cs.toList,u.oneCell'=true):=λu hu=>by have:=yg.o;rw[an]at this;exact this u (by simpa using hu)
      go_wp2_with (first |(refine wpList_load_row rfl 119 (.tmp 10) rfl B rfl 119 cs (0,0) _ HB3.o underlying119 rfl (by rw[gR.o];kernel_rfl) ?_) |(refine eV rfl (.tmp 51) rfl cs rfl gR.o ?_) |(at_builtin;refine aJ _ rfl (.tmp 50) (.tmp 52) 69 rfl 119 iP (.agg (gx 0 ⟨#[]⟩ ay ay ay)) 20 160 underlying69 hiP qH hsP vZ rfl (by decide) (.slice o6 acc.length c6) acc.length (acc.flatMap (λx=>(x.cells bs).toList)) rfl (Cw.o _).sl ⟨W3.heap.size,0,none⟩ 1 1 cs.toList rfl (by rw[ao,gR.o]) (aT _ _ _ _ rfl) V9.o (by unfold maxLen;omega) (by omega) ?_;intro vA wA sA mA lA;have Sk:ae (ed w vA bs (acc++[x]) wA):=Yk.o _ _ _ (Cw.o _) sA mA lA;have sU:ae (aa af w1 wA):=(jJ.o _).step mA (λi hi e=>by have h1:=kT.o.own i e;have h2:=BC.o;have h3:i=w.heap.size:=(by omega);subst h3;exact kT.o.sl.az (Nq.o.ah fw.o id) (by decide) e);clear sA mA lA));go_roundg (ts.length-(k+1))
      case measure=>omega
      case rel=>exact⟨k+1,true,acc++[x],by omega,by go_num,rfl,Sk.o,sU.o,HE2.o,by simp[hal],rfl⟩
     |false =>
      have HE2:ae (ahL (ts.drop (k+1)) false (k+1) (acc++[x])=pr):=by rw[ae,HD2.o,iN9 (by rintro⟨_,h|h⟩;exact hk.2.1 h;exact hk.2.2 h),hb2];rfl
      clear HD2 hk;go_upto_region 10 with fail;obtain⟨o6,c6,h6,_⟩:=kT.o.sl.view;have hal:=HAK.o;have Cw:ae (∀os,ed w u6 bs acc (W3.alloc os)):=λos=>kT.o.quiet ((aa.refl _ _).alloc _);have jJ:ae (∀os,aa af w1 (W3.alloc os)):=λos=>fw.o.alloc _;subst h6;have V9:ae (∀u∈cs.toList,u.oneCell'=true):=λu hu=>by have:=yg.o;rw[an]at this;exact this u (by simpa using hu)
      go_wp2_with (first |(refine wpList_load_row rfl 119 (.tmp 10) rfl B rfl 119 cs (0,0) _ HB3.o underlying119 rfl (by rw[gR.o];kernel_rfl) ?_) |(refine eV rfl (.tmp 51) rfl cs rfl gR.o ?_) |(at_builtin;refine aJ _ rfl (.tmp 50) (.tmp 52) 69 rfl 119 iP (.agg (gx 0 ⟨#[]⟩ ay ay ay)) 20 160 underlying69 hiP qH hsP vZ rfl (by decide) (.slice o6 acc.length c6) acc.length (acc.flatMap (λx=>(x.cells bs).toList)) rfl (Cw.o _).sl ⟨W3.heap.size,0,none⟩ 1 1 cs.toList rfl (by rw[ao,gR.o]) (aT _ _ _ _ rfl) V9.o (by unfold maxLen;omega) (by omega) ?_;intro vA wA sA mA lA;have Sk:ae (ed w vA bs (acc++[x]) wA):=Yk.o _ _ _ (Cw.o _) sA mA lA;have sU:ae (aa af w1 wA):=(jJ.o _).step mA (λi hi e=>by have h1:=kT.o.own i e;have h2:=BC.o;have h3:i=w.heap.size:=(by omega);subst h3;exact kT.o.sl.az (Nq.o.ah fw.o id) (by decide) e);clear sA mA lA));go_roundg (ts.length-(k+1))
      case measure=>omega
      case rel=>exact⟨k+1,false,acc++[x],by omega,by go_num,rfl,Sk.o,sU.o,HE2.o,by simp[hal],rfl⟩
  ·have hke:k=ts.length:=by omega
   subst hke;have HE2:ae (pr=.inl acc):=by rw[ae,<-HP.o,List.drop_length];rfl
   obtain⟨o6,c6,h6,_⟩:=HA.o.sl.view;go_wp2_with fail;exact uI.o _ _ _ acc HE2.o HA.o rfl
def zH(w:tW)(b:Nat)(f:tBA->Option Value)(n:Nat):Prop:=∃(es:Array MapEntry) (clock:Nat) (kv:List (tBA×Value)),w.heap[b]?=some (.map es clock)/\es.toList.map Mt=kv.map kvC/\(∀s,(kv.find? (λp=>s==p.1)).map (·.2)=f s)/\kv.length=n
theorem zH.of{w:tW}{b n:Nat}{f:tBA->Option Value}(h:zH w b f n):MapOf w b f:=by obtain⟨es,c,kv,h1,h2,h3,_⟩:=h;exact⟨es,c,kv,h1,h2,h3⟩
theorem zH.new(w:tW):zH (w.alloc (.map #[] 0)) w.heap.size (λ_=>none) 0:=⟨#[],0,[],heap_alloc_new w _,rfl,λ_=>rfl,rfl⟩
theorem zH.ah{w w':tW}{b n:Nat}{f:tBA->Option Value}{S:Nat->Prop}(h:zH w b f n)(m:aa S w w')(hS:¬S b):zH w' b f n:=by have hl:=h.of.lt;obtain⟨es,clock,kv,hb,h2⟩:=h;exact⟨es,clock,kv,(m.block b hl hS).trans hb,h2⟩
theorem zH.len{P:Program}{w:tW}{b n:Nat}{f:tBA->Option Value}(h:zH w b f n){t kt et rt:TypeId}(hm:P.underlying t=some (.map kt et)):(Builtin.len_ #[t] rt #[.map (some b)]).run P w=.ok (.int .i64 n) w:=by
 obtain⟨es,clock,kv,hb,he,hf,hn⟩:=h;have hs:es.size=n:=by have:=congrArg List.length he;simp at this;omega
 unfold Builtin.len_;simp[run_underlying hm,MapKept.run_getObj_map hb,hs,goInt]
theorem MapOf.Qq{P:Program}{w:tW}{b:Nat}{f:tBA->Option Value}(h:MapOf w b f){t kt et:TypeId}(hm:P.underlying t=some (.map kt et))(hk:P.underlying kt=some .string){z:Value}(hz:(zeroValue et).run P w=.ok z w)(s:tBA):(Instr.lookup t (.map (some b)) (.string s) false).run P w=.ok ((f s).getD z) w:=by
 obtain⟨es,clock,kv,hb,he,hf⟩:=h;have hc:(Instr.checkKey es.isEmpty 10000 kt (.string s)).run P w=.ok () w:=MapKept.run_checkKey (k:=.string s) hk (by simp[MapKept.IsKey]) _ 9999;have hfn:=MapKept.run_findKey (P:=P) (w:=w) hk (mI s es.toList kv 0 he);have hv:=rM s kv 0;rw[hf s]at hv;unfold Instr.lookup;simp only[Sem.run_bind,run_underlying hm,MapKept.run_getObj_map hb,hc,hfn,Result.andThen,Sem.run_pure];cases hq:ah3 s kv 0 with
 |none =>rw[hq]at hv;rw[<-hv];simp[hz,Result.andThen]
 |some q =>rw[hq]at hv;rw[<-hv];simp
theorem zH.update{P:Program}{w:tW}{b n:Nat}{f:tBA->Option Value}(h:zH w b f n){t kt et:TypeId}(hm:P.underlying t=some (.map kt et))(hk:P.underlying kt=some .string)(s:tBA)(u:Value):∃w',(Instr.mapUpdate t (.map (some b)) (.string s) u).run P w=.ok () w'/\zH w' b (λs'=>if s'=s then some u else f s') (if(f s).isSome then n else n+1)/\aa (λk=>k=b) w w':=by
 obtain⟨es,clock,kv,hb,he,hf,hn⟩:=h;have hlt:=(Array.getElem?_eq_some_iff.1 hb).1;have hc:(Instr.checkKey false 10000 kt (.string s)).run P w=.ok () w:=MapKept.run_checkKey (k:=.string s) hk (by simp[MapKept.IsKey]) _ 9999;have hfn:=MapKept.run_findKey (P:=P) (w:=w) hk (mI s es.toList kv 0 he);have Ke:∀o:Obj,aa (λk=>k=b) w {w with heap:=w.heap.setIfInBounds b o}:=λo=>⟨rfl,rfl,rfl,by simp,λk _ hn=>(MapKept.heap_set hb).2 k hn⟩
 have hv:=rM s kv 0;rw[hf s]at hv;cases hq:ah3 s kv 0 with
 |none =>
  rw[hq]at hfn hv;have hno:(f s).isSome=false:=by rw[<-hv];rfl
  refine⟨{w with heap:=w.heap.setIfInBounds b (.map (es.push {key:=.string s,val:=u,born:=clock}) (clock+1))},?_,⟨_,_,kv++[(s,u)],(MapKept.heap_set hb).1,?_,λs'=>?_,by rw[hno,iN9 (by simp)];simp[hn]⟩,Ke _⟩
  ·unfold Instr.mapUpdate;simp[run_underlying hm,MapKept.run_getObj_map hb,hc,hfn,MapKept.run_setObj_map _ hb,Result.andThen]
  ·simp[he,Mt,kvC]
  ·have hn:=uO s kv 0 hq;rw[List.find?_append];by_cases d:s'=s
   ·subst d;rw[hn];simp[yT]
   ·have d':(s'==s)=false:=UK d;show _=if s'=s then some u else f s'
    rw[iN9 d,<-hf s'];cases kv.find? (λp=>s'==p.1)with
    |none=>simp[d']
    |some q=>simp
 |some q =>
  obtain⟨j,v⟩:=q;rw[hq]at hfn hv;have aeD:(f s).isSome=true:=by rw[<-hv];rfl
  obtain⟨n',e,hn',⟨v',hv'⟩,hs⟩:=Aw s kv 0 j v hq;rw[Nat.zero_add]at e;subst e;have hjl:j<es.size:=by have:=congrArg List.length he;simp at this;omega
  have hej:Mt es[j]=kvC (s,v'):=by
   have:=congrArg (λl:List (Value×Value)=>l[j]?) he;simp only[List.getElem?_map,hv',cr]at this;rw[Array.getElem?_toList,Array.getElem?_eq_getElem hjl]at this
   simpa using this
  have hkey:es[j].key=.string s:=congrArg Prod.fst hej;have hst:(Instr.keyThatStays (((es[j]?).map (·.key)).getD (.string s)) (.string s)).run P w=.ok (.string s) w:=by rw[Array.getElem?_eq_getElem hjl,cr,Option.getD_some,hkey];exact MapKept.run_keyThatStays (d:=.string) (by simp[MapKept.IsKey])
  refine⟨{w with heap:=w.heap.setIfInBounds b (.map (es.modify j λe=>{e with key:=.string s,val:=u}) clock)},?_,⟨_,_,kv.set j (s,u),(MapKept.heap_set hb).1,?_,λs'=>?_,by rw[aeD,iP9 rfl];simp[hn]⟩,Ke _⟩
  ·unfold Instr.mapUpdate;simp[run_underlying hm,MapKept.run_getObj_map hb,hc,hfn,hst,MapKept.run_setObj_map _ hb,Result.andThen]
  ·rw[List.map_set,<-he];refine bj (by simp) λt h1 h2=>?_;simp only[cd,Array.getElem_toList,Array.getElem_modify,ar];split
   ·rfl
   ·rfl
  ·rw[hs u s',hf s']
def cntF(l:List tLB)(s:tBA):Option Value:=if l.count (BL s)=0 then none else some (.int .i64 (l.count (BL s):Nat))
theorem cnt_push(l:List tLB)(x:tLB):(λs'=>if s'=T x then some (Value.int .i64 ((l.count x:Nat)+1:Int))else cntF l s')=cntF (x::l):=by
 funext s;by_cases e:s=T x
 ·subst e;have hb:BL (T x)=x:=by simp[BL,T]
  simp[cntF,hb]
 ·rw[iN9 e];have hne:x≠BL s:=λh=>e (by rw[h,UG]);simp[cntF,List.count_cons,hne]
def eD(w:tW)(b:Nat)(l:List tLB):Prop:=∃n,zH w b (cntF l) n/\(l.Nodup->n=l.length)
theorem eD.ah{w w':tW}{b:Nat}{l:List tLB}{S:Nat->Prop}(h:eD w b l)(m:aa S w w')(hS:¬S b):eD w' b l:=by obtain⟨n,h1,h2⟩:=h;exact⟨n,h1.ah m hS,h2⟩
theorem eD.new(w:tW):eD (w.alloc (.map #[] 0)) w.heap.size []:=⟨0,zH.new w,λ_=>rfl⟩
theorem eD.lt{w:tW}{b:Nat}{l:List tLB}(h:eD w b l):b<w.heap.size:=by obtain⟨n,h1,_⟩:=h;exact h1.of.lt
theorem eD.az{w:tW}{b g:Nat}{l:List tLB}{cs:tAV}{t:TypeId}(h:eD w b l)(hb:aq w g cs t):g≠b:=by obtain⟨n,h1,_⟩:=h;exact h1.of.az hb
theorem eD.look{w:tW}{b:Nat}{l:List tLB}(h:eD w b l)(x:tLB):(Instr.lookup 74 (.map (some b)) (.string (T x)) false).run prog w=.ok (.int .i64 (l.count x:Nat)) w:=by
 obtain⟨n,h1,_⟩:=h;have:=h1.of.Qq (P:=prog) (t:=74) underlying74 underlying9 (z:=.int .i64 0) (zeroValue3 w) (T x);have hb:BL (T x)=x:=by simp[BL,T]
 rw[this,cntF,hb];by_cases e:l.count x=0
 ·rw[iP9 e,e];rfl
 ·rw[iN9 e];rfl
theorem eD.put{w:tW}{b:Nat}{l:List tLB}(h:eD w b l)(x:tLB):∃w',(Instr.mapUpdate 74 (.map (some b)) (.string (T x)) (.int .i64 ((l.count x:Nat)+1:Int))).run prog w=.ok () w'/\eD w' b (x::l)/\aa (λk=>k=b) w w':=by
 obtain⟨n,h1,h2⟩:=h;obtain⟨w',r1,r2,r3⟩:=h1.update (P:=prog) (t:=74) underlying74 underlying9 (T x) (.int .i64 ((l.count x:Nat)+1:Int));rw[cnt_push]at r2;refine⟨w',r1,⟨_,r2,λhn=>?_⟩,r3⟩;have hb:BL (T x)=x:=by simp[BL,T]
 obtain⟨hx,hl⟩:=List.nodup_cons.1 hn;have hc:l.count x=0:=List.count_eq_zero.2 hx;rw[cntF,hb,iP9 hc];simp[h2 hl]
theorem eD.size{w:tW}{b:Nat}{l:List tLB}(h:eD w b l)(hn:l.Nodup):(Builtin.len_ #[74] 3 #[.map (some b)]).run prog w=.ok (.int .i64 (l.length:Nat)) w:=by obtain⟨n,h1,h2⟩:=h;rw[<-h2 hn];exact h1.len underlying74
structure pR where
 slots:Nat:=0
 ends:Bool:=false
 aP:List (tLB×Nat):=[]
def dC(l:List (tLB×Nat))(x:tLB):Option Nat:=(l.find? (λp=>p.1==x)).map (·.2)
structure OL where
 maps:List tLB:=[]
 fs:List pR:=[]
def OL.last(o:OL):pR:=o.fs.getD (o.fs.length-1) {}
def OL.dx(o:OL)(f:pR):OL:={o with fs:=o.fs.set (o.fs.length-1) f}
def pR.label(f:pR)(x:tLB):pR:=if(dC f.aP x).isSome then f else{f with aP:=f.aP++[(x,f.slots)]}
def pR.code(f:pR)(op:eQ):pR:={f with slots:=f.slots+op.slots,ends:=op.ends}
def bG(o:OL)(x:bV):OL :=
 if x.kind=1 then{o with maps:=x.name::o.maps}
 else if x.kind=2 then{o with fs:=o.fs++[{}]}
 else if x.kind=3 then o.dx (o.last.label x.name)
 else if x.kind=4 then o.dx (o.last.code x.x.o)
 else o
def ai(ls:List bV):OL:=ls.foldl bG {}
theorem gy(ls:List bV)(k:Nat)(h:k<ls.length):ai (ls.take (k+1))=bG (ai (ls.take k)) ls[k]:=by unfold ai;rw[List.take_succ_eq_append_getElem h,List.foldl_append];rfl
def InF(ls:List bV):Prop:=∀k (h:k<ls.length),(ls[k].kind=3\/ls[k].kind=4)->(ai (ls.take k)).fs≠[]
def Sm(l:List (tLB×Nat))(s:tBA):Option Value:=(dC l (BL s)).map (λn=>.int .i64 (n:Nat))
def jo(w:tW)(b:Nat)(l:List (tLB×Nat)):Prop:=MapOf w b (Sm l)
theorem Wd(l:List (tLB×Nat))(x:tLB)(n:Nat)(h:(dC l x).isSome=false):(λs'=>if s'=T x then some (Value.int .i64 (n:Nat))else Sm l s')=Sm (l++[(x,n)]):=by
 funext s;have hb:BL (T x)=x:=by simp[BL,T]
 unfold Sm dC at *;rw[List.find?_append];by_cases e:s=T x
 ·subst e;rw[iP9 rfl,hb];cases hf:l.find? (λp=>p.1==x)with
  |some q=>rw[hf]at h;cases h
  |none=>simp
 ·rw[iN9 e];have hne:(x==BL s)=false:=by rw[beq_eq_false_iff_ne];exact λh=>e (by rw[h,UG])
  cases l.find? (λp=>p.1==BL s)with
  |some q=>simp
  |none=>simp[hne]
theorem jo.look{w:tW}{b:Nat}{l:List (tLB×Nat)}(h:jo w b l)(x:tLB):(Instr.lookup 74 (.map (some b)) (.string (T x)) true).run prog w=.ok (.tuple #[.int .i64 ((dC l x).getD 0:Nat),.bool (dC l x).isSome]) w:=by
 have:=MapOf.lookup (P:=prog) h (t:=74) underlying74 underlying9 (z:=.int .i64 0) (zeroValue3 w) (T x);have hb:BL (T x)=x:=by simp[BL,T]
 rw[this,Sm,hb];cases dC l x<;>rfl
theorem jo.ada{w:tW}{b:Nat}{l:List (tLB×Nat)}(h:jo w b l)(x:tLB):(Instr.lookup 74 (.map (some b)) (.string (T x)) false).run prog w=.ok (.int .i64 ((dC l x).getD 0:Nat)) w:=by
 have:=MapOf.Qq (P:=prog) h (t:=74) underlying74 underlying9 (z:=.int .i64 0) (zeroValue3 w) (T x);have hb:BL (T x)=x:=by simp[BL,T]
 rw[this,Sm,hb];cases dC l x<;>rfl
theorem jo.put{w:tW}{b:Nat}{l:List (tLB×Nat)}(h:jo w b l)(x:tLB)(n:Nat)(hx:(dC l x).isSome=false):∃w',(Instr.mapUpdate 74 (.map (some b)) (.string (T x)) (.int .i64 n)).run prog w=.ok () w'/\jo w' b (l++[(x,n)])/\aa (λk=>k=b) w w':=by obtain⟨w',r1,r2,r3⟩:=MapOf.update (P:=prog) h (t:=74) underlying74 underlying9 (T x) (.int .i64 n);rw[Wd l x n hx]at r2;exact⟨w',r1,r2,r3⟩
def lL(b:Nat)(f:pR):List Value:=[.int .i64 f.slots,.bool f.ends,.map (some b)]
def jq(lb:List Nat)(fs:List pR):List Value:=(lb.zip fs).flatMap (λx=>lL x.1 x.2)
structure dQ(w0:tW)(bm:Nat)(vF:Value)(lb:List Nat)(o:OL)(w:tW):Prop where
 len:lb.length=o.fs.length
 maps:eD w bm o.maps
 sl:Sl w 124 3 vF o.fs.length (jq lb o.fs)
 aP:∀i (h:i<o.fs.length),jo w (lb[i]?.getD 0) o.fs[i].aP
 nd:(bm::lb).Nodup
 lo:∀b∈bm::lb,w0.heap.size<=b
 own:∀k,vF.ownBlock=some k->w0.heap.size<=k
 md:aa af w0 w
theorem dQ.quiet{w0 w w':tW}{bm:Nat}{vF:Value}{lb:List Nat}{o:OL}(h:dQ w0 bm vF lb o w)(m:aa af w w'):dQ w0 bm vF lb o w' :=
 ⟨h.len,h.maps.ah m id,h.sl.ah m (λ_ _=>id),λi hi=>MapOf.ah (h.aP i hi) m id,h.nd,h.lo,h.own,h.md.trans m⟩
theorem dQ.new(w0 w:tW)(m:aa af w0 w):dQ w0 w.heap.size (.slice none 0 0) [] {} (w.alloc (.map #[] 0)) :=
 ⟨rfl,eD.new w,Sl.nil _ _ _,λi h=>absurd h (Nat.not_lt_zero _),by simp,λb hb=>by
  have:b=w.heap.size:=by simpa using hb
  rw[this];exact m.size,λk h=>(by cases h),m.alloc _⟩
theorem MapOf.DP{w:tW}{b:Nat}{f:tBA->Option Value}(h:MapOf w b f){e:TypeId}{size n:Nat}{v:Value}{xs:List Value}(hs:Sl w e size v n xs):v.ownBlock≠some b:=λhk=>by
 rcases hs.2 with⟨h0,_⟩ |⟨g,cap,cur,h0,_,hg,_⟩
 ·rw[h0]at hk;cases hk
 ·rw[h0]at hk;cases hk;exact h.az hg rfl
theorem dQ.map{w0 w w':tW}{bm:Nat}{vF:Value}{lb:List Nat}{o:OL}{x:tLB}(h:dQ w0 bm vF lb o w)(hc:eD w' bm (x::o.maps))(m:aa (λk=>k=bm) w w'):dQ w0 bm vF lb {o with maps:=x::o.maps} w':=by
 have hnd:=List.nodup_cons.1 h.nd;refine⟨h.len,hc,h.sl.ah m (λk hk e=>?_),λi hi=>MapOf.ah (h.aP i hi) m (λe=>hnd.1 ?_),h.nd,h.lo,h.own,h.md.step m (λi hi e=>?_)⟩
 ·obtain⟨n,h1,_⟩:=h.maps;have e':k=bm:=e;exact h1.of.DP h.sl (by rw[hk,e'])
 ·have hl:i<lb.length:=by rw[h.len];exact hi
  rw[List.getElem?_eq_getElem hl]at e;exact e ▸ bh hl
 ·have:=h.lo bm (by simp);omega
theorem Nr(lb:List Nat)(fs:List pR)(h:lb.length=fs.length)(b:Nat)(f:pR):jq (lb++[b]) (fs++[f])=jq lb fs++lL b f:=by unfold jq;rw[List.zip_append h,List.flatMap_append];simp
theorem dQ.func{w0 w w':tW}{bm bN:Nat}{vF Ns:Value}{lb:List Nat}{o:OL}(h:dQ w0 bm vF lb o w)(hN:jo w bN [])(hlo:w0.heap.size<=bN)(hnew:bN ∉ bm::lb)(s:Sl w' 124 3 Ns (o.fs.length+1) (jq lb o.fs++lL bN ({}:pR))) (m:aa (λk=>vF.ownBlock=some k) w w') (lv:∀k,Ns.ownBlock=some k->vF.ownBlock=some k\/w.heap.size<=k):dQ w0 bm Ns (lb++[bN]) {o with fs:=o.fs++[({}:pR)]} w':=by
 refine⟨by simp[h.len],?_,?_,λi hi=>?_,?_,λb hb=>?_,λk hk=>?_,h.md.step m (λi hi e=>by have:=h.own i e;omega)⟩
 ·obtain⟨n,h1,h2⟩:=h.maps;exact⟨n,h1.ah m (λe=>h1.of.DP h.sl e),h2⟩
 ·show Sl w' 124 3 Ns (o.fs++[({}:pR)]).length (jq (lb++[bN]) (o.fs++[({}:pR)]))
  rw[Nr _ _ h.len,b9,bt];exact s
 ·have hi':i<o.fs.length+1:=by simpa using hi
  rcases Nat.lt_or_ge i o.fs.length with e|e
  ·have e1:(lb++[bN])[i]?.getD 0=lb[i]?.getD 0:=by rw[List.getElem?_append_left (by rw[h.len];exact e)]
   have e2:(o.fs++[({}:pR)])[i]'hi=o.fs[i]:=List.getElem_append_left e;have hl:=h.aP i e;show jo w' ((lb++[bN])[i]?.getD 0) ((o.fs++[({}:pR)])[i]'hi).aP
   rw[e1,e2];exact MapOf.ah hl m (λe'=>MapOf.DP hl h.sl e')
  ·have e3:i=o.fs.length:=by omega
   subst e3;have e1:(lb++[bN])[o.fs.length]?.getD 0=bN:=by rw[List.getElem?_append_right (by rw[h.len];exact cc _),h.len,Nat.sub_self];rfl
   have e2:(o.fs++[({}:pR)])[o.fs.length]'hi={}:=by simp
   show jo w' ((lb++[bN])[o.fs.length]?.getD 0) ((o.fs++[({}:pR)])[o.fs.length]'hi).aP
   rw[e1,e2];exact MapOf.ah hN m (λe'=>MapOf.DP hN h.sl e')
 ·have:=h.nd;rw[<-List.cons_append,List.nodup_append]
  exact⟨this,by simp,λa ha b hb e=>hnew (by
   have hb':b=bN:=by simpa using hb
   rw[<-hb',<-e];exact ha)⟩
 ·have hb':b=bm\/b∈lb\/b=bN:=by simpa using hb
  rcases hb' with e|e|e
  ·exact h.lo b (by simp[e])
  ·exact h.lo b (by simp[e])
  ·rw[e];exact hlo
 ·rcases lv k hk with e|e
  ·exact h.own k e
  ·have:=h.md.size;omega
theorem px{o:OL}(h:o.fs≠[]):∃hl:o.fs.length-1<o.fs.length,o.last=o.fs[o.fs.length-1]:=by have hp:0<o.fs.length:=List.length_pos_iff.2 h;refine⟨by omega,?_⟩;unfold OL.last;rw[List.getD_eq_getElem?_getD,List.getElem?_eq_getElem (by omega)];rfl
theorem Sq{l:List Nat}(h:l.Nodup){i j:Nat}(hi:i<l.length)(hj:j<l.length)(e:l[i]=l[j]):i=j:=by
 rw[List.nodup_iff_pairwise_ne,List.pairwise_iff_getElem]at h;rcases Nat.lt_trichotomy i j with d|d|d
 ·exact absurd e (h i j hi hj d)
 ·exact d
 ·exact absurd e.symm (h j i hj hi d)
theorem dQ.lab{w0 w w':tW}{bm:Nat}{vF:Value}{lb:List Nat}{o:OL}{l':List (tLB×Nat)}(h:dQ w0 bm vF lb o w)(hne:o.fs≠[])(hL:jo w' (lb[o.fs.length-1]?.getD 0) l')(m:aa (λk=>k=lb[o.fs.length-1]?.getD 0) w w'):dQ w0 bm vF lb (o.dx {o.last with aP:=l'}) w':=by
 obtain⟨hl,hg⟩:=px hne;have hlb:o.fs.length-1<lb.length:=by rw[h.len];exact hl
 have hel:lb[o.fs.length-1]?.getD 0=lb[o.fs.length-1]:=by rw[List.getElem?_eq_getElem hlb];rfl
 have hnd:=List.nodup_cons.1 h.nd;have hlast:=h.aP (o.fs.length-1) hl;refine⟨by simp[OL.dx,h.len],?_,?_,λi hi=>?_,h.nd,h.lo,h.own,h.md.step m (λi hi e=>?_)⟩
 ·exact h.maps.ah m (λe=>hnd.1 (by rw[e,hel];exact bh hlb))
 ·have hr:jq lb (o.dx {o.last with aP:=l'}).fs=jq lb o.fs:=by
   unfold jq OL.dx
   have:(lb.zip (o.fs.set (o.fs.length-1) {o.last with aP:=l'})).map (λx=>lL x.1 x.2)=(lb.zip o.fs).map (λx=>lL x.1 x.2):=by
    apply bj
    ·simp
    ·intro j h1 h2;simp only[cd,ch,ar];split
     ·rename_i e;subst e
      have hs:o.last.slots=o.fs[o.fs.length-1].slots:=by rw[hg]
      have he:o.last.ends=o.fs[o.fs.length-1].ends:=by rw[hg]
      simp only[lL,hs,he]
     ·rfl
   rw[cj,cj,this]
  rw[hr];have:=h.sl.ah m (λk hk e=>by have e':k=lb[o.fs.length-1]?.getD 0:=e;exact MapOf.DP hlast h.sl (by rw[hk,e']))
  simpa [OL.dx]using this
 ·have hi':i<o.fs.length:=by simpa [OL.dx]using hi
  have e2:(o.dx {o.last with aP:=l'}).fs[i]'hi=if o.fs.length-1=i then{o.last with aP:=l'}else o.fs[i]:=by simp only[OL.dx,ar]
  rw[e2];split
  ·rename_i e;subst e;exact hL
  ·rename_i e
   refine MapOf.ah (h.aP i hi') m (λe'=>e ?_);have hil:i<lb.length:=by rw[h.len];exact hi'
   rw[List.getElem?_eq_getElem hil,hel]at e';exact(Sq hnd.2 hil hlb e').symm
 ·have:=h.lo (lb[o.fs.length-1]) (by simp);rw[hel]at e;omega
theorem dQ.row{w0 w w':tW}{bm g cap:Nat}{lb:List Nat}{o:OL}{f:pR}(h:dQ w0 bm (.slice (some ⟨g,0,none⟩) o.fs.length cap) lb o w)(hne:o.fs≠[])(hf:f.aP=o.last.aP)(hw:w'=(w.setCell ⟨g,(o.fs.length-1)*3,none⟩ (.int .i64 f.slots)).setCell ⟨g,(o.fs.length-1)*3+1,none⟩ (.bool f.ends)):dQ w0 bm (.slice (some ⟨g,0,none⟩) o.fs.length cap) lb (o.dx f) w':=by
 obtain⟨hl,hg⟩:=px hne;have hlb:o.fs.length-1<lb.length:=by rw[h.len];exact hl
 have hown:w0.heap.size<=g:=h.own g rfl;have m:aa (Only g) w w':=by rw[hw];exact((aa.refl _ _).bP _ _).bP _ _
 have hz:(lb.zip o.fs).length=o.fs.length:=by simp[h.len]
 have hzi:o.fs.length-1<(lb.zip o.fs).length:=by rw[hz];exact hl
 refine⟨by simp[OL.dx,h.len],?_,?_,λi hi=>?_,h.nd,h.lo,h.own,h.md.step m (λi hi e=>by have:i=g:=e;omega)⟩
 ·obtain⟨n,h1,h2⟩:=h.maps;exact⟨n,h1.ah m (λe=>h1.of.DP h.sl (by have:bm=g:=e;rw[this];rfl)),h2⟩
 ·have s1:=h.sl.setAt ((o.fs.length-1)*3) (.int .i64 f.slots) (by omega);have s2:=s1.setAt ((o.fs.length-1)*3+1) (.bool f.ends) (by omega)
  have hr:((jq lb o.fs).set ((o.fs.length-1)*3) (.int .i64 f.slots)).set ((o.fs.length-1)*3+1) (.bool f.ends)=jq lb (o.dx f).fs:=by
   unfold jq OL.dx;have e1:=dO (λx:Nat×pR=>lL x.1 x.2) 3 (λ_=>rfl) (lb.zip o.fs) (o.fs.length-1) 0 hzi (by omega) (.int .i64 f.slots) (lb[o.fs.length-1],{o.last with slots:=f.slots}) (by rw[hg];simp[lL]);rw[Nat.add_zero]at e1;rw[e1];have e2:=dO (λx:Nat×pR=>lL x.1 x.2) 3 (λ_=>rfl) ((lb.zip o.fs).set (o.fs.length-1) (lb[o.fs.length-1],{o.last with slots:=f.slots})) (o.fs.length-1) 1 (by simpa using hzi) (by omega) (.bool f.ends) (lb[o.fs.length-1],f) (by simp[lL]);rw[e2,List.set_set];congr 1;apply bj
   ·simp
   ·intro j h1 h2;simp only[ar,ch];split
    ·rename_i e;subst e;simp
    ·rename_i e;simp
  rw[hw,<-hr];have hle:(o.dx f).fs.length=o.fs.length:=by simp[OL.dx]
  rw[hle];exact s2
 ·have hi':i<o.fs.length:=by simpa [OL.dx]using hi
  have hli:=h.aP i hi'
  have e2:((o.dx f).fs[i]'hi).aP=o.fs[i].aP:=by
   simp only[OL.dx,ar];split
   ·rename_i e;subst e;rw[hf,hg]
   ·rfl
  rw[e2];exact MapOf.ah hli m (λe=>MapOf.DP hli h.sl (by have:lb[i]?.getD 0=g:=e;rw[this];rfl))
