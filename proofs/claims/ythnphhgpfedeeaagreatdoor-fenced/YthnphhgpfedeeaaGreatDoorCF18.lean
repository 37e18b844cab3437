import Derived.Test.YthnphhgpfedeeaaGreatDoorCF16
import Derived.Test.YthnphhgpfedeeaaGreatDoorCF17
import Derived.Great.BuildSlice
namespace Go.Proofs.YthnphhgpfedeeaaGreatDoor
open Go.RowKit Tryz
open List renaming takeWhile_cons->ab,append_assoc->al,size_toArray->an
set_option linter.all false
set_option maxRecDepth 100000
set_option maxHeartbeats 4000000
theorem ER(l:tLB):aG (ay l)=aG l:=by unfold aG;rw[Ah]
structure OT(w0:tW)(I R:Nat)(l:tLB)(w:tW):Prop where
 LQ:ak w I #[.string (T l)] 229
 res:ak w R (xg 0 ⟨#[]⟩ aT aT aT) 160
 md:aa ae w0 w
 lt:w0.heap.size<=I/\I≠R/\w0.heap.size<=R
theorem OT.quiet{w0 w w':tW}{I R:Nat}{l:tLB}(h:OT w0 I R l w)(m:aa ae w w'):OT w0 I R l w':=⟨h.LQ.ag m id,h.res.ag m id,h.md.trans m,h.lt⟩
theorem OT.read{w0 w w':tW}{I R:Nat}{l l':tLB}(h:OT w0 I R l w)(p:aQ w I 0 #[.string (T l)] 229 l' w'):OT w0 I R l' w':=by obtain⟨h1,h2,h3⟩:=h.lt;exact⟨p.1.blk,h.res.ag p.2 (λe=>h2 (show R=I from e).symm),h.md.step p.2 (λi hi e=>by have:i=I:=e;omega),h.lt⟩
theorem qA{t l:tLB}(h:jE t=some l):bT t=if ay l=[]then some {} else if aP 58 (aG l).2 then (if ay (aN 58 (aG l).2)=[]/\nameB (aG l).1=true/\gp (aG l).1=false then some {kind:=3,name:=(aG l).1}else none) else if(aG l).1=[109,97,112]then uU (ay (aG l).2) else if(aG l).1=[102,117,110,99]then (if nameB (aG (ay (aG l).2)).1=true/\ay (aG (ay (aG l).2)).2=[]then some {kind:=2,name:=(aG (ay (aG l).2)).1}else none) else(j9 (aG l).1 (ay (aG l).2)).map λx=>{kind:=4,x:=x}:=by unfold bT;rw[h];rfl
theorem J5{t:tLB}(h:jE t=none):bT t=none:=by unfold bT;rw[h];rfl
theorem jG{t l:tLB}(h:jE t=some l):l.length<=t.length:=by
 unfold jE at h;split at h
 ·cases h;exact(List.takeWhile_sublist _).length_le
 ·cases h
theorem bK.no{w w':tW}{bs:List Nat}{t:tLB}{e:Ending}(h:bT t=none)(m:aa ae w w')(he:∃k nm a b c op d s j n h lb nn f,e=.returned (.tuple #[.agg (OQ k nm a b c (.pointer op) d s j n h lb nn f),.bool false])):bK w bs (bT t) e w':=⟨m,by rw[h];exact he⟩
theorem bK.yes{w w':tW}{bs:List Nat}{t:tLB}{e:Ending}{x:dN}(h:bT t=some x)(m:aa ae w w')(he:e=.returned (.tuple #[.agg (x.cells bs),.bool true])):bK w bs (bT t) e w':=⟨m,by rw[h];exact he⟩
theorem OU(wT w:tW)(v:Value)(bs:List Nat)(t:tLB)(hO:aH 0 wT v bs aq)(m:aa ae wT w)(hE:Env w)(hM:mE w)(ht:t.length<=1000000)(l:tLB)(hn:jE t=some l)(hs:ay l≠[])(hk:aP 58 (aG l).2=true):Calls prog 71 #[v,.string (T t)] w λe w'=>bK w bs (bT t) e w':=by
 have uF:af (∀w',mE w'->Calls prog 135 #[.string (T t)] w' λe w''=>e=.returned (.tuple #[.agg #[.string (T ((jE t).getD []))],.bool (jE t).isSome])/\aa ae w' w''):=λw' h=>EP t w' h ht;have HM:=ai hM;have HE:=ai hE;have iA:af (ak (w.alloc (.cells (xg 0 ⟨#[]⟩ aT aT aT) 160)) w.heap.size (xg 0 ⟨#[]⟩ aT aT aT) 160):=ak.new w _ _;have eX:af (aa ae w (w.alloc (.cells (xg 0 ⟨#[]⟩ aT aT aT) 160))):=aj;have Ta:af (bT t=if ay (aN 58 (aG l).2)=[]/\nameB (aG l).1=true/\gp (aG l).1=false then some {kind:=3,name:=(aG l).1}else none):=by rw[af,qA hn,iN9 hs,iP9 hk]
 have HPY:af (∀e w',(ay (aN 58 (aG l).2)=[]/\nameB (aG l).1=true/\gp (aG l).1=false)->aa ae w w'->e=.returned (.tuple #[.agg (xg 3 (T (aG l).1) aT aT aT),.bool true])->bK w bs (bT t) e w'):=λe w' h1 h2 h3=>bK.yes (x:={kind:=3,name:=(aG l).1}) (by rw[Ta.o,iP9 h1]) h2 h3;have Jr:af (∀e w',¬(ay (aN 58 (aG l).2)=[]/\nameB (aG l).1=true/\gp (aG l).1=false)->aa ae w w'->e=.returned (.tuple #[.agg (xg 3 (T (aG l).1) aT aT aT),.bool false])->bK w bs (bT t) e w'):=λe w' h1 h2 h3=>bK.no (by rw[Ta.o,iN9 h1]) h2 ⟨3,_,_,_,_,none,0,0,0,0,0,_,_,false,h3⟩;have J4:af (∀I w',ak w' I #[.string (T l)] 229->Calls prog 136 #[.pointer (some ⟨I,0,none⟩)] w' λe w''=>e=.returned (.bool false)/\aQ w' I 0 #[.string (T l)] 229 (ay l) w''):=λI w' h'=>by have:=nZ I 0 _ _ l w' ⟨h',rfl⟩;rw[decide_eq_false hs]at this;exact this
 have hwl:=kK l;have Zz:af (∀I w',ak w' I #[.string (T (ay l))] 229->Calls prog 137 #[.pointer (some ⟨I,0,none⟩)] w' λe w''=>e=.returned (.string (T (aG l).1))/\aQ w' I 0 #[.string (T (ay l))] 229 (aG l).2 w''):=λI w' h'=>by have:=il I 0 _ _ (ay l) w' ⟨h',rfl⟩ (by have:=iR l;have:=jG hn;omega);rw[ER]at this;exact this
 have qV:af (∀I w',ak w' I #[.string (T (aG l).2)] 229->Calls prog 138 #[.pointer (some ⟨I,0,none⟩),.int .u8 58] w' λe w''=>e=.returned (.bool true)/\aQ w' I 0 #[.string (T (aG l).2)] 229 (aN 58 (aG l).2) w''):=λI w' h'=>by have:=iG I 0 _ _ (aG l).2 58 w' ⟨h',rfl⟩ (by have:=jG hn;omega);rw[hk]at this;exact this
 have HD2:af (∀I w',ak w' I #[.string (T (aN 58 (aG l).2))] 229->Calls prog 136 #[.pointer (some ⟨I,0,none⟩)] w' λe w''=>e=.returned (.bool (decide (ay (aN 58 (aG l).2)=[])))/\aQ w' I 0 #[.string (T (aN 58 (aG l).2))] 229 (ay (aN 58 (aG l).2)) w''):=λI w' h'=>nZ I 0 _ _ _ w' ⟨h',rfl⟩;have Rl:af (∀w',Calls prog 139 #[.string (T (aG l).1)] w' λe w''=>e=.returned (.bool (nameB (aG l).1))/\w''=w'):=λw'=>by have:=rP (T (aG l).1) w' (by rw[bG];unfold maxLen;have:=jG hn;omega);rw[show(T (aG l).1).data.toList=(aG l).1 by simp[T]]at this;exact this
 have Gf:af (∀w',aa ae w w'->Calls prog 140 #[v,.string (T (aG l).1)] w' λe w''=>e=.returned (.bool (gp (aG l).1))/\aa ae w' w''):=λw' m'=>Xd wT w' v bs _ hO (m.trans m') (hE.ag m') (by have:=jG hn;omega);clear Ta;have hnl:=jG hn;rw[hn]at uF;obtain⟨vo,vc,rfl,_⟩:=hO.sl.view;generalize gp (aG l).1=rs at *;generalize nameB (aG l).1=nb at *;generalize hdd:decide (ay (aN 58 (aG l).2)=[])=dd at *;have OP:af (ay (aN 58 (aG l).2)=[]↔dd=true):=by rw[af,<-hdd];simp
 generalize ay (aN 58 (aG l).2)=r3 at *;generalize aN 58 (aG l).2=r2 at *;generalize bK w bs (bT t)=LP at *;go_enter func71,ntmps71;go_wp2_with fail;refine(uF.o _ (HM.o.ag eX.o)).mono ?_;rintro e w1 ⟨rfl,m1⟩;generalize aG l=wl at *;obtain⟨x,r1⟩:=wl;dsimp only at *;have HW1:af (∀cs,OT w w1.heap.size w.heap.size l (w1.alloc (.cells cs 229))\/True):=λ_=>.inr trivial
 have HW2:af (OT w w1.heap.size w.heap.size (l) (w1.alloc (.cells #[.string (T (l))] 229))) :=
  ⟨ak.new _ _ _,(iA.o.ag m1 id).alloc _,(eX.o.trans m1).alloc _,by
   have h1:=(eX.o.trans m1).size;have h2:=(iA.o.ag m1 id).lt;omega⟩
 have HMs:=ai (eX.o.trans m1);clear m1 uF iA eX HW1;generalize hI:w1.heap.size=I at *;generalize hR:w.heap.size=R at *;go_wp2_with fail;refine(J4.o I _ HW2.o.LQ).mono ?_;rintro e w2 ⟨rfl,hp2⟩;have HW3:=ai (HW2.o.read hp2);clear hp2 J4 HW2;go_wp2_with fail;refine(Zz.o I _ HW3.o.LQ).mono ?_;rintro e w3 ⟨rfl,hp3⟩;have FX:=ai (HW3.o.read hp3);clear hp3 Zz HW3;go_wp2_with fail;refine(qV.o I _ FX.o.LQ).mono ?_;rintro e w4 ⟨rfl,CE⟩;have vw:=ai (FX.o.read CE);clear CE qV FX;go_wp2_with fail;refine(HD2.o I _ vw.o.LQ).mono ?_;rintro e w5 ⟨rfl,hp5⟩;have tq:=ai (vw.o.read hp5);clear hp5 HD2 vw;cases dd with
 |false =>
  have LU:af (¬(r3=[]/\nb=true/\rs=false)):=λh=>by have:=OP.o.1 h.1;cases this
  go_wp2_with (refine wpList_store_row rfl 160 (.tmp 4) (.tmp 40) rfl R (xg 3 (T x) aT aT aT) rfl rfl 160 _ tq.o.res (by kernel_rfl) rfl (jY ..) ?_);refine bodyPost_ret (aw results71 _ _ R 160 _ (0,0) _ _ rfl rfl tq.o.res.fM underlying160 rfl (by kernel_rfl)) rfl ?_;exact Jr.o _ _ LU.o (tq.o.md.fM (.inr tq.o.lt.2.2)) rfl
 |true =>
  have HD3:af (r3=[]):=OP.o.2 rfl;go_wp2_with fail;refine(Rl.o _).mono ?_;rintro e w6 ⟨rfl,rfl⟩;cases nb with
  |false =>
   have LU:af (¬(r3=[]/\false=true/\rs=false)):=λh=>by cases h.2.1
   go_wp2_with (refine wpList_store_row rfl 160 (.tmp 4) (.tmp 40) rfl R (xg 3 (T x) aT aT aT) rfl rfl 160 _ tq.o.res (by kernel_rfl) rfl (jY ..) ?_);refine bodyPost_ret (aw results71 _ _ R 160 _ (0,0) _ _ rfl rfl tq.o.res.fM underlying160 rfl (by kernel_rfl)) rfl ?_;exact Jr.o _ _ LU.o (tq.o.md.fM (.inr tq.o.lt.2.2)) rfl
  |true =>
   go_wp2_with fail;refine(Gf.o _ tq.o.md).mono ?_;rintro e w7 ⟨rfl,m7⟩;have xq:=ai (tq.o.quiet m7);clear m7;cases rs with
   |true =>
    have LU:af (¬(r3=[]/\true=true/\true=false)):=λh=>by cases h.2.2
    go_wp2_with (refine wpList_store_row rfl 160 (.tmp 4) (.tmp 40) rfl R (xg 3 (T x) aT aT aT) rfl rfl 160 _ xq.o.res (by kernel_rfl) rfl (jY ..) ?_);refine bodyPost_ret (aw results71 _ _ R 160 _ (0,0) _ _ rfl rfl xq.o.res.fM underlying160 rfl (by kernel_rfl)) rfl ?_;exact Jr.o _ _ LU.o (xq.o.md.fM (.inr xq.o.lt.2.2)) rfl
   |false =>go_wp2_with (refine wpList_store_row rfl 160 (.tmp 4) (.tmp 40) rfl R (xg 3 (T x) aT aT aT) rfl rfl 160 _ xq.o.res (by kernel_rfl) rfl (jY ..) ?_);refine bodyPost_ret (aw results71 _ _ R 160 _ (0,0) _ _ rfl rfl xq.o.res.fM underlying160 rfl (by kernel_rfl)) rfl ?_;exact HPY.o _ _ ⟨HD3.o,by simp⟩ (xq.o.md.fM (.inr xq.o.lt.2.2)) rfl
theorem OV(wT w:tW)(v:Value)(bs:List Nat)(t:tLB)(hO:aH 0 wT v bs aq)(m:aa ae wT w)(hE:Env w)(hM:mE w)(ht:t.length<=1000000)(l:tLB)(hn:jE t=some l)(hs:ay l≠[])(hk:aP 58 (aG l).2=false)(hw:(aG l).1=[102,117,110,99]):Calls prog 71 #[v,.string (T t)] w λe w'=>bK w bs (bT t) e w':=by
 have uF:af (∀w',mE w'->Calls prog 135 #[.string (T t)] w' λe w''=>e=.returned (.tuple #[.agg #[.string (T ((jE t).getD []))],.bool (jE t).isSome])/\aa ae w' w''):=λw' h=>EP t w' h ht;have HM:=ai hM;have HE:=ai hE;have iA:af (ak (w.alloc (.cells (xg 0 ⟨#[]⟩ aT aT aT) 160)) w.heap.size (xg 0 ⟨#[]⟩ aT aT aT) 160):=ak.new w _ _;have eX:af (aa ae w (w.alloc (.cells (xg 0 ⟨#[]⟩ aT aT aT) 160))):=aj;have Ta:af (bT t=if nameB (aG (ay (aG l).2)).1=true/\ay (aG (ay (aG l).2)).2=[]then some {kind:=2,name:=(aG (ay (aG l).2)).1}else none):=by rw[af,qA hn,iN9 hs,iN9 (by simp[hk]),iN9 (by rw[hw];decide),iP9 hw]
 have hl2:(ay (aG l).2).length<=1000000:=by have:=iR (aG l).2;have:=kK l;have:=jG hn;omega
 have HNA:af (∀I w',ak w' I #[.string (T (ay (aG l).2))] 229->Calls prog 142 #[.pointer (some ⟨I,0,none⟩)] w' λe w''=>e=.returned (.tuple #[.string (T (aG (ay (aG l).2)).1),.bool (nameB (aG (ay (aG l).2)).1)])/\aQ w' I 0 #[.string (T (ay (aG l).2))] 229 (aG (ay (aG l).2)).2 w''):=λI w' h'=>tY I 0 _ _ _ w' ⟨h',rfl⟩ hl2;have HD2:af (∀I w',ak w' I #[.string (T (aG (ay (aG l).2)).2)] 229->Calls prog 136 #[.pointer (some ⟨I,0,none⟩)] w' λe w''=>e=.returned (.bool (decide (ay (aG (ay (aG l).2)).2=[])))/\aQ w' I 0 #[.string (T (aG (ay (aG l).2)).2)] 229 (ay (aG (ay (aG l).2)).2) w''):=λI w' h'=>nZ I 0 _ _ _ w' ⟨h',rfl⟩;have HPY:af (∀e w',(nameB (aG (ay (aG l).2)).1=true/\ay (aG (ay (aG l).2)).2=[])->aa ae w w'->e=.returned (.tuple #[.agg (xg 2 (T (aG (ay (aG l).2)).1) aT aT aT),.bool true])->bK w bs (bT t) e w'):=λe w' h1 h2 h3=>bK.yes (x:={kind:=2,name:=(aG (ay (aG l).2)).1}) (by rw[Ta.o,iP9 h1]) h2 h3;have Jr:af (∀e w',¬(nameB (aG (ay (aG l).2)).1=true/\ay (aG (ay (aG l).2)).2=[])->aa ae w w'->e=.returned (.tuple #[.agg (xg 2 (T (aG (ay (aG l).2)).1) aT aT aT),.bool false])->bK w bs (bT t) e w'):=λe w' h1 h2 h3=>bK.no (by rw[Ta.o,iN9 h1]) h2 ⟨2,_,_,_,_,none,0,0,0,0,0,_,_,false,h3⟩;have J4:af (∀I w',ak w' I #[.string (T l)] 229->Calls prog 136 #[.pointer (some ⟨I,0,none⟩)] w' λe w''=>e=.returned (.bool false)/\aQ w' I 0 #[.string (T l)] 229 (ay l) w''):=λI w' h'=>by have:=nZ I 0 _ _ l w' ⟨h',rfl⟩;rw[decide_eq_false hs]at this;exact this
 have hwl:=kK l;have Zz:af (∀I w',ak w' I #[.string (T (ay l))] 229->Calls prog 137 #[.pointer (some ⟨I,0,none⟩)] w' λe w''=>e=.returned (.string (T (aG l).1))/\aQ w' I 0 #[.string (T (ay l))] 229 (aG l).2 w''):=λI w' h'=>by have:=il I 0 _ _ (ay l) w' ⟨h',rfl⟩ (by have:=iR l;have:=jG hn;omega);rw[ER]at this;exact this
 have qV:af (∀I w',ak w' I #[.string (T (aG l).2)] 229->Calls prog 138 #[.pointer (some ⟨I,0,none⟩),.int .u8 58] w' λe w''=>e=.returned (.bool false)/\aQ w' I 0 #[.string (T (aG l).2)] 229 (ay (aG l).2) w''):=λI w' h'=>by have:=iG I 0 _ _ (aG l).2 58 w' ⟨h',rfl⟩ (by have:=jG hn;omega);rw[hk,og hk]at this;exact this
 have hq:((T (aG l).1).toList==[109,97,112])=false:=rD (λe=>by rw[hw]at e;exact absurd (nz e) (by decide));have hq2:((T (aG l).1).toList==[102,117,110,99])=true:=yn (by rw[hw]);clear Ta;have hnl:=jG hn;rw[hn]at uF;obtain⟨vo,vc,rfl,_⟩:=hO.sl.view;generalize bK w bs (bT t)=LP at *;go_enter func71,ntmps71;go_wp2_with fail;refine(uF.o _ (HM.o.ag eX.o)).mono ?_;rintro e w1 ⟨rfl,m1⟩;generalize hdd:decide (ay (aG (ay (aG l).2)).2=[])=dd at *;have OP:af (ay (aG (ay (aG l).2)).2=[]↔dd=true):=by rw[af,<-hdd];simp
 generalize ay (aG (ay (aG l).2)).2=r4 at *;generalize nameB (aG (ay (aG l).2)).1=nb at *;generalize aG (ay (aG l).2)=wl2 at *;obtain⟨nm,r3⟩:=wl2;generalize ay (aG l).2=r2 at *;generalize aG l=wl at *;obtain⟨x,r1⟩:=wl;dsimp only at *;have HW1:af (∀cs,OT w w1.heap.size w.heap.size l (w1.alloc (.cells cs 229))\/True):=λ_=>.inr trivial
 have HW2:af (OT w w1.heap.size w.heap.size (l) (w1.alloc (.cells #[.string (T (l))] 229))) :=
  ⟨ak.new _ _ _,(iA.o.ag m1 id).alloc _,(eX.o.trans m1).alloc _,by
   have h1:=(eX.o.trans m1).size;have h2:=(iA.o.ag m1 id).lt;omega⟩
 have HMs:=ai (eX.o.trans m1);clear m1 uF iA eX HW1;generalize hI:w1.heap.size=I at *;generalize hR:w.heap.size=R at *;clear hw hdd;go_wp2_with fail;refine(J4.o I _ HW2.o.LQ).mono ?_;rintro e w2 ⟨rfl,hp2⟩;have HW3:=ai (HW2.o.read hp2);clear hp2 J4 HW2;go_wp2_with fail;refine(Zz.o I _ HW3.o.LQ).mono ?_;rintro e w3 ⟨rfl,hp3⟩;have FX:=ai (HW3.o.read hp3);clear hp3 Zz HW3;go_wp2_with fail;refine(qV.o I _ FX.o.LQ).mono ?_;rintro e w4 ⟨rfl,CE⟩;have vw:=ai (FX.o.read CE);clear CE qV FX;go_wp2_with fail;refine(HNA.o I _ vw.o.LQ).mono ?_;rintro e w5 ⟨rfl,hp5⟩;have tq:=ai (vw.o.read hp5);clear hp5 HNA vw;cases nb with
 |false =>
  have LU:af (¬(false=true/\r4=[])):=λh=>by cases h.1
  go_wp2_with (refine wpList_store_row rfl 160 (.tmp 4) (.tmp 56) rfl R (xg 2 (T nm) aT aT aT) rfl rfl 160 _ tq.o.res (by kernel_rfl) rfl (jY ..) ?_);refine bodyPost_ret (aw results71 _ _ R 160 _ (0,0) _ _ rfl rfl tq.o.res.fM underlying160 rfl (by kernel_rfl)) rfl ?_;exact Jr.o _ _ LU.o (tq.o.md.fM (.inr tq.o.lt.2.2)) rfl
 |true =>
  go_wp2_with fail;refine(HD2.o I _ tq.o.LQ).mono ?_;rintro e w6 ⟨rfl,hp6⟩;have xq:=ai (tq.o.read hp6);clear hp6 HD2 tq;cases dd with
  |false =>
   have LU:af (¬(true=true/\r4=[])):=λh=>by have:=OP.o.1 h.2;cases this
   go_wp2_with (refine wpList_store_row rfl 160 (.tmp 4) (.tmp 56) rfl R (xg 2 (T nm) aT aT aT) rfl rfl 160 _ xq.o.res (by kernel_rfl) rfl (jY ..) ?_);refine bodyPost_ret (aw results71 _ _ R 160 _ (0,0) _ _ rfl rfl xq.o.res.fM underlying160 rfl (by kernel_rfl)) rfl ?_;exact Jr.o _ _ LU.o (xq.o.md.fM (.inr xq.o.lt.2.2)) rfl
  |true =>have HD3:af (r4=[]):=OP.o.2 rfl;go_wp2_with (refine wpList_store_row rfl 160 (.tmp 4) (.tmp 56) rfl R (xg 2 (T nm) aT aT aT) rfl rfl 160 _ xq.o.res (by kernel_rfl) rfl (jY ..) ?_);refine bodyPost_ret (aw results71 _ _ R 160 _ (0,0) _ _ rfl rfl xq.o.res.fM underlying160 rfl (by kernel_rfl)) rfl ?_;exact HPY.o _ _ ⟨by simp,HD3.o⟩ (xq.o.md.fM (.inr xq.o.lt.2.2)) rfl
theorem OW(wT w:tW)(v:Value)(bs:List Nat)(t:tLB)(hO:aH 0 wT v bs aq)(m:aa ae wT w)(hE:Env w)(hM:mE w)(ht:t.length<=1000000)(l:tLB)(hn:jE t=some l)(hs:ay l≠[])(hk:aP 58 (aG l).2=false)(hw1:(aG l).1≠[109,97,112])(hw2:(aG l).1≠[102,117,110,99]):Calls prog 71 #[v,.string (T t)] w λe w'=>bK w bs (bT t) e w':=by
 have uF:af (∀w',mE w'->Calls prog 135 #[.string (T t)] w' λe w''=>e=.returned (.tuple #[.agg #[.string (T ((jE t).getD []))],.bool (jE t).isSome])/\aa ae w' w''):=λw' h=>EP t w' h ht;have HM:=ai hM;have HE:=ai hE;have iA:af (ak (w.alloc (.cells (xg 0 ⟨#[]⟩ aT aT aT) 160)) w.heap.size (xg 0 ⟨#[]⟩ aT aT aT) 160):=ak.new w _ _;have eX:af (aa ae w (w.alloc (.cells (xg 0 ⟨#[]⟩ aT aT aT) 160))):=aj;have Ta:af (bT t=(j9 (aG l).1 (ay (aG l).2)).map λx=>{kind:=4,x:=x}):=by rw[af,qA hn,iN9 hs,iN9 (by simp[hk]),iN9 hw1,iN9 hw2]
 have hl2:(ay (aG l).2).length<=1000000:=by have:=iR (aG l).2;have:=kK l;have:=jG hn;omega
 have HRD:af (∀w',aa ae w w'->Calls prog 143 #[v,.string (T (aG l).1),.agg #[.string (T (ay (aG l).2))]] w' λe w''=>sZ w' bs (j9 (aG l).1 (ay (aG l).2)) e w''):=λw' m'=>opsRead_any wT w' v bs _ _ hO (m.trans m') (hE.ag m') hl2;have HPY:af (∀e w' y,j9 (aG l).1 (ay (aG l).2)=some y->aa ae w w'->e=.returned (.tuple #[.agg (OQ 4 ⟨#[]⟩ aT aT aT (.pointer (some ⟨bs[y.k]?.getD 0,0,none⟩)) y.r.d y.r.s y.r.jump y.r.num y.r.high (T y.r.label) (T y.r.name) y.fits),.bool true])->bK w bs (bT t) e w'):=λe w' y h1 h2 h3=>bK.yes (x:={kind:=4,x:=y}) (by rw[Ta.o,h1];rfl) h2 h3;have Jr:af (∀e w',j9 (aG l).1 (ay (aG l).2)=none->aa ae w w'->e=.returned (.tuple #[.agg (OQ 4 ⟨#[]⟩ aT aT aT (.pointer none) 0 0 0 0 0 ⟨#[]⟩ ⟨#[]⟩ false),.bool false])->bK w bs (bT t) e w'):=λe w' h1 h2 h3=>bK.no (by rw[Ta.o,h1];rfl) h2 ⟨4,_,_,_,_,none,0,0,0,0,0,_,_,false,h3⟩;have J4:af (∀I w',ak w' I #[.string (T l)] 229->Calls prog 136 #[.pointer (some ⟨I,0,none⟩)] w' λe w''=>e=.returned (.bool false)/\aQ w' I 0 #[.string (T l)] 229 (ay l) w''):=λI w' h'=>by have:=nZ I 0 _ _ l w' ⟨h',rfl⟩;rw[decide_eq_false hs]at this;exact this
 have hwl:=kK l;have Zz:af (∀I w',ak w' I #[.string (T (ay l))] 229->Calls prog 137 #[.pointer (some ⟨I,0,none⟩)] w' λe w''=>e=.returned (.string (T (aG l).1))/\aQ w' I 0 #[.string (T (ay l))] 229 (aG l).2 w''):=λI w' h'=>by have:=il I 0 _ _ (ay l) w' ⟨h',rfl⟩ (by have:=iR l;have:=jG hn;omega);rw[ER]at this;exact this
 have qV:af (∀I w',ak w' I #[.string (T (aG l).2)] 229->Calls prog 138 #[.pointer (some ⟨I,0,none⟩),.int .u8 58] w' λe w''=>e=.returned (.bool false)/\aQ w' I 0 #[.string (T (aG l).2)] 229 (ay (aG l).2) w''):=λI w' h'=>by have:=iG I 0 _ _ (aG l).2 58 w' ⟨h',rfl⟩ (by have:=jG hn;omega);rw[hk,og hk]at this;exact this
 have hq:((T (aG l).1).toList==[109,97,112])=false:=rD (λe=>hw1 (nz e));have hq2:((T (aG l).1).toList==[102,117,110,99])=false:=rD (λe=>hw2 (nz e));clear Ta;have hnl:=jG hn;rw[hn]at uF;obtain⟨vo,vc,rfl,_⟩:=hO.sl.view;generalize bK w bs (bT t)=LP at *;go_enter func71,ntmps71;go_wp2_with fail;refine(uF.o _ (HM.o.ag eX.o)).mono ?_;rintro e w1 ⟨rfl,m1⟩;generalize j9 (aG l).1 (ay (aG l).2)=rp at *;generalize ay (aG l).2=r2 at *;generalize aG l=wl at *;obtain⟨x,r1⟩:=wl;dsimp only at *;have HW1:af (∀cs,OT w w1.heap.size w.heap.size l (w1.alloc (.cells cs 229))\/True):=λ_=>.inr trivial
 have HW2:af (OT w w1.heap.size w.heap.size (l) (w1.alloc (.cells #[.string (T (l))] 229))) :=
  ⟨ak.new _ _ _,(iA.o.ag m1 id).alloc _,(eX.o.trans m1).alloc _,by
   have h1:=(eX.o.trans m1).size;have h2:=(iA.o.ag m1 id).lt;omega⟩
 have HMs:=ai (eX.o.trans m1);clear m1 uF iA eX HW1;generalize hI:w1.heap.size=I at *;generalize hR:w.heap.size=R at *;clear hw1 hw2;go_wp2_with fail;refine(J4.o I _ HW2.o.LQ).mono ?_;rintro e w2 ⟨rfl,hp2⟩;have HW3:=ai (HW2.o.read hp2);clear hp2 J4 HW2;go_wp2_with fail;refine(Zz.o I _ HW3.o.LQ).mono ?_;rintro e w3 ⟨rfl,hp3⟩;have FX:=ai (HW3.o.read hp3);clear hp3 Zz HW3;go_wp2_with fail;refine(qV.o I _ FX.o.LQ).mono ?_;rintro e w4 ⟨rfl,CE⟩;have vw:=ai (FX.o.read CE);clear CE qV FX;have i0:w4.cell? ⟨I,0,none⟩=some (.string (T r2)):=vw.o.LQ.cell 0;go_wp2_with fail;refine(HRD.o _ vw.o.md).mono ?_;intro e w5 hpo;obtain⟨m5,he⟩:=hpo;have tq:af (∀cs,OT w I R r2 (w5.alloc (.cells cs 138))):=λcs=>vw.o.quiet (m5.alloc _);clear m5 vw HRD i0;cases VW:rp with
 |none =>rw[VW]at he;dsimp only[wZ]at he;subst he;go_wp2_with (refine wpList_store_row rfl 160 (.tmp 4) (.tmp 71) rfl R (OQ 4 ⟨#[]⟩ aT aT aT (.pointer none) 0 0 0 0 0 ⟨#[]⟩ ⟨#[]⟩ false) rfl rfl 160 _ (tq.o _).res (by kernel_rfl) rfl (jY ..) ?_);refine bodyPost_ret (aw results71 _ _ R 160 _ (0,0) _ _ rfl rfl (tq.o _).res.fM underlying160 rfl (by kernel_rfl)) rfl ?_;exact Jr.o _ _ VW ((tq.o _).md.fM (.inr (tq.o #[]).lt.2.2)) rfl
 |some y =>rw[VW]at he;dsimp only[dH.cells]at he;subst he;generalize hyf:y.fits=yf at *;generalize hyp:bs[y.k]?.getD 0=yb at *;go_wp2_with (refine wpList_store_row rfl 160 (.tmp 4) (.tmp 71) rfl R (OQ 4 ⟨#[]⟩ aT aT aT (.pointer (some ⟨yb,0,none⟩)) y.r.d y.r.s y.r.jump y.r.num y.r.high (T y.r.label) (T y.r.name) yf) rfl rfl 160 _ (tq.o _).res (by kernel_rfl) rfl (jY ..) ?_);refine bodyPost_ret (aw results71 _ _ R 160 _ (0,0) _ _ rfl rfl (tq.o _).res.fM underlying160 rfl (by kernel_rfl)) rfl ?_;exact HPY.o _ _ y VW ((tq.o _).md.fM (.inr (tq.o #[]).lt.2.2)) (by rw[hyf,hyp];rfl)
def linesP:tLB->List tLB
 |[]=>[[]]
 |c::l=>if c=10 then []::linesP l else match linesP l with
  |[]=>[[c]]
  |h::t=>(c::h)::t
theorem yE:∀(l:tLB),(∀d∈l,d≠10)->linesP l=[l]
 |[],_=>rfl
 |c::l,h=>by rw[linesP,iN9 (h c (by simp)),yE l (λd hd=>h d (by simp[hd]))]
theorem AQ:∀(l:tLB) (k:Nat),l.takeWhile (λd=>d != 10)=l.take k->k<l.length->linesP l=l.take k::linesP (l.drop (k+1))
 |[],k,_,hk=>absurd hk (Nat.not_lt_zero _)
 |c::l,0,h,_=>by
  by_cases e:c=10
  ·subst e;rw[linesP,iP9 rfl];rfl
  ·rw[ab,iP9 (by simpa using e)]at h;simp at h
 |c::l,k+1,h,hk=>by
  by_cases e:c=10
  ·subst e;rw[ab,iN9 (by simp)]at h;simp at h
  ·rw[ab,iP9 (by simpa using e)]at h;have ih:=AQ l k (by simpa using h) (by simpa using hk);rw[linesP,iN9 e,ih];rfl
theorem zi:∀(k:Nat) (s:tBA),Lib.countB s ⟨#[10]⟩=k->Lib.splitB ⟨#[10]⟩ 0 k s=(linesP (BL s)).map T
 |k,s,hc=>by
  rcases index_one (BL s) 10 with⟨h1,h2⟩ |⟨i,h1,h2,h3⟩
  ·have hi:Lib.indexB s ⟨#[10]⟩=-1:=h1;rw[Lib.splitB_miss _ _ _ _ hi,yE _ h2];rfl
  ·have hi:Lib.indexB s ⟨#[10]⟩=(i:Int):=h1;have hh:=Lib.countB_hit s ⟨#[10]⟩ i (by decide) hi;rw[hc]at hh
   have hb:BL (s.extract (i+(ByteArray.mk #[10]).size) s.size)=(BL s).drop (i+1):=by
    show(s.extract (i+1) s.size).data.toList=s.data.toList.drop (i+1)
    have:=lT (BL s) (i+1);rw[Wn]at this;rw[this];simp[T,BL]
   have ht:s.extract 0 i=T ((BL s).take i):=by have:=yq (BL s) i;rw[Wn]at this;exact this
   match k,hh with
   |0,hh=>omega
   |k+1,hh =>rw[Lib.splitB_hit _ _ _ _ i hi,zi k _ (by omega),hb,AQ _ i h2 h3,Nat.add_zero,ht];rfl
theorem J6(l:tLB)(w:tW)(hM:mE w)(hl:l.length<=1000000):Calls prog 70 #[.string (T l),.string ⟨#[10]⟩] w λe w'=>∃n,e=.returned (.slice (some ⟨w.heap.size,0,none⟩) (linesP l).length n)/\w'=w.alloc (.cells ((linesP l).map (λt=>Value.string (T t))).toArray 9):=by
 obtain⟨m,hm⟩:=hM;have h:=Any.strings_Split lsp (by kernel_rfl) (T l) ⟨#[10]⟩ m w (by rw[bG];omega) hm (by decide);have e:=zi _ (T l) rfl;have hb:BL (T l)=l:=by simp[BL,T]
 rw[hb]at e;have hn:=Lib.splitB_all ⟨#[10]⟩ (by decide) 0 _ (T l) rfl;rw[e,List.length_map]at hn;refine h.mono (λe' w' ⟨h1,h2⟩=>⟨Lib.countB (T l) ⟨#[10]⟩+1,?_,?_⟩)
 ·rw[h1,hn]
 ·rw[h2,e,List.map_map];rfl
def parseP:List tLB->Bool->Nat->List dN->List dN ⊕ Nat
 |[],_,_,acc=>.inl acc
 |t::ts,lH,n,acc=>match bT t with
  |none=>.inr (n+1)
  |some x=>if(lH||x.kind==2)=false/\(x.kind=3\/x.kind=4)then .inr (n+1)else parseP ts (lH||x.kind==2) (n+1) (acc++[x])
theorem GG(ts:List tLB)(k:Nat)(hk:k<ts.length)(lH:Bool)(n:Nat)(acc:List dN):parseP (ts.drop k) lH n acc=match bT ts[k]with
  |none=>.inr (n+1)
  |some x=>if(lH||x.kind==2)=false/\(x.kind=3\/x.kind=4)then .inr (n+1)else parseP (ts.drop (k+1)) (lH||x.kind==2) (n+1) (acc++[x]):=by
 rw[List.drop_eq_getElem_cons hk,parseP]
structure fG(w0:tW)(v:Value)(bs:List Nat)(ls:List dN)(w:tW):Prop where
 sl:Sl w 160 20 v ls.length (ls.flatMap (λx=>(x.cells bs).toList))
 own:∀k,v.ownBlock=some k->w0.heap.size<=k
 md:aa ae w0 w
theorem fG.quiet{w0 w w':tW}{v:Value}{bs:List Nat}{ls:List dN}(h:fG w0 v bs ls w)(m:aa ae w w'):fG w0 v bs ls w':=⟨h.sl.ag m (λ_ _=>id),h.own,h.md.trans m⟩
theorem fG.nil(w:tW)(bs:List Nat):fG w (.slice none 0 0) bs [] w:=⟨Sl.nil _ _ _,(λk h=>by cases h),ax⟩
theorem fG.app{w0 w w':tW}{v v':Value}{bs:List Nat}{ls:List dN}{x:dN}(h:fG w0 v bs ls w)(s:Sl w' 160 20 v' (ls.length+1) (ls.flatMap (λx=>(x.cells bs).toList)++(x.cells bs).toList))(m:aa (λk=>v.ownBlock=some k) w w')(lv:∀k,v'.ownBlock=some k->v.ownBlock=some k\/w.heap.size<=k):fG w0 v' bs (ls++[x]) w':=by
 refine⟨by simpa using s,λk hk=>?_,h.md.step m (λi hi e=>by have:=h.own i e;omega)⟩;rcases lv k hk with e|e
 ·exact h.own k e
 ·have:=h.md.size;omega
theorem gT(bs:List Nat)(x:dN):(x.cells bs).size=20:=by unfold dN.cells;split<;>rfl
theorem cells_one(bs:List Nat)(x:dN):(x.cells bs).all (·.oneCell')=true:=by unfold dN.cells;split<;>exact jY ..
theorem qB(bs:List Nat)(x:dN):(x.cells bs)[0]?=some (.int .i64 x.kind):=by
 unfold dN.cells;split
 ·rename_i h;rw[h];rfl
 ·rfl
theorem AR:(prog.info? 160).map (λi=>(i.zero,i.size,i.bytes))=some (some (.agg (xg 0 ⟨#[]⟩ aT aT aT)),20,160):=by kernel_rfl
def ES(w:tW)(bs:List Nat)(r:List dN ⊕ Nat)(e:Ending)(w':tW):Prop:=match r with
 |.inr n=>e=.returned (.tuple #[.slice none 0 0,.int .i64 n])/\aa ae w w'
 |.inl ls=>∃v,e=.returned (.tuple #[v,.int .i64 0])/\fG w v bs ls w'
theorem aan{t:tLB}{l:tLB}:t∈linesP l->t.length<=l.length:=by
 induction l generalizing t with
 |nil=>intro h;simp[linesP]at h;subst h;exact Nat.le_refl _
 |cons c l ih =>
  intro h;rw[linesP]at h;split at h
  ·rcases List.mem_cons.1 h with rfl|h
   ·simp
   ·have:=ih h;simp;omega
  ·cases hl:linesP l with
   |nil=>rw[hl]at h;simp at h;subst h;simp
   |cons a b =>
    rw[hl]at h;rcases List.mem_cons.1 h with rfl|h
    ·have:=ih (t:=a) (by rw[hl];simp);simp;omega
    ·have:=ih (t:=t) (by rw[hl];simp[h]);simp;omega
theorem Dk(l:tLB):(linesP l).length<=l.length+1:=by
 induction l with
 |nil=>simp[linesP]
 |cons c l ih =>
  rw[linesP];split
  ·simp;omega
  ·cases hl:linesP l with
   |nil=>simp
   |cons a b=>rw[hl]at ih;simp at ih ⊢;omega
theorem AU:∀(l pre z:List Value),z.length=l.length->(l.zipIdx pre.length).foldl (λ(cs:tAV) x=>cs.setIfInBounds (0+x.2) x.1) (pre++z).toArray=(pre++l).toArray
 |[],pre,z,h=>by have:z=[]:=List.length_eq_zero_iff.1 h;subst this;rfl
 |a::l,pre,[],h=>by cases h
 |a::l,pre,b::z,h=>by
  rw[List.zipIdx_cons,List.foldl_cons];have e:((pre++b::z).toArray.setIfInBounds (0+pre.length) a)=((pre++[a])++z).toArray:=by rw[Nat.zero_add,List.setIfInBounds_toArray,List.set_append_right _ _ (Nat.le_refl _),Nat.sub_self,List.set_cons_zero,al];rfl
  have ih:=AU l (pre++[a]) z (by simpa using h);rw[List.length_append,List.length_singleton]at ih;show(l.zipIdx (pre.length+1)).foldl _ ((pre++b::z).toArray.setIfInBounds (0+pre.length) a)=_
  rw[e,ih,al];rfl
theorem Tc(cs z:tAV)(hc:cs.size=20)(hz:z.size=20):Instr.fill (λi=>some (i*20,20)) z [(0,.agg cs)]=some cs:=by
 obtain⟨l⟩:=cs;obtain⟨m⟩:=z;simp only[an]at hc hz;have h:=AU l [] m (by omega);have hcl:(Value.agg l.toArray).cells=l.toArray:=rfl;simp only[Instr.fill,hcl,an,hc,hz];rw[iN9 (by decide)];simp only[List.nil_append,List.length_nil]at h
 simpa using h
theorem xu{ops:Array Oper}{rest:List Oper}{o:Oper}{a:Act}{w:tW}{Q:Exit->Act->tW->Prop}(hg:o.guard=none)(x:Operand)(ho:o.op=.buildSlice 102 1 #[(0,x)])(cs:tAV) (hx:a.eval x=.agg cs) (hc:cs.size=20)(h:wpList prog ops Q rest (a.put o.dst (.slice (some ⟨w.heap.size,0,none⟩) 1 1)) (w.alloc (.cells cs 160))):wpList prog ops Q (o::rest) a w:=by obtain⟨iP,hiP,rX,hsP,wj⟩:=info_parts AR;refine wpList_buildSlice hg 102 160 1 _ ho cs iP _ underlying102 hiP rX (by rw[hsP];decide) (by rw[hsP];decide) ?_ h;rw[hsP];simp only[List.map_toArray,List.map_cons,List.map_nil,hx];exact Tc cs _ hc (by simp)
theorem fw{P:Program}{ops:Array Oper}{rest:List Oper}{o:Oper}{a:Act}{w:tW}{Q:Exit->Act->tW->Prop}(hgd:o.guard=none)(ty:TypeId)(x y:Operand)(ho:o.op=.store ty x y)(g:Nat) (cells:tAV) (hx:a.eval x=.pointer (some ⟨g,0,none⟩)) (hy:a.eval y=.agg cells)(t:TypeId) (old:tAV) (hg:ak w g old t) (hi:(P.info? ty).map (·.size)=some cells.size)(hold:old.size=cells.size) (h1:cells.all (·.oneCell')=true)(h:∀W,ak W g cells t->aa (Only g) w W->wpList P ops Q rest (a.put o.dst undef) W):wpList P ops Q (o::rest) a w :=
 wpList_store_row hgd ty x y ho g cells hx hy t old hg hi hold h1 (h _ (hg.setRow cells) (aa.setRow (S:=Only g) ax (.inl rfl) _))
theorem aa.fresh{w W:tW}{o:Obj}(m:aa (Only w.heap.size) (w.alloc o) W):aa ae w W :=
 ((aa.refl ae w).alloc o).step m (λi hi e=>by have:i=w.heap.size:=e;omega)
