import Derived.Test.YtnhcaifopaeohaaGreatDoorM18
import Derived.Test.YtnhcaifopaeohaaGreatDoorM17
import Derived.Great.BuildSlice
import Derived.Test.YtnhcaifopaeohaaGreatDoorM05
namespace Go.Proofs.YtnhcaifopaeohaaGreatDoor
open Go.RowKit
set_option linter.all false
set_option maxRecDepth 100000 in
set_option maxHeartbeats 4000000 in
theorem lineM_any (wT w:World) (v:Value) (bs:List Nat) (t:List UInt8) (hO:OpsIn 0 wT v bs tableS) (m:Mods Nil' wT w) (hE:Env w) (hM:EnvM w) (ht:t.length<=1000000) (l:List UInt8) (hn:newL t=some l) (hs:skipL l≠[]) (hk:hasMark 58 (wdL l).2=false) (hw:(wdL l).1=[109,97,112]) :
  Calls Tryz.prog 42 #[v,.string (T t)] w fun e w'=>LinePost w bs (lineP t) e w':=by
 have HNW:Hid (∀ w',EnvM w'->Calls Tryz.prog 99 #[.string (T t)] w' fun e w''=>e=.returned (.tuple #[.agg #[.string (T ((newL t).getD []))],.bool (newL t).isSome])/\Mods Nil' w' w''):=fun w' h=>new_any t w' h ht
 have HM:=hid hM;have HE:=hid hE
 have HR0:Hid (Blk (w.alloc (.cells (lnM 0 ⟨#[]⟩ num0 num0 num0) 102)) w.heap.size (lnM 0 ⟨#[]⟩ num0 num0 num0) 102):=Blk.new w _ _
 have HM0:Hid (Mods Nil' w (w.alloc (.cells (lnM 0 ⟨#[]⟩ num0 num0 num0) 102))):=(Mods.refl _ _).alloc _
 have HLP:Hid (lineP t=mapLnP (skipL (wdL l).2)):=by rw [Hid,lineP_some hn,if_neg hs,if_neg (by simp [hk]),if_pos hw]
 have HMP:Hid (∀ w',Calls Tryz.prog 105 #[.agg #[.string (T (skipL (wdL l).2))]] w' fun e w''=>LinePost w' bs (mapLnP (skipL (wdL l).2)) e w''):=fun w'=>mapL_any w' bs _ (by have:=skip_le (wdL l).2;have:=wd_le l;have:=new_le hn;omega)
 have HDN:Hid (∀ I w',Blk w' I #[.string (T l)] 162->Calls Tryz.prog 100 #[.pointer (some ⟨I,0,none⟩)] w' fun e w''=>e=.returned (.bool false)/\LnPost w' I 0 #[.string (T l)] 162 (skipL l) w''):=fun I w' h'=>by
  have:=done_any I 0 _ _ l w' ⟨h',rfl⟩
  rw [decide_eq_false hs] at this;exact this
 have hwl:=wd_le l
 have HWD:Hid (∀ I w',Blk w' I #[.string (T (skipL l))] 162->Calls Tryz.prog 101 #[.pointer (some ⟨I,0,none⟩)] w' fun e w''=>e=.returned (.string (T (wdL l).1))/\LnPost w' I 0 #[.string (T (skipL l))] 162 (wdL l).2 w''):=fun I w' h'=>by
  have:=word_any' I 0 _ _ (skipL l) w' ⟨h',rfl⟩ (by have:=skip_le l;have:=new_le hn;omega)
  rw [wd_skip] at this;exact this
 have HMK:Hid (∀ I w',Blk w' I #[.string (T (wdL l).2)] 162->Calls Tryz.prog 102 #[.pointer (some ⟨I,0,none⟩),.int .u8 58] w' fun e w''=>e=.returned (.bool false)/\LnPost w' I 0 #[.string (T (wdL l).2)] 162 (skipL (wdL l).2) w''):=fun I w' h'=>by
  have:=mark_any I 0 _ _ (wdL l).2 58 w' ⟨h',rfl⟩ (by have:=new_le hn;omega)
  rw [hk,skip_mark hk] at this;exact this
 have hq:((T (wdL l).1).toList==[109,97,112])=true:=lit_eq (by rw [hw])
 have HPY:Hid (∀ e w' x,mapLnP (skipL (wdL l).2)=some x->Mods Nil' w w'->e=.returned (.tuple #[.agg (x.cells bs),.bool true])->LinePost w bs (lineP t) e w'):=fun e w' x h1 h2 h3=>LinePost.yes (by rw [HLP.out,h1]) h2 h3
 have HPN:Hid (∀ e w',mapLnP (skipL (wdL l).2)=none->Mods Nil' w w'->(∃ k nm a b c op d s j n h lb nn f,e=.returned (.tuple #[.agg (lnC k nm a b c (.pointer op) d s j n h lb nn f),.bool false]))->LinePost w bs (lineP t) e w'):=fun e w' h1 h2 h3=>LinePost.no (by rw [HLP.out,h1]) h2 h3
 have HCX:Hid (∀ x,mapLnP (skipL (wdL l).2)=some x->∃ nm a b c,x.cells bs=lnM 1 nm a b c):=fun x hx=>by
  unfold mapLnP at hx
  split at hx
  ·obtain ⟨a,_,hx⟩:=Option.bind_eq_some_iff.1 hx;obtain ⟨b,_,hx⟩:=Option.bind_eq_some_iff.1 hx;obtain ⟨c,_,hx⟩:=Option.bind_eq_some_iff.1 hx
   split at hx
   ·cases hx;exact ⟨_,_,_,_,rfl⟩
   ·cases hx
  ·cases hx
 clear HLP
 have hnl:=new_le hn
 rw [hn] at HNW;obtain ⟨vo,vc,rfl,_⟩:=hO.sl.view;generalize LinePost w bs (lineP t)=LP at *
 go_enter Tryz.func42,Tryz.ntmps42
 go_wp2_with fail
 refine (HNW.out _ (HM.out.mods HM0.out)).mono ?_
 rintro e w1 ⟨rfl,m1⟩;generalize mapLnP (skipL (wdL l).2)=mp at *;generalize skipL (wdL l).2=r2 at *;generalize wdL l=wl at *;obtain ⟨x,r1⟩:=wl
 dsimp only at *
 have HW1:Hid (∀ cs,LnW w w1.heap.size w.heap.size l (w1.alloc (.cells cs 162))\/True):=fun _=>.inr trivial
 have HW2:Hid (LnW w w1.heap.size w.heap.size (l) (w1.alloc (.cells #[.string (T (l))] 162))) :=
  ⟨Blk.new _ _ _,(HR0.out.mods m1 id).alloc _,(HM0.out.trans m1).alloc _,by
   have h1:=(HM0.out.trans m1).size
   have h2:=(HR0.out.mods m1 id).lt
   omega⟩
 have HMs:Hid (Mods Nil' w w1):=HM0.out.trans m1
 clear m1 HNW HR0 HM0 HW1
 generalize hI:w1.heap.size=I at *
 generalize hR:w.heap.size=R at *
 clear hw;go_wp2_with fail
 refine (HDN.out I _ HW2.out.inb).mono ?_
 rintro e w2 ⟨rfl,hp2⟩
 have HW3:Hid (LnW w I R (skipL l) w2):=HW2.out.read hp2
 clear hp2 HDN HW2;go_wp2_with fail
 refine (HWD.out I _ HW3.out.inb).mono ?_
 rintro e w3 ⟨rfl,hp3⟩
 have HW4:Hid (LnW w I R r1 w3):=HW3.out.read hp3
 clear hp3 HWD HW3;go_wp2_with fail
 refine (HMK.out I _ HW4.out.inb).mono ?_
 rintro e w4 ⟨rfl,hp4⟩
 have HW5:Hid (LnW w I R r2 w4):=HW4.out.read hp4
 clear hp4 HMK HW4
 have i0:w4.cell? ⟨I,0,none⟩=some (.string (T r2)):=HW5.out.inb.cell 0
 go_wp2_with fail
 refine (HMP.out _).mono ?_
 intro e w5 hpo;obtain ⟨m5,hpo⟩:=hpo
 have HW6:Hid (LnW w I R r2 w5):=HW5.out.quiet m5
 clear m5 HW5 HMP
 cases hmp:mp with
 | none =>
  rw [hmp] at hpo;obtain ⟨k,nm,a,b,c,op,dd,ss,jj,nn,hh,lb,nm2,ff,rfl⟩:=hpo
  go_wp2_with (refine wpList_store_row rfl 102 (.tmp 4) (.tmp 47) rfl R (lnC k nm a b c (.pointer op) dd ss jj nn hh lb nm2 ff) rfl rfl 102 _ HW6.out.res (by kernel_rfl) rfl (lnC_one ..) ?_)
  refine bodyPost_ret (results_cell_tmp_row Tryz.results42 _ _ R 102 _ (0,0) _ _ rfl rfl HW6.out.res.rowPut Tryz.underlying102 rfl (by kernel_rfl)) rfl ?_
  exact HPN.out _ _ hmp (HW6.out.md.rowPut (.inr HW6.out.lt.2.2)) ⟨k,nm,a,b,c,op,dd,ss,jj,nn,hh,lb,nm2,ff,rfl⟩
 | some y =>
  rw [hmp] at hpo
  have he:e=.returned (.tuple #[.agg (y.cells bs),.bool true]):=hpo
  obtain ⟨nm,a,b,c,hy⟩:=HCX.out y hmp;have HY:=hid hy;rw [hy] at he;subst he;clear hpo hy
  go_wp2_with (refine wpList_store_row rfl 102 (.tmp 4) (.tmp 47) rfl R (lnM 1 nm a b c) rfl rfl 102 _ HW6.out.res (by kernel_rfl) rfl (lnC_one ..) ?_)
  refine bodyPost_ret (results_cell_tmp_row Tryz.results42 _ _ R 102 _ (0,0) _ _ rfl rfl HW6.out.res.rowPut Tryz.underlying102 rfl (by kernel_rfl)) rfl ?_
  exact HPY.out _ _ y hmp (HW6.out.md.rowPut (.inr HW6.out.lt.2.2)) (by rw [HY.out];rfl)
set_option maxRecDepth 100000 in
set_option maxHeartbeats 4000000 in
theorem lineF_any (wT w:World) (v:Value) (bs:List Nat) (t:List UInt8) (hO:OpsIn 0 wT v bs tableS) (m:Mods Nil' wT w) (hE:Env w) (hM:EnvM w) (ht:t.length<=1000000) (l:List UInt8) (hn:newL t=some l) (hs:skipL l≠[]) (hk:hasMark 58 (wdL l).2=false) (hw:(wdL l).1=[102,117,110,99]) :
  Calls Tryz.prog 42 #[v,.string (T t)] w fun e w'=>LinePost w bs (lineP t) e w':=by
 have HNW:Hid (∀ w',EnvM w'->Calls Tryz.prog 99 #[.string (T t)] w' fun e w''=>e=.returned (.tuple #[.agg #[.string (T ((newL t).getD []))],.bool (newL t).isSome])/\Mods Nil' w' w''):=fun w' h=>new_any t w' h ht
 have HM:=hid hM;have HE:=hid hE
 have HR0:Hid (Blk (w.alloc (.cells (lnM 0 ⟨#[]⟩ num0 num0 num0) 102)) w.heap.size (lnM 0 ⟨#[]⟩ num0 num0 num0) 102):=Blk.new w _ _
 have HM0:Hid (Mods Nil' w (w.alloc (.cells (lnM 0 ⟨#[]⟩ num0 num0 num0) 102))):=(Mods.refl _ _).alloc _
 have HLP:Hid (lineP t=if nameB (wdL (skipL (wdL l).2)).1=true/\skipL (wdL (skipL (wdL l).2)).2=[] then some { kind:=2,name:=(wdL (skipL (wdL l).2)).1 } else none):=by
  rw [Hid,lineP_some hn,if_neg hs,if_neg (by simp [hk]),if_neg (by rw [hw];decide),if_pos hw]
 have hl2:(skipL (wdL l).2).length<=1000000:=by have:=skip_le (wdL l).2;have:=wd_le l;have:=new_le hn;omega
 have HNA:Hid (∀ I w',Blk w' I #[.string (T (skipL (wdL l).2))] 162->Calls Tryz.prog 106 #[.pointer (some ⟨I,0,none⟩)] w' fun e w''=>e=.returned (.tuple #[.string (T (wdL (skipL (wdL l).2)).1),.bool (nameB (wdL (skipL (wdL l).2)).1)])/\LnPost w' I 0 #[.string (T (skipL (wdL l).2))] 162 (wdL (skipL (wdL l).2)).2 w''):=fun I w' h'=>sname_any I 0 _ _ _ w' ⟨h',rfl⟩ hl2
 have HD2:Hid (∀ I w',Blk w' I #[.string (T (wdL (skipL (wdL l).2)).2)] 162->Calls Tryz.prog 100 #[.pointer (some ⟨I,0,none⟩)] w' fun e w''=>e=.returned (.bool (decide (skipL (wdL (skipL (wdL l).2)).2=[])))/\LnPost w' I 0 #[.string (T (wdL (skipL (wdL l).2)).2)] 162 (skipL (wdL (skipL (wdL l).2)).2) w''):=fun I w' h'=>done_any I 0 _ _ _ w' ⟨h',rfl⟩
 have HPY:Hid (∀ e w',(nameB (wdL (skipL (wdL l).2)).1=true/\skipL (wdL (skipL (wdL l).2)).2=[])->Mods Nil' w w'->e=.returned (.tuple #[.agg (lnM 2 (T (wdL (skipL (wdL l).2)).1) num0 num0 num0),.bool true])->LinePost w bs (lineP t) e w'):=fun e w' h1 h2 h3=>LinePost.yes (x:={ kind:=2,name:=(wdL (skipL (wdL l).2)).1 }) (by rw [HLP.out,if_pos h1]) h2 h3
 have HPN:Hid (∀ e w',¬ (nameB (wdL (skipL (wdL l).2)).1=true/\skipL (wdL (skipL (wdL l).2)).2=[])->Mods Nil' w w'->e=.returned (.tuple #[.agg (lnM 2 (T (wdL (skipL (wdL l).2)).1) num0 num0 num0),.bool false])->LinePost w bs (lineP t) e w'):=fun e w' h1 h2 h3=>LinePost.no (by rw [HLP.out,if_neg h1]) h2 ⟨2,_,_,_,_,none,0,0,0,0,0,_,_,false,h3⟩
 have HDN:Hid (∀ I w',Blk w' I #[.string (T l)] 162->Calls Tryz.prog 100 #[.pointer (some ⟨I,0,none⟩)] w' fun e w''=>e=.returned (.bool false)/\LnPost w' I 0 #[.string (T l)] 162 (skipL l) w''):=fun I w' h'=>by
  have:=done_any I 0 _ _ l w' ⟨h',rfl⟩
  rw [decide_eq_false hs] at this;exact this
 have hwl:=wd_le l
 have HWD:Hid (∀ I w',Blk w' I #[.string (T (skipL l))] 162->Calls Tryz.prog 101 #[.pointer (some ⟨I,0,none⟩)] w' fun e w''=>e=.returned (.string (T (wdL l).1))/\LnPost w' I 0 #[.string (T (skipL l))] 162 (wdL l).2 w''):=fun I w' h'=>by
  have:=word_any' I 0 _ _ (skipL l) w' ⟨h',rfl⟩ (by have:=skip_le l;have:=new_le hn;omega)
  rw [wd_skip] at this;exact this
 have HMK:Hid (∀ I w',Blk w' I #[.string (T (wdL l).2)] 162->Calls Tryz.prog 102 #[.pointer (some ⟨I,0,none⟩),.int .u8 58] w' fun e w''=>e=.returned (.bool false)/\LnPost w' I 0 #[.string (T (wdL l).2)] 162 (skipL (wdL l).2) w''):=fun I w' h'=>by
  have:=mark_any I 0 _ _ (wdL l).2 58 w' ⟨h',rfl⟩ (by have:=new_le hn;omega)
  rw [hk,skip_mark hk] at this;exact this
 have hq:((T (wdL l).1).toList==[109,97,112])=false:=lit_ne (fun e=>by rw [hw] at e;exact absurd (T_injL e) (by decide))
 have hq2:((T (wdL l).1).toList==[102,117,110,99])=true:=lit_eq (by rw [hw])
 clear HLP
 have hnl:=new_le hn
 rw [hn] at HNW;obtain ⟨vo,vc,rfl,_⟩:=hO.sl.view;generalize LinePost w bs (lineP t)=LP at *
 go_enter Tryz.func42,Tryz.ntmps42
 go_wp2_with fail
 refine (HNW.out _ (HM.out.mods HM0.out)).mono ?_
 rintro e w1 ⟨rfl,m1⟩
 generalize hdd:decide (skipL (wdL (skipL (wdL l).2)).2=[])=dd at *
 have HDD:Hid (skipL (wdL (skipL (wdL l).2)).2=[] ↔ dd=true):=by rw [Hid,<- hdd];simp
 generalize skipL (wdL (skipL (wdL l).2)).2=r4 at *;generalize nameB (wdL (skipL (wdL l).2)).1=nb at *;generalize wdL (skipL (wdL l).2)=wl2 at *;obtain ⟨nm,r3⟩:=wl2;generalize skipL (wdL l).2=r2 at *;generalize wdL l=wl at *;obtain ⟨x,r1⟩:=wl
 dsimp only at *
 have HW1:Hid (∀ cs,LnW w w1.heap.size w.heap.size l (w1.alloc (.cells cs 162))\/True):=fun _=>.inr trivial
 have HW2:Hid (LnW w w1.heap.size w.heap.size (l) (w1.alloc (.cells #[.string (T (l))] 162))) :=
  ⟨Blk.new _ _ _,(HR0.out.mods m1 id).alloc _,(HM0.out.trans m1).alloc _,by
   have h1:=(HM0.out.trans m1).size
   have h2:=(HR0.out.mods m1 id).lt
   omega⟩
 have HMs:Hid (Mods Nil' w w1):=HM0.out.trans m1
 clear m1 HNW HR0 HM0 HW1
 generalize hI:w1.heap.size=I at *
 generalize hR:w.heap.size=R at *
 clear hw hdd;go_wp2_with fail
 refine (HDN.out I _ HW2.out.inb).mono ?_
 rintro e w2 ⟨rfl,hp2⟩
 have HW3:Hid (LnW w I R (skipL l) w2):=HW2.out.read hp2
 clear hp2 HDN HW2;go_wp2_with fail
 refine (HWD.out I _ HW3.out.inb).mono ?_
 rintro e w3 ⟨rfl,hp3⟩
 have HW4:Hid (LnW w I R r1 w3):=HW3.out.read hp3
 clear hp3 HWD HW3;go_wp2_with fail
 refine (HMK.out I _ HW4.out.inb).mono ?_
 rintro e w4 ⟨rfl,hp4⟩
 have HW5:Hid (LnW w I R r2 w4):=HW4.out.read hp4
 clear hp4 HMK HW4;go_wp2_with fail
 refine (HNA.out I _ HW5.out.inb).mono ?_
 rintro e w5 ⟨rfl,hp5⟩
 have HW6:Hid (LnW w I R r3 w5):=HW5.out.read hp5
 clear hp5 HNA HW5
 cases nb with
 | false =>
  have HNN:Hid (¬ (false=true/\r4=[])):=fun h=>by cases h.1
  go_wp2_with (refine wpList_store_row rfl 102 (.tmp 4) (.tmp 56) rfl R (lnM 2 (T nm) num0 num0 num0) rfl rfl 102 _ HW6.out.res (by kernel_rfl) rfl (lnC_one ..) ?_)
  refine bodyPost_ret (results_cell_tmp_row Tryz.results42 _ _ R 102 _ (0,0) _ _ rfl rfl HW6.out.res.rowPut Tryz.underlying102 rfl (by kernel_rfl)) rfl ?_
  exact HPN.out _ _ HNN.out (HW6.out.md.rowPut (.inr HW6.out.lt.2.2)) rfl
 | true =>
  go_wp2_with fail
  refine (HD2.out I _ HW6.out.inb).mono ?_
  rintro e w6 ⟨rfl,hp6⟩
  have HW7:Hid (LnW w I R r4 w6):=HW6.out.read hp6
  clear hp6 HD2 HW6
  cases dd with
  | false =>
   have HNN:Hid (¬ (true=true/\r4=[])):=fun h=>by have:=HDD.out.1 h.2;cases this
   go_wp2_with (refine wpList_store_row rfl 102 (.tmp 4) (.tmp 56) rfl R (lnM 2 (T nm) num0 num0 num0) rfl rfl 102 _ HW7.out.res (by kernel_rfl) rfl (lnC_one ..) ?_)
   refine bodyPost_ret (results_cell_tmp_row Tryz.results42 _ _ R 102 _ (0,0) _ _ rfl rfl HW7.out.res.rowPut Tryz.underlying102 rfl (by kernel_rfl)) rfl ?_
   exact HPN.out _ _ HNN.out (HW7.out.md.rowPut (.inr HW7.out.lt.2.2)) rfl
  | true =>
   have HD3:Hid (r4=[]):=HDD.out.2 rfl
   go_wp2_with (refine wpList_store_row rfl 102 (.tmp 4) (.tmp 56) rfl R (lnM 2 (T nm) num0 num0 num0) rfl rfl 102 _ HW7.out.res (by kernel_rfl) rfl (lnC_one ..) ?_)
   refine bodyPost_ret (results_cell_tmp_row Tryz.results42 _ _ R 102 _ (0,0) _ _ rfl rfl HW7.out.res.rowPut Tryz.underlying102 rfl (by kernel_rfl)) rfl ?_
   exact HPY.out _ _ ⟨by simp,HD3.out⟩ (HW7.out.md.rowPut (.inr HW7.out.lt.2.2)) rfl
set_option maxRecDepth 100000 in
set_option maxHeartbeats 4000000 in
theorem lineI_any (wT w:World) (v:Value) (bs:List Nat) (t:List UInt8) (hO:OpsIn 0 wT v bs tableS) (m:Mods Nil' wT w) (hE:Env w) (hM:EnvM w) (ht:t.length<=1000000) (l:List UInt8) (hn:newL t=some l) (hs:skipL l≠[]) (hk:hasMark 58 (wdL l).2=false) (hw1:(wdL l).1≠[109,97,112]) (hw2:(wdL l).1≠[102,117,110,99]) :
  Calls Tryz.prog 42 #[v,.string (T t)] w fun e w'=>LinePost w bs (lineP t) e w':=by
 have HNW:Hid (∀ w',EnvM w'->Calls Tryz.prog 99 #[.string (T t)] w' fun e w''=>e=.returned (.tuple #[.agg #[.string (T ((newL t).getD []))],.bool (newL t).isSome])/\Mods Nil' w' w''):=fun w' h=>new_any t w' h ht
 have HM:=hid hM;have HE:=hid hE
 have HR0:Hid (Blk (w.alloc (.cells (lnM 0 ⟨#[]⟩ num0 num0 num0) 102)) w.heap.size (lnM 0 ⟨#[]⟩ num0 num0 num0) 102):=Blk.new w _ _
 have HM0:Hid (Mods Nil' w (w.alloc (.cells (lnM 0 ⟨#[]⟩ num0 num0 num0) 102))):=(Mods.refl _ _).alloc _
 have HLP:Hid (lineP t=(readP (wdL l).1 (skipL (wdL l).2)).map fun x=>{ kind:=4,x:=x }):=by
  rw [Hid,lineP_some hn,if_neg hs,if_neg (by simp [hk]),if_neg hw1,if_neg hw2]
 have hl2:(skipL (wdL l).2).length<=1000000:=by have:=skip_le (wdL l).2;have:=wd_le l;have:=new_le hn;omega
 have HRD:Hid (∀ w',Mods Nil' w w'->Calls Tryz.prog 107 #[v,.string (T (wdL l).1),.agg #[.string (T (skipL (wdL l).2))]] w' fun e w''=>ReadPost w' bs (readP (wdL l).1 (skipL (wdL l).2)) e w''):=fun w' m'=>opsRead_any wT w' v bs _ _ hO (m.trans m') (hE.mods m') hl2
 have HPY:Hid (∀ e w' y,readP (wdL l).1 (skipL (wdL l).2)=some y->Mods Nil' w w'->e=.returned (.tuple #[.agg (lnC 4 ⟨#[]⟩ num0 num0 num0 (.pointer (some ⟨bs[y.k]?.getD 0,0,none⟩)) y.r.d y.r.s y.r.jump y.r.num y.r.high (T y.r.label) (T y.r.name) y.fits),.bool true])->LinePost w bs (lineP t) e w'):=fun e w' y h1 h2 h3=>LinePost.yes (x:={ kind:=4,x:=y }) (by rw [HLP.out,h1];rfl) h2 h3
 have HPN:Hid (∀ e w',readP (wdL l).1 (skipL (wdL l).2)=none->Mods Nil' w w'->e=.returned (.tuple #[.agg (lnC 4 ⟨#[]⟩ num0 num0 num0 (.pointer none) 0 0 0 0 0 ⟨#[]⟩ ⟨#[]⟩ false),.bool false])->LinePost w bs (lineP t) e w'):=fun e w' h1 h2 h3=>LinePost.no (by rw [HLP.out,h1];rfl) h2 ⟨4,_,_,_,_,none,0,0,0,0,0,_,_,false,h3⟩
 have HDN:Hid (∀ I w',Blk w' I #[.string (T l)] 162->Calls Tryz.prog 100 #[.pointer (some ⟨I,0,none⟩)] w' fun e w''=>e=.returned (.bool false)/\LnPost w' I 0 #[.string (T l)] 162 (skipL l) w''):=fun I w' h'=>by
  have:=done_any I 0 _ _ l w' ⟨h',rfl⟩
  rw [decide_eq_false hs] at this;exact this
 have hwl:=wd_le l
 have HWD:Hid (∀ I w',Blk w' I #[.string (T (skipL l))] 162->Calls Tryz.prog 101 #[.pointer (some ⟨I,0,none⟩)] w' fun e w''=>e=.returned (.string (T (wdL l).1))/\LnPost w' I 0 #[.string (T (skipL l))] 162 (wdL l).2 w''):=fun I w' h'=>by
  have:=word_any' I 0 _ _ (skipL l) w' ⟨h',rfl⟩ (by have:=skip_le l;have:=new_le hn;omega)
  rw [wd_skip] at this;exact this
 have HMK:Hid (∀ I w',Blk w' I #[.string (T (wdL l).2)] 162->Calls Tryz.prog 102 #[.pointer (some ⟨I,0,none⟩),.int .u8 58] w' fun e w''=>e=.returned (.bool false)/\LnPost w' I 0 #[.string (T (wdL l).2)] 162 (skipL (wdL l).2) w''):=fun I w' h'=>by
  have:=mark_any I 0 _ _ (wdL l).2 58 w' ⟨h',rfl⟩ (by have:=new_le hn;omega)
  rw [hk,skip_mark hk] at this;exact this
 have hq:((T (wdL l).1).toList==[109,97,112])=false:=lit_ne (fun e=>hw1 (T_injL e))
 have hq2:((T (wdL l).1).toList==[102,117,110,99])=false:=lit_ne (fun e=>hw2 (T_injL e))
 clear HLP
 have hnl:=new_le hn
 rw [hn] at HNW;obtain ⟨vo,vc,rfl,_⟩:=hO.sl.view;generalize LinePost w bs (lineP t)=LP at *
 go_enter Tryz.func42,Tryz.ntmps42
 go_wp2_with fail
 refine (HNW.out _ (HM.out.mods HM0.out)).mono ?_
 rintro e w1 ⟨rfl,m1⟩;generalize readP (wdL l).1 (skipL (wdL l).2)=rp at *;generalize skipL (wdL l).2=r2 at *;generalize wdL l=wl at *;obtain ⟨x,r1⟩:=wl
 dsimp only at *
 have HW1:Hid (∀ cs,LnW w w1.heap.size w.heap.size l (w1.alloc (.cells cs 162))\/True):=fun _=>.inr trivial
 have HW2:Hid (LnW w w1.heap.size w.heap.size (l) (w1.alloc (.cells #[.string (T (l))] 162))) :=
  ⟨Blk.new _ _ _,(HR0.out.mods m1 id).alloc _,(HM0.out.trans m1).alloc _,by
   have h1:=(HM0.out.trans m1).size
   have h2:=(HR0.out.mods m1 id).lt
   omega⟩
 have HMs:Hid (Mods Nil' w w1):=HM0.out.trans m1
 clear m1 HNW HR0 HM0 HW1
 generalize hI:w1.heap.size=I at *
 generalize hR:w.heap.size=R at *
 clear hw1 hw2;go_wp2_with fail
 refine (HDN.out I _ HW2.out.inb).mono ?_
 rintro e w2 ⟨rfl,hp2⟩
 have HW3:Hid (LnW w I R (skipL l) w2):=HW2.out.read hp2
 clear hp2 HDN HW2;go_wp2_with fail
 refine (HWD.out I _ HW3.out.inb).mono ?_
 rintro e w3 ⟨rfl,hp3⟩
 have HW4:Hid (LnW w I R r1 w3):=HW3.out.read hp3
 clear hp3 HWD HW3;go_wp2_with fail
 refine (HMK.out I _ HW4.out.inb).mono ?_
 rintro e w4 ⟨rfl,hp4⟩
 have HW5:Hid (LnW w I R r2 w4):=HW4.out.read hp4
 clear hp4 HMK HW4
 have i0:w4.cell? ⟨I,0,none⟩=some (.string (T r2)):=HW5.out.inb.cell 0
 go_wp2_with fail
 refine (HRD.out _ HW5.out.md).mono ?_
 intro e w5 hpo;obtain ⟨m5,he⟩:=hpo
 have HW6:Hid (∀ cs,LnW w I R r2 (w5.alloc (.cells cs 84))):=fun cs=>HW5.out.quiet (m5.alloc _)
 clear m5 HW5 HRD i0
 cases hrp:rp with
 | none =>
  rw [hrp] at he
  dsimp only [zeroI] at he
  subst he
  go_wp2_with (refine wpList_store_row rfl 102 (.tmp 4) (.tmp 71) rfl R (lnC 4 ⟨#[]⟩ num0 num0 num0 (.pointer none) 0 0 0 0 0 ⟨#[]⟩ ⟨#[]⟩ false) rfl rfl 102 _ (HW6.out _).res (by kernel_rfl) rfl (lnC_one ..) ?_)
  refine bodyPost_ret (results_cell_tmp_row Tryz.results42 _ _ R 102 _ (0,0) _ _ rfl rfl (HW6.out _).res.rowPut Tryz.underlying102 rfl (by kernel_rfl)) rfl ?_
  exact HPN.out _ _ hrp ((HW6.out _).md.rowPut (.inr (HW6.out #[]).lt.2.2)) rfl
 | some y =>
  rw [hrp] at he
  dsimp only [PRead.cells] at he
  subst he
  generalize hyf:y.fits=yf at *
  generalize hyp:bs[y.k]?.getD 0=yb at *
  go_wp2_with (refine wpList_store_row rfl 102 (.tmp 4) (.tmp 71) rfl R (lnC 4 ⟨#[]⟩ num0 num0 num0 (.pointer (some ⟨yb,0,none⟩)) y.r.d y.r.s y.r.jump y.r.num y.r.high (T y.r.label) (T y.r.name) yf) rfl rfl 102 _ (HW6.out _).res (by kernel_rfl) rfl (lnC_one ..) ?_)
  refine bodyPost_ret (results_cell_tmp_row Tryz.results42 _ _ R 102 _ (0,0) _ _ rfl rfl (HW6.out _).res.rowPut Tryz.underlying102 rfl (by kernel_rfl)) rfl ?_
  exact HPY.out _ _ y hrp ((HW6.out _).md.rowPut (.inr (HW6.out #[]).lt.2.2)) (by rw [hyf,hyp];rfl)
theorem line_any (wT w:World) (v:Value) (bs:List Nat) (t:List UInt8) (hO:OpsIn 0 wT v bs tableS) (m:Mods Nil' wT w) (hE:Env w) (hM:EnvM w) (ht:t.length<=1000000) :
  Calls Tryz.prog 42 #[v,.string (T t)] w fun e w'=>LinePost w bs (lineP t) e w':=by
 cases hn:newL t with
 | none=>exact lineX_any wT w v bs t hO m hE hM ht hn
 | some l =>
  by_cases hs:skipL l=[]
  ·exact lineN_any wT w v bs t hO m hE hM ht l hn hs
  ·cases hk:hasMark 58 (wdL l).2 with
   | true=>exact lineL_any wT w v bs t hO m hE hM ht l hn hs hk
   | false =>
    by_cases h1:(wdL l).1=[109,97,112]
    ·exact lineM_any wT w v bs t hO m hE hM ht l hn hs hk h1
    ·by_cases h2:(wdL l).1=[102,117,110,99]
     ·exact lineF_any wT w v bs t hO m hE hM ht l hn hs hk h2
     ·exact lineI_any wT w v bs t hO m hE hM ht l hn hs hk h1 h2
def linesP:List UInt8->List (List UInt8)
 | []=>[[]]
 | c::l=>if c=10 then []::linesP l else match linesP l with
  | []=>[[c]]
  | h::t=>(c::h)::t
theorem linesP_no:∀ (l:List UInt8),(∀ d∈l,d≠10)->linesP l=[l]
 | [],_=>rfl
 | c::l,h=>by
  rw [linesP,if_neg (h c (by simp)),linesP_no l (fun d hd=>h d (by simp [hd]))]
theorem linesP_hit:∀ (l:List UInt8) (k:Nat),l.takeWhile (fun d=>d != 10)=l.take k->k<l.length->linesP l=l.take k::linesP (l.drop (k+1))
 | [],k,_,hk=>absurd hk (Nat.not_lt_zero _)
 | c::l,0,h,_=>by
  by_cases e:c=10
  ·subst e;rw [linesP,if_pos rfl];rfl
  ·rw [List.takeWhile_cons,if_pos (by simpa using e)] at h
   simp at h
 | c::l,k+1,h,hk=>by
  by_cases e:c=10
  ·subst e
   rw [List.takeWhile_cons,if_neg (by simp)] at h
   simp at h
  ·rw [List.takeWhile_cons,if_pos (by simpa using e)] at h
   have ih:=linesP_hit l k (by simpa using h) (by simpa using hk)
   rw [linesP,if_neg e,ih]
   rfl
theorem split_lines:∀ (k:Nat) (s:ByteArray),Lib.countB s ⟨#[10]⟩=k->Lib.splitB ⟨#[10]⟩ 0 k s=(linesP (BL s)).map T
 | k,s,hc=>by
  rcases index_one (BL s) 10 with ⟨h1,h2⟩ | ⟨i,h1,h2,h3⟩
  ·have hi:Lib.indexB s ⟨#[10]⟩=-1:=h1
   rw [Lib.splitB_miss _ _ _ _ hi,linesP_no _ h2]
   rfl
  ·have hi:Lib.indexB s ⟨#[10]⟩=(i:Int):=h1
   have hh:=Lib.countB_hit s ⟨#[10]⟩ i (by decide) hi
   rw [hc] at hh
   have hb:BL (s.extract (i+(ByteArray.mk #[10]).size) s.size)=(BL s).drop (i+1):=by
    show (s.extract (i+1) s.size).data.toList=s.data.toList.drop (i+1)
    have:=T_drop (BL s) (i+1)
    rw [T_BL] at this
    rw [this];simp [T,BL]
   have ht:s.extract 0 i=T ((BL s).take i):=by
    have:=T_take (BL s) i
    rw [T_BL] at this;exact this
   match k,hh with
   | 0,hh=>omega
   | k+1,hh =>
    rw [Lib.splitB_hit _ _ _ _ i hi,split_lines k _ (by omega),hb,linesP_hit _ i h2 h3,Nat.add_zero,ht]
    rfl
theorem psplit_any (l:List UInt8) (w:World) (hM:EnvM w) (hl:l.length<=1000000) :
  Calls Tryz.prog 41 #[.string (T l),.string ⟨#[10]⟩] w fun e w'=>∃ n,e=.returned (.slice (some ⟨w.heap.size,0,none⟩) (linesP l).length n)/\w'=w.alloc (.cells ((linesP l).map (fun t=>Value.string (T t))).toArray 9):=by
 obtain ⟨m,hm⟩:=hM
 have h:=Any.strings_Split Tryz.lsp (by kernel_rfl) (T l) ⟨#[10]⟩ m w (by rw [T_size];omega) hm (by decide)
 have e:=split_lines _ (T l) rfl
 have hb:BL (T l)=l:=by simp [BL,T]
 rw [hb] at e
 have hn:=Lib.splitB_all ⟨#[10]⟩ (by decide) 0 _ (T l) rfl
 rw [e,List.length_map] at hn
 refine h.mono (fun e' w' ⟨h1,h2⟩=>⟨Lib.countB (T l) ⟨#[10]⟩+1,?_,?_⟩)
 ·rw [h1,hn]
 ·rw [h2,e,List.map_map];rfl
def parseP:List (List UInt8)->Bool->Nat->List PLn->List PLn ⊕ Nat
 | [],_,_,acc=>.inl acc
 | t::ts,inF,n,acc=>match lineP t with
  | none=>.inr (n+1)
  | some x=>if (inF||x.kind==2)=false/\(x.kind=3\/x.kind=4) then .inr (n+1) else parseP ts (inF||x.kind==2) (n+1) (acc++[x])
theorem parseP_drop (ts:List (List UInt8)) (k:Nat) (hk:k<ts.length) (inF:Bool) (n:Nat) (acc:List PLn):parseP (ts.drop k) inF n acc=match lineP ts[k] with
  | none=>.inr (n+1)
  | some x=>if (inF||x.kind==2)=false/\(x.kind=3\/x.kind=4) then .inr (n+1) else parseP (ts.drop (k+1)) (inF||x.kind==2) (n+1) (acc++[x]):=by
 rw [List.drop_eq_getElem_cons hk,parseP]
structure LnsAt (w0:World) (v:Value) (bs:List Nat) (ls:List PLn) (w:World):Prop where
 sl:Sl w 102 20 v ls.length (ls.flatMap (fun x=>(x.cells bs).toList))
 own:∀ k,v.ownBlock=some k->w0.heap.size<=k
 md:Mods Nil' w0 w
theorem LnsAt.quiet {w0 w w':World} {v:Value} {bs:List Nat} {ls:List PLn} (h:LnsAt w0 v bs ls w) (m:Mods Nil' w w'):LnsAt w0 v bs ls w':=⟨h.sl.mods m (fun _ _=>id),h.own,h.md.trans m⟩
theorem LnsAt.nil (w:World) (bs:List Nat):LnsAt w (.slice none 0 0) bs [] w:=⟨Sl.nil _ _ _,(fun k h=>by cases h),Mods.refl _ _⟩
theorem LnsAt.app {w0 w w':World} {v v':Value} {bs:List Nat} {ls:List PLn} {x:PLn} (h:LnsAt w0 v bs ls w) (s:Sl w' 102 20 v' (ls.length+1) (ls.flatMap (fun x=>(x.cells bs).toList)++(x.cells bs).toList)) (m:Mods (fun k=>v.ownBlock=some k) w w') (lv:∀ k,v'.ownBlock=some k->v.ownBlock=some k\/w.heap.size<=k):LnsAt w0 v' bs (ls++[x]) w':=by
 refine ⟨by simpa using s,fun k hk=>?_,h.md.step m (fun i hi e=>by have:=h.own i e;omega)⟩
 rcases lv k hk with e | e
 ·exact h.own k e
 ·have:=h.md.size;omega
theorem cells_size (bs:List Nat) (x:PLn):(x.cells bs).size=20:=by unfold PLn.cells;split<;>rfl
theorem cells_one (bs:List Nat) (x:PLn):(x.cells bs).all (·.oneCell')=true:=by unfold PLn.cells;split<;>exact lnC_one ..
theorem cells_kind (bs:List Nat) (x:PLn):(x.cells bs)[0]?=some (.int .i64 x.kind):=by
 unfold PLn.cells;split
 ·rename_i h;rw [h];rfl
 ·rfl
set_option maxRecDepth 100000 in
theorem info_pline:(Tryz.prog.info? 102).map (fun i=>(i.zero,i.size,i.bytes))=some (some (.agg (lnM 0 ⟨#[]⟩ num0 num0 num0)),20,160):=by kernel_rfl
def ParseA (w:World) (bs:List Nat) (r:List PLn ⊕ Nat) (e:Ending) (w':World):Prop:=match r with
 | .inr n=>e=.returned (.tuple #[.slice none 0 0,.int .i64 n])/\Mods Nil' w w'
 | .inl ls=>∃ v,e=.returned (.tuple #[v,.int .i64 0])/\LnsAt w v bs ls w'
theorem mem_le {t:List UInt8} {l:List UInt8}:t∈linesP l->t.length<=l.length:=by
 induction l generalizing t with
 | nil=>intro h;simp [linesP] at h;subst h;exact Nat.le_refl _
 | cons c l ih =>
  intro h;rw [linesP] at h
  split at h
  ·rcases List.mem_cons.1 h with rfl | h
   ·simp
   ·have:=ih h;simp;omega
  ·cases hl:linesP l with
   | nil=>rw [hl] at h;simp at h;subst h;simp
   | cons a b =>
    rw [hl] at h
    rcases List.mem_cons.1 h with rfl | h
    ·have:=ih (t:=a) (by rw [hl];simp);simp;omega
    ·have:=ih (t:=t) (by rw [hl];simp [h]);simp;omega
theorem lines_len (l:List UInt8):(linesP l).length<=l.length+1:=by
 induction l with
 | nil=>simp [linesP]
 | cons c l ih =>
  rw [linesP]
  split
  ·simp;omega
  ·cases hl:linesP l with
   | nil=>simp
   | cons a b=>rw [hl] at ih;simp at ih ⊢;omega
theorem fold_set:∀ (l pre z:List Value),z.length=l.length->(l.zipIdx pre.length).foldl (fun (cs:Array Value) x=>cs.setIfInBounds (0+x.2) x.1) (pre++z).toArray=(pre++l).toArray
 | [],pre,z,h=>by
  have:z=[]:=List.length_eq_zero_iff.1 h
  subst this;rfl
 | a::l,pre,[],h=>by cases h
 | a::l,pre,b::z,h=>by
  rw [List.zipIdx_cons,List.foldl_cons]
  have e:((pre++b::z).toArray.setIfInBounds (0+pre.length) a)=((pre++[a])++z).toArray:=by
   rw [Nat.zero_add,List.setIfInBounds_toArray,List.set_append_right _ _ (Nat.le_refl _),Nat.sub_self,List.set_cons_zero,List.append_assoc]
   rfl
  have ih:=fold_set l (pre++[a]) z (by simpa using h)
  rw [List.length_append,List.length_singleton] at ih
  show (l.zipIdx (pre.length+1)).foldl _ ((pre++b::z).toArray.setIfInBounds (0+pre.length) a)=_
  rw [e,ih,List.append_assoc]
  rfl
theorem fill_row (cs z:Array Value) (hc:cs.size=20) (hz:z.size=20):Instr.fill (fun i=>some (i*20,20)) z [(0,.agg cs)]=some cs:=by
 obtain ⟨l⟩:=cs;obtain ⟨m⟩:=z
 simp only [List.size_toArray] at hc hz
 have h:=fold_set l [] m (by omega)
 have hcl:(Value.agg l.toArray).cells=l.toArray:=rfl
 simp only [Instr.fill,hcl,List.size_toArray,hc,hz]
 rw [if_neg (by decide)]
 simp only [List.nil_append,List.length_nil] at h
 simpa using h
theorem wpList_build_line {ops:Array Oper} {rest:List Oper} {o:Oper} {a:Act} {w:World} {Q:Exit->Act->World->Prop} (hg:o.guard=none) (x:Operand) (ho:o.op=.buildSlice 58 1 #[(0,x)])
  (cs:Array Value) (hx:a.eval x=.agg cs) (hc:cs.size=20)
  (h:wpList Tryz.prog ops Q rest (a.put o.dst (.slice (some ⟨w.heap.size,0,none⟩) 1 1)) (w.alloc (.cells cs 102))):wpList Tryz.prog ops Q (o::rest) a w:=by
 obtain ⟨iP,hiP,hzP,hsP,hbP⟩:=info_parts info_pline
 refine wpList_buildSlice hg 58 102 1 _ ho cs iP _ Tryz.underlying58 hiP hzP (by rw [hsP];decide) (by rw [hsP];decide) ?_ h
 rw [hsP]
 simp only [List.map_toArray,List.map_cons,List.map_nil,hx]
 exact fill_row cs _ hc (by simp)
theorem wpList_store_blk {P:Program} {ops:Array Oper} {rest:List Oper} {o:Oper} {a:Act} {w:World} {Q:Exit->Act->World->Prop} (hgd:o.guard=none) (ty:TypeId) (x y:Operand) (ho:o.op=.store ty x y)
  (g:Nat) (cells:Array Value) (hx:a.eval x=.pointer (some ⟨g,0,none⟩)) (hy:a.eval y=.agg cells)
  (t:TypeId) (old:Array Value) (hg:Blk w g old t) (hi:(P.info? ty).map (·.size)=some cells.size)
  (hold:old.size=cells.size) (h1:cells.all (·.oneCell')=true)
  (h:∀ W,Blk W g cells t->Mods (Only g) w W->wpList P ops Q rest (a.put o.dst undef) W):wpList P ops Q (o::rest) a w :=
 wpList_store_row hgd ty x y ho g cells hx hy t old hg hi hold h1 (h _ (hg.setRow cells) (Mods.setRow (S:=Only g) (Mods.refl _ _) (.inl rfl) _))
theorem Mods.fresh {w W:World} {o:Obj} (m:Mods (Only w.heap.size) (w.alloc o) W):Mods Nil' w W :=
 ((Mods.refl Nil' w).alloc o).step m (fun i hi e=>by have:i=w.heap.size:=e;omega)
set_option maxRecDepth 100000 in
set_option maxHeartbeats 4000000 in
theorem parse_any (wT w:World) (v:Value) (bs:List Nat) (l:List UInt8) (hO:OpsIn 0 wT v bs tableS) (m:Mods Nil' wT w) (hE:Env w) (hM:EnvM w) (hl:l.length<=1000000) :
  Calls Tryz.prog 20 #[v,.string (T l)] w fun e w'=>ParseA w bs (parseP (linesP l) false 0 []) e w':=by
 have HSP:Hid (Calls Tryz.prog 41 #[.string (T l),.string ⟨#[10]⟩] w fun e w'=>∃ n,e=.returned (.slice (some ⟨w.heap.size,0,none⟩) (linesP l).length n)/\w'=w.alloc (.cells ((linesP l).map (fun t=>Value.string (T t))).toArray 9)):=psplit_any l w hM hl
 have HLN:Hid (∀ t w',t∈linesP l->Mods Nil' w w'->Calls Tryz.prog 42 #[v,.string (T t)] w' fun e w''=>LinePost w' bs (lineP t) e w''):=fun t w' ht m'=>line_any wT w' v bs t hO (m.trans m') (hE.mods m') (hM.mods m') (by have:=mem_le ht;omega)
 have HNL:Hid ((linesP l).length<=1000001):=by have:=lines_len l;rw [Hid];omega
 have HPI:Hid (∀ e w' n,parseP (linesP l) false 0 []=.inr n->Mods Nil' w w'->e=.returned (.tuple #[.slice none 0 0,.int .i64 n])->ParseA w bs (parseP (linesP l) false 0 []) e w'):=fun e w' n h1 h2 h3=>by rw [h1];exact ⟨h3,h2⟩
 have HPO:Hid (∀ e w' u ls,parseP (linesP l) false 0 []=.inl ls->LnsAt w u bs ls w'->e=.returned (.tuple #[u,.int .i64 0])->ParseA w bs (parseP (linesP l) false 0 []) e w'):=fun e w' u ls h1 h2 h3=>by rw [h1];exact ⟨u,h3,h2⟩
 have HDR:Hid (∀ k (hk:k<(linesP l).length) inF n acc,parseP ((linesP l).drop k) inF n acc=match lineP (linesP l)[k] with
  | none=>.inr (n+1)
  | some x=>if (inF||x.kind==2)=false/\(x.kind=3\/x.kind=4) then .inr (n+1) else parseP ((linesP l).drop (k+1)) (inF||x.kind==2) (n+1) (acc++[x])):=fun k hk inF n acc=>parseP_drop _ k hk inF n acc
 obtain ⟨iP,hiP,hzP,hsP,hbP⟩:=info_parts info_pline;obtain ⟨vo,vc,rfl,_⟩:=hO.sl.view;generalize ParseA w bs (parseP (linesP l) false 0 [])=PA at *;clear hO m hE hM;generalize linesP l=ts at *
 have HP0:Hid (∃ pr,pr=parseP ts false 0 []):=⟨_,rfl⟩
 generalize hpr:parseP ts false 0 []=pr at *
 have HPR:=hid hpr;clear hpr HP0
 go_enter Tryz.func20,Tryz.ntmps20
 go_wp2_with fail;refine HSP.out.mono ?_;rintro e w1 ⟨nc,rfl,hw1⟩
 have HTB:Hid (Blk w1 w.heap.size (ts.map (fun t=>Value.string (T t))).toArray 9):=by rw [hw1];exact Blk.new w _ _
 have HA0:Hid (LnsAt w (.slice none 0 0) bs [] w1):=by rw [hw1];exact (LnsAt.nil w bs).quiet ((Mods.refl _ _).alloc _)
 have HM1:=hid HA0.out.md
 have HS1:Hid (w1.heap.size=w.heap.size+1):=by rw [Hid,hw1];simp
 clear hw1 HSP
 have hnl:=HNL.out
 go_wp2_with fail
 go_loopg [6,7,15] ts.length (fun q v6 v7 v15 wx=>∃ (k:Nat) (inF:Bool) (acc:List PLn),k<=ts.length/\v15=.int .i64 k/\v7=.bool inF/\LnsAt w v6 bs acc wx/\Mods Nil' w1 wx/\parseP (ts.drop k) inF k acc=pr/\acc.length=k/\q=ts.length - k)
 case atStart=>exact ⟨0,false,[],Nat.zero_le _,rfl,rfl,HA0.out,Mods.refl _ _,HPR.out,rfl,rfl⟩
 case round =>
  obtain ⟨k,inF,acc,hk,rfl,rfl,hA,hmk,hP,hak,rfl⟩:=hrel;have HA:=hid hA;have HP:=hid hP;have HMk:=hid hmk;have HAK:=hid hak;clear hA hP hmk hak HA0 HPR
  by_cases hlt:k<ts.length
  ·have t0:wr.cell? ⟨w.heap.size,k,none⟩=some (.string (T ts[k])):=by
    rw [(HTB.out.mods HMk.out id).cell k];simp [hlt]
   have HD:Hid (pr=match lineP ts[k] with
    | none=>.inr (k+1)
    | some x=>if (inF||x.kind==2)=false/\(x.kind=3\/x.kind=4) then .inr (k+1) else parseP (ts.drop (k+1)) (inF||x.kind==2) (k+1) (acc++[x])):=by rw [Hid,<- HP.out];exact HDR.out k hlt inF k acc
   have HL1:Hid (Calls Tryz.prog 42 #[.slice vo bs.length vc,.string (T ts[k])] wr fun e w''=>LinePost wr bs (lineP ts[k]) e w''):=HLN.out ts[k] wr (List.getElem_mem hlt) HA.out.md
   clear HDR HP;generalize ts[k]=t at *;go_wp2_with fail;refine HL1.out.mono ?_;intro e w2 hpo;obtain ⟨m2,hpo⟩:=hpo
   have HA2:Hid (LnsAt w u6 bs acc w2):=HA.out.quiet m2
   have HM2:Hid (Mods Nil' w1 w2):=HMk.out.trans m2
   clear m2 HA HMk HL1 t0
   cases hlp:lineP t with
   | none =>
    rw [hlp] at hpo;obtain ⟨kd,nm,a,b,c,op,dd,ss,jj,nn,hh,lb,nm2,ff,rfl⟩:=hpo
    have HE2:Hid (pr=.inr (k+1)):=by rw [Hid,HD.out,hlp]
    have HB2:Hid (Blk (w2.alloc (.cells (lnM 0 ⟨#[]⟩ num0 num0 num0) 102)) w2.heap.size (lnM 0 ⟨#[]⟩ num0 num0 num0) 102):=Blk.new w2 _ _
    have HCS:Hid ((lnC kd nm a b c (.pointer op) dd ss jj nn hh lb nm2 ff).size=20):=rfl
    have HC0:Hid ((lnC kd nm a b c (.pointer op) dd ss jj nn hh lb nm2 ff)[0]?=some (.int .i64 kd)):=rfl
    have HC1:Hid ((lnC kd nm a b c (.pointer op) dd ss jj nn hh lb nm2 ff).all (·.oneCell')=true):=lnC_one ..
    generalize lnC kd nm a b c (.pointer op) dd ss jj nn hh lb nm2 ff=cs at *
    go_upto_region 7 with (refine wpList_store_blk rfl 102 (.tmp 10) (.tmp 24) rfl w2.heap.size (cs) rfl rfl 102 _ HB2.out (by rw [HCS.out];kernel_rfl) (by rw [HCS.out];rfl) (HC1.out) ?_;intro W3 hB3 hm3)
    have HM3:Hid (Mods Nil' w W3):=HA2.out.md.trans hm3.fresh
    have c0:W3.cell? ⟨w2.heap.size,0,none⟩=some (.int .i64 kd):=(hB3.cell 0).trans HC0.out
    obtain ⟨q2,hq2⟩:∃ q2:Bool,((kd:Int)==2)=q2:=⟨_,rfl⟩
    clear hB3 hm3 HB2
    cases inF with
    | true =>
     go_wp2_with fail
     exact HPI.out _ _ (k+1) HE2.out HM3.out (by go_num)
    | false =>
     go_wp2_with fail
     exact HPI.out _ _ (k+1) HE2.out HM3.out (by go_num)
   | some x =>
    rw [hlp] at hpo
    have he:e=.returned (.tuple #[.agg (x.cells bs),.bool true]):=hpo
    subst he;clear hpo
    have HCS:Hid ((x.cells bs).size=20):=cells_size bs x
    have HC0:Hid ((x.cells bs)[0]?=some (.int .i64 x.kind)):=cells_kind bs x
    have HC1:Hid ((x.cells bs).all (·.oneCell')=true):=cells_one bs x
    have HD2:Hid (pr=if (inF||x.kind==2)=false/\(x.kind=3\/x.kind=4) then .inr (k+1) else parseP (ts.drop (k+1)) (inF||x.kind==2) (k+1) (acc++[x])):=by rw [Hid,HD.out,hlp]
    have HB2:Hid (Blk (w2.alloc (.cells (lnM 0 ⟨#[]⟩ num0 num0 num0) 102)) w2.heap.size (lnM 0 ⟨#[]⟩ num0 num0 num0) 102):=Blk.new w2 _ _
    have HAP:Hid (∀ (wA wB:World) (vB:Value),LnsAt w u6 bs acc wA->Sl wB 102 20 vB (acc.length+1) (acc.flatMap (fun x=>(x.cells bs).toList)++(x.cells bs).toList)->Mods (fun k=>u6.ownBlock=some k) wA wB->(∀ k,vB.ownBlock=some k->u6.ownBlock=some k\/wA.heap.size<=k)->LnsAt w vB bs (acc++[x]) wB):=fun wA wB vB h=>h.app
    clear HD hlp;generalize x.cells bs=cs at *
    go_upto_region 7 with (refine wpList_store_blk rfl 102 (.tmp 10) (.tmp 24) rfl w2.heap.size (cs) rfl rfl 102 _ HB2.out (by rw [HCS.out];kernel_rfl) (by rw [HCS.out];rfl) (HC1.out) ?_;intro W3 hB3 hm3)
    have HA3:Hid (LnsAt w u6 bs acc W3):=HA2.out.quiet hm3.fresh
    have HM3:Hid (Mods Nil' w1 W3):=HM2.out.trans hm3.fresh
    have HB3:=hid hB3
    have c0:W3.cell? ⟨w2.heap.size,0,none⟩=some (.int .i64 x.kind):=(hB3.cell 0).trans HC0.out
    clear hB3 hm3 HB2 HA2 HM2
    generalize hB:w2.heap.size=B at *
    have hcase:x.kind=2\/x.kind=3\/x.kind=4\/(x.kind≠2/\x.kind≠3/\x.kind≠4):=by omega
    rcases hcase with hk | hk | hk | hk
    ·have hb2:(x.kind==2)=true:=by rw [hk];rfl
     have q2:((x.kind:Int)==2)=true:=by rw [hk];rfl
     have q3:((x.kind:Int)==3)=false:=by rw [hk];rfl
     have q4:((x.kind:Int)==4)=false:=by rw [hk];rfl
     cases inF with
     | true =>
      have HE2:Hid (parseP (ts.drop (k+1)) true (k+1) (acc++[x])=pr):=by rw [Hid,HD2.out,if_neg (by rw [hb2];rintro ⟨h,_⟩;cases h),hb2];rfl
      clear HD2 hk;go_upto_region 10 with fail;obtain ⟨o6,c6,h6,_⟩:=HA3.out.sl.view
      have hal:=HAK.out
      have HA4:Hid (∀ os,LnsAt w u6 bs acc (W3.alloc os)):=fun os=>HA3.out.quiet ((Mods.refl _ _).alloc _)
      have HM4:Hid (∀ os,Mods Nil' w1 (W3.alloc os)):=fun os=>HM3.out.alloc _
      subst h6
      have HOn:Hid (∀ u∈cs.toList,u.oneCell'=true):=fun u hu=>by
       have:=HC1.out
       rw [Array.all_eq_true_iff_forall_mem] at this
       exact this u (by simpa using hu)
      go_wp2_with (first | (refine wpList_load_row rfl 102 (.tmp 10) rfl B rfl 102 cs (0,0) _ HB3.out Tryz.underlying102 rfl (by rw [HCS.out];kernel_rfl) ?_) | (refine wpList_build_line rfl (.tmp 51) rfl cs rfl HCS.out ?_) | (at_builtin;refine wpList_append_sl _ rfl (.tmp 50) (.tmp 52) 58 rfl 102 iP (.agg (lnM 0 ⟨#[]⟩ num0 num0 num0)) 20 160 Tryz.underlying58 hiP hzP hsP hbP rfl (by decide) (.slice o6 acc.length c6) acc.length (acc.flatMap (fun x=>(x.cells bs).toList)) rfl (HA4.out _).sl ⟨W3.heap.size,0,none⟩ 1 1 cs.toList rfl (by rw [Array.length_toList,HCS.out]) (news_cells _ _ _ _ rfl) HOn.out (by unfold maxLen;omega) (by omega) ?_;intro vA wA sA mA lA;have HAA:Hid (LnsAt w vA bs (acc++[x]) wA):=HAP.out _ _ _ (HA4.out _) sA mA lA;have HMA:Hid (Mods Nil' w1 wA):=(HM4.out _).step mA (fun i hi e=>by have h1:=HA3.out.own i e;have h2:=HS1.out;have h3:i=w.heap.size:=(by omega);subst h3;exact HA3.out.sl.notBlk (HTB.out.mods HM3.out id) (by decide) e);clear sA mA lA))
      go_roundg (ts.length - (k+1))
      case measure=>omega
      case rel=>exact ⟨k+1,true,acc++[x],by omega,by go_num,rfl,HAA.out,HMA.out,HE2.out,by simp [hal],rfl⟩
     | false =>
      have HE2:Hid (parseP (ts.drop (k+1)) true (k+1) (acc++[x])=pr):=by rw [Hid,HD2.out,if_neg (by rw [hb2];rintro ⟨h,_⟩;cases h),hb2];rfl
      clear HD2 hk;go_upto_region 10 with fail;obtain ⟨o6,c6,h6,_⟩:=HA3.out.sl.view
      have hal:=HAK.out
      have HA4:Hid (∀ os,LnsAt w u6 bs acc (W3.alloc os)):=fun os=>HA3.out.quiet ((Mods.refl _ _).alloc _)
      have HM4:Hid (∀ os,Mods Nil' w1 (W3.alloc os)):=fun os=>HM3.out.alloc _
      subst h6
      have HOn:Hid (∀ u∈cs.toList,u.oneCell'=true):=fun u hu=>by
       have:=HC1.out
       rw [Array.all_eq_true_iff_forall_mem] at this
       exact this u (by simpa using hu)
      go_wp2_with (first | (refine wpList_load_row rfl 102 (.tmp 10) rfl B rfl 102 cs (0,0) _ HB3.out Tryz.underlying102 rfl (by rw [HCS.out];kernel_rfl) ?_) | (refine wpList_build_line rfl (.tmp 51) rfl cs rfl HCS.out ?_) | (at_builtin;refine wpList_append_sl _ rfl (.tmp 50) (.tmp 52) 58 rfl 102 iP (.agg (lnM 0 ⟨#[]⟩ num0 num0 num0)) 20 160 Tryz.underlying58 hiP hzP hsP hbP rfl (by decide) (.slice o6 acc.length c6) acc.length (acc.flatMap (fun x=>(x.cells bs).toList)) rfl (HA4.out _).sl ⟨W3.heap.size,0,none⟩ 1 1 cs.toList rfl (by rw [Array.length_toList,HCS.out]) (news_cells _ _ _ _ rfl) HOn.out (by unfold maxLen;omega) (by omega) ?_;intro vA wA sA mA lA;have HAA:Hid (LnsAt w vA bs (acc++[x]) wA):=HAP.out _ _ _ (HA4.out _) sA mA lA;have HMA:Hid (Mods Nil' w1 wA):=(HM4.out _).step mA (fun i hi e=>by have h1:=HA3.out.own i e;have h2:=HS1.out;have h3:i=w.heap.size:=(by omega);subst h3;exact HA3.out.sl.notBlk (HTB.out.mods HM3.out id) (by decide) e);clear sA mA lA))
      go_roundg (ts.length - (k+1))
      case measure=>omega
      case rel=>exact ⟨k+1,true,acc++[x],by omega,by go_num,rfl,HAA.out,HMA.out,HE2.out,by simp [hal],rfl⟩
    ·have hb2:(x.kind==2)=false:=by rw [hk];rfl
     have q2:((x.kind:Int)==2)=false:=by rw [hk];rfl
     have q3:((x.kind:Int)==3)=true:=by rw [hk];rfl
     have q4:((x.kind:Int)==4)=false:=by rw [hk];rfl
     cases inF with
     | true =>
      have HE2:Hid (parseP (ts.drop (k+1)) true (k+1) (acc++[x])=pr):=by rw [Hid,HD2.out,if_neg (by rw [hb2];rintro ⟨h,_⟩;cases h),hb2];rfl
      clear HD2 hk;go_upto_region 10 with fail;obtain ⟨o6,c6,h6,_⟩:=HA3.out.sl.view
      have hal:=HAK.out
      have HA4:Hid (∀ os,LnsAt w u6 bs acc (W3.alloc os)):=fun os=>HA3.out.quiet ((Mods.refl _ _).alloc _)
      have HM4:Hid (∀ os,Mods Nil' w1 (W3.alloc os)):=fun os=>HM3.out.alloc _
      subst h6
      have HOn:Hid (∀ u∈cs.toList,u.oneCell'=true):=fun u hu=>by
       have:=HC1.out
       rw [Array.all_eq_true_iff_forall_mem] at this
       exact this u (by simpa using hu)
      go_wp2_with (first | (refine wpList_load_row rfl 102 (.tmp 10) rfl B rfl 102 cs (0,0) _ HB3.out Tryz.underlying102 rfl (by rw [HCS.out];kernel_rfl) ?_) | (refine wpList_build_line rfl (.tmp 51) rfl cs rfl HCS.out ?_) | (at_builtin;refine wpList_append_sl _ rfl (.tmp 50) (.tmp 52) 58 rfl 102 iP (.agg (lnM 0 ⟨#[]⟩ num0 num0 num0)) 20 160 Tryz.underlying58 hiP hzP hsP hbP rfl (by decide) (.slice o6 acc.length c6) acc.length (acc.flatMap (fun x=>(x.cells bs).toList)) rfl (HA4.out _).sl ⟨W3.heap.size,0,none⟩ 1 1 cs.toList rfl (by rw [Array.length_toList,HCS.out]) (news_cells _ _ _ _ rfl) HOn.out (by unfold maxLen;omega) (by omega) ?_;intro vA wA sA mA lA;have HAA:Hid (LnsAt w vA bs (acc++[x]) wA):=HAP.out _ _ _ (HA4.out _) sA mA lA;have HMA:Hid (Mods Nil' w1 wA):=(HM4.out _).step mA (fun i hi e=>by have h1:=HA3.out.own i e;have h2:=HS1.out;have h3:i=w.heap.size:=(by omega);subst h3;exact HA3.out.sl.notBlk (HTB.out.mods HM3.out id) (by decide) e);clear sA mA lA))
      go_roundg (ts.length - (k+1))
      case measure=>omega
      case rel=>exact ⟨k+1,true,acc++[x],by omega,by go_num,rfl,HAA.out,HMA.out,HE2.out,by simp [hal],rfl⟩
     | false =>
      have HE2:Hid (pr=.inr (k+1)):=by rw [Hid,HD2.out,if_pos (by rw [hb2];exact ⟨rfl,.inl hk⟩)]
      clear HD2 hk
      have HMw:Hid (Mods Nil' w W3):=HM1.out.trans HM3.out
      go_wp2_with fail
      exact HPI.out _ _ (k+1) HE2.out HMw.out (by go_num)
    ·have hb2:(x.kind==2)=false:=by rw [hk];rfl
     have q2:((x.kind:Int)==2)=false:=by rw [hk];rfl
     have q3:((x.kind:Int)==3)=false:=by rw [hk];rfl
     have q4:((x.kind:Int)==4)=true:=by rw [hk];rfl
     cases inF with
     | true =>
      have HE2:Hid (parseP (ts.drop (k+1)) true (k+1) (acc++[x])=pr):=by rw [Hid,HD2.out,if_neg (by rw [hb2];rintro ⟨h,_⟩;cases h),hb2];rfl
      clear HD2 hk;go_upto_region 10 with fail;obtain ⟨o6,c6,h6,_⟩:=HA3.out.sl.view
      have hal:=HAK.out
      have HA4:Hid (∀ os,LnsAt w u6 bs acc (W3.alloc os)):=fun os=>HA3.out.quiet ((Mods.refl _ _).alloc _)
      have HM4:Hid (∀ os,Mods Nil' w1 (W3.alloc os)):=fun os=>HM3.out.alloc _
      subst h6
      have HOn:Hid (∀ u∈cs.toList,u.oneCell'=true):=fun u hu=>by
       have:=HC1.out
       rw [Array.all_eq_true_iff_forall_mem] at this
       exact this u (by simpa using hu)
      go_wp2_with (first | (refine wpList_load_row rfl 102 (.tmp 10) rfl B rfl 102 cs (0,0) _ HB3.out Tryz.underlying102 rfl (by rw [HCS.out];kernel_rfl) ?_) | (refine wpList_build_line rfl (.tmp 51) rfl cs rfl HCS.out ?_) | (at_builtin;refine wpList_append_sl _ rfl (.tmp 50) (.tmp 52) 58 rfl 102 iP (.agg (lnM 0 ⟨#[]⟩ num0 num0 num0)) 20 160 Tryz.underlying58 hiP hzP hsP hbP rfl (by decide) (.slice o6 acc.length c6) acc.length (acc.flatMap (fun x=>(x.cells bs).toList)) rfl (HA4.out _).sl ⟨W3.heap.size,0,none⟩ 1 1 cs.toList rfl (by rw [Array.length_toList,HCS.out]) (news_cells _ _ _ _ rfl) HOn.out (by unfold maxLen;omega) (by omega) ?_;intro vA wA sA mA lA;have HAA:Hid (LnsAt w vA bs (acc++[x]) wA):=HAP.out _ _ _ (HA4.out _) sA mA lA;have HMA:Hid (Mods Nil' w1 wA):=(HM4.out _).step mA (fun i hi e=>by have h1:=HA3.out.own i e;have h2:=HS1.out;have h3:i=w.heap.size:=(by omega);subst h3;exact HA3.out.sl.notBlk (HTB.out.mods HM3.out id) (by decide) e);clear sA mA lA))
      go_roundg (ts.length - (k+1))
      case measure=>omega
      case rel=>exact ⟨k+1,true,acc++[x],by omega,by go_num,rfl,HAA.out,HMA.out,HE2.out,by simp [hal],rfl⟩
     | false =>
      have HE2:Hid (pr=.inr (k+1)):=by rw [Hid,HD2.out,if_pos (by rw [hb2];exact ⟨rfl,.inr hk⟩)]
      clear HD2 hk
      have HMw:Hid (Mods Nil' w W3):=HM1.out.trans HM3.out
      go_wp2_with fail
      exact HPI.out _ _ (k+1) HE2.out HMw.out (by go_num)
    ·have hb2:(x.kind==2)=false:=by simpa using hk.1
     have q2:((x.kind:Int)==2)=false:=by simp;omega
     have q3:((x.kind:Int)==3)=false:=by simp;omega
     have q4:((x.kind:Int)==4)=false:=by simp;omega
     cases inF with
     | true =>
      have HE2:Hid (parseP (ts.drop (k+1)) true (k+1) (acc++[x])=pr):=by rw [Hid,HD2.out,if_neg (by rw [hb2];rintro ⟨h,_⟩;cases h),hb2];rfl
      clear HD2 hk;go_upto_region 10 with fail;obtain ⟨o6,c6,h6,_⟩:=HA3.out.sl.view
      have hal:=HAK.out
      have HA4:Hid (∀ os,LnsAt w u6 bs acc (W3.alloc os)):=fun os=>HA3.out.quiet ((Mods.refl _ _).alloc _)
      have HM4:Hid (∀ os,Mods Nil' w1 (W3.alloc os)):=fun os=>HM3.out.alloc _
      subst h6
      have HOn:Hid (∀ u∈cs.toList,u.oneCell'=true):=fun u hu=>by
       have:=HC1.out
       rw [Array.all_eq_true_iff_forall_mem] at this
       exact this u (by simpa using hu)
      go_wp2_with (first | (refine wpList_load_row rfl 102 (.tmp 10) rfl B rfl 102 cs (0,0) _ HB3.out Tryz.underlying102 rfl (by rw [HCS.out];kernel_rfl) ?_) | (refine wpList_build_line rfl (.tmp 51) rfl cs rfl HCS.out ?_) | (at_builtin;refine wpList_append_sl _ rfl (.tmp 50) (.tmp 52) 58 rfl 102 iP (.agg (lnM 0 ⟨#[]⟩ num0 num0 num0)) 20 160 Tryz.underlying58 hiP hzP hsP hbP rfl (by decide) (.slice o6 acc.length c6) acc.length (acc.flatMap (fun x=>(x.cells bs).toList)) rfl (HA4.out _).sl ⟨W3.heap.size,0,none⟩ 1 1 cs.toList rfl (by rw [Array.length_toList,HCS.out]) (news_cells _ _ _ _ rfl) HOn.out (by unfold maxLen;omega) (by omega) ?_;intro vA wA sA mA lA;have HAA:Hid (LnsAt w vA bs (acc++[x]) wA):=HAP.out _ _ _ (HA4.out _) sA mA lA;have HMA:Hid (Mods Nil' w1 wA):=(HM4.out _).step mA (fun i hi e=>by have h1:=HA3.out.own i e;have h2:=HS1.out;have h3:i=w.heap.size:=(by omega);subst h3;exact HA3.out.sl.notBlk (HTB.out.mods HM3.out id) (by decide) e);clear sA mA lA))
      go_roundg (ts.length - (k+1))
      case measure=>omega
      case rel=>exact ⟨k+1,true,acc++[x],by omega,by go_num,rfl,HAA.out,HMA.out,HE2.out,by simp [hal],rfl⟩
     | false =>
      have HE2:Hid (parseP (ts.drop (k+1)) false (k+1) (acc++[x])=pr):=by rw [Hid,HD2.out,if_neg (by rintro ⟨_,h | h⟩;exact hk.2.1 h;exact hk.2.2 h),hb2];rfl
      clear HD2 hk;go_upto_region 10 with fail;obtain ⟨o6,c6,h6,_⟩:=HA3.out.sl.view
      have hal:=HAK.out
      have HA4:Hid (∀ os,LnsAt w u6 bs acc (W3.alloc os)):=fun os=>HA3.out.quiet ((Mods.refl _ _).alloc _)
      have HM4:Hid (∀ os,Mods Nil' w1 (W3.alloc os)):=fun os=>HM3.out.alloc _
      subst h6
      have HOn:Hid (∀ u∈cs.toList,u.oneCell'=true):=fun u hu=>by
       have:=HC1.out
       rw [Array.all_eq_true_iff_forall_mem] at this
       exact this u (by simpa using hu)
      go_wp2_with (first | (refine wpList_load_row rfl 102 (.tmp 10) rfl B rfl 102 cs (0,0) _ HB3.out Tryz.underlying102 rfl (by rw [HCS.out];kernel_rfl) ?_) | (refine wpList_build_line rfl (.tmp 51) rfl cs rfl HCS.out ?_) | (at_builtin;refine wpList_append_sl _ rfl (.tmp 50) (.tmp 52) 58 rfl 102 iP (.agg (lnM 0 ⟨#[]⟩ num0 num0 num0)) 20 160 Tryz.underlying58 hiP hzP hsP hbP rfl (by decide) (.slice o6 acc.length c6) acc.length (acc.flatMap (fun x=>(x.cells bs).toList)) rfl (HA4.out _).sl ⟨W3.heap.size,0,none⟩ 1 1 cs.toList rfl (by rw [Array.length_toList,HCS.out]) (news_cells _ _ _ _ rfl) HOn.out (by unfold maxLen;omega) (by omega) ?_;intro vA wA sA mA lA;have HAA:Hid (LnsAt w vA bs (acc++[x]) wA):=HAP.out _ _ _ (HA4.out _) sA mA lA;have HMA:Hid (Mods Nil' w1 wA):=(HM4.out _).step mA (fun i hi e=>by have h1:=HA3.out.own i e;have h2:=HS1.out;have h3:i=w.heap.size:=(by omega);subst h3;exact HA3.out.sl.notBlk (HTB.out.mods HM3.out id) (by decide) e);clear sA mA lA))
      go_roundg (ts.length - (k+1))
      case measure=>omega
      case rel=>exact ⟨k+1,false,acc++[x],by omega,by go_num,rfl,HAA.out,HMA.out,HE2.out,by simp [hal],rfl⟩
  ·have hke:k=ts.length:=by omega
   subst hke
   have HE2:Hid (pr=.inl acc):=by
    rw [Hid,<- HP.out,List.drop_length];rfl
   obtain ⟨o6,c6,h6,_⟩:=HA.out.sl.view;go_wp2_with fail;exact HPO.out _ _ _ acc HE2.out HA.out rfl
def MapN (w:World) (b:Nat) (f:ByteArray->Option Value) (n:Nat):Prop:=∃ (es:Array MapEntry) (clock:Nat) (kv:List (ByteArray × Value)),w.heap[b]?=some (.map es clock)/\es.toList.map entC=kv.map kvC/\(∀ s,(kv.find? (fun p=>s==p.1)).map (·.2)=f s)/\kv.length=n
theorem MapN.of {w:World} {b n:Nat} {f:ByteArray->Option Value} (h:MapN w b f n):MapOf w b f:=by
 obtain ⟨es,c,kv,h1,h2,h3,_⟩:=h
 exact ⟨es,c,kv,h1,h2,h3⟩
theorem MapN.new (w:World):MapN (w.alloc (.map #[] 0)) w.heap.size (fun _=>none) 0:=⟨#[],0,[],heap_alloc_new w _,rfl,fun _=>rfl,rfl⟩
theorem MapN.mods {w w':World} {b n:Nat} {f:ByteArray->Option Value} {S:Nat->Prop} (h:MapN w b f n) (m:Mods S w w') (hS:¬ S b):MapN w' b f n:=by
 have hl:=h.of.lt
 obtain ⟨es,clock,kv,hb,h2⟩:=h
 exact ⟨es,clock,kv,(m.block b hl hS).trans hb,h2⟩
theorem MapN.len {P:Program} {w:World} {b n:Nat} {f:ByteArray->Option Value} (h:MapN w b f n) {t kt et rt:TypeId} (hm:P.underlying t=some (.map kt et)) :
  (Builtin.len_ #[t] rt #[.map (some b)]).run P w=.ok (.int .i64 n) w:=by
 obtain ⟨es,clock,kv,hb,he,hf,hn⟩:=h
 have hs:es.size=n:=by
  have:=congrArg List.length he
  simp at this
  omega
 unfold Builtin.len_
 simp [run_underlying hm,MapKept.run_getObj_map hb,hs,goInt]
theorem MapOf.lookup1 {P:Program} {w:World} {b:Nat} {f:ByteArray->Option Value} (h:MapOf w b f) {t kt et:TypeId} (hm:P.underlying t=some (.map kt et)) (hk:P.underlying kt=some .string) {z:Value} (hz:(zeroValue et).run P w=.ok z w) (s:ByteArray) :
  (Instr.lookup t (.map (some b)) (.string s) false).run P w=.ok ((f s).getD z) w:=by
 obtain ⟨es,clock,kv,hb,he,hf⟩:=h
 have hc:(Instr.checkKey es.isEmpty 10000 kt (.string s)).run P w=.ok () w:=MapKept.run_checkKey (k:=.string s) hk (by simp [MapKept.IsKey]) _ 9999
 have hfn:=MapKept.run_findKey (P:=P) (w:=w) hk (findNow_str s es.toList kv 0 he)
 have hv:=kvFind_val s kv 0
 rw [hf s] at hv;unfold Instr.lookup
 simp only [Sem.run_bind,run_underlying hm,MapKept.run_getObj_map hb,hc,hfn,Result.andThen,Sem.run_pure]
 cases hq:kvFind s kv 0 with
 | none =>
  rw [hq] at hv;rw [<- hv]
  simp [hz,Result.andThen]
 | some q =>
  rw [hq] at hv;rw [<- hv]
  simp
theorem MapN.update {P:Program} {w:World} {b n:Nat} {f:ByteArray->Option Value} (h:MapN w b f n) {t kt et:TypeId} (hm:P.underlying t=some (.map kt et)) (hk:P.underlying kt=some .string) (s:ByteArray) (u:Value) :
  ∃ w',(Instr.mapUpdate t (.map (some b)) (.string s) u).run P w=.ok () w'/\MapN w' b (fun s'=>if s'=s then some u else f s') (if (f s).isSome then n else n+1)/\Mods (fun k=>k=b) w w':=by
 obtain ⟨es,clock,kv,hb,he,hf,hn⟩:=h
 have hlt:=(Array.getElem?_eq_some_iff.1 hb).1
 have hc:(Instr.checkKey false 10000 kt (.string s)).run P w=.ok () w:=MapKept.run_checkKey (k:=.string s) hk (by simp [MapKept.IsKey]) _ 9999
 have hfn:=MapKept.run_findKey (P:=P) (w:=w) hk (findNow_str s es.toList kv 0 he)
 have hmods:∀ o:Obj,Mods (fun k=>k=b) w { w with heap:=w.heap.setIfInBounds b o }:=fun o=>⟨rfl,rfl,rfl,by simp,fun k _ hn=>(MapKept.heap_set hb).2 k hn⟩
 have hv:=kvFind_val s kv 0
 rw [hf s] at hv
 cases hq:kvFind s kv 0 with
 | none =>
  rw [hq] at hfn hv
  have hno:(f s).isSome=false:=by rw [<- hv];rfl
  refine ⟨{ w with heap:=w.heap.setIfInBounds b (.map (es.push { key:=.string s,val:=u,born:=clock }) (clock+1)) },?_,⟨_,_,kv++[(s,u)],(MapKept.heap_set hb).1,?_,fun s'=>?_,by rw [hno,if_neg (by simp)];simp [hn]⟩,hmods _⟩
  ·unfold Instr.mapUpdate
   simp [run_underlying hm,MapKept.run_getObj_map hb,hc,hfn,MapKept.run_setObj_map _ hb,Result.andThen]
  ·simp [he,entC,kvC]
  ·have hn:=kvFind_none s kv 0 hq
   rw [List.find?_append]
   by_cases d:s'=s
   ·subst d;rw [hn]
    simp [ba_self]
   ·have d':(s'==s)=false:=ba_ne d
    show _=if s'=s then some u else f s'
    rw [if_neg d,<- hf s']
    cases kv.find? (fun p=>s'==p.1) with
    | none=>simp [d']
    | some q=>simp
 | some q =>
  obtain ⟨j,v⟩:=q;rw [hq] at hfn hv
  have hyes:(f s).isSome=true:=by rw [<- hv];rfl
  obtain ⟨n',e,hn',⟨v',hv'⟩,hs⟩:=kvFind_at s kv 0 j v hq
  rw [Nat.zero_add] at e;subst e
  have hjl:j<es.size:=by
   have:=congrArg List.length he
   simp at this
   omega
  have hej:entC es[j]=kvC (s,v'):=by
   have:=congrArg (fun l:List (Value × Value)=>l[j]?) he
   simp only [List.getElem?_map,hv',Option.map_some] at this
   rw [Array.getElem?_toList,Array.getElem?_eq_getElem hjl] at this
   simpa using this
  have hkey:es[j].key=.string s:=congrArg Prod.fst hej
  have hst:(Instr.keyThatStays (((es[j]?).map (·.key)).getD (.string s)) (.string s)).run P w=.ok (.string s) w:=by
   rw [Array.getElem?_eq_getElem hjl,Option.map_some,Option.getD_some,hkey]
   exact MapKept.run_keyThatStays (d:=.string) (by simp [MapKept.IsKey])
  refine ⟨{ w with heap:=w.heap.setIfInBounds b (.map (es.modify j fun e=>{ e with key:=.string s,val:=u }) clock) },?_,⟨_,_,kv.set j (s,u),(MapKept.heap_set hb).1,?_,fun s'=>?_,by rw [hyes,if_pos rfl];simp [hn]⟩,hmods _⟩
  ·unfold Instr.mapUpdate
   simp [run_underlying hm,MapKept.run_getObj_map hb,hc,hfn,hst,MapKept.run_setObj_map _ hb,Result.andThen]
  ·rw [List.map_set,<- he]
   refine List.ext_getElem (by simp) fun t h1 h2=>?_
   simp only [List.getElem_map,Array.getElem_toList,Array.getElem_modify,List.getElem_set]
   split
   ·rfl
   ·rfl
  ·rw [hs u s',hf s']
def cntF (l:List (List UInt8)) (s:ByteArray):Option Value:=if l.count (BL s)=0 then none else some (.int .i64 (l.count (BL s):Nat))
theorem cnt_push (l:List (List UInt8)) (x:List UInt8):(fun s'=>if s'=T x then some (Value.int .i64 ((l.count x:Nat)+1:Int)) else cntF l s')=cntF (x::l):=by
 funext s
 by_cases e:s=T x
 ·subst e
  have hb:BL (T x)=x:=by simp [BL,T]
  simp [cntF,hb]
 ·rw [if_neg e]
  have hne:x≠BL s:=fun h=>e (by rw [h,T_BL])
  simp [cntF,List.count_cons,hne]
def CntAt (w:World) (b:Nat) (l:List (List UInt8)):Prop:=∃ n,MapN w b (cntF l) n/\(l.Nodup->n=l.length)
theorem CntAt.mods {w w':World} {b:Nat} {l:List (List UInt8)} {S:Nat->Prop} (h:CntAt w b l) (m:Mods S w w') (hS:¬ S b):CntAt w' b l:=by
 obtain ⟨n,h1,h2⟩:=h
 exact ⟨n,h1.mods m hS,h2⟩
theorem CntAt.new (w:World):CntAt (w.alloc (.map #[] 0)) w.heap.size []:=⟨0,MapN.new w,fun _=>rfl⟩
theorem CntAt.lt {w:World} {b:Nat} {l:List (List UInt8)} (h:CntAt w b l):b<w.heap.size:=by obtain ⟨n,h1,_⟩:=h;exact h1.of.lt
theorem CntAt.notBlk {w:World} {b g:Nat} {l:List (List UInt8)} {cs:Array Value} {t:TypeId} (h:CntAt w b l) (hb:Blk w g cs t):g≠b:=by obtain ⟨n,h1,_⟩:=h;exact h1.of.notBlk hb
theorem CntAt.look {w:World} {b:Nat} {l:List (List UInt8)} (h:CntAt w b l) (x:List UInt8):(Instr.lookup 61 (.map (some b)) (.string (T x)) false).run Tryz.prog w=.ok (.int .i64 (l.count x:Nat)) w:=by
 obtain ⟨n,h1,_⟩:=h
 have:=h1.of.lookup1 (P:=Tryz.prog) (t:=61) Tryz.underlying61 Tryz.underlying9 (z:=.int .i64 0) (Tryz.zeroValue3 w) (T x)
 have hb:BL (T x)=x:=by simp [BL,T]
 rw [this,cntF,hb]
 by_cases e:l.count x=0
 ·rw [if_pos e,e];rfl
 ·rw [if_neg e];rfl
theorem CntAt.put {w:World} {b:Nat} {l:List (List UInt8)} (h:CntAt w b l) (x:List UInt8):∃ w',(Instr.mapUpdate 61 (.map (some b)) (.string (T x)) (.int .i64 ((l.count x:Nat)+1:Int))).run Tryz.prog w=.ok () w'/\CntAt w' b (x::l)/\Mods (fun k=>k=b) w w':=by
 obtain ⟨n,h1,h2⟩:=h
 obtain ⟨w',r1,r2,r3⟩:=h1.update (P:=Tryz.prog) (t:=61) Tryz.underlying61 Tryz.underlying9 (T x) (.int .i64 ((l.count x:Nat)+1:Int))
 rw [cnt_push] at r2
 refine ⟨w',r1,⟨_,r2,fun hn=>?_⟩,r3⟩
 have hb:BL (T x)=x:=by simp [BL,T]
 obtain ⟨hx,hl⟩:=List.nodup_cons.1 hn
 have hc:l.count x=0:=List.count_eq_zero.2 hx
 rw [cntF,hb,if_pos hc]
 simp [h2 hl]
theorem CntAt.size {w:World} {b:Nat} {l:List (List UInt8)} (h:CntAt w b l) (hn:l.Nodup):(Builtin.len_ #[61] 3 #[.map (some b)]).run Tryz.prog w=.ok (.int .i64 (l.length:Nat)) w:=by
 obtain ⟨n,h1,h2⟩:=h;rw [<- h2 hn];exact h1.len Tryz.underlying61
structure OFn where
 slots:Nat:=0
 ends:Bool:=false
 labs:List (List UInt8 × Nat):=[]
def labOf (l:List (List UInt8 × Nat)) (x:List UInt8):Option Nat:=(l.find? (fun p=>p.1==x)).map (·.2)
structure OL where
 maps:List (List UInt8):=[]
 fs:List OFn:=[]
def OL.last (o:OL):OFn:=o.fs.getD (o.fs.length - 1) {}
def OL.onLast (o:OL) (f:OFn):OL:={ o with fs:=o.fs.set (o.fs.length - 1) f }
def OFn.label (f:OFn) (x:List UInt8):OFn:=if (labOf f.labs x).isSome then f else { f with labs:=f.labs++[(x,f.slots)] }
def OFn.code (f:OFn) (op:OpS):OFn:={ f with slots:=f.slots+op.slots,ends:=op.ends }
def outStep (o:OL) (x:PLn):OL :=
 if x.kind=1 then { o with maps:=x.name::o.maps }
 else if x.kind=2 then { o with fs:=o.fs++[{}] }
 else if x.kind=3 then o.onLast (o.last.label x.name)
 else if x.kind=4 then o.onLast (o.last.code x.x.o)
 else o
def outlineP (ls:List PLn):OL:=ls.foldl outStep {}
theorem outline_step (ls:List PLn) (k:Nat) (h:k<ls.length):outlineP (ls.take (k+1))=outStep (outlineP (ls.take k)) ls[k]:=by
 unfold outlineP
 rw [List.take_succ_eq_append_getElem h,List.foldl_append];rfl
def InF (ls:List PLn):Prop:=∀ k (h:k<ls.length),(ls[k].kind=3\/ls[k].kind=4)->(outlineP (ls.take k)).fs≠[]
def labF (l:List (List UInt8 × Nat)) (s:ByteArray):Option Value:=(labOf l (BL s)).map (fun n=>.int .i64 (n:Nat))
def LbsAt (w:World) (b:Nat) (l:List (List UInt8 × Nat)):Prop:=MapOf w b (labF l)
theorem lab_push (l:List (List UInt8 × Nat)) (x:List UInt8) (n:Nat) (h:(labOf l x).isSome=false):(fun s'=>if s'=T x then some (Value.int .i64 (n:Nat)) else labF l s')=labF (l++[(x,n)]):=by
 funext s
 have hb:BL (T x)=x:=by simp [BL,T]
 unfold labF labOf at *
 rw [List.find?_append]
 by_cases e:s=T x
 ·subst e;rw [if_pos rfl,hb]
  cases hf:l.find? (fun p=>p.1==x) with
  | some q=>rw [hf] at h;cases h
  | none=>simp
 ·rw [if_neg e]
  have hne:(x==BL s)=false:=by
   rw [beq_eq_false_iff_ne];exact fun h=>e (by rw [h,T_BL])
  cases l.find? (fun p=>p.1==BL s) with
  | some q=>simp
  | none=>simp [hne]
theorem LbsAt.look {w:World} {b:Nat} {l:List (List UInt8 × Nat)} (h:LbsAt w b l) (x:List UInt8):(Instr.lookup 61 (.map (some b)) (.string (T x)) true).run Tryz.prog w=.ok (.tuple #[.int .i64 ((labOf l x).getD 0:Nat),.bool (labOf l x).isSome]) w:=by
 have:=MapOf.lookup (P:=Tryz.prog) h (t:=61) Tryz.underlying61 Tryz.underlying9 (z:=.int .i64 0) (Tryz.zeroValue3 w) (T x)
 have hb:BL (T x)=x:=by simp [BL,T]
 rw [this,labF,hb]
 cases labOf l x<;>rfl
theorem LbsAt.look1 {w:World} {b:Nat} {l:List (List UInt8 × Nat)} (h:LbsAt w b l) (x:List UInt8):(Instr.lookup 61 (.map (some b)) (.string (T x)) false).run Tryz.prog w=.ok (.int .i64 ((labOf l x).getD 0:Nat)) w:=by
 have:=MapOf.lookup1 (P:=Tryz.prog) h (t:=61) Tryz.underlying61 Tryz.underlying9 (z:=.int .i64 0) (Tryz.zeroValue3 w) (T x)
 have hb:BL (T x)=x:=by simp [BL,T]
 rw [this,labF,hb]
 cases labOf l x<;>rfl
theorem LbsAt.put {w:World} {b:Nat} {l:List (List UInt8 × Nat)} (h:LbsAt w b l) (x:List UInt8) (n:Nat) (hx:(labOf l x).isSome=false):∃ w',(Instr.mapUpdate 61 (.map (some b)) (.string (T x)) (.int .i64 n)).run Tryz.prog w=.ok () w'/\LbsAt w' b (l++[(x,n)])/\Mods (fun k=>k=b) w w':=by
 obtain ⟨w',r1,r2,r3⟩:=MapOf.update (P:=Tryz.prog) h (t:=61) Tryz.underlying61 Tryz.underlying9 (T x) (.int .i64 n)
 rw [lab_push l x n hx] at r2
 exact ⟨w',r1,r2,r3⟩
def fnRow (b:Nat) (f:OFn):List Value:=[.int .i64 f.slots,.bool f.ends,.map (some b)]
def fnRows (lb:List Nat) (fs:List OFn):List Value:=(lb.zip fs).flatMap (fun x=>fnRow x.1 x.2)
structure OutAt (w0:World) (bm:Nat) (vF:Value) (lb:List Nat) (o:OL) (w:World):Prop where
 len:lb.length=o.fs.length
 maps:CntAt w bm o.maps
 sl:Sl w 106 3 vF o.fs.length (fnRows lb o.fs)
 labs:∀ i (h:i<o.fs.length),LbsAt w (lb[i]?.getD 0) o.fs[i].labs
 nd:(bm::lb).Nodup
 lo:∀ b∈bm::lb,w0.heap.size<=b
 own:∀ k,vF.ownBlock=some k->w0.heap.size<=k
 md:Mods Nil' w0 w
theorem OutAt.quiet {w0 w w':World} {bm:Nat} {vF:Value} {lb:List Nat} {o:OL} (h:OutAt w0 bm vF lb o w) (m:Mods Nil' w w'):OutAt w0 bm vF lb o w' :=
 ⟨h.len,h.maps.mods m id,h.sl.mods m (fun _ _=>id),fun i hi=>MapOf.mods (h.labs i hi) m id,h.nd,h.lo,h.own,h.md.trans m⟩
theorem OutAt.new (w0 w:World) (m:Mods Nil' w0 w):OutAt w0 w.heap.size (.slice none 0 0) [] {} (w.alloc (.map #[] 0)) :=
 ⟨rfl,CntAt.new w,Sl.nil _ _ _,fun i h=>absurd h (Nat.not_lt_zero _),by simp,fun b hb=>by
  have:b=w.heap.size:=by simpa using hb
  rw [this];exact m.size,fun k h=>(by cases h),m.alloc _⟩
theorem MapOf.notSl {w:World} {b:Nat} {f:ByteArray->Option Value} (h:MapOf w b f) {e:TypeId} {size n:Nat} {v:Value} {xs:List Value} (hs:Sl w e size v n xs):v.ownBlock≠some b:=fun hk=>by
 rcases hs.2 with ⟨h0,_⟩ | ⟨g,cap,cur,h0,_,hg,_⟩
 ·rw [h0] at hk;cases hk
 ·rw [h0] at hk;cases hk
  exact h.notBlk hg rfl
theorem OutAt.map {w0 w w':World} {bm:Nat} {vF:Value} {lb:List Nat} {o:OL} {x:List UInt8} (h:OutAt w0 bm vF lb o w) (hc:CntAt w' bm (x::o.maps)) (m:Mods (fun k=>k=bm) w w'):OutAt w0 bm vF lb { o with maps:=x::o.maps } w':=by
 have hnd:=List.nodup_cons.1 h.nd
 refine ⟨h.len,hc,h.sl.mods m (fun k hk e=>?_),fun i hi=>MapOf.mods (h.labs i hi) m (fun e=>hnd.1 ?_),h.nd,h.lo,h.own,h.md.step m (fun i hi e=>?_)⟩
 ·obtain ⟨n,h1,_⟩:=h.maps
  have e':k=bm:=e
  exact h1.of.notSl h.sl (by rw [hk,e'])
 ·have hl:i<lb.length:=by rw [h.len];exact hi
  rw [List.getElem?_eq_getElem hl] at e
  exact e ▸ List.getElem_mem hl
 ·have:=h.lo bm (by simp)
  omega
theorem fnRows_app (lb:List Nat) (fs:List OFn) (h:lb.length=fs.length) (b:Nat) (f:OFn):fnRows (lb++[b]) (fs++[f])=fnRows lb fs++fnRow b f:=by
 unfold fnRows;rw [List.zip_append h,List.flatMap_append]
 simp
theorem OutAt.func {w0 w w':World} {bm bN:Nat} {vF vF':Value} {lb:List Nat} {o:OL} (h:OutAt w0 bm vF lb o w) (hN:LbsAt w bN []) (hlo:w0.heap.size<=bN) (hnew:bN ∉ bm::lb)
  (s:Sl w' 106 3 vF' (o.fs.length+1) (fnRows lb o.fs++fnRow bN ({}:OFn))) (m:Mods (fun k=>vF.ownBlock=some k) w w') (lv:∀ k,vF'.ownBlock=some k->vF.ownBlock=some k\/w.heap.size<=k):OutAt w0 bm vF' (lb++[bN]) { o with fs:=o.fs++[({}:OFn)] } w':=by
 refine ⟨by simp [h.len],?_,?_,fun i hi=>?_,?_,fun b hb=>?_,fun k hk=>?_,h.md.step m (fun i hi e=>by have:=h.own i e;omega)⟩
 ·obtain ⟨n,h1,h2⟩:=h.maps
  exact ⟨n,h1.mods m (fun e=>h1.of.notSl h.sl e),h2⟩
 ·show Sl w' 106 3 vF' (o.fs++[({}:OFn)]).length (fnRows (lb++[bN]) (o.fs++[({}:OFn)]))
  rw [fnRows_app _ _ h.len,List.length_append,List.length_singleton];exact s
 ·have hi':i<o.fs.length+1:=by simpa using hi
  rcases Nat.lt_or_ge i o.fs.length with e | e
  ·have e1:(lb++[bN])[i]?.getD 0=lb[i]?.getD 0:=by
    rw [List.getElem?_append_left (by rw [h.len];exact e)]
   have e2:(o.fs++[({}:OFn)])[i]'hi=o.fs[i]:=List.getElem_append_left e
   have hl:=h.labs i e
   show LbsAt w' ((lb++[bN])[i]?.getD 0) ((o.fs++[({}:OFn)])[i]'hi).labs
   rw [e1,e2]
   exact MapOf.mods hl m (fun e'=>MapOf.notSl hl h.sl e')
  ·have e3:i=o.fs.length:=by omega
   subst e3
   have e1:(lb++[bN])[o.fs.length]?.getD 0=bN:=by
    rw [List.getElem?_append_right (by rw [h.len];exact Nat.le_refl _),h.len,Nat.sub_self];rfl
   have e2:(o.fs++[({}:OFn)])[o.fs.length]'hi={}:=by simp
   show LbsAt w' ((lb++[bN])[o.fs.length]?.getD 0) ((o.fs++[({}:OFn)])[o.fs.length]'hi).labs
   rw [e1,e2]
   exact MapOf.mods hN m (fun e'=>MapOf.notSl hN h.sl e')
 ·have:=h.nd
  rw [<- List.cons_append,List.nodup_append]
  exact ⟨this,by simp,fun a ha b hb e=>hnew (by
   have hb':b=bN:=by simpa using hb
   rw [<- hb',<- e];exact ha)⟩
 ·have hb':b=bm\/b∈lb\/b=bN:=by simpa using hb
  rcases hb' with e | e | e
  ·exact h.lo b (by simp [e])
  ·exact h.lo b (by simp [e])
  ·rw [e];exact hlo
 ·rcases lv k hk with e | e
  ·exact h.own k e
  ·have:=h.md.size;omega
theorem last_get {o:OL} (h:o.fs≠[]):∃ hl:o.fs.length - 1<o.fs.length,o.last=o.fs[o.fs.length - 1]:=by
 have hp:0<o.fs.length:=List.length_pos_iff.2 h
 refine ⟨by omega,?_⟩
 unfold OL.last
 rw [List.getD_eq_getElem?_getD,List.getElem?_eq_getElem (by omega)];rfl
theorem nodup_inj {l:List Nat} (h:l.Nodup) {i j:Nat} (hi:i<l.length) (hj:j<l.length) (e:l[i]=l[j]):i=j:=by
 rw [List.nodup_iff_pairwise_ne,List.pairwise_iff_getElem] at h
 rcases Nat.lt_trichotomy i j with d | d | d
 ·exact absurd e (h i j hi hj d)
 ·exact d
 ·exact absurd e.symm (h j i hj hi d)
theorem OutAt.lab {w0 w w':World} {bm:Nat} {vF:Value} {lb:List Nat} {o:OL} {l':List (List UInt8 × Nat)} (h:OutAt w0 bm vF lb o w) (hne:o.fs≠[]) (hL:LbsAt w' (lb[o.fs.length - 1]?.getD 0) l') (m:Mods (fun k=>k=lb[o.fs.length - 1]?.getD 0) w w'):OutAt w0 bm vF lb (o.onLast { o.last with labs:=l' }) w':=by
 obtain ⟨hl,hg⟩:=last_get hne
 have hlb:o.fs.length - 1<lb.length:=by rw [h.len];exact hl
 have hel:lb[o.fs.length - 1]?.getD 0=lb[o.fs.length - 1]:=by rw [List.getElem?_eq_getElem hlb];rfl
 have hnd:=List.nodup_cons.1 h.nd
 have hlast:=h.labs (o.fs.length - 1) hl
 refine ⟨by simp [OL.onLast,h.len],?_,?_,fun i hi=>?_,h.nd,h.lo,h.own,h.md.step m (fun i hi e=>?_)⟩
 ·exact h.maps.mods m (fun e=>hnd.1 (by rw [e,hel];exact List.getElem_mem hlb))
 ·have hr:fnRows lb (o.onLast { o.last with labs:=l' }).fs=fnRows lb o.fs:=by
   unfold fnRows OL.onLast
   have:(lb.zip (o.fs.set (o.fs.length - 1) { o.last with labs:=l' })).map (fun x=>fnRow x.1 x.2)=(lb.zip o.fs).map (fun x=>fnRow x.1 x.2):=by
    apply List.ext_getElem
    ·simp
    ·intro j h1 h2
     simp only [List.getElem_map,List.getElem_zip,List.getElem_set]
     split
     ·rename_i e;subst e
      have hs:o.last.slots=o.fs[o.fs.length - 1].slots:=by rw [hg]
      have he:o.last.ends=o.fs[o.fs.length - 1].ends:=by rw [hg]
      simp only [fnRow,hs,he]
     ·rfl
   rw [List.flatMap_def,List.flatMap_def,this]
  rw [hr]
  have:=h.sl.mods m (fun k hk e=>by have e':k=lb[o.fs.length - 1]?.getD 0:=e;exact MapOf.notSl hlast h.sl (by rw [hk,e']))
  simpa [OL.onLast] using this
 ·have hi':i<o.fs.length:=by simpa [OL.onLast] using hi
  have e2:(o.onLast { o.last with labs:=l' }).fs[i]'hi=if o.fs.length - 1=i then { o.last with labs:=l' } else o.fs[i]:=by
   simp only [OL.onLast,List.getElem_set]
  rw [e2]
  split
  ·rename_i e;subst e;exact hL
  ·rename_i e
   refine MapOf.mods (h.labs i hi') m (fun e'=>e ?_)
   have hil:i<lb.length:=by rw [h.len];exact hi'
   rw [List.getElem?_eq_getElem hil,hel] at e'
   exact (nodup_inj hnd.2 hil hlb e').symm
 ·have:=h.lo (lb[o.fs.length - 1]) (by simp)
  rw [hel] at e
  omega
theorem OutAt.row {w0 w w':World} {bm g cap:Nat} {lb:List Nat} {o:OL} {f:OFn} (h:OutAt w0 bm (.slice (some ⟨g,0,none⟩) o.fs.length cap) lb o w) (hne:o.fs≠[]) (hf:f.labs=o.last.labs)
  (hw:w'=(w.setCell ⟨g,(o.fs.length - 1)*3,none⟩ (.int .i64 f.slots)).setCell ⟨g,(o.fs.length - 1)*3+1,none⟩ (.bool f.ends)):OutAt w0 bm (.slice (some ⟨g,0,none⟩) o.fs.length cap) lb (o.onLast f) w':=by
 obtain ⟨hl,hg⟩:=last_get hne
 have hlb:o.fs.length - 1<lb.length:=by rw [h.len];exact hl
 have hown:w0.heap.size<=g:=h.own g rfl
 have m:Mods (Only g) w w':=by rw [hw];exact ((Mods.refl _ _).setb _ _).setb _ _
 have hz:(lb.zip o.fs).length=o.fs.length:=by simp [h.len]
 have hzi:o.fs.length - 1<(lb.zip o.fs).length:=by rw [hz];exact hl
 refine ⟨by simp [OL.onLast,h.len],?_,?_,fun i hi=>?_,h.nd,h.lo,h.own,h.md.step m (fun i hi e=>by have:i=g:=e;omega)⟩
 ·obtain ⟨n,h1,h2⟩:=h.maps
  exact ⟨n,h1.mods m (fun e=>h1.of.notSl h.sl (by have:bm=g:=e;rw [this];rfl)),h2⟩
 ·have s1:=h.sl.setAt ((o.fs.length - 1)*3) (.int .i64 f.slots) (by omega)
  have s2:=s1.setAt ((o.fs.length - 1)*3+1) (.bool f.ends) (by omega)
  have hr:((fnRows lb o.fs).set ((o.fs.length - 1)*3) (.int .i64 f.slots)).set ((o.fs.length - 1)*3+1) (.bool f.ends)=fnRows lb (o.onLast f).fs:=by
   unfold fnRows OL.onLast
   have e1:=flat_set (fun x:Nat × OFn=>fnRow x.1 x.2) 3 (fun _=>rfl) (lb.zip o.fs) (o.fs.length - 1) 0 hzi (by omega) (.int .i64 f.slots) (lb[o.fs.length - 1],{ o.last with slots:=f.slots }) (by rw [hg];simp [fnRow])
   rw [Nat.add_zero] at e1;rw [e1]
   have e2:=flat_set (fun x:Nat × OFn=>fnRow x.1 x.2) 3 (fun _=>rfl) ((lb.zip o.fs).set (o.fs.length - 1) (lb[o.fs.length - 1],{ o.last with slots:=f.slots })) (o.fs.length - 1) 1 (by simpa using hzi) (by omega) (.bool f.ends) (lb[o.fs.length - 1],f) (by simp [fnRow])
   rw [e2,List.set_set]
   congr 1
   apply List.ext_getElem
   ·simp
   ·intro j h1 h2
    simp only [List.getElem_set,List.getElem_zip]
    split
    ·rename_i e;subst e;simp
    ·rename_i e;simp
  rw [hw,<- hr]
  have hle:(o.onLast f).fs.length=o.fs.length:=by simp [OL.onLast]
  rw [hle];exact s2
 ·have hi':i<o.fs.length:=by simpa [OL.onLast] using hi
  have hli:=h.labs i hi'
  have e2:((o.onLast f).fs[i]'hi).labs=o.fs[i].labs:=by
   simp only [OL.onLast,List.getElem_set]
   split
   ·rename_i e;subst e;rw [hf,hg]
   ·rfl
  rw [e2]
  exact MapOf.mods hli m (fun e=>MapOf.notSl hli h.sl (by have:lb[i]?.getD 0=g:=e;rw [this];rfl))
end Go.Proofs.YtnhcaifopaeohaaGreatDoor
