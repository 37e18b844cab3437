import Derived.Test.YtnhcaifopaeohaaGreatDoorM21
import Derived.Test.YtnhcaifopaeohaaGreatDoorM14
import Derived.Test.YtnhcaifopaeohaaGreatDoorM22
namespace Go.Proofs.YtnhcaifopaeohaaGreatDoor
open Go.RowKit
set_option linter.all false
def PRd (w:World) (b:Nat) (q:PR):Prop:=Blk w b #[.string (T q.rest),.bool q.bad] 124
set_option maxHeartbeats 400000 in
theorem want_any (b:Nat) (q:PR) (c:Bool) (w:World) (h:PRd w b q):Calls Tryz.prog 57 #[.pointer (some ⟨b,0,none⟩),.bool c] w fun e w'=>e=.returned (.tuple #[])/\PRd w' b (wantP c q)/\Mods (Only b) w w':=by
 obtain ⟨l,bad⟩:=q
 have c1:=Blk.cell h 1
 have f1:=Blk.frozen h 1
 simp at c1
 cases bad with
 | true =>
  go_enter Tryz.func57,Tryz.ntmps57
  go_wp2_with fail
  go_end0
  exact ⟨rfl,Blk.set h 1 _,(Mods.refl _ _).setb 1 _⟩
 | false =>
  cases c
  all_goals
   go_enter Tryz.func57,Tryz.ntmps57
   go_wp2_with fail
   go_end0
   exact ⟨rfl,Blk.set h 1 _,(Mods.refl _ _).setb 1 _⟩
set_option maxHeartbeats 400000 in
theorem take_any (b:Nat) (q:PR) (n:Nat) (w:World) (h:PRd w b q) (hl:q.rest.length<=maxLen) (hn:n<=maxLen):Calls Tryz.prog 58 #[.pointer (some ⟨b,0,none⟩),.int .i64 n] w fun e w'=>e=.returned (.string (T (takeP n q).1))/\PRd w' b (takeP n q).2/\Mods (Only b) w w':=by
 unfold maxLen at hl hn;obtain ⟨l,bad⟩:=q
 simp only at hl
 have hs:(T l).size=l.length:=T_size l
 have c0:=Blk.cell h 0
 have f0:=Blk.frozen h 0
 have c1:=Blk.cell h 1
 have f1:=Blk.frozen h 1
 simp at c0 c1
 by_cases hlt:l.length<n
 ·have HE:Hid (takeP n ⟨l,bad⟩=(l,⟨[],true⟩)):=by simp [Hid,takeP,hlt]
  have h2:=Blk.set h 1 (.bool true)
  have z0:=h2.cell 0
  have g0:=h2.frozen 0
  simp at z0
  have e1:(T l).extract 0 l.length=T l:=by rw [T_take,List.take_length]
  have e2:(T l).extract l.length l.length=T []:=by
   have:=T_drop l l.length
   rw [hs,List.drop_length] at this;exact this
  go_enter Tryz.func58,Tryz.ntmps58
  go_wp2_with fail;go_ret;rw [HE.out]
  exact ⟨rfl,h2.set 0 _,((Mods.refl _ _).setb 1 _).setb 0 _⟩
 ·have HE:Hid (takeP n ⟨l,bad⟩=(l.take n,⟨l.drop n,bad⟩)):=by simp [Hid,takeP,hlt]
  have e1:(T l).extract 0 n=T (l.take n):=T_take l n
  have e2:(T l).extract n l.length=T (l.drop n):=by
   have:=T_drop l n
   rw [hs] at this;exact this
  go_enter Tryz.func58,Tryz.ntmps58
  go_wp2_with fail;go_ret;rw [HE.out]
  exact ⟨rfl,Blk.set h 0 _,(Mods.refl _ _).setb 0 _⟩
set_option maxHeartbeats 400000 in
theorem one_any (b:Nat) (q:PR) (w:World) (h:PRd w b q) (hl:q.rest.length<=maxLen):Calls Tryz.prog 59 #[.pointer (some ⟨b,0,none⟩)] w fun e w'=>e=.returned (.int .i64 ((oneP q).1:Nat))/\PRd w' b (oneP q).2/\Mods (Only b) w w':=by
 obtain ⟨l,bad⟩:=q
 cases l with
 | nil =>
  have HE:Hid (takeP 1 ⟨[],bad⟩=([],⟨[],true⟩)):=rfl
  have he:=T_isEmpty_nil
  go_enter Tryz.func59,Tryz.ntmps59
  go_wp2_with fail
  refine (take_any b ⟨[],bad⟩ 1 _ h hl (by unfold maxLen;decide)).mono ?_
  rw [HE.out];rintro e w1 ⟨rfl,h1,m1⟩;go_wp2_with fail;go_ret
  exact ⟨rfl,h1,m1⟩
 | cons c l =>
  have HE:Hid (takeP 1 ⟨c::l,bad⟩=([c],⟨l,bad⟩)):=by simp [Hid,takeP]
  have he:=T_isEmpty_cons c []
  have hs:(T [c]).size=1:=rfl
  have hg:(T [c])[0]=c:=rfl
  have hc:=c.toNat_lt
  go_enter Tryz.func59,Tryz.ntmps59
  go_wp2_with fail
  refine (take_any b ⟨c::l,bad⟩ 1 _ h hl (by unfold maxLen;decide)).mono ?_
  rw [HE.out];rintro e w1 ⟨rfl,h1,m1⟩;go_wp2_with fail;go_ret
  exact ⟨rfl,h1,m1⟩
theorem or_lo8 (a b:Nat) (ha:a<256) (hb:b<256):bits .or .i64 (a:Int) ((b:Int)*256)=((a+256*b:Nat):Int):=by
 have h:=(bits_nat .i64 16 (by decide) (fun n h0 h1=>by rw [IntKind.wrap_i64];omega) a (b*256) (by omega) (by omega)).2
 have e:=Nat.two_pow_add_eq_or_of_lt (i:=8) (show a<2 ^ 8 from ha) b
 have e3:((b*256:Nat):Int)=(b:Int)*256:=by simp
 have e4:a ||| b*256=a+256*b:=by
  rw [Nat.or_comm,Nat.mul_comm b 256]
  exact e.symm.trans (Nat.add_comm _ _)
 rw [e3,e4] at h;exact h
theorem one_lt (q:PR):(oneP q).1<256:=by
 unfold oneP;split
 ·decide
 ·exact UInt8.toNat_lt _
theorem one_len (q:PR):(oneP q).2.rest.length<=q.rest.length:=by
 unfold oneP;split
 ·simp
 ·rename_i b l h;rw [h];simp
theorem take_len (n:Nat) (q:PR):(takeP n q).2.rest.length<=q.rest.length:=by
 unfold takeP;split
 ·simp
 ·simp
theorem two_len (q:PR):(twoP q).2.rest.length<=q.rest.length:=Nat.le_trans (one_len _) (one_len _)
theorem name_len (q:PR):(nameP q).2.rest.length<=q.rest.length:=Nat.le_trans (take_len _ _) (one_len _)
theorem size_len (m:Nat) (q:PR):(sizeP m q).2.rest.length<=q.rest.length:=one_len _
set_option maxHeartbeats 400000 in
theorem two_any (b:Nat) (q:PR) (w:World) (h:PRd w b q) (hl:q.rest.length<=maxLen):Calls Tryz.prog 62 #[.pointer (some ⟨b,0,none⟩)] w fun e w'=>e=.returned (.int .i64 ((twoP q).1:Nat))/\PRd w' b (twoP q).2/\Mods (Only b) w w':=by
 have hl2:=Nat.le_trans (one_len q) hl
 have H1:Hid (∀ w,PRd w b q->Calls Tryz.prog 59 #[.pointer (some ⟨b,0,none⟩)] w fun e w'=>e=.returned (.int .i64 ((oneP q).1:Nat))/\PRd w' b (oneP q).2/\Mods (Only b) w w'):=fun w h=>one_any b q w h hl
 have H2:Hid (∀ w,PRd w b (oneP q).2->Calls Tryz.prog 59 #[.pointer (some ⟨b,0,none⟩)] w fun e w'=>e=.returned (.int .i64 ((oneP (oneP q).2).1:Nat))/\PRd w' b (oneP (oneP q).2).2/\Mods (Only b) w w'):=fun w h=>one_any b _ w h hl2
 have l1:=one_lt q
 have l2:=one_lt (oneP q).2
 rw [show twoP q=((oneP q).1+256*(oneP (oneP q).2).1,(oneP (oneP q).2).2) from rfl]
 generalize oneP (oneP q).2=r2 at *;generalize oneP q=r1 at *;obtain ⟨a1,q1⟩:=r1;obtain ⟨a2,q2⟩:=r2;simp only at *
 have hor:=or_lo8 _ _ l1 l2
 go_enter Tryz.func62,Tryz.ntmps62
 go_wp2_with fail
 refine (H1.out _ h).mono ?_
 rintro e w1 ⟨rfl,h1,m1⟩;go_wp2_with fail
 refine (H2.out _ h1).mono ?_
 rintro e w2 ⟨rfl,h2,m2⟩;go_wp2_with fail;go_ret
 exact ⟨by simp,h2,m1.trans m2⟩
theorem take_fst_len (n:Nat) (q:PR):(takeP n q).1.length<=q.rest.length:=by
 unfold takeP;split
 ·exact Nat.le_refl _
 ·simp;omega
set_option maxHeartbeats 400000 in
theorem pname_any (b:Nat) (q:PR) (w:World) (h:PRd w b q) (hl:q.rest.length<=maxLen):Calls Tryz.prog 124 #[.pointer (some ⟨b,0,none⟩)] w fun e w'=>e=.returned (.string (T (nameP q).1))/\PRd w' b (nameP q).2/\Mods (Only b) w w':=by
 have HE:Hid (nameP q=((takeP (oneP q).1 (oneP q).2).1,wantP (nameB (takeP (oneP q).1 (oneP q).2).1) (takeP (oneP q).1 (oneP q).2).2)):=rfl
 have l1:=one_lt q
 have hl2:=Nat.le_trans (one_len q) hl
 have hl3:=Nat.le_trans (take_fst_len (oneP q).1 (oneP q).2) hl2
 rw [HE.out]
 go_enter Tryz.func124,Tryz.ntmps124
 go_wp2_with fail
 refine (one_any b q _ h hl).mono ?_
 rintro e w1 ⟨rfl,h1,m1⟩;go_wp2_with fail
 refine (take_any b _ _ _ h1 hl2 (by unfold maxLen;omega)).mono ?_
 rintro e w2 ⟨rfl,h2,m2⟩;go_wp2_with fail
 refine (pisName_any _ _ (by rw [T_size];exact hl3)).mono ?_
 rintro e w3 ⟨rfl,rfl⟩;go_wp2_with fail
 refine (want_any b _ _ _ h2).mono ?_
 rintro e w4 ⟨rfl,h4,m4⟩;go_wp2_with fail;go_ret
 exact ⟨rfl,h4,(m1.trans m2).trans m4⟩
set_option maxHeartbeats 400000 in
theorem psize_any (b:Nat) (q:PR) (m:Nat) (_hm:m<=255) (w:World) (h:PRd w b q) (hl:q.rest.length<=maxLen):Calls Tryz.prog 125 #[.pointer (some ⟨b,0,none⟩),.int .i64 m] w fun e w'=>e=.returned (.int .u8 ((sizeP m q).1:Nat))/\PRd w' b (sizeP m q).2/\Mods (Only b) w w':=by
 have H1:Hid (∀ w,PRd w b q->Calls Tryz.prog 59 #[.pointer (some ⟨b,0,none⟩)] w fun e w'=>e=.returned (.int .i64 ((oneP q).1:Nat))/\PRd w' b (oneP q).2/\Mods (Only b) w w'):=fun w h=>one_any b q w h hl
 have l1:=one_lt q
 rw [show sizeP m q=((oneP q).1,wantP (decide (1<=(oneP q).1)&&decide ((oneP q).1<=m)) (oneP q).2) from rfl]
 generalize oneP q=r1 at *;obtain ⟨n,q1⟩:=r1;simp only at *
 by_cases ha:1<=n
 ·have HD:Hid ((decide (1<=n)&&decide (n<=m))=decide (n<=m)):=by simp [Hid,ha]
  rw [HD.out]
  have hd:decide ((n:Int)<=(m:Int))=decide (n<=m):=by simp
  go_enter Tryz.func125,Tryz.ntmps125
  go_wp2_with fail
  refine (H1.out _ h).mono ?_
  rintro e w1 ⟨rfl,h1,m1⟩;go_wp2_with fail
  refine (want_any b _ _ _ h1).mono ?_
  rintro e w4 ⟨rfl,h4,m4⟩;go_wp2_with fail;go_ret
  exact ⟨rfl,h4,m1.trans m4⟩
 ·have hn:n=0:=by omega
  subst hn
  go_enter Tryz.func125,Tryz.ntmps125
  go_wp2_with fail
  refine (H1.out _ h).mono ?_
  rintro e w1 ⟨rfl,h1,m1⟩;go_wp2_with fail
  refine (want_any b _ _ _ h1).mono ?_
  rintro e w4 ⟨rfl,h4,m4⟩;go_wp2_with fail;go_ret
  exact ⟨rfl,h4,m1.trans m4⟩
theorem info_pmap:(Tryz.prog.info? 47).map (fun i=>(i.zero,i.size,i.bytes))=some (some (.agg #[.string E0,.int .u8 0,.int .u8 0,.int .u8 0]),4,24):=by kernel_rfl
theorem pmap_one (x:PMap):∀ u∈x.cells,u.oneCell'=true:=by
 intro u hu
 simp only [PMap.cells,List.mem_cons,List.not_mem_nil,or_false] at hu
 rcases hu with rfl | rfl | rfl | rfl<;>rfl
structure MInv (w0:World) (b:Nat) (q:PR) (v:Value) (ms:List PMap) (w:World):Prop where
 rd:PRd w b q
 sl:Sl w 47 4 v ms.length (ms.flatMap PMap.cells)
 own:∀ k,v.ownBlock=some k->w0.heap.size<=k
 md:Mods (Only b) w0 w
theorem MInv.read {w0 w w':World} {b:Nat} {q q':PR} {v:Value} {ms:List PMap} (h:MInv w0 b q v ms w) (hb:b<w0.heap.size) (hr:PRd w' b q') (m:Mods (Only b) w w'):MInv w0 b q' v ms w' :=
 ⟨hr,h.sl.mods m (fun k hk e=>by have:=h.own k hk;rw [show k=b from e] at this;omega),h.own,h.md.trans m⟩
theorem MInv.alloc {w0 w:World} {b:Nat} {q:PR} {v:Value} {ms:List PMap} (h:MInv w0 b q v ms w) (o:Obj):MInv w0 b q v ms (w.alloc o) :=
 ⟨Blk.alloc h.rd o,h.sl.mods ((Mods.refl Nil' w).alloc o) (fun _ _=>id),h.own,h.md.alloc o⟩
theorem MInv.set {w0 w:World} {b:Nat} {q:PR} {v:Value} {ms:List PMap} (h:MInv w0 b q v ms w) {g:Nat} (hg:w0.heap.size<=g) (hb:b<w0.heap.size) (hv:v.ownBlock≠some g) (i:Nat) (x:Value):MInv w0 b q v ms (w.setCell ⟨g,i,none⟩ x) :=
 ⟨Blk.setOther h.rd (by simp only;omega) x,h.sl.mods ((Mods.refl (Only g) w).setb i x) (fun k hk e=>hv (by rw [hk];exact congrArg some e)),h.own,h.md.set (.inr hg) x⟩
theorem MInv.app {w0 w w':World} {b:Nat} {q:PR} {v v':Value} {ms:List PMap} {x:PMap} (h:MInv w0 b q v ms w) (hb:b<w0.heap.size) (s:Sl w' 47 4 v' (ms.length+1) (ms.flatMap PMap.cells++x.cells)) (m:Mods (fun k=>v.ownBlock=some k) w w') (l:∀ k,v'.ownBlock=some k->v.ownBlock=some k\/w.heap.size<=k):MInv w0 b q v' (ms++[x]) w' :=
 ⟨Blk.mods h.rd m (fun e=>by have:=h.own b e;omega),by simpa using s,fun k hk=>by
  rcases l k hk with e | e
  ·exact h.own k e
  ·have:=h.md.size;omega,h.md.step m (fun i hi e=>by have:=h.own i e;omega)⟩
theorem mapsP_len:∀ (k:Nat) (q:PR) (last:List UInt8) (acc:List PMap),(mapsP k q last acc).2.rest.length<=q.rest.length
 | 0,_,_,_=>Nat.le_refl _
 | k+1,q,last,acc=>by
  rw [mapsP]
  refine Nat.le_trans (mapsP_len k _ _ _) ?_
  show (sizeP 8 (sizeP 16 (sizeP 8 (nameP q).2).2).2).2.rest.length<=_
  exact Nat.le_trans (size_len _ _) (Nat.le_trans (size_len _ _) (Nat.le_trans (size_len _ _) (name_len _)))
def MapsPost (w:World) (b:Nat) (q:PR) (ms:List PMap) (e:Ending) (w':World):Prop:=∃ v,e=.returned v/\MInv w b q v ms w'
set_option maxRecDepth 100000 in
set_option maxHeartbeats 1000000 in
theorem pmaps_any (b:Nat) (q:PR) (w:World) (h:PRd w b q) (hl:q.rest.length<=maxLen) :
  Calls Tryz.prog 60 #[.pointer (some ⟨b,0,none⟩)] w fun e w'=>MapsPost w b (mapsP (oneP q).1 (wantP (decide ((oneP q).1<=8)) (oneP q).2) [] []).2 (mapsP (oneP q).1 (wantP (decide ((oneP q).1<=8)) (oneP q).2) [] []).1 e w':=by
 obtain ⟨iM,hiM,hzM,hsM,hbM⟩:=info_parts info_pmap
 have hb:b<w.heap.size:=Blk.lt h
 have H1:Hid (∀ w,PRd w b q->Calls Tryz.prog 59 #[.pointer (some ⟨b,0,none⟩)] w fun e w'=>e=.returned (.int .i64 ((oneP q).1:Nat))/\PRd w' b (oneP q).2/\Mods (Only b) w w'):=fun w h=>one_any b q w h hl
 have l1:=one_lt q
 have hl1:=Nat.le_trans (one_len q) hl
 generalize oneP q=r1 at *;obtain ⟨n,q1⟩:=r1;simp only at *
 have hd:decide ((n:Int)<=8)=decide (n<=8):=by simp;omega
 have hl2:(wantP (decide (n<=8)) q1).rest.length<=maxLen:=hl1
 have HQ:Hid (∃ q2,wantP (decide (n<=8)) q1=q2):=⟨_,rfl⟩
 obtain ⟨q2,hq2⟩:=HQ.out;rw [hq2] at hl2 ⊢;have HQ2:=hid hq2;clear hq2 HQ
 go_enter Tryz.func60,Tryz.ntmps60
 go_wp2_with fail
 refine (H1.out _ h).mono ?_
 rintro e w1 ⟨rfl,h1,m1⟩;go_wp2_with fail
 refine (want_any b _ _ _ h1).mono ?_
 rintro e w2 ⟨rfl,h2,m2⟩
 have hI:MInv w b (wantP (decide (n<=8)) q1) (.slice none 0 0) [] w2:=⟨h2,Sl.nil _ _ _,fun k hk=>(by cases hk),m1.trans m2⟩
 rw [HQ2.out] at hI;clear h1 h2 m1 m2 hd;go_wp2_with fail
 go_loopg [3,4,14] n (fun g v last i wl=>∃ (k:Nat) (acc:List PMap) (r:PR) (lastL:List UInt8),i=.int .i64 k/\last=.string (T lastL)/\MInv w b r v acc wl/\mapsP (n - k) r lastL acc=mapsP n q2 [] []/\k<=n/\g=n - k/\acc.length<=k/\r.rest.length<=maxLen)
 case atStart=>exact ⟨0,[],q2,[],rfl,rfl,hI,rfl,Nat.zero_le _,rfl,Nat.le_refl _,hl2⟩
 case round =>
  obtain ⟨k,acc,r,lastL,rfl,rfl,hI2,HR0,hk,rfl,hal,hrl⟩:=hrel
  have HR:Hid _:=HR0
  clear HR0 hI
  by_cases hkn:k<n
  ·obtain ⟨j,hj⟩:∃ j,n - k=j+1:=⟨n - k - 1,by omega⟩
   have HJ:=hid hj
   have HR2:mapsP j (wantP (ltL lastL (nameP r).1) (sizeP 8 (sizeP 16 (sizeP 8 (nameP r).2).2).2).2) (nameP r).1 (acc++[⟨(nameP r).1,(sizeP 8 (nameP r).2).1,(sizeP 16 (sizeP 8 (nameP r).2).2).1,(sizeP 8 (sizeP 16 (sizeP 8 (nameP r).2).2).2).1⟩])=mapsP n q2 [] []:=by
    rw [<- HR.out,hj];rfl
   clear HR hj
   have HN:Hid (∀ w,PRd w b r->Calls Tryz.prog 124 #[.pointer (some ⟨b,0,none⟩)] w fun e w'=>e=.returned (.string (T (nameP r).1))/\PRd w' b (nameP r).2/\Mods (Only b) w w'):=fun w h=>pname_any b r w h hrl
   have z1:=Nat.le_trans (name_len r) hrl
   have HK:Hid (∀ w,PRd w b (nameP r).2->Calls Tryz.prog 125 #[.pointer (some ⟨b,0,none⟩),.int .i64 8] w fun e w'=>e=.returned (.int .u8 ((sizeP 8 (nameP r).2).1:Nat))/\PRd w' b (sizeP 8 (nameP r).2).2/\Mods (Only b) w w'):=fun w h=>psize_any b _ 8 (by decide) w h z1
   have y1:=one_lt (nameP r).2
   have z2:=Nat.le_trans (size_len 8 (nameP r).2) z1
   rw [show (oneP (nameP r).2).1=(sizeP 8 (nameP r).2).1 from rfl] at y1
   generalize nameP r=p0 at *;obtain ⟨nm,r0⟩:=p0;simp only at *
   have HV:Hid (∀ w,PRd w b (sizeP 8 r0).2->Calls Tryz.prog 125 #[.pointer (some ⟨b,0,none⟩),.int .i64 16] w fun e w'=>e=.returned (.int .u8 ((sizeP 16 (sizeP 8 r0).2).1:Nat))/\PRd w' b (sizeP 16 (sizeP 8 r0).2).2/\Mods (Only b) w w'):=fun w h=>psize_any b _ 16 (by decide) w h z2
   have y2:=one_lt (sizeP 8 r0).2
   have z3:=Nat.le_trans (size_len 16 (sizeP 8 r0).2) z2
   rw [show (oneP (sizeP 8 r0).2).1=(sizeP 16 (sizeP 8 r0).2).1 from rfl] at y2
   generalize sizeP 8 r0=p1 at *;obtain ⟨ky,r1⟩:=p1;simp only at *
   have HW:Hid (∀ w,PRd w b (sizeP 16 r1).2->Calls Tryz.prog 125 #[.pointer (some ⟨b,0,none⟩),.int .i64 8] w fun e w'=>e=.returned (.int .u8 ((sizeP 8 (sizeP 16 r1).2).1:Nat))/\PRd w' b (sizeP 8 (sizeP 16 r1).2).2/\Mods (Only b) w w'):=fun w h=>psize_any b _ 8 (by decide) w h z3
   have y3:=one_lt (sizeP 16 r1).2
   have z4:=Nat.le_trans (size_len 8 (sizeP 16 r1).2) z3
   rw [show (oneP (sizeP 16 r1).2).1=(sizeP 8 (sizeP 16 r1).2).1 from rfl] at y3
   generalize sizeP 16 r1=p2 at *;obtain ⟨vl,r2⟩:=p2;simp only at *;generalize sizeP 8 r2=p3 at *;obtain ⟨en,r3⟩:=p3;simp only at *
   have HR3:Hid _:=HR2
   clear HR2
   have HLT:Hid (ltL lastL nm=Op.bytesLess (T lastL).toList (T nm).toList):=rfl
   have hOw:∀ g,u3.ownBlock=some g->g<wr.heap.size:=hI2.sl.lt
   have HOw:Hid _:=hOw
   have hwr:=hI2.md.size
   clear hOw;go_wp2_with fail
   refine (HN.out _ hI2.rd).mono ?_
   rintro e w3 ⟨rfl,h3,m3⟩
   have hI3:=hI2.read hb h3 m3
   have hs3:=m3.size
   clear h3 m3 hI2
   have hI4:=hI3.alloc (.cells #[.string (T nm),.int .u8 0,.int .u8 0,.int .u8 0] 47)
   have hB4:=Blk.new w3 #[.string (T nm),.int .u8 0,.int .u8 0,.int .u8 0] 47
   have HN3:Hid (u3.ownBlock≠some w3.heap.size):=fun e=>by have:=HOw.out _ e;omega
   clear hI3;go_wp2_with fail
   refine (HK.out _ hI4.rd).mono ?_
   rintro e w5 ⟨rfl,h5,m5⟩
   have hI5:=hI4.read hb h5 m5
   have hB5:=hB4.mods m5 (show ¬ w3.heap.size=b by omega)
   clear h5 m5 hI4 hB4
   have f5:=hB5.frozen 1
   have g5:w5.cell? ⟨w3.heap.size,1,none⟩=some (.int .u8 0):=hB5.cell 1
   have hI6:=hI5.set (g:=w3.heap.size) (by omega) hb HN3.out 1 (.int .u8 ky)
   have hB6:=hB5.set 1 (.int .u8 ky)
   clear hI5 hB5;go_wp2_with fail
   refine (HV.out _ hI6.rd).mono ?_
   rintro e w7 ⟨rfl,h7,m7⟩
   have hI7:=hI6.read hb h7 m7
   have hB7:Blk w7 w3.heap.size #[.string (T nm),.int .u8 ky,.int .u8 0,.int .u8 0] 47:=hB6.mods m7 (show ¬ w3.heap.size=b by omega)
   clear h7 m7 hI6 hB6 f5 g5
   have f7:=hB7.frozen 2
   have g7:w7.cell? ⟨w3.heap.size,2,none⟩=some (.int .u8 0):=hB7.cell 2
   have hI8:=hI7.set (g:=w3.heap.size) (by omega) hb HN3.out 2 (.int .u8 vl)
   have hB8:=hB7.set 2 (.int .u8 vl)
   clear hI7 hB7;go_wp2_with fail
   refine (HW.out _ hI8.rd).mono ?_
   rintro e w9 ⟨rfl,h9,m9⟩
   have hI9:=hI8.read hb h9 m9
   have hB9:Blk w9 w3.heap.size #[.string (T nm),.int .u8 ky,.int .u8 vl,.int .u8 0] 47:=hB8.mods m9 (show ¬ w3.heap.size=b by omega)
   clear h9 m9 hI8 hB8 f7 g7
   have f9:=hB9.frozen 3
   have g9:w9.cell? ⟨w3.heap.size,3,none⟩=some (.int .u8 0):=hB9.cell 3
   have hIa:=hI9.set (g:=w3.heap.size) (by omega) hb HN3.out 3 (.int .u8 en)
   have hBa:Blk (w9.setCell ⟨w3.heap.size,3,none⟩ (.int .u8 en)) w3.heap.size #[.string (T nm),.int .u8 ky,.int .u8 vl,.int .u8 en] 47:=hB9.set 3 (.int .u8 en)
   have ga:w9.cell? ⟨w3.heap.size,0,none⟩=some (.string (T nm)):=hB9.cell 0
   clear hI9 hB9;go_wp2_with fail
   refine (want_any b _ _ _ hIa.rd).mono ?_
   rintro e wb ⟨rfl,hb',mb⟩
   have hIb:=hIa.read hb hb' mb
   have hBb:=hBa.mods mb (show ¬ w3.heap.size=b by omega)
   clear hb' mb hIa hBa f9 g9 ga
   obtain ⟨i0,i1,i2,i3⟩:wb.cell? ⟨w3.heap.size,0,none⟩=some (.string (T nm))/\wb.cell? ⟨w3.heap.size,1,none⟩=some (.int .u8 ky)/\wb.cell? ⟨w3.heap.size,2,none⟩=some (.int .u8 vl)/\wb.cell? ⟨w3.heap.size,3,none⟩=some (.int .u8 en):=⟨hBb.cell 0,hBb.cell 1,hBb.cell 2,hBb.cell 3⟩
   have HIb:Hid _:=hIb
   clear hBb hIb
   go_wp2_with (at_builtin;refine wpList_append_sl _ rfl (.tmp 36) (.tmp 38) 34 rfl 47 iM (.agg #[.string E0,.int .u8 0,.int .u8 0,.int .u8 0]) 4 24 Tryz.underlying34 hiM hzM hsM hbM rfl (by decide) u3 acc.length (acc.flatMap PMap.cells) rfl (HIb.out.alloc _).sl ⟨wb.heap.size,0,none⟩ 1 1 (PMap.cells ⟨nm,ky,vl,en⟩) rfl rfl (news_cells _ _ _ _ rfl) (pmap_one _) (by unfold maxLen;omega) (by omega) ?_;intro vA wA sA mA lA;obtain ⟨oA,cA,rfl,_⟩:=Sl.view sA)
   go_roundg (n - (k+1))
   case measure=>omega
   case rel=>exact ⟨k+1,acc++[⟨nm,ky,vl,en⟩],_,nm,by go_num,rfl,(HIb.out.alloc _).app hb sA mA lA,by rw [show n - (k+1)=j by have:=HJ.out;omega];exact HR3.out,by omega,rfl,by simp;omega,z4⟩
  ·obtain rfl:k=n:=by omega
   have HE:Hid (mapsP k q2 [] []=(acc,r)):=by rw [Hid,<- HR.out,Nat.sub_self];rfl
   go_wp2_with fail;go_ret;rw [HE.out]
   exact ⟨_,rfl,hI2⟩
theorem find_at (os:List OpS) (c k:Nat) (hk:k<os.length) (hlt:∀ j (h:j<os.length),j<k->os[j].code≠c) (he:os[k].code=c):os.findIdx? (fun o=>o.code==c)=some k:=by
 rw [List.findIdx?_eq_some_iff_getElem]
 refine ⟨hk,by simp [he],fun j hj=>?_⟩
 have:=hlt j (by omega) hj
 simp [this]
theorem find_no (os:List OpS) (c:Nat) (h:∀ j (h:j<os.length),os[j].code≠c):os.findIdx? (fun o=>o.code==c)=none:=by
 rw [List.findIdx?_eq_none_iff];intro x hx;obtain ⟨i,hi,rfl⟩:=List.getElem_of_mem hx
 simp [h i hi]
def codeV (bs:List Nat):Option Nat->Value
 | none=>.pointer none
 | some k=>ptrV (bs[k]?.getD 0)
set_option maxHeartbeats 400000 in
theorem byCode_any (w:World) (v:Value) (bs:List Nat) (os:List OpS) (c:Nat) (hO:OpsIn 0 w v bs os) (hl:os.length<=1000) (hcd:∀ o∈os,o.code<256) :
  Calls Tryz.prog 280 #[v,.int .u8 c] w fun e w'=>e=.returned (codeV bs (os.findIdx? (fun o=>o.code==c)))/\w'=w:=by
 obtain ⟨o0,cap,rfl,_⟩:=hO.sl.view
 have hlen:=hO.len
 have HL:Hid _:=hlen
 clear hlen
 have hbl:bs.length<=1000:=by rw [HL.out];exact hl
 go_enter Tryz.func280,Tryz.ntmps280
 go_wp2
 go_loop [9] (fun i=>∃ k:Nat,k<=bs.length/\i=.int .i64 k/\∀ j,(h:j<os.length)->j<k->os[j].code≠c) (fun i=>bs.length - (intOf i).toNat)
 case atStart=>exact ⟨0,Nat.zero_le _,rfl,fun j _ h=>absurd h (Nat.not_lt_zero _)⟩
 case round =>
  obtain ⟨k,hk,rfl,hn⟩:=hrel
  have HN:Hid _:=hn
  clear hn
  by_cases hlt:k<bs.length
  ·obtain ⟨g,rfl,cs⟩:=hO.sl.at rfl k hlt
   have ck:=cs k hlt
   have e1:(bs.map ptrV)[k]?=some (.pointer (some ⟨bs[k],0,none⟩)):=by simp [hlt,ptrV]
   rw [e1] at ck
   have hk':k<os.length:=by rw [<- HL.out];exact hlt
   obtain ⟨o1,n1,c1,f6,c6,k7,c7,k8,c8,f9,c9,hblk,_⟩:=(hO.at' k hlt hk').ex
   have z0:=hblk.cell 0
   simp at z0
   have HB:Hid (bs[k]?.getD 0=bs[k]):=by simp [Hid,hlt]
   have hcl:=hcd os[k] (List.getElem_mem hk')
   clear hblk cs e1
   by_cases he:os[k].code=c
   ·have HF:Hid (_=_):=find_at os c k hk' (fun j h hj=>HN.out j h hj) he
    have q:((os[k].code:Int)==(c:Int))=true:=by simp [he]
    go_wp2
    go_ret
    refine ⟨?_,rfl⟩
    rw [HF.out]
    simp only [codeV,HB.out,ptrV]
    rfl
   ·have HE:Hid _:=he
    have q:((os[k].code:Int)==(c:Int))=false:=by simp;omega
    clear he
    go_wp2
    go_round
    case rel=>exact ⟨k+1,by omega,by go_num,fun j h hj=>by
     by_cases e:j=k
     ·subst e;exact HE.out
     ·exact HN.out j h (by omega)⟩
    case measure=>simp [intOf];omega
  ·have HF:Hid (_=_):=find_no os c (fun j h=>HN.out j h (by rw [<- HL.out] at h;omega))
   go_wp2
   go_ret;rw [HF.out]
   exact ⟨rfl,rfl⟩
theorem or_up (k:IntKind) (i m:Nat) (a b:Nat) (hw:∀ n:Int,0<=n->n<2 ^ m->k.wrap n=n) (hm:m<=k.bits) (him:i<=m) (ha:a<2 ^ i) (hb:b*2 ^ i<2 ^ m):bits .or k (a:Int) ((b*2 ^ i:Nat):Int)=((a+b*2 ^ i:Nat):Int):=by
 have ha':a<2 ^ m:=Nat.lt_of_lt_of_le ha (Nat.pow_le_pow_right (by decide) him)
 have h:=(bits_nat k m hm hw a (b*2 ^ i) ha' hb).2
 have e:=Nat.two_pow_add_eq_or_of_lt ha b
 have e4:a ||| b*2 ^ i=a+b*2 ^ i:=by
  rw [Nat.or_comm,Nat.mul_comm b]
  exact e.symm.trans (Nat.add_comm _ _)
 rw [e4] at h;exact h
theorem or32a (a b:Nat) (ha:a<256) (hb:b<256):bits .or .u32 (a:Int) ((b:Int)*256)=(a:Int)+(b:Int)*256:=by
 have h:=or_up .u32 8 16 a b (fun n h0 h1=>by rw [IntKind.wrap_u32];omega) (by decide) (by decide) ha (by omega)
 simpa using h
theorem or32b (n c:Nat) (hn:n<65536) (hc:c<256):bits .or .u32 (n:Int) ((c:Int)*65536)=(n:Int)+(c:Int)*65536:=by
 have h:=or_up .u32 16 24 n c (fun n h0 h1=>by rw [IntKind.wrap_u32];omega) (by decide) (by decide) hn (by omega)
 simpa using h
theorem or32c (n d:Nat) (hn:n<16777216) (hd:d<256):bits .or .u32 (n:Int) ((d:Int)*16777216)=(n:Int)+(d:Int)*16777216:=by
 have h:=or_up .u32 24 32 n d (fun n h0 h1=>by rw [IntKind.wrap_u32];omega) (by decide) (by decide) hn (by omega)
 simpa using h
theorem or16a (a b:Nat) (ha:a<256) (hb:b<256):bits .or .u16 (a:Int) ((b:Int)*256)=(a:Int)+(b:Int)*256:=by
 have h:=or_up .u16 8 16 a b (fun n h0 h1=>by rw [IntKind.wrap_u16];omega) (by decide) (by decide) ha (by omega)
 simpa using h
theorem at_BL (s:ByteArray) (i:Nat) (h:i<s.size):at' (BL s) i=s[i].toNat:=by
 have e:(BL s)[i]?=some s[i]:=by
  rw [List.getElem?_eq_getElem (by rw [BL_size];exact h),BL_get s i h]
 simp [at',e]
theorem wrap32_sgn (a b c d:Nat) (ha:a<256) (hb:b<256) (hc:c<256) (hd:d<256):wrap32 ((a:Int)+(b:Int)*256+(c:Int)*65536+(d:Int)*16777216)=sgn32 (a+256*b+65536*c+16777216*d):=by
 unfold wrap32 sgn32
 split<;>omega
set_option maxRecDepth 100000 in
set_option maxHeartbeats 1000000 in
theorem numAt_any (s:ByteArray) (w:World) (h:4<=s.size) (hs:s.size<=maxLen):Calls Tryz.prog 281 #[.string s] w fun e w'=>e=.returned (.int .i32 (num32 (BL s)))/\∃ n,w'=w.drewN n:=by
 unfold maxLen at hs
 have e0:=at_BL s 0 (by omega)
 have e1:=at_BL s 1 (by omega)
 have e2:=at_BL s 2 (by omega)
 have e3:=at_BL s 3 (by omega)
 have HN:Hid (num32 (BL s)=sgn32 (s[0].toNat+256*s[1].toNat+65536*s[2].toNat+16777216*s[3].toNat)):=by
  rw [Hid,num32,e0,e1,e2,e3]
 rw [HN.out];clear HN e0 e1 e2 e3
 have l0:=(s[0]).toNat_lt
 have l1:=(s[1]).toNat_lt
 have l2:=(s[2]).toNat_lt
 have l3:=(s[3]).toNat_lt
 have p0:0<s.size:=by omega
 have p1:1<s.size:=by omega
 have p2:2<s.size:=by omega
 have p3:3<s.size:=by omega
 have i1:(1:Int)<(s.size:Int):=by omega
 have i2:(2:Int)<(s.size:Int):=by omega
 have i3:(3:Int)<(s.size:Int):=by omega
 have w0:IntKind.u32.wrap (s[0].toNat:Int)=s[0].toNat:=by rw [IntKind.wrap_u32];omega
 have w1:IntKind.u32.wrap (s[1].toNat:Int)=s[1].toNat:=by rw [IntKind.wrap_u32];omega
 have w2:IntKind.u32.wrap (s[2].toNat:Int)=s[2].toNat:=by rw [IntKind.wrap_u32];omega
 have w3:IntKind.u32.wrap (s[3].toNat:Int)=s[3].toNat:=by rw [IntKind.wrap_u32];omega
 have v1:IntKind.u32.wrap ((s[1].toNat:Int)*256)=(s[1].toNat:Int)*256:=by rw [IntKind.wrap_u32];omega
 have v2:IntKind.u32.wrap ((s[2].toNat:Int)*65536)=(s[2].toNat:Int)*65536:=by rw [IntKind.wrap_u32];omega
 have v3:IntKind.u32.wrap ((s[3].toNat:Int)*16777216)=(s[3].toNat:Int)*16777216:=by rw [IntKind.wrap_u32];omega
 have o1:=or32a s[0].toNat s[1].toNat l0 l1
 have o2:=or32b (s[0].toNat+s[1].toNat*256) s[2].toNat (by omega) l2
 have o3:=or32c (s[0].toNat+s[1].toNat*256+s[2].toNat*65536) s[3].toNat (by omega) l3
 simp only [Int.natCast_add,Int.natCast_mul,Int.cast_ofNat_Int] at o2 o3
 go_enter Tryz.func281,Tryz.ntmps281
 go_wp2_with fail;go_quiet (fail);go_wp2_with fail;go_ret
 refine ⟨?_,nq,rfl⟩
 show Ending.returned (.int .i32 (wrap32 _))=_
 rw [wrap32_sgn _ _ _ _ l0 l1 l2 l3]
end Go.Proofs.YtnhcaifopaeohaaGreatDoor
