import Derived.Test.YtoknbkfclhmapaaGreatDoorC20
import Derived.Test.YtoknbkfclhmapaaGreatDoorC17
import Derived.Test.YtoknbkfclhmapaaGreatDoorC19
import Derived.Deep.CutBlock
namespace Go.Proofs.YtoknbkfclhmapaaGreatDoor
open Go.RowKit
theorem info_map:(Tryz.prog.info? 48).map (fun i=>(i.zero,i.size,i.bytes))=some (some (.agg #[.string E0,.int .i64 0,.int .i64 0,.int .i64 0]),4,40):=by kernel_rfl
theorem info_fn:(Tryz.prog.info? 46).map (fun i=>(i.zero,i.size,i.bytes))=some (some (.agg #[.string E0,.slice none 0 0,.slice none 0 0,.int .i64 0,.slice none 0 0,.slice none 0 0,.int .i64 0,.slice none 0 0]),8,152):=by kernel_rfl
theorem map_one (x:RMap):∀ u∈x.cells,u.oneCell'=true:=by
 intro u hu
 simp only [RMap.cells,List.mem_cons,List.not_mem_nil,or_false] at hu
 rcases hu with rfl | rfl | rfl | rfl<;>rfl
theorem fn_one (x:RFn):∀ u∈x.cells,u.oneCell'=true:=by
 intro u hu
 simp only [RFn.cells,List.mem_cons,List.not_mem_nil,or_false] at hu
 rcases hu with rfl | rfl | rfl | rfl | rfl | rfl | rfl | rfl<;>rfl
theorem head_eq:((⟨#[83,80,79,76]⟩:ByteArray)++(⟨#[1]⟩:ByteArray))=HEAD:=T_app [83,80,79,76] [1]
def openFns (s:ByteArray) (ms:List RMap) (n:Nat) (r:RS):Option (List RMap × List RFn × List FOut):=openMid s ms (rdFns s n r [] 0).1 (rdFns s n r [] 0).2.1 (rdFns s n r [] 0).2.2
def openRest (s:ByteArray) (n:Nat) (r:RS):Option (List RMap × List RFn × List FOut):=openFns s (rdMaps s n r []).1 (rb s (rdMaps s n r []).2).1 (rb s (rdMaps s n r []).2).2
theorem open_eq (s:ByteArray) (h5:¬ s.size<5) (hh:s.extract 0 5=HEAD):openM s=openRest s (rb s ⟨5,false⟩).1 (rb s ⟨5,false⟩).2:=by
 rw [openM,if_neg (fun e=>e.elim h5 (fun e=>e hh))];rfl
def OpenPost (w:World) (s:ByteArray) (e:Ending) (w':World):Prop :=
 Mods Nil' w w'/\match openM s with
  | none=>∃ p,e=.returned (.tuple #[.pointer p,.bool false])
  | some o=>∃ pb rb' vM vF hs bd,e=.returned (.tuple #[.pointer (some ⟨pb,0,none⟩),.bool true])/\PInv w' pb rb' vM vF o.1 (o.2.1.zip hs) o.2.2 bd/\hs.length=o.2.1.length/\o.2.2.length=o.2.1.length/\w.heap.size<=bd 0
theorem OpenPost.no {w w':World} {s:ByteArray} {p:Option Addr} (h:openM s=none) (m:Mods Nil' w w'):OpenPost w s (.returned (.tuple #[.pointer p,.bool false])) w':=by
 refine ⟨m,?_⟩
 rw [h];exact ⟨p,rfl⟩
theorem map_nils (fs:List RFn):(fs.map (fun f=>(f,HFn.nil))).map (·.1)=fs:=by
 induction fs with
 | nil=>rfl
 | cons f l ih=>simp only [List.map_cons,ih]
theorem zip_fs (l:List (RFn × HFn)):(l.map (·.1)).zip (l.map (·.2))=l:=by
 induction l with
 | nil=>rfl
 | cons x l ih=>simp [ih]
theorem refF_len (s:ByteArray) (ms:List RMap):∀ (rest done:List FOut) (c:Nat) (r:RS) (o:List FOut × Nat × RS),refF s ms done rest c r=some o->o.1.length=done.length+rest.length
 | [],done,c,r,o,h=>by rw [refF] at h;cases h;simp
 | x::rest,done,c,r,o,h=>by
  rw [refF] at h
  split at h
  ·cases h
  ·have:=refF_len s ms rest _ _ _ o h;simp at this ⊢;omega
theorem refs_len (s:ByteArray) (ms:List RMap) (os:List FOut) (r:RS) (o:List FOut × RS) (h:refsM s ms os r=some o):o.1.length=os.length:=by
 unfold refsM at h
 split at h
 ·cases h
 ·rename_i os' c r' hq
  split at h
  ·cases h
   have:=refF_len s ms os [] 0 _ _ hq
   simpa using this
  ·cases h
structure BodRel (w w3:World) (pb rb':Nat) (vM vF:Value) (ms:List RMap) (fs:List RFn) (s:ByteArray) (pos4:Nat) (g:Nat) (iv:Value) (wx:World):Prop where
 ex:∃ (os:List FOut) (fx:List (RFn × HFn)) (bd:Nat->Nat) (r:RS),iv=.int .i64 os.length/\fx.map (·.1)=fs/\PInv wx pb rb' vM vF ms fx os bd/\(∀ i (h:i<fx.length),os.length<=i->fx[i].2=HFn.nil)/\RdAt wx rb' s r /\
  rdBodies s (fs.drop os.length) r os=rdBodies s fs ⟨pos4,false⟩ []/\r.pos<=s.size/\g=fs.length - os.length/\(∀ o∈os,o.ls.length<=1000/\o.ats.length=o.ls.length)/\Mods Nil' w wx/\w3.heap.size<=bd 0/\os.length<=fs.length
set_option maxRecDepth 100000 in
set_option maxHeartbeats 1000000 in
theorem open_any (s:ByteArray) (w:World) (hs:s.size<=maxLen) :
  Calls Tryz.prog 10 #[.string s,.bool false] w fun e w'=>OpenPost w s e w':=by
 have hs':=hs
 unfold maxLen at hs';obtain ⟨iM,hiM,hzM,hsM,hbM⟩:=info_parts info_map;obtain ⟨iF,hiF,hzF,hsF,hbF⟩:=info_parts info_fn
 by_cases h5:s.size<5
 case pos =>
  have HN:Hid (openM s=none):=by rw [Hid,openM,if_pos (.inl h5)]
  go_enter Tryz.func10,Tryz.ntmps10
  go_wp2_with fail;go_ret2
  exact OpenPost.no HN.out (Mods.refl _ _)
 have h5':decide ((s.size:Int)<5)=false:=decide_eq_false (by omega)
 by_cases hh:s.extract 0 5=HEAD
 case neg =>
  have HN:Hid (openM s=none):=by rw [Hid,openM,if_pos (.inr hh)]
  have t:=str_ne (b:=⟨#[83,80,79,76]⟩++⟨#[1]⟩) (fun e=>hh (e.trans head_eq))
  clear hh
  go_enter Tryz.func10,Tryz.ntmps10
  go_wp2_with fail;go_ret2
  exact OpenPost.no HN.out (Mods.refl _ _)
 have t:=str_eq (b:=⟨#[83,80,79,76]⟩++⟨#[1]⟩) (hh.trans head_eq.symm)
 have HO:Hid (openM s=openRest s (rb s ⟨5,false⟩).1 (rb s ⟨5,false⟩).2):=open_eq s h5 hh
 clear hh
 have hrd:RdAt ((w.alloc (.cells #[.string s,.int .i64 5,.bool false] 71)).alloc (.cells #[.slice none 0 0,.slice none 0 0] 41)) w.heap.size s ⟨5,false⟩:=(Blk.new w _ _).alloc _
 have hpg:Blk ((w.alloc (.cells #[.string s,.int .i64 5,.bool false] 71)).alloc (.cells #[.slice none 0 0,.slice none 0 0] 41)) (w.heap.size+1) #[.slice none 0 0,.slice none 0 0] 41:=by
  have:=Blk.new (w.alloc (.cells #[.string s,.int .i64 5,.bool false] 71)) #[.slice none 0 0,.slice none 0 0] 41
  simpa using this
 have hO0:OInv w (w.heap.size+1) w.heap.size s ⟨5,false⟩ [] [] (.slice none 0 0) (.slice none 0 0) _:=⟨hrd,hpg,Sl.nil _ _ _,Sl.nil _ _ _,fun k h=>(by simp [Value.ownBlock] at h),fun k h=>(by simp [Value.ownBlock] at h),fun k h=>(by simp [Value.ownBlock] at h),by omega,Nat.le_refl _,((Mods.refl _ _).alloc _).alloc _⟩
 have hp1:=rb_pos s ⟨5,false⟩ (by show 5<=s.size;omega)
 have hn1:=rb_le s ⟨5,false⟩
 go_enter Tryz.func10,Tryz.ntmps10
 go_wp2_with fail
 refine (rbyte_any w.heap.size s ⟨5,false⟩ _ hs hrd).mono ?_
 rintro e w1 ⟨rfl,h1,m1⟩
 have hO1:=hO0.read m1 h1
 clear m1 h1 hrd hpg hO0;generalize rb s ⟨5,false⟩=q at *;obtain ⟨n,r1⟩:=q;simp only at *;go_upto_block 0 with fail
 go_cut [] (fun wx=>∃ ms r vM,OInv w (w.heap.size+1) w.heap.size s r ms [] vM (.slice none 0 0) wx/\rdMaps s n r1 []=(ms,r)/\r.pos<=s.size/\ms.length<=n)
 case first =>
  go_wp2_with fail
  go_loopg [10] n (fun g iv wx=>∃ (k:Nat) (ms:List RMap) (r:RS) (vM:Value),iv=.int .i64 k/\OInv w (w.heap.size+1) w.heap.size s r ms [] vM (.slice none 0 0) wx/\rdMaps s (n - k) r ms=rdMaps s n r1 []/\k<=n/\g=n - k/\r.pos<=s.size/\ms.length<=k)
  case atStart=>exact ⟨0,[],r1,_,rfl,hO1,rfl,Nat.zero_le _,rfl,hp1,Nat.le_refl _⟩
  case round =>
   obtain ⟨k,ms,⟨pos,bad⟩,vM,rfl,hO2,HR0,hk,rfl,hp2,hml⟩:=hrel
   have HR:Hid _:=HR0
   clear HR0 hO1 hp1
   have hbc:wr.cell? ⟨w.heap.size,2,none⟩=some (.bool bad):=Blk.cell hO2.rd 2
   by_cases hkn:k<n
   case neg =>
    obtain rfl:k=n:=by omega
    have HE:Hid (rdMaps s k r1 []=(ms,⟨pos,bad⟩)):=by rw [Hid,<- HR.out,Nat.sub_self];rfl
    go_wp2_with fail;go_meet
    exact ⟨ms,⟨pos,bad⟩,vM,hO2,HE.out,hp2,hml⟩
   obtain ⟨j,hj⟩:∃ j,n - k=j+1:=⟨n - k - 1,by omega⟩
   have HJ:=hid hj
   have HR2:=HR.out
   rw [hj,rdMaps] at HR2
   have HR3:Hid _:=HR2
   clear HR2 HR hj
   cases bad with
   | true =>
    have HE:Hid (rdMaps s n r1 []=(ms,⟨pos,true⟩)):=by rw [Hid,<- HR3.out];rfl
    go_wp2_with fail;go_meet
    exact ⟨ms,⟨pos,true⟩,vM,hO2,HE.out,hp2,by omega⟩
   | false =>
    have HR4:Hid _:=(if_neg (by simp):_=_).symm.trans HR3.out
    clear HR3
    have hpn:=rnm_pos s ⟨pos,false⟩ hp2
    have hl1:=rb_le s (rnm s ⟨pos,false⟩).2
    have hl2:=rb_le s (rb s (rnm s ⟨pos,false⟩).2).2
    have hl3:=rb_le s (rb s (rb s (rnm s ⟨pos,false⟩).2).2).2
    have hpa:=rb_pos s _ hpn
    have hpb:=rb_pos s _ hpa
    have hpc:=rb_pos s _ hpb
    go_wp2_with fail
    refine (rname_any w.heap.size s ⟨pos,false⟩ _ hs hp2 hO2.rd).mono ?_
    rintro e w2 ⟨rfl,h2,m2⟩
    have hO3:=hO2.read m2 h2
    clear m2 h2 hO2;generalize rnm s ⟨pos,false⟩=q at *;obtain ⟨nm,r2⟩:=q;simp only at *
    have hO4:=hO3.quiet ((Mods.refl _ _).alloc (.cells #[.string nm,.int .i64 0,.int .i64 0,.int .i64 0] 48))
    have hb4:Blk (w2.alloc (.cells #[.string nm,.int .i64 0,.int .i64 0,.int .i64 0] 48)) w2.heap.size #[.string nm,.int .i64 0,.int .i64 0,.int .i64 0] 48:=Blk.new _ _ _
    have hvl:∀ k,vM.ownBlock=some k->k<w2.heap.size:=hO3.sm.lt
    have HVL:Hid _:=hvl
    have hr2:w.heap.size<w2.heap.size:=Blk.lt hO3.rd
    have hp2':w.heap.size+1<w2.heap.size:=hO3.pg.lt
    clear hvl hO3;go_wp2_with fail
    refine (rbyte_any w.heap.size s r2 _ hs hO4.rd).mono ?_
    rintro e w3 ⟨rfl,h3,m3⟩
    have hO5:=hO4.read m3 h3
    have hb5:=hb4.mods m3 (show ¬ w2.heap.size=w.heap.size by omega)
    clear m3 h3 hO4 hb4;generalize rb s r2=q at *;obtain ⟨na,r3⟩:=q;simp only at *
    have f5:=hb5.frozen
    have g5:w3.cell? ⟨w2.heap.size,1,none⟩=some (.int .i64 0):=hb5.cell 1
    go_wp2_with fail
    have hO6:=hO5.setO (a:=⟨w2.heap.size,1,none⟩) (show w2.heap.size≠w.heap.size by omega) (show w2.heap.size≠w.heap.size+1 by omega) (fun e=>by have:=HVL.out _ e;simp at this) (by simp [Value.ownBlock]) (show w.heap.size<=w2.heap.size by omega) (.int .i64 na)
    have hb6:=hb5.set 1 (.int .i64 na)
    clear f5 g5 hO5 hb5
    refine (rbyte_any w.heap.size s r3 _ hs hO6.rd).mono ?_
    rintro e w4 ⟨rfl,h4,m4⟩
    have hO7:=hO6.read m4 h4
    have hb7:Blk w4 w2.heap.size #[.string nm,.int .i64 na,.int .i64 0,.int .i64 0] 48:=hb6.mods m4 (show ¬ w2.heap.size=w.heap.size by omega)
    clear m4 h4 hO6 hb6;generalize rb s r3=q at *;obtain ⟨nb,r4⟩:=q;simp only at *
    have f5:=hb7.frozen
    have g5:w4.cell? ⟨w2.heap.size,2,none⟩=some (.int .i64 0):=hb7.cell 2
    go_wp2_with fail
    have hO8:=hO7.setO (a:=⟨w2.heap.size,2,none⟩) (show w2.heap.size≠w.heap.size by omega) (show w2.heap.size≠w.heap.size+1 by omega) (fun e=>by have:=HVL.out _ e;simp at this) (by simp [Value.ownBlock]) (show w.heap.size<=w2.heap.size by omega) (.int .i64 nb)
    have hb8:=hb7.set 2 (.int .i64 nb)
    clear f5 g5 hO7 hb7
    refine (rbyte_any w.heap.size s r4 _ hs hO8.rd).mono ?_
    rintro e w5 ⟨rfl,h5,m5⟩
    have hO9:=hO8.read m5 h5
    have hb9:Blk w5 w2.heap.size #[.string nm,.int .i64 na,.int .i64 nb,.int .i64 0] 48:=hb8.mods m5 (show ¬ w2.heap.size=w.heap.size by omega)
    clear m5 h5 hO8 hb8;generalize rb s r4=q at *;obtain ⟨nc,r5⟩:=q;simp only at *
    have f5:=hb9.frozen
    have g5:w5.cell? ⟨w2.heap.size,3,none⟩=some (.int .i64 0):=hb9.cell 3
    have hOA:=hO9.setO (a:=⟨w2.heap.size,3,none⟩) (show w2.heap.size≠w.heap.size by omega) (show w2.heap.size≠w.heap.size+1 by omega) (fun e=>by have:=HVL.out _ e;simp at this) (by simp [Value.ownBlock]) (show w.heap.size<=w2.heap.size by omega) (.int .i64 nc)
    have hbA:Blk (w5.setCell ⟨w2.heap.size,3,none⟩ (.int .i64 nc)) w2.heap.size #[.string nm,.int .i64 na,.int .i64 nb,.int .i64 nc] 48:=hb9.set 3 (.int .i64 nc)
    clear hO9 hb9;go_upto_region 16 with fail
    generalize hW:w5.setCell ⟨w2.heap.size,3,none⟩ (.int .i64 nc)=W at *
    clear hW f5 g5
    have HP:Hid _:=hOA
    obtain ⟨i0,i1,i2,i3⟩:W.cell? ⟨w2.heap.size,0,none⟩=some (.string nm)/\W.cell? ⟨w2.heap.size,1,none⟩=some (.int .i64 na)/\W.cell? ⟨w2.heap.size,2,none⟩=some (.int .i64 nb)/\W.cell? ⟨w2.heap.size,3,none⟩=some (.int .i64 nc):=⟨hbA.cell 0,hbA.cell 1,hbA.cell 2,hbA.cell 3⟩
    have p0:W.cell? ⟨w.heap.size+1,0,none⟩=some vM:=hOA.pg.cell 0
    have pf:=hOA.pg.frozen
    have hlW:w2.heap.size<W.heap.size:=hbA.lt
    have qa:∀ o,(W.alloc o).cell? ⟨w.heap.size+1,0,none⟩=some vM:=fun o=>(hOA.quiet ((Mods.refl _ _).alloc o)).pg.cell 0
    clear hOA hbA
    go_region_law (refine step_append_sl rfl (.tmp 65) (.tmp 67) 38 rfl 48 iM (.agg #[.string E0,.int .i64 0,.int .i64 0,.int .i64 0]) 4 40 Tryz.underlying38 hiM hzM hsM hbM rfl (by decide) vM ms.length (ms.flatMap RMap.cells) (by simp [Act.eval]) (HP.out.quiet (((Mods.refl _ _).drew).alloc _)).sm ⟨W.heap.size,0,none⟩ 1 1 (RMap.cells ⟨nm,na,nb,nc⟩) (by simp [Act.eval]) rfl (news_cells _ _ _ _ (by simp)) (map_one _) (by unfold maxLen;omega) (by omega) ?_;intro v6 w6 s6 m6 l6;obtain ⟨o6,cp6,rfl,_⟩:=Sl.view s6;obtain ⟨y0,y1,yf⟩:=HP.out.midM (.inl rfl) (((Mods.refl _ _).alloc _).drew) m6)
    all_goals
     go_wp2_with fail
     go_roundg (n - (k+1))
     case measure=>omega
     case rel=>exact ⟨k+1,ms++[⟨nm,na,nb,nc⟩],r5,_,by go_num,(HP.out.quiet (((Mods.refl _ _).alloc _).drew)).appM s6 m6 l6,by have:=HJ.out;rw [show n - (k+1)=j by omega];exact HR4.out,by omega,rfl,hpc,by simp;omega⟩
 case rest =>
 obtain ⟨ms,r2,vM,hO2,hE,hp2,hml⟩:=hcut
 have HO2:=HO.out
 rw [openRest,hE] at HO2;have HO3:=hid HO2;clear HO HO2 hE hO1 hp1
 have hn2:=rb_le s r2
 have hp3:=rb_pos s r2 hp2
 go_wp2_with fail
 refine (rbyte_any w.heap.size s r2 _ hs hO2.rd).mono ?_
 rintro e w2 ⟨rfl,h2,m2⟩
 have hO3:=hO2.read m2 h2
 clear m2 h2 hO2;generalize rb s r2=q at *;obtain ⟨n2,r3⟩:=q;simp only at *;go_upto_block 2 with fail
 go_cut [12] (fun tv wx=>∃ fs t r vF,tv=.int .i64 (t:Nat)/\OInv w (w.heap.size+1) w.heap.size s r ms fs vM vF wx/\rdFns s n2 r3 [] 0=(fs,t,r)/\r.pos<=s.size/\fs.length<=n2/\t<=fs.length*65535)
 case first =>
  go_wp2_with fail
  go_loopg [12,13] n2 (fun g tv iv wx=>∃ (k t:Nat) (fs:List RFn) (r:RS) (vF:Value),iv=.int .i64 k/\tv=.int .i64 t/\OInv w (w.heap.size+1) w.heap.size s r ms fs vM vF wx/\rdFns s (n2 - k) r fs t=rdFns s n2 r3 [] 0/\k<=n2/\g=n2 - k/\r.pos<=s.size/\fs.length<=k/\t<=fs.length*65535)
  case atStart=>exact ⟨0,0,[],r3,_,rfl,rfl,hO3,rfl,Nat.zero_le _,rfl,hp3,Nat.le_refl _,Nat.zero_le _⟩
  case round =>
   obtain ⟨k,t,fs,⟨pos,bad⟩,vF,rfl,rfl,hO4,HR0,hk,rfl,hp4,hfl,htl⟩:=hrel
   have HR:Hid _:=HR0
   clear HR0 hO3 hp3
   have hbc:wr.cell? ⟨w.heap.size,2,none⟩=some (.bool bad):=Blk.cell hO4.rd 2
   by_cases hkn:k<n2
   case neg =>
    obtain rfl:k=n2:=by omega
    have HE:Hid (rdFns s k r3 [] 0=(fs,t,⟨pos,bad⟩)):=by rw [Hid,<- HR.out,Nat.sub_self];rfl
    go_wp2_with fail;go_meet
    exact ⟨fs,t,⟨pos,bad⟩,vF,rfl,hO4,HE.out,hp4,hfl,htl⟩
   obtain ⟨j,hj⟩:∃ j,n2 - k=j+1:=⟨n2 - k - 1,by omega⟩
   have HJ:=hid hj
   have HR2:=HR.out
   rw [hj,rdFns] at HR2
   have HR3:Hid _:=HR2
   clear HR2 HR hj
   cases bad with
   | true =>
    have HE:Hid (rdFns s n2 r3 [] 0=(fs,t,⟨pos,true⟩)):=by rw [Hid,<- HR3.out];rfl
    go_wp2_with fail;go_meet
    exact ⟨fs,t,⟨pos,true⟩,vF,rfl,hO4,HE.out,hp4,by omega,htl⟩
   | false =>
    have HR4:Hid _:=(if_neg (by simp):_=_).symm.trans HR3.out
    clear HR3
    have hpn:=rnm_pos s ⟨pos,false⟩ hp4
    have hl1:=rw2_le s (rnm s ⟨pos,false⟩).2
    have hpa:=rw2_pos s _ hpn
    go_wp2_with fail
    refine (rname_any w.heap.size s ⟨pos,false⟩ _ hs hp4 hO4.rd).mono ?_
    rintro e w3 ⟨rfl,h3,m3⟩
    have hO5:=hO4.read m3 h3
    clear m3 h3 hO4;generalize rnm s ⟨pos,false⟩=q at *;obtain ⟨nm,r4⟩:=q;simp only at *
    have hO6:=hO5.quiet ((Mods.refl _ _).alloc (.cells #[.string nm,.slice none 0 0,.slice none 0 0,.int .i64 0,.slice none 0 0,.slice none 0 0,.int .i64 0,.slice none 0 0] 46))
    have hb6:Blk (w3.alloc (.cells #[.string nm,.slice none 0 0,.slice none 0 0,.int .i64 0,.slice none 0 0,.slice none 0 0,.int .i64 0,.slice none 0 0] 46)) w3.heap.size #[.string nm,.slice none 0 0,.slice none 0 0,.int .i64 0,.slice none 0 0,.slice none 0 0,.int .i64 0,.slice none 0 0] 46:=Blk.new _ _ _
    have HVM:=hid hO5.sm.lt;have HVF:=hid hO5.sf.lt
    have hr2:w.heap.size<w3.heap.size:=Blk.lt hO5.rd
    have hp2':w.heap.size+1<w3.heap.size:=hO5.pg.lt
    clear hO5;go_wp2_with fail
    refine (rtwo_any w.heap.size s r4 _ hs hO6.rd).mono ?_
    rintro e w4 ⟨rfl,h4,m4⟩
    have hO7:=hO6.read m4 h4
    have hb7:=hb6.mods m4 (show ¬ w3.heap.size=w.heap.size by omega)
    clear m4 h4 hO6 hb6;generalize rw2 s r4=q at *;obtain ⟨na,r5⟩:=q;simp only at *
    have f5:=hb7.frozen
    have g5:w4.cell? ⟨w3.heap.size,3,none⟩=some (.int .i64 0):=hb7.cell 3
    have hO8:=hO7.setO (a:=⟨w3.heap.size,3,none⟩) (show w3.heap.size≠w.heap.size by omega) (show w3.heap.size≠w.heap.size+1 by omega) (fun e=>by have:=HVM.out _ e;simp at this) (fun e=>by have:=HVF.out _ e;simp at this) (show w.heap.size<=w3.heap.size by omega) (.int .i64 na)
    have hb8:Blk (w4.setCell ⟨w3.heap.size,3,none⟩ (.int .i64 na)) w3.heap.size #[.string nm,.slice none 0 0,.slice none 0 0,.int .i64 na,.slice none 0 0,.slice none 0 0,.int .i64 0,.slice none 0 0] 46:=hb7.set 3 (.int .i64 na)
    clear hO7 hb7;go_upto_region 24 with fail
    generalize hW:w4.setCell ⟨w3.heap.size,3,none⟩ (.int .i64 na)=W at *
    clear hW f5 g5
    have HP:Hid _:=hO8
    obtain ⟨i0,i1,i2,i3,i4,i5,i6,i7⟩:=hb8.cells8
    have p1:W.cell? ⟨w.heap.size+1,1,none⟩=some vF:=hO8.pg.cell 1
    have pf:=hO8.pg.frozen
    have hlW:w3.heap.size<W.heap.size:=hb8.lt
    have qa:∀ o,(W.alloc o).cell? ⟨w.heap.size+1,1,none⟩=some vF:=fun o=>(hO8.quiet ((Mods.refl _ _).alloc o)).pg.cell 1
    clear hO8 hb8;go_wp2_with fail
    go_region_law (refine step_append_sl rfl (.tmp 99) (.tmp 101) 39 rfl 46 iF (.agg #[.string E0,.slice none 0 0,.slice none 0 0,.int .i64 0,.slice none 0 0,.slice none 0 0,.int .i64 0,.slice none 0 0]) 8 152 Tryz.underlying39 hiF hzF hsF hbF rfl (by decide) vF fs.length (fs.flatMap RFn.cells) (by simp [Act.eval]) (HP.out.quiet (((Mods.refl _ _).drew).alloc _)).sf ⟨W.heap.size,0,none⟩ 1 1 (RFn.cells ⟨nm,na⟩) (by simp [Act.eval]) rfl (news_cells _ _ _ _ (by simp)) (fn_one _) (by unfold maxLen;omega) (by omega) ?_;intro v6 w6 s6 m6 l6;obtain ⟨o6,cp6,rfl,_⟩:=Sl.view s6;obtain ⟨y0,y1,yf⟩:=HP.out.midM (.inr rfl) (((Mods.refl _ _).alloc _).drew) m6)
    all_goals
     go_wp2_with fail
     go_roundg (n2 - (k+1))
     case measure=>omega
     case rel=>exact ⟨k+1,t+na,fs++[⟨nm,na⟩],r5,_,by go_num,by go_num,(HP.out.quiet (((Mods.refl _ _).alloc _).drew)).appF s6 m6 l6,by have:=HJ.out;rw [show n2 - (k+1)=j by omega];exact HR4.out,by omega,rfl,hpa,by simp;omega,by simp;omega⟩
 case rest =>
 obtain ⟨fs,t,r4,vF,rfl,hO4,hE,hp4,hfl,htl⟩:=hcut
 have HO4:=HO3.out
 rw [openFns,hE] at HO4
 have HSL:Hid (∀ f∈fs,f.slots<=t):=by
  have:=rdFns_le s n2 r3 [] 0 (fun f hf=>by cases hf)
  rw [hE] at this;exact this
 have HO5:=hid HO4;clear HO3 HO4 hE hO3 hp3;go_wp2_with fail
 refine (rising_any _ ms fs vM vF _ hO4.pg hO4.sm hO4.sf (by omega) (by omega)).mono ?_
 rintro e w3 ⟨rfl,m3⟩
 have hO5:=hO4.quiet m3
 clear m3 hO4;obtain ⟨pos4,bad4⟩:=r4
 have hbc:w3.cell? ⟨w.heap.size,2,none⟩=some (.bool bad4):=Blk.cell hO5.rd 2
 cases bad4 with
 | true =>
  have HN:Hid (openM s=none):=by rw [Hid,HO5.out,openMid,if_pos (.inl rfl)]
  go_wp2_with fail;go_ret2;exact OpenPost.no HN.out hO5.md
 | false =>
 cases hri:risingM ms fs with
 | false =>
  have HN:Hid (openM s=none):=by rw [Hid,HO5.out,openMid,if_pos (.inr (.inl hri))]
  go_wp2_with fail;go_ret2;exact OpenPost.no HN.out hO5.md
 | true =>
 by_cases ht2:200<t
 case pos =>
  have HN:Hid (openM s=none):=by rw [Hid,HO5.out,openMid,if_pos (.inr (.inr ht2))]
  have ht2':(200:Int)<(t:Int):=by omega
  go_wp2_with fail;go_ret2;exact OpenPost.no HN.out hO5.md
 have ht2':decide ((200:Int)<(t:Int))=false:=decide_eq_false (by omega)
 have HO6:Hid (openM s=match rdBodies s fs ⟨pos4,false⟩ [] with
  | none=>none
  | some (os,r3)=>match refsM s ms os r3 with
   | none=>none
   | some (os',r4)=>if r4.bad=false/\r4.pos=s.size then some (ms,fs,os') else none):=by
  rw [Hid,HO5.out,openMid,if_neg (by simp [hri,ht2])]
  rfl
 have hm8:ms.length<=8:=by simp [risingM] at hri;omega
 have hf16:fs.length<=16:=by simp [risingM] at hri;omega
 have hP0:=hO5.start
 have h50:=hO5.rd
 have hmd0:=hO5.md
 have hbd0:w.heap.size<=w3.heap.size:=hO5.md.size
 have hlow:=hO5.ff
 have ht3:t<=200:=by omega
 clear HO5 hri ht2 hO5;obtain ⟨oM,cM,rfl,_⟩:=hP0.maps.view
 have hlz:(fs.map (fun f=>(f,HFn.nil))).length=fs.length:=by simp
 have hrows:=hP0.rows
 rw [hlz] at hrows;obtain ⟨oF,cF,rfl,_⟩:=hrows.view;clear hrows hlz
 have HLOW:Hid _:=hlow
 clear hlow;go_wp2_with fail
 go_loopg [16] fs.length (fun g iv wx=>BodRel w w3 (w.heap.size+1) w.heap.size (.slice oM ms.length cM) (.slice oF fs.length cF) ms fs s pos4 g iv wx)
 case atStart=>exact ⟨[],_,_,⟨pos4,false⟩,rfl,map_nils fs,hP0,fun i hi h=>by simp,h50,by simp,hp4,by simp,fun o ho=>(by simp at ho),hmd0,Nat.le_refl _,Nat.zero_le _⟩
 case round =>
  obtain ⟨os,fx,bd,r5,rfl,hfx,hP,hnil,hrd5,HR0,hp5,rfl,hos,hmd5,hb0,hosl⟩:=hrel.ex
  have HR:Hid _:=HR0
  clear HR0 hrel hP0 h50 hmd0
  have p1:wr.cell? ⟨w.heap.size+1,1,none⟩=some (.slice oF fs.length cF):=hP.prog.cell 1
  have hxl:fx.length=fs.length:=by rw [<- hfx];simp
  have HXL:Hid _:=hxl
  have HFX:Hid _:=hfx
  clear hxl hfx
  by_cases hk:os.length<fs.length
  ·have hkx:os.length<fx.length:=by have:=HXL.out;omega
   obtain ⟨gF,hgF⟩:∃ g,oF=some ⟨g,0,none⟩:=by
    obtain ⟨o',cap',hv,h2⟩:=hP.rows.view
    obtain ⟨g,cs,hg,_⟩:=h2 (by omega)
    exact ⟨g,(Value.slice.inj hv).1.trans hg⟩
   subst hgF
   have hrow:=hP.rows
   rw [HXL.out] at hrow;obtain ⟨cs,hbF,hB⟩:=hrow.blk
   obtain ⟨f,hfk⟩:∃ f,fs[os.length]?=some f:=⟨fs[os.length],by simp [hk]⟩
   have hmem:f∈fs:=List.mem_of_getElem? hfk
   have hsl:=HSL.out f hmem
   have hfxk:fx[os.length]=(f,HFn.nil):=by
    have h1:=hnil os.length hkx (Nat.le_refl _)
    have h2:(fx.map (·.1))[os.length]?=some f:=by rw [HFX.out];exact hfk
    rw [List.getElem?_map,List.getElem?_eq_getElem hkx] at h2
    have h3:fx[os.length].1=f:=by simpa using h2
    rw [<- h3,<- h1]
   have hcell:∀ c,c<8->cs[os.length*8+c]?=(rowC (f,HFn.nil))[c]?:=by
    intro c hc
    rw [hB.get _ (by omega),flat_get rowC 8 rowC_len fx os.length c hkx hc,hfxk]
   have hcsz:os.length*8+8<=cs.size:=by rw [hB.sz];have:=hB.nc;omega
   have hpf:w.heap.size+1≠gF:=fun e=>hP.fp (by rw [e];rfl)
   have hfr:gF≠w.heap.size:=fun e=>hP.fr (by rw [<- e];rfl)
   have hlo:w.heap.size<=gF:=by have:=HLOW.out gF rfl;omega
   have HRD:Hid (rdBodies s (fs.drop os.length) r5 os=match bodyM s f.slots r5 with
     | none=>none
     | some o=>rdBodies s (fs.drop (os.length+1)) o.r (os++[o])):=by
    rw [Hid,List.drop_eq_getElem_cons hk,show fs[os.length]=f by rw [List.getElem?_eq_getElem hk] at hfk;simpa using hfk,rdBodies]
    rfl
   have HFK:Hid _:=hfxk
   have HCL:Hid _:=hcell
   clear hcell hfxk hfk hrow hmem;go_wp2_with fail
   refine (body_any lab_said (w.heap.size+1) gF w.heap.size os.length fs.length cF ms.length cM oM cs s r5 f.slots _ hs hk (by omega) (by omega) (by omega) hP.prog hbF hrd5 hpf (by omega) hfr hcsz (HCL.out 1 (by omega)) (HCL.out 2 (by omega)) (HCL.out 3 (by omega)) (HCL.out 4 (by omega)) (HCL.out 5 (by omega))).mono ?_
   rintro e w4 ⟨rfl,m4,ho4⟩
   have hmd6:Mods Nil' w w4:=hmd5.step m4 (fun k hk e=>by rcases e with e | e<;>omega)
   cases hbm:bodyM s f.slots r5 with
   | none =>
    have HN:Hid (openM s=none):=by
     rw [Hid,HO6.out,<- HR.out,HRD.out,hbm]
    go_wp2_with fail;go_ret2;exact OpenPost.no HN.out hmd6
   | some o =>
    obtain ⟨hrd6,hF6⟩:=ho4 o hbm;obtain ⟨h2,hP6⟩:=hP.body HXL.out.symm hkx HFK.out hB m4 hF6
    have hbo:=body_ok s f.slots r5 o hbm hp5 (by omega)
    have HRE:Hid (rdBodies s (fs.drop (os.length+1)) o.r (os++[o])=rdBodies s fs ⟨pos4,false⟩ []):=by
     rw [Hid,<- HR.out,HRD.out,hbm]
    have HP6:Hid _:=hP6
    clear hP6;go_wp2_with fail
    go_roundg (fs.length - (os.length+1))
    case measure=>omega
    case rel =>
     refine ⟨os++[o],fx.set os.length (f,h2),_,o.r,by simp,?_,HP6.out,?_,hrd6,by simpa using HRE.out,hbo.1,by simp,?_,hmd6,by simpa using hb0,by simp;omega⟩
     ·rw [List.map_set,HFX.out]
      have h1:fs[os.length]=f:=by
       have:=HFK.out
       have h3:(fx.map (·.1))[os.length]?=some f:=by rw [List.getElem?_map,List.getElem?_eq_getElem hkx,this];rfl
       rw [HFX.out,List.getElem?_eq_getElem hk] at h3
       simpa using h3
      show fs.set os.length f=fs
      rw [<- h1,List.set_getElem_self]
     ·intro i hi hle
      have hle':os.length+1<=i:=by simpa using hle
      rw [List.getElem_set_ne (by omega)]
      exact hnil i (by simpa using hi) (by omega)
     ·intro o' ho'
      rcases List.mem_append.1 ho' with ho' | ho'
      ·exact hos o' ho'
      ·rw [List.mem_singleton.1 ho'];exact hbo.2
  ·have hole:os.length=fx.length:=by
    have h1:=HXL.out
    have h2:os.length<=fs.length:=hosl
    omega
   have HRB:Hid (rdBodies s fs ⟨pos4,false⟩ []=some (os,r5)):=by
    rw [Hid,<- HR.out,List.drop_eq_nil_of_le (by omega)];rfl
   have HO7:Hid (openM s=match refsM s ms os r5 with
     | none=>none
     | some (os',r4)=>if r4.bad=false/\r4.pos=s.size then some (ms,fs,os') else none):=by
    rw [Hid,HO6.out,HRB.out]
   have hrf:=refs_any wr (w.heap.size+1) w.heap.size (.slice oM ms.length cM) (.slice oF fs.length cF) ms fx bd s os r5 hs hP hrd5 hp5 hole (by have:=HXL.out;omega) (by omega) hos
   clear HR HO6;go_wp2_with fail;refine hrf.mono ?_;rintro e w4 ⟨rfl,m4,ho4⟩
   have hmd6:Mods Nil' w w4:=hmd5.step m4 (fun k hk e=>by rcases e with e | e<;>omega)
   cases hrm:refsM s ms os r5 with
   | none =>
    have HN:Hid (openM s=none):=by rw [Hid,HO7.out,hrm]
    go_wp2_with fail;go_quiet (fail);go_wp2_with fail;go_ret2
    exact OpenPost.no HN.out (hmd6.drewN _)
   | some o =>
    obtain ⟨hP7,hrd7⟩:=ho4 o hrm;obtain ⟨os',pos7,bad7⟩:=o
    simp only at hP7 hrd7
    have b7:w4.cell? ⟨w.heap.size,2,none⟩=some (.bool bad7):=Blk.cell hrd7 2
    have a7:w4.cell? ⟨w.heap.size,1,none⟩=some (.int .i64 pos7):=Blk.cell hrd7 1
    cases bad7 with
    | true =>
     have HN:Hid (openM s=none):=by rw [Hid,HO7.out,hrm];simp
     go_wp2_with fail;go_quiet (fail);go_wp2_with fail;go_ret2
     exact OpenPost.no HN.out (hmd6.drewN _)
    | false =>
     by_cases hps:pos7=s.size
     ·have hps':((pos7:Int)==(s.size:Int))=true:=by simp [hps]
      have HS:Hid (openM s=some (ms,fs,os')):=by rw [Hid,HO7.out,hrm];simp [hps]
      have HPS:Hid _:=hps
      clear hps;go_wp2_with fail;go_quiet (fail);go_wp2_with fail;go_ret2
      refine ⟨hmd6.drewN _,?_⟩
      rw [HS.out]
      refine ⟨w.heap.size+1,w.heap.size,.slice oM ms.length cM,.slice oF fs.length cF,fx.map (·.2),bd,rfl,?_,by have:=HXL.out;simp [this],?_,by omega⟩
      ·show PInv _ _ _ _ _ ms (fs.zip (fx.map (·.2))) os' bd
       have hz:fs.zip (fx.map (·.2))=fx:=by rw [<- HFX.out];exact zip_fs fx
       rw [hz]
       exact hP7.quiet ((Mods.refl _ _).drewN _)
      ·have:=refs_len s ms os r5 _ hrm
       show os'.length=fs.length
       have h3:os'.length=os.length:=this
       have:=HXL.out
       omega
     ·have hps':((pos7:Int)==(s.size:Int))=false:=by simp;omega
      have HN:Hid (openM s=none):=by rw [Hid,HO7.out,hrm];simp [hps]
      have HPS:Hid _:=hps
      clear hps;go_wp2_with fail;go_quiet (fail);go_wp2_with fail;go_ret2
      exact OpenPost.no HN.out (hmd6.drewN _)
end Go.Proofs.YtoknbkfclhmapaaGreatDoor
