import Derived.Test.YtnhcaifopaeohaaGreatDoorM12
import Derived.Test.YtnhcaifopaeohaaGreatDoorM05
import Derived.OwnWalk
import Derived.Deep.CutBlock
import Derived.Deep.LoopGhost
import Derived.Deep.DeepCutAuto
import Derived.BigQuiet
import Derived.Deep.RegionLaw
import Derived.Test.YtnhcaifopaeohaaGreatDoorM49
import Derived.Test.YtnhcaifopaeohaaGreatDoorM44
namespace Go.Proofs.YtnhcaifopaeohaaGreatDoor
open Go.RowKit
set_option linter.all false
def strsV (l:List (List UInt8)):List Value:=l.map (fun s=>Value.string (T s))
theorem strsV_app (l:List (List UInt8)) (s:List UInt8):strsV (l++[s])=strsV l++[.string (T s)]:=by simp [strsV]
structure StrL (w0 w:World) (v:Value) (l:List (List UInt8)):Prop where
 sl:Sl w 9 1 v l.length (strsV l)
 lo:∀ k,v.ownBlock=some k->w0.heap.size<=k
 md:Mods Nil' w0 w
theorem StrL.nil {w0 w:World} (m:Mods Nil' w0 w):StrL w0 w (.slice none 0 0) []:=⟨Sl.nil _ _ _,fun k h=>(by cases h),m⟩
theorem StrL.quiet {w0 w w':World} {v:Value} {l:List (List UInt8)} (h:StrL w0 w v l) (m:Mods Nil' w w'):StrL w0 w' v l:=⟨h.sl.mods m (fun _ _=>id),h.lo,h.md.trans m⟩
theorem StrL.app {w0 w w':World} {v v':Value} {l:List (List UInt8)} {s:List UInt8} (h:StrL w0 w v l) (hs:Sl w' 9 1 v' (l.length+1) (strsV l++[.string (T s)])) (m:Mods (fun k=>v.ownBlock=some k) w w') (hl:∀ k,v'.ownBlock=some k->v.ownBlock=some k\/w.heap.size<=k):StrL w0 w' v' (l++[s]):=by
 refine ⟨?_,fun k hk=>?_,h.md.step m (fun i hi e=>by have:=h.lo i e;omega)⟩
 ·rw [strsV_app,List.length_append];exact hs
 ·rcases hl k hk with e | e
  ·exact h.lo k e
  ·have:=h.md.size;omega
theorem StrL.view {w0 w:World} {v:Value} {l:List (List UInt8)} (h:StrL w0 w v l):∃ o cap,v=.slice o l.length cap/\(0<l.length->∃ g cs,o=some ⟨g,0,none⟩/\Blk w g cs 9/\(∀ k (h:k<l.length),cs[k]?=some (.string (T l[k])))/\∀ k (h:k<l.length),w.cell? ⟨g,k,none⟩=some (.string (T l[k]))):=by
 obtain ⟨o,cap,hv,h2⟩:=h.sl.view
 refine ⟨o,cap,hv,fun hp=>?_⟩
 obtain ⟨g,cs,rfl,hb,ht,_⟩:=h2 hp
 have key:∀ k (h:k<l.length),w.cell? ⟨g,k,none⟩=some (.string (T l[k])):=fun k hk=>by
  rw [take_cell hb ht k (by omega)]
  simp [strsV,hk]
 refine ⟨g,cs,rfl,hb,fun k hk=>?_,key⟩
 have:=key k hk
 rwa [hb.cell] at this
theorem cell_modsK {w w':World} {a:Addr} {v:Value} (m:Mods Nil' w w') (h:w.cell? a=some v):w'.cell? a=some v:=by
 have hl:a.block<w.heap.size:=by
  unfold World.cell? at h
  cases hq:w.heap[a.block]? with
  | none=>rw [hq] at h;simp at h
  | some x=>exact (Array.getElem?_eq_some_iff.1 hq).1
 unfold World.cell? at h ⊢
 rw [m.block a.block hl id];exact h
theorem StrL.wide {w0 w1 w:World} {v:Value} {l:List (List UInt8)} (h:StrL w1 w v l) (m:Mods Nil' w0 w1):StrL w0 w v l:=⟨h.sl,fun k hk=>by have:=h.lo k hk;have:=m.size;omega,m.trans h.md⟩
def turnL {α:Type} (l:List α) (k:Nat):List α:=l.drop k++l.take k
theorem turn_len {α:Type} (l:List α) (k:Nat):(turnL l k).length=l.length:=by simp [turnL];omega
theorem turn_perm {α:Type} (l:List α) (k:Nat):l.Perm (turnL l k):=by
 have:=(List.perm_append_comm:(l.take k++l.drop k).Perm (l.drop k++l.take k))
 rwa [List.take_append_drop] at this
theorem turn_at {α:Type} (l:List α) (k i:Nat) (hk:k<l.length) (hi:i<l.length):(turnL l k)[i]'(by rw [turn_len];exact hi)=l[(i+k) % l.length]'(Nat.mod_lt _ (by omega)):=by
 unfold turnL
 by_cases h:i<l.length - k
 ·have hm:(i+k) % l.length=k+i:=by rw [Nat.mod_eq_of_lt (by omega)];omega
  rw [List.getElem_append_left (by simp;omega),List.getElem_drop]
  simp only [hm]
 ·have hm:(i+k) % l.length=i - (l.length - k):=by
   rw [Nat.mod_eq_sub_mod (by omega),Nat.mod_eq_of_lt (by omega)];omega
  rw [List.getElem_append_right (by simp;omega),List.getElem_take]
  simp only [hm,List.length_drop]
theorem turn_take {α:Type} (l:List α) (k i:Nat) (hk:k<l.length) (hi:i<l.length):(turnL l k).take (i+1)=(turnL l k).take i++[l[(i+k) % l.length]'(Nat.mod_lt _ (by omega))]:=by
 rw [List.take_succ_eq_append_getElem (by rw [turn_len];exact hi),turn_at l k i hk hi]
theorem rev_take1 {α:Type} (l:List α) (i:Nat) (hi:i<l.length):l.reverse.take (i+1)=l.reverse.take i++[l[l.length - 1 - i]'(by omega)]:=by
 rw [List.take_succ_eq_append_getElem (by simpa using hi),List.getElem_reverse]
set_option maxRecDepth 100000 in
theorem pick_any (w:World) (c:Int) (n:Nat) (h0:-9223372036854775808<=c) (h1:c<=9223372036854775807) (hn:0<n) (hn8:n<=8) :
  Calls Tryz.prog 9 #[.int .i64 c,.int .i64 n] w fun e w'=>(∃ k:Nat,e=.returned (.int .i64 k)/\k<n)/\w'=w:=by
 by_cases hc:c<0
 ·have e:((((-(c+1)) % (n:Int)).toNat:Nat):Int)=-((c+1).tmod n):=by
   rw [<- Int.neg_tmod,Int.tmod_eq_emod_of_nonneg (by omega)]
   exact Int.toNat_of_nonneg (Int.emod_nonneg _ (by omega))
  have hl:((-(c+1)) % (n:Int)).toNat<n:=by
   have:=Int.emod_lt_of_pos (-(c+1)) (show (0:Int)<n by omega)
   have:=Int.emod_nonneg (-(c+1)) (show (n:Int)≠0 by omega)
   omega
  have HE:Hid (∃ k:Nat,(k:Int)=-((c+1).tmod n)/\k<n):=⟨_,e,hl⟩
  clear e hl
  go_enter Tryz.func9,Tryz.ntmps9
  go_wp2_with fail;go_ret;obtain ⟨k,e,hl⟩:=HE.out
  exact ⟨⟨k,by rw [e];rfl,hl⟩,rfl⟩
 ·have e:(((c % (n:Int)).toNat:Nat):Int)=c % n:=Int.toNat_of_nonneg (Int.emod_nonneg _ (by omega))
  have hl:(c % (n:Int)).toNat<n:=by
   have:=Int.emod_lt_of_pos c (show (0:Int)<n by omega)
   have:=Int.emod_nonneg c (show (n:Int)≠0 by omega)
   omega
  have HE:Hid (∃ k:Nat,(k:Int)=c % n/\k<n):=⟨_,e,hl⟩
  clear e hl
  go_enter Tryz.func9,Tryz.ntmps9
  go_wp2_with fail;go_ret;obtain ⟨k,e,hl⟩:=HE.out
  exact ⟨⟨k,by rw [e];rfl,hl⟩,rfl⟩
set_option maxRecDepth 100000 in
set_option maxHeartbeats 1000000 in
theorem mixed_walk (w:World) (o:Option Addr) (cap:Nat) (texts:List (List UInt8)) (turn:Int) (h0:-9223372036854775808<=turn) (h1:turn<=9223372036854775807)
  (LQ:List (List UInt8)->ByteArray->Int->Prop) (HLQ:Hid (∀ l l' s s' e e',l.Perm l'->LQ l s e->LQ l' s' e'->s=s'/\(e=0 ↔ e'=0)))
  (hb:0<texts.length->∃ g off,o=some ⟨g,off,none⟩/\∀ k (h:k<texts.length),w.cell? ⟨g,off+k,none⟩=some (.string (T texts[k]))) (hn:texts.length<=maxLen)
  (HSU:Hid (Calls Tryz.prog 6 #[] w fun e w'=>e=.returned (.bool true)/\Mods Nil' w w'))
  (HAS:Hid (∀ w1 t,Mods Nil' w w1->Calls Tryz.prog 8 #[.string (T t)] w1 fun e w'=>∃ (s:List UInt8) (c n:Nat),e=.returned (.tuple #[.string (T s),.int .i64 c,.int .i64 n])/\s.length<=400000/\Mods Nil' w1 w'))
  (HLI:Hid (∀ w1 v objs,StrL w w1 v objs->(∀ s∈objs,s.length<=400000)->objs.length<=8->Calls Tryz.prog 10 #[v] w1 fun e w'=>∃ (s:ByteArray) (c a:Int),e=.returned (.tuple #[.string s,.int .i64 c,.int .i64 a])/\LQ objs s c/\Mods Nil' w1 w')) :
  Calls Tryz.prog 5 #[.slice o texts.length cap,.int .i64 turn] w fun e w'=>e=.returned (.bool true)/\Mods Nil' w w':=by
 obtain ⟨iS,hiS,hzS,hsS,hbS⟩:=info_parts info_str
 have HB:Hid (0<texts.length->∃ g off,o=some ⟨g,off,none⟩/\∀ k (h:k<texts.length),w.cell? ⟨g,off+k,none⟩=some (.string (T texts[k]))):=hb
 clear hb
 obtain ⟨n,hnn⟩:∃ n,n=texts.length:=⟨_,rfl⟩
 have HNN:Hid (n=texts.length):=hnn
 have hn':n<=9223372036854775807:=by rw [hnn];exact hn
 rw [<- hnn];clear hnn hn
 go_enter Tryz.func5,Tryz.ntmps5
 go_wp2_with fail;refine HSU.out.mono ?_;rintro e w1 ⟨rfl,m1⟩
 have HM1:Hid (Mods Nil' w w1):=m1
 clear m1 HSU;go_upto_block 0 with fail
 go_cut [6] (fun v wx=>∃ objs,StrL w wx v objs/\objs.length<=8/\∀ s∈objs,s.length<=400000)
 case first =>
  go_wp2_with fail
  go_loopg [6,7] 8 (fun q v iv wx=>∃ (k:Nat) (objs:List (List UInt8)),iv=.int .i64 k/\StrL w wx v objs/\objs.length<=k/\k<=8/\k<=n/\(∀ s∈objs,s.length<=400000)/\q=8 - k)
  case atStart=>exact ⟨0,[],rfl,StrL.nil HM1.out,Nat.le_refl _,by omega,Nat.zero_le _,fun s h=>(by cases h),rfl⟩
  case round =>
   obtain ⟨k,objs,rfl,hS,hok,hk8,hkn,hsm,rfl⟩:=hrel;obtain ⟨o1,c1,rfl,_⟩:=hS.view
   have HS:Hid (StrL w wr (.slice o1 objs.length c1) objs):=hS
   have HSM:Hid (∀ s∈objs,s.length<=400000):=hsm
   clear hS hsm
   by_cases hlt:k<n
   ·by_cases hl8:k<8
    ·have hko:k<texts.length:=by rw [<- HNN.out];exact hlt
     obtain ⟨g,off,rfl,hcl⟩:=HB.out (by omega)
     have l1:wr.cell? ⟨g,off+k,none⟩=some (.string (T texts[k])):=cell_modsK HS.out.md (hcl k hko)
     have HA:=HAS.out wr texts[k] HS.out.md
     clear hcl;generalize T texts[k]=sk at *;go_wp2_with fail;refine HA.mono ?_;rintro e w2 ⟨s,c,a,rfl,hsl,m2⟩
     have HS2:Hid (StrL w w2 (.slice o1 objs.length c1) objs):=HS.out.quiet m2
     have HSL:Hid (s.length<=400000):=hsl
     clear HA HS m2 hsl l1
     by_cases hc:c=0
     ·subst hc
      have HSA:Hid (StrL w (w2.alloc (.cells #[.string (T s)] 9)) (.slice o1 objs.length c1) objs):=HS2.out.quiet ((Mods.refl _ _).alloc _)
      go_wp2_with (at_builtin;refine wpList_append_sl _ rfl (.tmp 47) (.tmp 49) 29 rfl 9 iS (.string ByteArray.empty) 1 16 Tryz.underlying29 hiS hzS hsS hbS rfl (by decide) (.slice o1 objs.length c1) objs.length (strsV objs) rfl HSA.out.sl ⟨w2.heap.size,0,none⟩ 1 1 (#[.string (T s)]:Array Value).toList rfl rfl (news_cells w2 #[.string (T s)] 9 _ rfl) (by simp [Value.oneCell']) (by unfold maxLen;omega) (by omega) ?_;intro v5 w5 s5 m5 l5;obtain ⟨o5,c5,hv5,_⟩:=s5.view;subst hv5)
      have HS5:Hid (StrL w w5 (.slice o5 (objs.length+1) c5) (objs++[s])):=HSA.out.app s5 m5 l5
      clear s5 m5 l5 HSA HS2
      go_roundg (8 - (k+1))
      case measure=>omega
      case rel=>exact ⟨k+1,objs++[s],by go_num,HS5.out,by simp;omega,by omega,by omega,fun x hx=>by
       rcases List.mem_append.1 hx with hx | hx
       ·exact HSM.out x hx
       ·rw [List.mem_singleton.1 hx];exact HSL.out,rfl⟩
     ·have hc':((c:Nat):Int)≠0:=by omega
      have hc2:decide (((c:Nat):Int)=0)=false:=decide_eq_false hc'
      go_wp2_with fail
      go_roundg (8 - (k+1))
      case measure=>omega
      case rel=>exact ⟨k+1,objs,by go_num,HS2.out,by omega,by omega,by omega,HSM.out,rfl⟩
    ·go_wp2_with fail;go_meet
     exact ⟨objs,HS.out,by omega,HSM.out⟩
   ·go_wp2_with fail;go_meet
    exact ⟨objs,HS.out,by omega,HSM.out⟩
 case rest =>
 obtain ⟨objs,hS,hob,hsm⟩:=hcut;obtain ⟨o1,c1,rfl,hv1⟩:=hS.view
 have HS:Hid (StrL w wc (.slice o1 objs.length c1) objs):=hS
 have HSM:Hid (∀ s∈objs,s.length<=400000):=hsm
 have HV:Hid (0<objs.length->∃ g cs,o1=some ⟨g,0,none⟩/\Blk wc g cs 9/\(∀ k (h:k<objs.length),cs[k]?=some (.string (T objs[k])))/\∀ k (h:k<objs.length),wc.cell? ⟨g,k,none⟩=some (.string (T objs[k]))):=hv1
 clear hS hsm hv1 HM1
 by_cases hz:objs.length=0
 ·have hz':decide ((objs.length:Int)=0)=true:=decide_eq_true (by omega)
  go_wp2_with fail;go_ret
  exact ⟨rfl,HS.out.md⟩
 have hp:0<objs.length:=by omega
 have hz':decide ((objs.length:Int)=0)=false:=decide_eq_false (by omega)
 have HPK:=pick_any wc turn objs.length h0 h1 hp hob
 go_wp2_with fail;refine HPK.mono ?_
 rintro e w2 ⟨⟨k,rfl,hk⟩,rfl⟩
 obtain ⟨g1,cs1,rfl,hB1,_,hc1⟩:=HV.out hp
 have HC1:Hid (∀ k (h:k<objs.length),w2.cell? ⟨g1,k,none⟩=some (.string (T objs[k]))):=hc1
 clear hB1 hc1 HV HPK HAS HB HNN hn';go_upto_block 2 with fail
 go_cut [12] (fun v wx=>StrL w2 wx v (turnL objs k))
 case first =>
  go_wp2_with fail
  go_loopg [12,13] objs.length (fun q v iv wx=>∃ (i:Nat),iv=.int .i64 i/\StrL w2 wx v ((turnL objs k).take i)/\i<=objs.length/\q=objs.length - i)
  case atStart=>exact ⟨0,rfl,StrL.nil (Mods.refl _ _),Nat.zero_le _,rfl⟩
  case round =>
   obtain ⟨i,rfl,hM,hi,rfl⟩:=hrel
   have hlen:((turnL objs k).take i).length=i:=by rw [List.length_take,turn_len];omega
   obtain ⟨o2,c2,rfl,_⟩:=hM.view;rw [hlen] at hM ⊢
   by_cases hlt:i<objs.length
   ·have hml:(i+k) % objs.length<objs.length:=Nat.mod_lt _ hp
    have hmi:((i:Int)+k) % (objs.length:Int)=(((i+k) % objs.length:Nat):Int):=by simp
    have HT:Hid ((turnL objs k).take (i+1)=(turnL objs k).take i++[objs[(i+k) % objs.length]]):=turn_take objs k i hk hlt
    have l1:wr.cell? ⟨g1,(i+k) % objs.length,none⟩=some (.string (T objs[(i+k) % objs.length])):=cell_modsK hM.md (HC1.out _ hml)
    generalize objs[(i+k) % objs.length]=x at *;generalize (i+k) % objs.length=j at *
    have HMm:Hid (StrL w2 wr (.slice o2 i c2) ((turnL objs k).take i)):=hM
    have HSA:Hid (Sl (wr.alloc (.cells #[.string (T x)] 9)) 9 1 (.slice o2 i c2) i (strsV ((turnL objs k).take i))):=by
     have:=hM.sl.mods ((Mods.refl Nil' _).alloc (.cells #[.string (T x)] 9)) (fun _ _=>id)
     rw [hlen] at this;exact this
    have HLN:Hid (((turnL objs k).take i).length=i):=hlen
    clear hM hlen;generalize (turnL objs k).take i=tk at *
    go_wp2_with (at_builtin;refine wpList_append_sl _ rfl (.tmp 69) (.tmp 79) 29 rfl 9 iS (.string ByteArray.empty) 1 16 Tryz.underlying29 hiS hzS hsS hbS rfl (by decide) (.slice o2 i c2) i (strsV tk) rfl HSA.out ⟨wr.heap.size,0,none⟩ 1 1 (#[.string (T x)]:Array Value).toList rfl rfl (news_cells wr #[.string (T x)] 9 _ rfl) (by simp [Value.oneCell']) (by unfold maxLen;omega) (by omega) ?_;intro v5 w5 s5 m5 l5;obtain ⟨o5,c5,hv5,_⟩:=s5.view;subst hv5)
    have HS5:Hid (StrL w2 w5 (.slice o5 (i+1) c5) (tk++[x])):=by
     have:=(HMm.out.quiet ((Mods.refl _ _).alloc (.cells #[.string (T x)] 9))).app (v':=.slice o5 (i+1) c5) (s:=x) (by rw [HLN.out];exact s5) m5 l5
     exact this
    clear s5 m5 l5 HSA HMm
    go_roundg (objs.length - (i+1))
    case measure=>omega
    case rel=>exact ⟨i+1,by go_num,by rw [HT.out];exact HS5.out,by omega,rfl⟩
   ·obtain rfl:i=objs.length:=by omega
    have HMm:Hid (StrL w2 wr (.slice o2 objs.length c2) (turnL objs k)):=by
     rw [List.take_of_length_le (by rw [turn_len];exact Nat.le_refl _)] at hM;exact hM
    clear hM hlen;go_wp2_with fail;go_meet;exact HMm.out
 case rest =>
 obtain ⟨o2,c2,rfl,_⟩:=hcut.view
 have HM2:Hid (StrL w2 wc (.slice o2 (turnL objs k).length c2) (turnL objs k)):=hcut
 clear hcut
 have hlen2:(turnL objs k).length=objs.length:=turn_len _ _
 rw [hlen2] at HM2 ⊢;go_upto_block 4 with fail
 obtain ⟨w3,hw3⟩:∃ w3,w3=wc:=⟨_,rfl⟩
 subst hw3
 go_cut [14] (fun v wx=>StrL w3 wx v objs.reverse)
 case first =>
  go_wp2_with fail
  go_loopg [14,15] objs.length (fun q v iv wx=>∃ (i:Nat),iv=.int .i64 ((objs.length:Int) - 1 - i)/\StrL w3 wx v (objs.reverse.take i)/\i<=objs.length/\q=objs.length - i)
  case atStart=>exact ⟨0,by go_num,StrL.nil (Mods.refl _ _),Nat.zero_le _,rfl⟩
  case round =>
   obtain ⟨i,rfl,hM,hi,rfl⟩:=hrel
   have hlen:(objs.reverse.take i).length=i:=by rw [List.length_take,List.length_reverse];omega
   obtain ⟨o3,c3,rfl,_⟩:=hM.view;rw [hlen] at hM ⊢
   by_cases hlt:i<objs.length
   ·have HT:Hid (objs.reverse.take (i+1)=objs.reverse.take i++[objs[objs.length - 1 - i]]):=rev_take1 objs i hlt
    have l1:wr.cell? ⟨g1,objs.length - 1 - i,none⟩=some (.string (T objs[objs.length - 1 - i])):=cell_modsK (HM2.out.md.trans hM.md) (HC1.out _ (by omega))
    have hml:objs.length - 1 - i<objs.length:=by omega
    have hmi:(objs.length:Int) - 1 - i=((objs.length - 1 - i:Nat):Int):=by omega
    generalize objs[objs.length - 1 - i]=x at *;rw [hmi]
    have HMI:Hid ((objs.length:Int) - 1 - i=((objs.length - 1 - i:Nat):Int)):=hmi
    have hji:objs.length - 1 - i+(i+1)=objs.length:=by omega
    clear hmi;generalize objs.length - 1 - i=j at *
    have HMm:Hid (StrL w3 wr (.slice o3 i c3) (objs.reverse.take i)):=hM
    have HSA:Hid (Sl (wr.alloc (.cells #[.string (T x)] 9)) 9 1 (.slice o3 i c3) i (strsV (objs.reverse.take i))):=by
     have:=hM.sl.mods ((Mods.refl Nil' _).alloc (.cells #[.string (T x)] 9)) (fun _ _=>id)
     rw [hlen] at this;exact this
    have HLN:Hid ((objs.reverse.take i).length=i):=hlen
    clear hM hlen;generalize objs.reverse.take i=tk at *
    go_wp2_with (at_builtin;refine wpList_append_sl _ rfl (.tmp 88) (.tmp 93) 29 rfl 9 iS (.string ByteArray.empty) 1 16 Tryz.underlying29 hiS hzS hsS hbS rfl (by decide) (.slice o3 i c3) i (strsV tk) rfl HSA.out ⟨wr.heap.size,0,none⟩ 1 1 (#[.string (T x)]:Array Value).toList rfl rfl (news_cells wr #[.string (T x)] 9 _ rfl) (by simp [Value.oneCell']) (by unfold maxLen;omega) (by omega) ?_;intro v5 w5 s5 m5 l5;obtain ⟨o5,c5,hv5,_⟩:=s5.view;subst hv5)
    have HS5:Hid (StrL w3 w5 (.slice o5 (i+1) c5) (tk++[x])):=by
     have:=(HMm.out.quiet ((Mods.refl _ _).alloc (.cells #[.string (T x)] 9))).app (v':=.slice o5 (i+1) c5) (s:=x) (by rw [HLN.out];exact s5) m5 l5
     exact this
    clear s5 m5 l5 HSA HMm
    go_roundg (objs.length - (i+1))
    case measure=>omega
    case rel=>exact ⟨i+1,by congr 1;omega,by rw [HT.out];exact HS5.out,by omega,rfl⟩
   ·obtain rfl:i=objs.length:=by omega
    have HMm:Hid (StrL w3 wr (.slice o3 objs.length c3) objs.reverse):=by
     rw [List.take_of_length_le (by rw [List.length_reverse];exact Nat.le_refl _)] at hM;exact hM
    have hneg:(objs.length:Int) - 1 - objs.length=-1:=by omega
    rw [hneg];clear hM hlen hneg;go_wp2_with fail;go_meet;exact HMm.out
 case rest =>
 obtain ⟨o3,c3,rfl,_⟩:=hcut.view
 have HR1:Hid (StrL w3 wc (.slice o3 objs.reverse.length c3) objs.reverse):=hcut
 rw [List.length_reverse] at HR1 ⊢;clear hcut HC1
 have H1:Hid (StrL w wc (.slice (some ⟨g1,0,none⟩) objs.length c1) objs):=HS.out.quiet (HM2.out.md.trans HR1.out.md)
 have H2:Hid (StrL w wc (.slice o2 objs.length c2) (turnL objs k)):=(HM2.out.wide HS.out.md).quiet HR1.out.md
 have H3:Hid (StrL w wc (.slice o3 objs.length c3) objs.reverse):=HR1.out.wide (HS.out.md.trans HM2.out.md)
 clear HS HM2 HR1
 have HSM2:Hid (∀ s∈turnL objs k,s.length<=400000):=fun s hs=>HSM.out s ((turn_perm objs k).mem_iff.2 hs)
 have HSM3:Hid (∀ s∈objs.reverse,s.length<=400000):=fun s hs=>HSM.out s (List.mem_reverse.1 hs)
 have HC1:=HLI.out wc _ objs H1.out HSM.out hob
 go_wp2_with fail;refine HC1.mono ?_;rintro e w4 ⟨a1,e1,p1,rfl,q1,m4⟩
 have HQ1:Hid (LQ objs a1 e1):=q1
 have H4:Hid (StrL w w4 (.slice o2 objs.length c2) (turnL objs k)):=H2.out.quiet m4
 have H5:Hid (StrL w w4 (.slice o3 objs.length c3) objs.reverse):=H3.out.quiet m4
 clear HC1 q1 m4 H1 H2 H3
 have HC2:=HLI.out w4 _ (turnL objs k) H4.out HSM2.out (by rw [turn_len];exact hob)
 go_wp2_with fail;refine HC2.mono ?_;rintro e w5 ⟨a2,e2,p2,rfl,q2,m5⟩
 have HQ2:Hid (LQ (turnL objs k) a2 e2):=q2
 have H6:Hid (StrL w w5 (.slice o3 objs.length c3) objs.reverse):=H5.out.quiet m5
 clear HC2 q2 m5 H4 H5
 have HC3:=HLI.out w5 _ objs.reverse H6.out HSM3.out (by rw [List.length_reverse];exact hob)
 go_wp2_with fail;refine HC3.mono ?_;rintro e w6 ⟨a3,e3,p3,rfl,q3,m6⟩
 have HM6:Hid (Mods Nil' w w6):=H6.out.md.trans m6
 obtain ⟨rfl,i2⟩:=HLQ.out _ _ _ _ _ _ (turn_perm objs k) HQ1.out HQ2.out
 obtain ⟨rfl,i3⟩:=HLQ.out _ _ _ _ _ _ (List.reverse_perm objs).symm HQ1.out q3
 clear HC3 q3 m6 H6 HQ1 HQ2 HLQ HLI HSM HSM2 HSM3
 have te:(a1.toList==a1.toList)=true:=by simp
 by_cases hz:e1=0
 ·obtain rfl:=i2.1 hz
  obtain rfl:=i3.1 hz
  subst hz;clear i2 i3;go_wp2_with fail;go_ret
  exact ⟨rfl,HM6.out⟩
 ·have z1:(e1==0)=false:=beq_eq_false_iff_ne.2 hz
  have z2:(e2==0)=false:=beq_eq_false_iff_ne.2 (fun h=>hz (i2.2 h))
  have z3:(e3==0)=false:=beq_eq_false_iff_ne.2 (fun h=>hz (i3.2 h))
  clear i2 i3;go_wp2_with fail;go_ret
  exact ⟨rfl,HM6.out⟩
theorem mixed_any (w:World) (o:Option Addr) (cap:Nat) (texts:List (List UInt8)) (turn:Int) (h0:-9223372036854775808<=turn) (h1:turn<=9223372036854775807)
  (hb:0<texts.length->∃ g off,o=some ⟨g,off,none⟩/\∀ k (h:k<texts.length),w.cell? ⟨g,off+k,none⟩=some (.string (T texts[k]))) (hn:texts.length<=maxLen) (hW:EnvW w) (hE:Env w) (hM:EnvM w) :
  Calls Tryz.prog 5 #[.slice o texts.length cap,.int .i64 turn] w fun e w'=>e=.returned (.bool true)/\Mods Nil' w w':=by
 refine mixed_walk w o cap texts turn h0 h1 (fun l s e=>∃ a,LinkQ l s e a) (fun l l' s s' e e' hp h h'=>?_) hb hn (sure_any w hW hE hM) (fun w1 t m=>?_) (fun w1 v objs hS hs h8=>?_)
 ·obtain ⟨a,h⟩:=h;obtain ⟨a',h'⟩:=h';exact link_perm hp h h'
 ·refine (kasm_any w1 t (hW.mods m) (hE.mods m) (hM.mods m)).mono fun e w' ⟨s,c,n,h1,h2,h3⟩=>⟨BL s,c,n,?_,?_,h3⟩
  ·rw [T_BL];exact h1
  ·have:=asm_small h2
   rw [BL_len];exact this
 ·obtain ⟨o',cap',rfl,hv⟩:=hS.view
  refine (klink_any w1 (hW.mods hS.md) o' cap' objs (fun h=>?_) (by unfold maxLen;omega) (fun s h=>Nat.le_trans (hs s h) (by decide))).mono fun e w' ⟨s,c,a,h1,h2,h3⟩=>⟨s,c,a,h1,⟨a,h2⟩,h3⟩
  obtain ⟨g,cs,h1,h2,h3,_⟩:=hv h
  exact ⟨g,cs,h1,h2,h3⟩
end Go.Proofs.YtnhcaifopaeohaaGreatDoor
