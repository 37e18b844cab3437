import Derived.Test.YtnhcaifopaeohaaGreatDoorM48
import Derived.Test.YtnhcaifopaeohaaGreatDoorM46
import Derived.Test.YtnhcaifopaeohaaGreatDoorM41
import Derived.Test.YtnhcaifopaeohaaGreatDoorM42
namespace Go.Proofs.YtnhcaifopaeohaaGreatDoor
open Go.RowKit
set_option linter.all false
theorem dup_none:∀ (p seen:List ByteArray),dupIn seen p=false ↔ p.Nodup/\∀ s∈p,s ∉ seen
 | [],seen=>by simp [dupIn]
 | s::p,seen=>by
  rw [dupIn]
  by_cases h:inL s seen=true
  ·rw [if_pos h]
   have:=(inL_iff _ _).1 h
   constructor
   ·intro h;cases h
   ·intro h2;exact absurd this (h2.2 s (by simp))
  ·rw [if_neg h,dup_none p (s::seen),List.nodup_cons]
   have hs:s ∉ seen:=fun e=>h ((inL_iff _ _).2 e)
   constructor
   ·rintro ⟨h1,h2⟩
    refine ⟨⟨fun e=>(h2 s e) (by simp),h1⟩,fun x hx=>?_⟩
    rcases List.mem_cons.1 hx with rfl | hx
    ·exact hs
    ·exact fun e=>h2 x hx (by simp [e])
   ·rintro ⟨⟨h1,h2⟩,h3⟩
    refine ⟨h2,fun x hx e=>?_⟩
    rcases List.mem_cons.1 e with rfl | e
    ·exact h1 hx
    ·exact h3 x (by simp [hx]) e
theorem twice_noneC:∀ (l:List (List ByteArray)) (i:Nat) (seen:List ByteArray),twiceP i seen l=-1 ↔ l.flatten.Nodup/\∀ s∈l.flatten,s ∉ seen
 | [],i,seen=>by simp [twiceP]
 | p::l,i,seen=>by
  rw [twiceP,List.flatten_cons,List.nodup_append]
  cases h:dupIn seen p with
  | true =>
   rw [if_pos rfl]
   constructor
   ·intro e;omega
   ·rintro ⟨⟨h1,h2,h3⟩,h4⟩
    have:=(dup_none p seen).2 ⟨h1,fun s hs=>h4 s (List.mem_append_left _ hs)⟩
    rw [h] at this;cases this
  | false =>
   rw [if_neg (by simp),twice_noneC l (i+1)]
   obtain ⟨h1,h2⟩:=(dup_none p seen).1 h
   constructor
   ·rintro ⟨h3,h4⟩
    refine ⟨⟨h1,h3,fun a ha b hb e=>h4 b hb (by subst e;simp [ha])⟩,fun s hs=>?_⟩
    rcases List.mem_append.1 hs with hs | hs
    ·exact h2 s hs
    ·exact fun e=>h4 s hs (by simp [e])
   ·rintro ⟨⟨_,h3,h4⟩,h5⟩
    refine ⟨h3,fun s hs e=>?_⟩
    rcases List.mem_append.1 e with e | e
    ·exact h4 s (List.mem_reverse.1 e) s hs rfl
    ·exact h5 s (List.mem_append_right _ hs) e
def Coh (l:List PMap):Prop:=∀ a∈l,∀ b∈l,a.name=b.name->a=b
theorem sameM_iffC (a b:PMap):sameM a b=true ↔ a=b:=by
 unfold sameM
 simp only [Bool.and_eq_true,decide_eq_true_eq]
 constructor
 ·rintro ⟨h1,h2,h3,h4⟩
  cases a;cases b
  simp only at h1 h2 h3 h4
  rw [h1,h2,h3,h4]
 ·rintro rfl;exact ⟨rfl,rfl,rfl,rfl⟩
theorem T_eq {a b:List UInt8}:T a=T b ↔ a=b:=by
 constructor
 ·intro e
  have:=congrArg BL e
  simpa [BL,T] using this
 ·rintro rfl;rfl
theorem clash_none {seen:List PMap} (hs:Coh seen) (m:PMap):clash seen m=false ↔ Coh (m::seen):=by
 unfold clash
 cases hf:seen.find? (fun a=>decide (T a.name=T m.name)) with
 | none =>
  have hno:∀ a∈seen,a.name≠m.name:=fun a ha e=>by
   have:=List.find?_eq_none.1 hf a ha
   exact this (by rw [e];simp)
  simp only [Option.map_none,Option.getD_none,true_iff]
  intro a ha b hb e
  rcases List.mem_cons.1 ha with ha | ha<;>rcases List.mem_cons.1 hb with hb | hb
  ·rw [ha,hb]
  ·exact absurd (by rw [<- e,ha]) (hno b hb)
  ·exact absurd (by rw [e,hb]) (hno a ha)
  ·exact hs a ha b hb e
 | some c =>
  have hc:=List.mem_of_find?_eq_some hf
  have hn:c.name=m.name:=by
   have:=List.find?_some hf
   exact T_eq.1 (by simpa using this)
  simp only [Option.map_some,Option.getD_some,Bool.not_eq_false']
  rw [sameM_iffC]
  constructor
  ·rintro rfl
   intro a ha b hb e
   have ha':a∈seen:=by
    rcases List.mem_cons.1 ha with rfl | ha
    ·exact hc
    ·exact ha
   have hb':b∈seen:=by
    rcases List.mem_cons.1 hb with rfl | hb
    ·exact hc
    ·exact hb
   exact hs a ha' b hb' e
  ·intro h
   exact h c (by simp [hc]) m (by simp) hn
theorem Coh.sub {l k:List PMap} (h:Coh l) (hs:∀ a∈k,a∈l):Coh k:=fun a ha b hb e=>h a (hs a ha) b (hs b hb) e
theorem oth_none:∀ (l seen:List PMap),Coh seen->(othIn seen l=false ↔ Coh (l++seen))
 | [],seen,h=>by simp [othIn,h]
 | m::l,seen,h=>by
  rw [othIn]
  cases hc:clash seen m with
  | true =>
   rw [if_pos rfl]
   constructor
   ·intro e;cases e
   ·intro e
    have:=(clash_none h m).2 (e.sub (fun a ha=>by
     rcases List.mem_cons.1 ha with rfl | ha
     ·simp
     ·simp [ha]))
    rw [hc] at this;cases this
  | false =>
   have hm:=(clash_none h m).1 hc
   rw [if_neg (by simp),oth_none l (m::seen) hm]
   exact ⟨fun e=>e.sub (fun a ha=>by simp at ha ⊢;rcases ha with ha | ha | ha<;>simp [ha]),fun e=>e.sub (fun a ha=>by simp at ha ⊢;rcases ha with ha | ha | ha<;>simp [ha])⟩
theorem other_none:∀ (l:List (List PMap)) (i:Nat) (seen:List PMap),Coh seen->(otherP i seen l=-1 ↔ Coh (l.flatten++seen))
 | [],i,seen,h=>by simp [otherP,h]
 | p::l,i,seen,h=>by
  rw [otherP,List.flatten_cons]
  cases hc:othIn seen p with
  | true =>
   rw [if_pos rfl]
   constructor
   ·intro e;omega
   ·intro e
    have:=(oth_none p seen h).2 (e.sub (fun a ha=>by
     rcases List.mem_append.1 ha with ha | ha
     ·exact List.mem_append_left _ (List.mem_append_left _ ha)
     ·exact List.mem_append_right _ ha))
    rw [hc] at this;cases this
  | false =>
   have hp:=(oth_none p seen h).1 hc
   have hp':Coh (p.reverse++seen):=hp.sub (fun a ha=>by simpa using ha)
   rw [if_neg (by simp),other_none l (i+1) _ hp']
   refine ⟨fun e=>e.sub (fun a ha=>?_),fun e=>e.sub (fun a ha=>?_)⟩
   ·rcases List.mem_append.1 ha with ha | ha
    ·rcases List.mem_append.1 ha with ha | ha
     ·exact List.mem_append_right _ (List.mem_append_left _ (List.mem_reverse.2 ha))
     ·exact List.mem_append_left _ ha
    ·exact List.mem_append_right _ (List.mem_append_right _ ha)
   ·rcases List.mem_append.1 ha with ha | ha
    ·exact List.mem_append_left _ (List.mem_append_right _ ha)
    ·rcases List.mem_append.1 ha with ha | ha
     ·exact List.mem_append_left _ (List.mem_append_left _ (List.mem_reverse.1 ha))
     ·exact List.mem_append_right _ ha
theorem miss_all (names:List ByteArray):∀ (l:List (List PFn)) (i:Nat),missP names i l=-1 ↔ ∀ p∈l,badP names p=false
 | [],i=>by simp [missP]
 | p::l,i=>by
  rw [missP]
  cases h:badP names p with
  | true =>
   rw [if_pos rfl]
   constructor
   ·intro e;omega
   ·intro e;have:=e p (by simp);rw [h] at this;cases this
  | false =>
   rw [if_neg (by simp),miss_all names l (i+1)]
   simp [h]
theorem faults_zero (ds:List (List PMap × List PFn)) (ms:List PMap) (fs:List PFn):(faultsP ds ms fs).1=0 ↔ ((ds.flatMap (·.2)).map (fun f=>T f.name)).Nodup/\Coh (ds.flatMap (·.1))/\(∀ p∈ds,badP (fnP fs) p.2=false)/\tooP (compM ms) fs=false:=by
 have h1:=twice_noneC (ds.map (fun p=>p.2.map (fun f=>T f.name))) 0 []
 have h2:=other_none (ds.map (·.1)) 0 [] (fun a ha=>by cases ha)
 have h3:=miss_all (fnP fs) (ds.map (·.2)) 0
 have e1:(ds.map (fun p=>p.2.map (fun f=>T f.name))).flatten=(ds.flatMap (·.2)).map (fun f=>T f.name):=by
  rw [List.map_flatMap,List.flatMap_def]
 have e2:(ds.map (·.1)).flatten=ds.flatMap (·.1):=by rw [List.flatMap_def]
 rw [e1] at h1;rw [e2,List.append_nil] at h2
 have h1':twiceP 0 [] (ds.map (fun p=>p.2.map (fun f=>T f.name)))=-1 ↔ ((ds.flatMap (·.2)).map (fun f=>T f.name)).Nodup:=by
  rw [h1];simp
 have h3':missP (fnP fs) 0 (ds.map (·.2))=-1 ↔ ∀ p∈ds,badP (fnP fs) p.2=false:=by
  rw [h3];simp only [List.mem_map,forall_exists_index,and_imp,forall_apply_eq_imp_iff₂]
 rw [<- h1',<- h2,<- h3'];unfold faultsP faultOf;generalize twiceP 0 [] _=r1;generalize otherP 0 [] _=r2;generalize missP (fnP fs) 0 _=r3;generalize tooP (compM ms) fs=t
 by_cases c1:r1=-1
 ·by_cases c2:r2=-1
  ·by_cases c3:r3=-1
   ·cases t<;>simp [c1,c2,c3]
   ·simp [c1,c2,c3]
  ·simp [c1,c2]
 ·simp [c1]
theorem decs_all:∀ (objs:List (List UInt8)),((decsP objs).length<objs.length ↔ ∃ s∈objs,(decodeP s).2.2.bad=true)/\(¬ (decsP objs).length<objs.length->decsP objs=objs.map (fun s=>((decodeP s).1,(decodeP s).2.1)))
 | []=>by simp [decsP]
 | s::l=>by
  obtain ⟨h1,h2⟩:=decs_all l;rw [decsP]
  cases hb:(decodeP s).2.2.bad with
  | true =>
   rw [if_pos rfl]
   refine ⟨⟨fun _=>⟨s,by simp,hb⟩,fun _=>by simp⟩,fun h=>absurd (by simp) h⟩
  | false =>
   rw [if_neg (by simp)]
   have e:(((decodeP s).1,(decodeP s).2.1)::decsP l).length<(s::l).length ↔ (decsP l).length<l.length:=by simp
   refine ⟨?_,fun h=>?_⟩
   ·rw [e,h1]
    constructor
    ·rintro ⟨x,hx,hq⟩;exact ⟨x,by simp [hx],hq⟩
    ·rintro ⟨x,hx,hq⟩
     rcases List.mem_cons.1 hx with rfl | hx
     ·rw [hb] at hq;cases hq
     ·exact ⟨x,hx,hq⟩
   ·rw [h2 (fun q=>h (e.2 q))];rfl
theorem ms_eq {l k:List PMap} (hp:l.Perm k) (hc:Coh l) (s1:l.Pairwise (fun x y=>ltB (T y.name) (T x.name)=false)) (s2:k.Pairwise (fun x y=>ltB (T y.name) (T x.name)=false)):l=k :=
 List.Perm.eq_of_pairwise (le:=fun x y:PMap=>ltB (T y.name) (T x.name)=false) (fun a b ha hb h1 h2=>hc a ha b (hp.mem_iff.2 hb) (T_eq.1 (ltB_total h2 h1))) s1 s2 hp
theorem link_perm {objs objs':List (List UInt8)} (hp:objs.Perm objs') {s s':ByteArray} {e a e' a':Int} (h:LinkQ objs s e a) (h':LinkQ objs' s' e' a'):s=s'/\(e=0 ↔ e'=0):=by
 unfold LinkQ at h h'
 by_cases h0:objs.length=0\/8<objs.length
 ·rw [if_pos h0] at h
  rw [if_pos (by rw [<- hp.length_eq];exact h0)] at h'
  obtain ⟨rfl,rfl,rfl⟩:=h;obtain ⟨rfl,rfl,rfl⟩:=h'
  exact ⟨rfl,Iff.rfl⟩
 rw [if_neg h0] at h
 rw [if_neg (by rw [<- hp.length_eq];exact h0)] at h'
 obtain ⟨d1,d2⟩:=decs_all objs;obtain ⟨d3,d4⟩:=decs_all objs'
 by_cases hd:(decsP objs).length<objs.length
 ·have hd':(decsP objs').length<objs'.length:=by
   obtain ⟨x,hx,hb⟩:=d1.1 hd
   exact d3.2 ⟨x,hp.mem_iff.1 hx,hb⟩
  rw [if_pos hd] at h;rw [if_pos hd'] at h';obtain ⟨rfl,rfl,rfl⟩:=h;obtain ⟨rfl,rfl,rfl⟩:=h'
  exact ⟨rfl,Iff.rfl⟩
 have hd':¬ (decsP objs').length<objs'.length:=fun q=>by
  obtain ⟨x,hx,hb⟩:=d3.1 q
  exact hd (d1.2 ⟨x,hp.mem_iff.2 hx,hb⟩)
 rw [if_neg hd] at h;rw [if_neg hd'] at h'
 have hD:(decsP objs).Perm (decsP objs'):=by
  rw [d2 hd,d4 hd'];exact hp.map _
 clear d1 d2 d3 d4 hd hd' h0 hp;generalize decsP objs=D at *;generalize decsP objs'=D' at *;obtain ⟨ms,fs,pm,sm,pf,sf,h⟩:=h;obtain ⟨ms',fs',pm',sm',pf',sf',h'⟩:=h'
 have hM:(D.flatMap (·.1)).Perm (D'.flatMap (·.1)):=hD.flatMap_right _
 have hF:(D.flatMap (·.2)).Perm (D'.flatMap (·.2)):=hD.flatMap_right _
 have key:(faultsP D ms fs).1=0->ms=ms'/\fs=fs':=fun hz=>by
  obtain ⟨z1,z2,_,_⟩:=(faults_zero D ms fs).1 hz
  refine ⟨ms_eq (pm.trans (hM.trans pm'.symm)) (z2.sub (fun a ha=>pm.mem_iff.1 ha)) sm sm',?_⟩
  exact same_sortedB (nm:=fun f:PFn=>T f.name) pf (pf'.trans hF.symm) z1 sf sf'
 have key':(faultsP D' ms' fs').1=0->ms=ms'/\fs=fs':=fun hz=>by
  obtain ⟨z1,z2,_,_⟩:=(faults_zero D' ms' fs').1 hz
  refine ⟨(ms_eq (pm'.trans (hM.symm.trans pm.symm)) (z2.sub (fun a ha=>pm'.mem_iff.1 ha)) sm' sm).symm,?_⟩
  exact (same_sortedB (nm:=fun f:PFn=>T f.name) pf' (pf.trans hF) z1 sf' sf).symm
 have hiff:ms=ms'/\fs=fs'->((faultsP D ms fs).1=0 ↔ (faultsP D' ms' fs').1=0):=by
  rintro ⟨rfl,rfl⟩
  rw [faults_zero,faults_zero]
  have c1:((D.flatMap (·.2)).map (fun f=>T f.name)).Nodup ↔ ((D'.flatMap (·.2)).map (fun f=>T f.name)).Nodup:=(hF.map _).nodup_iff
  have c2:Coh (D.flatMap (·.1)) ↔ Coh (D'.flatMap (·.1)):=⟨fun c=>c.sub (fun a ha=>hM.mem_iff.2 ha),fun c=>c.sub (fun a ha=>hM.mem_iff.1 ha)⟩
  have c3:(∀ p∈D,badP (fnP fs) p.2=false) ↔ (∀ p∈D',badP (fnP fs) p.2=false):=⟨fun c p hp=>c p (hD.mem_iff.2 hp),fun c p hp=>c p (hD.mem_iff.1 hp)⟩
  rw [c1,c2,c3]
 by_cases hz:(faultsP D ms fs).1=0
 ·have hk:=key hz
  have hz':=(hiff hk).1 hz
  obtain ⟨rfl,rfl⟩:=hk
  rw [if_neg (by rw [hz];simp)] at h
  rw [if_neg (by rw [hz'];simp)] at h'
  obtain ⟨rfl,rfl,rfl⟩:=h;obtain ⟨rfl,rfl,rfl⟩:=h'
  exact ⟨rfl,Iff.rfl⟩
 ·have hz':¬ (faultsP D' ms' fs').1=0:=fun q=>hz ((hiff (key' q)).2 q)
  rw [if_pos hz] at h;rw [if_pos hz'] at h';obtain ⟨rfl,rfl,rfl⟩:=h;obtain ⟨rfl,rfl,rfl⟩:=h'
  exact ⟨rfl,⟨fun q=>absurd q hz,fun q=>absurd q hz'⟩⟩
theorem parts_okK:∀ (objs:List (List UInt8)),∀ q∈decsP objs,PartOk q
 | [],q,h=>by cases h
 | s::l,q,h=>by
  rw [decsP] at h
  split at h
  ·cases h
  ·rename_i hb
   rcases List.mem_cons.1 h with rfl | h
   ·have hR:=decode_right (by simpa using hb)
    refine ⟨hR.m8,hR.f16,fun m hm=>?_,fun f hf=>?_⟩
    ·have hT:=hR.mt m hm
     have h1:=nameB_le _ hT.nm
     have h2:=hT.k
     have h3:=hT.v
     have h4:=hT.e
     exact ⟨h1,by omega,by omega,by omega⟩
    ·have hF:=(hR.ft f hf).fok
     exact ⟨hF.n,hF.l⟩
   ·exact parts_okK l q h
theorem klink_any (w:World) (hE:EnvW w) (o:Option Addr) (cap:Nat) (objs:List (List UInt8)) (hb:0<objs.length->∃ g cs,o=some ⟨g,0,none⟩/\Blk w g cs 9/\∀ k (h:k<objs.length),cs[k]?=some (.string (T objs[k]))) (hn:objs.length<=maxLen) (hs:∀ s∈objs,s.length<=maxLen) :
  Calls Tryz.prog 10 #[.slice o objs.length cap] w fun r w'=>∃ s e a,r=.returned (.tuple #[.string s,.int .i64 e,.int .i64 a])/\LinkQ objs s e a/\Mods Nil' w w':=by
 have H:Hid (Calls Tryz.prog 13 #[.slice o objs.length cap] w fun r w'=>∃ s e a,r=.returned (.tuple #[.string s,.int .i64 e,.int .i64 a])/\LinkQ objs s e a/\Mods Nil' w w'):=link_any w hE o cap objs hb hn hs (parts_okK objs)
 clear hb hs hE;generalize objs.length=n at *
 go_enter Tryz.func10,Tryz.ntmps10
 go_wp2_with fail;refine H.out.mono ?_;rintro e w1 ⟨s,e,a,rfl,hq,m⟩
 have HQ:Hid (LinkQ objs s e a/\Mods Nil' w w1):=⟨hq,m⟩
 clear hq m H;go_wp2_with fail;go_ret3
 exact ⟨s,e,a,rfl,HQ.out.1,HQ.out.2⟩
end Go.Proofs.YtnhcaifopaeohaaGreatDoor
