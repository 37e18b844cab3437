import Derived.Test.YtnhcaifopaeohaaGreatDoorM37
import Derived.Test.YtnhcaifopaeohaaGreatDoorM41
namespace Go.Proofs.YtnhcaifopaeohaaGreatDoor
open Go.RowKit
set_option linter.all false
theorem row_slotsR:∀ k:Fin 88,1<=(rowK k).slots:=by decide +kernel
theorem withS_ltR:∀ (l:List PI) (s:Nat),(∀ x∈l,x.k<88)->∀ p∈withS s l,p.2<s+slotsP l
 | x::l,s,hk,p,h=>by
  have h1:1<=x.o.slots:=row_slotsR ⟨x.k,hk x (by simp)⟩
  rw [withS] at h;rw [slots_cons]
  rcases List.mem_cons.1 h with rfl | h
  ·simp only;omega
  ·have:=withS_ltR l _ (fun y hy=>hk y (by simp [hy])) p h;omega
theorem len_le:∀ (l:List PI),(∀ x∈l,x.k<88)->l.length<=slotsP l
 | [],_=>Nat.zero_le _
 | x::l,hk=>by
  have h1:1<=x.o.slots:=row_slotsR ⟨x.k,hk x (by simp)⟩
  have:=len_le l (fun y hy=>hk y (by simp [hy]))
  rw [slots_cons,List.length_cons];omega
theorem in_withS:∀ (l:List PI) (s:Nat) (x:PI),x∈l->∃ p∈withS s l,p.1=x
 | y::l,s,x,h=>by
  rw [withS]
  rcases List.mem_cons.1 h with rfl | h
  ·exact ⟨(x,s),by simp,rfl⟩
  ·obtain ⟨p,hp,e⟩:=in_withS l (s+y.o.slots) x h
   exact ⟨p,by simp [hp],e⟩
theorem jok_of {n:Nat}:∀ (l:List PI) (s:Nat),(∀ p∈withS s l,p.1.o.jumps=true->0<=p.1.target p.2/\(p.1.target p.2).toNat<n)->JOk n s l
 | [],_,_=>trivial
 | x::l,s,h=>⟨h (x,s) (by rw [withS];simp),jok_of l _ (fun p hp=>h p (by rw [withS];simp [hp]))⟩
theorem PFn.Told.fok {f:PFn} (h:f.Told):PFnOk f:=by
 have hk:∀ x∈f.code,x.k<88:=fun x hx=>by
  obtain ⟨p,hp,rfl⟩:=in_withS f.code 0 x hx
  exact (h.ins p hp).k
 refine ⟨nameB_le _ h.nm,Nat.le_trans (len_le f.code hk) h.small,fun x hx=>?_,jok_of _ _ (fun p hp hj=>?_)⟩
 ·obtain ⟨p,hp,rfl⟩:=in_withS f.code 0 x hx
  exact (h.ins p hp).needs
 ·obtain ⟨t,e,hm,_⟩:=h.lead p hp hj;obtain ⟨q,hq,rfl⟩:=List.mem_map.1 hm
  have:=withS_ltR f.code 0 hk q hq
  rw [e]
  exact ⟨by omega,by simpa using this⟩
theorem dec_ok (s:ByteArray) (h:(decodeP (BL s)).2.2.bad=false):(decodeP (BL s)).1.length<=8/\(decodeP (BL s)).2.1.length<=16/\∀ f∈(decodeP (BL s)).2.1,PFnOk f:=by
 have hR:=decode_right h
 exact ⟨hR.m8,hR.f16,fun f hf=>(hR.ft f hf).fok⟩
end Go.Proofs.YtnhcaifopaeohaaGreatDoor
