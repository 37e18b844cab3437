import Derived.Test.YtoknbkfclhmapaaGreatDoorC29
namespace Go.Proofs.YtoknbkfclhmapaaGreatDoor
open Go.RowKit
section
variable (o : OpS) (x : PIns)
theorem need_regsA (hc:o.call=false) (hp:o.parts=regsA):o.needs x=(decide (x.d<10)&&decide (x.s<=10)&&decide (x.jump=0)&&decide (x.num=0)):=by
 have hf:filledOf regsA=3:=by decide
 unfold OpS.needs;rw [hc,hp,hf]
 simp [regsA,PK.right,othersB,Bool.and_assoc]
theorem need_numsA (hc:o.call=false) (hp:o.parts=numsA):o.needs x=(decide (x.d<10)&&decide (x.s=0)&&decide (x.jump=0)):=by
 have hf:filledOf numsA=9:=by decide
 unfold OpS.needs;rw [hc,hp,hf]
 simp [numsA,PK.right,othersB,Bool.and_assoc]
theorem need_neg (hc:o.call=false) (hp:o.parts=[.result]):o.needs x=(decide (x.d<10)&&decide (x.s=0)&&decide (x.jump=0)&&decide (x.num=0)):=by
 have hf:filledOf [.result]=1:=by decide
 simp only [OpS.needs,hc,hp,hf,Bool.false_eq_true,if_false,List.all,PK.right,othersB]
 simp [Bool.and_assoc]
theorem need_ja (hc:o.call=false) (hp:o.parts=[.label]):o.needs x=(decide (x.d=0)&&decide (x.s=0)&&decide (x.num=0)):=by
 have hf:filledOf [.label]=4:=by decide
 simp only [OpS.needs,hc,hp,hf,Bool.false_eq_true,if_false,List.all,PK.right,othersB]
 simp [Bool.and_assoc]
theorem need_regsJ (hc:o.call=false) (hp:o.parts=regsJ):o.needs x=(decide (x.d<=10)&&decide (x.s<=10)&&decide (x.num=0)):=by
 have hf:filledOf regsJ=7:=by decide
 unfold OpS.needs;rw [hc,hp,hf]
 simp [regsJ,PK.right,othersB,Bool.and_assoc]
theorem need_numsJ (hc:o.call=false) (hp:o.parts=numsJ):o.needs x=(decide (x.d<=10)&&decide (x.s=0)):=by
 have hf:filledOf numsJ=13:=by decide
 unfold OpS.needs;rw [hc,hp,hf]
 simp [numsJ,PK.right,othersB]
theorem need_loads (hc:o.call=false) (hp:o.parts=loadsP):o.needs x=(decide (x.d<10)&&decide (x.s<=10)&&decide (x.num=0)):=by
 have hf:filledOf loadsP=7:=by decide
 unfold OpS.needs;rw [hc,hp,hf]
 simp [loadsP,PK.right,othersB,Bool.and_assoc]
theorem need_stores (hc:o.call=false) (hp:o.parts=storesP):o.needs x=(decide (x.d<=10)&&decide (x.s<=10)&&decide (x.num=0)):=by
 have hf:filledOf storesP=7:=by decide
 unfold OpS.needs;rw [hc,hp,hf]
 simp [storesP,PK.right,othersB,Bool.and_assoc]
theorem need_numbers (hc:o.call=false) (hp:o.parts=numbersP):o.needs x=(decide (x.d<=10)&&decide (x.s=0)):=by
 have hf:filledOf numbersP=13:=by decide
 unfold OpS.needs;rw [hc,hp,hf]
 simp [numbersP,PK.right,othersB]
theorem need_wide (hc:o.call=false) (hp:o.parts=[.result,.comma,.wide]):o.needs x=(decide (x.d<10)&&(decide (x.s=0)||(decide (x.s=1)&&decide (x.high=0)))&&decide (x.jump=0)):=by
 have hf:filledOf [.result,.comma,.wide]=11:=by decide
 simp only [OpS.needs,hc,hp,hf,Bool.false_eq_true,if_false,List.all,PK.right,othersB]
 simp [Bool.and_assoc]
theorem need_exit (hc:o.call=false) (hp:o.parts=[]):o.needs x=(decide (x.d=0)&&decide (x.s=0)&&decide (x.jump=0)&&decide (x.num=0)):=by
 have hf:filledOf []=0:=by decide
 simp only [OpS.needs,hc,hp,hf,Bool.false_eq_true,if_false,List.all,othersB]
 simp [Bool.and_assoc]
end
theorem need_call (o:OpS) (x:PIns) (hc:o.call=true):o.needs x=(decide (x.d=0)&&decide (x.jump=0)&&(decide (x.s=1)||(decide (x.s=0)&&decide (1<=x.num)&&decide (x.num<5)))):=by
 simp only [OpS.needs,hc,if_true,othersB]
 simp [Bool.and_assoc]
structure RowF (o:OpS) (v:RIns × Bool):Prop where
 ok:v.2=true
 z:v.1.d=0/\v.1.jump=0/\v.1.n=0/\v.1.label=E0/\v.1.name=E0
 slots:o.slots=slotsI v.1.word
 jumps:o.jumps=decide (sortM v.1.word=106)
 ends:o.ends=endsI v.1.word
 call:o.call=decide (sortM v.1.word=99)
 refers:o.refers=if sortM v.1.word=119 then 2 else if sortM v.1.word=99 then 1 else 0
 kind:(sortM v.1.word=114/\o.word=wordL v.1/\((v.1.word=NEG/\o.parts=[.result]/\v.1.s=0)\/(v.1.word≠NEG/\((o.parts=regsA/\v.1.s=0)\/(o.parts=numsA/\v.1.s=-1))))) \/
  (sortM v.1.word=106/\o.word=wordL v.1/\((v.1.word=JA/\o.parts=[.label]/\v.1.s=0/\wordL v.1=[106,97])\/(v.1.word≠JA/\((o.parts=regsJ/\v.1.s=0)\/(o.parts=numsJ/\v.1.s=-1))/\wordL v.1≠[106,97]))) \/
  (sortM v.1.word=108/\o.word=wordL v.1/\o.parts=loadsP/\v.1.s=0) \/
  (sortM v.1.word=115/\o.word=wordL v.1/\((o.parts=storesP/\v.1.s=0)\/(o.parts=numbersP/\v.1.s=-1))) \/
  (sortM v.1.word=119/\o.word=[119,105,100,101]/\o.parts=[.result,.comma,.wide]/\v.1.s=0/\v.1.word=WIDE) \/
  (sortM v.1.word=99/\v.1.s=0/\v.1.word=CALL) \/
  (sortM v.1.word=101/\o.word=[101,120,105,116]/\o.parts=[]/\v.1.s=0/\v.1.word=EXIT)
theorem row_facts (k:Nat) (hk:k<88):RowF (tableS[k]?.getD noOp) (wordM (tableS[k]?.getD noOp).code)/\byCodeM (tableS[k]?.getD noOp).code=some k:=by
 have h:=List.all_eq_true.1 rows_ok k (List.mem_range.2 hk)
 unfold rowB at h
 dsimp only at h
 generalize tableS[k]?.getD noOp=o at *;generalize wordM o.code=v at *
 simp only [Bool.and_eq_true,decide_eq_true_eq] at h
 obtain ⟨⟨⟨⟨⟨⟨⟨⟨h1,h2⟩,h3⟩,h4⟩,h5⟩,h6⟩,h7⟩,h8⟩,h9⟩:=h
 refine ⟨⟨h1,h2,h4,h5,h6,h7,h8,?_⟩,h3⟩
 by_cases k1:sortM v.1.word=114
 ·rw [if_pos k1] at h9
  left
  simp only [Bool.and_eq_true,decide_eq_true_eq] at h9
  refine ⟨k1,h9.1,?_⟩
  by_cases kn:v.1.word=NEG
  ·have:=h9.2;rw [if_pos kn] at this;exact .inl ⟨kn,by simpa using this⟩
  ·have:=h9.2;rw [if_neg kn] at this;exact .inr ⟨kn,by simpa using this⟩
 rw [if_neg k1] at h9
 right
 by_cases k2:sortM v.1.word=106
 ·rw [if_pos k2] at h9
  left
  simp only [Bool.and_eq_true,decide_eq_true_eq] at h9
  refine ⟨k2,h9.1,?_⟩
  by_cases kn:v.1.word=JA
  ·have:=h9.2;rw [if_pos kn] at this;exact .inl ⟨kn,by simpa using this⟩
  ·have:=h9.2;rw [if_neg kn] at this;exact .inr ⟨kn,by simpa using this⟩
 rw [if_neg k2] at h9
 right
 by_cases k3:sortM v.1.word=108
 ·rw [if_pos k3] at h9;exact .inl ⟨k3,by simpa using h9⟩
 rw [if_neg k3] at h9
 right
 by_cases k4:sortM v.1.word=115
 ·rw [if_pos k4] at h9;exact .inl ⟨k4,by simpa using h9⟩
 rw [if_neg k4] at h9
 right
 by_cases k5:sortM v.1.word=119
 ·rw [if_pos k5] at h9;exact .inl ⟨k5,by simpa using h9⟩
 rw [if_neg k5] at h9
 right
 by_cases k6:sortM v.1.word=99
 ·rw [if_pos k6] at h9;exact .inl ⟨k6,by simpa using h9⟩
 rw [if_neg k6] at h9
 right
 simpa using h9
def toI' (i:RIns) (nm:ByteArray) (x:PI):RIns :=
 let j:RIns:={ i with d:=x.d,s:=if i.s<0 then i.s else x.s,n:=u64 x.num }
 if sortM i.word=119 then (if x.s=1 then { j with n:=0,s:=0,name:=nm } else { j with n:=(x.ins []).wide })
 else if sortM i.word=99 then (if x.s=1 then { j with n:=0,s:=0,name:=nm } else { j with n:=0,word:=T [104,101,108,112],label:=helpersL[(u64 x.num).toNat - 1]?.getD E0 })
 else if sortM i.word=108\/sortM i.word=115 then { j with jump:=x.jump }
 else j
def jmp' (i:RIns) (x:PI):Int:=if sortM i.word=106 then x.jump else if (sortM i.word=119\/sortM i.word=99)/\x.s=1 then 1 else 0
def PI.view (x:PI):RIns:=(wordM x.o.code).1
def PI.toI (nm:ByteArray) (x:PI):RIns:=toI' x.view nm x
def PI.jmp (x:PI):Int:=jmp' x.view x
def insV (i:RIns) (x y:RSlot) (bad2:Bool) (r1 r2:RS):InsOut :=
  let k:=sortM i.word
  let b:=decide (i.s<0)
  let j:=insBase i x
  if k=114 then ⟨j,0,0,!(((x.d:Int)==10)||(x.jump != 0)||(!b&&x.n != 0)||((b||decide (i.word=NEG))&&(x.s:Int) != 0)),r1⟩
  else if k=106 then ⟨j,x.jump,0,!((!b&&x.n != 0)||((b||decide (i.word=JA))&&(x.s:Int) != 0)||(decide (i.word=JA)&&(x.d:Int) != 0)),r1⟩
  else if k=108\/k=115 then ⟨{ j with jump:=x.jump },0,0,!((k==108&&(x.d:Int)==10)||(!b&&x.n != 0)||(b&&(x.s:Int) != 0)),r1⟩
  else if k=119 then
   let low:=x.n % 4294967296
   let n:=IntKind.u64.wrap (low+IntKind.u64.wrap (y.n*4294967296))
   let bad:=bad2||((x.d:Int)==10)||decide (1<(x.s:Int))||(x.jump != 0)||((y.op:Int) != 0)||((y.d:Int) != 0)||((y.s:Int) != 0)||(y.jump != 0)||((x.s:Int)==1&&y.n != 0)
   if x.s=1 then ⟨{ j with n:=0 },1,low,!bad,r2⟩ else ⟨{ j with n:=n },0,0,!bad,r2⟩
  else if k=99 then
   if x.s=0/\1<=x.n/\x.n<=4/\x.d=0/\x.jump=0 then ⟨{ j with n:=0,word:=T [104,101,108,112],label:=helpersL[x.n.toNat - 1]?.getD E0 },0,0,true,r1⟩
   else ⟨{ j with n:=0 },1,x.n,((x.s:Int)==1)&&((x.d:Int)==0)&&(x.jump==0),r1⟩
  else ⟨j,0,0,((x.d:Int)==0)&&((x.s:Int)==0)&&(x.jump==0)&&(x.n==0),r1⟩
theorem insM_eq (s:ByteArray) (p:Nat) (h8:p+8<=s.size) :
  insM s ⟨p,false⟩=if (wordM (slotAt ((BL s).drop p)).op).2=false\/10<(slotAt ((BL s).drop p)).d\/10<(slotAt ((BL s).drop p)).s then ⟨(wordM (slotAt ((BL s).drop p)).op).1,0,0,false,⟨p+8,false⟩⟩
   else insV (wordM (slotAt ((BL s).drop p)).op).1 (slotAt ((BL s).drop p)) (rsl s ⟨p+8,false⟩).1 (rsl s ⟨p+8,false⟩).2.bad ⟨p+8,false⟩ (rsl s ⟨p+8,false⟩).2:=by
 unfold insM;rw [rsl_at s p h8]
 simp only [Bool.false_eq_true,false_or]
 rfl
theorem sort_wide:sortM WIDE=119:=by decide +kernel
theorem sort_call:sortM CALL=99:=by decide +kernel
theorem sort_help:sortM (T [104,101,108,112])=104:=by decide +kernel
theorem help_ne:T [104,101,108,112]≠WIDE/\T [104,101,108,112]≠CALL:=by decide +kernel
theorem nameIns_plain (out:InsOut) (h:out.i.word≠WIDE/\out.i.word≠CALL):nameIns out=some out.i:=by
 unfold nameIns
 rw [if_neg (by rintro ⟨_,h' | h'⟩;exact h.1 h';exact h.2 h')]
theorem word_other {w:ByteArray} (h1:sortM w≠119) (h2:sortM w≠99):w≠WIDE/\w≠CALL :=
 ⟨fun h=>h1 (by rw [h];exact sort_wide),fun h=>h2 (by rw [h];exact sort_call)⟩
theorem wide_eq (a b:Int) (ha:-2147483648<=a/\a<=2147483647) (hb:-2147483648<=b/\b<=2147483647) :
  IntKind.u64.wrap (u64 a % 4294967296+IntKind.u64.wrap (u64 b*4294967296))=(((b % 4294967296).toNat*4294967296+(a % 4294967296).toNat:Nat):Int):=by
 rw [IntKind.wrap_u64,IntKind.wrap_u64];unfold u64
 omega
section
variable {o : OpS} {v : RIns × Bool} {x y : RSlot} {bad2 : Bool} {r1 r2 : RS} {x' : PI}
structure Agree (o:OpS) (i:RIns) (x:RSlot) (x':PI) (out:InsOut) (r:RS):Prop where
 yes:o.needs (x'.ins [])=true->¬ 10<x.d/\¬ 10<x.s/\out.ok=true/\out.r=r/\out.jump=jmp' i x'/\nameIns out=(if (if x'.s=1 then o.refers else 0)≠0/\x'.num≠0 then none else some (toI' i (T [63]) x'))
 no:o.needs (x'.ins [])=false->10<x.d\/10<x.s\/out.ok=false
theorem agree_plain {out:InsOut} (hF:RowF o v) (h1:sortM v.1.word≠119) (h2:sortM v.1.word≠99) (hw:out.i.word=v.1.word) (hr:out.r=r1) (hj:out.jump=jmp' v.1 x') (hi:out.i=toI' v.1 (T [63]) x')
  (hn:o.needs (x'.ins [])=(decide (x.d<=10)&&decide (x.s<=10)&&out.ok)):Agree o v.1 x x' out r1 where
 yes:=fun h=>by
  rw [hn] at h
  simp only [Bool.and_eq_true,decide_eq_true_eq] at h
  refine ⟨by omega,by omega,h.2,hr,hj,?_⟩
  rw [nameIns_plain out (by rw [hw];exact word_other h1 h2),hi]
  have:o.refers=0:=by rw [hF.refers,if_neg h1,if_neg h2]
  simp [this]
 no:=fun h=>by
  rw [hn] at h
  by_cases a:x.d<=10
  ·by_cases b:x.s<=10
   ·right;right;simpa [a,b] using h
   ·right;left;omega
  ·left;omega
theorem agree_one (hd:x'.d=x.d) (hs:x'.s=x.s) (hj:x'.jump=x.jump) (hn:x.n=u64 x'.num) (hb:-2147483648<=x'.num/\x'.num<=2147483647) (hF:RowF o v) (hk:sortM v.1.word≠119):Agree o v.1 x x' (insV v.1 x y bad2 r1 r2) r1:=by
 have hz:=u64_zero x'.num hb
 rw [<- hn] at hz
 have hcall:=hF.call
 obtain ⟨z1,z2,z3,z4,z5⟩:=hF.z
 rcases hF.kind with ⟨k,hw,hp⟩ | ⟨k,hw,hp⟩ | ⟨k,hw,hp,h0⟩ | ⟨k,hw,hp⟩ | ⟨k,_⟩ | ⟨k,h0,hw⟩ | ⟨k,hw,hp,h0,he⟩
 ·-- what reckons
  rw [k] at hcall
  have hc:o.call=false:=by rw [hcall];decide
  refine agree_plain hF (by rw [k];decide) (by rw [k];decide) ?_ ?_ ?_ ?_ ?_
  ·simp [insV,k,insBase]
  ·simp [insV,k]
  ·simp [insV,k,jmp']
  ·simp [insV,k,insBase,toI',hd,hs,<- hn]
  ·rcases hp with ⟨hN,hp,h0⟩ | ⟨hN,⟨hp,h0⟩ | ⟨hp,h0⟩⟩
   ·rw [need_neg o _ hc hp,Bool.eq_iff_iff]
    simp [insV,hN,h0,PI.ins,hd,hs,hj]
    try grind
   ·rw [need_regsA o _ hc hp,Bool.eq_iff_iff]
    simp [insV,k,hN,h0,PI.ins,hd,hs,hj,hz]
    try grind
   ·rw [need_numsA o _ hc hp,Bool.eq_iff_iff]
    simp [insV,k,hN,h0,PI.ins,hd,hs,hj]
    try grind
 ·-- jumps
  rw [k] at hcall
  have hc:o.call=false:=by rw [hcall];decide
  refine agree_plain hF (by rw [k];decide) (by rw [k];decide) ?_ ?_ ?_ ?_ ?_
  ·simp [insV,k,insBase]
  ·simp [insV,k]
  ·simp [insV,k,jmp',hj]
  ·simp [insV,k,insBase,toI',hd,hs,<- hn]
  ·rcases hp with ⟨hN,hp,h0,_⟩ | ⟨hN,⟨hp,h0⟩ | ⟨hp,h0⟩,_⟩
   ·rw [need_ja o _ hc hp,Bool.eq_iff_iff]
    simp [insV,hN,h0,PI.ins,hd,hs,hj]
    try grind
   ·rw [need_regsJ o _ hc hp,Bool.eq_iff_iff]
    simp [insV,k,hN,h0,PI.ins,hd,hs,hj,hz]
    try grind
   ·rw [need_numsJ o _ hc hp,Bool.eq_iff_iff]
    simp [insV,k,hN,h0,PI.ins,hd,hs,hj]
    try grind
 ·-- loads
  rw [k] at hcall
  have hc:o.call=false:=by rw [hcall];decide
  refine agree_plain hF (by rw [k];decide) (by rw [k];decide) ?_ ?_ ?_ ?_ ?_
  ·simp [insV,k,insBase]
  ·simp [insV,k]
  ·simp [insV,k,jmp']
  ·simp [insV,k,insBase,toI',hd,hs,hj,<- hn]
  ·rw [need_loads o _ hc hp,Bool.eq_iff_iff]
   simp [insV,k,h0,PI.ins,hd,hs,hj,hz]
   try grind
 ·-- stores
  rw [k] at hcall
  have hc:o.call=false:=by rw [hcall];decide
  refine agree_plain hF (by rw [k];decide) (by rw [k];decide) ?_ ?_ ?_ ?_ ?_
  ·simp [insV,k,insBase]
  ·simp [insV,k]
  ·simp [insV,k,jmp']
  ·simp [insV,k,insBase,toI',hd,hs,hj,<- hn]
  ·rcases hp with ⟨hp,h0⟩ | ⟨hp,h0⟩
   ·rw [need_stores o _ hc hp,Bool.eq_iff_iff]
    simp [insV,k,h0,PI.ins,hd,hs,hj,hz]
    try grind
   ·rw [need_numbers o _ hc hp,Bool.eq_iff_iff]
    simp [insV,k,h0,PI.ins,hd,hs,hj]
    try grind
 ·exact absurd k hk
 ·-- calls
  rw [k] at hcall
  have hc:o.call=true:=by rw [hcall];decide
  have hrf:o.refers=1:=by rw [hF.refers,k];decide
  have hu:x.n=if 0<=x'.num then x'.num else x'.num+18446744073709551616:=by
   rw [hn];unfold u64;split<;>omega
  by_cases hh:x.s=0/\1<=x.n/\x.n<=4/\x.d=0/\x.jump=0
  ·have hout:insV v.1 x y bad2 r1 r2=⟨{ insBase v.1 x with n:=0,word:=T [104,101,108,112],label:=helpersL[x.n.toNat - 1]?.getD E0 },0,0,true,r1⟩:=by
    simp only [insV,k]
    rw [if_neg (by decide),if_neg (by decide),if_neg (by decide),if_neg (by decide)]
    simp only [if_true]
    rw [if_pos hh]
   refine ⟨fun _=>?_,fun h=>?_⟩
   ·rw [hout]
    refine ⟨by omega,by omega,rfl,rfl,?_,?_⟩
    ·simp [jmp',k,hs,hh.1]
    ·rw [nameIns_plain _ help_ne,if_neg (by rw [hs,hh.1];simp)]
     simp [toI',k,hs,hh.1,insBase,hd,<- hn]
   ·exfalso
    rw [need_call o _ hc] at h
    simp [PI.ins,hd,hs,hj,hh.1,hh.2.2.2.1,hh.2.2.2.2] at h
    split at hu<;>omega
  ·have hout:insV v.1 x y bad2 r1 r2=⟨{ insBase v.1 x with n:=0 },1,x.n,((x.s:Int)==1)&&((x.d:Int)==0)&&(x.jump==0),r1⟩:=by
    simp only [insV,k]
    rw [if_neg (by decide),if_neg (by decide),if_neg (by decide),if_neg (by decide)]
    simp only [if_true]
    rw [if_neg hh]
   rw [hout]
   refine ⟨fun h=>?_,fun h=>?_⟩
   ·rw [need_call o _ hc] at h
    simp [PI.ins,hd,hs,hj] at h
    have h1:x.s=1:=by
     rcases h.2 with h2 | h2
     ·exact h2
     ·exfalso;apply hh;split at hu<;>omega
    refine ⟨by omega,by omega,by simp [h1,h.1],rfl,?_,?_⟩
    ·simp [jmp',k,hs,h1]
    ·unfold nameIns
     rw [if_pos ⟨rfl,.inr (by simp [insBase,hw])⟩]
     simp only [hrf,hs,h1,if_true]
     by_cases h5:x'.num=0
     ·have:x.n=0:=hz.2 h5
      simp [h5,this,toI',k,hs,h1,insBase,hd]
     ·have:x.n≠0:=fun h=>h5 (hz.1 h)
      simp [h5,this]
   ·right;right
    rw [need_call o _ hc] at h
    simp [PI.ins,hd,hs,hj] at h
    simp
    omega
 ·-- exit
  rw [k] at hcall
  have hc:o.call=false:=by rw [hcall];decide
  refine agree_plain hF (by rw [k];decide) (by rw [k];decide) ?_ ?_ ?_ ?_ ?_
  ·simp [insV,k,insBase]
  ·simp [insV,k]
  ·simp [insV,k,jmp']
  ·simp [insV,k,insBase,toI',hd,hs,<- hn]
  ·rw [need_exit o _ hc hp,Bool.eq_iff_iff]
   simp [insV,k,PI.ins,hd,hs,hj,hz]
   try grind
theorem agree_wide (hd:x'.d=x.d) (hs:x'.s=x.s) (hj:x'.jump=x.jump) (hn:x.n=u64 x'.num) (hb:-2147483648<=x'.num/\x'.num<=2147483647) (hF:RowF o v) (hk:sortM v.1.word=119) (hy:y.n=u64 x'.high) (hh:-2147483648<=x'.high/\x'.high<=2147483647) (h2:y.op=0/\y.d=0/\y.s=0/\y.jump=0) :
  Agree o v.1 x x' (insV v.1 x y false r1 r2) r2:=by
 have hz:=u64_zero x'.num hb
 rw [<- hn] at hz
 have hzy:=u64_zero x'.high hh
 rw [<- hy] at hzy
 have hcall:=hF.call
 rcases hF.kind with ⟨k,_⟩ | ⟨k,_⟩ | ⟨k,_⟩ | ⟨k,_⟩ | ⟨k,hw,hp,h0,hW⟩ | ⟨k,_⟩ | ⟨k,_⟩<;>(try (rw [k] at hk;exact absurd hk (by decide)))
 rw [k] at hcall
 have hc:o.call=false:=by rw [hcall];decide
 have hrf:o.refers=2:=by rw [hF.refers,k];decide
 have hlow:x.n % 4294967296=0 ↔ x'.num=0:=by
  rw [hn];unfold u64;omega
 have hneed:o.needs (x'.ins [])=(decide (x.d<=10)&&decide (x.s<=10)&&!(((x.d:Int)==10)||decide (1<(x.s:Int))||(x.jump != 0)||((x.s:Int)==1&&y.n != 0))):=by
  rw [need_wide o _ hc hp,Bool.eq_iff_iff]
  simp [PI.ins,hd,hs,hj,hzy]
  grind
 have hout:insV v.1 x y false r1 r2=if x.s=1 then ⟨{ insBase v.1 x with n:=0 },1,x.n % 4294967296,!(((x.d:Int)==10)||decide (1<(x.s:Int))||(x.jump != 0)||((x.s:Int)==1&&y.n != 0)),r2⟩
   else ⟨{ insBase v.1 x with n:=(x'.ins []).wide },0,0,!(((x.d:Int)==10)||decide (1<(x.s:Int))||(x.jump != 0)||((x.s:Int)==1&&y.n != 0)),r2⟩:=by
  have e:((x'.ins []).wide:Int)=IntKind.u64.wrap (x.n % 4294967296+IntKind.u64.wrap (y.n*4294967296)):=by
   rw [hn,hy,wide_eq _ _ hb hh];rfl
  simp only [insV,k]
  rw [if_neg (by decide),if_neg (by decide),if_neg (by decide)]
  simp [h2.1,h2.2.1,h2.2.2.1,h2.2.2.2,e]
 by_cases h1:x.s=1
 ·rw [if_pos h1] at hout;rw [hout]
  refine ⟨fun h=>?_,fun h=>?_⟩
  ·rw [hneed] at h
   simp only [Bool.and_eq_true,decide_eq_true_eq] at h
   refine ⟨by omega,by omega,h.2,rfl,?_,?_⟩
   ·simp [jmp',k,hs,h1]
   ·unfold nameIns
    rw [if_pos ⟨rfl,.inl (by simp [insBase,hW])⟩]
    simp only [hrf,hs,h1,if_true]
    by_cases h5:x'.num=0
    ·have:x.n % 4294967296=0:=hlow.2 h5
     simp [h5,this,toI',k,hs,h1,insBase,hd]
    ·have:x.n % 4294967296≠0:=fun h=>h5 (hlow.1 h)
     simp [h5,this]
  ·rw [hneed] at h
   by_cases a:x.d<=10
   ·by_cases b:x.s<=10
    ·right;right;simpa [a,b] using h
    ·right;left;omega
   ·left;omega
 ·rw [if_neg h1] at hout;rw [hout]
  refine ⟨fun h=>?_,fun h=>?_⟩
  ·rw [hneed] at h
   simp only [Bool.and_eq_true,decide_eq_true_eq] at h
   refine ⟨by omega,by omega,h.2,rfl,?_,?_⟩
   ·simp [jmp',k,hs,h1]
   ·unfold nameIns
    rw [if_neg (by rintro ⟨h,_⟩;simp at h),if_neg (by rw [hs,if_neg h1];simp)]
    simp [toI',k,hs,h1,insBase,hd]
  ·rw [hneed] at h
   by_cases a:x.d<=10
   ·by_cases b:x.s<=10
    ·right;right;simpa [a,b] using h
    ·right;left;omega
   ·left;omega
end
theorem drop_take_at (l:List UInt8) (a m b:Nat) (h:a+b<m):at' ((l.take m).drop a) b=at' l (a+b):=by
 rw [at_drop,at_take l m _ h]
theorem num32_take (l:List UInt8) (a m:Nat) (h:a+3<m):num32 ((l.take m).drop a)=num32 (l.drop a):=by
 unfold num32
 rw [drop_take_at l a m 0 (by omega),drop_take_at l a m 1 (by omega),drop_take_at l a m 2 (by omega),drop_take_at l a m 3 (by omega)]
 simp only [at_drop]
theorem num32_n (l:List UInt8) (a:Nat):u64 (num32 (l.drop a))=sx32 (at' l a+256*at' l (a+1)+65536*(at' l (a+2)+256*at' l (a+3))):=by
 have h0:=at_lt l a
 have h1:=at_lt l (a+1)
 have h2:=at_lt l (a+2)
 have h3:=at_lt l (a+3)
 unfold num32
 simp only [at_drop,Nat.add_zero]
 rw [sgn32_eq _ (by omega)]
 congr 1
 omega
theorem zeros4 (l:List UInt8) (h:16<=l.length):((l.drop 8).take 4=[0,0,0,0]) ↔ (at' l 8=0/\at' l 9=0/\at' l 10=0/\at' l 11=0):=by
 have e:(l.drop 8).take 4=[l[8]'(by omega),l[9]'(by omega),l[10]'(by omega),l[11]'(by omega)]:=by
  apply List.ext_getElem
  ·simp;omega
  ·intro i h1 h2
   have:i<4:=by simpa using h2
   have hi:i=0\/i=1\/i=2\/i=3:=by omega
   rcases hi with rfl | rfl | rfl | rfl<;>simp
 rw [e]
 have g:∀ i (hi:i<l.length),at' l i=l[i].toNat:=fun i hi=>by simp [at',hi]
 rw [g 8 (by omega),g 9 (by omega),g 10 (by omega),g 11 (by omega)]
 simp only [List.cons.injEq,and_true]
 have z:∀ c:UInt8,c=0 ↔ c.toNat=0:=fun c=>⟨fun h=>by rw [h];rfl,fun h=>UInt8.toNat_inj.1 (by rw [h];rfl)⟩
 rw [z,z,z,z]
theorem slot_zero (l:List UInt8):((slotAt l).op=0/\(slotAt l).d=0/\(slotAt l).s=0/\(slotAt l).jump=0) ↔ (at' l 0=0/\at' l 1=0/\at' l 2=0/\at' l 3=0):=by
 have h0:=at_lt l 0
 have h1:=at_lt l 1
 have h2:=at_lt l 2
 have h3:=at_lt l 3
 simp only [slotAt,sx16]
 split<;>omega
structure InsSim (s:ByteArray) (p m:Nat) (l:List UInt8):Prop where
 yes:∀ x,fromP (l.take m)=some x->x.k<88/\p+8*x.o.slots<=s.size/\8*x.o.slots<=m/\(insM s ⟨p,false⟩).ok=true/\(insM s ⟨p,false⟩).r=⟨p+8*x.o.slots,false⟩/\(insM s ⟨p,false⟩).jump=x.jmp /\
  nameIns (insM s ⟨p,false⟩)=(if x.refers≠0/\x.num≠0 then none else some (x.toI (T [63])))/\x.name=[]/\x.d<=15/\x.s<=15/\(-32768<=x.jump/\x.jump<=32767)/\(-2147483648<=x.num/\x.num<=2147483647)/\(-2147483648<=x.high/\x.high<=2147483647)/\x.o.needs (x.ins [])=true
 no:fromP (l.take m)=none->(insM s ⟨p,false⟩).ok=false\/(insM s ⟨p,false⟩).r.bad=true\/(m<16/\∀ i,nameIns (insM s ⟨p,false⟩)=some i->slotsI i.word=2)
theorem slots_le (o:OpS) (v:RIns × Bool) (h:RowF o v):o.slots=1\/(o.slots=2/\sortM v.1.word=119/\v.1.word=WIDE):=by
 rw [h.slots];unfold slotsI
 by_cases e:v.1.word=WIDE
 ·rw [if_pos e,e];exact .inr ⟨rfl,sort_wide,rfl⟩
 ·rw [if_neg e];exact .inl rfl
theorem ins_sim (s:ByteArray) (p m:Nat) (h8:8<=m) (hm:p+m<=s.size):InsSim s p m ((BL s).drop p):=by
 have hl:((BL s).drop p).length=s.size - p:=by rw [List.length_drop,BL_size]
 have hs8:p+8<=s.size:=by omega
 have hlt:(((BL s).drop p).take m).length=m:=by rw [List.length_take,hl];omega
 have hM:=insM_eq s p hs8
 have hnext:p+16<=s.size->rsl s ⟨p+8,false⟩=(slotAt ((BL s).drop (p+8)),⟨p+16,false⟩):=fun h=>rsl_at s (p+8) (by omega)
 have hnext':(rsl s ⟨p+8,false⟩).2.bad=true\/p+16<=s.size:=by
  by_cases h:p+16<=s.size
  ·exact .inr h
  ·exact .inl (rsl_end s (p+8) (by omega))
 have hsl8:(BL s).drop (p+8)=((BL s).drop p).drop 8:=by rw [List.drop_drop]
 generalize (BL s).drop p=l at *
 have hc0:=at_lt l 0
 have e0:at' (l.take m) 0=at' l 0:=at_take l m 0 (by omega)
 have e1:at' (l.take m) 1=at' l 1:=at_take l m 1 (by omega)
 have e2:at' (l.take m) 2=at' l 2:=at_take l m 2 (by omega)
 have e3:at' (l.take m) 3=at' l 3:=at_take l m 3 (by omega)
 have e4:=num32_take l 4 m (by omega)
 have h1l:=at_lt l 1
 have h2l:=at_lt l 2
 have h3l:=at_lt l 3
 cases hk:byCodeM (at' l 0) with
 | none =>
  have hw:(wordM (at' l 0)).2=false:=by
   have:=List.all_eq_true.1 codes_ok (at' l 0) (List.mem_range.2 hc0)
   simpa [hk] using this
  have hf:fromP (l.take m)=none:=by
   unfold fromP
   rw [if_neg (by omega),e0,hk]
  have hok:(insM s ⟨p,false⟩).ok=false:=by
   rw [hM,if_pos (.inl hw)]
  exact ⟨fun x hx=>(by rw [hf] at hx;cases hx),fun _=>.inl hok⟩
 | some k =>
  have hkc:=List.all_eq_true.1 codes_lt (at' l 0) (List.mem_range.2 hc0)
  simp only [hk,Bool.and_eq_true,decide_eq_true_eq] at hkc
  obtain ⟨hk88,hcode⟩:=hkc;obtain ⟨hF,_⟩:=row_facts k hk88;rw [hcode] at hF
  have hw:=hF.ok
  have hop:(slotAt l).op=at' l 0:=rfl
  rw [hop] at hM
  have hsl:=slots_le _ _ hF
  let x:PI:=⟨k,at' l 1 % 16,at' l 1 / 16,sgn16 (at' l 2+256*at' l 3),num32 (l.drop 4),if 1<(tableS[k]?.getD noOp).slots then num32 ((l.take m).drop 12) else 0,[]⟩
  have hfr:fromP (l.take m)=if m<(tableS[k]?.getD noOp).slots*8 then none else if 1<(tableS[k]?.getD noOp).slots/\((l.take m).drop 8).take 4≠[0,0,0,0] then none else if (tableS[k]?.getD noOp).needs (x.ins []) then some x else none:=by
   unfold fromP
   rw [if_neg (by omega),e0,hk]
   simp only [hlt,e1,e2,e3,e4]
   rfl
  have xo:x.o=tableS[k]?.getD noOp:=rfl
  have hxd:x.d=(slotAt l).d:=rfl
  have hxs:x.s=(slotAt l).s:=rfl
  have hxj:x.jump=(slotAt l).jump:=sgn16_eq _
  have hxn:(slotAt l).n=u64 x.num:=(num32_n l 4).symm
  have hxb:=num32_bd (l.drop 4)
  have hjb:=sgn16_bd (at' l 2+256*at' l 3) (by omega)
  have hhb:-2147483648<=x.high/\x.high<=2147483647:=by
   show -2147483648<=(if _ then _ else _)/\(if _ then _ else _)<=_
   split
   ·exact num32_bd _
   ·omega
  have hview:x.view=(wordM (at' l 0)).1:=by
   unfold PI.view;rw [xo,hcode]
  rcases hsl with h1 | ⟨h2,hs119,hW⟩
  ·-- of one slot
   have hk119:sortM (wordM (at' l 0)).1.word≠119:=by
    intro h
    have h':=hF.slots
    rw [h1] at h'
    rcases hF.kind with ⟨k,_⟩ | ⟨k,_⟩ | ⟨k,_⟩ | ⟨k,_⟩ | ⟨_,_,_,_,hW⟩ | ⟨k,_⟩ | ⟨k,_⟩<;>(try (rw [k] at h;exact absurd h (by decide)))
    rw [hW] at h'
    simp [slotsI] at h'
   have hA:=agree_one (y:=(rsl s ⟨p+8,false⟩).1) (bad2:=(rsl s ⟨p+8,false⟩).2.bad) (r1:=⟨p+8,false⟩) (r2:=(rsl s ⟨p+8,false⟩).2) hxd hxs hxj hxn hxb hF hk119
   rw [h1,if_neg (by omega),if_neg (by omega)] at hfr
   cases hn:(tableS[k]?.getD noOp).needs (x.ins []) with
   | true =>
    rw [hn,if_pos rfl] at hfr;obtain ⟨g1,g2,g3,g4,g5,g6⟩:=hA.yes hn
    rw [if_neg (by rintro (h | h | h);rw [hw] at h;cases h;exact g1 h;exact g2 h)] at hM
    refine ⟨fun x' hx=>?_,fun hx=>by rw [hfr] at hx;cases hx⟩
    rw [hfr] at hx
    cases hx
    rw [hM]
    refine ⟨hk88,by rw [xo,h1];omega,by rw [xo,h1];omega,g3,by rw [g4,xo,h1],by rw [g5,PI.jmp,hview],?_,rfl,by show at' l 1 % 16<=15;omega,by show at' l 1 / 16<=15;omega,hjb,hxb,hhb,hn⟩
    rw [g6,PI.toI,hview]
    rfl
   | false =>
    rw [hn,if_neg (by simp)] at hfr
    refine ⟨fun x' hx=>(by rw [hfr] at hx;cases hx),fun _=>.inl ?_⟩
    rw [hM]
    split
    ·rfl
    ·rename_i hno
     rcases hA.no hn with h | h | h
     ·exact absurd (.inr (.inl h)) hno
     ·exact absurd (.inr (.inr h)) hno
     ·exact h
  ·-- of two
   rw [h2] at hfr
   by_cases hm16:m<16
   ·rw [if_pos (by omega)] at hfr
    refine ⟨fun x' hx=>(by rw [hfr] at hx;cases hx),fun _=>?_⟩
    cases hok:(insM s ⟨p,false⟩).ok with
    | false=>exact .inl rfl
    | true =>
     refine .inr (.inr ⟨hm16,fun i hi=>?_⟩)
     have hword:(insM s ⟨p,false⟩).i.word=WIDE:=by
      rw [hM]
      split
      ·exact hW
      ·simp only [insV,hs119]
       rw [if_neg (by decide),if_neg (by decide),if_neg (by decide),if_pos (by trivial)]
       split<;>simp [insBase,hW]
     have:i.word=WIDE:=by
      unfold nameIns at hi
      split at hi
      ·split at hi
       ·cases hi
       ·cases hi;exact hword
      ·cases hi;exact hword
     rw [this];simp [slotsI]
   ·rw [if_neg (by omega)] at hfr
    have hz4:=zeros4 (l.take m) (by omega)
    rw [at_take l m 8 (by omega),at_take l m 9 (by omega),at_take l m 10 (by omega),at_take l m 11 (by omega)] at hz4
    have hsz:=slot_zero (l.drop 8)
    simp only [at_drop] at hsz
    have hN:=hnext (by omega)
    rw [hsl8] at hN
    by_cases hzz:((l.take m).drop 8).take 4=[0,0,0,0]
    ·rw [if_neg (by rintro ⟨_,h⟩;exact h hzz)] at hfr
     have hzero:=hsz.2 (hz4.1 hzz)
     have hxh:x.high=num32 (l.drop 12):=by
      show (if _ then _ else _)=_
      rw [if_pos (by rw [h2];omega),num32_take l 12 m (by omega)]
     have hyn:(slotAt (l.drop 8)).n=u64 x.high:=by
      rw [hxh,num32_n l 12]
      simp only [slotAt,at_drop]
     have hA:=agree_wide (y:=slotAt (l.drop 8)) (r1:=⟨p+8,false⟩) (r2:=⟨p+16,false⟩) hxd hxs hxj hxn hxb hF hs119 hyn hhb hzero
     rw [hN] at hM
     cases hn:(tableS[k]?.getD noOp).needs (x.ins []) with
     | true =>
      rw [hn,if_pos rfl] at hfr;obtain ⟨g1,g2,g3,g4,g5,g6⟩:=hA.yes hn
      rw [if_neg (by rintro (h | h | h);rw [hw] at h;cases h;exact g1 h;exact g2 h)] at hM
      refine ⟨fun x' hx=>?_,fun hx=>by rw [hfr] at hx;cases hx⟩
      rw [hfr] at hx
      cases hx
      rw [hM]
      refine ⟨hk88,by rw [xo,h2];omega,by rw [xo,h2];omega,g3,by rw [g4,xo,h2],by rw [g5,PI.jmp,hview],?_,rfl,by show at' l 1 % 16<=15;omega,by show at' l 1 / 16<=15;omega,hjb,hxb,hhb,hn⟩
      rw [g6,PI.toI,hview]
      rfl
     | false =>
      rw [hn,if_neg (by simp)] at hfr
      refine ⟨fun x' hx=>(by rw [hfr] at hx;cases hx),fun _=>.inl ?_⟩
      rw [hM]
      split
      ·rfl
      ·rename_i hno
       rcases hA.no hn with h | h | h
       ·exact absurd (.inr (.inl h)) hno
       ·exact absurd (.inr (.inr h)) hno
       ·exact h
    ·rw [if_pos ⟨by omega,hzz⟩] at hfr
     refine ⟨fun x' hx=>(by rw [hfr] at hx;cases hx),fun _=>.inl ?_⟩
     have hnz:¬ ((slotAt (l.drop 8)).op=0/\(slotAt (l.drop 8)).d=0/\(slotAt (l.drop 8)).s=0/\(slotAt (l.drop 8)).jump=0):=fun h=>hzz (hz4.2 (hsz.1 h))
     rw [hM,hN]
     split
     ·rfl
     ·simp only [insV,hs119]
      rw [if_neg (by decide),if_neg (by decide),if_neg (by decide),if_pos (by trivial)]
      split<;>simp<;>grind
end Go.Proofs.YtoknbkfclhmapaaGreatDoor
