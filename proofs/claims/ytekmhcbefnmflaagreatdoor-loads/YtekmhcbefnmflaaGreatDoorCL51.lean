import Derived.Test.YtekmhcbefnmflaaGreatDoorCL10
namespace Go.Proofs.YtekmhcbefnmflaaGreatDoor
open Go.RowKit Tryz
open Nat renaming le_refl->ab
open Bool renaming false->eE
open Decidable renaming decide->eS
open _root_.Go renaming maxLen->fX,Calls->fL,bodyPost_ret->iz
set_option linter.all false
set_option maxRecDepth 100000
set_option maxHeartbeats 2000000
theorem abf(b:Nat)(s:tBA)(r:RS)(w:tW)(hs:s.size<=fX)(h:bH w b s r)(hok:(aB (aI s r).1.op).2=true)(hb:(aI s r).2.bad=eE)(hd:(aI s r).1.d<=10)(wj:(aI s r).1.s<=10)(hk:aF (aB (aI s r).1.op).1.word=106)(hby:(aB (aI s r).1.op).1.s<0)(HW:af (¬(aB (aI s r).1.op).1.word=T [106,97])):fL prog 87 #[vP b] w λe w'=>e=.returned (bu s r).val/\bH w' b s (bu s r).r/\aa (Only b) w w':=by
 have hlt:=h.lt;obtain⟨l1,l2,l3,l4,l5,l6,l7⟩:=fC s r;have lw:=cu (aI s r).1.op;have HM:af (bu s r=⟨aM (aB (aI s r).1.op).1 (aI s r).1,(aI s r).1.jump,0,!(((aI s r).1.s:Int) != 0),(aI s r).2⟩):=by rw[af,bu,iN9 (by simp[hok,hb];omega)];simp only[hk];simp[hby,HW.o,JA]
 go_in;go_wp2_with fail;refine(dG b s r _ hs (h.alloc _)).mono ?_;rintro e w1 ⟨rfl,h1,m1⟩;generalize aI s r=q at *;obtain⟨⟨op,d,sr,jump,n⟩,r1⟩:=q;simp only at *;have hz:ak w1 w.heap.size (aK.cells {}) 197:=ak.ae (ak.new w _ _) m1 (by simp[Only];omega);have M1:=aq.trans m1;have hsz:w.heap.size+1<=w1.heap.size:=by have:=m1.size;simpa using this
 clear m1;simp only[fF.val];go_wp2_with fail;refine(dN op _ l1).mono ?_;rintro e w2 ⟨rfl,m2⟩;have h2:bH w2 b s r1:=(ak.alloc h1 _).ae m2 (λe=>e);have hz2:=(hz.alloc _).ae m2 (λe=>e);have hx:ak w2 w1.heap.size (C5 op d sr jump n) 277:=(ak.new w1 _ _).ae m2 (λe=>e);have M2:=(M1.alloc _).trans (m2.of_nil);have hsz2:w1.heap.size+1<=w2.heap.size:=by have:=m2.size;simpa using this
 clear m2 M1 hz h1;generalize aB op=q at *;obtain⟨i,ok⟩:=q;simp only at *;simp only[aK.cells];subst hok;obtain⟨p,bad⟩:=r1;simp only at hb;subst hb;obtain⟨z0,z1,z2,z3,z4,z5,z6,z7⟩:=hz2.aO;have fz:=hz2.frozen;obtain⟨x0,x1,x2,x3,x4⟩:=hx.cells5;have n0:w.heap.size<w1.heap.size:=by omega
 have n1:w.heap.size<w2.heap.size:=by omega
 have n2:w1.heap.size<w2.heap.size:=by omega
 have n3:b<w2.heap.size:=by omega
 have n4:b<w1.heap.size:=by omega
 clear hsz hsz2;have r2:=h2.cell 2;simp at r2;have hd':eS ((10:Int)<(d:Int))=eE:=decide_eq_false (by omega);have hs':eS ((10:Int)<(sr:Int))=eE:=decide_eq_false (by omega);go_wp2_with fail;refine(eO _ _ (by unfold fX;omega)).mono ?_;rintro e w3 ⟨rfl,m3⟩;have h3:bH w3 b s ⟨p,eE⟩:=(ak.alloc h2 _).ae m3 (λe=>e);have hz3:=(hz2.alloc _).ae m3 (λe=>e);have hx3:=(hx.alloc _).ae m3 (λe=>e);have hi3:ak w3 w2.heap.size (aK.cells {i with d:=d}) 197:=(ak.new w2 _ _).ae m3 (λe=>e);have M3:=(M2.alloc _).trans (m3.of_nil);have n5:=hi3.lt;clear m3 M2 h2 hz2 hx x0 x1 x2 x3 x4 z0 z1 z2 z3 z4 z5 z6 z7 fz r2;obtain⟨z0,z1,z2,z3,z4,z5,z6,z7⟩:=hz3.aO;have fz:=hz3.frozen;obtain⟨x0,x1,x2,x3,x4⟩:=hx3.cells5;obtain⟨i0,i1,i2,i3,i4,i5,i6,i7⟩:=hi3.aO;have fi:=hi3.frozen;have r2:=h3.cell 2;simp at r2;simp only at i0 i1 i2 i3 i4 i5 i6 i7;rw[hk];have hwb:=fP (l:=[106,97]) HW.o;go_wp2
 all_goals
  go_region
  all_goals
   go_wp2;refine iz (aS results87 _ _ w.heap.size 197 _ (0,0) _ _ _ _ rfl rfl rfl rfl (ak.drew (ak.dI (hz3.setOther (a:=⟨w2.heap.size,5,none⟩) (by simp;omega) _) _ _ _ _ _ _ _ _)) underlying197 rfl (by kernel_rfl)) rfl ⟨?_,?_,?_⟩
   ·rw[HM.o];simp[ep.val,aM,aK.cells, *]
   ·rw[HM.o];refine ak.drew ?_
    iterate 9 refine ak.setOther ?_ (by simp;omega) _
    exact h3
   ·exact(M3.bJ (a:=⟨w2.heap.size,5,none⟩) (by simp;omega) _).dI (.inr (ab _)) _ _ _ _ _ _ _ _ |>.drew
theorem abg(b:Nat)(s:tBA)(r:RS)(w:tW)(hs:s.size<=fX)(h:bH w b s r)(hok:(aB (aI s r).1.op).2=true)(hb:(aI s r).2.bad=eE)(hd:(aI s r).1.d<=10)(wj:(aI s r).1.s<=10)(hk:aF (aB (aI s r).1.op).1.word=106)(hby:(aB (aI s r).1.op).1.s<0)(HW:af ((aB (aI s r).1.op).1.word=T [106,97])):fL prog 87 #[vP b] w λe w'=>e=.returned (bu s r).val/\bH w' b s (bu s r).r/\aa (Only b) w w':=by
 have hlt:=h.lt;obtain⟨l1,l2,l3,l4,l5,l6,l7⟩:=fC s r;have lw:=cu (aI s r).1.op;have HM:af (bu s r=⟨aM (aB (aI s r).1.op).1 (aI s r).1,(aI s r).1.jump,0,!((((aI s r).1.s:Int) != 0)||(((aI s r).1.d:Int) != 0)),(aI s r).2⟩):=by rw[af,bu,iN9 (by simp[hok,hb];omega)];simp only[hk];simp[hby,HW.o,JA]
 go_in;go_wp2_with fail;refine(dG b s r _ hs (h.alloc _)).mono ?_;rintro e w1 ⟨rfl,h1,m1⟩;generalize aI s r=q at *;obtain⟨⟨op,d,sr,jump,n⟩,r1⟩:=q;simp only at *;have hz:ak w1 w.heap.size (aK.cells {}) 197:=ak.ae (ak.new w _ _) m1 (by simp[Only];omega);have M1:=aq.trans m1;have hsz:w.heap.size+1<=w1.heap.size:=by have:=m1.size;simpa using this
 clear m1;simp only[fF.val];go_wp2_with fail;refine(dN op _ l1).mono ?_;rintro e w2 ⟨rfl,m2⟩;have h2:bH w2 b s r1:=(ak.alloc h1 _).ae m2 (λe=>e);have hz2:=(hz.alloc _).ae m2 (λe=>e);have hx:ak w2 w1.heap.size (C5 op d sr jump n) 277:=(ak.new w1 _ _).ae m2 (λe=>e);have M2:=(M1.alloc _).trans (m2.of_nil);have hsz2:w1.heap.size+1<=w2.heap.size:=by have:=m2.size;simpa using this
 clear m2 M1 hz h1;generalize aB op=q at *;obtain⟨i,ok⟩:=q;simp only at *;simp only[aK.cells];subst hok;obtain⟨p,bad⟩:=r1;simp only at hb;subst hb;obtain⟨z0,z1,z2,z3,z4,z5,z6,z7⟩:=hz2.aO;have fz:=hz2.frozen;obtain⟨x0,x1,x2,x3,x4⟩:=hx.cells5;have n0:w.heap.size<w1.heap.size:=by omega
 have n1:w.heap.size<w2.heap.size:=by omega
 have n2:w1.heap.size<w2.heap.size:=by omega
 have n3:b<w2.heap.size:=by omega
 have n4:b<w1.heap.size:=by omega
 clear hsz hsz2;have r2:=h2.cell 2;simp at r2;have hd':eS ((10:Int)<(d:Int))=eE:=decide_eq_false (by omega);have hs':eS ((10:Int)<(sr:Int))=eE:=decide_eq_false (by omega);go_wp2_with fail;refine(eO _ _ (by unfold fX;omega)).mono ?_;rintro e w3 ⟨rfl,m3⟩;have h3:bH w3 b s ⟨p,eE⟩:=(ak.alloc h2 _).ae m3 (λe=>e);have hz3:=(hz2.alloc _).ae m3 (λe=>e);have hx3:=(hx.alloc _).ae m3 (λe=>e);have hi3:ak w3 w2.heap.size (aK.cells {i with d:=d}) 197:=(ak.new w2 _ _).ae m3 (λe=>e);have M3:=(M2.alloc _).trans (m3.of_nil);have n5:=hi3.lt;clear m3 M2 h2 hz2 hx x0 x1 x2 x3 x4 z0 z1 z2 z3 z4 z5 z6 z7 fz r2;obtain⟨z0,z1,z2,z3,z4,z5,z6,z7⟩:=hz3.aO;have fz:=hz3.frozen;obtain⟨x0,x1,x2,x3,x4⟩:=hx3.cells5;obtain⟨i0,i1,i2,i3,i4,i5,i6,i7⟩:=hi3.aO;have fi:=hi3.frozen;have r2:=h3.cell 2;simp at r2;simp only at i0 i1 i2 i3 i4 i5 i6 i7;rw[hk];have hwb:=gi (l:=[106,97]) HW.o;go_wp2
 all_goals
  go_region
  all_goals
   go_wp2;refine iz (aS results87 _ _ w.heap.size 197 _ (0,0) _ _ _ _ rfl rfl rfl rfl (ak.drew (ak.dI (hz3.setOther (a:=⟨w2.heap.size,5,none⟩) (by simp;omega) _) _ _ _ _ _ _ _ _)) underlying197 rfl (by kernel_rfl)) rfl ⟨?_,?_,?_⟩
   ·rw[HM.o];simp[ep.val,aM,aK.cells, *]
   ·rw[HM.o];refine ak.drew ?_
    iterate 9 refine ak.setOther ?_ (by simp;omega) _
    exact h3
   ·exact(M3.bJ (a:=⟨w2.heap.size,5,none⟩) (by simp;omega) _).dI (.inr (ab _)) _ _ _ _ _ _ _ _ |>.drew
theorem abh(b:Nat)(s:tBA)(r:RS)(w:tW)(hs:s.size<=fX)(h:bH w b s r)(hok:(aB (aI s r).1.op).2=true)(hb:(aI s r).2.bad=eE)(hd:(aI s r).1.d<=10)(wj:(aI s r).1.s<=10)(hk:aF (aB (aI s r).1.op).1.word=106)(kP:¬(aB (aI s r).1.op).1.s<0)(HW:af (¬(aB (aI s r).1.op).1.word=T [106,97])):fL prog 87 #[vP b] w λe w'=>e=.returned (bu s r).val/\bH w' b s (bu s r).r/\aa (Only b) w w':=by
 have hlt:=h.lt;obtain⟨l1,l2,l3,l4,l5,l6,l7⟩:=fC s r;have lw:=cu (aI s r).1.op;have HM:af (bu s r=⟨aM (aB (aI s r).1.op).1 (aI s r).1,(aI s r).1.jump,0,!((aI s r).1.n != 0),(aI s r).2⟩):=by rw[af,bu,iN9 (by simp[hok,hb];omega)];simp only[hk];simp[kP,HW.o,JA]
 go_in;go_wp2_with fail;refine(dG b s r _ hs (h.alloc _)).mono ?_;rintro e w1 ⟨rfl,h1,m1⟩;generalize aI s r=q at *;obtain⟨⟨op,d,sr,jump,n⟩,r1⟩:=q;simp only at *;have hz:ak w1 w.heap.size (aK.cells {}) 197:=ak.ae (ak.new w _ _) m1 (by simp[Only];omega);have M1:=aq.trans m1;have hsz:w.heap.size+1<=w1.heap.size:=by have:=m1.size;simpa using this
 clear m1;simp only[fF.val];go_wp2_with fail;refine(dN op _ l1).mono ?_;rintro e w2 ⟨rfl,m2⟩;have h2:bH w2 b s r1:=(ak.alloc h1 _).ae m2 (λe=>e);have hz2:=(hz.alloc _).ae m2 (λe=>e);have hx:ak w2 w1.heap.size (C5 op d sr jump n) 277:=(ak.new w1 _ _).ae m2 (λe=>e);have M2:=(M1.alloc _).trans (m2.of_nil);have hsz2:w1.heap.size+1<=w2.heap.size:=by have:=m2.size;simpa using this
 clear m2 M1 hz h1;generalize aB op=q at *;obtain⟨i,ok⟩:=q;simp only at *;simp only[aK.cells];subst hok;obtain⟨p,bad⟩:=r1;simp only at hb;subst hb;obtain⟨z0,z1,z2,z3,z4,z5,z6,z7⟩:=hz2.aO;have fz:=hz2.frozen;obtain⟨x0,x1,x2,x3,x4⟩:=hx.cells5;have n0:w.heap.size<w1.heap.size:=by omega
 have n1:w.heap.size<w2.heap.size:=by omega
 have n2:w1.heap.size<w2.heap.size:=by omega
 have n3:b<w2.heap.size:=by omega
 have n4:b<w1.heap.size:=by omega
 clear hsz hsz2;have r2:=h2.cell 2;simp at r2;have hd':eS ((10:Int)<(d:Int))=eE:=decide_eq_false (by omega);have hs':eS ((10:Int)<(sr:Int))=eE:=decide_eq_false (by omega);go_wp2_with fail;refine(eO _ _ (by unfold fX;omega)).mono ?_;rintro e w3 ⟨rfl,m3⟩;have h3:bH w3 b s ⟨p,eE⟩:=(ak.alloc h2 _).ae m3 (λe=>e);have hz3:=(hz2.alloc _).ae m3 (λe=>e);have hx3:=(hx.alloc _).ae m3 (λe=>e);have hi3:ak w3 w2.heap.size (aK.cells {i with d:=d}) 197:=(ak.new w2 _ _).ae m3 (λe=>e);have M3:=(M2.alloc _).trans (m3.of_nil);have n5:=hi3.lt;clear m3 M2 h2 hz2 hx x0 x1 x2 x3 x4 z0 z1 z2 z3 z4 z5 z6 z7 fz r2;obtain⟨z0,z1,z2,z3,z4,z5,z6,z7⟩:=hz3.aO;have fz:=hz3.frozen;obtain⟨x0,x1,x2,x3,x4⟩:=hx3.cells5;obtain⟨i0,i1,i2,i3,i4,i5,i6,i7⟩:=hi3.aO;have fi:=hi3.frozen;have r2:=h3.cell 2;simp at r2;simp only at i0 i1 i2 i3 i4 i5 i6 i7;rw[hk];have hby:eS (i.s<0)=eE:=decide_eq_false (by omega);have HB0:af (¬i.s<0):=by unfold af;omega
 have hin:af (aM i ⟨op,d,sr,jump,n⟩={i with d:=d,s:=sr,n:=n}):=by simp[af,aM,HB0.o]
 clear kP;have hwb:=fP (l:=[106,97]) HW.o;go_wp2
 all_goals
  go_region
  all_goals
   go_wp2;rw[hin.o]at HM;refine iz (aS results87 _ _ w.heap.size 197 _ (0,0) _ _ _ _ rfl rfl rfl rfl (ak.drew (ak.dI ((hz3.setOther (a:=⟨w2.heap.size,3,none⟩) (by simp;omega) _).setOther (a:=⟨w2.heap.size,5,none⟩) (by simp;omega) _) _ _ _ _ _ _ _ _)) underlying197 rfl (by kernel_rfl)) rfl ⟨?_,?_,?_⟩
   ·rw[HM.o];simp[ep.val,aK.cells, *]
   ·rw[HM.o];refine ak.drew ?_
    iterate 10 refine ak.setOther ?_ (by simp;omega) _
    exact h3
   ·exact((M3.bJ (a:=⟨w2.heap.size,3,none⟩) (by simp;omega) _).bJ (a:=⟨w2.heap.size,5,none⟩) (by simp;omega) _).dI (.inr (ab _)) _ _ _ _ _ _ _ _ |>.drew
theorem abj(b:Nat)(s:tBA)(r:RS)(w:tW)(hs:s.size<=fX)(h:bH w b s r)(hok:(aB (aI s r).1.op).2=true)(hb:(aI s r).2.bad=eE)(hd:(aI s r).1.d<=10)(wj:(aI s r).1.s<=10)(hk:aF (aB (aI s r).1.op).1.word=106)(kP:¬(aB (aI s r).1.op).1.s<0)(HW:af ((aB (aI s r).1.op).1.word=T [106,97])):fL prog 87 #[vP b] w λe w'=>e=.returned (bu s r).val/\bH w' b s (bu s r).r/\aa (Only b) w w':=by
 have hlt:=h.lt;obtain⟨l1,l2,l3,l4,l5,l6,l7⟩:=fC s r;have lw:=cu (aI s r).1.op;have HM:af (bu s r=⟨aM (aB (aI s r).1.op).1 (aI s r).1,(aI s r).1.jump,0,!(((aI s r).1.n != 0)||(((aI s r).1.s:Int) != 0)||(((aI s r).1.d:Int) != 0)),(aI s r).2⟩):=by rw[af,bu,iN9 (by simp[hok,hb];omega)];simp only[hk];simp[kP,HW.o,JA]
 go_in;go_wp2_with fail;refine(dG b s r _ hs (h.alloc _)).mono ?_;rintro e w1 ⟨rfl,h1,m1⟩;generalize aI s r=q at *;obtain⟨⟨op,d,sr,jump,n⟩,r1⟩:=q;simp only at *;have hz:ak w1 w.heap.size (aK.cells {}) 197:=ak.ae (ak.new w _ _) m1 (by simp[Only];omega);have M1:=aq.trans m1;have hsz:w.heap.size+1<=w1.heap.size:=by have:=m1.size;simpa using this
 clear m1;simp only[fF.val];go_wp2_with fail;refine(dN op _ l1).mono ?_;rintro e w2 ⟨rfl,m2⟩;have h2:bH w2 b s r1:=(ak.alloc h1 _).ae m2 (λe=>e);have hz2:=(hz.alloc _).ae m2 (λe=>e);have hx:ak w2 w1.heap.size (C5 op d sr jump n) 277:=(ak.new w1 _ _).ae m2 (λe=>e);have M2:=(M1.alloc _).trans (m2.of_nil);have hsz2:w1.heap.size+1<=w2.heap.size:=by have:=m2.size;simpa using this
 clear m2 M1 hz h1;generalize aB op=q at *;obtain⟨i,ok⟩:=q;simp only at *;simp only[aK.cells];subst hok;obtain⟨p,bad⟩:=r1;simp only at hb;subst hb;obtain⟨z0,z1,z2,z3,z4,z5,z6,z7⟩:=hz2.aO;have fz:=hz2.frozen;obtain⟨x0,x1,x2,x3,x4⟩:=hx.cells5;have n0:w.heap.size<w1.heap.size:=by omega
 have n1:w.heap.size<w2.heap.size:=by omega
 have n2:w1.heap.size<w2.heap.size:=by omega
 have n3:b<w2.heap.size:=by omega
 have n4:b<w1.heap.size:=by omega
 clear hsz hsz2;have r2:=h2.cell 2;simp at r2;have hd':eS ((10:Int)<(d:Int))=eE:=decide_eq_false (by omega);have hs':eS ((10:Int)<(sr:Int))=eE:=decide_eq_false (by omega);go_wp2_with fail;refine(eO _ _ (by unfold fX;omega)).mono ?_;rintro e w3 ⟨rfl,m3⟩;have h3:bH w3 b s ⟨p,eE⟩:=(ak.alloc h2 _).ae m3 (λe=>e);have hz3:=(hz2.alloc _).ae m3 (λe=>e);have hx3:=(hx.alloc _).ae m3 (λe=>e);have hi3:ak w3 w2.heap.size (aK.cells {i with d:=d}) 197:=(ak.new w2 _ _).ae m3 (λe=>e);have M3:=(M2.alloc _).trans (m3.of_nil);have n5:=hi3.lt;clear m3 M2 h2 hz2 hx x0 x1 x2 x3 x4 z0 z1 z2 z3 z4 z5 z6 z7 fz r2;obtain⟨z0,z1,z2,z3,z4,z5,z6,z7⟩:=hz3.aO;have fz:=hz3.frozen;obtain⟨x0,x1,x2,x3,x4⟩:=hx3.cells5;obtain⟨i0,i1,i2,i3,i4,i5,i6,i7⟩:=hi3.aO;have fi:=hi3.frozen;have r2:=h3.cell 2;simp at r2;simp only at i0 i1 i2 i3 i4 i5 i6 i7;rw[hk];have hby:eS (i.s<0)=eE:=decide_eq_false (by omega);have HB0:af (¬i.s<0):=by unfold af;omega
 have hin:af (aM i ⟨op,d,sr,jump,n⟩={i with d:=d,s:=sr,n:=n}):=by simp[af,aM,HB0.o]
 clear kP;have hwb:=gi (l:=[106,97]) HW.o;go_wp2
 all_goals
  go_region
  all_goals
   go_wp2;rw[hin.o]at HM;refine iz (aS results87 _ _ w.heap.size 197 _ (0,0) _ _ _ _ rfl rfl rfl rfl (ak.drew (ak.dI ((hz3.setOther (a:=⟨w2.heap.size,3,none⟩) (by simp;omega) _).setOther (a:=⟨w2.heap.size,5,none⟩) (by simp;omega) _) _ _ _ _ _ _ _ _)) underlying197 rfl (by kernel_rfl)) rfl ⟨?_,?_,?_⟩
   ·rw[HM.o];simp[ep.val,aK.cells, *]
   ·rw[HM.o];refine ak.drew ?_
    iterate 10 refine ak.setOther ?_ (by simp;omega) _
    exact h3
   ·exact((M3.bJ (a:=⟨w2.heap.size,3,none⟩) (by simp;omega) _).bJ (a:=⟨w2.heap.size,5,none⟩) (by simp;omega) _).dI (.inr (ab _)) _ _ _ _ _ _ _ _ |>.drew
