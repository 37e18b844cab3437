import Derived.Test.YtmajaohgiilelaaGreatDoorC11
import Derived.Test.YtmajaohgiilelaaGreatDoorC12
namespace Go.Proofs.YtmajaohgiilelaaGreatDoor
open Go.RowKit Tryz
open _root_.Array renaming length_toList->ca
open List renaming not_mem_nil->an,mem_cons->ao,take_succ_eq_append_getElem->ar,getElem_append_right->bh,getElem_append_left->bj,take_of_length_le->bt,flatMap_append->b9,all_toArray->cb,all_eq_true->cc
open Nat renaming le_refl->ba
set_option linter.all false
set_option maxRecDepth 100000
set_option maxHeartbeats 2000000
theorem Y9(w:tW)(v:Value)(hv:∃o n c,v=.slice o n c):Calls prog 164 #[v] w λe w'=>e=.returned (.func (.func 237) #[] #[.pointer (some ⟨w.heap.size,0,none⟩)])/\aq w' w.heap.size #[v] 169/\aa af w w':=by obtain⟨o,n,c,rfl⟩:=hv;go_enter func164,ntmps164;go_wp2_with fail;go_ret;exact⟨rfl,aq.new _ _ _,(aa.refl _ _).alloc _⟩
theorem Za(w:tW)(t:tBA)(v:Value)(hv:∃o n c,v=.slice o n c):Calls prog 165 #[.string t,v] w λe w'=>e=.returned (.func (.func 238) #[] #[.pointer (some ⟨w.heap.size,0,none⟩),.pointer (some ⟨w.heap.size+1,0,none⟩)]) /\ aq w' w.heap.size #[.string t] 9/\aq w' (w.heap.size+1) #[v] 169/\aa af w w':=by
 obtain⟨o,n,c,rfl⟩:=hv
 have hb:aq ((w.alloc (.cells #[.string t] 9)).alloc (.cells #[.slice o n c] 169)) (w.heap.size+1) #[.slice o n c] 169:=by
  have:=aq.new (w.alloc (.cells #[.string t] 9)) #[.slice o n c] 169
  simpa using this
 go_enter func165,ntmps165;go_wp2_with fail;go_ret;exact⟨rfl,(aq.new w _ _).alloc _,hb,((aa.refl _ _).alloc _).alloc _⟩
structure Dn(w:tW)(v1:Value)(f6:Fn)(c6:tAV)(k7:FuncId)(c7:tAV)(k8:FuncId)(c8:tAV)(o:eQ):Prop where
 wr:True
 nd:∀w' x,Kp w w'->x.Fit->Calls prog k8 (#[.agg x.cells]++c8) w' λe w''=>e=.returned (.bool (o.needs x))/\aa af w' w''
 e7:Ul k7
 e8:Ul k8
 ws:Sl w 9 1 v1 o.words.length (o.words.map (λt=>.string (T t)))
 rd:U8 w o.read f6 c6
theorem Dn.kp{w w':tW}{v1:Value}{f6:Fn}{c6:tAV}{k7:FuncId}{c7:tAV}{k8:FuncId}{c8:tAV}{o:eQ}(h:Dn w v1 f6 c6 k7 c7 k8 c8 o)(m:Kp w w'):Dn w' v1 f6 c6 k7 c7 k8 c8 o :=
 ⟨trivial,λw2 x m2=>h.nd w2 x (m.trans m2),h.e7,h.e8,h.ws.kp m (by decide),h.rd.kp m⟩
structure dM(w:tW)(b:Nat)(o:eQ):Prop where
 ex:∃(o1:Option Addr) (n1 c1:Nat) (f6:Fn) (c6:tAV) (k7:FuncId) (c7:tAV) (k8:FuncId) (c8:tAV) (f9:Fn) (c9:tAV),
  aq w b #[.int .u8 o.code,.slice o1 n1 c1,.int .i64 o.slots,.bool o.jumps,.bool o.ends,.int .i64 o.aX,.func f6 #[] c6,.func (.func k7) #[] c7,.func (.func k8) #[] c8,.func f9 #[] c9] 134/\Dn w (.slice o1 n1 c1) f6 c6 k7 c7 k8 c8 o
theorem dM.ah{w w':tW}{b:Nat}{o:eQ}(h:dM w b o)(m:aa af w w'):dM w' b o:=by obtain⟨o1,n1,c1,f6,c6,k7,c7,k8,c8,f9,c9,h1,h2⟩:=h.ex;exact⟨o1,n1,c1,f6,c6,k7,c7,k8,c8,f9,c9,h1.ah m id,h2.kp m.kp⟩
theorem dM.lt{w:tW}{b:Nat}{o:eQ}(h:dM w b o):b<w.heap.size:=by obtain⟨o1,n1,c1,f6,c6,k7,c7,k8,c8,f9,c9,h1,h2⟩:=h.ex;exact h1.lt
theorem dM.yZ{w:tW}{b:Nat}{o:eQ}(h:dM w b o):Gn w b:=by obtain⟨o1,n1,c1,f6,c6,k7,c7,k8,c8,f9,c9,h1,h2⟩:=h.ex;exact⟨_,_,_,h1,.inl rfl⟩
theorem Kp.set{w:tW}{b:Nat}(h:Gn w b)(i:Nat)(v:Value):Kp w (w.setCell ⟨b,i,none⟩ v):=(aa.refl (Gn w) w).set (a:=⟨b,i,none⟩) (.inl h) v
theorem dM.kpb{w w':tW}{b:Nat}{o:eQ}(h:dM w b o)(m:Kp w w')(hb:w'.heap[b]?=w.heap[b]?):dM w' b o:=by obtain⟨o1,n1,c1,f6,c6,k7,c7,k8,c8,f9,c9,h1,h2⟩:=h.ex;exact⟨o1,n1,c1,f6,c6,k7,c7,k8,c8,f9,c9,hb.trans h1,h2.kp m⟩
theorem dM.other{w:tW}{b b':Nat}{o:eQ}(h:dM w b o)(hb:Gn w b')(hne:b'≠b)(i:Nat)(v:Value):dM (w.setCell ⟨b',i,none⟩ v) b o:=by obtain⟨o1,n1,c1,f6,c6,k7,c7,k8,c8,f9,c9,h1,h2⟩:=h.ex;exact⟨o1,n1,c1,f6,c6,k7,c7,k8,c8,f9,c9,h1.setOther hne _,h2.kp (Kp.set hb i v)⟩
theorem dM.jumps{w:tW}{b:Nat}{o:eQ}(h:dM w b o):dM (w.setCell ⟨b,3,none⟩ (.bool true)) b {o with jumps:=true}:=by have hk:=Kp.set h.yZ 3 (.bool true);obtain⟨o1,n1,c1,f6,c6,k7,c7,k8,c8,f9,c9,h1,h2⟩:=h.ex;have h3:=h2.kp hk;exact⟨o1,n1,c1,f6,c6,k7,c7,k8,c8,f9,c9,h1.set 3 _,⟨h3.wr,h3.nd,h3.e7,h3.e8,h3.ws,h3.rd⟩⟩
theorem dM.ends{w:tW}{b:Nat}{o:eQ}(h:dM w b o):dM (w.setCell ⟨b,4,none⟩ (.bool true)) b {o with ends:=true}:=by have hk:=Kp.set h.yZ 4 (.bool true);obtain⟨o1,n1,c1,f6,c6,k7,c7,k8,c8,f9,c9,h1,h2⟩:=h.ex;have h3:=h2.kp hk;exact⟨o1,n1,c1,f6,c6,k7,c7,k8,c8,f9,c9,h1.set 4 _,⟨h3.wr,h3.nd,h3.e7,h3.e8,h3.ws,h3.rd⟩⟩
theorem dM.slots{w:tW}{b:Nat}{o:eQ}(h:dM w b o)(n:Nat):dM (w.setCell ⟨b,2,none⟩ (.int .i64 n)) b {o with slots:=n}:=by have hk:=Kp.set h.yZ 2 (.int .i64 n);obtain⟨o1,n1,c1,f6,c6,k7,c7,k8,c8,f9,c9,h1,h2⟩:=h.ex;have h3:=h2.kp hk;exact⟨o1,n1,c1,f6,c6,k7,c7,k8,c8,f9,c9,h1.set 2 _,⟨h3.wr,h3.nd,h3.e7,h3.e8,h3.ws,h3.rd⟩⟩
theorem dM.aX{w:tW}{b:Nat}{o:eQ}(h:dM w b o)(n:Nat):dM (w.setCell ⟨b,5,none⟩ (.int .i64 n)) b {o with aX:=n}:=by have hk:=Kp.set h.yZ 5 (.int .i64 n);obtain⟨o1,n1,c1,f6,c6,k7,c7,k8,c8,f9,c9,h1,h2⟩:=h.ex;have h3:=h2.kp hk;exact⟨o1,n1,c1,f6,c6,k7,c7,k8,c8,f9,c9,h1.set 5 _,⟨h3.wr,h3.nd,h3.e7,h3.e8,h3.ws,h3.rd⟩⟩
theorem Zb(w:tW)(bW br bw bp b1 b2:Nat)(code:Nat)(word:tLB)(v:Value)(ps:List PK)(hw:aq w bw #[.string (T word)] 9)(hp:aq w bp #[v] 169)(hn:aq w b1 #[v] 169)(hf:aq w b2 #[.int .i64 (dZ ps)] 165)(hP:PartsAt w v ps) (hwl:word.length<=100) (hpl:ps.length<=10) (hW:aq w bW #[.string (T word)] 9) (hR:aq w br #[v] 169):Dn w (.slice (some ⟨bW,0,none⟩) 1 1) (.func 237) #[.pointer (some ⟨br,0,none⟩)] 238 #[.pointer (some ⟨bw,0,none⟩),.pointer (some ⟨bp,0,none⟩)] 241 #[.pointer (some ⟨b1,0,none⟩),.pointer (some ⟨b2,0,none⟩)] (iC code word ps) where
 wr:=trivial
 nd:=λw' x m hx=>Rt x hx w' b1 b2 _ v ps (Gp ps) (hn.kp m (by decide)) (hf.kp m (by decide)) (hP.kp m) hpl
 e7:=enters_of func238 (by kernel_rfl) rfl
 e8:=enters_of func241 (by kernel_rfl) rfl
 ws:=Sl.fresh hW rfl (by decide)
 rd:=⟨_,rfl,enters_of func237 (by kernel_rfl) rfl,λw' b op r m hE h hl=>Ru b br op r v ps w' h (hR.kp m (by decide)) (hP.kp m) hpl hl hE⟩
theorem Zc(w:tW)(code:Nat)(word:tLB)(v:Value)(ps:List PK)(f9:Fn)(c9:tAV)(hP:PartsAt w v ps)(hwl:word.length<=100)(hpl:ps.length<=10):Calls prog 86 #[.int .u8 code,.string (T word),v,.func f9 #[] c9] w λe w'=>∃b,e=.returned (.pointer (some ⟨b,0,none⟩))/\dM w' b (iC code word ps)/\w.heap.size<=b/\aa af w w':=by
 have hv:∃o n c,v=.slice o n c:=by obtain⟨pv,_,_,hS⟩:=hP.ex;obtain⟨o,c,rfl,_⟩:=hS.view;exact⟨_,_,_,rfl⟩
 have HP:=ak hP;clear hP;obtain⟨o,n,c,rfl⟩:=hv;have m0:aa af w (w.alloc (.cells #[.string (T word)] 9)):=(aa.refl _ _).alloc _;have gq:ae _:=m0;clear m0;go_enter func86,ntmps86;go_wp2_with fail;refine(Y9 _ _ ⟨_,_,_,rfl⟩).mono ?_;rintro e w1 ⟨rfl,hr1,m1⟩;have iG:=ak (gq.o.trans m1);have HWB:ae (aq w1 w.heap.size #[.string (T word)] 9):=(aq.new w _ _).ah m1 id;have HRB:ae (aq w1 (w.heap.size+1) #[.slice o n c] 169):=by simp at hr1;exact hr1
 clear m1 hr1;go_wp2_with fail;refine(Za _ _ _ ⟨_,_,_,rfl⟩).mono ?_;rintro e w2 ⟨rfl,hw2,hp2,m2⟩;have HW2:=ak hw2;have eT:=ak hp2;have Zd:=ak (HWB.o.ah m2 id);have aee:=ak (HRB.o.ah m2 id);have ep:=ak (iG.o.trans m2);clear m2 hw2 hp2;go_wp2_with fail;refine(Vb _ _ _ (HP.o.ah ep.o) hpl).mono ?_;rintro e w3 ⟨rfl,h1,h2,m3⟩;have fw:=ak (ep.o.trans m3)
 have HO:ae (Dn w3 (.slice (some ⟨w.heap.size,0,none⟩) 1 1) (.func 237) #[.pointer (some ⟨w.heap.size+1,0,none⟩)] 238 #[.pointer (some ⟨w1.heap.size,0,none⟩),.pointer (some ⟨w1.heap.size+1,0,none⟩)] 241 #[.pointer (some ⟨w2.heap.size,0,none⟩),.pointer (some ⟨w2.heap.size+1,0,none⟩)] (iC code word ps)) :=
  Zb w3 _ _ _ _ _ _ code word _ ps (HW2.o.ah m3 id) (eT.o.ah m3 id) h1 h2 (HP.o.ah fw.o) hwl hpl (Zd.o.ah m3 id) (aee.o.ah m3 id)
 clear m3 h1 h2;go_wp2_with fail;go_ret;exact⟨w3.heap.size,rfl,⟨_,_,_,_,_,_,_,_,_,_,_,aq.new _ _ _,HO.o.kp ((aa.refl _ _).alloc _).kp⟩,fw.o.size,fw.o.alloc _⟩
def rT(w:tW)(e:Ending)(w':tW):Prop:=∃f c,e=.returned (.func f #[] c)/\aa af w w'
theorem lT(w:tW)(f1 f2:Fn)(a1 a2:tAV):Calls prog 87 #[.func f1 #[] a1,.func f2 #[] a2] w λe w'=>rT w e w':=by go_enter func87,ntmps87;go_wp2_with fail;go_ret;exact⟨_,_,rfl,by repeat(first|exact aa.refl _ _|refine aa.alloc ?_ _)⟩
theorem Dp(w:tW)(f1 f2:Fn)(a1 a2:tAV):Calls prog 97 #[.func f1 #[] a1,.func f2 #[] a2] w λe w'=>rT w e w':=by go_enter func97,ntmps97;go_wp2_with fail;go_ret;exact⟨_,_,rfl,by repeat(first|exact aa.refl _ _|refine aa.alloc ?_ _)⟩
theorem Rv(w:tW)(n:Int):Calls prog 101 #[.int .i64 n] w λe w'=>rT w e w':=by go_enter func101,ntmps101;go_wp2_with fail;go_ret;exact⟨_,_,rfl,by repeat(first|exact aa.refl _ _|refine aa.alloc ?_ _)⟩
theorem Dq(w:tW)(n:Int)(f1:Fn)(a1:tAV):Calls prog 102 #[.int .i64 n,.func f1 #[] a1] w λe w'=>rT w e w':=by go_enter func102,ntmps102;go_wp2_with fail;go_ret;exact⟨_,_,rfl,by repeat(first|exact aa.refl _ _|refine aa.alloc ?_ _)⟩
theorem Dr(w:tW)(f1:Fn)(a1:tAV):Calls prog 90 #[.func f1 #[] a1] w λe w'=>rT w e w':=by go_enter func90,ntmps90;go_wp2_with fail;go_ret;exact⟨_,_,rfl,by repeat(first|exact aa.refl _ _|refine aa.alloc ?_ _)⟩
theorem y8(w:tW)(f1:Fn)(a1:tAV):Calls prog 92 #[.func f1 #[] a1] w λe w'=>rT w e w':=by go_enter func92,ntmps92;go_wp2_with fail;go_ret;exact⟨_,_,rfl,by repeat(first|exact aa.refl _ _|refine aa.alloc ?_ _)⟩
theorem jD(w:tW)(f1:Fn)(a1:tAV):Calls prog 185 #[.func f1 #[] a1] w λe w'=>rT w e w':=by go_enter func185,ntmps185;go_wp2_with fail;go_ret;exact⟨_,_,rfl,by repeat(first|exact aa.refl _ _|refine aa.alloc ?_ _)⟩
theorem pX(w:tW)(f1:Fn)(a1:tAV):Calls prog 190 #[.func f1 #[] a1] w λe w'=>rT w e w':=by go_enter func190,ntmps190;go_wp2_with fail;refine(jD _ _ _).mono ?_;rintro e w1 ⟨f,c,rfl,m1⟩;go_wp2_with fail;go_ret;exact⟨_,_,rfl,((aa.refl _ _).alloc _).trans m1⟩
theorem Gr(w:tW)(f1:Fn)(a1:tAV):Calls prog 150 #[.func f1 #[] a1] w λe w'=>rT w e w':=by go_enter func150,ntmps150;go_wp2_with fail;refine(Dr _ _ _).mono ?_;rintro e w1 ⟨f,c,rfl,m1⟩;go_wp2_with fail;go_ret;exact⟨_,_,rfl,(((aa.refl _ _).alloc _).trans m1).alloc _⟩
theorem gu(w:tW)(t:tBA)(f1:Fn)(a1:tAV):Calls prog 153 #[.string t,.func f1 #[] a1] w λe w'=>∃f2 c2 f3 c3,e=.returned (.agg #[.string t,.func f2 #[] c2,.func f3 #[] c3])/\aa af w w':=by
 go_enter func153,ntmps153;go_wp2_with fail;refine(Dr _ _ _).mono ?_;rintro e w1 ⟨f2,c2,rfl,m1⟩;go_wp2_with fail;refine(y8 _ _ _).mono ?_;rintro e w2 ⟨f3,c3,rfl,m2⟩;have hz:=((aq.new w #[.string ⟨#[]⟩,.nilFunc,.nilFunc] 172).ah m1 id).ah m2 id;have z0:=hz.cell 0;have z1:=hz.cell 1;have z2:=hz.cell 2;have g0:=hz.frozen 0;have g1:=hz.frozen 1;have g2:=hz.frozen 2;simp at z0 z1 z2;go_wp2_with fail;refine bodyPost_ret (results_cell_row results153 _ _ w.heap.size 172 _ (0,0) _ rfl (((hz.set 0 _).set 1 _).set 2 _) underlying172 rfl (by kernel_rfl)) rfl ⟨_,_,_,_,rfl,?_⟩
 iterate 3 refine aa.set ?_ (.inr (by simp)) _
 exact(((aa.refl _ _).alloc _).trans m1).trans m2
structure AV where
 f1:Fn
 c1:tAV
 f2:Fn
 c2:tAV
def AV.cells(t:tLB)(v:AV):List Value:=[.string (T t),.func v.f1 #[] v.c1,.func v.f2 #[] v.c2]
def arC(Kr:List AV):List Value:=(kr.zip Kr).flatMap (λx=>x.2.cells x.1)
theorem aa.setRow{S:Nat->Prop}{w w':tW}(h:aa S w w'){g:Nat}(hg:S g\/w.heap.size<=g)(cs:tAV):aa S w (w'.setRow g cs) :=
 ⟨h.os,h.tape,h.output,by have:=h.size;simp[World.setRow];omega,λk hk hs=>by rw[setRow_other _ _ _ _ (by rintro rfl;rcases hg with hg|hg;exact hs hg;omega)];exact h.block k hk hs⟩
theorem aq.setRow{w:tW}{g:Nat}{cs:tAV}{t:TypeId}(h:aq w g cs t)(cs':tAV):aq (w.setRow g cs') g cs' t:=setRow_heap w g cs cs' t (0,0) h
theorem aq.BG{w:tW}{g g':Nat}{cs:tAV}{t:TypeId}(h:aq w g cs t)(hne:g≠g')(cs':tAV):aq (w.setRow g' cs') g cs t:=(setRow_other w g' g cs' hne).trans h
theorem Ze(Kr:List AV):(arC Kr).toArray.all (·.oneCell')=true:=by rw[cb,cc];intro v hv;obtain⟨x,_,hx⟩:=List.mem_flatMap.1 hv;simp only[AV.cells,ao,an,or_false]at hx;rcases hx with rfl|rfl|rfl<;>rfl
theorem MJ(w:tW):Calls prog 85 #[] w λe w'=>∃Kr:List AV,Kr.length=12/\e=.returned (.agg (arC Kr).toArray)/\aa af w w':=by go_enter func85,ntmps85;go_wp2_with fail;refine(Gr _ _ _).mono ?_;rintro e w1 ⟨x1a,x1b,rfl,m1⟩;have M1:=m1;clear m1;go_wp2_with fail;refine(y8 _ _ _).mono ?_;rintro e w2 ⟨x2a,x2b,rfl,m2⟩;have M2:=M1.trans m2;clear m2 M1;go_wp2_with fail;refine(Gr _ _ _).mono ?_;rintro e w3 ⟨x3a,x3b,rfl,m3⟩;have M3:=M2.trans m3;clear m3 M2;go_wp2_with fail;refine(y8 _ _ _).mono ?_;rintro e w4 ⟨x4a,x4b,rfl,m4⟩;have M4:=M3.trans m4;clear m4 M3;go_wp2_with fail;refine(gu _ _ _ _).mono ?_;rintro e w5 ⟨x5a,x5b,x5c,x5d,rfl,m5⟩;have M5:=M4.trans m5;clear m5 M4;go_wp2_with fail;refine(gu _ _ _ _).mono ?_;rintro e w6 ⟨x6a,x6b,x6c,x6d,rfl,m6⟩;have M6:=M5.trans m6;clear m6 M5;go_wp2_with fail;refine(gu _ _ _ _).mono ?_;rintro e w7 ⟨x7a,x7b,x7c,x7d,rfl,m7⟩;have M7:=M6.trans m7;clear m7 M6;go_wp2_with fail;refine(gu _ _ _ _).mono ?_;rintro e w8 ⟨x8a,x8b,x8c,x8d,rfl,m8⟩;have M8:=M7.trans m8;clear m8 M7;go_wp2_with fail;refine(gu _ _ _ _).mono ?_;rintro e w9 ⟨x9a,x9b,x9c,x9d,rfl,m9⟩;have M9:=M8.trans m9;clear m9 M8;go_wp2_with fail;refine(gu _ _ _ _).mono ?_;rintro e w10 ⟨aef,aeg,aeh,aei,rfl,m10⟩;have Vg:=M9.trans m10;clear m10 M9;go_wp2_with fail;refine(gu _ _ _ _).mono ?_;rintro e Um ⟨aej,aek,ael,aem,rfl,m11⟩;have Qg:=Vg.trans m11;clear m11 Vg;go_wp2_with fail;refine(gu _ _ _ _).mono ?_;rintro e w12 ⟨aen,aeo,aep,aeq,rfl,m12⟩;have M12:=Qg.trans m12;clear m12 Qg;go_wp2_with fail;refine(gu _ _ _ _).mono ?_;rintro e w13 ⟨aer,aes,aet,aeu,rfl,m13⟩;have M13:=M12.trans m13;clear m13 M12;have hz:=(aq.new w _ _).ah M13 id;have HZ:=ak hz;have HM:=ak M13;clear hz M13;go_wp2_with (refine wpList_store_row rfl 173 (.tmp 0) (.tmp 17) rfl w.heap.size (arC [⟨.func 148,#[],.func 149,#[]⟩,⟨x1a,x1b,x2a,x2b⟩,⟨x3a,x3b,x4a,x4b⟩,⟨x5a,x5b,x5c,x5d⟩,⟨x6a,x6b,x6c,x6d⟩,⟨x7a,x7b,x7c,x7d⟩,⟨x8a,x8b,x8c,x8d⟩,⟨x9a,x9b,x9c,x9d⟩,⟨aef,aeg,aeh,aei⟩,⟨aej,aek,ael,aem⟩,⟨aen,aeo,aep,aeq⟩,⟨aer,aes,aet,aeu⟩]).toArray rfl rfl 173 _ HZ.o (by kernel_rfl) rfl (Ze _) ?_);refine bodyPost_ret (results_cell_row results85 _ _ w.heap.size 173 _ (0,0) _ rfl (HZ.o.setRow _) underlying173 rfl (by kernel_rfl)) rfl ⟨_,rfl,rfl,?_⟩;exact(((aa.refl _ _).alloc _).trans HM.o).setRow (.inr (ba _)) _
structure JV where
 f1:Fn
 c1:tAV
def JV.cells(t:tLB)(v:JV):List Value:=[.string (T t),.func v.f1 #[] v.c1]
def juC(Kt:List JV):List Value:=(pV.zip Kt).flatMap (λx=>x.2.cells x.1)
theorem Zf(Kt:List JV):(juC Kt).toArray.all (·.oneCell')=true:=by rw[cb,cc];intro v hv;obtain⟨x,_,hx⟩:=List.mem_flatMap.1 hv;simp only[JV.cells,ao,an,or_false]at hx;rcases hx with rfl|rfl<;>rfl
theorem Rw(w:tW):Calls prog 96 #[] w λe w'=>∃Kt:List JV,Kt.length=11/\e=.returned (.agg (juC Kt).toArray)/\aa af w w':=by go_enter func96,ntmps96;go_wp2_with fail;refine(jD _ _ _).mono ?_;rintro e w1 ⟨x1a,x1b,rfl,m1⟩;have M1:=m1;clear m1;go_wp2_with fail;refine(jD _ _ _).mono ?_;rintro e w2 ⟨x2a,x2b,rfl,m2⟩;have M2:=M1.trans m2;clear m2 M1;go_wp2_with fail;refine(jD _ _ _).mono ?_;rintro e w3 ⟨x3a,x3b,rfl,m3⟩;have M3:=M2.trans m3;clear m3 M2;go_wp2_with fail;refine(jD _ _ _).mono ?_;rintro e w4 ⟨x4a,x4b,rfl,m4⟩;have M4:=M3.trans m4;clear m4 M3;go_wp2_with fail;refine(pX _ _ _).mono ?_;rintro e w5 ⟨x5a,x5b,rfl,m5⟩;have M5:=M4.trans m5;clear m5 M4;go_wp2_with fail;refine(pX _ _ _).mono ?_;rintro e w6 ⟨x6a,x6b,rfl,m6⟩;have M6:=M5.trans m6;clear m6 M5;go_wp2_with fail;refine(pX _ _ _).mono ?_;rintro e w7 ⟨x7a,x7b,rfl,m7⟩;have M7:=M6.trans m7;clear m7 M6;go_wp2_with fail;refine(pX _ _ _).mono ?_;rintro e w8 ⟨x8a,x8b,rfl,m8⟩;have M8:=M7.trans m8;clear m8 M7;go_wp2_with fail;refine(jD _ _ _).mono ?_;rintro e w9 ⟨x9a,x9b,rfl,m9⟩;have M9:=M8.trans m9;clear m9 M8;have hz:=(aq.new w _ _).ah M9 id;have HZ:=ak hz;have HM:=ak M9;clear hz M9;go_wp2_with (refine wpList_store_row rfl 183 (.tmp 0) (.tmp 21) rfl w.heap.size (juC [⟨.func 183,#[]⟩,⟨.func 184,#[]⟩,⟨x1a,x1b⟩,⟨x2a,x2b⟩,⟨x3a,x3b⟩,⟨x4a,x4b⟩,⟨x5a,x5b⟩,⟨x6a,x6b⟩,⟨x7a,x7b⟩,⟨x8a,x8b⟩,⟨x9a,x9b⟩]).toArray rfl rfl 183 _ HZ.o (by kernel_rfl) rfl (Zf _) ?_);refine bodyPost_ret (results_cell_row results96 _ _ w.heap.size 183 _ (0,0) _ rfl (HZ.o.setRow _) underlying183 rfl (by kernel_rfl)) rfl ⟨_,rfl,rfl,?_⟩;exact(((aa.refl _ _).alloc _).trans HM.o).setRow (.inr (ba _)) _
def jE(b:Nat):Value:=.pointer (some ⟨b,0,none⟩)
structure aR(base:Nat)(w:tW)(v:Value)(bs:List Nat)(os:List eQ):Prop where
 len:bs.length=os.length
 nd:bs.Nodup
 sl:Sl w 114 1 v bs.length (bs.map jE)
 at':∀i (h:i<bs.length) (h':i<os.length),dM w bs[i] os[i]
 lo:∀b∈bs,base<=b
 own:∀k,v.ownBlock=some k->base<=k
theorem aR.nil(base:Nat)(w:tW):aR base w (.slice none 0 0) [] [] :=
 ⟨rfl,List.nodup_nil,Sl.nil _ _ _,λi h=>absurd h (Nat.not_lt_zero _),λb h=>(by cases h),λk h=>(by cases h)⟩
theorem aR.ah{base:Nat}{w w':tW}{v:Value}{bs:List Nat}{os:List eQ}(h:aR base w v bs os)(m:aa af w w'):aR base w' v bs os :=
 ⟨h.len,h.nd,h.sl.ah m (λ_ _=>id),λi h1 h2=>(h.at' i h1 h2).ah m,h.lo,h.own⟩
theorem dM.MK{w:tW}{b:Nat}{o:eQ}(h:dM w b o){v:Value}{n:Nat}{xs:List Value}(hs:Sl w 114 1 v n xs):v.ownBlock≠some b:=by
 obtain⟨o1,n1,c1,f6,c6,k7,c7,k8,c8,f9,c9,h1,h2⟩:=h.ex;intro hv;rcases hs.2 with⟨rfl,rfl⟩ |⟨g,cap,cur,rfl,_,hg,_⟩
 ·cases hv
 ·cases hv;unfold aq at h1;rw[hg]at h1;cases h1
theorem aR.app{base:Nat}{w w':tW}{v v':Value}{bs cs:List Nat}{os ps:List eQ}(h:aR base w v bs os)(hlen:cs.length=ps.length)(hnd:(bs++cs).Nodup)(hat:∀i (h:i<cs.length) (h':i<ps.length),dM w cs[i] ps[i])(hlo:∀b∈cs,base<=b)(hsl:Sl w' 114 1 v' (bs.length+cs.length) (bs.map jE++cs.map jE)) (m:aa (λk=>v.ownBlock=some k) w w') (ho:∀k,v'.ownBlock=some k->v.ownBlock=some k\/w.heap.size<=k) (hb:base<=w.heap.size):aR base w' v' (bs++cs) (os++ps):=by
 have hk:=aa.MG h.sl m;have key:∀b o,dM w b o->dM w' b o:=λb o ha=>ha.kpb hk (m.block b ha.lt (λe=>ha.MK h.sl e));refine⟨by simp[h.len,hlen],hnd,by rw[List.length_append,List.map_append];exact hsl,λi h1 h2=>?_,λb hm=>?_,λk hk'=>?_⟩
 ·rcases Nat.lt_or_ge i bs.length with hi|hi
  ·rw[bj hi,bj (by rw[<-h.len];exact hi)];exact key _ _ (h.at' i hi _)
  ·rw[bh hi,bh (by rw[<-h.len];exact hi)];have:=hat (i-bs.length) (by simp at h1;omega) (by rw[<-hlen];simp at h1;omega);simp only[<-h.len];exact key _ _ this
 ·rcases List.mem_append.1 hm with hm|hm
  ·exact h.lo b hm
  ·exact hlo b hm
 ·rcases ho k hk' with e|e
  ·exact h.own k e
  ·omega
def Un(k:Nat):List eQ:=(kr.zipIdx.take k).flatMap λx=>CL x.2 x.1
theorem Vh(k:Nat)(h:k<12):Un (k+1)=Un k++CL k (kr[k]'h):=by
 have:∀k:Fin 12,Un (k.1+1)=Un k.1++CL k.1 (kr[k.1]'k.2):=by intro k;unfold Un;rw[ar (by simp;exact k.2),b9];simp;rfl
 exact this ⟨k,h⟩
theorem abJ(Kr:List AV)(hl:Kr.length=12)(k:Nat)(hk:k<12)(w:tW):(Instr.index 173 (.agg (arC Kr).toArray) (.int .i64 k)).run prog w=.ok (.agg (AV.cells (kr[k]'hk) (Kr[k]'(by omega))).toArray) w:=by
 match Kr,hl with
 |[a0,a1,a2,a3,a4,a5,a6,a7,a8,a9,a10,a11],_ =>
  have:k=0\/k=1\/k=2\/k=3\/k=4\/k=5\/k=6\/k=7\/k=8\/k=9\/k=10\/k=11:=by omega
  rcases this with rfl|rfl|rfl|rfl|rfl|rfl|rfl|rfl|rfl|rfl|rfl|rfl<;>rfl
theorem aR.lt{base:Nat}{w:tW}{v:Value}{bs:List Nat}{os:List eQ}(h:aR base w v bs os):∀b∈bs,b<w.heap.size:=λb hb=>by
 obtain⟨i,hi,rfl⟩:=List.getElem_of_mem hb;exact(h.at' i hi (by rw[<-h.len];exact hi)).lt
theorem aR.grow{base:Nat}{w0 wX w':tW}{v v':Value}{bs:List Nat}{os:List eQ}(cs:List Nat)(ps:List eQ)(h:aR base w0 v bs os)(m0:aa af w0 wX)(hlen:cs.length=ps.length)(hc:cs.Pairwise (·<·))(hlo:∀c∈cs,w0.heap.size<=c)(hat:∀i (h:i<cs.length) (h':i<ps.length),dM wX cs[i] ps[i]) (hsl:Sl w' 114 1 v' (bs.length+cs.length) (bs.map jE++cs.map jE)) (m:aa (λk=>v.ownBlock=some k) wX w') (ho:∀k,v'.ownBlock=some k->v.ownBlock=some k\/wX.heap.size<=k)(hb:base<=w0.heap.size):aR base w' v' (bs++cs) (os++ps):=by refine(h.ah m0).app hlen ?_ hat (λb hb'=>Nat.le_trans hb (hlo b hb')) hsl m ho (Nat.le_trans hb m0.size);rw[List.nodup_append];refine⟨h.nd,hc.imp (λh=>Nat.ne_of_lt h),λa ha b hb' e=>?_⟩;have h1:=h.lt a ha;have h2:=hlo b hb';omega
theorem PartsAt.new(w:tW)(pv:List (PK×PV))(h:∀x∈pv,x.2.Ok w x.1)(cs:tAV)(hc:cs.toList=pv.flatMap (λx=>x.2.cells x.1.fills))(n:Nat)(hn:pv.length=n)(hm:n<=100):PartsAt (w.alloc (.cells cs 167)) (.slice (some ⟨w.heap.size,0,none⟩) n n) (pv.map (·.1)):=by
 subst hn;have hl:=UF (λx:PK×PV=>x.2.cells x.1.fills) 4 (λ_=>rfl) pv;refine⟨pv,rfl,λx hx=>(h x hx).kp ((aa.refl _ _).alloc _).kp,?_⟩;refine SlB.sl ⟨ba _,by unfold maxLen;omega,?_,?_,hl⟩ (aq.new w cs 167)
 ·rw[<-ca,hc,hl]
 ·rw[hc,bt (by rw[hl];exact ba _)]
theorem PV.Ok.ah{w w':tW}{p:PK}{v:PV}(h:v.Ok w p)(m:aa af w w'):v.Ok w' p:=h.kp m.kp
theorem uT:(prog.info? 114).map (λi=>(i.zero,i.size,i.bytes))=some (some (.pointer none),1,8):=by kernel_rfl
theorem uU(bs:List Nat):∀u∈bs.map jE,u.oneCell'=true:=by intro u hu;obtain⟨b,_,rfl⟩:=List.mem_map.1 hu;rfl
theorem Qh(k:Nat)(h:k<=12):(Un k).length=4*k:=by
 have:∀k:Fin 13,(Un k.1).length=4*k.1:=by decide +kernel
 exact this ⟨k,by omega⟩
theorem kY(w:tW)(c:Int)(code:Nat)(hc:c=code)(s:tBA)(word:tLB)(hs:s=T word)(v:Value)(ps:List PK)(f9:Fn)(c9:tAV)(hP:PartsAt w v ps)(hwl:word.length<=100)(hpl:ps.length<=10):Calls prog 86 #[.int .u8 c,.string s,v,.func f9 #[] c9] w λe w'=>∃b,e=.returned (.pointer (some ⟨b,0,none⟩))/\dM w' b (iC code word ps)/\w.heap.size<=b/\aa af w w':=by subst hc hs;exact Zc w code word v ps f9 c9 hP hwl hpl
theorem Ku(k:Nat)(h:k<12):(T (kr[k]'h)).size<=90:=by
 have:∀k:Fin 12,(T (kr[k.1]'k.2)).size<=90:=by decide +kernel
 exact this ⟨k,h⟩
theorem Ik(w:tW):Calls prog 48 #[] w λe w'=>∃v bs,e=.returned v/\aR w.heap.size w' v bs Mu/\aa af w w':=by
 obtain⟨iP,hiP,qH,hsP,vZ⟩:=info_parts uT;go_enter func48,ntmps48;go_wp2_with fail;refine(mJ _).mono ?_;rintro e aw0 ⟨⟨rU,rV,rW,rX,rY,rZ⟩,rfl,Vi,Vj⟩;go_wp2_with fail;refine(gH _).mono ?_;rintro e aw1 ⟨⟨r9,si,sj,sD,sG,sH⟩,rfl,Rx,ML⟩;go_wp2_with fail;refine(pW _).mono ?_;rintro e MM ⟨⟨sJ,sK,sN,sO,sQ,sS⟩,rfl,Ry,Il⟩
 have Vk:ae (PartsAt (MM.alloc (.cells #[.int .i64 1,.func rU #[] rV,.func (.func rW) #[] rX,.func (.func rY) #[] rZ,.int .i64 0,.func r9 #[] si,.func (.func sj) #[] sD,.func (.func sG) #[] sH,.int .i64 2,.func sJ #[] sK,.func (.func sN) #[] sO,.func (.func sQ) #[] sS] 167)) (.slice (some ⟨MM.heap.size,0,none⟩) 3 3) lJ):=PartsAt.new MM [(.result,⟨rU,rV,rW,rX,rY,rZ⟩),(.comma,⟨r9,si,sj,sD,sG,sH⟩),(.source,⟨sJ,sK,sN,sO,sQ,sS⟩)] (by
  simp only[ao,an,or_false];rintro x (rfl|rfl|rfl)
  ·exact((Vi.ah ML).ah Il)
  ·exact(Rx.ah Il)
  ·exact Ry) _ rfl 3 rfl (by decide)
 have Uo:ae (aa af w (MM.alloc (.cells #[.int .i64 1,.func rU #[] rV,.func (.func rW) #[] rX,.func (.func rY) #[] rZ,.int .i64 0,.func r9 #[] si,.func (.func sj) #[] sD,.func (.func sG) #[] sH,.int .i64 2,.func sJ #[] sK,.func (.func sN) #[] sO,.func (.func sQ) #[] sS] 167))):=((((aa.refl af w).trans Vj).trans ML).trans Il).alloc _;clear Vi Vj Rx ML Ry Il;simp only[PV.cells,PK.fills];go_wp2_with fail;generalize MM.alloc (.cells #[.int .i64 1,.func rU #[] rV,.func (.func rW) #[] rX,.func (.func rY) #[] rZ,.int .i64 0,.func r9 #[] si,.func (.func sj) #[] sD,.func (.func sG) #[] sH,.int .i64 2,.func sJ #[] sK,.func (.func sN) #[] sO,.func (.func sQ) #[] sS] 167)=W1 at *;generalize MM.heap.size=g1 at *;refine(mJ _).mono ?_;rintro e bw0 ⟨⟨y9,za,zb,ze,zg,zh⟩,rfl,bk0,Vl⟩;go_wp2_with fail;refine(gH _).mono ?_;rintro e bw1 ⟨⟨zi,zj,zk,zm,zn,zo⟩,rfl,bk1,Qi⟩;go_wp2_with fail;refine(uR _).mono ?_;rintro e bw2 ⟨⟨zq,zt,zu,zw,zx,zy⟩,rfl,bk2,Kv⟩
 have bHP:ae (PartsAt (bw2.alloc (.cells #[.int .i64 1,.func y9 #[] za,.func (.func zb) #[] ze,.func (.func zg) #[] zh,.int .i64 0,.func zi #[] zj,.func (.func zk) #[] zm,.func (.func zn) #[] zo,.int .i64 8,.func zq #[] zt,.func (.func zu) #[] zw,.func (.func zx) #[] zy] 167)) (.slice (some ⟨bw2.heap.size,0,none⟩) 3 3) lK):=PartsAt.new bw2 [(.result,⟨y9,za,zb,ze,zg,zh⟩),(.comma,⟨zi,zj,zk,zm,zn,zo⟩),(.number,⟨zq,zt,zu,zw,zx,zy⟩)] (by
  simp only[ao,an,or_false];rintro x (rfl|rfl|rfl)
  ·exact((bk0.ah Qi).ah Kv)
  ·exact(bk1.ah Kv)
  ·exact bk2) _ rfl 3 rfl (by decide)
 have bHM:ae (aa af w (bw2.alloc (.cells #[.int .i64 1,.func y9 #[] za,.func (.func zb) #[] ze,.func (.func zg) #[] zh,.int .i64 0,.func zi #[] zj,.func (.func zk) #[] zm,.func (.func zn) #[] zo,.int .i64 8,.func zq #[] zt,.func (.func zu) #[] zw,.func (.func zx) #[] zy] 167))):=(((Uo.o.trans Vl).trans Qi).trans Kv).alloc _;have Kw:ae (PartsAt (bw2.alloc (.cells #[.int .i64 1,.func y9 #[] za,.func (.func zb) #[] ze,.func (.func zg) #[] zh,.int .i64 0,.func zi #[] zj,.func (.func zk) #[] zm,.func (.func zn) #[] zo,.int .i64 8,.func zq #[] zt,.func (.func zu) #[] zw,.func (.func zx) #[] zy] 167)) (.slice (some ⟨g1,0,none⟩) 3 3) lJ):=Vk.o.ah (((((aa.refl af _).trans Vl).trans Qi).trans Kv).alloc _);clear Vk bk0 Vl bk1 Qi bk2 Kv;simp only[PV.cells,PK.fills];clear Uo;go_wp2_with fail;generalize bw2.alloc (.cells #[.int .i64 1,.func y9 #[] za,.func (.func zb) #[] ze,.func (.func zg) #[] zh,.int .i64 0,.func zi #[] zj,.func (.func zk) #[] zm,.func (.func zn) #[] zo,.int .i64 8,.func zq #[] zt,.func (.func zu) #[] zw,.func (.func zx) #[] zy] 167)=W2 at *;generalize bw2.heap.size=g2 at *;refine(MJ _).mono ?_;rintro e w7 ⟨Kr,hlen,rfl,m7⟩;have HI:ae (∀(k:Nat) (hk:k<12) (W:tW),(Instr.index 173 (.agg (arC Kr).toArray) (.int .i64 k)).run prog W=.ok (.agg (AV.cells (kr[k]'hk) (Kr[k]'(by omega))).toArray) W):=λk hk W=>abJ Kr hlen k hk W;have fq:=ak (Kw.o.ah m7);have eT:=ak (bHP.o.ah m7);have HM:=ak (bHM.o.trans m7);clear Kw bHP bHM m7;generalize(arC Kr).toArray=AC at *;go_wp2_with fail;go_loopw [3,17] (λo i wl=>∃(k:Nat) (bs:List Nat),k<=12/\i=.int .i64 k/\aR w.heap.size wl o bs (Un k)/\PartsAt wl (.slice (some ⟨g1,0,none⟩) 3 3) lJ/\PartsAt wl (.slice (some ⟨g2,0,none⟩) 3 3) lK/\aa af w wl) (λ_ i _=>12-(intOf i).toNat)
 case atStart=>exact⟨0,[],by omega,rfl,aR.nil _ _,fq.o,eT.o,HM.o⟩
 case round =>
  obtain⟨k,bs,hk,rfl,hO,hP1,hP2,hM⟩:=hrel;clear fq eT HM;by_cases hlt:k<12
  ·have hidx:=HI.o k hlt;have HST:ae (Un (k+1)=Un k++[iC (1+k) (kr[k]) lJ,iC (17+k) (w32 (kr[k])) lJ,iC (33+k) (kr[k]) lK,iC (49+k) (w32 (kr[k])) lK]):=Vh k hlt;have HW:ae ((T (kr[k])).size<=90):=Ku k hlt;generalize kr[k]=wd at *;generalize Kr[k]=av at *;obtain⟨f1,c1,f2,c2⟩:=av;simp only[AV.cells]at hidx;have HO:ae _:=hO;have fq:ae _:=hP1;have eT:ae _:=hP2;have HM:ae _:=hM;clear hO hP1 hP2 hM;have hwd:(T wd).size<=90:=HW.o;have HL:ae (bs.length<=100):=by have:=HO.o.len;rw[Qh k (by omega)]at this;exact(by omega:bs.length<=100)
   go_upto_region 8 with fail;have hA:=aq.new wr #[.string (T wd),.func f1 #[] c1,.func f2 #[] c2] 172;have HNo:ae (u3.ownBlock≠some wr.heap.size):=λe=>by have:=HO.o.sl.lt _ e;simp at this
   have q0:∀g:Ext (λk=>u3.ownBlock=some k) (wr.alloc (.cells #[.string (T wd),.func f1 #[] c1,.func f2 #[] c2] 172)),g.w.cell? ⟨wr.heap.size,0,none⟩=some (.string (T wd)):=λg=>g.cell hA HNo.o 0;have q1:∀g:Ext (λk=>u3.ownBlock=some k) (wr.alloc (.cells #[.string (T wd),.func f1 #[] c1,.func f2 #[] c2] 172)),g.w.cell? ⟨wr.heap.size,1,none⟩=some (.func f1 #[] c1):=λg=>g.cell hA HNo.o 1;have q2:∀g:Ext (λk=>u3.ownBlock=some k) (wr.alloc (.cells #[.string (T wd),.func f1 #[] c1,.func f2 #[] c2] 172)),g.w.cell? ⟨wr.heap.size,2,none⟩=some (.func f2 #[] c2):=λg=>g.cell hA HNo.o 2;have ne1:=Ext.ne (λk=>u3.ownBlock=some k) (wr.alloc (.cells #[.string (T wd),.func f1 #[] c1,.func f2 #[] c2] 172));refine aZ [7,8,17,18,26,27,37,38,39,40] (λw'=>∃g:Ext (λk=>u3.ownBlock=some k) (wr.alloc (.cells #[.string (T wd),.func f1 #[] c1,.func f2 #[] c2] 172)),w'=g.w) (by kernel_rfl) (by kernel_rfl) (by kernel_rfl) ⟨⟨_,(aa.refl _ _).drew⟩,rfl⟩ ?_;have X0:ae (aa af wr (wr.alloc (.cells #[.string (T wd),.func f1 #[] c1,.func f2 #[] c2] 172)).drew):=((aa.refl _ _).alloc _).drew;have Y0:ae (aa af (wr.alloc (.cells #[.string (T wd),.func f1 #[] c1,.func f2 #[] c2] 172)) (wr.alloc (.cells #[.string (T wd),.func f1 #[] c1,.func f2 #[] c2] 172)).drew):=(aa.refl _ _).drew
   iterate 7 (refine aB rfl rfl rfl ?_;intro K hK;go_big_quiet_op;go_big_quiet_on)
   refine aF rfl rfl ?_;intro K hK;go_big_op;refine(lT _ _ _ _ _).mono ?_;rintro e v0 ⟨fb0,cb0,rfl,Kx⟩;have X1:=ak (X0.o.trans Kx);have Y1:=ak (Y0.o.trans Kx);have HV0:=ak X1.o;refine hK _ _ rfl ⟨⟨_,Y1.o.mono (λ_ _ h=>h.elim)⟩,rfl⟩ ?_;have MB0:ae _:=Kx;clear hK K Kx X0 Y0;refine aF rfl rfl ?_;intro K hK;go_big_op;refine(kY _ _ (1+k) (by omega) _ wd (rfl) _ lJ _ _ (fq.o.ah X1.o) (by have:=HW.o;rw[bZ]at this;omega) (by decide)).mono ?_;rintro e r0 ⟨b0,rfl,hr0,hb0,Ky⟩;have X2:=ak (X1.o.trans Ky);have Y2:=ak (Y1.o.trans Ky);have iy:ae _:=hr0;have MR0:ae _:=Ky;have HB0:=ak hb0;refine hK _ _ rfl ⟨⟨_,Y2.o.mono (λ_ _ h=>h.elim)⟩,rfl⟩ ?_;clear hK K X1 Y1 hr0 hb0 Ky
   iterate 8 (refine aB rfl rfl rfl ?_;intro K hK;go_big_quiet_op;go_big_quiet_on)
   refine aF rfl rfl ?_;intro K hK;go_big_op;refine(lT _ _ _ _ _).mono ?_;rintro e v1 ⟨fb1,cb1,rfl,Kz⟩;have X3:=ak (X2.o.trans Kz);have Y3:=ak (Y2.o.trans Kz);refine hK _ _ rfl ⟨⟨_,Y3.o.mono (λ_ _ h=>h.elim)⟩,rfl⟩ ?_;have Vm:ae _:=Kz;clear hK K Kz X2 Y2;refine aF rfl rfl ?_;intro K hK;go_big_op;refine(kY _ _ (17+k) (by omega) _ (w32 wd) ((jR wd [51,50]).symm) _ lJ _ _ (fq.o.ah X3.o) (by have:=HW.o;rw[bZ]at this;simp[w32];omega) (by decide)).mono ?_;rintro e r1 ⟨b1,rfl,hr1,hb1,KA⟩;have X4:=ak (X3.o.trans KA);have Y4:=ak (Y3.o.trans KA);have Ap:ae _:=hr1;have MR1:ae _:=KA;have HB1:=ak hb1;refine hK _ _ rfl ⟨⟨_,Y4.o.mono (λ_ _ h=>h.elim)⟩,rfl⟩ ?_;clear hK K X3 Y3 hr1 hb1 KA
   iterate 7 (refine aB rfl rfl rfl ?_;intro K hK;go_big_quiet_op;go_big_quiet_on)
   refine aF rfl rfl ?_;intro K hK;go_big_op;refine(lT _ _ _ _ _).mono ?_;rintro e v2 ⟨fb2,cb2,rfl,mb2⟩;have X5:=ak (X4.o.trans mb2);have Y5:=ak (Y4.o.trans mb2);refine hK _ _ rfl ⟨⟨_,Y5.o.mono (λ_ _ h=>h.elim)⟩,rfl⟩ ?_;have MB2:ae _:=mb2;clear hK K mb2 X4 Y4;refine aF rfl rfl ?_;intro K hK;go_big_op;refine(kY _ _ (33+k) (by omega) _ wd (rfl) _ lK _ _ (eT.o.ah X5.o) (by have:=HW.o;rw[bZ]at this;omega) (by decide)).mono ?_;rintro e r2 ⟨b2,rfl,hr2,hb2,mr2⟩;have X6:=ak (X5.o.trans mr2);have Y6:=ak (Y5.o.trans mr2);have jI:ae _:=hr2;have MR2:ae _:=mr2;have HB2:=ak hb2;refine hK _ _ rfl ⟨⟨_,Y6.o.mono (λ_ _ h=>h.elim)⟩,rfl⟩ ?_;clear hK K X5 Y5 hr2 hb2 mr2
   iterate 9 (refine aB rfl rfl rfl ?_;intro K hK;go_big_quiet_op;go_big_quiet_on)
   refine aF rfl rfl ?_;intro K hK;go_big_op;refine(lT _ _ _ _ _).mono ?_;rintro e v3 ⟨fb3,cb3,rfl,mb3⟩;have X7:=ak (X6.o.trans mb3);have Y7:=ak (Y6.o.trans mb3);refine hK _ _ rfl ⟨⟨_,Y7.o.mono (λ_ _ h=>h.elim)⟩,rfl⟩ ?_;have MB3:ae _:=mb3;clear hK K mb3 X6 Y6;refine aF rfl rfl ?_;intro K hK;go_big_op;refine(kY _ _ (49+k) (by omega) _ (w32 wd) ((jR wd [51,50]).symm) _ lK _ _ (eT.o.ah X7.o) (by have:=HW.o;rw[bZ]at this;simp[w32];omega) (by decide)).mono ?_;rintro e r3 ⟨b3,rfl,hr3,hb3,mr3⟩;have X8:=ak (X7.o.trans mr3);have Y8:=ak (Y7.o.trans mr3);have EP:ae _:=hr3;have MR3:ae _:=mr3;have HB3:=ak hb3;refine hK _ _ rfl ⟨⟨_,Y8.o.mono (λ_ _ h=>h.elim)⟩,rfl⟩ ?_;clear hK K X7 Y7 hr3 hb3 mr3;refine aF rfl rfl ?_;intro K hK;go_big_op;refine hK _ _ rfl ⟨⟨_,(Y8.o.alloc _).mono (λ_ _ h=>h.elim)⟩,rfl⟩ ?_;clear hK K;refine aF rfl rfl ?_;intro K hK;refine cZ _ (.tmp 24) (.tmp 63) 72 rfl 114 iP (.pointer none) 1 8 underlying72 hiP qH hsP vZ rfl (by decide) u3 bs.length (bs.map jE) rfl (HO.o.ah (X8.o.alloc _)).sl ⟨r3.heap.size,0,none⟩ 4 4 [jE b0,jE b1,jE b2,jE b3] rfl rfl (aT _ _ _ _ rfl) (uU [b0,b1,b2,b3]) (by have:=HL.o;unfold maxLen;omega) (by have:=HL.o;omega) ?_;intro vA wA sA mA lA;obtain⟨oA,cA,rfl,_⟩:=Sl.view sA;refine hK _ _ rfl ⟨⟨_,((Y8.o.alloc _).mono (λ_ _ h=>h.elim)).step mA (λ_ _ h=>h)⟩,rfl⟩ ?_;clear hK K;simp only[Act.put,sA9,sB9,sC9]
   iterate 1 (refine aB rfl rfl rfl ?_;intro K hK;go_big_quiet_op;go_big_quiet_on)
   refine cu ?_;have H01:b0<b1:=by have:=iy.o.lt;have:=Vm.o.size;have:=HB1.o;omega
   have H12:b1<b2:=by have:=Ap.o.lt;have:=MB2.o.size;have:=HB2.o;omega
   have H23:b2<b3:=by have:=jI.o.lt;have:=MB3.o.size;have:=HB3.o;omega
   have H0:wr.heap.size<=b0:=by have:=HB0.o;have:=HV0.o.size;omega
   have HG:ae (aR w.heap.size wA (.slice oA (bs.length+4) cA) (bs++[b0,b1,b2,b3]) (Un k++[iC (1+k) wd lJ,iC (17+k) (w32 wd) lJ,iC (33+k) wd lK,iC (49+k) (w32 wd) lK])) :=
    aR.grow [b0,b1,b2,b3] _ HO.o (X8.o.alloc _) rfl (by simp;omega) (by simp;omega) (λi h h'=>by
     have hi:i=0\/i=1\/i=2\/i=3:=by simp at h;omega
     rcases hi with rfl|rfl|rfl|rfl
     ·exact((((((iy.o.ah Vm.o).ah MR1.o).ah MB2.o).ah MR2.o).ah MB3.o).ah MR3.o).ah ((aa.refl _ _).alloc _)
     ·exact((((Ap.o.ah MB2.o).ah MR2.o).ah MB3.o).ah MR3.o).ah ((aa.refl _ _).alloc _)
     ·exact((jI.o.ah MB3.o).ah MR3.o).ah ((aa.refl _ _).alloc _)
     ·exact EP.o.ah ((aa.refl _ _).alloc _)) sA mA lA HM.o.size
   simp only[Exit.inBlock,Exit.then];have sU:ae (aa af w wA):=(HM.o.trans (X8.o.alloc _)).step mA (λi hi h=>by have:=HO.o.own i h;omega);have Vn:ae (PartsAt wA (.slice (some ⟨g1,0,none⟩) 3 3) lJ):=(fq.o.ah (X8.o.alloc _)).kp (aa.MG (HO.o.ah (X8.o.alloc _)).sl mA);have qI:ae (PartsAt wA (.slice (some ⟨g2,0,none⟩) 3 3) lK):=(eT.o.ah (X8.o.alloc _)).kp (aa.MG (HO.o.ah (X8.o.alloc _)).sl mA);rw[<-HST.o]at HG;clear q0 q1 q2 ne1 hA hidx H01 H12 H23 H0;go_wp2_with fail;go_roundw
   case rel=>exact⟨k+1,_,by omega,by go_num,HG.o,Vn.o,qI.o,sU.o⟩
   case measure=>simp[intOf];omega
  ·obtain rfl:k=12:=by omega
   have HO:=ak hO;have HM:ae _:=hM;clear hO hM hP1 hP2;go_wp2_with fail;refine(mJ _).mono ?_;rintro e w8 ⟨⟨ya,yb,yc,yd,ye,yf⟩,rfl,ok8,m8⟩;have Vo:ae (PartsAt (w8.alloc (.cells #[.int .i64 1,.func ya #[] yb,.func (.func yc) #[] yd,.func (.func ye) #[] yf] 167)) (.slice (some ⟨w8.heap.size,0,none⟩) 1 1) [.result]):=PartsAt.new w8 [(.result,⟨ya,yb,yc,yd,ye,yf⟩)] (by simp only[ao,an,or_false];rintro x rfl;exact ok8) _ rfl 1 rfl (by decide);have HM8:ae (aa af w (w8.alloc (.cells #[.int .i64 1,.func ya #[] yb,.func (.func yc) #[] yd,.func (.func ye) #[] yf] 167))):=(HM.o.trans m8).alloc _;have HO8:ae (aR w.heap.size (w8.alloc (.cells #[.int .i64 1,.func ya #[] yb,.func (.func yc) #[] yd,.func (.func ye) #[] yf] 167)) u3 bs (Un 12)):=HO.o.ah (m8.alloc _);clear ok8 m8 HO HM;simp only[PV.cells,PK.fills];go_wp2_with fail;generalize w8.alloc (.cells #[.int .i64 1,.func ya #[] yb,.func (.func yc) #[] yd,.func (.func ye) #[] yf] 167)=W8 at *;generalize w8.heap.size=g8 at *;have HL:ae (bs.length<=100):=by have:=HO8.o.len;rw[Qh 12 (by omega)]at this;exact(by omega:bs.length<=100)
   have X0:ae (aa af W8 W8):=aa.refl _ _;refine(Dr _ _ _).mono ?_;rintro e p0 ⟨fp0,cp0,rfl,mp0⟩;have X1:=ak (X0.o.trans mp0);have MP0:ae _:=mp0;clear mp0;go_wp2_with fail;refine(lT _ _ _ _ _).mono ?_;rintro e v0 ⟨fb0,cb0,rfl,Kx⟩;have X2:=ak (X1.o.trans Kx);have MB0:ae _:=Kx;clear Kx;go_wp2_with fail;refine(kY _ _ 13 rfl _ [110,101,103] rfl _ [.result] _ _ (Vo.o.ah X2.o) (by decide) (by decide)).mono ?_;rintro e r0 ⟨b0,rfl,hr0,hb0,Ky⟩;have X3:=ak (X2.o.trans Ky);have iy:ae _:=hr0;have MR0:ae _:=Ky;have HB0:=ak hb0;clear hr0 hb0 Ky;go_wp2_with fail;refine(y8 _ _ _).mono ?_;rintro e p1 ⟨fp1,cp1,rfl,mp1⟩;have X4:=ak (X3.o.trans mp1);have MP1:ae _:=mp1;clear mp1;go_wp2_with fail;refine(lT _ _ _ _ _).mono ?_;rintro e v1 ⟨fb1,cb1,rfl,Kz⟩;have X5:=ak (X4.o.trans Kz);have Vm:ae _:=Kz;clear Kz;go_wp2_with fail;refine(kY _ _ 29 rfl _ [110,101,103,51,50] rfl _ [.result] _ _ (Vo.o.ah X5.o) (by decide) (by decide)).mono ?_;rintro e r1 ⟨b1,rfl,hr1,hb1,KA⟩;have X6:=ak (X5.o.trans KA);have Ap:ae _:=hr1;have MR1:ae _:=KA;have HB1:=ak hb1;clear hr1 hb1 KA;go_wp2_with (at_builtin;refine aJ _ rfl (.tmp 68) (.tmp 77) 72 rfl 114 iP (.pointer none) 1 8 underlying72 hiP qH hsP vZ rfl (by decide) u3 bs.length (bs.map jE) rfl (HO8.o.ah (X6.o.alloc _)).sl ⟨r1.heap.size,0,none⟩ 2 2 [jE b0,jE b1] rfl rfl (aT _ _ _ _ rfl) (uU [b0,b1]) (by have:=HL.o;unfold maxLen;omega) (by have:=HL.o;omega) ?_;intro vA wA sA mA lA;obtain⟨oA,cA,rfl,_⟩:=Sl.view sA);have H01:b0<b1:=by have:=iy.o.lt;have:=MP1.o.size;have:=Vm.o.size;have:=HB1.o;omega
   have H0:W8.heap.size<=b0:=by have:=HB0.o;have:=X2.o.size;omega
   have HG:ae (aR w.heap.size wA (.slice oA (bs.length+2) cA) (bs++[b0,b1]) (Un 12++[iC 13 [110,101,103] [.result],iC 29 [110,101,103,51,50] [.result]])) :=
    aR.grow [b0,b1] _ HO8.o (X6.o.alloc _) rfl (by simp;omega) (by simp;omega) (λi h h'=>by
     have hi:i=0\/i=1:=by simp at h;omega
     rcases hi with rfl|rfl
     ·exact(((iy.o.ah MP1.o).ah Vm.o).ah MR1.o).ah ((aa.refl _ _).alloc _)
     ·exact Ap.o.ah ((aa.refl _ _).alloc _)) sA mA lA HM8.o.size
   have sU:ae (aa af w wA):=(HM8.o.trans (X6.o.alloc _)).step mA (λi hi h=>by have:=HO8.o.own i h;omega);clear H01 H0;go_ret;exact⟨_,_,rfl,HG.o,sU.o⟩
def KC(k:Nat):List eQ:={iC 64 [106,97] [.label]with ends:=true}::(pV.zipIdx.take k).flatMap λx=>Ie x.2 x.1
theorem Vp(k:Nat)(h:k<11):KC (k+1)=KC k++Ie k (pV[k]'h):=by
 have:∀k:Fin 11,KC (k.1+1)=KC k.1++Ie k.1 (pV[k.1]'k.2):=by intro k;unfold KC;rw[ar (by simp;exact k.2),b9];simp;rfl
 exact this ⟨k,h⟩
theorem CO(k:Nat)(h:k<=11):(KC k).length=2*k+1:=by
 have:∀k:Fin 12,(KC k.1).length=2*k.1+1:=by decide +kernel
 exact this ⟨k,by omega⟩
theorem abK(Kt:List JV)(hl:Kt.length=11)(k:Nat)(hk:k<11)(w:tW):(Instr.index 183 (.agg (juC Kt).toArray) (.int .i64 k)).run prog w=.ok (.agg (JV.cells (pV[k]'hk) (Kt[k]'(by omega))).toArray) w:=by
 match Kt,hl with
 |[a0,a1,a2,a3,a4,a5,a6,a7,a8,a9,a10],_ =>
  have:k=0\/k=1\/k=2\/k=3\/k=4\/k=5\/k=6\/k=7\/k=8\/k=9\/k=10:=by omega
  rcases this with rfl|rfl|rfl|rfl|rfl|rfl|rfl|rfl|rfl|rfl|rfl<;>rfl
theorem MN(k:Nat)(h:k<11):(T (pV[k]'h)).size<=90:=by
 have:∀k:Fin 11,(T (pV[k.1]'k.2)).size<=90:=by decide +kernel
 exact this ⟨k,h⟩
theorem aR.fresh{base:Nat}{w:tW}(cs:List Nat)(os:List eQ)(hlen:cs.length=os.length)(hc:cs.Pairwise (·<·))(hlo:∀c∈cs,base<=c)(hat:∀i (h:i<cs.length) (h':i<os.length),dM w cs[i] os[i])(arr:tAV)(ha:arr.toList=cs.map jE)(n:Nat) (hn:cs.length=n) (ahb:n<=100) (hb:base<=w.heap.size):aR base (w.alloc (.cells arr 114)) (.slice (some ⟨w.heap.size,0,none⟩) n n) cs os:=by
 subst hn;refine⟨hlen,hc.imp (λh=>Nat.ne_of_lt h),?_,λi h h'=>(hat i h h').ah ((aa.refl _ _).alloc _),hlo,λk hk=>?_⟩
 ·refine SlB.sl ⟨ba _,by unfold maxLen;omega,?_,?_,by simp⟩ (aq.new w arr 114)
  ·rw[<-ca,ha];simp
  ·rw[ha,bt (by simp)]
 ·cases hk;exact hb
def eQ.asJ(o:eQ):eQ:={o with jumps:=true}
def qJ(os:List eQ)(k:Nat):List eQ:=(os.take k).map eQ.asJ++os.drop k
theorem MO(os:List eQ):qJ os 0=os:=by simp[qJ]
theorem Rz(os:List eQ):qJ os os.length=os.map eQ.asJ:=by simp[qJ]
theorem wg(os:List eQ)(k:Nat):(qJ os k).length=os.length:=by simp[qJ];omega
theorem MP(os:List eQ)(k:Nat)(h:k<os.length):qJ os (k+1)=(qJ os k).set k os[k].asJ:=by
 unfold qJ;rw[ar h,List.drop_eq_getElem_cons h,List.map_append];have hl:((os.take k).map eQ.asJ).length=k:=by simp;omega
 rw[List.set_append,iN9 (by omega),hl,Nat.sub_self,List.append_assoc];rfl
theorem Vq(os:List eQ)(k:Nat)(h:k<os.length):(qJ os k)[k]'(by rw[wg];exact h)=os[k]:=by
 have hl:((os.take k).map eQ.asJ).length=k:=by simp;omega
 have:(qJ os k)[k]?=some os[k]:=by unfold qJ;rw[List.getElem?_append_right (by omega),hl,Nat.sub_self,List.getElem?_drop];simp[h]
 rw[List.getElem?_eq_getElem (by rw[wg];exact h)]at this;exact Option.some.inj this
theorem aR.Vr{base:Nat}{w:tW}{v:Value}{bs:List Nat}{os:List eQ}(h:aR base w v bs os)(k:Nat)(hk:k<bs.length)(hk':k<os.length):aR base (w.setCell ⟨bs[k],3,none⟩ (.bool true)) v bs (os.set k os[k].asJ):=by
 have hO:=h.at' k hk hk';have hsl:Sl (w.setCell ⟨bs[k],3,none⟩ (.bool true)) 114 1 v bs.length (bs.map jE):=by refine h.sl.ah ((aa.refl (Only bs[k]) w).bP 3 _) (λj hj e=>?_);rw[show j=bs[k]from e]at hj;exact hO.MK h.sl hj
 refine⟨by simp[h.len],h.nd,hsl,λi h1 h2=>?_,h.lo,h.own⟩;by_cases e:i=k
 ·subst e;rw[List.getElem_set_self];exact hO.jumps
 ·rw[List.getElem_set_ne (Ne.symm e)];exact(h.at' i h1 (by simpa using h2)).other hO.yZ (λe2=>e (((List.getElem_inj h.nd).1 e2).symm)) 3 _
theorem KD(w:tW):Calls prog 49 #[] w λe w'=>∃v bs,e=.returned v/\aR w.heap.size w' v bs Qb/\aa af w w':=by
 obtain⟨iP,hiP,qH,hsP,vZ⟩:=info_parts uT;go_enter func49,ntmps49;go_wp2_with fail;refine(nQ _).mono ?_;rintro e aw0 ⟨⟨rU,rV,rW,rX,rY,rZ⟩,rfl,Vi,Vj⟩;go_wp2_with fail;refine(gH _).mono ?_;rintro e aw1 ⟨⟨r9,si,sj,sD,sG,sH⟩,rfl,Rx,ML⟩;go_wp2_with fail;refine(pW _).mono ?_;rintro e MM ⟨⟨sJ,sK,sN,sO,sQ,sS⟩,rfl,Ry,Il⟩;go_wp2_with fail;refine(gH _).mono ?_;rintro e aw3 ⟨⟨Im,Io,Ip,Iq,Ir,Iu⟩,rfl,ak3,Vs⟩;go_wp2_with fail;refine(xQ _).mono ?_;rintro e aw4 ⟨⟨Iw,Iy,Iz,IA,IB,IC⟩,rfl,ak4,RA⟩
 have Vk:ae (PartsAt (aw4.alloc (.cells #[.int .i64 1,.func rU #[] rV,.func (.func rW) #[] rX,.func (.func rY) #[] rZ,.int .i64 0,.func r9 #[] si,.func (.func sj) #[] sD,.func (.func sG) #[] sH,.int .i64 2,.func sJ #[] sK,.func (.func sN) #[] sO,.func (.func sQ) #[] sS,.int .i64 0,.func Im #[] Io,.func (.func Ip) #[] Iq,.func (.func Ir) #[] Iu,.int .i64 4,.func Iw #[] Iy,.func (.func Iz) #[] IA,.func (.func IB) #[] IC] 167)) (.slice (some ⟨aw4.heap.size,0,none⟩) 5 5) oH):=PartsAt.new aw4 [(.operand,⟨rU,rV,rW,rX,rY,rZ⟩),(.comma,⟨r9,si,sj,sD,sG,sH⟩),(.source,⟨sJ,sK,sN,sO,sQ,sS⟩),(.comma,⟨Im,Io,Ip,Iq,Ir,Iu⟩),(.label,⟨Iw,Iy,Iz,IA,IB,IC⟩)] (by
  simp only[ao,an,or_false];rintro x (rfl|rfl|rfl|rfl|rfl)
  ·exact((((Vi.ah ML).ah Il).ah Vs).ah RA)
  ·exact(((Rx.ah Il).ah Vs).ah RA)
  ·exact((Ry.ah Vs).ah RA)
  ·exact(ak3.ah RA)
  ·exact ak4) _ rfl 5 rfl (by decide)
 have Uo:ae (aa af w (aw4.alloc (.cells #[.int .i64 1,.func rU #[] rV,.func (.func rW) #[] rX,.func (.func rY) #[] rZ,.int .i64 0,.func r9 #[] si,.func (.func sj) #[] sD,.func (.func sG) #[] sH,.int .i64 2,.func sJ #[] sK,.func (.func sN) #[] sO,.func (.func sQ) #[] sS,.int .i64 0,.func Im #[] Io,.func (.func Ip) #[] Iq,.func (.func Ir) #[] Iu,.int .i64 4,.func Iw #[] Iy,.func (.func Iz) #[] IA,.func (.func IB) #[] IC] 167))):=((((((aa.refl af w).trans Vj).trans ML).trans Il).trans Vs).trans RA).alloc _;clear Vi Vj Rx ML Ry Il ak3 Vs ak4 RA;simp only[PV.cells,PK.fills];go_wp2_with fail;generalize aw4.alloc (.cells #[.int .i64 1,.func rU #[] rV,.func (.func rW) #[] rX,.func (.func rY) #[] rZ,.int .i64 0,.func r9 #[] si,.func (.func sj) #[] sD,.func (.func sG) #[] sH,.int .i64 2,.func sJ #[] sK,.func (.func sN) #[] sO,.func (.func sQ) #[] sS,.int .i64 0,.func Im #[] Io,.func (.func Ip) #[] Iq,.func (.func Ir) #[] Iu,.int .i64 4,.func Iw #[] Iy,.func (.func Iz) #[] IA,.func (.func IB) #[] IC] 167)=W1 at *;generalize aw4.heap.size=g1 at *;refine(nQ _).mono ?_;rintro e bw0 ⟨⟨y9,za,zb,ze,zg,zh⟩,rfl,bk0,Vl⟩;go_wp2_with fail;refine(gH _).mono ?_;rintro e bw1 ⟨⟨zi,zj,zk,zm,zn,zo⟩,rfl,bk1,Qi⟩;go_wp2_with fail;refine(uR _).mono ?_;rintro e bw2 ⟨⟨zq,zt,zu,zw,zx,zy⟩,rfl,bk2,Kv⟩;go_wp2_with fail;refine(gH _).mono ?_;rintro e bw3 ⟨⟨IE,IG,II,IJ,IK,IM⟩,rfl,bk3,RB⟩;go_wp2_with fail;refine(xQ _).mono ?_;rintro e bw4 ⟨⟨IP,IQ,IU,IV,IX,IY⟩,rfl,bk4,MQ⟩
 have bHP:ae (PartsAt (bw4.alloc (.cells #[.int .i64 1,.func y9 #[] za,.func (.func zb) #[] ze,.func (.func zg) #[] zh,.int .i64 0,.func zi #[] zj,.func (.func zk) #[] zm,.func (.func zn) #[] zo,.int .i64 8,.func zq #[] zt,.func (.func zu) #[] zw,.func (.func zx) #[] zy,.int .i64 0,.func IE #[] IG,.func (.func II) #[] IJ,.func (.func IK) #[] IM,.int .i64 4,.func IP #[] IQ,.func (.func IU) #[] IV,.func (.func IX) #[] IY] 167)) (.slice (some ⟨bw4.heap.size,0,none⟩) 5 5) oI):=PartsAt.new bw4 [(.operand,⟨y9,za,zb,ze,zg,zh⟩),(.comma,⟨zi,zj,zk,zm,zn,zo⟩),(.number,⟨zq,zt,zu,zw,zx,zy⟩),(.comma,⟨IE,IG,II,IJ,IK,IM⟩),(.label,⟨IP,IQ,IU,IV,IX,IY⟩)] (by
  simp only[ao,an,or_false];rintro x (rfl|rfl|rfl|rfl|rfl)
  ·exact((((bk0.ah Qi).ah Kv).ah RB).ah MQ)
  ·exact(((bk1.ah Kv).ah RB).ah MQ)
  ·exact((bk2.ah RB).ah MQ)
  ·exact(bk3.ah MQ)
  ·exact bk4) _ rfl 5 rfl (by decide)
 have bHM:ae (aa af w (bw4.alloc (.cells #[.int .i64 1,.func y9 #[] za,.func (.func zb) #[] ze,.func (.func zg) #[] zh,.int .i64 0,.func zi #[] zj,.func (.func zk) #[] zm,.func (.func zn) #[] zo,.int .i64 8,.func zq #[] zt,.func (.func zu) #[] zw,.func (.func zx) #[] zy,.int .i64 0,.func IE #[] IG,.func (.func II) #[] IJ,.func (.func IK) #[] IM,.int .i64 4,.func IP #[] IQ,.func (.func IU) #[] IV,.func (.func IX) #[] IY] 167))):=(((((Uo.o.trans Vl).trans Qi).trans Kv).trans RB).trans MQ).alloc _;have Kw:ae (PartsAt (bw4.alloc (.cells #[.int .i64 1,.func y9 #[] za,.func (.func zb) #[] ze,.func (.func zg) #[] zh,.int .i64 0,.func zi #[] zj,.func (.func zk) #[] zm,.func (.func zn) #[] zo,.int .i64 8,.func zq #[] zt,.func (.func zu) #[] zw,.func (.func zx) #[] zy,.int .i64 0,.func IE #[] IG,.func (.func II) #[] IJ,.func (.func IK) #[] IM,.int .i64 4,.func IP #[] IQ,.func (.func IU) #[] IV,.func (.func IX) #[] IY] 167)) (.slice (some ⟨g1,0,none⟩) 5 5) oH):=Vk.o.ah (((((((aa.refl af _).trans Vl).trans Qi).trans Kv).trans RB).trans MQ).alloc _);clear Vk bk0 Vl bk1 Qi bk2 Kv bk3 RB bk4 MQ;simp only[PV.cells,PK.fills];clear Uo;go_wp2_with fail;generalize bw4.alloc (.cells #[.int .i64 1,.func y9 #[] za,.func (.func zb) #[] ze,.func (.func zg) #[] zh,.int .i64 0,.func zi #[] zj,.func (.func zk) #[] zm,.func (.func zn) #[] zo,.int .i64 8,.func zq #[] zt,.func (.func zu) #[] zw,.func (.func zx) #[] zy,.int .i64 0,.func IE #[] IG,.func (.func II) #[] IJ,.func (.func IK) #[] IM,.int .i64 4,.func IP #[] IQ,.func (.func IU) #[] IV,.func (.func IX) #[] IY] 167)=W2 at *;generalize bw4.heap.size=g2 at *;refine(xQ _).mono ?_;rintro e cw0 ⟨⟨IZ,I1,I4,I5,I6,I7⟩,rfl,ck0,Zg⟩;have cHP:ae (PartsAt (cw0.alloc (.cells #[.int .i64 4,.func IZ #[] I1,.func (.func I4) #[] I5,.func (.func I6) #[] I7] 167)) (.slice (some ⟨cw0.heap.size,0,none⟩) 1 1) [.label]):=PartsAt.new cw0 [(.label,⟨IZ,I1,I4,I5,I6,I7⟩)] (by simp only[ao,an,or_false];rintro x rfl;exact ck0) _ rfl 1 rfl (by decide);have Zh:ae (aa af w (cw0.alloc (.cells #[.int .i64 4,.func IZ #[] I1,.func (.func I4) #[] I5,.func (.func I6) #[] I7] 167))):=(bHM.o.trans Zg).alloc _;have Gs:ae (PartsAt (cw0.alloc (.cells #[.int .i64 4,.func IZ #[] I1,.func (.func I4) #[] I5,.func (.func I6) #[] I7] 167)) (.slice (some ⟨g1,0,none⟩) 5 5) oH):=Kw.o.ah (((aa.refl af _).trans Zg).alloc _);have RC:ae (PartsAt (cw0.alloc (.cells #[.int .i64 4,.func IZ #[] I1,.func (.func I4) #[] I5,.func (.func I6) #[] I7] 167)) (.slice (some ⟨g2,0,none⟩) 5 5) oI):=bHP.o.ah (((aa.refl af _).trans Zg).alloc _);clear Kw bHP ck0 Zg;simp only[PV.cells,PK.fills];clear bHM;go_wp2_with fail;generalize cw0.alloc (.cells #[.int .i64 4,.func IZ #[] I1,.func (.func I4) #[] I5,.func (.func I6) #[] I7] 167)=W3 at *;generalize cw0.heap.size=g3 at *;refine(kY _ _ 64 rfl _ [106,97] rfl _ [.label] _ _ cHP.o (by decide) (by decide)).mono ?_;rintro e w4 ⟨b4,rfl,h4,l4,m4⟩;have h4e:=h4.ends;have hs4:aa af w (w4.setCell ⟨b4,4,none⟩ (.bool true)):=(Zh.o.trans m4).set (.inr (by have:=Zh.o.size;simp only;omega)) _;have fq:ae (PartsAt (w4.setCell ⟨b4,4,none⟩ (.bool true)) (.slice (some ⟨g1,0,none⟩) 5 5) oH):=(Gs.o.ah m4).kp (Kp.set h4.yZ 4 _);have eT:ae (PartsAt (w4.setCell ⟨b4,4,none⟩ (.bool true)) (.slice (some ⟨g2,0,none⟩) 5 5) oI):=(RC.o.ah m4).kp (Kp.set h4.yZ 4 _);have H4:=ak h4e;have HM:=ak hs4;obtain⟨o1,n1,c1,f6,c6,k7,c7,k8,c8,f9,c9,hblk,_⟩:=h4.ex;have z4:=hblk.cell 4;have fz4:=hblk.frozen 4;simp at z4;have BH:ae (w.heap.size<=b4):=by have:=Zh.o.size;exact(by omega:w.heap.size<=b4)
 clear hblk h4 h4e hs4 Gs RC cHP Zh m4 l4;have HZ:ae ((w4.setCell ⟨b4,4,none⟩ (.bool true)).heap.size=w4.heap.size):=by simp[ae,World.setCell]
 go_wp2_with fail;generalize w4.setCell ⟨b4,4,none⟩ (.bool true)=W4 at *
 have Ye:ae (aR w.heap.size (W4.alloc (.cells #[.pointer (some ⟨b4,0,none⟩)] 114)) (.slice (some ⟨w4.heap.size,0,none⟩) 1 1) [b4] (KC 0)):=by
  rw[ae,<-HZ.o]
  exact aR.fresh [b4] (KC 0) rfl (by simp) (by have:=BH.o;simpa using this) (λi h h'=>by
   have:i=0:=by simp at h;omega
   subst this;exact H4.o) _ rfl 1 rfl (by decide) HM.o.size
 have acY:ae (PartsAt (W4.alloc (.cells #[.pointer (some ⟨b4,0,none⟩)] 114)) (.slice (some ⟨g1,0,none⟩) 5 5) oH):=fq.o.ah ((aa.refl _ _).alloc _);have acZ:ae (PartsAt (W4.alloc (.cells #[.pointer (some ⟨b4,0,none⟩)] 114)) (.slice (some ⟨g2,0,none⟩) 5 5) oI):=eT.o.ah ((aa.refl _ _).alloc _);have mU:ae (aa af w (W4.alloc (.cells #[.pointer (some ⟨b4,0,none⟩)] 114))):=HM.o.alloc _;clear fq eT H4 HM BH z4 fz4;generalize W4.alloc (.cells #[.pointer (some ⟨b4,0,none⟩)] 114)=W5 at *;clear HZ;generalize w4.heap.size=g5 at *;refine(Rw _).mono ?_;rintro e w7 ⟨Kt,hlen,rfl,m7⟩;have HI:ae (∀(k:Nat) (hk:k<11) (W:tW),(Instr.index 183 (.agg (juC Kt).toArray) (.int .i64 k)).run prog W=.ok (.agg (JV.cells (pV[k]'hk) (Kt[k]'(by omega))).toArray) W):=λk hk W=>abK Kt hlen k hk W;have fq:=ak (acY.o.ah m7);have eT:=ak (acZ.o.ah m7);have HO7:=ak (Ye.o.ah m7);have HM:=ak (mU.o.trans m7);clear acY acZ Ye mU m7;generalize(juC Kt).toArray=AC at *;go_upto_block 0 with fail;go_cut [4] (λo wl=>∃bs,aR w.heap.size wl o bs (KC 11)/\aa af w wl)
 case first =>
  go_wp2_with fail;go_loopw [4,31] (λo i wl=>∃(k:Nat) (bs:List Nat),k<=11/\i=.int .i64 k/\aR w.heap.size wl o bs (KC k)/\PartsAt wl (.slice (some ⟨g1,0,none⟩) 5 5) oH/\PartsAt wl (.slice (some ⟨g2,0,none⟩) 5 5) oI/\aa af w wl) (λ_ i _=>11-(intOf i).toNat)
  case atStart=>exact⟨0,[b4],by omega,rfl,HO7.o,fq.o,eT.o,HM.o⟩
  case round =>
   obtain⟨k,bs,hk,rfl,hO,hP1,hP2,hM⟩:=hrel;clear fq eT HM HO7;by_cases hlt:k<11
   ·have hidx:=HI.o k hlt;have HST:ae (KC (k+1)=KC k++[iC (65+k) (pV[k]) oH,iC (97+k) (pV[k]) oI]):=Vp k hlt;have HW:ae ((T (pV[k])).size<=90):=MN k hlt;generalize pV[k]=wd at *;generalize Kt[k]=jv at *;obtain⟨f1,c1⟩:=jv;simp only[JV.cells]at hidx;have HO:ae _:=hO;have fq:ae _:=hP1;have eT:ae _:=hP2;have HM:ae _:=hM;clear hO hP1 hP2 hM;have hwd:(T wd).size<=90:=HW.o;have HL:ae (bs.length<=100):=by have:=HO.o.len;rw[CO k (by omega)]at this;exact(by omega:bs.length<=100)
    go_upto_region 10 with fail;have hA:=aq.new wr #[.string (T wd),.func f1 #[] c1] 182;have HNo:ae (u4.ownBlock≠some wr.heap.size):=λe=>by have:=HO.o.sl.lt _ e;simp at this
    have q0:∀g:Ext (λk=>u4.ownBlock=some k) (wr.alloc (.cells #[.string (T wd),.func f1 #[] c1] 182)),g.w.cell? ⟨wr.heap.size,0,none⟩=some (.string (T wd)):=λg=>g.cell hA HNo.o 0;have q1:∀g:Ext (λk=>u4.ownBlock=some k) (wr.alloc (.cells #[.string (T wd),.func f1 #[] c1] 182)),g.w.cell? ⟨wr.heap.size,1,none⟩=some (.func f1 #[] c1):=λg=>g.cell hA HNo.o 1;have ne1:=Ext.ne (λk=>u4.ownBlock=some k) (wr.alloc (.cells #[.string (T wd),.func f1 #[] c1] 182));refine aZ [7,8,16,17,18,19] (λw'=>∃g:Ext (λk=>u4.ownBlock=some k) (wr.alloc (.cells #[.string (T wd),.func f1 #[] c1] 182)),w'=g.w) (by kernel_rfl) (by kernel_rfl) (by kernel_rfl) ⟨⟨_,(aa.refl _ _).drew⟩,rfl⟩ ?_;have X0:ae (aa af wr (wr.alloc (.cells #[.string (T wd),.func f1 #[] c1] 182)).drew):=((aa.refl _ _).alloc _).drew;have Y0:ae (aa af (wr.alloc (.cells #[.string (T wd),.func f1 #[] c1] 182)) (wr.alloc (.cells #[.string (T wd),.func f1 #[] c1] 182)).drew):=(aa.refl _ _).drew
    iterate 7 (refine aB rfl rfl rfl ?_;intro K hK;go_big_quiet_op;go_big_quiet_on)
    refine aF rfl rfl ?_;intro K hK;go_big_op;refine(Dp _ _ _ _ _).mono ?_;rintro e v0 ⟨fb0,cb0,rfl,Kx⟩;have X1:=ak (X0.o.trans Kx);have Y1:=ak (Y0.o.trans Kx);refine hK _ _ rfl ⟨⟨_,Y1.o.mono (λ_ _ h=>h.elim)⟩,rfl⟩ ?_;have MB0:ae _:=Kx;clear hK K Kx;refine aF rfl rfl ?_;intro K hK;go_big_op;refine(kY _ _ (65+k) (by omega) _ wd rfl _ oH _ _ (fq.o.ah X1.o) (by have:=HW.o;rw[bZ]at this;omega) (by decide)).mono ?_;rintro e r0 ⟨b0,rfl,hr0,hb0,Ky⟩;have X2:=ak (X1.o.trans Ky);have Y2:=ak (Y1.o.trans Ky);have iy:ae _:=hr0;have MR0:ae _:=Ky;have HB0:=ak hb0;refine hK _ _ rfl ⟨⟨_,Y2.o.mono (λ_ _ h=>h.elim)⟩,rfl⟩ ?_;clear hK K hr0 hb0 Ky
    iterate 7 (refine aB rfl rfl rfl ?_;intro K hK;go_big_quiet_op;go_big_quiet_on)
    refine aF rfl rfl ?_;intro K hK;go_big_op;refine(Dp _ _ _ _ _).mono ?_;rintro e v1 ⟨fb1,cb1,rfl,Kz⟩;have X3:=ak (X2.o.trans Kz);have Y3:=ak (Y2.o.trans Kz);refine hK _ _ rfl ⟨⟨_,Y3.o.mono (λ_ _ h=>h.elim)⟩,rfl⟩ ?_;have Vm:ae _:=Kz;clear hK K Kz;refine aF rfl rfl ?_;intro K hK;go_big_op;refine(kY _ _ (97+k) (by omega) _ wd rfl _ oI _ _ (eT.o.ah X3.o) (by have:=HW.o;rw[bZ]at this;omega) (by decide)).mono ?_;rintro e r1 ⟨b1,rfl,hr1,hb1,KA⟩;have X4:=ak (X3.o.trans KA);have Y4:=ak (Y3.o.trans KA);have Ap:ae _:=hr1;have MR1:ae _:=KA;have HB1:=ak hb1;refine hK _ _ rfl ⟨⟨_,Y4.o.mono (λ_ _ h=>h.elim)⟩,rfl⟩ ?_;clear hK K hr1 hb1 KA;refine aF rfl rfl ?_;intro K hK;go_big_op;refine hK _ _ rfl ⟨⟨_,(Y4.o.alloc _).mono (λ_ _ h=>h.elim)⟩,rfl⟩ ?_;clear hK K;refine aF rfl rfl ?_;intro K hK;refine cZ _ (.tmp 38) (.tmp 56) 72 rfl 114 iP (.pointer none) 1 8 underlying72 hiP qH hsP vZ rfl (by decide) u4 bs.length (bs.map jE) rfl (HO.o.ah (X4.o.alloc _)).sl ⟨r1.heap.size,0,none⟩ 2 2 [jE b0,jE b1] rfl rfl (aT _ _ _ _ rfl) (uU [b0,b1]) (by have:=HL.o;unfold maxLen;omega) (by have:=HL.o;omega) ?_;intro vA wA sA mA lA;obtain⟨oA,cA,rfl,_⟩:=Sl.view sA;refine hK _ _ rfl ⟨⟨_,((Y4.o.alloc _).mono (λ_ _ h=>h.elim)).step mA (λ_ _ h=>h)⟩,rfl⟩ ?_;clear hK K;simp only[Act.put,sA9,sB9,sC9]
    iterate 1 (refine aB rfl rfl rfl ?_;intro K hK;go_big_quiet_op;go_big_quiet_on)
    refine cu ?_;have H01:b0<b1:=by have:=iy.o.lt;have:=Vm.o.size;have:=HB1.o;omega
    have H0:wr.heap.size<=b0:=by have:=HB0.o;have:=X1.o.size;omega
    have HG:ae (aR w.heap.size wA (.slice oA (bs.length+2) cA) (bs++[b0,b1]) (KC k++[iC (65+k) wd oH,iC (97+k) wd oI])) :=
     aR.grow [b0,b1] _ HO.o (X4.o.alloc _) rfl (by simp;omega) (by simp;omega) (λi h h'=>by
      have hi:i=0\/i=1:=by simp at h;omega
      rcases hi with rfl|rfl
      ·exact((iy.o.ah Vm.o).ah MR1.o).ah ((aa.refl _ _).alloc _)
      ·exact Ap.o.ah ((aa.refl _ _).alloc _)) sA mA lA HM.o.size
    simp only[Exit.inBlock,Exit.then];have sU:ae (aa af w wA):=(HM.o.trans (X4.o.alloc _)).step mA (λi hi h=>by have:=HO.o.own i h;omega);have Vn:ae (PartsAt wA (.slice (some ⟨g1,0,none⟩) 5 5) oH):=(fq.o.ah (X4.o.alloc _)).kp (aa.MG (HO.o.ah (X4.o.alloc _)).sl mA);have qI:ae (PartsAt wA (.slice (some ⟨g2,0,none⟩) 5 5) oI):=(eT.o.ah (X4.o.alloc _)).kp (aa.MG (HO.o.ah (X4.o.alloc _)).sl mA);rw[<-HST.o]at HG;clear q0 q1 ne1 hA hidx H01 H0;go_wp2_with fail;go_roundw
    case rel=>exact⟨k+1,_,by omega,by go_num,HG.o,Vn.o,qI.o,sU.o⟩
    case measure=>simp[intOf];omega
   ·obtain rfl:k=11:=by omega
    go_wp2_with fail;go_meet;exact⟨bs,hO,hM⟩
 case rest =>
 obtain⟨bs,hO,hM⟩:=hcut;have hlen':=hO.len;rw[CO 11 (by omega)]at hlen';have HO:=ak hO;have HM:=ak hM;obtain⟨oV,cV,hv,_⟩:=hO.sl.view;subst hv;clear hO hM fq eT HO7;go_wp2_with fail;go_loopw [61] (λi wl=>∃(k:Nat),k<=bs.length/\i=.int .i64 k/\aR w.heap.size wl (.slice oV bs.length cV) bs (qJ (KC 11) k)/\aa af w wl) (λi _=>bs.length-(intOf i).toNat)
 case atStart=>exact⟨0,by omega,rfl,by rw[MO];exact HO.o,HM.o⟩
 case round =>
  obtain⟨k,hk,rfl,hO,hM⟩:=hrel;clear HO HM;by_cases hlt:k<bs.length
  ·obtain⟨g,rfl,cs⟩:=hO.sl.at rfl k hlt;have ck:=cs k hlt;have e1:(bs.map jE)[k]?=some (.pointer (some ⟨bs[k],0,none⟩)):=by simp[hlt,jE]
   rw[e1]at ck;have hk':k<(KC 11).length:=by rw[CO 11 (by omega)];omega
   have hat:=hO.at' k hlt (by rw[wg];exact hk');obtain⟨o1,n1,c1,f6,c6,k7,c7,k8,c8,f9,c9,hblk,_⟩:=hat.ex;have z3:=hblk.cell 3;have fz3:=hblk.frozen 3;simp at z3;have hset:=hO.Vr k hlt (by rw[wg];exact hk');rw[Vq _ _ hk',<-MP _ _ hk']at hset;have HS:ae _:=hset;have Zi:ae (aa af w (wr.setCell ⟨bs[k],3,none⟩ (.bool true))):=hM.set (.inr (hO.lo _ (List.getElem_mem hlt))) _;clear hset hat hblk hO hM cs e1;generalize bs[k]=bk at *;go_wp2_with fail;go_roundw
   case rel=>exact⟨k+1,by omega,by go_num,HS.o,Zi.o⟩
   case measure=>simp[intOf];omega
  ·obtain rfl:k=bs.length:=by omega
   have HS:ae (aR w.heap.size wr (.slice oV bs.length cV) bs Qb):=by
    have h:=hO;have e:bs.length=(KC 11).length:=by rw[CO 11 (by omega)];omega
    rw[e,Rz]at h;rw[e];exact h
   have Zi:ae _:=hM;clear hO hM;go_wp2_with fail;go_ret;exact⟨_,_,rfl,HS.o,Zi.o⟩
