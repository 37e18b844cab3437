import Derived.Test.YthnphhgpfedeeaaGreatDoorCF11
import Derived.Test.YthnphhgpfedeeaaGreatDoorCF12
namespace Go.Proofs.YthnphhgpfedeeaaGreatDoor
open Go.RowKit Tryz
open Int renaming cast_ofNat_Int->aE
open List renaming not_mem_nil->ab,mem_cons->al,getElem_append_right->an,getElem_append_left->ao,all_toArray->ba,all_eq_true->bh
open Nat renaming le_refl->ar
set_option linter.all false
set_option maxRecDepth 100000
set_option maxHeartbeats 2000000
def FQ(k:Nat):FuncId:=match k with
 |0=>188
 |1=>189
 |2=>191
 |3=>192
 |4=>193
 |5=>194
 |6=>195
 |7=>196
 |8=>197
 |9=>199
 |10=>200
 |_=>114
def cmF(k:Nat):FuncId:=match k with
 |0=>220
 |1=>221
 |2=>222
 |3=>223
 |_=>229
def csF(k:Nat):FuncId:=match k with
 |0=>225
 |1=>226
 |2=>227
 |_=>228
def FR(aD:Bool):FuncId:=if aD then 111 else 112
abbrev nQ(k:FuncId):Value:=.func (.func k) #[] #[]
abbrev pt(b:Nat):Value:=.pointer (some ⟨b,0,none⟩)
def fV(w:tW)(f:Fn)(c:tAV)(m k:Nat):Prop:=match m with
 |0=>f=.func 185/\c=#[]
 |1=>f=.func 186/\c=#[]
 |2=>f=.func 206/\∃b,c=#[pt b]/\ak w b #[nQ (FQ k)] 282
 |3=>f=.func 208/\∃b,c=#[pt b]/\ak w b #[nQ (FQ k)] 282
 |_=>f=.func 274/\∃b b1 b2,c=#[pt b,pt b1]/\ak w b #[nQ (FQ k)] 282/\ak w b1 #[.func (.func 206) #[] #[pt b2]] 208/\ak w b2 #[nQ (FQ k)] 282
def ajp(w:tW)(f:Fn)(c:tAV)(m k:Nat):Prop:=match m with
 |0=>f=.func 217/\c=#[]
 |1=>f=.func 218/\c=#[]
 |2=>f=.func 283/\∃b,c=#[pt b]/\ak w b #[nQ (cmF k)] 287
 |_=>f=.func 283/\∃b b1,c=#[pt b]/\ak w b #[.func (.func 284) #[] #[pt b1]] 287/\ak w b1 #[nQ (csF k)] 289
structure VS where
 t:Nat
 m:Nat
 k:Nat
 aD:Bool
def DoAt(w:tW)(f:Fn)(c:tAV)(d:VS):Prop:=match d.t with
 |0=>f=.func 204/\∃b1 b2 fr cr,c=#[pt b1,pt b2]/\ak w b1 #[.func fr #[] cr] 208/\ak w b2 #[nQ (FR d.aD)] 280/\fV w fr cr d.m d.k
 |1=>f=.func 230/\∃b1 b2 fr cr,c=#[pt b1,pt b2]/\ak w b1 #[.func fr #[] cr] 218/\ak w b2 #[nQ (FR d.aD)] 280/\ajp w fr cr d.m d.k
 |2=>f=.func 118/\c=#[]
 |3=>f=.func 233/\∃b,c=#[pt b]/\ak w b #[.int .i64 d.k] 3
 |4=>f=.func 235/\∃b1 b2,c=#[pt b1,pt b2]/\ak w b1 #[.int .i64 d.k] 3/\ak w b2 #[nQ (FR d.aD)] 280
 |5=>f=.func 127/\c=#[]
 |6=>f=.func 131/\c=#[]
 |_=>f=.func 132/\c=#[]
abbrev alF:List TypeId:=[208,280,282,218,287,289,3]
theorem fV.blk{w w':tW}{f:Fn}{c:tAV}{m k:Nat}(h:fV w f c m k)(q:∀g cs t,t∈alF->ak w g cs t->ak w' g cs t):fV w' f c m k:=by
 unfold fV at h ⊢;split at h
 ·exact h
 ·exact h
 ·obtain⟨h0,b,h1,h2⟩:=h;exact⟨h0,b,h1,q _ _ _ (by decide) h2⟩
 ·obtain⟨h0,b,h1,h2⟩:=h;exact⟨h0,b,h1,q _ _ _ (by decide) h2⟩
 ·obtain⟨h0,b,b1,b2,h1,h2,h3,h4⟩:=h;exact⟨h0,b,b1,b2,h1,q _ _ _ (by decide) h2,q _ _ _ (by decide) h3,q _ _ _ (by decide) h4⟩
theorem ajp.blk{w w':tW}{f:Fn}{c:tAV}{m k:Nat}(h:ajp w f c m k)(q:∀g cs t,t∈alF->ak w g cs t->ak w' g cs t):ajp w' f c m k:=by
 unfold ajp at h ⊢;split at h
 ·exact h
 ·exact h
 ·obtain⟨h0,b,h1,h2⟩:=h;exact⟨h0,b,h1,q _ _ _ (by decide) h2⟩
 ·obtain⟨h0,b,b1,h1,h2,h3⟩:=h;exact⟨h0,b,b1,h1,q _ _ _ (by decide) h2,q _ _ _ (by decide) h3⟩
theorem DoAt.blk{w w':tW}{f:Fn}{c:tAV}{d:VS}(h:DoAt w f c d)(q:∀g cs t,t∈alF->ak w g cs t->ak w' g cs t):DoAt w' f c d:=by
 unfold DoAt at h ⊢;split at h
 ·obtain⟨h0,b1,b2,fr,cr,h1,h2,h3,h4⟩:=h;exact⟨h0,b1,b2,fr,cr,h1,q _ _ _ (by decide) h2,q _ _ _ (by decide) h3,h4.blk q⟩
 ·obtain⟨h0,b1,b2,fr,cr,h1,h2,h3,h4⟩:=h;exact⟨h0,b1,b2,fr,cr,h1,q _ _ _ (by decide) h2,q _ _ _ (by decide) h3,h4.blk q⟩
 ·exact h
 ·obtain⟨h0,b,h1,h2⟩:=h;exact⟨h0,b,h1,q _ _ _ (by decide) h2⟩
 ·obtain⟨h0,b1,b2,h1,h2,h3⟩:=h;exact⟨h0,b1,b2,h1,q _ _ _ (by decide) h2,q _ _ _ (by decide) h3⟩
 ·exact h
 ·exact h
 ·exact h
theorem Kp.alG{w w':tW}(q:Kp w w'):∀g cs t,t∈alF->ak w g cs t->ak w' g cs t:=λ_ _ t ht h =>
 h.kp q ((show ∀t∈alF,t≠146/\t≠135/\t≠269 by decide) t ht)
theorem DoAt.kp{w w':tW}{f:Fn}{c:tAV}{d:VS}(h:DoAt w f c d)(q:Kp w w'):DoAt w' f c d:=h.blk q.alG
theorem fV.ag{w w':tW}{f:Fn}{c:tAV}{m k:Nat}(h:fV w f c m k)(q:aa ae w w'):fV w' f c m k:=h.blk q.kp.alG
theorem ajp.ag{w w':tW}{f:Fn}{c:tAV}{m k:Nat}(h:ajp w f c m k)(q:aa ae w w'):ajp w' f c m k:=h.blk q.kp.alG
theorem DoAt.ag{w w':tW}{f:Fn}{c:tAV}{d:VS}(h:DoAt w f c d)(q:aa ae w w'):DoAt w' f c d:=h.kp q.kp
def m64(k:Nat):Nat:=if k=0 then 0 else if k<3 then 4 else 2
def m32(k:Nat):Nat:=if k=0 then 1 else 3
def jmM(k:Nat):Nat:=if k=0 then 0 else if k=1 then 1 else if k<6 then 2 else if k<10 then 3 else 2
def jmK(k:Nat):Nat:=if k<6 then k-2 else if k<10 then k-6 else 4
def dz(c:Nat):VS :=
 if c<=12 then⟨0,m64 (c-1),c-1-1,true⟩
 else if c=13 then⟨0,2,11,false⟩
 else if c<=28 then⟨0,m32 (c-17),c-17-1,true⟩
 else if c=29 then⟨0,3,11,false⟩
 else if c<=44 then⟨0,m64 (c-33),c-33-1,false⟩
 else if c<=60 then⟨0,m32 (c-49),c-49-1,false⟩
 else if c=64 then⟨2,0,0,false⟩
 else if c<=75 then⟨1,jmM (c-65),jmK (c-65),true⟩
 else if c<=107 then⟨1,jmM (c-97),jmK (c-97),false⟩
 else if c<=131 then⟨3,0,2 ^ (c-128),false⟩
 else if c<=135 then⟨4,0,2 ^ (c-132),true⟩
 else if c<=139 then⟨4,0,2 ^ (c-136),false⟩
 else if c=192 then⟨5,0,0,false⟩
 else if c=193 then⟨6,0,0,false⟩
 else⟨7,0,0,false⟩
theorem Wz(k:Nat)(h:k<12):dz (1+k)=⟨0,m64 k,k-1,true⟩/\dz (17+k)=⟨0,m32 k,k-1,true⟩/\dz (33+k)=⟨0,m64 k,k-1,false⟩/\dz (49+k)=⟨0,m32 k,k-1,false⟩:=by
 have:k=0\/k=1\/k=2\/k=3\/k=4\/k=5\/k=6\/k=7\/k=8\/k=9\/k=10\/k=11:=by omega
 rcases this with rfl|rfl|rfl|rfl|rfl|rfl|rfl|rfl|rfl|rfl|rfl|rfl<;>exact⟨rfl,rfl,rfl,rfl⟩
theorem WA(k:Nat)(h:k<11):dz (65+k)=⟨1,jmM k,jmK k,true⟩/\dz (97+k)=⟨1,jmM k,jmK k,false⟩:=by
 have:k=0\/k=1\/k=2\/k=3\/k=4\/k=5\/k=6\/k=7\/k=8\/k=9\/k=10:=by omega
 rcases this with rfl|rfl|rfl|rfl|rfl|rfl|rfl|rfl|rfl|rfl|rfl<;>exact⟨rfl,rfl⟩
theorem WB(k:Nat)(h:k<4):dz (128+k)=⟨3,0,2 ^ k,false⟩/\dz (132+k)=⟨4,0,2 ^ k,true⟩/\dz (136+k)=⟨4,0,2 ^ k,false⟩:=by
 have:k=0\/k=1\/k=2\/k=3:=by omega
 rcases this with rfl|rfl|rfl|rfl<;>exact⟨rfl,rfl,rfl⟩
theorem WC(w:tW)(v:Value)(hv:∃o n c,v=.slice o n c):Calls prog 201 #[v] w λe w'=>e=.returned (.func (.func 277) #[] #[.pointer (some ⟨w.heap.size,0,none⟩)])/\ak w' w.heap.size #[v] 207/\aa ae w w':=by obtain⟨o,n,c,rfl⟩:=hv;go_enter func201,ntmps201;go_wp2_with fail;go_ret;exact⟨rfl,ak.new _ _ _,aj⟩
theorem WD(w:tW)(t:tBA)(v:Value)(hv:∃o n c,v=.slice o n c):Calls prog 202 #[.string t,v] w λe w'=>e=.returned (.func (.func 278) #[] #[.pointer (some ⟨w.heap.size,0,none⟩),.pointer (some ⟨w.heap.size+1,0,none⟩)]) /\ ak w' w.heap.size #[.string t] 9/\ak w' (w.heap.size+1) #[v] 207/\aa ae w w':=by
 obtain⟨o,n,c,rfl⟩:=hv
 have hb:ak ((w.alloc (.cells #[.string t] 9)).alloc (.cells #[.slice o n c] 207)) (w.heap.size+1) #[.slice o n c] 207:=by
  have:=ak.new (w.alloc (.cells #[.string t] 9)) #[.slice o n c] 207
  simpa using this
 go_enter func202,ntmps202;go_wp2_with fail;go_ret;exact⟨rfl,(ak.new w _ _).alloc _,hb,aj.alloc _⟩
structure Al(w:tW)(v1:Value)(f6:Fn)(c6:tAV)(k7:FuncId)(c7:tAV)(k8:FuncId)(c8:tAV)(f9:Fn)(c9:tAV)(o:dY):Prop where
 wr:True
 nd:∀w' x,Kp w w'->x.Fit->Calls prog k8 (#[.agg x.cells]++c8) w' λe w''=>e=.returned (.bool (o.needs x))/\aa ae w' w''
 e7:pE k7
 e8:pE k8
 ws:Sl w 9 1 v1 o.words.length (o.words.map (λt=>.string (T t)))
 rd:R6 w o.read f6 c6
 dn:DoAt w f9 c9 (dz o.code)
theorem Al.kp{w w':tW}{v1:Value}{f6:Fn}{c6:tAV}{k7:FuncId}{c7:tAV}{k8:FuncId}{c8:tAV}{f9:Fn}{c9:tAV}{o:dY}(h:Al w v1 f6 c6 k7 c7 k8 c8 f9 c9 o)(m:Kp w w'):Al w' v1 f6 c6 k7 c7 k8 c8 f9 c9 o :=
 ⟨trivial,λw2 x m2=>h.nd w2 x (m.trans m2),h.e7,h.e8,h.ws.kp m (by decide),h.rd.kp m,h.dn.kp m⟩
structure bY(w:tW)(b:Nat)(o:dY):Prop where
 ex:∃(o1:Option Addr) (n1 c1:Nat) (f6:Fn) (c6:tAV) (k7:FuncId) (c7:tAV) (k8:FuncId) (c8:tAV) (f9:Fn) (c9:tAV),
  ak w b #[.int .u8 o.code,.slice o1 n1 c1,.int .i64 o.slots,.bool o.jumps,.bool o.ends,.int .i64 o.aO,.func f6 #[] c6,.func (.func k7) #[] c7,.func (.func k8) #[] c8,.func f9 #[] c9] 146/\Al w (.slice o1 n1 c1) f6 c6 k7 c7 k8 c8 f9 c9 o
theorem bY.ag{w w':tW}{b:Nat}{o:dY}(h:bY w b o)(m:aa ae w w'):bY w' b o:=by obtain⟨o1,n1,c1,f6,c6,k7,c7,k8,c8,f9,c9,h1,h2⟩:=h.ex;exact⟨o1,n1,c1,f6,c6,k7,c7,k8,c8,f9,c9,h1.ag m id,h2.kp m.kp⟩
theorem bY.lt{w:tW}{b:Nat}{o:dY}(h:bY w b o):b<w.heap.size:=by obtain⟨o1,n1,c1,f6,c6,k7,c7,k8,c8,f9,c9,h1,h2⟩:=h.ex;exact h1.lt
theorem bY.wV{w:tW}{b:Nat}{o:dY}(h:bY w b o):Da w b:=by obtain⟨o1,n1,c1,f6,c6,k7,c7,k8,c8,f9,c9,h1,h2⟩:=h.ex;exact⟨_,_,_,h1,.inl rfl⟩
theorem Kp.set{w:tW}{b:Nat}(h:Da w b)(i:Nat)(v:Value):Kp w (w.setCell ⟨b,i,none⟩ v):=(aa.refl (Da w) w).set (a:=⟨b,i,none⟩) (.inl h) v
theorem bY.kpb{w w':tW}{b:Nat}{o:dY}(h:bY w b o)(m:Kp w w')(hb:w'.heap[b]?=w.heap[b]?):bY w' b o:=by obtain⟨o1,n1,c1,f6,c6,k7,c7,k8,c8,f9,c9,h1,h2⟩:=h.ex;exact⟨o1,n1,c1,f6,c6,k7,c7,k8,c8,f9,c9,hb.trans h1,h2.kp m⟩
theorem bY.other{w:tW}{b b':Nat}{o:dY}(h:bY w b o)(hb:Da w b')(hne:b'≠b)(i:Nat)(v:Value):bY (w.setCell ⟨b',i,none⟩ v) b o:=by obtain⟨o1,n1,c1,f6,c6,k7,c7,k8,c8,f9,c9,h1,h2⟩:=h.ex;exact⟨o1,n1,c1,f6,c6,k7,c7,k8,c8,f9,c9,h1.setOther hne _,h2.kp (Kp.set hb i v)⟩
theorem bY.jumps{w:tW}{b:Nat}{o:dY}(h:bY w b o):bY (w.setCell ⟨b,3,none⟩ (.bool true)) b {o with jumps:=true}:=by have hk:=Kp.set h.wV 3 (.bool true);obtain⟨o1,n1,c1,f6,c6,k7,c7,k8,c8,f9,c9,h1,h2⟩:=h.ex;have h3:=h2.kp hk;exact⟨o1,n1,c1,f6,c6,k7,c7,k8,c8,f9,c9,h1.set 3 _,⟨h3.wr,h3.nd,h3.e7,h3.e8,h3.ws,h3.rd,h3.dn⟩⟩
theorem bY.ends{w:tW}{b:Nat}{o:dY}(h:bY w b o):bY (w.setCell ⟨b,4,none⟩ (.bool true)) b {o with ends:=true}:=by have hk:=Kp.set h.wV 4 (.bool true);obtain⟨o1,n1,c1,f6,c6,k7,c7,k8,c8,f9,c9,h1,h2⟩:=h.ex;have h3:=h2.kp hk;exact⟨o1,n1,c1,f6,c6,k7,c7,k8,c8,f9,c9,h1.set 4 _,⟨h3.wr,h3.nd,h3.e7,h3.e8,h3.ws,h3.rd,h3.dn⟩⟩
theorem bY.slots{w:tW}{b:Nat}{o:dY}(h:bY w b o)(n:Nat):bY (w.setCell ⟨b,2,none⟩ (.int .i64 n)) b {o with slots:=n}:=by have hk:=Kp.set h.wV 2 (.int .i64 n);obtain⟨o1,n1,c1,f6,c6,k7,c7,k8,c8,f9,c9,h1,h2⟩:=h.ex;have h3:=h2.kp hk;exact⟨o1,n1,c1,f6,c6,k7,c7,k8,c8,f9,c9,h1.set 2 _,⟨h3.wr,h3.nd,h3.e7,h3.e8,h3.ws,h3.rd,h3.dn⟩⟩
theorem bY.aO{w:tW}{b:Nat}{o:dY}(h:bY w b o)(n:Nat):bY (w.setCell ⟨b,5,none⟩ (.int .i64 n)) b {o with aO:=n}:=by have hk:=Kp.set h.wV 5 (.int .i64 n);obtain⟨o1,n1,c1,f6,c6,k7,c7,k8,c8,f9,c9,h1,h2⟩:=h.ex;have h3:=h2.kp hk;exact⟨o1,n1,c1,f6,c6,k7,c7,k8,c8,f9,c9,h1.set 5 _,⟨h3.wr,h3.nd,h3.e7,h3.e8,h3.ws,h3.rd,h3.dn⟩⟩
theorem WE(w:tW)(bW br bw bp b1 b2:Nat)(code:Nat)(word:tLB)(v:Value)(ps:List PK)(hw:ak w bw #[.string (T word)] 9)(hp:ak w bp #[v] 207)(hn:ak w b1 #[v] 207)(hf:ak w b2 #[.int .i64 (lM ps)] 203)(hP:PartsAt w v ps) (hwl:word.length<=100) (hpl:ps.length<=10) (hW:ak w bW #[.string (T word)] 9) (hR:ak w br #[v] 207) (f9:Fn) (c9:tAV) (hD:DoAt w f9 c9 (dz code)):Al w (.slice (some ⟨bW,0,none⟩) 1 1) (.func 277) #[.pointer (some ⟨br,0,none⟩)] 278 #[.pointer (some ⟨bw,0,none⟩),.pointer (some ⟨bp,0,none⟩)] 281 #[.pointer (some ⟨b1,0,none⟩),.pointer (some ⟨b2,0,none⟩)] f9 c9 (fK code word ps) where
 wr:=trivial
 nd:=λw' x m hx=>NK x hx w' b1 b2 _ v ps (Db ps) (hn.kp m (by decide)) (hf.kp m (by decide)) (hP.kp m) hpl
 e7:=enters_of func278 (by kernel_rfl) rfl
 e8:=enters_of func281 (by kernel_rfl) rfl
 ws:=Sl.fresh hW rfl (by decide)
 rd:=⟨_,rfl,enters_of func277 (by kernel_rfl) rfl,λw' b op r m hE h hl=>NM b br op r v ps w' h (hR.kp m (by decide)) (hP.kp m) hpl hl hE⟩
 dn:=hD
theorem WG(w:tW)(code:Nat)(word:tLB)(v:Value)(ps:List PK)(f9:Fn)(c9:tAV)(hP:PartsAt w v ps)(hwl:word.length<=100)(hpl:ps.length<=10)(hD:DoAt w f9 c9 (dz code)):Calls prog 109 #[.int .u8 code,.string (T word),v,.func f9 #[] c9] w λe w'=>∃b,e=.returned (.pointer (some ⟨b,0,none⟩))/\bY w' b (fK code word ps)/\w.heap.size<=b/\aa ae w w':=by
 have hv:∃o n c,v=.slice o n c:=by obtain⟨pv,_,_,hS⟩:=hP.ex;obtain⟨o,c,rfl,_⟩:=hS.view;exact⟨_,_,_,rfl⟩
 have HP:=ai hP;have HD:=ai hD;clear hP hD;obtain⟨o,n,c,rfl⟩:=hv;have m0:aa ae w (w.alloc (.cells #[.string (T word)] 9)):=aj;have eX:af _:=m0;clear m0;go_enter func109,ntmps109;go_wp2_with fail;refine(WC _ _ ⟨_,_,_,rfl⟩).mono ?_;rintro e w1 ⟨rfl,hr1,m1⟩;have dh:=ai (eX.o.trans m1);have HWB:af (ak w1 w.heap.size #[.string (T word)] 9):=(ak.new w _ _).ag m1 id;have HRB:af (ak w1 (w.heap.size+1) #[.slice o n c] 207):=by simp at hr1;exact hr1
 clear m1 hr1;go_wp2_with fail;refine(WD _ _ _ ⟨_,_,_,rfl⟩).mono ?_;rintro e w2 ⟨rfl,hw2,hp2,m2⟩;have HW2:=ai hw2;have kD:=ai hp2;have adt:=ai (HWB.o.ag m2 id);have adu:=ai (HRB.o.ag m2 id);have dD:=ai (dh.o.trans m2);clear m2 hw2 hp2;go_wp2_with fail;refine(R9 _ _ _ (HP.o.ag dD.o) hpl).mono ?_;rintro e w3 ⟨rfl,h1,h2,m3⟩;have dw:=ai (dD.o.trans m3)
 have HO:af (Al w3 (.slice (some ⟨w.heap.size,0,none⟩) 1 1) (.func 277) #[.pointer (some ⟨w.heap.size+1,0,none⟩)] 278 #[.pointer (some ⟨w1.heap.size,0,none⟩),.pointer (some ⟨w1.heap.size+1,0,none⟩)] 281 #[.pointer (some ⟨w2.heap.size,0,none⟩),.pointer (some ⟨w2.heap.size+1,0,none⟩)] f9 c9 (fK code word ps)) :=
  WE w3 _ _ _ _ _ _ code word _ ps (HW2.o.ag m3 id) (kD.o.ag m3 id) h1 h2 (HP.o.ag dw.o) hwl hpl (adt.o.ag m3 id) (adu.o.ag m3 id) _ _ (HD.o.ag dw.o)
 clear m3 h1 h2;go_wp2_with fail;go_ret;exact⟨w3.heap.size,rfl,⟨_,_,_,_,_,_,_,_,_,_,_,ak.new _ _ _,HO.o.kp aj.kp⟩,dw.o.size,dw.o.alloc _⟩
def qa(Q:tW->Fn->tAV->Prop)(w:tW)(e:Ending)(w':tW):Prop:=∃f c,e=.returned (.func f #[] c)/\aa ae w w'/\Q w' f c
theorem ak.aaj(w:tW)(o:Obj)(cs:tAV)(t:TypeId):ak ((w.alloc o).alloc (.cells cs t)) (w.heap.size+1) cs t:=by
 have:=ak.new (w.alloc o) cs t
 rwa [World.size_alloc]at this
theorem jF(w:tW)(f1:Fn)(a1:tAV)(m k:Nat)(aD:Bool)(h:fV w f1 a1 m k):Calls prog 110 #[.func f1 #[] a1,nQ (FR aD)] w λe w'=>qa (λw' f c=>DoAt w' f c ⟨0,m,k,aD⟩) w e w':=by have H:=ai h;clear h;generalize hr:FR aD=fr;have HR:=ai hr;clear hr;go_enter func110,ntmps110;go_wp2_with fail;go_ret;exact⟨_,_,rfl,aj.alloc _,rfl,_,_,_,_,rfl,(ak.new _ _ _).alloc _,(by rw[HR.o];exact ak.aaj _ _ _ _),H.o.ag (aj.alloc _)⟩
theorem Am(w:tW)(f1:Fn)(a1:tAV)(m k:Nat)(aD:Bool)(h:ajp w f1 a1 m k):Calls prog 120 #[.func f1 #[] a1,nQ (FR aD)] w λe w'=>qa (λw' f c=>DoAt w' f c ⟨1,m,k,aD⟩) w e w':=by have H:=ai h;clear h;generalize hr:FR aD=fr;have HR:=ai hr;clear hr;go_enter func120,ntmps120;go_wp2_with fail;go_ret;exact⟨_,_,rfl,aj.alloc _,rfl,_,_,_,_,rfl,(ak.new _ _ _).alloc _,(by rw[HR.o];exact ak.aaj _ _ _ _),H.o.ag (aj.alloc _)⟩
theorem abF(k:Nat)(h:k<4):RowKit.wrap64 ((2:Int) ^ k)=((2 ^ k:Nat):Int):=by
 have:k=0\/k=1\/k=2\/k=3:=by omega
 rcases this with rfl|rfl|rfl|rfl<;>simp[RowKit.wrap64]
theorem NS(w:tW)(z:Int)(n:Nat)(hz:z=n):Calls prog 124 #[.int .i64 z] w λe w'=>qa (λw' f c=>DoAt w' f c ⟨3,0,n,false⟩) w e w':=by subst hz;go_enter func124,ntmps124;go_wp2_with fail;go_ret;exact⟨_,_,rfl,aj,rfl,_,rfl,ak.new _ _ _⟩
theorem Ao(w:tW)(z:Int)(n:Nat)(aD:Bool)(hz:z=n):Calls prog 125 #[.int .i64 z,nQ (FR aD)] w λe w'=>qa (λw' f c=>DoAt w' f c ⟨4,0,n,aD⟩) w e w':=by subst hz;generalize hr:FR aD=fr;have HR:=ai hr;clear hr;go_enter func125,ntmps125;go_wp2_with fail;go_ret;exact⟨_,_,rfl,aj.alloc _,rfl,_,_,rfl,(ak.new _ _ _).alloc _,(by rw[HR.o];exact ak.aaj _ _ _ _)⟩
theorem Ap(w:tW)(k:Nat):Calls prog 113 #[nQ (FQ k)] w λe w'=>qa (λw' f c=>fV w' f c 2 k/\f=.func 206) w e w':=by generalize hr:FQ k=fr;have HR:=ai hr;clear hr;go_enter func113,ntmps113;go_wp2_with fail;go_ret;exact⟨_,_,rfl,aj,⟨rfl,_,rfl,by rw[HR.o];exact ak.new _ _ _⟩,rfl⟩
theorem wW(w:tW)(k:Nat):Calls prog 115 #[nQ (FQ k)] w λe w'=>qa (λw' f c=>fV w' f c 3 k) w e w':=by generalize hr:FQ k=fr;have HR:=ai hr;clear hr;go_enter func115,ntmps115;go_wp2_with fail;go_ret;exact⟨_,_,rfl,aj,rfl,_,rfl,by rw[HR.o];exact ak.new _ _ _⟩
theorem jo(w:tW)(k:Nat):Calls prog 219 #[nQ (cmF k)] w λe w'=>qa (λw' f c=>ajp w' f c 2 k) w e w':=by generalize hr:cmF k=fr;have HR:=ai hr;clear hr;go_enter func219,ntmps219;go_wp2_with fail;go_ret;exact⟨_,_,rfl,aj,rfl,_,rfl,by rw[HR.o];exact ak.new _ _ _⟩
theorem Gl(w:tW)(f1:Fn)(a1:tAV):Calls prog 219 #[.func f1 #[] a1] w λe w'=>e=.returned (.func (.func 283) #[] #[pt w.heap.size])/\aa ae w w'/\ak w' w.heap.size #[.func f1 #[] a1] 287:=by go_enter func219,ntmps219;go_wp2_with fail;go_ret;exact⟨rfl,aj,ak.new _ _ _⟩
theorem mQ(w:tW)(k:Nat):Calls prog 224 #[nQ (csF k)] w λe w'=>qa (λw' f c=>ajp w' f c 3 k) w e w':=by
 generalize hr:csF k=fr;have HR:=ai hr;clear hr;go_enter func224,ntmps224;go_wp2_with fail;refine(Gl _ _ _).mono ?_;rintro e w1 ⟨rfl,m1,b1⟩;have HB:af (ak w1 (w.heap.size+1) #[.func (.func 284) #[] #[pt w.heap.size]] 287):=by rw[World.size_alloc]at b1;exact b1
 have HM:=ai m1;clear b1 m1;rw[World.size_alloc];go_wp2_with fail;go_ret;exact⟨_,_,rfl,aj.trans HM.o,rfl,_,_,rfl,HB.o,by rw[HR.o];exact(ak.new _ _ _).ag HM.o id⟩
theorem De(w:tW)(k:Nat):Calls prog 187 #[nQ (FQ k)] w λe w'=>qa (λw' f c=>fV w' f c 4 k) w e w':=by have H64:=ai (Ap (w.alloc (.cells #[nQ (FQ k)] 282)) k);generalize hr:FQ k=fr;have HR:=ai hr;clear hr;rw[HR.o]at H64;go_enter func187,ntmps187;go_wp2_with fail;refine H64.o.mono ?_;rintro e w1 ⟨f,c,rfl,m1,h1,hf⟩;obtain⟨_,b,rfl,hb⟩:=h1;subst hf;rw[HR.o]at hb;have HB:=ai hb;have HM:=ai m1;clear m1 hb H64;go_wp2_with fail;go_ret;exact⟨_,_,rfl,(aj.trans HM.o).alloc _,rfl,_,_,_,rfl,by rw[HR.o];exact((ak.new _ _ _).ag HM.o id).alloc _,ak.new _ _ _,by rw[HR.o];exact HB.o.alloc _⟩
theorem fV.LG{w w':tW}{f:Fn}{c:tAV}{m k g:Nat}{cs:tAV}{t:TypeId}(h:fV w f c m k)(hb:ak w g cs t)(q:aa (Only g) w w')(h1:t≠282)(h2:t≠208):fV w' f c m k:=by
 have key:∀{b:Nat} {ds:tAV} {u:TypeId},ak w b ds u->u≠t->ak w' b ds u:=fun{b ds u} hk hu=>hk.ag q (λe=>by have e0:b=g:=e;rw[e0]at hk;have e1:w.heap[g]?=some (.cells ds u (0,0)):=hk;have e2:w.heap[g]?=some (.cells cs t (0,0)):=hb;rw[e1]at e2;injection e2 with e2;injection e2 with _ e3 _;exact hu e3);unfold fV at h ⊢;split at h
 ·exact h
 ·exact h
 ·obtain⟨h0,b,h1',h2'⟩:=h;exact⟨h0,b,h1',key h2' (Ne.symm h1)⟩
 ·obtain⟨h0,b,h1',h2'⟩:=h;exact⟨h0,b,h1',key h2' (Ne.symm h1)⟩
 ·obtain⟨h0,b,b1,b2,h1',h2',h3',h4'⟩:=h;exact⟨h0,b,b1,b2,h1',key h2' (Ne.symm h1),key h3' (Ne.symm h2),key h4' (Ne.symm h1)⟩
theorem fV.Df{w:tW}{f:Fn}{c:tAV}{m k g:Nat}{cs:tAV}(h:fV w f c m k)(hb:ak w g cs 210)(i:Nat)(v:Value):fV (w.setCell ⟨g,i,none⟩ v) f c m k:=h.LG hb (ax.aY i v) (by decide) (by decide)
theorem eP(w:tW)(t:tBA)(k:Nat):Calls prog 190 #[.string t,nQ (FQ k)] w λe w'=>∃f2 c2 f3 c3,e=.returned (.agg #[.string t,.func f2 #[] c2,.func f3 #[] c3])/\aa ae w w'/\fV w' f2 c2 2 k/\fV w' f3 c3 3 k:=by
 have H64:af (∀w,_):=λw=>Ap w k;have H32:af (∀w,_):=λw=>wW w k;generalize hr:nQ (FQ k)=fr at *;clear hr;go_enter func190,ntmps190;go_wp2_with fail;refine(H64.o _).mono ?_;rintro e w1 ⟨f2,c2,rfl,m1,h2,hf⟩;have H2:=ai h2;clear h2 hf;go_wp2_with fail;refine(H32.o _).mono ?_;rintro e w2 ⟨f3,c3,rfl,m2,h3⟩;have H3:=ai h3;have H2':=ai (H2.o.ag m2);clear h3 H2 H64 H32;have hz:=((ak.new w #[.string ⟨#[]⟩,.nilFunc,.nilFunc] 210).ag m1 id).ag m2 id;have z0:=hz.cell 0;have z1:=hz.cell 1;have z2:=hz.cell 2;have g0:=hz.frozen 0;have g1:=hz.frozen 1;have g2:=hz.frozen 2;simp at z0 z1 z2;go_wp2_with fail;refine bodyPost_ret (results_cell_row results190 _ _ w.heap.size 210 _ (0,0) _ rfl (((hz.set 0 _).set 1 _).set 2 _) underlying210 rfl (by kernel_rfl)) rfl ⟨_,_,_,_,rfl,?_,?_,?_⟩
 ·iterate 3 refine aa.set ?_ (.inr (by simp)) _
  exact(aj.trans m1).trans m2
 ·exact fV.Df (fV.Df (fV.Df H2'.o hz 0 _) (hz.set 0 _) 1 _) ((hz.set 0 _).set 1 _) 2 _
 ·exact fV.Df (fV.Df (fV.Df H3.o hz 0 _) (hz.set 0 _) 1 _) ((hz.set 0 _).set 1 _) 2 _
structure AV where
 f1:Fn
 c1:tAV
 f2:Fn
 c2:tAV
def AV.cells(t:tLB)(v:AV):List Value:=[.string (T t),.func v.f1 #[] v.c1,.func v.f2 #[] v.c2]
def arC(qZ:List AV):List Value:=(iX.zip qZ).flatMap (λx=>x.2.cells x.1)
theorem aa.setRow{S:Nat->Prop}{w w':tW}(h:aa S w w'){g:Nat}(hg:S g\/w.heap.size<=g)(cs:tAV):aa S w (w'.setRow g cs) :=
 ⟨h.os,h.tape,h.output,by have:=h.size;simp[World.setRow];omega,λk hk hs=>by rw[setRow_other _ _ _ _ (by rintro rfl;rcases hg with hg|hg;exact hs hg;omega)];exact h.block k hk hs⟩
theorem ak.setRow{w:tW}{g:Nat}{cs:tAV}{t:TypeId}(h:ak w g cs t)(cs':tAV):ak (w.setRow g cs') g cs' t:=setRow_heap w g cs cs' t (0,0) h
theorem ak.ajU{w:tW}{g g':Nat}{cs:tAV}{t:TypeId}(h:ak w g cs t)(hne:g≠g')(cs':tAV):ak (w.setRow g' cs') g cs t:=(setRow_other w g' g cs' hne).trans h
theorem WH(qZ:List AV):(arC qZ).toArray.all (·.oneCell')=true:=by rw[ba,bh];intro v hv;obtain⟨x,_,hx⟩:=List.mem_flatMap.1 hv;simp only[AV.cells,al,ab,or_false]at hx;rcases hx with rfl|rfl|rfl<;>rfl
theorem ajp.LG{w w':tW}{f:Fn}{c:tAV}{m k g:Nat}{cs:tAV}{t:TypeId}(h:ajp w f c m k)(hb:ak w g cs t)(q:aa (Only g) w w')(h1:t≠287)(h2:t≠289):ajp w' f c m k:=by
 have key:∀{b:Nat} {ds:tAV} {u:TypeId},ak w b ds u->u≠t->ak w' b ds u:=fun{b ds u} hk hu=>hk.ag q (λe=>by have e0:b=g:=e;rw[e0]at hk;have e1:w.heap[g]?=some (.cells ds u (0,0)):=hk;have e2:w.heap[g]?=some (.cells cs t (0,0)):=hb;rw[e1]at e2;injection e2 with e2;injection e2 with _ e3 _;exact hu e3);unfold ajp at h ⊢;split at h
 ·exact h
 ·exact h
 ·obtain⟨h0,b,h1',h2'⟩:=h;exact⟨h0,b,h1',key h2' (Ne.symm h1)⟩
 ·obtain⟨h0,b,b1,h1',h2',h3'⟩:=h;exact⟨h0,b,b1,h1',key h2' (Ne.symm h1),key h3' (Ne.symm h2)⟩
theorem JK(w:tW):Calls prog 108 #[] w λe w'=>∃qZ:List AV,qZ.length=12/\e=.returned (.agg (arC qZ).toArray)/\aa ae w w'/\∀k (_:k<12) (h:k<qZ.length),fV w' qZ[k].f1 qZ[k].c1 (m64 k) (k-1)/\fV w' qZ[k].f2 qZ[k].c2 (m32 k) (k-1):=by
 go_enter func108,ntmps108;go_wp2_with fail;refine(De _ 0).mono ?_;rintro e w1 ⟨x1a,x1b,rfl,m1,h1a⟩;have RA1:=ai h1a;clear h1a;have MM1:=ai m1;have M1:=m1;clear m1;go_wp2_with fail;refine(wW _ 0).mono ?_;rintro e w2 ⟨x2a,x2b,rfl,m2,h2a⟩;have RA2:=ai h2a;clear h2a;have MM2:=ai m2;have M2:=M1.trans m2;clear m2 M1;go_wp2_with fail;refine(De _ 1).mono ?_;rintro e w3 ⟨x3a,x3b,rfl,m3,h3a⟩;have RA3:=ai h3a;clear h3a;have MM3:=ai m3;have M3:=M2.trans m3;clear m3 M2;go_wp2_with fail;refine(wW _ 1).mono ?_;rintro e w4 ⟨x4a,x4b,rfl,m4,h4a⟩;have RA4:=ai h4a;clear h4a;have MM4:=ai m4;have M4:=M3.trans m4;clear m4 M3;go_wp2_with fail;refine(eP _ _ 2).mono ?_;rintro e w5 ⟨x5a,x5b,x5c,x5d,rfl,m5,h5a,h5b⟩;have RA5:=ai h5a;have RB5:=ai h5b;clear h5a h5b;have WI:=ai m5;have M5:=M4.trans m5;clear m5 M4;go_wp2_with fail;refine(eP _ _ 3).mono ?_;rintro e w6 ⟨x6a,x6b,x6c,x6d,rfl,m6,h6a,h6b⟩;have RA6:=ai h6a;have RB6:=ai h6b;clear h6a h6b;have Ra:=ai m6;have M6:=M5.trans m6;clear m6 M5;go_wp2_with fail;refine(eP _ _ 4).mono ?_;rintro e w7 ⟨x7a,x7b,x7c,x7d,rfl,m7,h7a,h7b⟩;have RA7:=ai h7a;have RB7:=ai h7b;clear h7a h7b;have JL:=ai m7;have M7:=M6.trans m7;clear m7 M6;go_wp2_with fail;refine(eP _ _ 5).mono ?_;rintro e w8 ⟨x8a,x8b,x8c,x8d,rfl,m8,h8a,h8b⟩;have RA8:=ai h8a;have RB8:=ai h8b;clear h8a h8b;have FT:=ai m8;have M8:=M7.trans m8;clear m8 M7;go_wp2_with fail;refine(eP _ _ 6).mono ?_;rintro e w9 ⟨x9a,x9b,x9c,x9d,rfl,m9,h9a,h9b⟩;have RA9:=ai h9a;have RB9:=ai h9b;clear h9a h9b;have CB:=ai m9;have M9:=M8.trans m9;clear m9 M8;go_wp2_with fail;refine(eP _ _ 7).mono ?_;rintro e w10 ⟨adv,adw,adx,ady,rfl,m10,abG,abH⟩;have adz:=ai abG;have adA:=ai abH;clear abG abH;have wY:=ai m10;have M10:=M9.trans m10;clear m10 M9;go_wp2_with fail;refine(eP _ _ 8).mono ?_;rintro e w11 ⟨adB,adC,adD,adE,rfl,m11,abI,abJ⟩;have adF:=ai abI;have adG:=ai abJ;clear abI abJ;have uw:=ai m11;have M11:=M10.trans m11;clear m11 M10;go_wp2_with fail;refine(eP _ _ 9).mono ?_;rintro e w12 ⟨adH,adI,adJ,adK,rfl,m12,abK,abL⟩;have adL:=ai abK;have adM:=ai abL;clear abK abL;have qW:=ai m12;have M12:=M11.trans m12;clear m12 M11;go_wp2_with fail;refine(eP _ _ 10).mono ?_;rintro e w13 ⟨adN,adO,adP,adQ,rfl,m13,abM,abN⟩;have adR:=ai abM;have adS:=ai abN;clear abM abN;have oh:=ai m13;have M13:=M12.trans m13;clear m13 M12;have hz:=(ak.new w _ _).ag M13 id;have HZ:=ai hz;have HM:=ai M13;clear hz M13;go_wp2_with (refine wpList_store_row rfl 211 (.tmp 0) (.tmp 17) rfl w.heap.size (arC [⟨.func 185,#[],.func 186,#[]⟩,⟨x1a,x1b,x2a,x2b⟩,⟨x3a,x3b,x4a,x4b⟩,⟨x5a,x5b,x5c,x5d⟩,⟨x6a,x6b,x6c,x6d⟩,⟨x7a,x7b,x7c,x7d⟩,⟨x8a,x8b,x8c,x8d⟩,⟨x9a,x9b,x9c,x9d⟩,⟨adv,adw,adx,ady⟩,⟨adB,adC,adD,adE⟩,⟨adH,adI,adJ,adK⟩,⟨adN,adO,adP,adQ⟩]).toArray rfl rfl 211 _ HZ.o (by kernel_rfl) rfl (WH _) ?_);have key:∀{f:Fn} {c:tAV} {m k:Nat} (cs:tAV),fV w13 f c m k->fV (w13.setRow w.heap.size cs) f c m k:=λcs h=>h.LG HZ.o (aa.setRow (S:=Only w.heap.size) ax (.inl (show w.heap.size=w.heap.size from rfl)) cs) (by decide) (by decide);refine bodyPost_ret (results_cell_row results108 _ _ w.heap.size 211 _ (0,0) _ rfl (HZ.o.setRow _) underlying211 rfl (by kernel_rfl)) rfl ⟨_,rfl,rfl,?_,?_⟩
 ·exact(aj.trans HM.o).setRow (.inr (ar _)) _
 ·intro k hk _;have hk':k=0\/k=1\/k=2\/k=3\/k=4\/k=5\/k=6\/k=7\/k=8\/k=9\/k=10\/k=11:=by omega
  rcases hk' with rfl|rfl|rfl|rfl|rfl|rfl|rfl|rfl|rfl|rfl|rfl|rfl
  ·exact⟨⟨rfl,rfl⟩,⟨rfl,rfl⟩⟩
  ·exact⟨key _ (RA1.o.ag (((((((((((MM2.o.trans MM3.o).trans MM4.o).trans WI.o).trans Ra.o).trans JL.o).trans FT.o).trans CB.o).trans wY.o).trans uw.o).trans qW.o).trans oh.o)),key _ (RA2.o.ag ((((((((((MM3.o.trans MM4.o).trans WI.o).trans Ra.o).trans JL.o).trans FT.o).trans CB.o).trans wY.o).trans uw.o).trans qW.o).trans oh.o))⟩
  ·exact⟨key _ (RA3.o.ag (((((((((MM4.o.trans WI.o).trans Ra.o).trans JL.o).trans FT.o).trans CB.o).trans wY.o).trans uw.o).trans qW.o).trans oh.o)),key _ (RA4.o.ag ((((((((WI.o.trans Ra.o).trans JL.o).trans FT.o).trans CB.o).trans wY.o).trans uw.o).trans qW.o).trans oh.o))⟩
  ·exact⟨key _ (RA5.o.ag (((((((Ra.o.trans JL.o).trans FT.o).trans CB.o).trans wY.o).trans uw.o).trans qW.o).trans oh.o)),key _ (RB5.o.ag (((((((Ra.o.trans JL.o).trans FT.o).trans CB.o).trans wY.o).trans uw.o).trans qW.o).trans oh.o))⟩
  ·exact⟨key _ (RA6.o.ag ((((((JL.o.trans FT.o).trans CB.o).trans wY.o).trans uw.o).trans qW.o).trans oh.o)),key _ (RB6.o.ag ((((((JL.o.trans FT.o).trans CB.o).trans wY.o).trans uw.o).trans qW.o).trans oh.o))⟩
  ·exact⟨key _ (RA7.o.ag (((((FT.o.trans CB.o).trans wY.o).trans uw.o).trans qW.o).trans oh.o)),key _ (RB7.o.ag (((((FT.o.trans CB.o).trans wY.o).trans uw.o).trans qW.o).trans oh.o))⟩
  ·exact⟨key _ (RA8.o.ag ((((CB.o.trans wY.o).trans uw.o).trans qW.o).trans oh.o)),key _ (RB8.o.ag ((((CB.o.trans wY.o).trans uw.o).trans qW.o).trans oh.o))⟩
  ·exact⟨key _ (RA9.o.ag (((wY.o.trans uw.o).trans qW.o).trans oh.o)),key _ (RB9.o.ag (((wY.o.trans uw.o).trans qW.o).trans oh.o))⟩
  ·exact⟨key _ (adz.o.ag ((uw.o.trans qW.o).trans oh.o)),key _ (adA.o.ag ((uw.o.trans qW.o).trans oh.o))⟩
  ·exact⟨key _ (adF.o.ag (qW.o.trans oh.o)),key _ (adG.o.ag (qW.o.trans oh.o))⟩
  ·exact⟨key _ (adL.o.ag oh.o),key _ (adM.o.ag oh.o)⟩
  ·exact⟨key _ adR.o,key _ adS.o⟩
structure JV where
 f1:Fn
 c1:tAV
def JV.cells(t:tLB)(v:JV):List Value:=[.string (T t),.func v.f1 #[] v.c1]
def juC(uI:List JV):List Value:=(nU.zip uI).flatMap (λx=>x.2.cells x.1)
theorem WJ(uI:List JV):(juC uI).toArray.all (·.oneCell')=true:=by rw[ba,bh];intro v hv;obtain⟨x,_,hx⟩:=List.mem_flatMap.1 hv;simp only[JV.cells,al,ab,or_false]at hx;rcases hx with rfl|rfl<;>rfl
theorem NT(w:tW):Calls prog 119 #[] w λe w'=>∃uI:List JV,uI.length=11/\e=.returned (.agg (juC uI).toArray)/\aa ae w w'/\∀k (_:k<11) (h:k<uI.length),ajp w' uI[k].f1 uI[k].c1 (jmM k) (jmK k):=by
 go_enter func119,ntmps119;go_wp2_with fail;refine(jo _ 0).mono ?_;rintro e w1 ⟨x1a,x1b,rfl,m1,h1a⟩;have RA1:=ai h1a;clear h1a;have MM1:=ai m1;have M1:=m1;clear m1;go_wp2_with fail;refine(jo _ 1).mono ?_;rintro e w2 ⟨x2a,x2b,rfl,m2,h2a⟩;have RA2:=ai h2a;clear h2a;have MM2:=ai m2;have M2:=M1.trans m2;clear m2 M1;go_wp2_with fail;refine(jo _ 2).mono ?_;rintro e w3 ⟨x3a,x3b,rfl,m3,h3a⟩;have RA3:=ai h3a;clear h3a;have MM3:=ai m3;have M3:=M2.trans m3;clear m3 M2;go_wp2_with fail;refine(jo _ 3).mono ?_;rintro e w4 ⟨x4a,x4b,rfl,m4,h4a⟩;have RA4:=ai h4a;clear h4a;have MM4:=ai m4;have M4:=M3.trans m4;clear m4 M3;go_wp2_with fail;refine(mQ _ 0).mono ?_;rintro e w5 ⟨x5a,x5b,rfl,m5,h5a⟩;have RA5:=ai h5a;clear h5a;have WI:=ai m5;have M5:=M4.trans m5;clear m5 M4;go_wp2_with fail;refine(mQ _ 1).mono ?_;rintro e w6 ⟨x6a,x6b,rfl,m6,h6a⟩;have RA6:=ai h6a;clear h6a;have Ra:=ai m6;have M6:=M5.trans m6;clear m6 M5;go_wp2_with fail;refine(mQ _ 2).mono ?_;rintro e w7 ⟨x7a,x7b,rfl,m7,h7a⟩;have RA7:=ai h7a;clear h7a;have JL:=ai m7;have M7:=M6.trans m7;clear m7 M6;go_wp2_with fail;refine(mQ _ 3).mono ?_;rintro e w8 ⟨x8a,x8b,rfl,m8,h8a⟩;have RA8:=ai h8a;clear h8a;have FT:=ai m8;have M8:=M7.trans m8;clear m8 M7;go_wp2_with fail;refine(jo _ 4).mono ?_;rintro e w9 ⟨x9a,x9b,rfl,m9,h9a⟩;have RA9:=ai h9a;clear h9a;have CB:=ai m9;have M9:=M8.trans m9;clear m9 M8;have hz:=(ak.new w _ _).ag M9 id;have HZ:=ai hz;have HM:=ai M9;clear hz M9;go_wp2_with (refine wpList_store_row rfl 221 (.tmp 0) (.tmp 21) rfl w.heap.size (juC [⟨.func 217,#[]⟩,⟨.func 218,#[]⟩,⟨x1a,x1b⟩,⟨x2a,x2b⟩,⟨x3a,x3b⟩,⟨x4a,x4b⟩,⟨x5a,x5b⟩,⟨x6a,x6b⟩,⟨x7a,x7b⟩,⟨x8a,x8b⟩,⟨x9a,x9b⟩]).toArray rfl rfl 221 _ HZ.o (by kernel_rfl) rfl (WJ _) ?_);have key:∀{f:Fn} {c:tAV} {m k:Nat} (cs:tAV),ajp w9 f c m k->ajp (w9.setRow w.heap.size cs) f c m k:=λcs h=>h.LG HZ.o (aa.setRow (S:=Only w.heap.size) ax (.inl (show w.heap.size=w.heap.size from rfl)) cs) (by decide) (by decide);refine bodyPost_ret (results_cell_row results119 _ _ w.heap.size 221 _ (0,0) _ rfl (HZ.o.setRow _) underlying221 rfl (by kernel_rfl)) rfl ⟨_,rfl,rfl,?_,?_⟩
 ·exact(aj.trans HM.o).setRow (.inr (ar _)) _
 ·intro k hk _;have hk':k=0\/k=1\/k=2\/k=3\/k=4\/k=5\/k=6\/k=7\/k=8\/k=9\/k=10:=by omega
  rcases hk' with rfl|rfl|rfl|rfl|rfl|rfl|rfl|rfl|rfl|rfl|rfl
  ·exact⟨rfl,rfl⟩
  ·exact⟨rfl,rfl⟩
  ·exact key _ (RA1.o.ag (((((((MM2.o.trans MM3.o).trans MM4.o).trans WI.o).trans Ra.o).trans JL.o).trans FT.o).trans CB.o))
  ·exact key _ (RA2.o.ag ((((((MM3.o.trans MM4.o).trans WI.o).trans Ra.o).trans JL.o).trans FT.o).trans CB.o))
  ·exact key _ (RA3.o.ag (((((MM4.o.trans WI.o).trans Ra.o).trans JL.o).trans FT.o).trans CB.o))
  ·exact key _ (RA4.o.ag ((((WI.o.trans Ra.o).trans JL.o).trans FT.o).trans CB.o))
  ·exact key _ (RA5.o.ag (((Ra.o.trans JL.o).trans FT.o).trans CB.o))
  ·exact key _ (RA6.o.ag ((JL.o.trans FT.o).trans CB.o))
  ·exact key _ (RA7.o.ag (FT.o.trans CB.o))
  ·exact key _ (RA8.o.ag CB.o)
  ·exact key _ RA9.o
def fF(b:Nat):Value:=.pointer (some ⟨b,0,none⟩)
structure aH(base:Nat)(w:tW)(v:Value)(bs:List Nat)(os:List dY):Prop where
 len:bs.length=os.length
 nd:bs.Nodup
 sl:Sl w 135 1 v bs.length (bs.map fF)
 at':∀i (h:i<bs.length) (h':i<os.length),bY w bs[i] os[i]
 lo:∀b∈bs,base<=b
 own:∀k,v.ownBlock=some k->base<=k
theorem aH.nil(base:Nat)(w:tW):aH base w (.slice none 0 0) [] [] :=
 ⟨rfl,List.nodup_nil,Sl.nil _ _ _,λi h=>absurd h (Nat.not_lt_zero _),λb h=>(by cases h),λk h=>(by cases h)⟩
theorem aH.ag{base:Nat}{w w':tW}{v:Value}{bs:List Nat}{os:List dY}(h:aH base w v bs os)(m:aa ae w w'):aH base w' v bs os :=
 ⟨h.len,h.nd,h.sl.ag m (λ_ _=>id),λi h1 h2=>(h.at' i h1 h2).ag m,h.lo,h.own⟩
theorem bY.JM{w:tW}{b:Nat}{o:dY}(h:bY w b o){v:Value}{n:Nat}{xs:List Value}(hs:Sl w 135 1 v n xs):v.ownBlock≠some b:=by
 obtain⟨o1,n1,c1,f6,c6,k7,c7,k8,c8,f9,c9,h1,h2⟩:=h.ex;intro hv;rcases hs.2 with⟨rfl,rfl⟩ |⟨g,cap,cur,rfl,_,hg,_⟩
 ·cases hv
 ·cases hv;unfold ak at h1;rw[hg]at h1;cases h1
theorem aH.app{base:Nat}{w w':tW}{v v':Value}{bs cs:List Nat}{os ps:List dY}(h:aH base w v bs os)(hlen:cs.length=ps.length)(hnd:(bs++cs).Nodup)(hat:∀i (h:i<cs.length) (h':i<ps.length),bY w cs[i] ps[i])(hlo:∀b∈cs,base<=b)(hsl:Sl w' 135 1 v' (bs.length+cs.length) (bs.map fF++cs.map fF)) (m:aa (λk=>v.ownBlock=some k) w w') (ho:∀k,v'.ownBlock=some k->v.ownBlock=some k\/w.heap.size<=k) (hb:base<=w.heap.size):aH base w' v' (bs++cs) (os++ps):=by
 have hk:=aa.Eu h.sl m;have key:∀b o,bY w b o->bY w' b o:=λb o ha=>ha.kpb hk (m.block b ha.lt (λe=>ha.JM h.sl e));refine⟨by simp[h.len,hlen],hnd,by rw[List.length_append,List.map_append];exact hsl,λi h1 h2=>?_,λb hm=>?_,λk hk'=>?_⟩
 ·rcases Nat.lt_or_ge i bs.length with hi|hi
  ·rw[ao hi,ao (by rw[<-h.len];exact hi)];exact key _ _ (h.at' i hi _)
  ·rw[an hi,an (by rw[<-h.len];exact hi)];have:=hat (i-bs.length) (by simp at h1;omega) (by rw[<-hlen];simp at h1;omega);simp only[<-h.len];exact key _ _ this
 ·rcases List.mem_append.1 hm with hm|hm
  ·exact h.lo b hm
  ·exact hlo b hm
 ·rcases ho k hk' with e|e
  ·exact h.own k e
  ·omega
def NU(k:Nat):List dY:=(iX.zipIdx.take k).flatMap λx=>zO x.2 x.1
theorem Sd(k:Nat)(h:k<12):NU (k+1)=NU k++zO k (iX[k]'h):=by
 have:∀k:Fin 12,NU (k.1+1)=NU k.1++zO k.1 (iX[k.1]'k.2):=by intro k;unfold NU;rw[List.take_succ_eq_append_getElem (by simp;exact k.2),List.flatMap_append];simp;rfl
 exact this ⟨k,h⟩
theorem aak(qZ:List AV)(hl:qZ.length=12)(k:Nat)(hk:k<12)(w:tW):(Instr.index 211 (.agg (arC qZ).toArray) (.int .i64 k)).run prog w=.ok (.agg (AV.cells (iX[k]'hk) (qZ[k]'(by omega))).toArray) w:=by
 match qZ,hl with
 |[a0,a1,a2,a3,a4,a5,a6,a7,a8,a9,a10,a11],_ =>
  have:k=0\/k=1\/k=2\/k=3\/k=4\/k=5\/k=6\/k=7\/k=8\/k=9\/k=10\/k=11:=by omega
  rcases this with rfl|rfl|rfl|rfl|rfl|rfl|rfl|rfl|rfl|rfl|rfl|rfl<;>rfl
theorem aH.lt{base:Nat}{w:tW}{v:Value}{bs:List Nat}{os:List dY}(h:aH base w v bs os):∀b∈bs,b<w.heap.size:=λb hb=>by
 obtain⟨i,hi,rfl⟩:=List.getElem_of_mem hb;exact(h.at' i hi (by rw[<-h.len];exact hi)).lt
theorem aH.grow{base:Nat}{w0 wX w':tW}{v v':Value}{bs:List Nat}{os:List dY}(cs:List Nat)(ps:List dY)(h:aH base w0 v bs os)(m0:aa ae w0 wX)(hlen:cs.length=ps.length)(hc:cs.Pairwise (·<·))(hlo:∀c∈cs,w0.heap.size<=c)(hat:∀i (h:i<cs.length) (h':i<ps.length),bY wX cs[i] ps[i]) (hsl:Sl w' 135 1 v' (bs.length+cs.length) (bs.map fF++cs.map fF)) (m:aa (λk=>v.ownBlock=some k) wX w') (ho:∀k,v'.ownBlock=some k->v.ownBlock=some k\/wX.heap.size<=k)(hb:base<=w0.heap.size):aH base w' v' (bs++cs) (os++ps):=by refine(h.ag m0).app hlen ?_ hat (λb hb'=>Nat.le_trans hb (hlo b hb')) hsl m ho (Nat.le_trans hb m0.size);rw[List.nodup_append];refine⟨h.nd,hc.imp (λh=>Nat.ne_of_lt h),λa ha b hb' e=>?_⟩;have h1:=h.lt a ha;have h2:=hlo b hb';omega
theorem PartsAt.new(w:tW)(pv:List (PK×PV))(h:∀x∈pv,x.2.Ok w x.1)(cs:tAV)(hc:cs.toList=pv.flatMap (λx=>x.2.cells x.1.fills))(n:Nat)(hn:pv.length=n)(hm:n<=100):PartsAt (w.alloc (.cells cs 205)) (.slice (some ⟨w.heap.size,0,none⟩) n n) (pv.map (·.1)):=by
 subst hn;have hl:=Ry (λx:PK×PV=>x.2.cells x.1.fills) 4 (λ_=>rfl) pv;refine⟨pv,rfl,λx hx=>(h x hx).kp aj.kp,?_⟩;refine VR.sl ⟨ar _,by unfold maxLen;omega,?_,?_,hl⟩ (ak.new w cs 205)
 ·rw[<-Array.length_toList,hc,hl]
 ·rw[hc,List.take_of_length_le (by rw[hl];exact ar _)]
theorem PV.Ok.ag{w w':tW}{p:PK}{v:PV}(h:v.Ok w p)(m:aa ae w w'):v.Ok w' p:=h.kp m.kp
theorem rV:(prog.info? 135).map (λi=>(i.zero,i.size,i.bytes))=some (some (.pointer none),1,8):=by kernel_rfl
theorem rW(bs:List Nat):∀u∈bs.map fF,u.oneCell'=true:=by intro u hu;obtain⟨b,_,rfl⟩:=List.mem_map.1 hu;rfl
theorem LH(k:Nat)(h:k<=12):(NU k).length=4*k:=by
 have:∀k:Fin 13,(NU k.1).length=4*k.1:=by decide +kernel
 exact this ⟨k,by omega⟩
theorem jq(w:tW)(c:Int)(code:Nat)(hc:c=code)(s:tBA)(word:tLB)(hs:s=T word)(v:Value)(ps:List PK)(f9:Fn)(c9:tAV)(hP:PartsAt w v ps)(hwl:word.length<=100)(hpl:ps.length<=10)(d:VS)(hd:dz code=d)(hD:DoAt w f9 c9 d):Calls prog 109 #[.int .u8 c,.string s,v,.func f9 #[] c9] w λe w'=>∃b,e=.returned (.pointer (some ⟨b,0,none⟩))/\bY w' b (fK code word ps)/\w.heap.size<=b/\aa ae w w':=by subst hc hs hd;exact WG w code word v ps f9 c9 hP hwl hpl hD
theorem Gm(k:Nat)(h:k<12):(T (iX[k]'h)).size<=90:=by
 have:∀k:Fin 12,(T (iX[k.1]'k.2)).size<=90:=by decide +kernel
 exact this ⟨k,h⟩
def Gn(w:tW)(qZ:List AV):Prop:=∀k (_:k<12) (h:k<qZ.length),fV w qZ[k].f1 qZ[k].c1 (m64 k) (k-1)/\fV w qZ[k].f2 qZ[k].c2 (m32 k) (k-1)
theorem Gn.kp{w w':tW}{qZ:List AV}(h:Gn w qZ)(m:Kp w w'):Gn w' qZ:=λk a b=>⟨(h k a b).1.blk m.alG,(h k a b).2.blk m.alG⟩
theorem Gn.ag{w w':tW}{qZ:List AV}(h:Gn w qZ)(m:aa ae w w'):Gn w' qZ:=h.kp m.kp
theorem Ew(w:tW):Calls prog 64 #[] w λe w'=>∃v bs,e=.returned v/\aH w.heap.size w' v bs JE/\aa ae w w':=by
 obtain⟨iP,hiP,rX,hsP,wj⟩:=info_parts rV;go_enter func64,ntmps64;go_wp2_with fail;refine(kg _).mono ?_;rintro e aw0 ⟨⟨qb,qc,qd,qe,qg,qh⟩,rfl,Sg,Sh⟩;go_wp2_with fail;refine(eT _).mono ?_;rintro e aw1 ⟨⟨qi,qj,qk,ql,qm,qo⟩,rfl,Si,JN⟩;go_wp2_with fail;refine(mO _).mono ?_;rintro e JO ⟨⟨qp,qt,qu,qw,qx,qy⟩,rfl,Sj,Ex⟩
 have Sk:af (PartsAt (JO.alloc (.cells #[.int .i64 1,.func qb #[] qc,.func (.func qd) #[] qe,.func (.func qg) #[] qh,.int .i64 0,.func qi #[] qj,.func (.func qk) #[] ql,.func (.func qm) #[] qo,.int .i64 2,.func qp #[] qt,.func (.func qu) #[] qw,.func (.func qx) #[] qy] 205)) (.slice (some ⟨JO.heap.size,0,none⟩) 3 3) nT):=PartsAt.new JO [(.result,⟨qb,qc,qd,qe,qg,qh⟩),(.comma,⟨qi,qj,qk,ql,qm,qo⟩),(.source,⟨qp,qt,qu,qw,qx,qy⟩)] (by
  simp only[al,ab,or_false];rintro x (rfl|rfl|rfl)
  ·exact((Sg.ag JN).ag Ex)
  ·exact(Si.ag Ex)
  ·exact Sj) _ rfl 3 rfl (by decide)
 have Rc:af (aa ae w (JO.alloc (.cells #[.int .i64 1,.func qb #[] qc,.func (.func qd) #[] qe,.func (.func qg) #[] qh,.int .i64 0,.func qi #[] qj,.func (.func qk) #[] ql,.func (.func qm) #[] qo,.int .i64 2,.func qp #[] qt,.func (.func qu) #[] qw,.func (.func qx) #[] qy] 205))):=((((aa.refl ae w).trans Sh).trans JN).trans Ex).alloc _;clear Sg Sh Si JN Sj Ex;simp only[PV.cells,PK.fills,aE];go_wp2_with fail;generalize JO.alloc (.cells #[.int .i64 1,.func qb #[] qc,.func (.func qd) #[] qe,.func (.func qg) #[] qh,.int .i64 0,.func qi #[] qj,.func (.func qk) #[] ql,.func (.func qm) #[] qo,.int .i64 2,.func qp #[] qt,.func (.func qu) #[] qw,.func (.func qx) #[] qy] 205)=W1 at *;generalize JO.heap.size=g1 at *;refine(kg _).mono ?_;rintro e bw0 ⟨⟨rY,rZ,r9,si,sj,af1⟩,rfl,Zi,Sm⟩;go_wp2_with fail;refine(eT _).mono ?_;rintro e bw1 ⟨⟨sD,sG,sH,sI,sJ,sK⟩,rfl,Zj,LJ⟩;go_wp2_with fail;refine(rT _).mono ?_;rintro e WL ⟨⟨sN,sO,sP,sQ,sS,sU⟩,rfl,Zk,Gp⟩
 have Zl:af (PartsAt (WL.alloc (.cells #[.int .i64 1,.func rY #[] rZ,.func (.func r9) #[] si,.func (.func sj) #[] af1,.int .i64 0,.func sD #[] sG,.func (.func sH) #[] sI,.func (.func sJ) #[] sK,.int .i64 8,.func sN #[] sO,.func (.func sP) #[] sQ,.func (.func sS) #[] sU] 205)) (.slice (some ⟨WL.heap.size,0,none⟩) 3 3) qO):=PartsAt.new WL [(.result,⟨rY,rZ,r9,si,sj,af1⟩),(.comma,⟨sD,sG,sH,sI,sJ,sK⟩),(.number,⟨sN,sO,sP,sQ,sS,sU⟩)] (by
  simp only[al,ab,or_false];rintro x (rfl|rfl|rfl)
  ·exact((Zi.ag LJ).ag Gp)
  ·exact(Zj.ag Gp)
  ·exact Zk) _ rfl 3 rfl (by decide)
 have Zm:af (aa ae w (WL.alloc (.cells #[.int .i64 1,.func rY #[] rZ,.func (.func r9) #[] si,.func (.func sj) #[] af1,.int .i64 0,.func sD #[] sG,.func (.func sH) #[] sI,.func (.func sJ) #[] sK,.int .i64 8,.func sN #[] sO,.func (.func sP) #[] sQ,.func (.func sS) #[] sU] 205))):=(((Rc.o.trans Sm).trans LJ).trans Gp).alloc _;have Gq:af (PartsAt (WL.alloc (.cells #[.int .i64 1,.func rY #[] rZ,.func (.func r9) #[] si,.func (.func sj) #[] af1,.int .i64 0,.func sD #[] sG,.func (.func sH) #[] sI,.func (.func sJ) #[] sK,.int .i64 8,.func sN #[] sO,.func (.func sP) #[] sQ,.func (.func sS) #[] sU] 205)) (.slice (some ⟨g1,0,none⟩) 3 3) nT):=Sk.o.ag (((((aa.refl ae _).trans Sm).trans LJ).trans Gp).alloc _);clear Sk Zi Sm Zj LJ Zk Gp;simp only[PV.cells,PK.fills,aE];clear Rc;go_wp2_with fail;generalize WL.alloc (.cells #[.int .i64 1,.func rY #[] rZ,.func (.func r9) #[] si,.func (.func sj) #[] af1,.int .i64 0,.func sD #[] sG,.func (.func sH) #[] sI,.func (.func sJ) #[] sK,.int .i64 8,.func sN #[] sO,.func (.func sP) #[] sQ,.func (.func sS) #[] sU] 205)=W2 at *;generalize WL.heap.size=g2 at *;refine(JK _).mono ?_;rintro e w7 ⟨qZ,hlen,rfl,m7,LF⟩;have Re:=ai LF;clear LF;have HI:af (∀(k:Nat) (hk:k<12) (W:tW),(Instr.index 211 (.agg (arC qZ).toArray) (.int .i64 k)).run prog W=.ok (.agg (AV.cells (iX[k]'hk) (qZ[k]'(by omega))).toArray) W):=λk hk W=>aak qZ hlen k hk W;have qQ:=ai (Gq.o.ag m7);have kD:=ai (Zl.o.ag m7);have HM:=ai (Zm.o.trans m7);clear Gq Zl Zm m7;generalize(arC qZ).toArray=AC at *;go_wp2_with fail;go_loopw [3,17] (λo i wl=>∃(k:Nat) (bs:List Nat),k<=12/\i=.int .i64 k/\aH w.heap.size wl o bs (NU k)/\PartsAt wl (.slice (some ⟨g1,0,none⟩) 3 3) nT/\PartsAt wl (.slice (some ⟨g2,0,none⟩) 3 3) qO/\aa ae w wl/\Gn wl qZ) (λ_ i _=>12-(intOf i).toNat)
 case atStart=>exact⟨0,[],by omega,rfl,aH.nil _ _,qQ.o,kD.o,HM.o,Re.o⟩
 case round =>
  obtain⟨k,bs,hk,rfl,hO,hP1,hP2,hM,hAr⟩:=hrel;clear qQ kD HM Re;have Re:=ai hAr;clear hAr;by_cases hlt:k<12
  ·have hidx:=HI.o k hlt;have HST:af (NU (k+1)=NU k++[fK (1+k) (iX[k]) nT,fK (17+k) (w32 (iX[k])) nT,fK (33+k) (iX[k]) qO,fK (49+k) (w32 (iX[k])) qO]):=Sd k hlt;have HW:af ((T (iX[k])).size<=90):=Gm k hlt;have LF:=Re.o k hlt (by omega);have FU:=ai (Wz k hlt);generalize iX[k]=wd at *;generalize qZ[k]=av at *;obtain⟨f1,c1,f2,c2⟩:=av;have tZ:=ai LF;clear LF;simp only[AV.cells]at hidx;have HO:af _:=hO;have qQ:af _:=hP1;have kD:af _:=hP2;have HM:af _:=hM;clear hO hP1 hP2 hM;have hwd:(T wd).size<=90:=HW.o;have HL:af (bs.length<=100):=by have:=HO.o.len;rw[LH k (by omega)]at this;exact(by omega:bs.length<=100)
   go_upto_region 8 with fail;have hA:=ak.new wr #[.string (T wd),.func f1 #[] c1,.func f2 #[] c2] 210;have Zn:af (u3.ownBlock≠some wr.heap.size):=λe=>by have:=HO.o.sl.lt _ e;simp at this
   have q0:∀g:Ext (λk=>u3.ownBlock=some k) (wr.alloc (.cells #[.string (T wd),.func f1 #[] c1,.func f2 #[] c2] 210)),g.w.cell? ⟨wr.heap.size,0,none⟩=some (.string (T wd)):=λg=>g.cell hA Zn.o 0;have q1:∀g:Ext (λk=>u3.ownBlock=some k) (wr.alloc (.cells #[.string (T wd),.func f1 #[] c1,.func f2 #[] c2] 210)),g.w.cell? ⟨wr.heap.size,1,none⟩=some (.func f1 #[] c1):=λg=>g.cell hA Zn.o 1;have q2:∀g:Ext (λk=>u3.ownBlock=some k) (wr.alloc (.cells #[.string (T wd),.func f1 #[] c1,.func f2 #[] c2] 210)),g.w.cell? ⟨wr.heap.size,2,none⟩=some (.func f2 #[] c2):=λg=>g.cell hA Zn.o 2;have ne1:=Ext.ne (λk=>u3.ownBlock=some k) (wr.alloc (.cells #[.string (T wd),.func f1 #[] c1,.func f2 #[] c2] 210));refine bE [7,8,17,18,26,27,37,38,39,40] (λw'=>∃g:Ext (λk=>u3.ownBlock=some k) (wr.alloc (.cells #[.string (T wd),.func f1 #[] c1,.func f2 #[] c2] 210)),w'=g.w) (by kernel_rfl) (by kernel_rfl) (by kernel_rfl) ⟨⟨_,aJ⟩,rfl⟩ ?_;have X0:af (aa ae wr (wr.alloc (.cells #[.string (T wd),.func f1 #[] c1,.func f2 #[] c2] 210)).drew):=aj.drew;have Y0:af (aa ae (wr.alloc (.cells #[.string (T wd),.func f1 #[] c1,.func f2 #[] c2] 210)) (wr.alloc (.cells #[.string (T wd),.func f1 #[] c1,.func f2 #[] c2] 210)).drew):=aJ
   iterate 7 (refine aA rfl rfl rfl ?_;intro K hK;go_big_quiet_op;go_big_quiet_on)
   refine aF rfl rfl ?_;intro K hK;go_big_op;refine(jF _ _ _ _ _ true (tZ.o.1.ag X0.o)).mono ?_;rintro e v0 ⟨fb0,cb0,rfl,Gr,hd0⟩;have HD0:=ai hd0;clear hd0;have X1:=ai (X0.o.trans Gr);have Y1:=ai (Y0.o.trans Gr);have HV0:=ai X1.o;refine hK _ _ rfl ⟨⟨_,Y1.o.mono (λ_ _ h=>h.elim)⟩,rfl⟩ ?_;have MB0:af _:=Gr;clear hK K Gr X0 Y0;refine aF rfl rfl ?_;intro K hK;go_big_op;refine(jq _ _ (1+k) (by omega) _ wd (rfl) _ nT _ _ (qQ.o.ag X1.o) (by have:=HW.o;rw[bG]at this;omega) (by decide) _ FU.o.1 HD0.o).mono ?_;rintro e r0 ⟨b0,rfl,hr0,hb0,Gs⟩;have X2:=ai (X1.o.trans Gs);have Y2:=ai (Y1.o.trans Gs);have iA:af _:=hr0;have MR0:af _:=Gs;have HB0:=ai hb0;refine hK _ _ rfl ⟨⟨_,Y2.o.mono (λ_ _ h=>h.elim)⟩,rfl⟩ ?_;clear hK K X1 Y1 hr0 hb0 Gs
   iterate 8 (refine aA rfl rfl rfl ?_;intro K hK;go_big_quiet_op;go_big_quiet_on)
   refine aF rfl rfl ?_;intro K hK;go_big_op;refine(jF _ _ _ _ _ true (tZ.o.2.ag X2.o)).mono ?_;rintro e v1 ⟨fb1,cb1,rfl,Gt,hd1⟩;have HD1:=ai hd1;clear hd1;have X3:=ai (X2.o.trans Gt);have Y3:=ai (Y2.o.trans Gt);refine hK _ _ rfl ⟨⟨_,Y3.o.mono (λ_ _ h=>h.elim)⟩,rfl⟩ ?_;have Sn:af _:=Gt;clear hK K Gt X2 Y2;refine aF rfl rfl ?_;intro K hK;go_big_op;refine(jq _ _ (17+k) (by omega) _ (w32 wd) ((rF wd [51,50]).symm) _ nT _ _ (qQ.o.ag X3.o) (by have:=HW.o;rw[bG]at this;simp[w32];omega) (by decide) _ FU.o.2.1 HD1.o).mono ?_;rintro e r1 ⟨b1,rfl,hr1,hb1,Gu⟩;have X4:=ai (X3.o.trans Gu);have Y4:=ai (Y3.o.trans Gu);have Cs:af _:=hr1;have MR1:af _:=Gu;have HB1:=ai hb1;refine hK _ _ rfl ⟨⟨_,Y4.o.mono (λ_ _ h=>h.elim)⟩,rfl⟩ ?_;clear hK K X3 Y3 hr1 hb1 Gu
   iterate 7 (refine aA rfl rfl rfl ?_;intro K hK;go_big_quiet_op;go_big_quiet_on)
   refine aF rfl rfl ?_;intro K hK;go_big_op;refine(jF _ _ _ _ _ false (tZ.o.1.ag X4.o)).mono ?_;rintro e v2 ⟨fb2,cb2,rfl,Zo,hd2⟩;have HD2:=ai hd2;clear hd2;have X5:=ai (X4.o.trans Zo);have Y5:=ai (Y4.o.trans Zo);refine hK _ _ rfl ⟨⟨_,Y5.o.mono (λ_ _ h=>h.elim)⟩,rfl⟩ ?_;have MB2:af _:=Zo;clear hK K Zo X4 Y4;refine aF rfl rfl ?_;intro K hK;go_big_op;refine(jq _ _ (33+k) (by omega) _ wd (rfl) _ qO _ _ (kD.o.ag X5.o) (by have:=HW.o;rw[bG]at this;omega) (by decide) _ FU.o.2.2.1 HD2.o).mono ?_;rintro e r2 ⟨b2,rfl,hr2,hb2,Zp⟩;have X6:=ai (X5.o.trans Zp);have Y6:=ai (Y5.o.trans Zp);have kE:af _:=hr2;have MR2:af _:=Zp;have HB2:=ai hb2;refine hK _ _ rfl ⟨⟨_,Y6.o.mono (λ_ _ h=>h.elim)⟩,rfl⟩ ?_;clear hK K X5 Y5 hr2 hb2 Zp
   iterate 9 (refine aA rfl rfl rfl ?_;intro K hK;go_big_quiet_op;go_big_quiet_on)
   refine aF rfl rfl ?_;intro K hK;go_big_op;refine(jF _ _ _ _ _ false (tZ.o.2.ag X6.o)).mono ?_;rintro e v3 ⟨fb3,cb3,rfl,mb3,hd3⟩;have HD3:=ai hd3;clear hd3;have X7:=ai (X6.o.trans mb3);have Y7:=ai (Y6.o.trans mb3);refine hK _ _ rfl ⟨⟨_,Y7.o.mono (λ_ _ h=>h.elim)⟩,rfl⟩ ?_;have MB3:af _:=mb3;clear hK K mb3 X6 Y6;refine aF rfl rfl ?_;intro K hK;go_big_op;refine(jq _ _ (49+k) (by omega) _ (w32 wd) ((rF wd [51,50]).symm) _ qO _ _ (kD.o.ag X7.o) (by have:=HW.o;rw[bG]at this;simp[w32];omega) (by decide) _ FU.o.2.2.2 HD3.o).mono ?_;rintro e r3 ⟨b3,rfl,hr3,hb3,mr3⟩;have X8:=ai (X7.o.trans mr3);have Y8:=ai (Y7.o.trans mr3);have xX:af _:=hr3;have MR3:af _:=mr3;have HB3:=ai hb3;refine hK _ _ rfl ⟨⟨_,Y8.o.mono (λ_ _ h=>h.elim)⟩,rfl⟩ ?_;clear hK K X7 Y7 hr3 hb3 mr3;refine aF rfl rfl ?_;intro K hK;go_big_op;refine hK _ _ rfl ⟨⟨_,(Y8.o.alloc _).mono (λ_ _ h=>h.elim)⟩,rfl⟩ ?_;clear hK K;refine aF rfl rfl ?_;intro K hK;refine eO _ (.tmp 24) (.tmp 63) 93 rfl 135 iP (.pointer none) 1 8 underlying93 hiP rX hsP wj rfl (by decide) u3 bs.length (bs.map fF) rfl (HO.o.ag (X8.o.alloc _)).sl ⟨r3.heap.size,0,none⟩ 4 4 [fF b0,fF b1,fF b2,fF b3] rfl rfl (aV _ _ _ _ rfl) (rW [b0,b1,b2,b3]) (by have:=HL.o;unfold maxLen;omega) (by have:=HL.o;omega) ?_;intro vA wA sA mA lA;obtain⟨oA,cA,rfl,_⟩:=Sl.view sA;refine hK _ _ rfl ⟨⟨_,((Y8.o.alloc _).mono (λ_ _ h=>h.elim)).step mA (λ_ _ h=>h)⟩,rfl⟩ ?_;clear hK K;simp only[Act.put,sA9,sB9,sC9]
   iterate 1 (refine aA rfl rfl rfl ?_;intro K hK;go_big_quiet_op;go_big_quiet_on)
   refine bX ?_;have H01:b0<b1:=by have:=iA.o.lt;have:=Sn.o.size;have:=HB1.o;omega
   have H12:b1<b2:=by have:=Cs.o.lt;have:=MB2.o.size;have:=HB2.o;omega
   have H23:b2<b3:=by have:=kE.o.lt;have:=MB3.o.size;have:=HB3.o;omega
   have H0:wr.heap.size<=b0:=by have:=HB0.o;have:=HV0.o.size;omega
   have HG:af (aH w.heap.size wA (.slice oA (bs.length+4) cA) (bs++[b0,b1,b2,b3]) (NU k++[fK (1+k) wd nT,fK (17+k) (w32 wd) nT,fK (33+k) wd qO,fK (49+k) (w32 wd) qO])) :=
    aH.grow [b0,b1,b2,b3] _ HO.o (X8.o.alloc _) rfl (by simp;omega) (by simp;omega) (λi h h'=>by
     have hi:i=0\/i=1\/i=2\/i=3:=by simp at h;omega
     rcases hi with rfl|rfl|rfl|rfl
     ·exact((((((iA.o.ag Sn.o).ag MR1.o).ag MB2.o).ag MR2.o).ag MB3.o).ag MR3.o).ag aj
     ·exact((((Cs.o.ag MB2.o).ag MR2.o).ag MB3.o).ag MR3.o).ag aj
     ·exact((kE.o.ag MB3.o).ag MR3.o).ag aj
     ·exact xX.o.ag aj) sA mA lA HM.o.size
   simp only[Exit.inBlock,Exit.then];have Ct:af (aa ae w wA):=(HM.o.trans (X8.o.alloc _)).step mA (λi hi h=>by have:=HO.o.own i h;omega);have HQ1:af (PartsAt wA (.slice (some ⟨g1,0,none⟩) 3 3) nT):=(qQ.o.ag (X8.o.alloc _)).kp (aa.Eu (HO.o.ag (X8.o.alloc _)).sl mA);have WM:af (PartsAt wA (.slice (some ⟨g2,0,none⟩) 3 3) qO):=(kD.o.ag (X8.o.alloc _)).kp (aa.Eu (HO.o.ag (X8.o.alloc _)).sl mA);have HQ3:af (Gn wA qZ):=(Re.o.ag (X8.o.alloc _)).kp (aa.Eu (HO.o.ag (X8.o.alloc _)).sl mA);rw[<-HST.o]at HG;clear q0 q1 q2 ne1 hA hidx H01 H12 H23 H0;go_wp2_with fail;go_roundw
   case rel=>exact⟨k+1,_,by omega,by go_num,HG.o,HQ1.o,WM.o,Ct.o,HQ3.o⟩
   case measure=>simp[intOf];omega
  ·obtain rfl:k=12:=by omega
   have HO:=ai hO;have HM:af _:=hM;clear hO hM hP1 hP2;go_wp2_with fail;refine(kg _).mono ?_;rintro e w8 ⟨⟨ya,yb,yc,yd,ye,yf⟩,rfl,ok8,m8⟩;have HP8:af (PartsAt (w8.alloc (.cells #[.int .i64 1,.func ya #[] yb,.func (.func yc) #[] yd,.func (.func ye) #[] yf] 205)) (.slice (some ⟨w8.heap.size,0,none⟩) 1 1) [.result]):=PartsAt.new w8 [(.result,⟨ya,yb,yc,yd,ye,yf⟩)] (by simp only[al,ab,or_false];rintro x rfl;exact ok8) _ rfl 1 rfl (by decide);have FV:af (aa ae w (w8.alloc (.cells #[.int .i64 1,.func ya #[] yb,.func (.func yc) #[] yd,.func (.func ye) #[] yf] 205))):=(HM.o.trans m8).alloc _;have HO8:af (aH w.heap.size (w8.alloc (.cells #[.int .i64 1,.func ya #[] yb,.func (.func yc) #[] yd,.func (.func ye) #[] yf] 205)) u3 bs (NU 12)):=HO.o.ag (m8.alloc _);clear ok8 m8 HO HM;simp only[PV.cells,PK.fills];go_wp2_with fail;generalize w8.alloc (.cells #[.int .i64 1,.func ya #[] yb,.func (.func yc) #[] yd,.func (.func ye) #[] yf] 205)=W8 at *;generalize w8.heap.size=g8 at *;have HL:af (bs.length<=100):=by have:=HO8.o.len;rw[LH 12 (by omega)]at this;exact(by omega:bs.length<=100)
   have X0:af (aa ae W8 W8):=ax;refine(Ap _ 11).mono ?_;rintro e p0 ⟨fp0,cp0,rfl,mp0,hp0⟩;have adT:=ai (hp0.1);clear hp0;have X1:=ai (X0.o.trans mp0);have MP0:af _:=mp0;clear mp0;go_wp2_with fail;refine(jF _ _ _ _ _ false adT.o).mono ?_;rintro e v0 ⟨fb0,cb0,rfl,Gr,hd0⟩;have HD0:=ai hd0;clear hd0;have X2:=ai (X1.o.trans Gr);have MB0:af _:=Gr;clear Gr;go_wp2_with fail;refine(jq _ _ 13 rfl _ [110,101,103] rfl _ [.result] _ _ (HP8.o.ag X2.o) (by decide) (by decide) _ rfl HD0.o).mono ?_;rintro e r0 ⟨b0,rfl,hr0,hb0,Gs⟩;have X3:=ai (X2.o.trans Gs);have iA:af _:=hr0;have MR0:af _:=Gs;have HB0:=ai hb0;clear hr0 hb0 Gs;go_wp2_with fail;refine(wW _ 11).mono ?_;rintro e p1 ⟨fp1,cp1,rfl,mp1,hp1⟩;have adU:=ai (hp1);clear hp1;have X4:=ai (X3.o.trans mp1);have MP1:af _:=mp1;clear mp1;go_wp2_with fail;refine(jF _ _ _ _ _ false adU.o).mono ?_;rintro e v1 ⟨fb1,cb1,rfl,Gt,hd1⟩;have HD1:=ai hd1;clear hd1;have X5:=ai (X4.o.trans Gt);have Sn:af _:=Gt;clear Gt;go_wp2_with fail;refine(jq _ _ 29 rfl _ [110,101,103,51,50] rfl _ [.result] _ _ (HP8.o.ag X5.o) (by decide) (by decide) _ rfl HD1.o).mono ?_;rintro e r1 ⟨b1,rfl,hr1,hb1,Gu⟩;have X6:=ai (X5.o.trans Gu);have Cs:af _:=hr1;have MR1:af _:=Gu;have HB1:=ai hb1;clear hr1 hb1 Gu;go_wp2_with (at_builtin;refine aL _ rfl (.tmp 68) (.tmp 77) 93 rfl 135 iP (.pointer none) 1 8 underlying93 hiP rX hsP wj rfl (by decide) u3 bs.length (bs.map fF) rfl (HO8.o.ag (X6.o.alloc _)).sl ⟨r1.heap.size,0,none⟩ 2 2 [fF b0,fF b1] rfl rfl (aV _ _ _ _ rfl) (rW [b0,b1]) (by have:=HL.o;unfold maxLen;omega) (by have:=HL.o;omega) ?_;intro vA wA sA mA lA;obtain⟨oA,cA,rfl,_⟩:=Sl.view sA);have H01:b0<b1:=by have:=iA.o.lt;have:=MP1.o.size;have:=Sn.o.size;have:=HB1.o;omega
   have H0:W8.heap.size<=b0:=by have:=HB0.o;have:=X2.o.size;omega
   have HG:af (aH w.heap.size wA (.slice oA (bs.length+2) cA) (bs++[b0,b1]) (NU 12++[fK 13 [110,101,103] [.result],fK 29 [110,101,103,51,50] [.result]])) :=
    aH.grow [b0,b1] _ HO8.o (X6.o.alloc _) rfl (by simp;omega) (by simp;omega) (λi h h'=>by
     have hi:i=0\/i=1:=by simp at h;omega
     rcases hi with rfl|rfl
     ·exact(((iA.o.ag MP1.o).ag Sn.o).ag MR1.o).ag aj
     ·exact Cs.o.ag aj) sA mA lA FV.o.size
   have Ct:af (aa ae w wA):=(FV.o.trans (X6.o.alloc _)).step mA (λi hi h=>by have:=HO8.o.own i h;omega);clear H01 H0;go_ret;exact⟨_,_,rfl,HG.o,Ct.o⟩
