import Derived.Test.YthnphhgpfedeeaaGreatDoorCF52
import Derived.Lib.Overlaps
import Derived.Deep.DeepAppendWide
import Derived.Lib.LazyBuf
namespace Go.Proofs.YthnphhgpfedeeaaGreatDoor
open Go.RowKit Tryz
open _root_.Array renaming length_toList->ar,toList_append->cw,size_append->cG
open List renaming length_append->ab,length_take->al,take_append_of_le_length->an,length_drop->ao,take_of_length_le->aE,size_toArray->ba,append_assoc->bh,drop_eq_nil_of_le->bO,take_drop->b5,take_zero->b9,mem_of_mem_drop->ca,take_succ_cons->cj,drop_succ_cons->cq,flatMap_append->cx,map_congr_left->cy,take->cD,map_toArray->cH
open Nat renaming zero_add->bj,min_eq_left->bq,le_refl->bt,min->bQ
set_option linter.all false
set_option maxRecDepth 100000
set_option maxHeartbeats 1000000
set_option linter.all false
theorem ajr{ks:List (List Nat×Nat)}{key:List Nat}(h:K8 ks key=true):Cb ks key<ks.length:=by unfold K8 at h;simp at h;exact h.1
theorem ajs{ks:List (List Nat×Nat)}{key:List Nat}(h:K8 ks key=true):K9 ks key=(ks[Cb ks key]'(ajr h)).2:=by unfold K9;rw[List.getD_eq_getElem?_getD,List.getElem?_eq_getElem (ajr h)];rfl
theorem akh{w:tW}{vE:Value}{ks:List (List Nat×Nat)}{rb key:List Nat}(hS:Sl w 148 2 vE ks.length (ks.flatMap (meC rb)))(hf:K8 ks key=true):∃g cap,vE=.slice (some ⟨g,0,none⟩) ks.length cap/\∀w',aa ae w w'->w'.cell? ⟨g,Cb ks key*2+1,none⟩=some (.pointer (some ⟨rb.getD (K9 ks key) 0,0,none⟩)):=by have hlt:=ajr hf;obtain⟨o,cap,rfl,h2⟩:=hS.view;obtain⟨g,cs,rfl,_,_,_⟩:=h2 (by omega);refine⟨g,cap,rfl,λw' m'=>?_⟩;obtain⟨o',cap',hvv,h2⟩:=(hS.ag m' (λ_ _ e=>e)).view;cases hvv;obtain⟨g',cs,hg,hb',ht',_⟩:=h2 (by omega);injection hg with hg;injection hg with hg;subst hg;rw[aW hb' ht' (Cb ks key*2+1) (by omega),ajs hf];exact flat_get (meC rb) 2 (λ_=>rfl) ks (Cb ks key) 1 hlt (by omega)
theorem alS(w:tW)(m:Nat)(nm c1 c2 c3 vE vr:Value)(ks:List (List Nat×Nat))(rb key:List Nat)(hB:ak w m #[nm,c1,c2,c3,vE] 85)(hS:Sl w 148 2 vE ks.length (ks.flatMap (meC rb)))(hl:ks.length<=1000000)(hs:ks.Pairwise (λa b=>ltNs a.1 b.1=true)) (hk:∀e∈ks,∀b∈e.1,b<256) (hy:∀b∈key,b<256) (hR:K8 ks key=true->ak w (rb.getD (K9 ks key) 0) #[vr] 122):Calls prog 335 #[pt m,.string (strOf key)] w λe w'=>e=.returned (.bool (K8 ks key))/\(K8 ks key=false->aa ae w w')/\(K8 ks key=true->∃v' w1 w2,aa ae w w1/\aa (Own vE) (w1.setCell ⟨rb.getD (K9 ks key) 0,0,none⟩ (.slice none 0 0)) w2 /\
   v'.ownBlock=vE.ownBlock/\Sl w2 148 2 v' (ks.take (Cb ks key)++ks.drop (Cb ks key+1)).length ((ks.take (Cb ks key)++ks.drop (Cb ks key+1)).flatMap (meC rb))/\w'=w2.setCell ⟨m,4,none⟩ v'):=by
 have HF:=ai (ajA w m nm c1 c2 c3 vE ks rb key hB hS hl hs hk hy);have hkp:∀(b:Nat) (cs:tAV),ak w b cs 122->b≠m:=λb cs h e=>by subst e;exact absurd (h.ty.one hB.ty) (by decide)
 have hkE:∀b,vE.ownBlock=some b->b≠m:=λb hb e=>by subst e;exact absurd ((hS.ty hb).one hB.ty) (by decide)
 by_cases hf:K8 ks key=true
 ·have hlt:=ajr hf;obtain⟨g,cap,rfl,hc⟩:=akh hS hf;have hr:=hR hf;have HX:af (∀w',aa ae w w'->w'.cell? ⟨m,4,none⟩=some (.slice (some ⟨g,0,none⟩) ks.length cap)):=λw' m'=>(hB.ag m' id).cell 4;have hne:=hkp _ _ hr;have hng:rb.getD (K9 ks key) 0≠g:=λe=>by have:=(hS.ty (k:=g) rfl).one (e ▸ hr.ty);exact absurd this (by decide)
  have HDI:af (∀w',aa ae w w'->Calls prog 293 #[.pointer (some ⟨rb.getD (K9 ks key) 0,0,none⟩)] w' λe w''=>e=.returned (.tuple #[])/\w''=w'.setCell ⟨rb.getD (K9 ks key) 0,0,none⟩ (.slice none 0 0)):=λw' m'=>Yj w' _ vr (hr.ag m' id)
  have HDE:af (∀w',aa ae w w'->Calls prog 361 #[.slice (some ⟨g,0,none⟩) ks.length cap,.int .i64 (Cb ks key),.int .i64 ((Cb ks key:Int)+1)] (w'.setCell ⟨rb.getD (K9 ks key) 0,0,none⟩ (.slice none 0 0)) λe w''=>∃v',e=.returned v'/\v'.ownBlock=(Value.slice (some ⟨g,0,none⟩) ks.length cap).ownBlock/\Sl w'' 148 2 v' (ks.take (Cb ks key)++ks.drop (Cb ks key+1)).length ((ks.take (Cb ks key)++ks.drop (Cb ks key+1)).flatMap (meC rb))/\aa (Own (.slice (some ⟨g,0,none⟩) ks.length cap)) (w'.setCell ⟨rb.getD (K9 ks key) 0,0,none⟩ (.slice none 0 0)) w''):=λw' m' =>
   amw _ _ ks rb (Cb ks key) hlt ((hS.ag m' (λ_ _ e=>e)).ag (S:=Only (rb.getD (K9 ks key) 0)) (ax.aY 0 _) (λb hb e=>by cases hb;exact hng e.symm))
  have HB2:af (∀w',aa ae w w'->ak (w'.setCell ⟨rb.getD (K9 ks key) 0,0,none⟩ (.slice none 0 0)) m #[nm,c1,c2,c3,.slice (some ⟨g,0,none⟩) ks.length cap] 85):=λw' m'=>(hB.ag m' id).setOther (a:=⟨_,0,none⟩) hne _;have HC:=ai hc;have hmg:¬Own (.slice (some ⟨g,0,none⟩) ks.length cap) m:=λe=>hkE m e rfl;clear hc hr hR hB hS hs hk hy hkp hkE;rw[hf];rw[hf]at HF;generalize ks.take (Cb ks key)++ks.drop (Cb ks key+1)=ks' at *;generalize strOf key=sk at *;generalize rb.getD (K9 ks key) 0=G at *;generalize Cb ks key=f at *;go_enter func335,ntmps335;go_wp2_with fail;refine HF.o.mono ?_;rintro e w2 ⟨rfl,m2⟩;have y0:=HX.o w2 m2;have y1:=HC.o w2 m2;have dD:=ai m2;clear m2 HF HC HX;go_wp2_with fail;refine(HDI.o w2 dD.o).mono ?_;rintro e w3 ⟨rfl,rfl⟩;have hb3:=HB2.o w2 dD.o;have x4:=hb3.cell 4;have HB3:=ai hb3;have HD:=ai (HDE.o w2 dD.o);clear y0 y1 HB2 HDI HDE hb3;generalize hW3:w2.setCell ⟨G,0,none⟩ (.slice none 0 0)=W3 at *;have HW3:=ai hW3;clear hW3;go_wp2_with fail;refine HD.o.mono ?_;rintro e w4 ⟨v',rfl,ho,hS',m4⟩;have hb4:=HB3.o.ag m4 hmg;obtain⟨o',cap',hv',_⟩:=hS'.view;subst hv';have z4:=hb4.cell 4;have zf:=hb4.frozen;have HR:af (∃v' w1 wx,aa ae w w1/\aa (Own (.slice (some ⟨g,0,none⟩) ks.length cap)) (w1.setCell ⟨G,0,none⟩ (.slice none 0 0)) wx/\v'.ownBlock=(Value.slice (some ⟨g,0,none⟩) ks.length cap).ownBlock/\Sl wx 148 2 v' ks'.length (ks'.flatMap (meC rb))/\w4.setCell ⟨m,4,none⟩ (.slice o' ks'.length cap')=wx.setCell ⟨m,4,none⟩ v'):=⟨_,w2,w4,dD.o,HW3.o ▸ m4,ho,hS',rfl⟩
  clear hb4 ho hS' m4 HB3 HD HW3 dD x4;go_wp2_with fail;go_ret;exact⟨rfl,⟨λh=>absurd h (by decide),λ_=>HR.o⟩⟩
 ·have hf':K8 ks key=false:=by simpa using hf
  rw[hf'];rw[hf']at HF;clear hB hS hs hk hy hR hkp hkE hf hf';generalize strOf key=sk at *;generalize Cb ks key=f at *;go_enter func335,ntmps335;go_wp2_with fail;refine HF.o.mono ?_;rintro e w2 ⟨rfl,m2⟩;have dD:=ai m2;clear m2 HF;go_wp2_with fail;go_ret;exact⟨rfl,⟨λ_=>dD.o,λh=>absurd h (by decide)⟩⟩
set_option linter.all false
theorem aj5(s:tBA)(G:Nat):∀u∈[Value.string s,.pointer (some ⟨G,0,none⟩)],u.oneCell'=true:=λu hu=>by
 simp only[List.mem_cons,List.not_mem_nil,or_false]at hu;rcases hu with rfl|rfl<;>rfl
theorem alg{w:tW}{vb G:Nat}{s:tBA}(h:ak w vb #[.string s,.pointer (some ⟨G,0,none⟩)] 148)(j:Nat)(u:Value)(hu:[Value.string s,.pointer (some ⟨G,0,none⟩)][j]?=some u):w.cell? ((⟨vb,0,none⟩:Addr).add j)=some u:=by rw[Addr.add_lit,bj,h.cell,<-Array.getElem?_toList];exact hu
theorem amx(w:tW)(v:Value)(n:Nat)(xs:List Value)(vb G:Nat)(s:tBA)(hS:Sl w 148 2 v n xs)(hn:n<=1000)(hv:ak w vb #[.string s,.pointer (some ⟨G,0,none⟩)] 148):Calls prog 360 #[v,.int .i64 n,.slice (some ⟨vb,0,none⟩) 1 1] w λe w'=>∃v',e=.returned v'/\Sl w' 148 2 v' (n+1) (xs++[.string s,.pointer (some ⟨G,0,none⟩)])/\aa (λk=>v.ownBlock=some k) w w'/\(∀k,v'.ownBlock=some k->v.ownBlock=some k\/w.heap.size<=k):=by
 obtain⟨iE,hiE,hzE,hsE,hbE⟩:=info_parts ajK;obtain⟨o,cap,hvv,hh⟩:=hS.view;subst hvv
 have hcap:n<=cap:=by
  rcases hS.2 with⟨h,h0⟩ |⟨g,cap',cur,h,_,_,hn',_⟩
  ·omega
  ·cases h;exact hn'
 have HS:=ai hS;have HV:=ai (alg hv);have hne:((1:Int)==0)=false:=rfl;clear hS hh hv;by_cases hc:cap=n
 ·subst hc;go_enter func360,ntmps360;go_upto_region 7 with fail;go_wp2_with (at_builtin;refine aL _ rfl (.tmp 23) (.tmp 24) 83 rfl 148 iE (.agg #[.string ⟨#[]⟩,.pointer none]) 2 24 underlying83 hiE hzE hsE hbE rfl (by decide) (.slice o cap cap) cap xs rfl HS.o ⟨vb,0,none⟩ 1 1 [.string s,.pointer (some ⟨G,0,none⟩)] rfl rfl HV.o (aj5 s G) (by unfold maxLen;omega) (by omega) (λv' w' h1 h2 h3=>?_));go_ret;exact⟨_,rfl,h1,h2,h3⟩
 ·have hc':¬n=cap:=λe=>hc e.symm;go_enter func360,ntmps360;go_upto_region 7 with fail;go_wp2_with (at_builtin;refine aL _ rfl (.tmp 23) (.tmp 24) 83 rfl 148 iE (.agg #[.string ⟨#[]⟩,.pointer none]) 2 24 underlying83 hiE hzE hsE hbE rfl (by decide) (.slice o n cap) n xs rfl HS.o ⟨vb,0,none⟩ 1 1 [.string s,.pointer (some ⟨G,0,none⟩)] rfl rfl HV.o (aj5 s G) (by unfold maxLen;omega) (by omega) (λv' w' h1 h2 h3=>?_));go_ret;exact⟨_,rfl,h1,h2,h3⟩
theorem alT:(prog.info? 148).map (·.size)=some 2:=by kernel_rfl
theorem E6(w:tW)(ty:TypeId)(g o dLen dCap:Nat)(a:Addr)(sLen sCap:Nat)(cur:tAV)(cs:List Value)(hg:ak w g cur 148)(hn:cs.length=bQ sLen dLen*2)(hsrc:∀j v,cs[j]?=some v->w.cell? (a.add j)=some v) (hfit:o+cs.length<=cur.size) (h1:∀v∈cs,v.oneCell'=true):(Builtin.copy_ #[83,83] ty #[.slice (some ⟨g,o,none⟩) dLen dCap,.slice (some a) sLen sCap]).run prog w = .ok (goInt (bQ sLen dLen)) (w.setRow g (cur.toList.take o++cs++cur.toList.drop (o+cs.length)).toArray):=by
 have hl:=run_loadCells_list (P:=prog) w a cs hsrc;have hst:=run_storeCells_at prog g o 148 cs 0 cur w hg (by simpa using hfit) h1;have hs:=alT;cases hq:prog.info? 148 with
 |none=>rw[hq]at hs;cases hs
 |some i =>
  have hi:i.size=2:=by simpa [hq]using hs
  simp[Builtin.copy_,run_underlying underlying83,Builtin.lenOf,Builtin.firstCells,sizeOf,typeInfo,hq,hi,<-hn,hl,hst]
theorem ajY{P:Program}{w:tW}{ops:Array Oper}{rest:List Oper}{o:Oper}{a:Act}{Q:Exit->Act->tW->Prop}(hgd:o.guard=none)(d s:Operand)(t:TypeId)(ho:o.op=.call {callee:=.builtin .copy,args:=#[d,s],argTypes:=#[t,t]}) (v u v':Value) (w':tW) (hs:a.eval d=v) (hx:a.eval s=u) (hr:(Builtin.copy_ #[t,t] o.type #[v,u]).run P w=.ok v' w')(h:wpList P ops Q rest (a.put o.dst v') w'):wpList P ops Q (o::rest) a w :=
 wpList_plain hgd λ_ hK=>by unfold Oper.wp execOp;simp only[ho,resolve,invoke,builtin,Sem.run_bind,Sem.run_pure,Result.andThen_ok,cH,List.map_cons,List.map_nil,hs,hx,hr];exact hK _ _ h
theorem ak.shape{w:tW}{b:Nat}{cs:tAV}{t:TypeId}(h:ak w b cs t):w.shape? b=some (t,cs.size):=by unfold ak at h;simp[World.shape?,h]
theorem amy(w:tW):(Go.sizeOf 148).run prog w=.ok 2 w:=by obtain⟨i,hi,hz,hs,hb⟩:=info_parts ajK;simp[Go.sizeOf,typeInfo,hi,hs]
theorem amZ(w:tW)(vb g i lb cb:Nat)(cv cur:tAV)(hv:ak w vb cv 148)(hg:ak w g cur 148)(hne:vb≠g)(h0:cur.size≠0):(callFunc 374 #[.slice (some ⟨vb,0,none⟩) 1 1,.slice (some ⟨g,i,none⟩) lb cb]).run prog w=.ok (.value (.bool false)) w:=by
 rw[run_callFunc_extern func374 (by kernel_rfl) (by kernel_rfl) (by kernel_rfl) (e:=Extern.SlicesOverlaps.overlaps #[83,83] #[4]) (by kernel_rfl),
  Lib.run_overlaps_apart w 83 4 148 underlying83 2 amy ⟨vb,0,none⟩ ⟨g,i,none⟩ 1 1 lb cb hne _ _ _ _ hv.shape hg.shape h0 (hv.frozen _) (hv.frozen _)]
 rfl
theorem alU(w:tW)(g n cap i vb G:Nat)(s:tBA)(cur R1 R2:tAV)(hg:ak w g cur 148)(hi:i<n)(hn:n+1<=cap)(hm:cap<=maxLen)(hs:(n+1)*2<=cur.size)(h1:∀u∈cur.toList.take (n*2),u.oneCell'=true)(hv:ak w vb #[.string s,.pointer (some ⟨G,0,none⟩)] 148) (hne:vb≠g)(hR1:(cur.toList.take ((i+1)*2)++(cur.toList.drop (i*2)).take ((n-i)*2)++cur.toList.drop ((i+1)*2+((cur.toList.drop (i*2)).take ((n-i)*2)).length)).toArray=R1)(hR2:(R1.toList.take (i*2)++[Value.string s,.pointer (some ⟨G,0,none⟩)]++R1.toList.drop (i*2+2)).toArray=R2):Calls prog 360 #[.slice (some ⟨g,0,none⟩) n cap,.int .i64 i,.slice (some ⟨vb,0,none⟩) 1 1] w λe w'=>e=.returned (.slice (some ⟨g,0,none⟩) (n+1) cap)/\ak w' g R2 148/\aa (Only g) w w':=by
 have hmx:cap<=9223372036854775807:=hm;have hl:((cur.toList.drop (i*2)).take ((n-i)*2)).length=(n-i)*2:=by rw[al,ao,ar];omega
 have hmin:bQ (n+1-i) (n+1-(i+1))=n-i:=by show min (n+1-i) (n+1-(i+1))=n-i;omega
 have hz1:R1.size=cur.size:=by rw[<-hR1];simp only[ba,ab,hl,al,ao,ar];omega
 have GM:af (∀w',aa ae w w'->∀ty c1 c2,(Builtin.copy_ #[83,83] ty #[.slice (some ⟨g,(i+1)*2,none⟩) (n-i) c1,.slice (some ⟨g,i*2,none⟩) (n+1-i) c2]).run prog w'=.ok (goInt ((n-i:Nat):Int)) (w'.setRow g R1)):=λw' m ty c1 c2=>by
  have:=E6 w' ty g ((i+1)*2) (n+1-(i+1)) c1 ⟨g,i*2,none⟩ (n+1-i) c2 cur ((cur.toList.drop (i*2)).take ((n-i)*2)) (hg.ag m id) (by rw[hl,hmin]) (λk u hu=>by
   rw[Addr.add_lit,(hg.ag m id).cell,<-Array.getElem?_toList];rw[List.getElem?_take]at hu;split at hu
   ·rw[List.getElem?_drop]at hu;exact hu
   ·cases hu) (by rw[hl];omega) (λu hu=>h1 u (by
    rw[b5]at hu;have e:i*2+(n-i)*2=n*2:=by omega
    rw[e]at hu;exact ca hu))
  rw[hR1,hmin,Nat.add_sub_add_right]at this;exact this
 have HC2:af (∀w' w'',aa ae w w'->aa ae (w'.setRow g R1) w''->∀ty c1,(Builtin.copy_ #[83,83] ty #[.slice (some ⟨g,i*2,none⟩) (n+1-i) c1,.slice (some ⟨vb,0,none⟩) 1 1]).run prog w''=.ok (goInt 1) (w''.setRow g R2)):=λw' w'' m m2 ty c1=>by
  have akS:bQ 1 (n+1-i)=1:=by show min 1 (n+1-i)=1;omega
  have hb:=((hg.ag m id).setRow R1).ag m2 id;have hbv:=((hv.ag m id).ajU hne R1).ag m2 id;have:=E6 w'' ty g (i*2) (n+1-i) c1 ⟨vb,0,none⟩ 1 1 R1 [.string s,.pointer (some ⟨G,0,none⟩)] hb (by rw[akS];rfl) (alg hbv) (by show i*2+2<=R1.size;omega) (aj5 s G);rw[akS]at this;exact hR2 ▸ this
 have HOV:af (∀w',aa ae w w'->∀lb cb,(callFunc 374 #[.slice (some ⟨vb,0,none⟩) 1 1,.slice (some ⟨g,(i+1)*2,none⟩) lb cb]).run prog w'=.ok (.value (.bool false)) w'):=λw' m lb cb=>amZ w' vb g ((i+1)*2) lb cb _ cur (hv.ag m id) (hg.ag m id) hne (by omega);have HBL:af (∀w' w'',aa ae w w'->aa ae (w'.setRow g R1) w''->ak (w''.setRow g R2) g R2 148):=λw' w'' m m2=>(((hg.ag m id).setRow R1).ag m2 id).setRow R2;have hz2:¬((i:Int)=(n:Int)):=by omega
 have hc1:¬cap=i+1:=by omega
 have hc2:¬cap=i:=by omega
 have hgt:¬((cap:Int)<(n:Int)+1):=by omega
 have hov:=HOV.o w ax;clear hm hl hmin hz1 hg hv hR1 hR2 h1 hs HOV;go_enter func360,ntmps360;go_upto_region 15 with(simp only[hov])
 refine bJ 8 (by kernel_rfl) (by kernel_rfl) ?_;intro W hW;simp only[cj,b9,cq,List.drop_zero]
 repeat(go_big_quiet_step (fail))
 refine wpQuiet_nil ?_;have HM:af (aa ae w W):=by rw[hW];exact aJ
 clear hW hov;refine ajY rfl (.tmp 73) (.tmp 76) 83 rfl (.slice (some ⟨g,(i+1)*2,none⟩) (n-i) (cap-(i+1))) (.slice (some ⟨g,i*2,none⟩) (n+1-i) (cap-i)) _ _ rfl rfl (GM.o W HM.o _ _ _) ?_;have HMm:af (aa (Only g) w (W.setRow g R1)):=aa.setRow (S:=Only g) (HM.o.mono (λ_ _ h=>h.elim)) (.inl rfl) R1;have HC:=ai (λw'' m2=>HC2.o W w'' HM.o m2);have HB:=ai (λw'' m2=>HBL.o W w'' HM.o m2);clear GM HC2 HBL HM;generalize W.setRow g R1=W1 at *;simp only[Act.put,sA9,sB9,sC9];have hcp:=HC.o W1 ax;have HE:af (ak (W1.setRow g R2) g R2 148/\aa (Only g) w (W1.setRow g R2)):=⟨HB.o W1 ax,aa.setRow (S:=Only g) HMm.o (.inl rfl) R2⟩
 clear HC HB HMm;go_wp2_with fail;go_ret;exact⟨rfl,HE.o⟩
set_option linter.all false
theorem akT{P:Program}{w:tW}{ops:Array Oper}{rest:List Oper}{o:Oper}{a:Act}{Q:Exit->Act->tW->Prop}(hgd:o.guard=none)(s x:Operand)(t t':TypeId)(ho:o.op=.call {callee:=.builtin .append,args:=#[s,x],argTypes:=#[t,t']}) (v u v':Value) (w':tW) (hs:a.eval s=v) (hx:a.eval x=u) (hr:(Builtin.append_ #[t,t'] o.type #[v,u]).run P w=.ok v' w')(h:wpList P ops Q rest (a.put o.dst v') w'):wpList P ops Q (o::rest) a w :=
 wpList_plain hgd λ_ hK=>by unfold Oper.wp execOp;simp only[ho,resolve,invoke,builtin,Sem.run_bind,Sem.run_pure,Result.andThen_ok,cH,List.map_cons,List.map_nil,hs,hx,hr];exact hK _ _ h
theorem alV(w:tW)(g n i vb G:Nat)(s:tBA)(cur:tAV)(hg:ak w g cur 148)(hi:i<n)(hn:n<=1000)(hs:n*2<=cur.size)(h1:∀u∈cur.toList.take (n*2),u.oneCell'=true)(hv:ak w vb #[.string s,.pointer (some ⟨G,0,none⟩)] 148):Calls prog 360 #[.slice (some ⟨g,0,none⟩) n n,.int .i64 i,.slice (some ⟨vb,0,none⟩) 1 1] w λe w'=>∃GC R2,e=.returned (.slice (some ⟨w.heap.size,0,none⟩) (n+1) GC)/\ak w' w.heap.size R2 148/\n+1<=GC/\GC<=maxLen/\R2.size=GC*2 /\ R2.toList.take ((n+1)*2)=cur.toList.take (i*2)++[.string s,.pointer (some ⟨G,0,none⟩)]++(cur.toList.drop (i*2)).take ((n-i)*2)/\aa ae w w':=by
 obtain⟨iE,hiE,hzE,hsE,hbE⟩:=info_parts ajK;have hln:n+1<=maxLen:=by unfold maxLen;omega
 have aom:n+1<=grownCap w (n+1) n 148:=grownCap_ge _ _ _ _;have anF:grownCap w (n+1) n 148<=maxLen:=grownCap_le_maxLen _ _ _ _ hln;have hlo:(cur.toList.take (i*2)).length=i*2:=by rw[al,ar];omega
 have hold:(Builtin.firstCells iE.size i (.slice (some ⟨g,0,none⟩) i n)).run prog w.drew=.ok (cur.toList.take (i*2)).toArray w.drew:=by
  refine run_firstCells_some w.drew iE.size i ⟨g,0,none⟩ i n (cur.toList.take (i*2)) (by rw[hlo,hsE]) (λj u hu=>?_);rw[Addr.add_lit,bj,(hg.ag (aa.refl ae w).drew id).cell,<-Array.getElem?_toList];rw[List.getElem?_take]at hu;split at hu
  ·exact hu
  ·cases hu
 have hap:=λty=>Lib.run_append_grow_zeros (P:=prog) w 83 3 ty 148 iE _ .i64 .i64 underlying83 underlying3 hiE hzE (some ⟨g,0,none⟩) i n (cur.toList.take (i*2)) hold (n+1-i) (by omega) (by omega) (by omega) (by omega) (by rw[hbE];omega) (by rw[hbE];exact growslice_fits_wide (by omega) (by omega));have hik:i+(n+1-i)=n+1:=by omega
 rw[hik]at hap;have hki:((n+1-i:Nat):Int)=(n:Int)+1-(i:Int):=by omega
 rw[hki]at hap;clear hki hik hold;generalize grownCap w (n+1) n 148=GC at *;obtain⟨ROW,hROW⟩:∃ROW,ROW=(cur.toList.take (i*2)).toArray++Builtin.zeroCells (Value.agg #[.string ⟨#[]⟩,.pointer none]).cells (n+1-i)++Builtin.zeroCells (Value.agg #[.string ⟨#[]⟩,.pointer none]).cells (GC-(n+1)):=⟨_,rfl⟩
 rw[<-hROW]at hap
 have hzR:ROW.size=GC*2:=by
  rw[hROW,cG,cG,ba,hlo,size_zeroCells,size_zeroCells];show i*2+(n+1-i)*2+(GC-(n+1))*2=GC*2
  omega
 have htR:ROW.toList.take (i*2)=cur.toList.take (i*2):=by rw[hROW,cw,cw,bh,an (by show i*2<=(cur.toList.take (i*2)).length;omega)];exact aE (by show(cur.toList.take (i*2)).length<=i*2;omega)
 clear hROW;obtain⟨R1,hR1⟩:∃R1,R1=(ROW.toList.take (i*2)++[Value.string s,.pointer (some ⟨G,0,none⟩)]++ROW.toList.drop (i*2+2)).toArray:=⟨_,rfl⟩
 have hz1:R1.size=GC*2:=by
  rw[hR1,ba,ab,ab,al,ao,ar];show min (i*2) ROW.size+2+(ROW.size-(i*2+2))=GC*2
  omega
 have ht1:R1.toList.take ((i+1)*2)=cur.toList.take (i*2)++[.string s,.pointer (some ⟨G,0,none⟩)]:=by
  rw[hR1,htR];show cD ((i+1)*2) (cur.toList.take (i*2)++[Value.string s,.pointer (some ⟨G,0,none⟩)]++ROW.toList.drop (i*2+2))=_
  rw[an (by rw[ab,hlo];show(i+1)*2<=i*2+2;omega),aE (by rw[ab,hlo];show i*2+2<=(i+1)*2;omega)]
 have hl:((cur.toList.drop (i*2)).take ((n-i)*2)).length=(n-i)*2:=by rw[al,ao,ar];omega
 obtain⟨R2,hR2⟩:∃R2,R2=(R1.toList.take ((i+1)*2)++(cur.toList.drop (i*2)).take ((n-i)*2)++R1.toList.drop ((i+1)*2+((cur.toList.drop (i*2)).take ((n-i)*2)).length)).toArray:=⟨_,rfl⟩
 have HZ2:af (R2.size=GC*2):=by unfold af;rw[hR2,ba,ab,ab,hl,al,ao,ar];omega
 have HT2:af (R2.toList.take ((n+1)*2)=cur.toList.take (i*2)++[.string s,.pointer (some ⟨G,0,none⟩)]++(cur.toList.drop (i*2)).take ((n-i)*2)):=by
  unfold af;rw[hR2,ht1];show cD ((n+1)*2) (cur.toList.take (i*2)++[Value.string s,.pointer (some ⟨G,0,none⟩)]++(cur.toList.drop (i*2)).take ((n-i)*2)++_)=_
  have e:(cur.toList.take (i*2)++[Value.string s,.pointer (some ⟨G,0,none⟩)]++(cur.toList.drop (i*2)).take ((n-i)*2)).length=(n+1)*2:=by
   rw[ab,ab,hlo,hl];show i*2+2+(n-i)*2=(n+1)*2
   omega
  rw[an (by omega),aE (by omega)]
 have hgw:=hg.lt;have hvw:=hv.lt;have dh:af (aa ae w (w.drew.alloc (.cells ROW 148))):=(aa.refl ae w).drew.alloc _;have hB1:ak (w.drew.alloc (.cells ROW 148)) w.heap.size ROW 148:=ak.new w.drew ROW 148;have hg1:=hg.ag dh.o id;have hv1:=hv.ag dh.o id
 have GM:af (∀w',aa ae (w.drew.alloc (.cells ROW 148)) w'->∀ty c,(Builtin.copy_ #[83,83] ty #[.slice (some ⟨w.heap.size,i*2,none⟩) (n+1-i) c,.slice (some ⟨vb,0,none⟩) 1 1]).run prog w'=.ok (goInt 1) (w'.setRow w.heap.size R1)):=λw' m ty c=>by
  have akS:bQ 1 (n+1-i)=1:=by show min 1 (n+1-i)=1;omega
  have:=E6 w' ty w.heap.size (i*2) (n+1-i) c ⟨vb,0,none⟩ 1 1 ROW [.string s,.pointer (some ⟨G,0,none⟩)] (hB1.ag m id) (by rw[akS];rfl) (alg (hv1.ag m id)) (by show i*2+2<=ROW.size;omega) (aj5 s G);rw[akS]at this;exact hR1.symm ▸ this
 have HC2:af (∀w' w'',aa ae (w.drew.alloc (.cells ROW 148)) w'->aa ae (w'.setRow w.heap.size R1) w''->∀ty c1 c2,(Builtin.copy_ #[83,83] ty #[.slice (some ⟨w.heap.size,(i+1)*2,none⟩) (n-i) c1,.slice (some ⟨g,i*2,none⟩) (n-i) c2]).run prog w''=.ok (goInt ((n-i:Nat):Int)) (w''.setRow w.heap.size R2)):=λw' w'' m m2 ty c1 c2=>by
  have hb:=((hB1.ag m id).setRow R1).ag m2 id;have hbg:=((hg1.ag m id).ajU (Nat.ne_of_lt hgw) R1).ag m2 id;have hmin:bQ (n-i) (n-i)=n-i:=Nat.min_self _
  have:=E6 w'' ty w.heap.size ((i+1)*2) (n-i) c1 ⟨g,i*2,none⟩ (n-i) c2 R1 ((cur.toList.drop (i*2)).take ((n-i)*2)) hb (by rw[hl,hmin]) (λk u hu=>by
   rw[Addr.add_lit,hbg.cell,<-Array.getElem?_toList];rw[List.getElem?_take]at hu;split at hu
   ·rw[List.getElem?_drop]at hu;exact hu
   ·cases hu) (by rw[hl];omega) (λu hu=>h1 u (by
    rw[b5]at hu;have e:i*2+(n-i)*2=n*2:=by omega
    rw[e]at hu;exact ca hu))
  rw[hmin]at this;exact hR2.symm ▸ this
 have HBL:af (∀w' w'',aa ae (w.drew.alloc (.cells ROW 148)) w'->aa ae (w'.setRow w.heap.size R1) w''->ak (w''.setRow w.heap.size R2) w.heap.size R2 148/\aa ae w (w''.setRow w.heap.size R2)):=λw' w'' m m2=>⟨(((hB1.ag m id).setRow R1).ag m2 id).setRow R2,aa.setRow ((aa.setRow (dh.o.trans m) (.inr (bt _)) R1).trans m2) (.inr (bt _)) R2⟩
 have hz2:¬((i:Int)=(n:Int)):=by omega
 have hc1:¬GC=i+1:=by omega
 have hc2:¬GC=i:=by omega
 have hc3:¬n=i:=by omega
 have hmG:GC<=9223372036854775807:=anF;have HG:=ai anF;clear hR1 hR2 ht1 hz1 hl htR hzR hg hv hg1 hv1 hB1 h1 hs hlo hln hiE hzE hsE hbE anF dh;generalize w.drew.alloc (.cells ROW 148)=W1 at *;generalize w.heap.size=H at *;have HAP:=ai hap;clear hap;go_enter func360,ntmps360;go_upto_region 10 with(at_builtin;refine akT rfl (.tmp 34) (.tmp 39) 83 3 rfl (.slice (some ⟨g,0,none⟩) i n) (.int .i64 ((n:Int)+1-(i:Int))) _ _ rfl rfl (HAP.o _) ?_)
 have hcp1:=GM.o W1 ax;go_upto_region 11 with fail;refine bJ 8 (by kernel_rfl) (by kernel_rfl) ?_;intro W hW;simp only[cj,b9,cq,List.drop_zero]
 repeat(go_big_quiet_step (fail))
 refine wpQuiet_nil ?_;have HM:af (aa ae (W1.setRow H R1) W):=by rw[hW];exact aJ
 clear hW hcp1;refine ajY rfl (.tmp 50) (.tmp 53) 83 rfl (.slice (some ⟨H,(i+1)*2,none⟩) (n-i) (GC-(i+1))) (.slice (some ⟨g,i*2,none⟩) (n-i) (n-i)) _ _ rfl rfl (HC2.o W1 W ax HM.o _ _ _) ?_;have HE:=ai (HBL.o W1 W ax HM.o);clear GM HC2 HBL HM;generalize W.setRow H R2=W2 at *;simp only[Act.put,sA9,sB9,sC9];go_wp2_with fail;go_ret;exact⟨GC,R2,rfl,HE.o.1,aom,HG.o,HZ2.o,HT2.o,HE.o.2⟩
theorem akU(rb:List Nat)(xs:List (List Nat×Nat))(i:Nat)(e:List Nat×Nat)(cur:List Value)(n:Nat)(hn:n=xs.length)(hi:i<=n)(ht:cur.take (n*2)=xs.flatMap (meC rb)):cur.take (i*2)++meC rb e++(cur.drop (i*2)).take ((n-i)*2)=(xs.take i++e::xs.drop i).flatMap (meC rb):=by
 rw[cx,List.flatMap_cons,<-ajP (meC rb) 2 (λ_=>rfl),<-ajQ (meC rb) 2 (λ_=>rfl),<-ht,List.take_take,bq (by omega),b5,bh];have e2:i*2+(n-i)*2=n*2:=by omega
 rw[e2]
theorem amz(w:tW)(v:Value)(xs:List (List Nat×Nat))(rb key:List Nat)(i q vb:Nat)(hi:i<=xs.length)(hl:xs.length<=1000)(hS:Sl w 148 2 v xs.length (xs.flatMap (meC rb)))(hv:ak w vb #[.string (strOf key),.pointer (some ⟨rb.getD q 0,0,none⟩)] 148)(hne:¬Own v vb):Calls prog 360 #[v,.int .i64 i,.slice (some ⟨vb,0,none⟩) 1 1] w λe w'=>∃v',e=.returned v'/\Sl w' 148 2 v' (xs.length+1) ((xs.take i++(key,q)::xs.drop i).flatMap (meC rb))/\aa (Own v) w w'/\(∀k,v'.ownBlock=some k->v.ownBlock=some k\/w.heap.size<=k):=by
 have hfl:((xs.take i++(key,q)::xs.drop i).flatMap (meC rb)).length=(xs.length+1)*2:=by rw[ajO (meC rb) 2 (λ_=>rfl),ab,List.length_cons,al,ao];omega
 by_cases hin:i=xs.length
 ·subst hin;refine(amx w v xs.length _ vb (rb.getD q 0) (strOf key) hS hl hv).mono ?_;rintro e w' ⟨v',rfl,h1,h2,h3⟩;refine⟨v',rfl,?_,h2,h3⟩;rw[List.take_length,List.drop_length,cx];exact h1
 ·rcases hS.2 with⟨_,h0⟩ |⟨g,cap,cur,rfl,hb,hg,hn,hm,hs,ht⟩
  ·omega
  have hB:ak w g cur 148:=hg;have hcz:cur.toList.length=cur.size:=ar;have h1:∀u∈cur.toList.take (xs.length*2),u.oneCell'=true:=λu hu=>alz rb xs u (ht ▸ hu);by_cases hc:cap=xs.length
  ·subst hc;refine(alV w g xs.length i vb (rb.getD q 0) (strOf key) cur hB (by omega) hl (by omega) h1 hv).mono ?_;rintro e w' ⟨GC,R2,rfl,hB2,g1,g2,hz,ht2,m2⟩;refine⟨_,rfl,⟨hfl,.inr ⟨w.heap.size,GC,R2,rfl,Nat.zero_le _,hB2,g1,g2,hz,?_⟩⟩,m2.mono (λ_ _ h=>h.elim),λk hk=>by cases hk;exact .inr (bt _)⟩;rw[ht2];exact akU rb xs i (key,q) cur.toList xs.length rfl hi ht
  ·refine(alU w g xs.length cap i vb (rb.getD q 0) (strOf key) cur _ _ hB (by omega) (by omega) hm (by omega) h1 hv (λe=>hne (by rw[e];rfl)) rfl rfl).mono ?_;rintro e w' ⟨rfl,hB2,m2⟩;have hl1:(cur.toList.take ((i+1)*2)).length=(i+1)*2:=by rw[al,hcz];omega
   have hl2:((cur.toList.drop (i*2)).take ((xs.length-i)*2)).length=(xs.length-i)*2:=by rw[al,ao,hcz];omega
   refine⟨_,rfl,⟨hfl,.inr ⟨g,cap,_,rfl,hb,hB2,by omega,hm,?_,?_⟩⟩,m2.mono (λk _ h=>by cases(show k=g from h);rfl),λk hk=>by cases hk;exact .inl rfl⟩
   ·have hR1:(cur.toList.take ((i+1)*2)++(cur.toList.drop (i*2)).take ((xs.length-i)*2)++cur.toList.drop ((i+1)*2+((cur.toList.drop (i*2)).take ((xs.length-i)*2)).length)).length=cur.size:=by rw[ab,ab,hl1,ao,hl2,hcz];omega
    show(cD (i*2) _++[_,_]++List.drop (i*2+2) _).length=cap*2
    rw[ab,ab,al,ao,hR1];show min (i*2) cur.size+2+(cur.size-(i*2+2))=cap*2
    omega
   ·rw[<-akU rb xs i (key,q) cur.toList xs.length rfl hi ht];have e0:(cur.toList.take ((i+1)*2)++(cur.toList.drop (i*2)).take ((xs.length-i)*2)++cur.toList.drop ((i+1)*2+((cur.toList.drop (i*2)).take ((xs.length-i)*2)).length)).toArray.toList=cur.toList.take ((i+1)*2)++(cur.toList.drop (i*2)).take ((xs.length-i)*2)++cur.toList.drop ((i+1)*2+((cur.toList.drop (i*2)).take ((xs.length-i)*2)).length):=rfl;rw[e0];generalize hD:(cur.toList.drop (i*2)).take ((xs.length-i)*2)=D at *;generalize hE:cur.toList.drop ((i+1)*2+D.length)=E at *;have e1:(cur.toList.take ((i+1)*2)++D++E).take (i*2)=cur.toList.take (i*2):=by rw[bh,an (by omega),List.take_take,bq (by omega)]
    have e2:(cur.toList.take ((i+1)*2)++D++E).drop (i*2+2)=D++E:=by
     rw[bh,List.drop_append,bO (by omega),List.nil_append];have:i*2+2-(cur.toList.take ((i+1)*2)).length=0:=by omega
     rw[this];rfl
    rw[e1,e2];show cD ((xs.length+1)*2) (cur.toList.take (i*2)++meC rb (key,q)++(D++E))=_
    have hl0:(cur.toList.take (i*2)).length=i*2:=by rw[al,hcz];omega
    have e3:(cur.toList.take (i*2)++meC rb (key,q)++D).length=(xs.length+1)*2:=by
     rw[ab,ab,hl0,hl2];show i*2+2+(xs.length-i)*2=(xs.length+1)*2
     omega
    rw[<-bh,an (by omega),aE (by omega)]
set_option linter.all false
theorem amA{α:Type}(l:List α)(k:Nat)(v:α)(rest:List α)(hk:k+(rest.length+1)<=l.length):(l.set k v).take (k+1)++rest++(l.set k v).drop (k+1+rest.length)=l.take k++(v::rest)++l.drop (k+(rest.length+1)):=by
 have h1:(l.set k v).take (k+1)=l.take k++[v]:=by
  apply List.ext_getElem?;intro i;rw[List.getElem?_take,List.getElem?_append,List.getElem?_take];simp only[al];rw[bq (by omega)];by_cases h:i<k
  ·rw[iP9 (by omega),iP9 h,iP9 h,List.getElem?_set_ne (by omega)]
  ·by_cases h2:i=k
   ·subst h2;rw[iP9 (by omega),iN9 h,List.getElem?_set_self (by omega),Nat.sub_self];rfl
   ·rw[iN9 (by omega),iN9 h];obtain⟨d,hd⟩:∃d,i-k=d+1:=⟨i-k-1,by omega⟩
    rw[hd];rfl
 rw[h1,List.drop_set_of_lt (by omega)];simp[Nat.add_assoc,Nat.add_comm,Nat.add_left_comm]
theorem pH.over{g n cap:Nat}:∀(vl:List Nat) (w:tW) (k:Nat) (l:List Nat),pH w (.slice (some ⟨g,0,none⟩) n cap) n l->k+vl.length<=n->pH (w.setCells g k (BX vl)) (.slice (some ⟨g,0,none⟩) n cap) n (l.take k++vl++l.drop (k+vl.length))/\aa (Only g) w (w.setCells g k (BX vl))
 |[],w,k,l,h,_=>by refine⟨?_,ax⟩;simp only[List.append_nil,List.length_nil,Nat.add_zero,List.take_append_drop];exact h
 |b::r,w,k,l,h,hk=>by have ih:=pH.over r (w.setCell ⟨g,k,none⟩ (.int .u8 b)) (k+1) (l.set k b) (h.set k b) (by simp at hk;omega);have hl:=h.1;rw[amA l k b r (by simp at hk;omega)]at ih;exact⟨ih.1,(ax.aY _ _).trans ih.2⟩
theorem pH.all{w:tW}{g n cap:Nat}{l vl:List Nat}(h:pH w (.slice (some ⟨g,0,none⟩) n cap) n l)(hv:vl.length=n):pH (w.setCells g 0 (BX vl)) (.slice (some ⟨g,0,none⟩) n cap) n vl/\aa (Only g) w (w.setCells g 0 (BX vl)):=by have:=pH.over vl w 0 l h (by omega);rw[b9,List.nil_append,bj,bO (by rw[h.1,hv];exact bt _),List.append_nil]at this;exact this
theorem alh(l:List Nat)(h:∀b∈l,b<256):(strOf l).data.toList.map (λx=>Value.int .u8 (x.toNat:Int))=BX l:=by
 show((l.map UInt8.ofNat).toArray.toList).map _=_
 rw[List.map_map];unfold BX;refine cy (λb hb=>?_);show Value.int .u8 ((UInt8.ofNat b).toNat:Int)=_
 rw[UInt8.toNat_ofNat',Nat.mod_eq_of_lt (h b hb)]
theorem afq(l:List Nat):(strOf l).size=l.length:=by
 show(l.map UInt8.ofNat).toArray.size=_
 rw[ba,List.length_map]
theorem am6(w:tW):(Go.sizeOf 5).run prog w=.ok 1 w:=by obtain⟨i,hi,hz,hs,hb⟩:=info_parts (show(prog.info? 5).map (λi=>(i.zero,i.size,i.bytes))=some (some (.int .u8 0),1,1) by kernel_rfl);simp[Go.sizeOf,typeInfo,hi,hs]
theorem akC(w:tW)(ty:TypeId)(g n cap:Nat)(l vl:List Nat)(h:pH w (.slice (some ⟨g,0,none⟩) n cap) n l)(hv:vl.length=n)(hb:∀b∈vl,b<256):(Builtin.copy_ #[30,9] ty #[.slice (some ⟨g,0,none⟩) n cap,.string (strOf vl)]).run prog w=.ok (goInt (n:Int)) (w.setCells g 0 (BX vl)):=by have:=run_copy_string (P:=prog) w 30 9 ty 5 g 0 n cap (strOf vl) underlying30 am6 (by rw[afq];omega) (λj hj=>by rw[bj,(h.cell j (by rw[afq]at hj;omega)).1];rfl) (λj hj=>by rw[bj];exact(h.cell j (by rw[afq]at hj;omega)).2);rw[alh vl hb,afq,hv]at this;exact this
theorem alW(w:tW)(m:Nat)(nm c1 c2 c3 vE:Value)(ks:List (List Nat×Nat))(rb key val l:List Nat)(gb cap:Nat)(hB:ak w m #[nm,c1,c2,c3,vE] 85)(hS:Sl w 148 2 vE ks.length (ks.flatMap (meC rb)))(hl:ks.length<=1000000)(hs:ks.Pairwise (λa b=>ltNs a.1 b.1=true)) (hk:∀e∈ks,∀b∈e.1,b<256) (hy:∀b∈key,b<256) (hf:K8 ks key=true) (hR:ak w (rb.getD (K9 ks key) 0) #[.slice (some ⟨gb,0,none⟩) val.length cap] 122) (hy2:pH w (.slice (some ⟨gb,0,none⟩) val.length cap) val.length l) (hv:∀b∈val,b<256):Calls prog 334 #[pt m,.string (strOf key),.string (strOf val)] w λe w'=>e=.returned (.bool true)/\∃w1,aa ae w w1/\w'=w1.setCells gb 0 (BX val):=by
 have HF:=ai (ajA w m nm c1 c2 c3 vE ks rb key hB hS hl hs hk hy);have hlt:=ajr hf;obtain⟨g,cp,rfl,hc⟩:=akh hS hf;have HX:af (∀w',aa ae w w'->w'.cell? ⟨m,4,none⟩=some (.slice (some ⟨g,0,none⟩) ks.length cp)/\w'.cell? ⟨g,Cb ks key*2+1,none⟩=some (.pointer (some ⟨rb.getD (K9 ks key) 0,0,none⟩))/\w'.cell? ⟨rb.getD (K9 ks key) 0,0,none⟩=some (.slice (some ⟨gb,0,none⟩) val.length cap)):=λw' m'=>⟨(hB.ag m' id).cell 4,hc w' m',(hR.ag m' id).cell 0⟩
 have HC:af (∀w',aa ae w w'->∀ty,(Builtin.copy_ #[30,9] ty #[.slice (some ⟨gb,0,none⟩) val.length cap,.string (strOf val)]).run prog w'=.ok (goInt (val.length:Int)) (w'.setCells gb 0 (BX val))):=λw' m' ty=>akC w' ty gb val.length cap l val (hy2.ag m' (λ_ _=>id)) rfl hv;rw[hf]at HF;clear hc hR hB hS hs hk hy hy2 hv;generalize strOf val=sv at *;generalize strOf key=sk at *;generalize rb.getD (K9 ks key) 0=G at *;generalize Cb ks key=f at *;generalize BX val=bv at *;generalize val.length=nv at *;go_enter func334,ntmps334;go_wp2_with fail;refine HF.o.mono ?_;rintro e w2 ⟨rfl,m2⟩;obtain⟨y0,y1,y2⟩:=HX.o w2 m2;have hcp:=HC.o w2 m2;have dD:=ai m2;clear m2 HF HC HX;go_wp2_with fail;go_ret;exact⟨rfl,w2,dD.o,rfl⟩
set_option linter.all false
theorem ali(l:List Nat)(h:∀b∈l,b<256):ic (strOf l)=l:=by
 show((l.map UInt8.ofNat).toArray.toList).map (·.toNat)=l
 rw[List.map_map]
 conv=>rhs;rw[<-List.map_id l]
 refine cy (λb hb=>?_);show(UInt8.ofNat b).toNat=b
 rw[UInt8.toNat_ofNat',Nat.mod_eq_of_lt (h b hb)]
theorem amB(w:tW)(m:Nat)(nm c1 c2 vE:Value)(most:Nat)(ks:List (List Nat×Nat))(rb key val:List Nat)(hB:ak w m #[nm,c1,c2,.int .i64 most,vE] 85)(hS:Sl w 148 2 vE ks.length (ks.flatMap (meC rb)))(hl:ks.length<=1000)(hs:ks.Pairwise (λa b=>ltNs a.1 b.1=true)) (hk:∀e∈ks,∀b∈e.1,b<256) (hy:∀b∈key,b<256) (hf:K8 ks key=false) (hin:∀e∈ks,e.2<rb.length) (hv:∀b∈val,b<256) (hvl:val.length<=1000):Calls prog 334 #[pt m,.string (strOf key),.string (strOf val)] w λe w'=>e=.returned (.bool (decide (ks.length≠most)))/\(ks.length=most->aa ae w w')/\(ks.length≠most->∃R gb cp v' w2,w.heap.size<=R/\w.heap.size<=gb/\ak w2 R #[.slice (some ⟨gb,0,none⟩) val.length cp] 122 /\
   pH w2 (.slice (some ⟨gb,0,none⟩) val.length cp) val.length val/\Sl w2 148 2 v' (ks.length+1) ((ks.take (Cb ks key)++(key,rb.length)::ks.drop (Cb ks key)).flatMap (meC (rb++[R])))/\aa (Own vE) w w2/\(∀k,v'.ownBlock=some k->vE.ownBlock=some k\/w.heap.size<=k)/\w'=w2.setCell ⟨m,4,none⟩ v'):=by
 have HF:=ai (ajA w m nm c1 c2 _ vE ks rb key hB hS (by omega) hs hk hy);have hfl:=ajw ks key;rw[hf]at HF;obtain⟨oE,cE,hvE,_⟩:=hS.view;subst hvE;have hmE:¬Own (.slice oE ks.length cE) m:=λe=>by exact absurd ((hS.ty e).one hB.ty) (by decide)
 have HX:af (∀w',aa ae w w'->w'.cell? ⟨m,4,none⟩=some (.slice oE ks.length cE)/\w'.cell? ⟨m,3,none⟩=some (.int .i64 most)):=λw' m'=>⟨(hB.ag m' id).cell 4,(hB.ag m' id).cell 3⟩
 by_cases hm:ks.length=most
 ·subst hm;have hd:decide (ks.length≠ks.length)=false:=by simp
  rw[hd];clear hB hS hs hk hy hin hv hvl hf hmE;generalize strOf val=sv at *;generalize strOf key=sk at *;generalize Cb ks key=f at *;go_enter func334,ntmps334;go_wp2_with fail;refine HF.o.mono ?_;rintro e w2 ⟨rfl,m2⟩;have dD:=ai m2.drew;clear m2 HF;go_upto_region 5 with fail;refine l9 (by kernel_rfl) (by kernel_rfl) ?_;intro W hW;rw[<-hW]at dD;clear hW;obtain⟨y0,y1⟩:=HX.o W dD.o;clear HX
  repeat(go_big_quiet_step (fail))
  refine wpQuiet_nil ?_;go_wp2_with fail;go_ret;exact⟨rfl,⟨λ_=>dD.o,λh=>absurd rfl h⟩⟩
 ·have hd:decide (ks.length≠most)=true:=by simpa using hm
  rw[hd];have HBY:af (∀w',∃cap W1,(convert 9 30 (.string (strOf val))).run prog w'=.ok (.slice (some ⟨w'.heap.size,0,none⟩) val.length cap) W1/\aa ae w' W1/\pH W1 (.slice (some ⟨w'.heap.size,0,none⟩) val.length cap) val.length val/\W1.heap.size=w'.heap.size+1):=λw'=>by have:=K6 w' (strOf val) (by rw[afq];exact hvl);rw[afq,ali val hv]at this;exact this
  have Rl:af (∀w' R vb,aa ae w w'->ak w' vb #[.string (strOf key),.pointer (some ⟨R,0,none⟩)] 148->w.heap.size<=vb->Calls prog 360 #[.slice oE ks.length cE,.int .i64 (Cb ks key),.slice (some ⟨vb,0,none⟩) 1 1] w' λe w''=>∃v',e=.returned v'/\Sl w'' 148 2 v' (ks.length+1) ((ks.take (Cb ks key)++(key,rb.length)::ks.drop (Cb ks key)).flatMap (meC (rb++[R])))/\aa (Own (.slice oE ks.length cE)) w' w''/\(∀k,v'.ownBlock=some k->(Value.slice oE ks.length cE).ownBlock=some k\/w'.heap.size<=k)):=λw' R vb m' hb hvb=>by
   have e1:(rb++[R]).getD rb.length 0=R:=by rw[dI,iN9 (Nat.lt_irrefl _),iP9 rfl]
   refine amz w' _ ks (rb++[R]) key (Cb ks key) rb.length vb hfl hl ?_ (by rw[e1];exact hb) (λe=>?_)
   ·rw[UR rb R ks hin];exact hS.ag m' (λ_ _ e=>e)
   ·have:=hS.lt vb e;omega
  have HBm:af (∀w',aa ae w w'->∀w'',aa (Own (.slice oE ks.length cE)) w' w''->ak w'' m #[nm,c1,c2,.int .i64 most,.slice oE ks.length cE] 85):=λw' m' w'' m2=>(hB.ag m' id).ag m2 hmE;have hEt:∀k,Own (.slice oE ks.length cE) k->k<w.heap.size:=λk e=>hS.lt k e;have HEt:=ai hEt;have hmn:¬((ks.length:Int)=(most:Int)):=by omega
  clear hB hS hs hk hy hin hv hvl hf hmE hEt;generalize strOf val=sv at *;generalize strOf key=sk at *;generalize Cb ks key=f at *;go_enter func334,ntmps334;go_wp2_with fail;refine HF.o.mono ?_;rintro e w2 ⟨rfl,m2⟩;have dD:=ai m2.drew;clear m2 HF;go_upto_region 5 with fail;refine l9 (by kernel_rfl) (by kernel_rfl) ?_;intro W hW;rw[<-hW]at dD;clear hW;obtain⟨y0,y1⟩:=HX.o W dD.o;clear HX
  repeat(go_big_quiet_step (fail))
  refine wpQuiet_nil ?_;obtain⟨cp,W1,hcv,m1,hby,hsz⟩:=HBY.o W;have HCV:=ai hcv;have dh:=ai (dD.o.trans m1);have HBy:=ai hby;have HSz:=ai hsz;have HLE:af (w.heap.size<=W.heap.size):=dD.o.size;have kE:af (ak (W1.alloc (.cells #[.slice (some ⟨W.heap.size,0,none⟩) val.length cp] 122)) W1.heap.size #[.slice (some ⟨W.heap.size,0,none⟩) val.length cp] 122):=ak.new _ _ _;clear hcv m1 hby hsz HBY;go_wp2_with (rw[HCV.o]);have dw:af (aa ae w ((W1.alloc (.cells #[.slice (some ⟨W.heap.size,0,none⟩) val.length cp] 122)).alloc (.cells #[.string sk,.pointer (some ⟨W1.heap.size,0,none⟩)] 148))):=(dh.o.alloc _).alloc _
  have HB3:af (ak ((W1.alloc (.cells #[.slice (some ⟨W.heap.size,0,none⟩) val.length cp] 122)).alloc (.cells #[.string sk,.pointer (some ⟨W1.heap.size,0,none⟩)] 148)) (W1.heap.size+1) #[.string sk,.pointer (some ⟨W1.heap.size,0,none⟩)] 148):=by
   have:=ak.new (W1.alloc (.cells #[.slice (some ⟨W.heap.size,0,none⟩) val.length cp] 122)) #[.string sk,.pointer (some ⟨W1.heap.size,0,none⟩)] 148
   rwa [World.size_alloc]at this
  have xX:af (ak ((W1.alloc (.cells #[.slice (some ⟨W.heap.size,0,none⟩) val.length cp] 122)).alloc (.cells #[.string sk,.pointer (some ⟨W1.heap.size,0,none⟩)] 148)) W1.heap.size #[.slice (some ⟨W.heap.size,0,none⟩) val.length cp] 122):=kE.o.alloc _;have HY3:af (pH ((W1.alloc (.cells #[.slice (some ⟨W.heap.size,0,none⟩) val.length cp] 122)).alloc (.cells #[.string sk,.pointer (some ⟨W1.heap.size,0,none⟩)] 148)) (.slice (some ⟨W.heap.size,0,none⟩) val.length cp) val.length val):=HBy.o.ag (((aa.refl ae W1).alloc _).alloc _) (λ_ _=>id);have Zd:af (w.heap.size<=W1.heap.size):=by have:=HLE.o;have:=HSz.o;unfold af;omega
  clear kE HBy dh HCV HSz dD;generalize(W1.alloc (.cells #[.slice (some ⟨W.heap.size,0,none⟩) val.length cp] 122)).alloc (.cells #[.string sk,.pointer (some ⟨W1.heap.size,0,none⟩)] 148)=W3 at *;generalize W1.heap.size=R at *;generalize W.heap.size=gb at *;refine(Rl.o W3 R (R+1) dw.o HB3.o (Nat.le_succ_of_le Zd.o)).mono ?_;rintro e w5 ⟨v',rfl,hS',m5,hv'⟩;obtain⟨o',cap',hvv,_⟩:=hS'.view;subst hvv;have hbm:=HBm.o W3 dw.o w5 m5;have z4:=hbm.cell 4;have zf:=hbm.frozen
  have nD:af (∃R gb cp v' w2,w.heap.size<=R/\w.heap.size<=gb/\ak w2 R #[.slice (some ⟨gb,0,none⟩) val.length cp] 122 /\
   pH w2 (.slice (some ⟨gb,0,none⟩) val.length cp) val.length val/\Sl w2 148 2 v' (ks.length+1) ((ks.take f++(key,rb.length)::ks.drop f).flatMap (meC (rb++[R])))/\aa (Own (.slice oE ks.length cE)) w w2/\(∀k,v'.ownBlock=some k->(Value.slice oE ks.length cE).ownBlock=some k\/w.heap.size<=k)/\w5.setCell ⟨m,4,none⟩ (.slice o' (ks.length+1) cap')=w2.setCell ⟨m,4,none⟩ v') :=
   ⟨R,gb,cp,_,w5,Zd.o,HLE.o,xX.o.ag m5 (λe=>by have:=HEt.o R e;have:=Zd.o;omega),HY3.o.ag m5 (λk hk e=>by cases hk;have:=HEt.o gb e;have:=HLE.o;omega),hS',(dw.o.mono (λ_ _ h=>h.elim)).trans m5,λk hk=>(hv' k hk).imp id (λh=>Nat.le_trans dw.o.size h),rfl⟩
  clear hS' m5 hv' hbm Rl HBm dw HB3 xX HY3 HEt;go_wp2_with fail;go_ret;exact⟨rfl,⟨λh=>absurd h hm,λ_=>nD.o⟩⟩
